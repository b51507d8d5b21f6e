import Derived.Test.YtbjcfkdnjaiclaaGreatB0
import Derived.Test.YtbjcfkdnjaiclaaGreatB24
/- Parts of the proof, in order. -/
set_option linter.unusedVariables false
set_option linter.unusedSimpArgs false
set_option maxHeartbeats 4000000
set_option maxRecDepth 100000
namespace Go.Proofs.YtbjcfkdnjaiclaaGreat
open Go.RowKit Go.Proofs.Tryz Go.World
section
theorem TreeAt.deeper {w:World}:∀d b t,TreeAt w d b t->TreeAt w (d+1) b t
 |0,_,_,h=>False.elim h
 |d+1,b,t,h=>by
  obtain⟨hl,rv,pv,h1,h2,ao,cap,hv,h3,h4,h5⟩:=h;refine⟨hl,rv,pv,h1,h2,ao,cap,hv,h3,h4,fun i hi=>?_⟩;obtain⟨g,o,p,ha,hg,hc,ht⟩:=h5 i hi;exact⟨g,o,p,ha,hg,hc,TreeAt.deeper d p _ ht⟩
theorem TreeAt.deep {w:World}{d e b:Nat}{t:Tr}(h:TreeAt w d b t)(he:d<=e):TreeAt w e b t:=by
 induction he with
 |refl=>exact h
 |step _ ih=>exact TreeAt.deeper _ _ _ ih
def TreeIn (X:Nat->Prop)(w:World)(d b:Nat)(t:Tr):Prop:=∀w2,Agree X w w2->TreeAt w2 d b t
section
variable {X Y:Nat->Prop} {w w2:World} {d e b:Nat} {t:Tr}
theorem TreeIn.at (h:TreeIn X w d b t):TreeAt w d b t:=h w (Agree.refl X w)
theorem TreeIn.go (h:TreeIn X w d b t)(a:Agree X w w2):TreeIn X w2 d b t:=fun w3 h3=>h w3 (a.trans h3)
theorem TreeIn.mono (h:TreeIn X w d b t)(hx:∀i,i<w.heap.size->X i->Y i):TreeIn Y w d b t:=fun w3 h3=>h w3 (h3.mono hx)
theorem TreeIn.deep (h:TreeIn X w d b t)(he:d<=e):TreeIn X w e b t:=fun w3 h3=>(h w3 h3).deep he
theorem TreeIn.step (h:TreeIn X w d b t)(a:Agree X w w2)(hx:∀i,i<w.heap.size->X i->Y i):TreeIn Y w2 d b t:=fun w3 h3=>h w3 ⟨h3.os.trans a.os,h3.output.trans a.output,Nat.le_trans a.size h3.size,fun i hi hxi=>(h3.block i (Nat.lt_of_lt_of_le hi a.size) (hx i hi hxi)).trans (a.block i hi hxi)⟩
theorem zJu {rv:Value}{ao:Option Addr}{cap:Nat}(hb:w.heap[b]? =some (.cells #[.int .i64 (t.kind:Int),rv,.bool t.set.others,.slice ao t.parts.length cap,.int .i64 (t.least:Int),.int .i64 (t.most:Int),.bool t.endless,.int .i64 (t.chars:Int)] 165))(hx:X b)(hr:RangesIn X w rv t.set.ranges)
  (h3:t.parts.length<=cap∧t.parts.length<=1000000000000∧t.least<=1000∧t.most<=1000) (h4:cap<=maxLen) (hp:∀i,i<t.parts.length->∃g o p,ao=some ⟨g,o,none⟩∧In w g∧X g∧w.cell? ⟨g,o+i,none⟩=some (.pointer (some ⟨p,0,none⟩))∧TreeIn X w d p (t.parts.getD i Tr.none)):TreeIn X w (d+1) b t:=fun w2 a=>by
 have hl:=(Array.getElem?_eq_some_iff.1 hb).1;refine⟨Nat.lt_of_lt_of_le hl a.size,rv,_,(a.block b hl hx).trans hb,hr w2 a,ao,cap,rfl,h3,h4,fun i hi=>?_⟩;obtain⟨g,o,p,ha,hg,hxg,hc,ht⟩:=hp i hi;exact⟨g,o,p,ha,Nat.lt_of_lt_of_le hg a.size,(cell?_of_block (a.block g hg hxg)).trans hc,ht w2 a⟩
theorem zGM {rv:Value}{t:Tr}(hb:w.heap[b]? =some (.cells #[.int .i64 (t.kind:Int),rv,.bool t.set.others,.slice none 0 0,.int .i64 (t.least:Int),.int .i64 (t.most:Int),.bool t.endless,.int .i64 (t.chars:Int)] 165))(hx:X b)(hr:RangesIn X w rv t.set.ranges)(h0:t.parts=[])(h3:t.least<=1000∧t.most<=1000):TreeIn X w (d+1) b t:=by
 have e:t.parts.length=0:=by rw[h0];rfl
 refine zJu (ao:=none) (cap:=0) (by rw[e];exact hb) hx hr ⟨by omega,by omega,h3.1,h3.2⟩ (by unfold maxLen;omega) fun i hi=>by omega
theorem zH1 (hb:w.heap[b]? =some (.cells #[.int .i64 0,.slice none 0 0,.bool false,.slice none 0 0,.int .i64 0,.int .i64 0,.bool false,.int .i64 0] 165))(hx:X b):TreeIn X w (d+1) b Tr.none:=zGM (t:=Tr.none) hb hx (zIL X w) rfl ⟨by decide,by decide⟩
end
def zGG (c:Cs):Tr:=⟨1,c,[],0,0,false,1⟩
def Tr.add (t u:Tr):Tr:={t with parts:=t.parts++[u],chars:=xJ (t.chars+u.chars)}
def Tr.plain (t:Tr):Tr:=if t.chars=0 then Tr.none else t
def xT (ps:List Nat):List Value:=ps.map fun p=>.pointer (some ⟨p,0,none⟩)
structure Tw (w:World)(Y:Nat->Prop)(H p d:Nat)(sv:Value)(ps:List Nat)(t:Tr):Prop where
 blk:w.heap[p]? =some (.cells #[.int .i64 (t.kind:Int),.slice none 0 0,.bool false,sv,.int .i64 (t.least:Int),.int .i64 (t.most:Int),.bool t.endless,.int .i64 (t.chars:Int)] 165)
 set:t.set=⟨[],false⟩
 own:w.ownsRow H 158 1 sv t.parts.length (xT ps)
 len:ps.length=t.parts.length
 parts:∀i,i<t.parts.length->TreeIn (fun j=>Y j∧j≠p∧some j≠sv.ownBlock) w d (ps.getD i 0) (t.parts.getD i Tr.none)
 pH:p<H
 lt:H<=w.heap.size
 small:t.parts.length<=10000000∧t.least<=1000∧t.most<=1000∧t.chars<=25
section
variable {w w2:World} {Y:Nat->Prop} {H p d e b:Nat} {sv:Value} {ps:List Nat} {t u:Tr}
theorem Tw.cells (h:Tw w Y H p d sv ps t):w.cell? ⟨p,3,none⟩=some sv∧w.cell? ⟨p,7,none⟩=some (.int .i64 (t.chars:Int))∧∀i,w.frozen? ⟨p,i,none⟩=false:=by
 refine⟨?_,?_,fun i=>?_⟩
 all_goals first|(unfold cell?;rw[h.blk];rfl)|(unfold frozen?;rw[h.blk];simp)
theorem Tw.deep (h:Tw w Y H p d sv ps t)(he:d<=e):Tw w Y H p e sv ps t:=⟨h.blk,h.set,h.own,h.len,fun i hi=>(h.parts i hi).deep he,h.pH,h.lt,h.small⟩
theorem Tw.keep (h:Tw w Y H p d sv ps t)(hk:Keep w.heap.size b w w2)(hb:b<H∨b=w.heap.size)(hbp:b≠p)(hY:b<w.heap.size->¬Y b):Tw w2 Y H p d sv ps t:=by
 have h1:=h.pH;have h2:=h.lt;refine⟨(hk.block p (by omega) (Ne.symm hbp)).trans h.blk,h.set,zD h.own fun g hg hgl _=>hk.block g hgl (by omega),h.len,fun i hi=>(h.parts i hi).go (hk.agree fun j hj hx=>⟨hj,fun e=>hY (by omega) (e ▸ hx.1)⟩),h1,Nat.le_trans h2 hk.size,h.small⟩
theorem Tw.in (h:Tw w Y H p d sv ps t)(hp:Y p)(hg:∀j,H<=j->Y j):TreeIn Y w (d+1) p t:=by
 obtain⟨ao,cap,hsv⟩:=zE h.own;subst hsv;have hbl:=h.blk;have hs1:t.set.ranges=[]:=by rw[h.set]
 have hs2:t.set.others=false:=by rw[h.set]
 obtain⟨k1,k2,k3,-⟩:=h.small;rcases h.own.2 with⟨hv,h0⟩|⟨g,cap2,cur,hv,hH,hh,h1,h2,h3,h4⟩
 ·injection hv with e1 e2 e3
  subst e1 e3;have e5:=List.length_eq_zero_iff.1 h0;refine zGM (rv:=.slice none 0 0) (by rw[hs2,<-h0];rw[h0] at hbl ⊢;exact hbl) hp (by rw[hs1];exact zIL Y w) e5 ⟨k2,k3⟩
 ·injection hv with e1 e2 e3
  subst e1 e3;refine zJu (rv:=.slice none 0 0) (by rw[hs2];exact hbl) hp (by rw[hs1];exact zIL Y w) ⟨h1,by omega,k2,k3⟩ h2 fun i hi=>?_;have hg2:=h.own.lt g rfl;refine⟨g,0,ps.getD i 0,rfl,hg2.2,hg g hH,?_,(h.parts i hi).mono fun j _ hx=>hx.1⟩;have hi2:i<ps.length:=by rw[h.len];exact hi
  have hc:=h.own.cells (g:=g) rfl i (.pointer (some ⟨ps.getD i 0,0,none⟩)) (by unfold xT;rw[List.getElem?_map,List.getElem?_eq_getElem hi2,List.getD_eq_getElem?_getD,List.getElem?_eq_getElem hi2];rfl);rw[Addr.add_lit] at hc;exact hc
theorem Tw.setChars (h:Tw w Y H p d sv ps t)(n:Nat)(hn:n<=25):Tw (w.setCell ⟨p,7,none⟩ (.int .i64 (n:Int))) Y H p d sv ps {t with chars:=n}:=by
 have hpH:=h.pH;refine⟨?_,h.set,zW h.own hpH,h.len,fun i hi=>(h.parts i hi).go ⟨rfl,rfl,by rw[zC];omega,fun j hj hx=>Below.heap_setCell _ _ _ _ hx.2.1⟩,hpH,by rw[zC];exact h.lt,⟨h.small.1,h.small.2.1,h.small.2.2.1,hn⟩⟩;simp[setCell,Array.getElem?_modify,h.blk]
theorem Tw.app {ob:Obj}{g cap m q:Nat}(h:Tw w Y H p d sv ps t)(hm:m=t.parts.length)(hml:m<10000000)(hu:TreeIn (fun j=>Y j∧j≠p∧some j≠sv.ownBlock) w d q u)(hown:w2.ownsRow H 158 1 (.slice (some ⟨g,0,none⟩) (m+1) cap) (m+1) (xT ps++[.pointer (some ⟨q,0,none⟩)]))(hg:(w.alloc ob).grownBy w2 sv.ownBlock)(hat:sv.ownBlock=some g∨w.heap.size<=g):
  Tw (w2.setCell ⟨p,3,none⟩ (.slice (some ⟨g,0,none⟩) (m+1) cap)) Y H p d (.slice (some ⟨g,0,none⟩) (m+1) cap) (ps++[q]) {t with parts:=t.parts++[u]}∧KeepO p sv (.slice (some ⟨g,0,none⟩) (m+1) cap) w (w2.setCell ⟨p,3,none⟩ (.slice (some ⟨g,0,none⟩) (m+1) cap)):=by
 subst hm;have hpH:=h.pH;have hlt:=h.lt;have hbl:∀j,j<H->w2.heap[j]? =w.heap[j]? :=fun j hj=>(hg.block j (by simp;omega) fun e=>by have:=(h.own.lt j e.symm).1;omega).trans (Below.heap_alloc _ _ _ (by omega));have hb:=(hbl p hpH).trans h.blk;have hsz:w.heap.size<=w2.heap.size:=Nat.le_trans (by simp) hg.size;have hKO:KeepO p sv (.slice (some ⟨g,0,none⟩) (t.parts.length+1) cap) w (w2.setCell ⟨p,3,none⟩ (.slice (some ⟨g,0,none⟩) (t.parts.length+1) cap)):=⟨hg.os,hg.output,by rw[zC];exact hsz,fun k h1 h2 h3=>⟨(Below.heap_setCell _ _ _ _ h2).trans ((hg.block k (by simp;omega) h3).trans (Below.heap_alloc _ _ _ h1)),fun e=>by
  have e2:k=g:=by simpa[Value.ownBlock] using e
  rcases hat with ha|ha
  ·exact h3 (by rw[ha,e2])
  ·omega⟩⟩
 have hst:∀q2 t2,TreeIn (fun j=>Y j∧j≠p∧some j≠sv.ownBlock) w d q2 t2->TreeIn (fun j=>Y j∧j≠p∧some j≠(Value.slice (some ⟨g,0,none⟩) (t.parts.length+1) cap).ownBlock) (w2.setCell ⟨p,3,none⟩ (.slice (some ⟨g,0,none⟩) (t.parts.length+1) cap)) d q2 t2:=fun q2 t2 h2=>h2.step ⟨hKO.os,hKO.output,hKO.size,fun i hi hx=>(hKO.block i hi hx.2.1 hx.2.2).1⟩ fun i hi hx=>⟨hx.1,hx.2.1,(hKO.block i hi hx.2.1 hx.2.2).2⟩
 refine⟨⟨?_,h.set,?_,?_,fun i hi=>?_,hpH,by rw[zC];omega,?_⟩,hKO⟩
 ·simp[setCell,Array.getElem?_modify,hb]
 ·have e1:({t with parts:=t.parts++[u]}:Tr).parts.length=t.parts.length+1:=by simp
  have e2:xT (ps++[q])=xT ps++[.pointer (some ⟨q,0,none⟩)]:=by simp[xT]
  rw[e1,e2];exact zW hown hpH
 ·simp[h.len]
 ·have hi2:i<t.parts.length+1:=by simpa using hi
  show TreeIn _ _ d ((ps++[q]).getD i 0) ((t.parts++[u]).getD i Tr.none);by_cases hi3:i<t.parts.length
  ·have e1:(ps++[q]).getD i 0=ps.getD i 0:=by rw[List.getD_eq_getElem?_getD,List.getD_eq_getElem?_getD,List.getElem?_append_left (by rw[h.len];exact hi3)]
   have e2:(t.parts++[u]).getD i Tr.none=t.parts.getD i Tr.none:=by rw[List.getD_eq_getElem?_getD,List.getD_eq_getElem?_getD,List.getElem?_append_left hi3]
   rw[e1,e2];exact hst _ _ (h.parts i hi3)
  ·have e:i=t.parts.length:=by omega
   subst e;have e1:(ps++[q]).getD t.parts.length 0=q:=by rw[<-h.len];simp
   have e2:(t.parts++[u]).getD t.parts.length Tr.none=u:=by simp
   rw[e1,e2];exact hst _ _ hu
 ·obtain⟨a,b,c,dd⟩:=h.small
  refine⟨?_,b,c,dd⟩;show(t.parts++[u]).length<=10000000;simp;omega
end
end
section
theorem zBG (a:UInt8):(⟨#[a]⟩:ByteArray).size=1:=rfl
def jA (s:ByteArray)(p:Nat):Option (Cs×Nat):=
 if byt s p=91 then zBY s p
 else if byt s p=92 then(if (zAJ s (p+1)).ok then some (zHO (zAJ s (p+1)).num,(zAJ s (p+1)).at_) else none)
 else if byt s p=46 then some (zMX,p+1)
 else if zAG (byt s p) then some (zHO (byt s p:Nat),p+1) else none
structure Tm where
 least:Nat
 most:Nat
 endless:Bool
def Tm.copies (o:Tm):Nat:=if o.endless then(if o.least=0 then 1 else o.least) else o.most
def zBa (s:ByteArray)(p:Nat):Option (Tm×Nat):=
 if xX (byt s (p+1)) then
  if zI s (p+2) ⟨#[125]⟩ then some (⟨byt s (p+1)-48,byt s (p+1)-48,false⟩,p+3)
  else if zI s (p+2) ⟨#[44]⟩ then
   if zI s (p+3) ⟨#[125]⟩ then some (⟨byt s (p+1)-48,0,true⟩,p+4)
   else if xX (byt s (p+3))&&decide (byt s (p+1)<=byt s (p+3)) then(if zI s (p+4) ⟨#[125]⟩ then some (⟨byt s (p+1)-48,byt s (p+3)-48,false⟩,p+5) else none)
   else none
  else none
 else none
def zDJ (s:ByteArray)(p:Nat):Option (Tm×Nat):=if zI s p ⟨#[42]⟩ then some (⟨0,0,true⟩,p+1) else if zI s p ⟨#[43]⟩ then some (⟨1,0,true⟩,p+1) else if zI s p ⟨#[63]⟩ then some (⟨0,1,false⟩,p+1) else zBa s p
def braced (n:ByteArray):ByteArray:=⟨#[123]⟩++n++⟨#[125]⟩
def zCm (s:ByteArray)(p:Nat):List (ByteArray×Tr)->Option (Tr×Nat)
 |[]=>none
 |d::ds=>if zI s p (braced d.1) then some (d.2,p+(braced d.1).size) else zCm s p ds
abbrev Reads:=Nat->Bool->Option (Tr×Nat)
def brM (s:ByteArray)(k:Nat)(sub:Reads)(p:Nat)(both:Bool):Option (Tr×Nat):=
 if k=0 then none else if zI s p ⟨#[40,41]⟩ then some (Tr.none,p+2) else
 match sub (if zI s p ⟨#[40,105,58]⟩ then p+3 else p+1) (zI s p ⟨#[40,105,58]⟩||both) with
 |none=>none
 |some (t,q)=>if zI s q ⟨#[41]⟩ then some (t,q+1) else none
def zJI (both:Bool)(c:Cs):Cs:=if both then⟨qA c.ranges,c.others⟩ else c
def zDi (s:ByteArray)(defs:List (ByteArray×Tr))(k:Nat)(sub:Reads)(p:Nat)(both:Bool):Option (Tr×Nat):=if byt s p=40 then brM s k sub p both else if byt s p=123 then zCm s p defs else(jA s p).map fun c=>(zGG (zJI both c.1),c.2)
def zBs (t:Tr)(o:Tm):Tr:=Tr.plain ⟨4,⟨[],false⟩,[t],o.least,o.most,o.endless,xJ (t.chars*o.copies)⟩
def zBe (s:ByteArray):Nat->Nat->Tr->Option (Tr×Nat)
 |0,_,_=>none
 |f+1,p,t=>if zAP s p then(match zDJ s p with
  |none=>none
  |some (o,q)=>zBe s f q (zBs t o)) else some (t,p)
def zDq (s:ByteArray)(defs:List (ByteArray×Tr))(k:Nat)(sub:Reads)(p:Nat)(both:Bool):Option (Tr×Nat):=
 match zDi s defs k sub p both with
 |none=>none
 |some (t,q)=>zBe s (s.size+1) q t
def zBu (s:ByteArray)(thing:Nat->Option (Tr×Nat)):Nat->Nat->Tr->Option (Tr×Nat)
 |0,_,_=>none
 |f+1,p,t=>match thing p with
  |none=>none
  |some (u,q)=>if zBz s q then some ((t.add u).plain,q) else zBu s thing f q (t.add u)
def zC5 (kind:Nat):Tr:=⟨kind,⟨[],false⟩,[],0,0,false,0⟩
def zNc (s:ByteArray)(defs:List (ByteArray×Tr))(k:Nat)(sub:Reads)(p:Nat)(both:Bool):Option (Tr×Nat):=zBu s (fun q=>zDq s defs k sub q both) (s.size+1) p (zC5 2)
def zAh (s:ByteArray)(row:Nat->Option (Tr×Nat)):Nat->Nat->Tr->Option (Tr×Nat)
 |0,_,_=>none
 |f+1,p,t=>match row p with
  |none=>none
  |some (u,q)=>if zI s q ⟨#[124]⟩ then zAh s row f (q+1) (t.add u) else some ((t.add u).plain,q)
def zLy (s:ByteArray)(defs:List (ByteArray×Tr))(k:Nat)(sub:Reads)(p:Nat)(both:Bool):Option (Tr×Nat):=zAh s (fun q=>zNc s defs k sub q both) (s.size+1) p (zC5 3)
def zBp (s:ByteArray)(defs:List (ByteArray×Tr)):Nat->Reads
 |0=>zLy s defs 0 fun _ _=>none
 |k+1=>zLy s defs (k+1) (zBp s defs k)
def vG (s:ByteArray)(defs:List (ByteArray×Tr)):Option Tr:=
 match zBp s defs 8 0 false with
 |none=>none
 |some (t,q)=>if q=s.size then some t else none
theorem zDN (n:Nat):xJ n<=25:=by unfold xJ;split <;> omega
theorem zJc (a b:Nat):xJ (xJ a+xJ b)=xJ (a+b):=by
 unfold xJ;by_cases h1:24<a <;> by_cases h2:24<b <;> by_cases h3:24<a+b <;> simp only[h1,h2,h3,if_true,if_false] <;> first|omega|(split <;> omega)
theorem zJb (a k:Nat):xJ (xJ a*k)=xJ (a*k):=by
 rcases Nat.eq_zero_or_pos k with h|h
 ·subst h;rfl
 ·unfold xJ
  by_cases h1:24<a
  ·have h2:=Nat.mul_le_mul_left a h
   have h3:=Nat.mul_le_mul_left 25 h;rw[if_pos h1,if_pos (by omega),if_pos (by omega)]
  ·rw[if_neg h1]
theorem zH4 (f g:Tr->Nat)(parts:List Tr)(h:∀u∈parts,f u=g u)(j:Nat)(hj:j<=parts.length):zV f parts j=zV g parts j:=by
 induction j with
 |zero=>rfl
 |succ j ih=>
  show zV f parts j+f (parts.getD j Tr.none)=zV g parts j+g (parts.getD j Tr.none);have hm:parts.getD j Tr.none∈parts:=by
   rw[List.getD_eq_getElem?_getD,List.getElem?_eq_getElem (by omega:j<parts.length)];exact List.getElem_mem _
  rw[ih (by omega),h _ hm]
theorem zKK (f:Tr->Nat)(parts:List Tr)(u:Tr)(j:Nat)(hj:j<=parts.length):zV f (parts++[u]) j=zV f parts j:=by
 induction j with
 |zero=>rfl
 |succ j ih=>
  show zV f (parts++[u]) j+f ((parts++[u]).getD j Tr.none)=zV f parts j+f (parts.getD j Tr.none);rw[ih (by omega),List.getD_eq_getElem?_getD,List.getD_eq_getElem?_getD,List.getElem?_append_left (by omega)]
def zKU (c:Cs):Prop:=c.ranges.length<=10000000∧∀r∈c.ranges,-100<=r.1∧r.1<=20000000∧-100<=r.2∧r.2<=20000000
def TrOk:Nat->Tr->Prop
 |0,_=>False
 |d+1,t=>zKU t.set∧(∀u∈t.parts,TrOk d u)∧t.chars=xJ (yN (d+1) t)
theorem zGg:∀d t,TrOk d t->yN (d+1) t=yN d t
 |0,_,h=>False.elim h
 |d+1,t,h=>by
  have e:=zH4 _ _ _ (fun u hu=>zGg d u (h.2.1 u hu)) _ (Nat.le_refl _);show(if t.kind=1 then 1 else if t.kind=2∨t.kind=3 then zV (yN (d+1)) t.parts t.parts.length else if t.kind=4 then t.copies*zV (yN (d+1)) t.parts t.parts.length else 0)=(if t.kind=1 then 1 else if t.kind=2∨t.kind=3 then zV (yN d) t.parts t.parts.length else if t.kind=4 then t.copies*zV (yN d) t.parts t.parts.length else 0);rw[e]
theorem TrOk.deeper:∀d t,TrOk d t->TrOk (d+1) t
 |0,_,h=>False.elim h
 |d+1,t,h=>⟨h.1,fun u hu=>TrOk.deeper d u (h.2.1 u hu),by rw[zGg (d+1) t h];exact h.2.2⟩
theorem TrOk.deep {d e:Nat}{t:Tr}(h:TrOk d t)(he:d<=e):TrOk e t:=by
 induction he with
 |refl=>exact h
 |step _ ih=>exact TrOk.deeper _ _ ih
theorem TrOk.few {d:Nat}{t:Tr}(h:TrOk d t):t.chars<=25:=by
 cases d with
 |zero=>exact False.elim h
 |succ d=>rw[h.2.2];exact zDN _
theorem TrOk.chars {d:Nat}{t:Tr}(h:TrOk d t):t.chars=xJ (yN d t):=by
 cases d with
 |zero=>exact False.elim h
 |succ d=>exact h.2.2
theorem zEY (o:Bool):zKU ⟨[],o⟩:=⟨by show 0<=_;omega,fun r hr=>by cases hr⟩
theorem zJt (d:Nat):TrOk (d+1) Tr.none:=⟨zEY false,fun u hu=>(by cases hu),rfl⟩
theorem zMO (d:Nat)(c:Cs)(h:zKU c):TrOk (d+1) (zGG c):=⟨h,fun u hu=>(by cases hu),rfl⟩
theorem zEV {d:Nat}{t:Tr}(h:TrOk d t):TrOk d t.plain:=by
 cases d with
 |zero=>exact False.elim h
 |succ d=>
  unfold Tr.plain;split
  ·exact zJt d
  ·exact h
theorem zIh {d:Nat}{t:Tr}(o:Tm)(h:TrOk d t):TrOk (d+1) (zBs t o):=by
 refine zEV ⟨zEY false,fun u hu=>?_,?_⟩
 ·rw[List.mem_singleton.1 hu];exact h
 ·show xJ (t.chars*o.copies)=xJ (o.copies*(0+yN d t))
  rw[h.chars,zJb,Nat.zero_add,Nat.mul_comm]
theorem zGH (d k:Nat)(hk:k=2∨k=3):TrOk (d+1) (zC5 k):=by
 refine⟨zEY false,fun u hu=>(by cases hu),?_⟩;rcases hk with e|e <;> subst e <;> rfl
theorem zG3 {d:Nat}{t u:Tr}(h:TrOk (d+1) t)(hk:t.kind=2∨t.kind=3)(hu:TrOk d u):TrOk (d+1) (t.add u):=by
 refine⟨h.1,fun v hv=>?_,?_⟩
 ·rcases List.mem_append.1 hv with h1|h1
  ·exact h.2.1 v h1
  ·rw[List.mem_singleton.1 h1];exact hu
 ·have h1:t.kind≠1:=by omega
  have e1:yN (d+1) t=zV (yN d) t.parts t.parts.length:=by
   show(if t.kind=1 then _ else if t.kind=2∨t.kind=3 then _ else _)=_;rw[if_neg h1,if_pos hk]
  have e2:yN (d+1) (t.add u)=zV (yN d) (t.parts++[u]) (t.parts++[u]).length:=by
   show(if t.kind=1 then _ else if t.kind=2∨t.kind=3 then _ else _)=_;rw[if_neg h1,if_pos hk];rfl
  have e3:(t.parts++[u]).length=t.parts.length+1:=by simp
  have e4:(t.parts++[u]).getD t.parts.length Tr.none=u:=by simp
  show xJ (t.chars+u.chars)=xJ (yN (d+1) (t.add u));rw[e2,e3];show _=xJ (zV (yN d) (t.parts++[u]) t.parts.length+yN d ((t.parts++[u]).getD t.parts.length Tr.none));rw[e4,zKK _ _ _ _ (Nat.le_refl _),h.2.2,hu.chars,zJc,e1]
theorem zDl {t u:Tr}(hk:t.kind=2∨t.kind=3):(t.add u).kind=2∨(t.add u).kind=3:=hk
theorem zFk (s:ByteArray):∀f p l l' q,zAT s f p l=some (l',q)->(∀r∈l,-100<=r.1∧r.1<=20000000∧-100<=r.2∧r.2<=20000000)->p<q∧q<=s.size∧l'.length<=l.length+(q-p)∧∀r∈l',-100<=r.1∧r.1<=20000000∧-100<=r.2∧r.2<=20000000
 |0,_,_,_,_,h,_=>by cases h
 |f+1,p,l,l',q,h,hl=>by
  obtain⟨m1,m2,m3,m4,m5,m6⟩:=zJv s p;have hl2:∀r∈l++[((yE s p).low,(yE s p).high)],-100<=r.1∧r.1<=20000000∧-100<=r.2∧r.2<=20000000:=fun r hr=>by
   rcases List.mem_append.1 hr with h1|h1
   ·exact hl r h1
   ·rw[List.mem_singleton.1 h1]
    show -100<=(yE s p).low∧(yE s p).low<=20000000∧-100<=(yE s p).high∧(yE s p).high<=20000000;omega
  have h2:(if (yE s p).ok then(if zI s (yE s p).at_ ⟨#[93]⟩ then some (l++[((yE s p).low,(yE s p).high)],(yE s p).at_+1) else zAT s f (yE s p).at_ (l++[((yE s p).low,(yE s p).high)])) else none)=some (l',q):=h;by_cases hk:(yE s p).ok=true
  ·rw[if_pos hk] at h2
   have m7:=m2 hk;by_cases ht:zI s (yE s p).at_ ⟨#[93]⟩=true
   ·rw[if_pos ht] at h2
    have e:=Option.some.inj h2;have e1:l++[((yE s p).low,(yE s p).high)]=l':=congrArg Prod.fst e;have e2:(yE s p).at_+1=q:=congrArg Prod.snd e;have h5:=qU ht;rw[zBG] at h5;refine⟨by omega,by omega,?_,by rw[<-e1];exact hl2⟩;rw[<-e1,List.length_append];show l.length+1<=_;omega
   ·rw[if_neg ht] at h2
    obtain⟨a,b,c,dd⟩:=zFk s f _ _ l' q h2 hl2;refine⟨by omega,b,?_,dd⟩;rw[List.length_append] at c;have e9:[((yE s p).low,(yE s p).high)].length=1:=rfl;omega
  ·rw[if_neg hk] at h2
   cases h2
theorem zLb (n:Int)(h:0<=n∧n<=16777216):zKU (zHO n):=⟨by show 1<=_;omega,fun r hr=>by rw[List.mem_singleton.1 hr];show -100<=n∧n<=20000000∧-100<=n∧n<=20000000;omega⟩
def zLN (c:Cs):Prop:=c.ranges.length<=3000000∧∀r∈c.ranges,-100<=r.1∧r.1<=20000000∧-100<=r.2∧r.2<=20000000
theorem zCW (s:ByteArray)(hs:s.size<=1048576)(p:Nat)(c:Cs)(q:Nat)(h:jA s p=some (c,q)):p<q∧q<=s.size∧zLN c:=by
 have one1:∀n:Int,0<=n∧n<=16777216->zLN (zHO n):=fun n hn=>⟨by show 1<=_;omega,(zLb n hn).2⟩
 have hb:=zAi s p;unfold jA at h;split at h
 ·unfold zBY at h
  cases hg:zAT s (s.size+1) (if zI s (p+1) ⟨#[94]⟩ then p+2 else p+1) [] with
  |none=>rw[hg] at h;cases h
  |some g=>
   obtain⟨l',q'⟩:=g;rw[hg] at h;have e:=Option.some.inj h;have e1:(⟨l',zI s (p+1) ⟨#[94]⟩⟩:Cs)=c:=congrArg Prod.fst e;have e2:q'=q:=congrArg Prod.snd e;obtain⟨a,b,cc,dd⟩:=zFk s _ _ _ l' q' hg (fun r hr=>by cases hr);have e0:([]:List (Int×Int)).length=0:=rfl;have a2:p+1<=(if zI s (p+1) ⟨#[94]⟩ then p+2 else p+1):=by split <;> omega
   refine⟨by omega,by omega,?_⟩;rw[<-e1];exact⟨by show l'.length<=_;omega,dd⟩
 split at h
 ·obtain⟨a,b,cc,dd⟩:=zJG s (p+1)
  split at h
  ·rename_i hk
   have e:=Option.some.inj h;have e1:zHO (zAJ s (p+1)).num=c:=congrArg Prod.fst e;have e2:(zAJ s (p+1)).at_=q:=congrArg Prod.snd e;have:=b hk;exact⟨by omega,by omega,by rw[<-e1];exact one1 _ ⟨cc,dd⟩⟩
  ·cases h
 split at h
 ·rename_i e46
  have hin:p<s.size:=zBZ (by omega);have e:=Option.some.inj h;have e1:zMX=c:=congrArg Prod.fst e;have e2:p+1=q:=congrArg Prod.snd e;refine⟨by omega,by omega,?_⟩;rw[<-e1];exact⟨by show 1<=_;omega,fun r hr=>by rw[List.mem_singleton.1 hr];decide⟩
 split at h
 ·rename_i hk
  have hin:=zBZ fun e=>by rw[e] at hk;exact absurd hk (by decide)
  have e:=Option.some.inj h;have e1:zHO (byt s p:Nat)=c:=congrArg Prod.fst e;have e2:p+1=q:=congrArg Prod.snd e;exact⟨by omega,by omega,by rw[<-e1];exact one1 _ ⟨by omega,by omega⟩⟩
 ·cases h
theorem zHR (r:Int×Int)(first last far:Int)(hf:0<=first)(hl:last<=200)(hfa:-100<=far∧far<=100):∀x∈yS r first last far,-100<=x.1∧x.1<=20000000∧-100<=x.2∧x.2<=20000000:=fun x hx=>by
 unfold yS at hx;by_cases hle:(if first<r.1 then r.1 else first)<=(if r.2<last then r.2 else last)
 ·rw[if_pos hle] at hx
  rw[List.mem_singleton.1 hx];show -100<=(if first<r.1 then r.1 else first)+far∧(if first<r.1 then r.1 else first)+far<=20000000∧-100<=(if r.2<last then r.2 else last)+far∧(if r.2<last then r.2 else last)+far<=20000000;have h1:first<=(if first<r.1 then r.1 else first):=by split <;> omega
  have h2:(if r.2<last then r.2 else last)<=last:=by split <;> omega
  omega
 ·rw[if_neg hle] at hx
  cases hx
theorem zLC (both:Bool)(c:Cs)(h:zLN c):zKU (zJI both c):=by
 unfold zJI;split
 ·have hb:=zGi c.ranges
  refine⟨?_,fun x hx=>?_⟩
  ·show(qA c.ranges).length<=10000000
   have:=h.1;omega
  ·have hx2:=hx
   unfold qA at hx2;obtain⟨r,hr,hxr⟩:=List.mem_flatMap.1 hx2;unfold zH9 at hxr;rcases List.mem_cons.1 hxr with h1|h1
   ·rw[h1];exact h.2 r hr
   rcases List.mem_append.1 h1 with h2|h2
   ·exact zHR r 65 90 32 (by decide) (by decide) ⟨by decide,by decide⟩ x h2
   ·exact zHR r 97 122 (-32) (by decide) (by decide) ⟨by decide,by decide⟩ x h2
 ·exact⟨Nat.le_trans h.1 (by omega),h.2⟩
theorem zGQ (s:ByteArray)(p:Nat)(o:Tm)(q:Nat)(h:zDJ s p=some (o,q)):p<q∧q<=s.size∧o.least<=300∧o.most<=300:=by
 have fin:∀(o':Tm) (q' i:Nat) (x:UInt8),zI s i ⟨#[x]⟩=true->some (o',q')=some (o,q)->q'=i+1->p<=i->o'.least<=300->o'.most<=300->p<q∧q<=s.size∧o.least<=300∧o.most<=300:=fun o' q' i x ht e hq hi h1 h2=>by
  have e:=Option.some.inj e;have e1:o'=o:=congrArg Prod.fst e;have e2:q'=q:=congrArg Prod.snd e;have h5:=qU ht;rw[zBG] at h5;subst e1 e2;exact⟨by omega,by omega,h1,h2⟩
 have hb1:=zAi s (p+1);have hb3:=zAi s (p+3);unfold zDJ at h;split at h
 ·rename_i ht;exact fin _ _ p _ ht h rfl (by omega) (by show 0<=300;omega) (by show 0<=300;omega)
 split at h
 ·rename_i ht;exact fin _ _ p _ ht h rfl (by omega) (by show 1<=300;omega) (by show 0<=300;omega)
 split at h
 ·rename_i ht;exact fin _ _ p _ ht h rfl (by omega) (by show 0<=300;omega) (by show 1<=300;omega)
 unfold zBa at h;split at h
 ·split at h
  ·rename_i ht;exact fin _ _ (p+2) _ ht h rfl (by omega) (by show byt s (p+1)-48<=300;omega) (by show byt s (p+1)-48<=300;omega)
  split at h
  ·split at h
   ·rename_i ht;exact fin _ _ (p+3) _ ht h rfl (by omega) (by show byt s (p+1)-48<=300;omega) (by show 0<=300;omega)
   split at h
   ·split at h
    ·rename_i ht;exact fin _ _ (p+4) _ ht h rfl (by omega) (by show byt s (p+1)-48<=300;omega) (by show byt s (p+3)-48<=300;omega)
    ·cases h
   ·cases h
  ·cases h
 ·cases h
theorem zEB (s:ByteArray)(D:Nat):∀f p t u q,zBe s f p t=some (u,q)->p<=s.size->TrOk (D+4*p) t->p<=q∧q<=s.size∧TrOk (D+4*q) u
 |0,_,_,_,_,h,_,_=>by cases h
 |f+1,p,t,u,q,h,hp,ht=>by
  have h2:(if zAP s p then(match zDJ s p with|none=>none|some (o,q)=>zBe s f q (zBs t o)) else some (t,p))=some (u,q):=h;split at h2
  ·cases hh:zDJ s p with
   |none=>rw[hh] at h2;cases h2
   |some g=>
    obtain⟨o,q1⟩:=g;rw[hh] at h2;obtain⟨a,b,-,-⟩:=zGQ s p o q1 hh;obtain⟨c,d,e⟩:=zEB s D f q1 (zBs t o) u q h2 b ((zIh o ht).deep (by omega));exact⟨by omega,d,e⟩
  ·have e:=Option.some.inj h2
   have e1:t=u:=congrArg Prod.fst e;have e2:p=q:=congrArg Prod.snd e;subst e1 e2;exact⟨Nat.le_refl _,hp,ht⟩
def zB4 (s:ByteArray)(D:Nat)(f:Nat->Option (Tr×Nat)):Prop:=∀p t q,f p=some (t,q)->p<q∧q<=s.size∧TrOk (D+4*q) t
theorem zHv (s:ByteArray)(D:Nat)(thing:Nat->Option (Tr×Nat))(ht:zB4 s D thing):∀f p t u q,zBu s thing f p t=some (u,q)->(t.kind=2∨t.kind=3)->TrOk (D+1+4*p) t->p<q∧q<=s.size∧TrOk (D+1+4*q) u
 |0,_,_,_,_,h,_,_=>by cases h
 |f+1,p,t,u,q,h,hk,hT=>by
  have h2:(match thing p with|none=>none|some (u,q)=>if zBz s q then some ((t.add u).plain,q) else zBu s thing f q (t.add u))=some (u,q):=h;cases hh:thing p with
  |none=>rw[hh] at h2;cases h2
  |some g=>
   obtain⟨v,q1⟩:=g;rw[hh] at h2;obtain⟨a,b,c⟩:=ht p v q1 hh;have hA:TrOk (D+1+4*q1) (t.add v):=by
    rw[show D+1+4*q1=D+4*q1+1 by omega];exact zG3 (hT.deep (by omega)) hk c
   have h3:(if zBz s q1 then some ((t.add v).plain,q1) else zBu s thing f q1 (t.add v))=some (u,q):=h2;split at h3
   ·have e:=Option.some.inj h3
    have e1:(t.add v).plain=u:=congrArg Prod.fst e;have e2:q1=q:=congrArg Prod.snd e;subst e1 e2;exact⟨a,b,zEV hA⟩
   ·obtain⟨c1,c2,c3⟩:=zHv s D thing ht f q1 (t.add v) u q h3 (zDl hk) hA
    exact⟨by omega,c2,c3⟩
theorem zGf (s:ByteArray)(D:Nat)(row:Nat->Option (Tr×Nat))(ht:zB4 s D row):∀f p t u q,zAh s row f p t=some (u,q)->(t.kind=2∨t.kind=3)->TrOk (D+1+4*p) t->p<q∧q<=s.size∧TrOk (D+1+4*q) u
 |0,_,_,_,_,h,_,_=>by cases h
 |f+1,p,t,u,q,h,hk,hT=>by
  have h2:(match row p with|none=>none|some (u,q)=>if zI s q ⟨#[124]⟩ then zAh s row f (q+1) (t.add u) else some ((t.add u).plain,q))=some (u,q):=h;cases hh:row p with
  |none=>rw[hh] at h2;cases h2
  |some g=>
   obtain⟨v,q1⟩:=g;rw[hh] at h2;obtain⟨a,b,c⟩:=ht p v q1 hh;have hA:TrOk (D+1+4*q1) (t.add v):=by
    rw[show D+1+4*q1=D+4*q1+1 by omega];exact zG3 (hT.deep (by omega)) hk c
   have h3:(if zI s q1 ⟨#[124]⟩ then zAh s row f (q1+1) (t.add v) else some ((t.add v).plain,q1))=some (u,q):=h2;split at h3
   ·obtain⟨c1,c2,c3⟩:=zGf s D row ht f (q1+1) (t.add v) u q h3 (zDl hk) (hA.deep (by omega))
    exact⟨by omega,c2,c3⟩
   ·have e:=Option.some.inj h3
    have e1:(t.add v).plain=u:=congrArg Prod.fst e;have e2:q1=q:=congrArg Prod.snd e;subst e1 e2;exact⟨a,b,zEV hA⟩
def zA0 (D:Nat)(defs:List (ByteArray×Tr)):Prop:=∀d∈defs,TrOk D d.2
theorem zB0 (n:ByteArray):(braced n).size=n.size+2:=by
 unfold braced;rw[ByteArray.size_append,ByteArray.size_append,zBG,zBG];omega
theorem zHQ (s:ByteArray)(D p:Nat):∀defs t q,zA0 D defs->zCm s p defs=some (t,q)->p<q∧q<=s.size∧TrOk D t
 |[],_,_,_,h=>by cases h
 |d::ds,t,q,hd,h=>by
  have h2:(if zI s p (braced d.1) then some (d.2,p+(braced d.1).size) else zCm s p ds)=some (t,q):=h;split at h2
  ·rename_i ht
   have e:=Option.some.inj h2;have e1:d.2=t:=congrArg Prod.fst e;have e2:p+(braced d.1).size=q:=congrArg Prod.snd e;have h5:=qU ht;have h6:=zB0 d.1;subst e1;exact⟨by omega,by omega,hd d List.mem_cons_self⟩
  ·exact zHQ s D p ds t q (fun x hx=>hd x (List.mem_cons_of_mem _ hx)) h2
section
variable {s:ByteArray} {D:Nat} {defs:List (ByteArray×Tr)} {k:Nat} {sub:Reads}
theorem zMZ (hsub:∀both,zB4 s (D+2) fun p=>sub p both)(both:Bool):zB4 s D fun p=>brM s k sub p both:=fun p t q h=>by
 have h2:brM s k sub p both=some (t,q):=h;unfold brM at h2;split at h2
 ·cases h2
 split at h2
 ·rename_i ht
  have h5:=qU ht;have e5:(⟨#[40,41]⟩:ByteArray).size=2:=rfl;have e:=Option.some.inj h2;have e1:Tr.none=t:=congrArg Prod.fst e;have e2:p+2=q:=congrArg Prod.snd e;subst e1 e2;exact⟨by omega,by omega,by rw[show D+4*(p+2)=D+4*p+7+1 by omega];exact zJt _⟩
 ·have hp:p+1<=(if zI s p ⟨#[40,105,58]⟩ then p+3 else p+1):=by split <;> omega
  generalize (if zI s p ⟨#[40,105,58]⟩ then p+3 else p+1)=p1 at *;generalize (zI s p ⟨#[40,105,58]⟩||both)=bb at *;cases hh:sub p1 bb with
  |none=>rw[hh] at h2;cases h2
  |some g=>
   obtain⟨v,q1⟩:=g;rw[hh] at h2;obtain⟨a,b,c⟩:=hsub bb p1 v q1 hh;have h3:(if zI s q1 ⟨#[41]⟩ then some (v,q1+1) else none)=some (t,q):=h2;split at h3
   ·rename_i ht
    have h5:=qU ht;rw[zBG] at h5;have e:=Option.some.inj h3;have e1:v=t:=congrArg Prod.fst e;have e2:q1+1=q:=congrArg Prod.snd e;subst e1 e2;exact⟨by omega,by omega,c.deep (by omega)⟩
   ·cases h3
theorem zFq (hs:s.size<=1048576)(hd:zA0 D defs)(hsub:∀both,zB4 s (D+2) fun p=>sub p both)(both:Bool):zB4 s D fun p=>zDi s defs k sub p both:=fun p t q h=>by
 have h2:zDi s defs k sub p both=some (t,q):=h;unfold zDi at h2;split at h2
 ·exact zMZ hsub both p t q h2
 split at h2
 ·obtain⟨a,b,c⟩:=zHQ s D p defs t q hd h2
  exact⟨a,b,c.deep (by omega)⟩
 ·cases hh:jA s p with
  |none=>rw[hh] at h2;cases h2
  |some g=>
   obtain⟨c,q1⟩:=g;rw[hh] at h2;have e:=Option.some.inj h2;have e1:zGG (zJI both c)=t:=congrArg Prod.fst e;have e2:q1=q:=congrArg Prod.snd e;obtain⟨a,b,cc⟩:=zCW s hs p c q1 hh;subst e1 e2;exact⟨a,b,by rw[show D+4*q1=D+4*q1-1+1 by omega];exact zMO _ _ (zLC both c cc)⟩
theorem zDp (hs:s.size<=1048576)(hd:zA0 D defs)(hsub:∀both,zB4 s (D+2) fun p=>sub p both)(both:Bool):zB4 s D fun p=>zDq s defs k sub p both:=fun p t q h=>by
 have h2:zDq s defs k sub p both=some (t,q):=h;unfold zDq at h2;cases hh:zDi s defs k sub p both with
 |none=>rw[hh] at h2;cases h2
 |some g=>
  obtain⟨v,q1⟩:=g;rw[hh] at h2;obtain⟨a,b,c⟩:=zFq hs hd hsub both p v q1 hh;obtain⟨a2,b2,c2⟩:=zEB s D _ q1 v t q h2 b c;exact⟨by omega,b2,c2⟩
theorem zGv (hs:s.size<=1048576)(hd:zA0 D defs)(hsub:∀both,zB4 s (D+2) fun p=>sub p both)(both:Bool):zB4 s (D+1) fun p=>zNc s defs k sub p both:=fun p t q h=>zHv s D _ (zDp hs hd hsub both) _ p (zC5 2) t q h (.inl rfl) (by rw[show D+1+4*p=D+4*p+1 by omega];exact zGH _ 2 (.inl rfl))
theorem zH3 (hs:s.size<=1048576)(hd:zA0 D defs)(hsub:∀both,zB4 s (D+2) fun p=>sub p both)(both:Bool):zB4 s (D+2) fun p=>zLy s defs k sub p both:=fun p t q h=>zGf s (D+1) _ (zGv hs hd hsub both) _ p (zC5 3) t q h (.inr rfl) (by rw[show D+1+1+4*p=D+4*p+1+1 by omega];exact zGH _ 3 (.inr rfl))
theorem jR (hs:s.size<=1048576)(hd:zA0 D defs):∀k both,zB4 s (D+2) fun p=>zBp s defs k p both
 |0,both=>zH3 hs hd (fun _ p t q h=>by cases h) both
 |k+1,both=>zH3 hs hd (jR hs hd k) both
end
end
end Go.Proofs.YtbjcfkdnjaiclaaGreat
