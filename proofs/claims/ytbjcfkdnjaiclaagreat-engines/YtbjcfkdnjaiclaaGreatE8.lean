import Derived.Deep.DrawnRows
import Derived.Deep.RegionLaw
import Derived.Test.YtbjcfkdnjaiclaaGreatE0
import Derived.Test.YtbjcfkdnjaiclaaGreatE7
/- Parts of the proof. -/
set_option linter.unusedVariables false
set_option linter.unusedSimpArgs false
set_option maxHeartbeats 4000000
set_option maxRecDepth 100000
namespace Go.Proofs.YtbjcfkdnjaiclaaGreat
open Go.RowKit Go.Proofs.Tryz Go.World
open Go.Value (int slice bool pointer string agg tuple)
open Go.IntKind (i64)
open Go.Ending (returned)
def zEl (c:Nat):Bool:=c==91||c==93||c==94||c==45|| !isPrintedB c
def xD (s:ByteArray)(p:Nat):Sg:=if byt s p=92 then zAG s (p+1) else if zEl (byt s p) then⟨0,false,p⟩ else⟨(byt s p:Nat),true,p+1⟩
theorem zCT (w:World)(b:Nat)(s:ByteArray)(dv:Value)(r:Rx)(h:RxAt w b s dv r)(hs:s.size<=1048576)(ha:r.at_<=1800000):
  Calls prog 219 #[pointer (some ⟨b,0,none⟩)] w fun e w'=>e=returned (tuple #[int i64 (xD s r.at_).num,bool (xD s r.at_).ok])∧RxAt w' b s dv {r with at_:=(xD s r.at_).at_}∧∀H,Keep H b w w':=by
 obtain⟨-,-,c2,-,-,cf⟩:=h.cells;have cf2:=cf 2;have HR:=vl h;have HP0:=vl <| qE w b s dv r h hs (by omega) 0 (by omega);have HES:=vl <| zBn w b s dv r h hs ha;have HV:Hid (xD s r.at_=if byt s r.at_=92 then zAG s (r.at_+1) else if zEl (byt s r.at_) then⟨0,false,r.at_⟩ else⟨(byt s r.at_:Nat),true,r.at_+1⟩):=rfl;have hlt:=zAm s r.at_;generalize byt s r.at_=c at *;generalize zAG s (r.at_+1)=es at *;generalize xD s r.at_=si at *;by_cases h1:c=92
 ·subst h1
  have HV2:Hid (si=es):=by show _=_;rw[HV.out,if_pos rfl]
  go_in;go_wp2_with (first|(go_at_call 200;refine HP0.out.mono ?_;rintro e w9 ⟨rfl,hw9⟩;have hw8:=hw9.symm;subst hw8)|(go_at_call 209;refine HES.out.mono ?_;rintro e w2 ⟨rfl,hR2,hk2⟩))
  refine bodyPost_ret (results_tmp2 rfl _ _ _) rfl ?_;exact⟨by rw[HV2.out];rfl,by rw[HV2.out];exact hR2,hk2⟩
 by_cases hq:c=91∨c=93∨c=94∨c=45
 ·rcases hq with rfl|rfl|rfl|rfl
  all_goals
   have HV2:Hid (si=⟨0,false,r.at_⟩):=by show _=_;rw[HV.out,if_neg (by decide),if_pos (by decide)]
   go_in;go_wp2_with (first|(go_at_call 200;refine HP0.out.mono ?_;rintro e w9 ⟨rfl,hw9⟩;have hw8:=hw9.symm;subst hw8))
   refine bodyPost_ret (results_tmp2 rfl _ _ _) rfl ?_;exact⟨by rw[HV2.out];rfl,by rw[HV2.out];exact HR.out,fun H=>Keep.refl _ _ _⟩
 have h91:c≠91:=by omega
 have h93:c≠93:=by omega
 have h94:c≠94:=by omega
 have h45:c≠45:=by omega
 have HPR0:Hid (∀w,Ca 218 #[int .u8 (c:Int)] w fun e w'=>e=returned (bool (isPrintedB c))∧w'=w):=fun w=>zBz w c;have HB:Hid (zEl c= !isPrintedB c):=by
  show _=_;unfold zEl;rw[show (c==91)=false by rw[hJ];exact h91,show(c==93)=false by rw[hJ];exact h93,show(c==94)=false by rw[hJ];exact h94,show(c==45)=false by rw[hJ];exact h45];rfl
 have e1:((c:Int)==92)=false:=by rw[hJ];omega
 have e2:((c:Int)==91)=false:=by rw[hJ];omega
 have e3:((c:Int)==93)=false:=by rw[hJ];omega
 have e4:((c:Int)==94)=false:=by rw[hJ];omega
 have e5:((c:Int)==45)=false:=by rw[hJ];omega
 cases hp:isPrintedB c with
 |false=>
  have HV2:Hid (si=⟨0,false,r.at_⟩):=by show _=_;rw[HV.out,if_neg h1,if_pos (by rw[HB.out,hp];rfl)]
  rw[hp] at HPR0;have HPR:=vl HPR0.out;go_in;go_wp2_with (first|(go_at_call 200;refine HP0.out.mono ?_;rintro e w9 ⟨rfl,hw9⟩;have hw8:=hw9.symm;subst hw8)|(go_at_call 218;refine(HPR.out _).mono ?_;rintro e w9 ⟨rfl,hw9⟩;have hw8:=hw9.symm;subst hw8))
  refine bodyPost_ret (results_tmp2 rfl _ _ _) rfl ?_;exact⟨by rw[HV2.out];rfl,by rw[HV2.out];exact HR.out,fun H=>Keep.refl _ _ _⟩
 |true=>
  have HV2:Hid (si=⟨(c:Nat),true,r.at_+1⟩):=by show _=_;rw[HV.out,if_neg h1,if_neg (by rw[HB.out,hp];decide)]
  rw[hp] at HPR0;have HPR:=vl HPR0.out;have HS:Hid (RxAt (w.setCell ⟨b,2,none⟩ (int i64 ((r.at_:Int)+1))) b s dv {r with at_:=r.at_+1}):=by
   have h5:=HR.out.setAt (r.at_+1);rw[show ((r.at_+1:Nat):Int)=(r.at_:Int)+1 by omega] at h5;exact h5
  go_in;go_wp2_with (first|(go_at_call 200;refine HP0.out.mono ?_;rintro e w9 ⟨rfl,hw9⟩;have hw8:=hw9.symm;subst hw8)|(go_at_call 218;refine(HPR.out _).mono ?_;rintro e w9 ⟨rfl,hw9⟩;have hw8:=hw9.symm;subst hw8))
  refine bodyPost_ret (results_tmp2 rfl _ _ _) rfl ?_;exact⟨by rw[HV2.out];first|rfl|(simp;done),by rw[HV2.out];exact HS.out,fun H=>Keep.set _ _ _⟩
structure Mb where
 low:Int
 high:Int
 ok:Bool
 at_:Nat
def toM (a e:Sg):Mb:=⟨a.num,e.num,e.ok&&decide (a.num<=e.num),e.at_⟩
def yG (s:ByteArray)(p:Nat):Mb:=if(xD s p).ok&&zJ s (xD s p).at_ ⟨#[45]⟩ then toM (xD s p) (xD s ((xD s p).at_+1)) else⟨(xD s p).num,(xD s p).num,(xD s p).ok,(xD s p).at_⟩
theorem zHT (w0 w:World)(b q:Nat)(s:ByteArray)(dv:Value)(r:Rx)(lo hi:Int)(hq:w0.heap.size=q)(h:RxAt w b s dv r)(hb:b≠q)(hB:∃x y,w.heap[q]? =some (.cells #[x,y] 255))(hk:Keep w0.heap.size b w0 w):
  ∃w2,w2=(w.setCell ⟨q,0,none⟩ (int i64 lo)).setCell ⟨q,1,none⟩ (int i64 hi)∧w2.cell? ⟨q,0,none⟩=some (int i64 lo)∧w2.cell? ⟨q,1,none⟩=some (int i64 hi)∧Hid (RxAt w2 b s dv r∧Keep w0.heap.size b w0 w2):=by
 obtain⟨x,y,hB⟩:=hB;have h2:((w.setCell ⟨q,0,none⟩ (int i64 lo)).setCell ⟨q,1,none⟩ (int i64 hi)).heap[q]? =some (.cells #[int i64 lo,int i64 hi] 255):=by
  simp[setCell,lU,hB]
 have hne:∀i,i≠q->((w.setCell ⟨q,0,none⟩ (int i64 lo)).setCell ⟨q,1,none⟩ (int i64 hi)).heap[i]? =w.heap[i]? :=fun i hi2=>by
  simp[setCell,lU,Ne.symm hi2]
 refine⟨_,rfl,?_,?_,RxAt.of_block h (hne b hb),hk.trans ⟨rfl,rfl,by simp[World.setCell],fun k h1 _=>hne k (by omega)⟩⟩
 ·unfold cell?;rw[h2];rfl
 ·unfold cell?;rw[h2];rfl
theorem zFr {w:World}{q:Nat}(h:∃x y,w.heap[q]? =some (.cells #[x,y] 255)):(∀i,w.frozen? ⟨q,i,none⟩=false)∧∃x y,w.cell? ⟨q,0,none⟩=some x∧w.cell? ⟨q,1,none⟩=some y:=by
 obtain⟨x,y,h⟩:=h;refine⟨fun i=>?_,x,y,?_,?_⟩
 all_goals first|(unfold cell?;rw[h];rfl)|(unfold frozen?;rw[h];simp)
theorem zGX (w:World)(b:Nat)(s:ByteArray)(dv:Value)(r:Rx)(h:RxAt w b s dv r)(hs:s.size<=1048576)(ha:r.at_<=1700000)(hp1:(xD s r.at_).at_<=1700000):
  Calls prog 215 #[pointer (some ⟨b,0,none⟩)] w fun e w'=>e=returned (tuple #[agg #[int i64 (yG s r.at_).low,int i64 (yG s r.at_).high],bool (yG s r.at_).ok])∧RxAt w' b s dv {r with at_:=(yG s r.at_).at_}∧Keep w.heap.size b w w':=by
 obtain⟨w0,hw0,hR0,hB0,J⟩:∃w0,w0=w.alloc (.cells #[int i64 0,int i64 0] 255)∧RxAt w0 b s dv r∧w0.heap[w.heap.size]? =some (.cells #[int i64 0,int i64 0] 255)∧Hid (Keep w.heap.size b w w0):=⟨_,rfl,RxAt.of_block h (lG _ _ _ h.lt),gU _ _,kZ _ _ lQ⟩
 have hbq:b≠w.heap.size:=kJ h.lt;have hq0:w.heap.size<w0.heap.size:=(kQ.1 hB0).1;have HBB:Hid (∀w9,(∀H,Keep H b w0 w9)->∃x y,w9.heap[w.heap.size]? =some (.cells #[x,y] 255)):=fun w9 hk=>⟨_,_,((hk w0.heap.size).block _ hq0 (Ne.symm hbq)).trans hB0⟩
 have HS1:=vl <| zCT w0 b s dv r hR0 hs (by omega);have HS2:=vl fun(w2:World) (h9:RxAt w2 b s dv {r with at_:=(xD s r.at_).at_+1})=>zCT w2 b s dv {r with at_:=(xD s r.at_).at_+1} h9 hs (by show(xD s r.at_).at_+1<=1800000;omega);have HV:Hid (yG s r.at_=if(xD s r.at_).ok&&zJ s (xD s r.at_).at_ ⟨#[45]⟩ then toM (xD s r.at_) (xD s ((xD s r.at_).at_+1)) else⟨(xD s r.at_).num,(xD s r.at_).num,(xD s r.at_).ok,(xD s r.at_).at_⟩):=rfl;have HST:=vl fun(w9:World) (r9:Rx) (lo hi:Int) (h9:RxAt w9 b s dv r9) (hk9:∀H,Keep H b w0 w9)=>zHT w w9 b w.heap.size s dv r9 lo hi rfl h9 hbq (HBB.out w9 hk9) (J.out.trans (hk9 _));go_in;apply wp_cut;intro K0 HK9;go_wp2;apply HK9.out;rw[<-hw0];clear hw0;generalize yG s r.at_=mm at *;generalize xD s ((xD s r.at_).at_+1)=s2 at *;generalize xD s r.at_=s1 at *;rcases h1:s1.ok with _|_;rotate_left;rcases h2:zJ s s1.at_ ⟨#[45]⟩ with _|_;rotate_left;rcases h3:s2.ok with _|_;rotate_left;rcases h4:decide (s1.num<=s2.num) with _|_
 all_goals
  rw[h1] at HS1 HV;clear h1
  try rw[h2] at HV
  try unfold toM at HV
  try rw[h3] at HS2 HV
  try clear h3
  try have h44:=of_decide_eq_true h4
  try have h44:s2.num<s1.num:=by have:=of_decide_eq_false h4;omega
  try rw[h4] at HV
  try clear h4
  go_wp2_with (((first|(go_at_call 219;first|(have m2:=mark1;refine(HS2.out v hR).mono ?_;rintro e v ⟨rfl,hR,hk2⟩;replace hk:=fun H=>(hk H).trans (hk2 H))|(refine HS1.out.mono ?_;rintro e v ⟨rfl,hR,hk⟩;have mark1:=trivial))|(go_at_call 189;(first|refine(zNO (by assumption) hR hk hs (by omega)).mono ?_|refine(zNN (by assumption) hR hk hs (by omega)).mono ?_);rintro e v ⟨rfl,hR,hk⟩)));obtain⟨hf,x0,x1,y0,y1⟩:=zFr (HBB.out v hk);have hf0:=hf 0;have hf1:=hf 1;clear hf)
  first
  |(obtain ⟨w9,hw9,z0,z1,HZ⟩:=HST.out v _ s1.num s1.num hR hk;rw[<-hw9];refine bodyPost_ret (v:=tuple #[agg #[int i64 s1.num,int i64 s1.num],bool false]) (by simp[results,results215,go_sem,z0,z1];done) rfl ?_;exact⟨by rw[HV.out];rfl,by rw[HV.out];exact HZ.out.1,HZ.out.2⟩)
  |(obtain ⟨w9,hw9,z0,z1,HZ⟩:=HST.out v _ s1.num s1.num hR hk;rw[<-hw9];refine bodyPost_ret (v:=tuple #[agg #[int i64 s1.num,int i64 s1.num],bool true]) (by simp[results,results215,go_sem,z0,z1];done) rfl ?_;exact⟨by rw[HV.out];rfl,by rw[HV.out];exact HZ.out.1,HZ.out.2⟩)
  |(obtain ⟨w9,hw9,z0,z1,HZ⟩:=HST.out v _ s1.num s2.num hR hk;rw[<-hw9];refine bodyPost_ret (v:=tuple #[agg #[int i64 s1.num,int i64 s2.num],bool false]) (by first|(simp [results,results215,go_sem,z0,z1];done)|(simp [results,results215,go_sem,z0,z1];omega)) rfl ?_;exact⟨by rw[HV.out];rfl,by rw[HV.out];exact HZ.out.1,HZ.out.2⟩)
  |(obtain ⟨w9,hw9,z0,z1,HZ⟩:=HST.out v _ s1.num s2.num hR hk;rw[<-hw9];refine bodyPost_ret (v:=tuple #[agg #[int i64 s1.num,int i64 s2.num],bool true]) (by first|(simp [results,results215,go_sem,z0,z1];done)|(simp [results,results215,go_sem,z0,z1];omega)) rfl ?_;exact⟨by rw[HV.out];rfl,by rw[HV.out];exact HZ.out.1,HZ.out.2⟩)
section
attribute [local go_sem ↓] Go.wp_at_zero Go.wp_at_succ
structure Agree (X:Nat->Prop)(w w2:World):Prop where
 os:w2.os=w.os
 output:w2.output=w.output
 size:w.heap.size<=w2.heap.size
 block:∀i,i<w.heap.size->X i->w2.heap[i]? =w.heap[i]?
theorem Agree.refl (X:Nat->Prop)(w:World):Agree X w w:=⟨rfl,rfl,lQ,fun _ _ _=>rfl⟩
theorem Agree.trans {X:Nat->Prop}{w w2 w3:World}(h:Agree X w w2)(k:Agree X w2 w3):Agree X w w3:=⟨k.os.trans h.os,k.output.trans h.output,lY h.size k.size,fun i hi hx=>(k.block i (lZ hi h.size) hx).trans (h.block i hi hx)⟩
theorem Agree.mono {X Y:Nat->Prop}{w w2:World}(h:Agree X w w2)(hx:∀i,i<w.heap.size->Y i->X i):Agree Y w w2:=⟨h.os,h.output,h.size,fun i hi hy=>h.block i hi (hx i hi hy)⟩
theorem Keep.agree {H b:Nat}{X:Nat->Prop}{w w2:World}(h:Keep H b w w2)(hx:∀i,i<w.heap.size->X i->i<H∧i≠b):Agree X w w2:=⟨h.os,h.output,h.size,fun i hi hxi=>h.block i (hx i hi hxi).1 (hx i hi hxi).2⟩
def RangesIn (X:Nat->Prop)(w:World)(v:Value)(l:List (Int×Int)):Prop:=∀w2,Agree X w w2->RangesAt w2 v l
theorem RangesIn.at {X:Nat->Prop}{w:World}{v:Value}{l:List (Int×Int)}(h:RangesIn X w v l):RangesAt w v l:=h w (Agree.refl X w)
theorem RangesIn.go {X:Nat->Prop}{w w2:World}{v:Value}{l:List (Int×Int)}(h:RangesIn X w v l)(a:Agree X w w2):RangesIn X w2 v l:=fun w3 h3=>h w3 (a.trans h3)
theorem RangesIn.mono {X Y:Nat->Prop}{w:World}{v:Value}{l:List (Int×Int)}(h:RangesIn X w v l)(hx:∀i,i<w.heap.size->X i->Y i):RangesIn Y w v l:=fun w3 h3=>h w3 (h3.mono hx)
theorem zGU {X:Nat->Prop}{w:World}{c:Int}{b:Nat}(h:w.heap[b]? =some (.cells #[int i64 c,int i64 c] 255))(hx:X b):RangesIn X w (slice (some ⟨b,0,none⟩) 1 1) [(c,c)]:=fun w2 a=>zKR w2 c b ((a.block b (kQ.1 h).1 hx).trans h)
theorem zJf (X:Nat->Prop)(w:World):RangesIn X w (slice none 0 0) []:=fun w2 _=>⟨none,0,rfl,lQ,by unfold maxLen;omega,fun i hi=>absurd hi (Nat.not_lt_zero _)⟩
def yU (ps:List (Int×Int)):List Value:=ps.flatMap fun p=>[int i64 p.1,int i64 p.2]
theorem zEV (ps:List (Int×Int))(x y:Int):yU (ps++[(x,y)])=yU ps++[int i64 x,int i64 y]:=by simp[yU]
theorem zCj (ps:List (Int×Int))(i:Nat)(hi:i<ps.length):(yU ps)[i*2]? =some (int i64 (ps.getD i (0,0)).1)∧(yU ps)[i*2+1]? =some (int i64 (ps.getD i (0,0)).2):=by
 induction ps generalizing i with
 |nil=>simp at hi
 |cons p ps ih=>
  cases i with
  |zero=>exact⟨rfl,rfl⟩
  |succ i=>
   have:=ih i (by simpa using hi);have e:yU (p::ps)=int i64 p.1::int i64 p.2::yU ps:=rfl;rw[e,show(i+1)*2=i*2+1+1 by omega];exact this
structure Rw (w:World)(H p:Nat)(sv:Value)(l:List (Int×Int))(o:Bool):Prop where
 blk:w.heap[p]? =some (.cells #[sv,bool o] 161)
 own:w.ownsRow H 255 2 sv l.length (yU l)
 pH:p<H
 lt:H<=w.heap.size
def zOj (w:World)(H p:Nat)(l:List (Int×Int))(o:Bool):Prop:=∃sv,Rw w H p sv l o
structure KeepO (p:Nat)(sv sv':Value)(w w':World):Prop where
 os:w'.os=w.os
 output:w'.output=w.output
 size:w.heap.size<=w'.heap.size
 block:∀k,k<w.heap.size->k≠p->some k≠sv.ownBlock->w'.heap[k]? =w.heap[k]?∧some k≠sv'.ownBlock
theorem KeepO.trans {p:Nat}{sv sv2 sv3:Value}{w w2 w3:World}(h:KeepO p sv sv2 w w2)(k:KeepO p sv2 sv3 w2 w3):KeepO p sv sv3 w w3:=⟨k.os.trans h.os,k.output.trans h.output,lY h.size k.size,fun i h1 h2 h3=>by
 obtain⟨a1,a2⟩:=h.block i h1 h2 h3;obtain⟨b1,b2⟩:=k.block i (lZ h1 h.size) h2 a2;exact⟨b1.trans a1,b2⟩⟩
theorem KeepO.of_keep {p:Nat}{sv:Value}{w w2:World}(h:Grew w w2):KeepO p sv sv w w2:=⟨h.os,h.output,h.size,fun k h1 _ h3=>⟨h.block k h1 (kJ h1),h3⟩⟩
theorem KeepO.keep {p H e z n:Nat}{sv sv':Value}{xs:List Value}{w w2:World}(h:KeepO p sv sv' w w2)(ho:w.ownsRow H e z sv n xs)(hH:H<=w.heap.size):Keep H p w w2:=⟨h.os,h.output,h.size,fun k h1 h2=>(h.block k (lZ h1 hH) h2 fun e=>absurd (ho.lt k e.symm).1 (Nat.not_le_of_lt h1)).1⟩
theorem zDD:(prog.info? 255).map (fun i=>(i.zero,i.size,i.bytes))=some (some (agg #[int i64 0,int i64 0]),2,16):=by kernel_rfl
section
variable {w w2:World} {H p b:Nat} {sv:Value} {l:List (Int×Int)} {o:Bool}
theorem Rw.cells (h:Rw w H p sv l o):w.cell? ⟨p,0,none⟩=some sv∧w.cell? ⟨p,1,none⟩=some (bool o)∧∀i,w.frozen? ⟨p,i,none⟩=false:=by
 refine⟨?_,?_,fun i=>?_⟩
 all_goals first|(unfold cell?;rw[h.blk];rfl)|(unfold frozen?;rw[h.blk];simp)
theorem Rw.keep (h:Rw w H p sv l o)(hk:Keep w.heap.size b w w2)(hb:b<H∨b=w.heap.size)(hbp:b≠p):Rw w2 H p sv l o:=by
 have h1:=h.pH;have h2:=h.lt;refine⟨(hk.block p (by omega) (Ne.symm hbp)).trans h.blk,zD h.own fun g hg hgl _=>hk.block g hgl (by omega),h1,lY h2 hk.size⟩
theorem Rw.in (h:Rw w H p sv l o):RangesIn (fun i=>H<=i) w sv l:=fun w3 a=>by
 rcases h.own.2 with⟨hv,h0⟩|⟨g,cap,cur,hv,hH,hh,h1,h2,h3,h4⟩
 ·exact⟨none,0,by rw[hv,h0],by omega,by unfold maxLen;omega,fun i hi=>by omega⟩
 ·have hg2:=h.own.lt g (by rw[hv];rfl)
  have hbb:=a.block g hg2.2 hg2.1;refine⟨some ⟨g,0,none⟩,cap,hv,h1,h2,fun i hi=>⟨g,0,rfl,lZ hg2.2 a.size,?_,?_⟩⟩
  ·have:=h.own.cells (g:=g) (by rw[hv];rfl) (i*2) _ (zCj l i hi).1
   rw[Addr.add_lit] at this;rw[Nat.zero_add] at this ⊢;exact(cell?_of_block hbb).trans this
  ·have:=h.own.cells (g:=g) (by rw[hv];rfl) (i*2+1) _ (zCj l i hi).2
   rw[Addr.add_lit] at this;rw[Nat.zero_add] at this ⊢;exact(cell?_of_block hbb).trans this
theorem Rw.app {ob:Obj}{g cap m:Nat}{x y:Int}(h:Rw w H p sv l o)(hm:m=l.length)(hown:w2.ownsRow H 255 2 (slice (some ⟨g,0,none⟩) (m+1) cap) (m+1) (yU l++[int i64 x,int i64 y]))(hg:(w.alloc ob).grownBy w2 sv.ownBlock)(hat:sv.ownBlock=some g∨w.heap.size<=g):
  Rw (w2.setCell ⟨p,0,none⟩ (slice (some ⟨g,0,none⟩) (m+1) cap)) H p (slice (some ⟨g,0,none⟩) (m+1) cap) (l++[(x,y)]) o∧KeepO p sv (slice (some ⟨g,0,none⟩) (m+1) cap) w (w2.setCell ⟨p,0,none⟩ (slice (some ⟨g,0,none⟩) (m+1) cap)):=by
 subst hm;have hpH:=h.pH;have hlt:=h.lt;have hbl:∀j,j<H->w2.heap[j]? =w.heap[j]? :=fun j hj=>(hg.block j (by simp;omega) fun e=>by have:=(h.own.lt j e.symm).1;omega).trans (lG _ _ _ (by omega));have hb:=(hbl p hpH).trans h.blk;have hsz:w.heap.size<=w2.heap.size:=lY (by simp) hg.size;refine⟨⟨?_,?_,hpH,by rw[zC];omega⟩,⟨hg.os,hg.output,by rw[zC];exact hsz,fun k h1 h2 h3=>⟨(lJ _ _ _ _ h2).trans ((hg.block k (by simp;omega) h3).trans (lG _ _ _ h1)),fun e=>by
  have e2:k=g:=by simpa[Value.ownBlock] using e
  rcases hat with ha|ha
  ·exact h3 (by rw[ha,e2])
  ·omega⟩⟩⟩
 ·simp[setCell,lU,hb]
 ·rw[zEV,show(l++[(x,y)]).length=l.length+1 by simp]
  exact zX hown hpH
end
def yT (r:Int×Int)(first last far:Int):List (Int×Int):=if(if first<r.1 then r.1 else first)<=(if r.2<last then r.2 else last) then[((if first<r.1 then r.1 else first)+far,(if r.2<last then r.2 else last)+far)] else[]
theorem zBX (w:World)(H p:Nat)(sv:Value)(l:List (Int×Int))(o:Bool)(h:Rw w H p sv l o)(hl:l.length<=1000000000)(lo hi first last far:Int)(hf:0<=first∧first<=1000)(hla:0<=last∧last<=1000)(hfar:-100<=far∧far<=100):
  Calls prog 213 #[pointer (some ⟨p,0,none⟩),agg #[int i64 lo,int i64 hi],int i64 first,int i64 last,int i64 far] w fun e w'=>e=returned (tuple #[])∧∃sv',Rw w' H p sv' (l++yT (lo,hi) first last far) o∧KeepO p sv sv' w w':=by
 obtain⟨i0,hi0,hz0,hz1,hz2⟩:=info_parts zDD;obtain⟨w1,hw1,HN1,y0,y1,HK1⟩:∃w1,w1=w.alloc (.cells #[int i64 lo,int i64 hi] 255)∧Hid (Rw w1 H p sv l o)∧w1.cell? ⟨w.heap.size,0,none⟩=some (int i64 lo)∧w1.cell? ⟨w.heap.size,1,none⟩=some (int i64 hi)∧Hid (KeepO p sv sv w w1):=by
  have hb:=gU w (.cells #[int i64 lo,int i64 hi] 255);have hlt:=h.lt;have hpH:=h.pH;refine⟨_,rfl,h.keep (kZ (b:=w.heap.size) _ _ lQ) (.inr rfl) (by omega),?_,?_,KeepO.of_keep (kZ _ _ lQ)⟩
  ·unfold cell?;rw[hb];rfl
  ·unfold cell?;rw[hb];rfl
 clear h;obtain⟨ff,hff⟩:∃ff,ff=(if first<lo then lo else first):=⟨_,rfl⟩
 obtain⟨ll,hll⟩:∃ll,ll=(if hi<last then hi else last):=⟨_,rfl⟩
 have HM:Hid (yT (lo,hi) first last far=if ff<=ll then[(ff+far,ll+far)] else[]):=by show _=_;unfold yT;rw[hff,hll]
 have hf2:first<=ff:=by rw[hff];split <;> omega
 have hl2:ll<=last:=by rw[hll];split <;> omega
 obtain⟨x0,-,xf⟩:=HN1.out.cells;have xf0:=xf 0;obtain⟨asv,csv,hsv⟩:=zG HN1.out.own;subst hsv;have OW:w1.ownsRow H 255 2 (slice asv l.length csv) l.length (yU l):=HN1.out.own;have hlt1:p<w1.heap.size:=lZ HN1.out.pH HN1.out.lt;have hH1:H<=w1.heap.size:=HN1.out.lt;have HNP:=vl <| zM HN1.out.own HN1.out.blk (by decide);clear xf;rcases Int.lt_or_le first lo with a1|a1 <;> rcases Int.lt_or_le hi last with a2|a2
 ·
  have e1:lo=ff:=by rw[hff];exact(if_pos a1).symm
  have e2:hi=ll:=by rw[hll];exact(if_pos a2).symm
  clear hff hll;subst e1 e2;by_cases a3:lo<=hi
  ·have HM2:Hid (yT (lo,hi) first last far=[(lo+far,hi+far)]):=by show _=_;rw[HM.out,if_pos a3]
   clear HM;go_in;apply wp_cut;intro K0 J;go_wp2;apply J.out;clear J;rw[<-hw1];clear hw1;go_wp2_with (first|(at_builtin;refine wpList_append_lies _ rfl _ _ 159 rfl (H) 255 i0 (agg #[int i64 0,int i64 0]) 2 16 underlying159 hi0 hz0 hz1 hz2 rfl (by decide) _ _ _ rfl (OW.alloc _) ⟨w1.heap.size,0,none⟩ 1 1 [int i64 (lo+far),int i64 (hi+far)] rfl rfl (news_of_block (cs:=#[int i64 (lo+far),int i64 (hi+far)]) (t:=255) (fr:=(0,0)) (gU w1 _)) (by simp[Value.oneCell']) (by decide) (by unfold maxLen;omega) (by omega) (by simp;omega) _ rfl ?_;intro gg cap w2 hown hgrow hat hlt;have hPB:=hgrow.block p (by simp;omega) HNP.out;have x0b:w2.cell? ⟨p,0,none⟩=some (slice asv l.length csv):=(cell?_of_block hPB).trans ((cell?_alloc_past _ _ _ hlt1).trans x0);have xf0b:w2.frozen? ⟨p,0,none⟩=false:=(frozen?_of_block hPB).trans ((frozen?_alloc_past _ _ _ hlt1).trans xf0)))
   obtain⟨w9,hw9,HN4⟩:∃w9,w9=w2.setCell ⟨p,0,none⟩ (slice (some ⟨gg,0,none⟩) (l.length+1) cap)∧Hid (∃sv',Rw w9 H p sv' (l++yT (lo,hi) first last far) o∧KeepO p (slice asv l.length csv) sv' w w9):=⟨_,rfl,_,by rw[HM2.out];exact(HN1.out.app rfl hown hgrow (by rcases hat with ha|ha;exact .inl ha;right;rw[ha];simp)).1,HK1.out.trans (HN1.out.app rfl hown hgrow (by rcases hat with ha|ha;exact .inl ha;right;rw[ha];simp)).2⟩
   rw[<-hw9];go_end0;exact⟨rfl,HN4.out⟩
  ·have a4:hi<lo:=by omega
   have HM2:Hid (yT (lo,hi) first last far=[]):=by show _=_;rw[HM.out,if_neg a3]
   clear HM;go_in;apply wp_cut;intro K0 J;go_wp2;apply J.out;clear J;rw[<-hw1];clear hw1;go_wp2;go_end0;exact⟨rfl,_,by rw[HM2.out,List.append_nil];exact HN1.out,HK1.out⟩
 ·
  have e1:lo=ff:=by rw[hff];exact(if_pos a1).symm
  have e2:last=ll:=by rw[hll];exact(if_neg (by omega)).symm
  clear hff hll;subst e1 e2;by_cases a3:lo<=last
  ·have HM2:Hid (yT (lo,hi) first last far=[(lo+far,last+far)]):=by show _=_;rw[HM.out,if_pos a3]
   clear HM;go_in;apply wp_cut;intro K0 J;go_wp2;apply J.out;clear J;rw[<-hw1];clear hw1;go_wp2_with (first|(at_builtin;refine wpList_append_lies _ rfl _ _ 159 rfl (H) 255 i0 (agg #[int i64 0,int i64 0]) 2 16 underlying159 hi0 hz0 hz1 hz2 rfl (by decide) _ _ _ rfl (OW.alloc _) ⟨w1.heap.size,0,none⟩ 1 1 [int i64 (lo+far),int i64 (last+far)] rfl rfl (news_of_block (cs:=#[int i64 (lo+far),int i64 (last+far)]) (t:=255) (fr:=(0,0)) (gU w1 _)) (by simp[Value.oneCell']) (by decide) (by unfold maxLen;omega) (by omega) (by simp;omega) _ rfl ?_;intro gg cap w2 hown hgrow hat hlt;have hPB:=hgrow.block p (by simp;omega) HNP.out;have x0b:w2.cell? ⟨p,0,none⟩=some (slice asv l.length csv):=(cell?_of_block hPB).trans ((cell?_alloc_past _ _ _ hlt1).trans x0);have xf0b:w2.frozen? ⟨p,0,none⟩=false:=(frozen?_of_block hPB).trans ((frozen?_alloc_past _ _ _ hlt1).trans xf0)))
   obtain⟨w9,hw9,HN4⟩:∃w9,w9=w2.setCell ⟨p,0,none⟩ (slice (some ⟨gg,0,none⟩) (l.length+1) cap)∧Hid (∃sv',Rw w9 H p sv' (l++yT (lo,hi) first last far) o∧KeepO p (slice asv l.length csv) sv' w w9):=⟨_,rfl,_,by rw[HM2.out];exact(HN1.out.app rfl hown hgrow (by rcases hat with ha|ha;exact .inl ha;right;rw[ha];simp)).1,HK1.out.trans (HN1.out.app rfl hown hgrow (by rcases hat with ha|ha;exact .inl ha;right;rw[ha];simp)).2⟩
   rw[<-hw9];go_end0;exact⟨rfl,HN4.out⟩
  ·have a4:last<lo:=by omega
   have HM2:Hid (yT (lo,hi) first last far=[]):=by show _=_;rw[HM.out,if_neg a3]
   clear HM;go_in;apply wp_cut;intro K0 J;go_wp2;apply J.out;clear J;rw[<-hw1];clear hw1;go_wp2;go_end0;exact⟨rfl,_,by rw[HM2.out,List.append_nil];exact HN1.out,HK1.out⟩
 ·
  have e1:first=ff:=by rw[hff];exact(if_neg (by omega)).symm
  have e2:hi=ll:=by rw[hll];exact(if_pos a2).symm
  clear hff hll;subst e1 e2;by_cases a3:first<=hi
  ·have HM2:Hid (yT (lo,hi) first last far=[(first+far,hi+far)]):=by show _=_;rw[HM.out,if_pos a3]
   clear HM;go_in;apply wp_cut;intro K0 J;go_wp2;apply J.out;clear J;rw[<-hw1];clear hw1;go_wp2_with (first|(at_builtin;refine wpList_append_lies _ rfl _ _ 159 rfl (H) 255 i0 (agg #[int i64 0,int i64 0]) 2 16 underlying159 hi0 hz0 hz1 hz2 rfl (by decide) _ _ _ rfl (OW.alloc _) ⟨w1.heap.size,0,none⟩ 1 1 [int i64 (first+far),int i64 (hi+far)] rfl rfl (news_of_block (cs:=#[int i64 (first+far),int i64 (hi+far)]) (t:=255) (fr:=(0,0)) (gU w1 _)) (by simp[Value.oneCell']) (by decide) (by unfold maxLen;omega) (by omega) (by simp;omega) _ rfl ?_;intro gg cap w2 hown hgrow hat hlt;have hPB:=hgrow.block p (by simp;omega) HNP.out;have x0b:w2.cell? ⟨p,0,none⟩=some (slice asv l.length csv):=(cell?_of_block hPB).trans ((cell?_alloc_past _ _ _ hlt1).trans x0);have xf0b:w2.frozen? ⟨p,0,none⟩=false:=(frozen?_of_block hPB).trans ((frozen?_alloc_past _ _ _ hlt1).trans xf0)))
   obtain⟨w9,hw9,HN4⟩:∃w9,w9=w2.setCell ⟨p,0,none⟩ (slice (some ⟨gg,0,none⟩) (l.length+1) cap)∧Hid (∃sv',Rw w9 H p sv' (l++yT (lo,hi) first last far) o∧KeepO p (slice asv l.length csv) sv' w w9):=⟨_,rfl,_,by rw[HM2.out];exact(HN1.out.app rfl hown hgrow (by rcases hat with ha|ha;exact .inl ha;right;rw[ha];simp)).1,HK1.out.trans (HN1.out.app rfl hown hgrow (by rcases hat with ha|ha;exact .inl ha;right;rw[ha];simp)).2⟩
   rw[<-hw9];go_end0;exact⟨rfl,HN4.out⟩
  ·have a4:hi<first:=by omega
   have HM2:Hid (yT (lo,hi) first last far=[]):=by show _=_;rw[HM.out,if_neg a3]
   clear HM;go_in;apply wp_cut;intro K0 J;go_wp2;apply J.out;clear J;rw[<-hw1];clear hw1;go_wp2;go_end0;exact⟨rfl,_,by rw[HM2.out,List.append_nil];exact HN1.out,HK1.out⟩
 ·
  have e1:first=ff:=by rw[hff];exact(if_neg (by omega)).symm
  have e2:last=ll:=by rw[hll];exact(if_neg (by omega)).symm
  clear hff hll;subst e1 e2;by_cases a3:first<=last
  ·have HM2:Hid (yT (lo,hi) first last far=[(first+far,last+far)]):=by show _=_;rw[HM.out,if_pos a3]
   clear HM;go_in;apply wp_cut;intro K0 J;go_wp2;apply J.out;clear J;rw[<-hw1];clear hw1;go_wp2_with (first|(at_builtin;refine wpList_append_lies _ rfl _ _ 159 rfl (H) 255 i0 (agg #[int i64 0,int i64 0]) 2 16 underlying159 hi0 hz0 hz1 hz2 rfl (by decide) _ _ _ rfl (OW.alloc _) ⟨w1.heap.size,0,none⟩ 1 1 [int i64 (first+far),int i64 (last+far)] rfl rfl (news_of_block (cs:=#[int i64 (first+far),int i64 (last+far)]) (t:=255) (fr:=(0,0)) (gU w1 _)) (by simp[Value.oneCell']) (by decide) (by unfold maxLen;omega) (by omega) (by simp;omega) _ rfl ?_;intro gg cap w2 hown hgrow hat hlt;have hPB:=hgrow.block p (by simp;omega) HNP.out;have x0b:w2.cell? ⟨p,0,none⟩=some (slice asv l.length csv):=(cell?_of_block hPB).trans ((cell?_alloc_past _ _ _ hlt1).trans x0);have xf0b:w2.frozen? ⟨p,0,none⟩=false:=(frozen?_of_block hPB).trans ((frozen?_alloc_past _ _ _ hlt1).trans xf0)))
   obtain⟨w9,hw9,HN4⟩:∃w9,w9=w2.setCell ⟨p,0,none⟩ (slice (some ⟨gg,0,none⟩) (l.length+1) cap)∧Hid (∃sv',Rw w9 H p sv' (l++yT (lo,hi) first last far) o∧KeepO p (slice asv l.length csv) sv' w w9):=⟨_,rfl,_,by rw[HM2.out];exact(HN1.out.app rfl hown hgrow (by rcases hat with ha|ha;exact .inl ha;right;rw[ha];simp)).1,HK1.out.trans (HN1.out.app rfl hown hgrow (by rcases hat with ha|ha;exact .inl ha;right;rw[ha];simp)).2⟩
   rw[<-hw9];go_end0;exact⟨rfl,HN4.out⟩
  ·have a4:last<first:=by omega
   have HM2:Hid (yT (lo,hi) first last far=[]):=by show _=_;rw[HM.out,if_neg a3]
   clear HM;go_in;apply wp_cut;intro K0 J;go_wp2;apply J.out;clear J;rw[<-hw1];clear hw1;go_wp2;go_end0;exact⟨rfl,_,by rw[HM2.out,List.append_nil];exact HN1.out,HK1.out⟩
end
def zIw (r:Int×Int):List (Int×Int):=r::(yT r 65 90 32++yT r 97 122 (-32))
def qB (l:List (Int×Int)):List (Int×Int):=l.flatMap zIw
theorem zDu (r:Int×Int)(a b c:Int):(yT r a b c).length<=1:=by
 have h:∀(p:Prop) [Decidable p] (x:Int×Int),(if p then[x] else[]).length<=1:=by intro p _ x;split <;> simp
 exact h _ _
theorem zGu (l:List (Int×Int)):(qB l).length<=3*l.length:=by
 induction l with
 |nil=>exact lX
 |cons r l ih=>
  have h1:=zDu r 65 90 32;have h2:=zDu r 97 122 (-32);have e:qB (r::l)=zIw r++qB l:=rfl;rw[e,kX];unfold zIw;simp only[gX,kX];omega
theorem zJK (l:List (Int×Int))(j:Nat)(hj:j<l.length):qB (l.take (j+1))=((qB (l.take j)++[l.getD j (0,0)])++yT (l.getD j (0,0)) 65 90 32)++yT (l.getD j (0,0)) 97 122 (-32):=by
 have e:l.take (j+1)=l.take j++[l.getD j (0,0)]:=by rw[List.take_add_one,lV hj,lW,lV hj];rfl
 rw[e];unfold qB;rw[List.flatMap_append];simp[zIw]
theorem zEi (w:World)(u:Value)(l:List (Int×Int))(o:Bool)(h:RangesAt w u l)(hl:l.length<=10000000):
  Calls prog 204 #[agg #[u,bool o]] w fun e w'=>∃u',e=returned (agg #[u',bool o])∧RangesIn (fun i=>w.heap.size<=i) w' u' (qB l)∧Grew w w':=by
 obtain⟨i0,hi0,hz0,hz1,hz2⟩:=info_parts zDD;obtain⟨ao,cap,rfl,_,_,hrc⟩:=h;have HRC:=vl hrc;obtain⟨w3,hw3,HN3,y0,y1,HB3,HK3⟩:∃w3,w3=((w.alloc (.cells #[slice ao l.length cap,bool o] 161)).alloc (.cells #[slice none 0 0,bool false] 161)).alloc (.cells #[slice none 0 0,bool o] 161)∧Hid (Rw w3 (w.heap.size+3) (w.heap.size+1+1) (slice none 0 0) [] o)∧w3.cell? ⟨w.heap.size,0,none⟩=some (slice ao l.length cap)∧w3.cell? ⟨w.heap.size,1,none⟩=some (bool o)∧Hid (w3.heap[w.heap.size+1]? =some (.cells #[slice none 0 0,bool false] 161))∧Hid (Grew w w3):=by
  have s1:(w.alloc (.cells #[slice ao l.length cap,bool o] 161)).heap.size=w.heap.size+1:=by simp
  have s2:((w.alloc (.cells #[slice ao l.length cap,bool o] 161)).alloc (.cells #[slice none 0 0,bool false] 161)).heap.size=w.heap.size+1+1:=by simp
  have b1:=gU w (.cells #[slice ao l.length cap,bool o] 161);have b2:=gU (w.alloc (.cells #[slice ao l.length cap,bool o] 161)) (.cells #[slice none 0 0,bool false] 161);rw[s1] at b2;have b3:=gU ((w.alloc (.cells #[slice ao l.length cap,bool o] 161)).alloc (.cells #[slice none 0 0,bool false] 161)) (.cells #[slice none 0 0,bool o] 161);rw[s2] at b3;have b1':=(lG ((w.alloc (.cells #[slice ao l.length cap,bool o] 161)).alloc (.cells #[slice none 0 0,bool false] 161)) (.cells #[slice none 0 0,bool o] 161) w.heap.size (by rw[s2];omega)).trans ((lG _ _ _ (by rw[s1];omega)).trans b1);have b2':=(lG ((w.alloc (.cells #[slice ao l.length cap,bool o] 161)).alloc (.cells #[slice none 0 0,bool false] 161)) (.cells #[slice none 0 0,bool o] 161) (w.heap.size+1) (by rw[s2];omega)).trans b2;refine⟨_,rfl,⟨b3,ownsRow_nil _ _ _ _,by omega,by simp⟩,?_,?_,b2',((kZ _ _ lQ).trans (kZ _ _ (by rw[s1];omega))).trans (kZ _ _ (by rw[s2];omega))⟩
  ·unfold cell?;rw[b1'];rfl
  ·unfold cell?;rw[b1'];rfl
 go_in;apply wp_cut;intro K0 J;go_wp2;apply J.out;apply wp_cut;intro K0 J;go_wp2;apply J.out;clear J;rw[<-hw3];clear hw3;go_wp2;clear y0 y1;go_loopg [12] l.length (fun q i wr=>∃j:Nat,q=l.length-j∧j<=l.length∧i=int i64 (j:Int)∧zOj wr (w.heap.size+3) (w.heap.size+1+1) (qB (l.take j)) o∧Keep (w.heap.size+3) (w.heap.size+1+1) w3 wr)
 case atStart=>exact⟨0,rfl,lX,rfl,⟨_,by rw[List.take_zero];exact HN3.out⟩,Keep.refl _ _ _⟩
 case round=>
  obtain⟨j,hgk,hj,rfl,⟨sv,hR⟩,hk⟩:=hrel;have HA:Hid (gk=l.length-j∧Rw wr (w.heap.size+3) (w.heap.size+1+1) sv (qB (l.take j)) o∧Keep (w.heap.size+3) (w.heap.size+1+1) w3 wr):=⟨hgk,hR,hk⟩
  by_cases hj2:j<l.length
  ·have i1:(j:Int)<(l.length:Int):=by omega
   obtain⟨b,o2,rfl,hb,d0,d1⟩:=HRC.out j hj2;have hlt3:=HK3.out.size;have hbl:b<w.heap.size:=hb;have eb:wr.heap[b]? =w.heap[b]? :=(hk.block b (by omega) (by omega)).trans (HK3.out.block b hbl (by omega));have y0:=(cell?_of_block eb).trans d0;have y1:=(cell?_of_block eb).trans d1;have HBT:=vl <| zJK l j hj2;have hLn:(qB (l.take j)).length<=30000000:=by
    have h1:=zGu (l.take j);rw[List.length_take] at h1;omega
   clear d0 d1 eb hgk hk hR;generalize l.getD j (0,0)=r at *;generalize hL:qB (l.take j)=L at *;clear hL;obtain⟨lo,hi⟩:=r;simp only at y0 y1;obtain⟨asv,csv,hsv⟩:=zG HA.out.2.1.own;subst hsv;obtain⟨wa,hwa,hRa,HBa,HKa,hsa⟩:∃wa,wa=wr.alloc (.cells #[int i64 lo,int i64 hi] 255)∧Rw wa (w.heap.size+3) (w.heap.size+1+1) (slice asv L.length csv) L o∧Hid (wa.heap[wr.heap.size]? =some (.cells #[int i64 lo,int i64 hi] 255)∧some wr.heap.size≠(Value.slice asv L.length csv).ownBlock)∧Hid (Keep (w.heap.size+3) (w.heap.size+1+1) wr wa)∧wr.heap.size+1<=wa.heap.size:=by
    have hlt:=HA.out.2.1.lt;refine⟨_,rfl,HA.out.2.1.keep (kZ (b:=wr.heap.size) _ _ lQ) (.inr rfl) (by omega),⟨gU _ _,fun e=>by have:=(HA.out.2.1.own.lt _ e.symm).2;omega⟩,kZ _ _ hlt,by simp⟩
   have hwr:w.heap.size+3<=wr.heap.size:=HA.out.2.1.lt;apply wp_cut;intro K0 J;go_wp2;apply J.out;clear J;apply wp_cut;intro K0 J;go_wp2;apply J.out;clear J;apply wp_cut;intro KB HKB;refine wp_block ?_;apply wp_cut;intro K0 J;go_wp2;apply J.out;clear J;rw[<-hwa];clear hwa y0 y1;obtain⟨x0,-,xf⟩:=hRa.cells;have xf0:=xf 0;have OW:wa.ownsRow (w.heap.size+3) 255 2 (slice asv L.length csv) L.length (yU L):=hRa.own;have hlt1:w.heap.size+1+1<wa.heap.size:=by omega
   have HNP:=vl <| zM hRa.own hRa.blk (by decide);have c0:wa.cell? ⟨wr.heap.size,0,none⟩=some (int i64 lo):=by unfold cell?;rw[HBa.out.1];rfl
   have c1:wa.cell? ⟨wr.heap.size,1,none⟩=some (int i64 hi):=by unfold cell?;rw[HBa.out.1];rfl
   have HRa:=vl hRa;clear xf hRa;apply wp_cut;intro K0 J;go_wp2_with (first|(at_builtin;refine wpList_append_lies _ rfl _ _ 159 rfl (w.heap.size+3) 255 i0 (agg #[int i64 0,int i64 0]) 2 16 underlying159 hi0 hz0 hz1 hz2 rfl (by decide) _ _ _ rfl (OW.alloc _) ⟨wa.heap.size,0,none⟩ 1 1 [int i64 lo,int i64 hi] rfl rfl (news_of_block (cs:=#[int i64 lo,int i64 hi]) (t:=255) (fr:=(0,0)) (gU wa _)) (by simp[Value.oneCell']) (by decide) (by unfold maxLen;omega) (by omega) (by simp;omega) _ rfl ?_;intro gg cap w2 hown hgrow hat hlt;have hPB:=hgrow.block (w.heap.size+1+1) (by simp;omega) HNP.out;have x0b:w2.cell? ⟨w.heap.size+1+1,0,none⟩=some (slice asv L.length csv):=(cell?_of_block hPB).trans ((cell?_alloc_past _ _ _ hlt1).trans x0);have xf0b:w2.frozen? ⟨w.heap.size+1+1,0,none⟩=false:=(frozen?_of_block hPB).trans ((frozen?_alloc_past _ _ _ hlt1).trans xf0)))
   apply J.out;clear J;obtain⟨w4,hw4,HR4⟩:∃w4,w4=w2.setCell ⟨w.heap.size+1+1,0,none⟩ (slice (some ⟨gg,0,none⟩) (L.length+1) cap)∧Hid (Rw w4 (w.heap.size+3) (w.heap.size+1+1) (slice (some ⟨gg,0,none⟩) (L.length+1) cap) (L++[(lo,hi)]) o∧KeepO (w.heap.size+1+1) (slice asv L.length csv) (slice (some ⟨gg,0,none⟩) (L.length+1) cap) wa w4):=⟨_,rfl,HRa.out.app rfl hown hgrow (by rcases hat with ha|ha;exact .inl ha;right;rw[ha];simp)⟩
   rw[<-hw4];clear hw4 hown hgrow hat hlt hPB x0b xf0b OW HNP hlt1;generalize (Value.slice (some ⟨gg,0,none⟩) (L.length+1) cap)=sv4 at *;obtain⟨f1,f2⟩:=HR4.out.2.block wr.heap.size (by omega) (by omega) HBa.out.2;have HB4:Hid (w4.heap[wr.heap.size]? =some (.cells #[int i64 lo,int i64 hi] 255)∧some wr.heap.size≠sv4.ownBlock):=⟨f1.trans HBa.out.1,f2⟩
   have z0:w4.cell? ⟨wr.heap.size,0,none⟩=some (int i64 lo):=by unfold cell?;rw[HB4.out.1];rfl
   have z1:w4.cell? ⟨wr.heap.size,1,none⟩=some (int i64 hi):=by unfold cell?;rw[HB4.out.1];rfl
   clear f1 f2 c0 c1 x0 xf0;have HC1:=vl <| zBX w4 _ _ sv4 _ o HR4.out.1 (by simp;omega) lo hi 65 90 32 (by omega) (by omega) (by omega);apply wp_cut;intro K0 J;go_wp2_with (first|(go_at_call 213;refine HC1.out.mono ?_;rintro e w5 ⟨rfl,sv5,hR5,hk5⟩))
   apply J.out;clear J;have hs4:=HR4.out.2.size;obtain⟨f1,f2⟩:=hk5.block wr.heap.size (by omega) (by omega) HB4.out.2;have v0:w5.cell? ⟨wr.heap.size,0,none⟩=some (int i64 lo):=by unfold cell?;rw[f1,HB4.out.1];rfl
   have v1:w5.cell? ⟨wr.heap.size,1,none⟩=some (int i64 hi):=by unfold cell?;rw[f1,HB4.out.1];rfl
   have HR5:Hid (Rw w5 (w.heap.size+3) (w.heap.size+1+1) sv5 ((L++[(lo,hi)])++yT (lo,hi) 65 90 32) o∧KeepO (w.heap.size+1+1) sv4 sv5 w4 w5):=⟨hR5,hk5⟩
   have HC2:=vl <| zBX w5 _ _ sv5 _ o hR5 (by have:=zDu (lo,hi) 65 90 32;simp;omega) lo hi 97 122 (-32) (by omega) (by omega) (by omega);clear f1 f2 hR5 hk5 z0 z1;go_wp2_with (first|(go_at_call 213;refine HC2.out.mono ?_;rintro e w6 ⟨rfl,sv6,hR6,hk6⟩))
   apply HKB.out;clear HKB;have HR6:Hid (zOj w6 (w.heap.size+3) (w.heap.size+1+1) (qB (l.take (j+1))) o∧Keep (w.heap.size+3) (w.heap.size+1+1) w3 w6):=⟨⟨sv6,by rw[HBT.out];exact hR6⟩,HA.out.2.2.trans (HKa.out.trans (((HR4.out.2.trans HR5.out.2).trans hk6).keep HRa.out.own HRa.out.lt))⟩
   clear hR6 hk6 v0 v1;go_wp2;go_roundg (l.length-(j+1))
   case measure=>rw[HA.out.1];omega
   case rel=>exact⟨j+1,rfl,by omega,by go_num,HR6.out⟩
  ·have i1:(l.length:Int)<=(j:Int):=by omega
   have e:j=l.length:=by omega
   subst e;obtain⟨c0,c1,-⟩:=hR.cells;obtain⟨asv,csv,hsv⟩:=zG hR.own;subst hsv;have HF:=vl hR.in;have hbq:wr.heap[w.heap.size+1]? =some (.cells #[slice none 0 0,bool false] 161):=(hk.block _ (by omega) (by omega)).trans HB3.out;have q0:wr.cell? ⟨w.heap.size+1,0,none⟩=some (slice none 0 0):=by unfold cell?;rw[hbq];rfl
   have q1:wr.cell? ⟨w.heap.size+1,1,none⟩=some (bool false):=by unfold cell?;rw[hbq];rfl
   have g0:wr.frozen? ⟨w.heap.size+1,0,none⟩=false:=by unfold frozen?;rw[hbq];rfl
   have g1:wr.frozen? ⟨w.heap.size+1,1,none⟩=false:=by unfold frozen?;rw[hbq];rfl
   have HLL:Hid (qB (l.take l.length)=qB l):=by show _=_;rw[List.take_length]
   generalize qB (l.take l.length)=L at *;obtain⟨w9,hw9,r0,r1,H9⟩:∃w9,w9=(wr.setCell ⟨w.heap.size+1,0,none⟩ (slice asv L.length csv)).setCell ⟨w.heap.size+1,1,none⟩ (bool o)∧w9.cell? ⟨w.heap.size+1,0,none⟩=some (slice asv L.length csv)∧w9.cell? ⟨w.heap.size+1,1,none⟩=some (bool o)∧Hid (RangesIn (fun i=>w.heap.size<=i) w9 (slice asv L.length csv) L∧Grew w w9):=by
    have h2:((wr.setCell ⟨w.heap.size+1,0,none⟩ (slice asv L.length csv)).setCell ⟨w.heap.size+1,1,none⟩ (bool o)).heap[w.heap.size+1]? =some (.cells #[slice asv L.length csv,bool o] 161):=by
     simp[setCell,lU,hbq]
    have hne:∀i,i≠w.heap.size+1->((wr.setCell ⟨w.heap.size+1,0,none⟩ (slice asv L.length csv)).setCell ⟨w.heap.size+1,1,none⟩ (bool o)).heap[i]? =wr.heap[i]? :=fun i hi2=>by
     simp[setCell,lU,Ne.symm hi2]
    refine⟨_,rfl,?_,?_,?_,?_⟩
    ·unfold cell?;rw[h2];rfl
    ·unfold cell?;rw[h2];rfl
    ·have ag:Agree (fun i=>w.heap.size+3<=i) wr ((wr.setCell ⟨w.heap.size+1,0,none⟩ (slice asv L.length csv)).setCell ⟨w.heap.size+1,1,none⟩ (bool o)):=⟨rfl,rfl,by simp[World.setCell],fun i _ hx=>hne i (by omega)⟩
     exact(HF.out.go ag).mono (fun i _ hx=>by omega)
    ·exact(HK3.out.trans ⟨hk.os,hk.output,hk.size,fun k hk1 _=>hk.block k (by omega) (by omega)⟩).trans ⟨rfl,rfl,by simp[World.setCell],fun k h1 _=>hne k (by omega)⟩
   clear hgk hR hk hbq HF;go_wp2;rw[<-hw9];refine bodyPost_ret (v:=agg #[slice asv L.length csv,bool o]) (by simp[results,results204,go_sem,r0,r1]) rfl ?_;exact⟨_,rfl,by rw[<-HLL.out];exact H9.out.1,H9.out.2⟩
theorem vB {s t:ByteArray}{i:Nat}(h:zJ s i t=true):i+t.size<=s.size:=by
 unfold zJ at h;rw[Bool.and_eq_true] at h;exact of_decide_eq_true h.1
theorem zBU {s:ByteArray}{i:Nat}(h:byt s i≠0):i<s.size:=by
 rcases Nat.lt_or_ge i s.size with h1|h1
 ·exact h1
 ·exact absurd (zKg s i h1) h
theorem zK3:vU 0<0:=by decide
theorem zKd (s:ByteArray)(i most:Nat)(h:0<yH s i most):i+yH s i most<=s.size:=by
 obtain⟨k,hk⟩:∃k,yH s i most=k+1:=⟨yH s i most-1,by omega⟩
 have hle:=zEo s i most;have h1:¬vU (byt s (i+k))<0:=by
  have h2:k<(List.range most).findIdx fun j=>decide (vU (byt s (i+j))<0):=by
   show k<yH s i most;omega
  have h3:=List.not_of_lt_findIdx h2;rw[List.getElem_range] at h3;exact of_decide_eq_false h3
 have h4:=zBU (fun e=>h1 (by rw[e];exact zK3));omega
theorem zKb (s:ByteArray)(p k:Nat)(h:k<=6):zAH s p k<=16777216:=Nat.le_of_lt (lZ (zKa s p k) (kG (by omega) (by omega:k<=6)))
theorem zNk (s:ByteArray)(p:Nat):(zG6 s p).at_<=p+2∧((zG6 s p).ok=true->p<(zG6 s p).at_∧(zG6 s p).at_<=s.size)∧0<=(zG6 s p).num∧(zG6 s p).num<=16777216:=by
 have h1:=zEo s p 2;have h2:=zKd s p 2;have h3:=zKb s p (yH s p 2) (by omega);unfold zG6;refine⟨by show p+yH s p 2<=p+2;omega,fun e=>?_,by show(0:Int)<=(zAH s p (yH s p 2):Nat);omega,by show((zAH s p (yH s p 2):Nat):Int)<=16777216;omega⟩;have e2:yH s p 2=2:=by simpa using e
 show p<p+yH s p 2∧p+yH s p 2<=s.size;omega
theorem zMQ (s:ByteArray)(p:Nat):(zGz s p).at_<=p+7∧((zGz s p).ok=true->p<(zGz s p).at_∧(zGz s p).at_<=s.size)∧0<=(zGz s p).num∧(zGz s p).num<=16777216:=by
 have h1:=zEo s p 6;have h2:=zKd s p 6;have h3:=zKb s p (yH s p 6) h1;unfold zGz;refine⟨?_,fun e=>?_,by show(0:Int)<=(zAH s p (yH s p 6):Nat);omega,by show((zAH s p (yH s p 6):Nat):Int)<=16777216;omega⟩
 ·show(if zJ s (p+yH s p 6) ⟨#[125]⟩ then p+yH s p 6+1 else p+yH s p 6)<=p+7
  split <;> omega
 ·have e2:zJ s (p+yH s p 6) ⟨#[125]⟩=true:=by
   have e3:=e;rw[Bool.and_eq_true,Bool.and_eq_true] at e3;exact e3.1.1
  show p<(if zJ s (p+yH s p 6) ⟨#[125]⟩ then p+yH s p 6+1 else p+yH s p 6)∧(if zJ s (p+yH s p 6) ⟨#[125]⟩ then p+yH s p 6+1 else p+yH s p 6)<=s.size;rw[if_pos e2];have:=vB e2;have e4:(⟨#[125]⟩:ByteArray).size=1:=rfl;omega
theorem zKe (s:ByteArray)(p:Nat):(zAG s p).at_<=p+10∧((zAG s p).ok=true->p<(zAG s p).at_∧(zAG s p).at_<=s.size)∧0<=(zAG s p).num∧(zAG s p).num<=16777216:=by
 unfold zAG;split
 ·rename_i h
  have:=vB h;have e4:(⟨#[110]⟩:ByteArray).size=1:=rfl;exact⟨by show p+1<=_;omega,fun _=>⟨by show p<p+1;omega,by show p+1<=_;omega⟩,by show(0:Int)<=10;omega,by show(10:Int)<=16777216;omega⟩
 split
 ·rename_i h
  have:=vB h;have e4:(⟨#[116]⟩:ByteArray).size=1:=rfl;exact⟨by show p+1<=_;omega,fun _=>⟨by show p<p+1;omega,by show p+1<=_;omega⟩,by show(0:Int)<=9;omega,by show(9:Int)<=16777216;omega⟩
 split
 ·obtain⟨a,b,c,d⟩:=zNk s (p+1)
  exact⟨by omega,fun e=>by have:=b e;omega,c,d⟩
 split
 ·obtain⟨a,b,c,d⟩:=zMQ s (p+2)
  exact⟨by omega,fun e=>by have:=b e;omega,c,d⟩
 have hl:=zAm s p;split
 ·exact⟨by show p<=_;omega,fun e=>(by cases e),by show(0:Int)<=0;omega,by show(0:Int)<=16777216;omega⟩
 ·rename_i h
  have h0:byt s p≠0:=fun e=>h (by rw[e];decide);have:=zBU h0;refine⟨by show p+1<=_;omega,fun _=>⟨by show p<p+1;omega,by show p+1<=_;omega⟩,?_,?_⟩
  ·show(0:Int)<=(byt s p:Nat);omega
  ·show((byt s p:Nat):Int)<=16777216;omega
theorem zEJ (s:ByteArray)(p:Nat):(xD s p).at_<=p+11∧((xD s p).ok=true->p<(xD s p).at_∧(xD s p).at_<=s.size)∧0<=(xD s p).num∧(xD s p).num<=16777216:=by
 unfold xD;split
 ·obtain⟨a,b,c,d⟩:=zKe s (p+1)
  exact⟨by omega,fun e=>by have:=b e;omega,c,d⟩
 have hl:=zAm s p;split
 ·exact⟨by show p<=_;omega,fun e=>(by cases e),by show(0:Int)<=0;omega,by show(0:Int)<=16777216;omega⟩
 ·rename_i h
  have h0:byt s p≠0:=fun e=>h (by rw[e];decide);have:=zBU h0;refine⟨by show p+1<=_;omega,fun _=>⟨by show p<p+1;omega,by show p+1<=_;omega⟩,?_,?_⟩
  ·show(0:Int)<=(byt s p:Nat);omega
  ·show((byt s p:Nat):Int)<=16777216;omega
theorem zJ3 (s:ByteArray)(p:Nat):(yG s p).at_<=p+30∧((yG s p).ok=true->p<(yG s p).at_∧(yG s p).at_<=s.size)∧0<=(yG s p).low∧(yG s p).low<=16777216∧0<=(yG s p).high∧(yG s p).high<=16777216:=by
 obtain⟨a,b,c,d⟩:=zEJ s p;unfold yG;split
 ·rename_i h
  rw[Bool.and_eq_true] at h;obtain⟨a2,b2,c2,d2⟩:=zEJ s ((xD s p).at_+1);have b1:=b h.1;refine⟨?_,fun e=>?_,c,d,c2,d2⟩
  ·show(xD s ((xD s p).at_+1)).at_<=p+30
   omega
  ·have e3:((xD s ((xD s p).at_+1)).ok&&decide ((xD s p).num<=(xD s ((xD s p).at_+1)).num))=true:=e
   rw[Bool.and_eq_true] at e3;have:=b2 e3.1;show p<(xD s ((xD s p).at_+1)).at_∧(xD s ((xD s p).at_+1)).at_<=s.size;omega
 ·exact⟨by show(xD s p).at_<=p+30;omega,b,c,d,c,d⟩
def zAR (s:ByteArray):Nat->Nat->List (Int×Int)->Option (List (Int×Int)×Nat)
 |0,_,_=>none
 |f+1,p,l=>if(yG s p).ok then(if zJ s (yG s p).at_ ⟨#[93]⟩ then some (l++[((yG s p).low,(yG s p).high)],(yG s p).at_+1) else zAR s f (yG s p).at_ (l++[((yG s p).low,(yG s p).high)])) else none
def zBT (s:ByteArray)(p:Nat):Option (Cs×Nat):=(zAR s (s.size+1) (if zJ s (p+1) ⟨#[94]⟩ then p+2 else p+1) []).map fun g=>(⟨g.1,zJ s (p+1) ⟨#[94]⟩⟩,g.2)
def zAn (w:World)(b:Nat)(s:ByteArray)(dv:Value)(r:Rx)(a:Option (Cs×Nat))(e:Ending)(w':World):Prop:=
 Keep w.heap.size b w w'∧match a with
 |none=>∃v n c o q,e=returned (tuple #[agg #[slice v n c,bool o],bool false])∧RxAt w' b s dv {r with at_:=q}
 |some (c,q)=>∃u,e=returned (tuple #[agg #[u,bool c.others],bool true])∧RangesIn (fun i=>w.heap.size<=i) w' u c.ranges∧RxAt w' b s dv {r with at_:=q}
theorem zGC (s t:ByteArray)(r:Rx):r.take s t={r with at_:=if zJ s r.at_ t then r.at_+t.size else r.at_}:=by
 cases h:zJ s r.at_ t with
 |true=>rw[zHw h];rfl
 |false=>rw[zJS h];rfl
structure Cw (w w':World)(b:Nat)(s:ByteArray)(dv:Value)(r:Rx)(pos:Nat)(L:List (Int×Int))(o:Bool):Prop where
 set:zOj w' (w.heap.size+2) (w.heap.size+1) L o
 box:w'.heap[w.heap.size]? =some (.cells #[slice none 0 0,bool false] 161)
 rx:RxAt w' b s dv {r with at_:=pos}
 keep:Keep w.heap.size b w w'
theorem vH (w w2:World)(b:Nat)(s:ByteArray)(dv:Value)(r:Rx)(x y u:Value)(o:Bool)(hb:b<w.heap.size)(hB:w2.heap[w.heap.size]? =some (.cells #[x,y] 161))(h:RxAt w2 b s dv r)(hk:Keep w.heap.size b w w2):
  ∃w3,w3=(w2.setCell ⟨w.heap.size,0,none⟩ u).setCell ⟨w.heap.size,1,none⟩ (bool o)∧w3.cell? ⟨w.heap.size,0,none⟩=some u∧w3.cell? ⟨w.heap.size,1,none⟩=some (bool o)∧Hid (RxAt w3 b s dv r∧Keep w.heap.size b w w3∧∀l,RangesIn (fun i=>w.heap.size<i) w2 u l->RangesIn (fun i=>w.heap.size<=i) w3 u l):=by
 have h2:((w2.setCell ⟨w.heap.size,0,none⟩ u).setCell ⟨w.heap.size,1,none⟩ (bool o)).heap[w.heap.size]? =some (.cells #[u,bool o] 161):=by
  simp[setCell,lU,hB]
 have hne:∀i,i≠w.heap.size->((w2.setCell ⟨w.heap.size,0,none⟩ u).setCell ⟨w.heap.size,1,none⟩ (bool o)).heap[i]? =w2.heap[i]? :=fun i hi2=>by
  simp[setCell,lU,Ne.symm hi2]
 refine⟨_,rfl,?_,?_,RxAt.of_block h (hne b (by omega)),hk.trans ⟨rfl,rfl,by simp[World.setCell],fun k h1 _=>hne k (by omega)⟩,fun l hl=>RangesIn.mono (X:=fun i=>w.heap.size<i) (hl.go ⟨rfl,rfl,by simp[World.setCell],fun i _ hx=>hne i (Nat.ne_of_gt hx)⟩) (fun i _ hx=>Nat.le_of_lt hx)⟩
 ·unfold cell?;rw[h2];rfl
 ·unfold cell?;rw[h2];rfl
theorem zIs (w:World)(b:Nat)(s:ByteArray)(dv:Value)(r:Rx)(h:RxAt w b s dv r):
  ∃w3,w3=(((w.alloc (.cells #[slice none 0 0,bool false] 161)).setCell ⟨b,2,none⟩ (int i64 ((r.at_:Int)+1))).alloc (.cells #[slice none 0 0,bool false] 161))∧Cw w w3 b s dv r (r.at_+1) [] false∧w.heap.size+2<=w3.heap.size∧w3.heap[w.heap.size+1]? =some (.cells #[slice none 0 0,bool false] 161):=by
 have hlb:=h.lt;have s1:(w.alloc (.cells #[slice none 0 0,bool false] 161)).heap.size=w.heap.size+1:=by simp
 have b1:=gU w (.cells #[slice none 0 0,bool false] 161);have h1:RxAt (w.alloc (.cells #[slice none 0 0,bool false] 161)) b s dv r:=RxAt.of_block h (lG _ _ _ hlb);have h2:=h1.setAt (r.at_+1);rw[show ((r.at_+1:Nat):Int)=(r.at_:Int)+1 by omega] at h2;have k1:Keep w.heap.size b w (w.alloc (.cells #[slice none 0 0,bool false] 161)):=kZ _ _ lQ;generalize (w.alloc (.cells #[slice none 0 0,bool false] 161))=w1 at *;have b2:(w1.setCell ⟨b,2,none⟩ (int i64 ((r.at_:Int)+1))).heap[w.heap.size]? =some (.cells #[slice none 0 0,bool false] 161):=(lJ _ _ _ _ (by show w.heap.size≠b;omega)).trans b1;have s2:(w1.setCell ⟨b,2,none⟩ (int i64 ((r.at_:Int)+1))).heap.size=w.heap.size+1:=by rw[zC];exact s1
 have k2:Keep w.heap.size b w (w1.setCell ⟨b,2,none⟩ (int i64 ((r.at_:Int)+1))):=k1.trans (Keep.set _ _ _);generalize (w1.setCell ⟨b,2,none⟩ (int i64 ((r.at_:Int)+1)))=w2 at *;have b3:=gU w2 (.cells #[slice none 0 0,bool false] 161);rw[s2] at b3;refine⟨_,rfl,⟨⟨slice none 0 0,b3,ownsRow_nil _ _ _ _,by omega,by simp;omega⟩,(lG _ _ _ (by omega)).trans b2,RxAt.of_block h2 (lG _ _ _ (by omega)),k2.trans (kZ _ _ (by omega))⟩,by simp;omega,b3⟩
theorem zD5 (w:World)(b:Nat)(s:ByteArray)(dv:Value)(r:Rx)(h:RxAt w b s dv r)(hs:s.size<=1048576)(ha:r.at_<s.size):
  Calls prog 208 #[pointer (some ⟨b,0,none⟩)] w (zAn w b s dv r (zBT s r.at_)):=by
 have hlb:=h.lt;obtain⟨i0,hi0,hz0,hz1,hz2⟩:=info_parts zDD;obtain⟨w3,hw3,hC3,hs3,hb3⟩:=zIs w b s dv r h;have HB3:=vl hb3;obtain⟨o,ho⟩:∃o,o=zJ s (r.at_+1) ⟨#[94]⟩:=⟨_,rfl⟩
 obtain⟨p0,hp0⟩:∃p0,p0=(if zJ s (r.at_+1) ⟨#[94]⟩ then r.at_+2 else r.at_+1):=⟨_,rfl⟩
 have hpl:p0<=s.size:=by
  rw[hp0];split
  ·rename_i e
   have:=vB e;have e4:(⟨#[94]⟩:ByteArray).size=1:=rfl;omega
  ·omega
 obtain⟨G,hG⟩:∃G,G=zAR s (s.size+1) p0 []:=⟨_,rfl⟩
 have HG:Hid (zBT s r.at_=G.map fun g=>(⟨g.1,o⟩,g.2)):=by
  show _=_;unfold zBT;rw[hG,ho,hp0]
 have HTK:Hid (Ca 189 #[pointer (some ⟨b,0,none⟩),string ⟨#[94]⟩] w3 fun e w'=>e=returned (bool o)∧RxAt w' b s dv {r with at_:=p0}∧∀H,Keep H b w3 w'):=by
  have:=jB w3 b s dv {r with at_:=r.at_+1} hC3.rx hs (by show r.at_+1<=_;omega) ⟨#[94]⟩ (by decide);rw[zGC] at this;rw[hp0,ho];exact this
 have HG0:=vl hG;have HC3:=vl hC3;obtain⟨-,-,c2,-,-,cf⟩:=h.cells;have cf2:=cf 2;rw[HG.out];clear hp0 ho hG cf HG h hC3 hb3;have HLB:=vl hlb;have c2b:(w.alloc (.cells #[slice none 0 0,bool false] 161)).cell? ⟨b,2,none⟩=some (int i64 (r.at_:Int)):=(cell?_alloc_past _ _ _ hlb).trans c2;have cf2b:(w.alloc (.cells #[slice none 0 0,bool false] 161)).frozen? ⟨b,2,none⟩=false:=(frozen?_alloc_past _ _ _ hlb).trans cf2;clear hlb c2 cf2;go_in;apply wp_cut;intro K0 J;go_wp2;apply J.out;clear J;apply wp_cut;intro K0 J;go_wp2;apply J.out;clear J;apply wp_cut;intro K0 J;go_wp2;apply J.out;clear J;rw[<-hw3];clear hw3;apply wp_cut;intro K0 J;go_wp2_with (first|(go_at_call 189;refine HTK.out.mono ?_;rintro e w4 ⟨rfl,hR4,hk4⟩;have hB4:w4.heap[w.heap.size+1]? =some (.cells #[slice none 0 0,bool false] 161):=((hk4 w3.heap.size).block _ (by omega) (by have:=HLB.out;omega)).trans HB3.out;have x4:w4.cell? ⟨w.heap.size+1,1,none⟩=some (bool false):=(by unfold cell?;rw[hB4];rfl);have fz1:w4.frozen? ⟨w.heap.size+1,1,none⟩=false:=(by unfold frozen?;rw[hB4];rfl);have HB4:=vl hB4;clear hB4))
 apply J.out;clear J;obtain⟨w5,hw5,H5⟩:∃w5,w5=w4.setCell ⟨w.heap.size+1,1,none⟩ (bool o)∧Hid (Cw w w5 b s dv r p0 [] o):=by
  have hb:=HLB.out;have hk:=hk4 w3.heap.size;have b4:=HB4.out;refine⟨_,rfl,⟨⟨slice none 0 0,⟨by simp[setCell,lU,b4],ownsRow_nil _ _ _ _,by omega,by rw[zC];have:=hk.size;omega⟩⟩,(lJ _ _ _ _ (by show w.heap.size≠w.heap.size+1;omega)).trans ((hk.block _ (by omega) (by omega)).trans HC3.out.box),RxAt.of_block hR4 (lJ _ _ _ _ (by show b≠w.heap.size+1;omega)),HC3.out.keep.trans ((hk4 _).trans ⟨rfl,rfl,by rw[zC];omega,fun k h1 _=>lJ _ _ _ _ (by show k≠w.heap.size+1;omega)⟩)⟩⟩
 rw[<-hw5];clear hw5 hR4 hk4 fz1 x4 HC3 HTK hs3 c2b cf2b HB3 HB4;refine wp_block ?_;go_loopg [6] (s.size+1) (fun q v wr=>∃f pos L,q=f∧pos<=s.size∧s.size+1-pos<=f∧zAR s f pos L=G∧Cw w wr b s dv r pos L o∧L.length<=pos)
 case atStart=>exact⟨s.size+1,p0,[],rfl,hpl,by omega,HG0.out.symm,H5.out,lX⟩
 case round=>
  obtain⟨f,pos,L,hgk,hpos,hf,hGo,hC,hL⟩:=hrel;cases f with
  |zero=>omega
  |succ f=>
  obtain⟨m1,m2,m3,m4,m5,m6⟩:=zJ3 s pos;have HM:=vl <| zGX wr b s dv {r with at_:=pos} hC.rx hs (by show pos<=_;omega) (by show(xD s pos).at_<=_;have:=(zEJ s pos).1;omega);have hGo2:(if (yG s pos).ok then(if zJ s (yG s pos).at_ ⟨#[93]⟩ then some (L++[((yG s pos).low,(yG s pos).high)],(yG s pos).at_+1) else zAR s f (yG s pos).at_ (L++[((yG s pos).low,(yG s pos).high)])) else none)=G:=hGo;clear hGo;obtain⟨sv,hRw⟩:=hC.set;obtain⟨asv,csv,hsv⟩:=zG hRw.own;subst hsv;have HC:Hid (Cw w wr b s dv r pos L o∧Rw wr (w.heap.size+2) (w.heap.size+1) (slice asv L.length csv) L o∧gk=f+1):=⟨hC,hRw,hgk⟩
  clear hC hRw hgk;generalize yG s pos=m at *;obtain⟨lo,hi,ok,at1⟩:=m;have m1b:at1<=pos+30:=m1;have M2:=vl m2;have HGo:=vl hGo2;have HM2:=vl HM.out;clear m1 m2 m3 m4 m5 m6 hGo2 HM;have hwr:w.heap.size+2<=wr.heap.size:=HC.out.2.1.lt;refine wp_block ?_;apply wp_cut;intro K1 HK1;go_wp2_with (first|(go_at_call 215;refine HM2.out.mono ?_;rintro e wm ⟨rfl,hRm,hkm⟩))
  apply HK1.out;clear HK1 HM2;obtain⟨wa,hwa,hRa,HBa,HKa,hsa,HXa,hxa⟩:∃wa,wa=wm.alloc (.cells #[int i64 lo,int i64 hi] 255)∧Rw wa (w.heap.size+2) (w.heap.size+1) (slice asv L.length csv) L o∧Hid (wa.heap[wm.heap.size]? =some (.cells #[int i64 lo,int i64 hi] 255))∧Hid (Keep wr.heap.size b wr wa)∧wm.heap.size+1<=wa.heap.size∧RxAt wa b s dv {r with at_:=at1}∧wr.heap.size<=wm.heap.size:=by
   have hb:=HLB.out;have hz:=hkm.size;have hrm:Rw wm (w.heap.size+2) (w.heap.size+1) (slice asv L.length csv) L o:=HC.out.2.1.keep hkm (.inl (by omega)) (by omega);refine⟨_,rfl,hrm.keep (kZ (b:=wm.heap.size) _ _ lQ) (.inr rfl) (by omega),gU _ _,hkm.trans (kZ _ _ hz),by simp,RxAt.of_block hRm (lG _ _ _ (by omega)),hz⟩
  rw[<-hwa];clear hwa hRm hkm;have hb:=HLB.out;have hBx:wa.heap[w.heap.size]? =some (.cells #[slice none 0 0,bool false] 161):=(HKa.out.block _ (by omega) (by omega)).trans HC.out.1.box;have HBx:Hid (wa.heap[w.heap.size]? =some (.cells #[slice none 0 0,bool false] 161)∧Keep w.heap.size b w wa):=⟨hBx,HC.out.1.keep.trans ⟨HKa.out.os,HKa.out.output,HKa.out.size,fun k h1 h2=>HKa.out.block k (by omega) h2⟩⟩
  clear hBx hb;cases ok with
  |false=>
   have HGn:=vl HGo.out.symm;obtain⟨w7,hw7,z0,z1,HZ⟩:=vH w wa b s dv {r with at_:=at1} _ _ (slice none 0 0) false HLB.out HBx.out.1 HXa HBx.out.2;have q0:wa.cell? ⟨w.heap.size,0,none⟩=some (slice none 0 0):=by unfold cell?;rw[HBx.out.1];rfl
   have q1:wa.cell? ⟨w.heap.size,1,none⟩=some (bool false):=by unfold cell?;rw[HBx.out.1];rfl
   have g0:wa.frozen? ⟨w.heap.size,0,none⟩=false:=by unfold frozen?;rw[HBx.out.1];rfl
   have g1:wa.frozen? ⟨w.heap.size,1,none⟩=false:=by unfold frozen?;rw[HBx.out.1];rfl
   rw[HGn.out];clear HXa hRa hsa hxa hwr HGo HGn;go_wp2;rw[<-hw7];refine bodyPost_ret (v:=tuple #[agg #[slice none 0 0,bool false],bool false]) (by simp[results,results208,go_sem,z0,z1]) rfl ?_;exact⟨HZ.out.2.1,none,0,0,false,at1,rfl,HZ.out.1⟩
  |true=>
   have M3:=M2.out rfl;have HGo2:=vl HGo.out;clear HGo M2;apply wp_cut;intro K1 HK1;go_wp2;apply HK1.out;clear HK1;obtain⟨x0,-,xf⟩:=hRa.cells;have xf0:=xf 0;have OW:wa.ownsRow (w.heap.size+2) 255 2 (slice asv L.length csv) L.length (yU L):=hRa.own;have hlt1:w.heap.size+1<wa.heap.size:=by omega
   have HNP:=vl <| zM hRa.own hRa.blk (by decide);have c0:wa.cell? ⟨wm.heap.size,0,none⟩=some (int i64 lo):=by unfold cell?;rw[HBa.out];rfl
   have c1:wa.cell? ⟨wm.heap.size,1,none⟩=some (int i64 hi):=by unfold cell?;rw[HBa.out];rfl
   have HRa:=vl hRa;have HXA:=vl HXa;clear xf hRa HXa;apply wp_cut;intro K1 HK1;go_wp2_with (first|(at_builtin;refine wpList_append_lies _ rfl _ _ 159 rfl (w.heap.size+2) 255 i0 (agg #[int i64 0,int i64 0]) 2 16 underlying159 hi0 hz0 hz1 hz2 rfl (by decide) _ _ _ rfl (OW.alloc _) ⟨wa.heap.size,0,none⟩ 1 1 [int i64 lo,int i64 hi] rfl rfl (news_of_block (cs:=#[int i64 lo,int i64 hi]) (t:=255) (fr:=(0,0)) (gU wa _)) (by simp[Value.oneCell']) (by decide) (by unfold maxLen;omega) (by omega) (by simp;omega) _ rfl ?_;intro gg cap w2 hown hgrow hat hlt;have hPB:=hgrow.block (w.heap.size+1) (by simp;omega) HNP.out;have x0b:w2.cell? ⟨w.heap.size+1,0,none⟩=some (slice asv L.length csv):=(cell?_of_block hPB).trans ((cell?_alloc_past _ _ _ hlt1).trans x0);have xf0b:w2.frozen? ⟨w.heap.size+1,0,none⟩=false:=(frozen?_of_block hPB).trans ((frozen?_alloc_past _ _ _ hlt1).trans xf0)))
   apply HK1.out;clear HK1;obtain⟨w6,hw6,HR6⟩:∃w6,w6=w2.setCell ⟨w.heap.size+1,0,none⟩ (slice (some ⟨gg,0,none⟩) (L.length+1) cap)∧Hid (Rw w6 (w.heap.size+2) (w.heap.size+1) (slice (some ⟨gg,0,none⟩) (L.length+1) cap) (L++[(lo,hi)]) o∧KeepO (w.heap.size+1) (slice asv L.length csv) (slice (some ⟨gg,0,none⟩) (L.length+1) cap) wa w6):=⟨_,rfl,HRa.out.app rfl hown hgrow (by rcases hat with ha|ha;exact .inl ha;right;rw[ha];simp)⟩
   rw[<-hw6];clear hw6 hown hgrow hat hlt hPB x0b xf0b OW HNP hlt1 c0 c1 x0 xf0;have HK6:=vl <| HR6.out.2.keep HRa.out.own HRa.out.lt;have HX6:Hid (RxAt w6 b s dv {r with at_:=at1}∧w6.heap[w.heap.size]? =some (.cells #[slice none 0 0,bool false] 161)∧Keep w.heap.size b w w6∧w.heap.size+2<=w6.heap.size):=by
    have hb:=HLB.out;refine⟨RxAt.of_block HXA.out (HK6.out.block b (by omega) (by omega)),(HK6.out.block _ (by omega) (by omega)).trans HBx.out.1,HBx.out.2.trans ⟨HK6.out.os,HK6.out.output,HK6.out.size,fun k h1 _=>HK6.out.block k (by omega) (by omega)⟩,HR6.out.1.lt⟩
   clear HXA HBx HKa HBa hsa hxa hwr;cases ht:zJ s at1 ⟨#[93]⟩ with
   |true=>
    rw[ht] at HGo2;have HG9:=vl HGo2.out.symm;have HT9:Hid (Ca 189 #[pointer (some ⟨b,0,none⟩),string ⟨#[93]⟩] w6 fun e w'=>e=returned (bool true)∧RxAt w' b s dv {r with at_:=at1+1}∧∀H,Keep H b w6 w'):=by
     have:=jB w6 b s dv {r with at_:=at1} HX6.out.1 hs (by show at1<=_;omega) ⟨#[93]⟩ (by decide);rw[zGC] at this;have e1:zJ s ({r with at_:=at1}:Rx).at_ ⟨#[93]⟩=true:=ht;rw[e1] at this;exact this
    rw[HG9.out];clear ht HGo2 HG9;have hp6:=HX6.out.2.2.2;have HST:Hid (∀w8,(∀H,Keep H b w6 w8)->RxAt w8 b s dv {r with at_:=at1+1}->w8.cell? ⟨w.heap.size+1,0,none⟩=some (slice (some ⟨gg,0,none⟩) (L.length+1) cap)∧w8.cell? ⟨w.heap.size+1,1,none⟩=some (bool o)∧w8.cell? ⟨w.heap.size,0,none⟩=some (slice none 0 0)∧w8.cell? ⟨w.heap.size,1,none⟩=some (bool false)∧w8.frozen? ⟨w.heap.size,0,none⟩=false∧w8.frozen? ⟨w.heap.size,1,none⟩=false∧∃w7,w7=(w8.setCell ⟨w.heap.size,0,none⟩ (slice (some ⟨gg,0,none⟩) (L.length+1) cap)).setCell ⟨w.heap.size,1,none⟩ (bool o)∧w7.cell? ⟨w.heap.size,0,none⟩=some (slice (some ⟨gg,0,none⟩) (L.length+1) cap)∧w7.cell? ⟨w.heap.size,1,none⟩=some (bool o)∧Hid (RxAt w7 b s dv {r with at_:=at1+1}∧Keep w.heap.size b w w7∧RangesIn (fun i=>w.heap.size<=i) w7 (slice (some ⟨gg,0,none⟩) (L.length+1) cap) (L++[(lo,hi)]))):=fun w8 hk8 hR8=>by
     have hb:=HLB.out;have hB8:w8.heap[w.heap.size]? =some (.cells #[slice none 0 0,bool false] 161):=((hk8 (w.heap.size+1)).block _ (by omega) (by omega)).trans HX6.out.2.1;have hR9:Rw w8 (w.heap.size+2) (w.heap.size+1) (slice (some ⟨gg,0,none⟩) (L.length+1) cap) (L++[(lo,hi)]) o:=HR6.out.1.keep (hk8 _) (.inl (by omega)) (by omega);obtain⟨d0,d1,-⟩:=hR9.cells;obtain⟨w7,hw7,z0,z1,HZ⟩:=vH w w8 b s dv {r with at_:=at1+1} _ _ (slice (some ⟨gg,0,none⟩) (L.length+1) cap) o hb hB8 hR8 (HX6.out.2.2.1.trans (hk8 _));refine⟨d0,d1,?_,?_,?_,?_,w7,hw7,z0,z1,HZ.out.1,HZ.out.2.1,HZ.out.2.2 _ (hR9.in.mono fun i _ hi=>by omega)⟩
     all_goals first|(unfold cell?;rw[hB8];rfl)|(unfold frozen?;rw[hB8];rfl)
    clear hp6 HR6 HK6;go_wp2_with (first|(go_at_call 189;refine HT9.out.mono ?_;rintro e w8 ⟨rfl,hR8,hk8⟩;obtain⟨d0,d1,q0,q1,g0,g1,w7,hw7,z0,z1,HZ⟩:=HST.out w8 hk8 hR8))
    rw[<-hw7];refine bodyPost_ret (v:=tuple #[agg #[slice (some ⟨gg,0,none⟩) (L.length+1) cap,bool o],bool true]) (by simp[results,results208,go_sem,z0,z1]) rfl ?_;exact⟨HZ.out.2.1,_,rfl,HZ.out.2.2,HZ.out.1⟩
   |false=>
    rw[ht] at HGo2;have HG9:=vl HGo2.out;have HT9:Hid (Ca 189 #[pointer (some ⟨b,0,none⟩),string ⟨#[93]⟩] w6 fun e w'=>e=returned (bool false)∧RxAt w' b s dv {r with at_:=at1}∧∀H,Keep H b w6 w'):=by
     have:=jB w6 b s dv {r with at_:=at1} HX6.out.1 hs (by show at1<=_;omega) ⟨#[93]⟩ (by decide);rw[zGC] at this;have e1:zJ s ({r with at_:=at1}:Rx).at_ ⟨#[93]⟩=false:=ht;rw[e1] at this;exact this
    clear ht HGo2;go_wp2_with (first|(go_at_call 189;refine HT9.out.mono ?_;rintro e w8 ⟨rfl,hR8,hk8⟩))
    have hb:=HLB.out;have hp6:=HX6.out.2.2.2;go_roundg f
    case measure=>rw[HC.out.2.2];omega
    case rel=>exact⟨f,at1,L++[(lo,hi)],rfl,M3.2,by omega,HG9.out,⟨⟨_,HR6.out.1.keep (hk8 _) (.inl (by omega)) (by omega)⟩,((hk8 (w.heap.size+1)).block _ (by omega) (by omega)).trans HX6.out.2.1,hR8,HX6.out.2.2.1.trans (hk8 _)⟩,by simp;omega⟩
section
theorem TreeAt.deeper {w:World}:∀d b t,TreeAt w d b t->TreeAt w (d+1) b t
 |0,_,_,h=>False.elim h
 |d+1,b,t,h=>by
  obtain⟨hl,rv,pv,h1,h2,ao,cap,hv,h3,h4,h5⟩:=h;refine⟨hl,rv,pv,h1,h2,ao,cap,hv,h3,h4,fun i hi=>?_⟩;obtain⟨g,o,p,ha,hg,hc,ht⟩:=h5 i hi;exact⟨g,o,p,ha,hg,hc,TreeAt.deeper d p _ ht⟩
theorem TreeAt.deep {w:World}{d e b:Nat}{t:Tr}(h:TreeAt w d b t)(he:d<=e):TreeAt w e b t:=by
 induction he with
 |refl=>exact h
 |step _ ih=>exact TreeAt.deeper _ _ _ ih
def TreeIn (X:Nat->Prop)(w:World)(d b:Nat)(t:Tr):Prop:=∀w2,Agree X w w2->TreeAt w2 d b t
section
variable {X Y:Nat->Prop} {w w2:World} {d e b:Nat} {t:Tr}
theorem TreeIn.at (h:TreeIn X w d b t):TreeAt w d b t:=h w (Agree.refl X w)
theorem TreeIn.go (h:TreeIn X w d b t)(a:Agree X w w2):TreeIn X w2 d b t:=fun w3 h3=>h w3 (a.trans h3)
theorem TreeIn.mono (h:TreeIn X w d b t)(hx:∀i,i<w.heap.size->X i->Y i):TreeIn Y w d b t:=fun w3 h3=>h w3 (h3.mono hx)
theorem TreeIn.deep (h:TreeIn X w d b t)(he:d<=e):TreeIn X w e b t:=fun w3 h3=>(h w3 h3).deep he
theorem TreeIn.step (h:TreeIn X w d b t)(a:Agree X w w2)(hx:∀i,i<w.heap.size->X i->Y i):TreeIn Y w2 d b t:=fun w3 h3=>h w3 ⟨h3.os.trans a.os,h3.output.trans a.output,lY a.size h3.size,fun i hi hxi=>(h3.block i (lZ hi a.size) (hx i hi hxi)).trans (a.block i hi hxi)⟩
theorem zJ1 {rv:Value}{ao:Option Addr}{cap:Nat}(hb:w.heap[b]? =some (.cells #[int i64 (t.kind:Int),rv,bool t.set.others,slice ao t.parts.length cap,int i64 (t.least:Int),int i64 (t.most:Int),bool t.endless,int i64 (t.chars:Int)] 165))(hx:X b)(hr:RangesIn X w rv t.set.ranges)
  (h3:t.parts.length<=cap∧t.parts.length<=1000000000000∧t.least<=1000∧t.most<=1000) (h4:cap<=maxLen) (hp:∀i,i<t.parts.length->∃g o p,ao=some ⟨g,o,none⟩∧In w g∧X g∧w.cell? ⟨g,o+i,none⟩=some (pointer (some ⟨p,0,none⟩))∧TreeIn X w d p (t.parts.getD i Tr.none)):TreeIn X w (d+1) b t:=fun w2 a=>by
 have hl:=(kQ.1 hb).1;refine⟨lZ hl a.size,rv,_,(a.block b hl hx).trans hb,hr w2 a,ao,cap,rfl,h3,h4,fun i hi=>?_⟩;obtain⟨g,o,p,ha,hg,hxg,hc,ht⟩:=hp i hi;exact⟨g,o,p,ha,lZ hg a.size,(cell?_of_block (a.block g hg hxg)).trans hc,ht w2 a⟩
theorem zG1 {rv:Value}{t:Tr}(hb:w.heap[b]? =some (.cells #[int i64 (t.kind:Int),rv,bool t.set.others,slice none 0 0,int i64 (t.least:Int),int i64 (t.most:Int),bool t.endless,int i64 (t.chars:Int)] 165))(hx:X b)(hr:RangesIn X w rv t.set.ranges)(h0:t.parts=[])(h3:t.least<=1000∧t.most<=1000):TreeIn X w (d+1) b t:=by
 have e:t.parts.length=0:=by rw[h0];rfl
 refine zJ1 (ao:=none) (cap:=0) (by rw[e];exact hb) hx hr ⟨by omega,by omega,h3.1,h3.2⟩ (by unfold maxLen;omega) fun i hi=>by omega
theorem zIm (hb:w.heap[b]? =some (.cells #[int i64 0,slice none 0 0,bool false,slice none 0 0,int i64 0,int i64 0,bool false,int i64 0] 165))(hx:X b):TreeIn X w (d+1) b Tr.none:=zG1 (t:=Tr.none) hb hx (zJf X w) rfl ⟨by decide,by decide⟩
end
def zGV (c:Cs):Tr:=⟨1,c,[],0,0,false,1⟩
def Tr.add (t u:Tr):Tr:={t with parts:=t.parts++[u],chars:=xI (t.chars+u.chars)}
def Tr.plain (t:Tr):Tr:=if t.chars=0 then Tr.none else t
def xT (ps:List Nat):List Value:=ps.map fun p=>pointer (some ⟨p,0,none⟩)
structure Tw (w:World)(Y:Nat->Prop)(H p d:Nat)(sv:Value)(ps:List Nat)(t:Tr):Prop where
 blk:w.heap[p]? =some (.cells #[int i64 (t.kind:Int),slice none 0 0,bool false,sv,int i64 (t.least:Int),int i64 (t.most:Int),bool t.endless,int i64 (t.chars:Int)] 165)
 set:t.set=⟨[],false⟩
 own:w.ownsRow H 158 1 sv t.parts.length (xT ps)
 len:ps.length=t.parts.length
 parts:∀i,i<t.parts.length->TreeIn (fun j=>Y j∧j≠p∧some j≠sv.ownBlock) w d (ps.getD i 0) (t.parts.getD i Tr.none)
 pH:p<H
 lt:H<=w.heap.size
 small:t.parts.length<=10000000∧t.least<=1000∧t.most<=1000∧t.chars<=25
section
variable {w w2:World} {Y:Nat->Prop} {H p d e b:Nat} {sv:Value} {ps:List Nat} {t u:Tr}
theorem Tw.cells (h:Tw w Y H p d sv ps t):w.cell? ⟨p,3,none⟩=some sv∧w.cell? ⟨p,7,none⟩=some (int i64 (t.chars:Int))∧∀i,w.frozen? ⟨p,i,none⟩=false:=by
 refine⟨?_,?_,fun i=>?_⟩
 all_goals first|(unfold cell?;rw[h.blk];rfl)|(unfold frozen?;rw[h.blk];simp)
theorem Tw.deep (h:Tw w Y H p d sv ps t)(he:d<=e):Tw w Y H p e sv ps t:=⟨h.blk,h.set,h.own,h.len,fun i hi=>(h.parts i hi).deep he,h.pH,h.lt,h.small⟩
theorem Tw.keep (h:Tw w Y H p d sv ps t)(hk:Keep w.heap.size b w w2)(hb:b<H∨b=w.heap.size)(hbp:b≠p)(hY:b<w.heap.size->¬Y b):Tw w2 Y H p d sv ps t:=by
 have h1:=h.pH;have h2:=h.lt;refine⟨(hk.block p (by omega) (Ne.symm hbp)).trans h.blk,h.set,zD h.own fun g hg hgl _=>hk.block g hgl (by omega),h.len,fun i hi=>(h.parts i hi).go (hk.agree fun j hj hx=>⟨hj,fun e=>hY (by omega) (e ▸ hx.1)⟩),h1,lY h2 hk.size,h.small⟩
theorem Tw.in (h:Tw w Y H p d sv ps t)(hp:Y p)(hg:∀j,H<=j->Y j):TreeIn Y w (d+1) p t:=by
 obtain⟨ao,cap,hsv⟩:=zG h.own;subst hsv;have hbl:=h.blk;have hs1:t.set.ranges=[]:=by rw[h.set]
 have hs2:t.set.others=false:=by rw[h.set]
 obtain⟨k1,k2,k3,-⟩:=h.small;rcases h.own.2 with⟨hv,h0⟩|⟨g,cap2,cur,hv,hH,hh,h1,h2,h3,h4⟩
 ·injection hv with e1 e2 e3
  subst e1 e3;have e5:=List.length_eq_zero_iff.1 h0;refine zG1 (rv:=slice none 0 0) (by rw[hs2,<-h0];rw[h0] at hbl ⊢;exact hbl) hp (by rw[hs1];exact zJf Y w) e5 ⟨k2,k3⟩
 ·injection hv with e1 e2 e3
  subst e1 e3;refine zJ1 (rv:=slice none 0 0) (by rw[hs2];exact hbl) hp (by rw[hs1];exact zJf Y w) ⟨h1,by omega,k2,k3⟩ h2 fun i hi=>?_;have hg2:=h.own.lt g rfl;refine⟨g,0,ps.getD i 0,rfl,hg2.2,hg g hH,?_,(h.parts i hi).mono fun j _ hx=>hx.1⟩;have hi2:i<ps.length:=by rw[h.len];exact hi
  have hc:=h.own.cells (g:=g) rfl i (pointer (some ⟨ps.getD i 0,0,none⟩)) (by unfold xT;rw[gV,lV hi2,lW,lV hi2];rfl);rw[Addr.add_lit] at hc;exact hc
theorem Tw.setChars (h:Tw w Y H p d sv ps t)(n:Nat)(hn:n<=25):Tw (w.setCell ⟨p,7,none⟩ (int i64 (n:Int))) Y H p d sv ps {t with chars:=n}:=by
 have hpH:=h.pH;refine⟨?_,h.set,zX h.own hpH,h.len,fun i hi=>(h.parts i hi).go ⟨rfl,rfl,by rw[zC];omega,fun j hj hx=>lJ _ _ _ _ hx.2.1⟩,hpH,by rw[zC];exact h.lt,⟨h.small.1,h.small.2.1,h.small.2.2.1,hn⟩⟩;simp[setCell,lU,h.blk]
theorem Tw.app {ob:Obj}{g cap m q:Nat}(h:Tw w Y H p d sv ps t)(hm:m=t.parts.length)(hml:m<10000000)(hu:TreeIn (fun j=>Y j∧j≠p∧some j≠sv.ownBlock) w d q u)(hown:w2.ownsRow H 158 1 (slice (some ⟨g,0,none⟩) (m+1) cap) (m+1) (xT ps++[pointer (some ⟨q,0,none⟩)]))(hg:(w.alloc ob).grownBy w2 sv.ownBlock)(hat:sv.ownBlock=some g∨w.heap.size<=g):
  Tw (w2.setCell ⟨p,3,none⟩ (slice (some ⟨g,0,none⟩) (m+1) cap)) Y H p d (slice (some ⟨g,0,none⟩) (m+1) cap) (ps++[q]) {t with parts:=t.parts++[u]}∧KeepO p sv (slice (some ⟨g,0,none⟩) (m+1) cap) w (w2.setCell ⟨p,3,none⟩ (slice (some ⟨g,0,none⟩) (m+1) cap)):=by
 subst hm;have hpH:=h.pH;have hlt:=h.lt;have hbl:∀j,j<H->w2.heap[j]? =w.heap[j]? :=fun j hj=>(hg.block j (by simp;omega) fun e=>by have:=(h.own.lt j e.symm).1;omega).trans (lG _ _ _ (by omega));have hb:=(hbl p hpH).trans h.blk;have hsz:w.heap.size<=w2.heap.size:=lY (by simp) hg.size;have hKO:KeepO p sv (slice (some ⟨g,0,none⟩) (t.parts.length+1) cap) w (w2.setCell ⟨p,3,none⟩ (slice (some ⟨g,0,none⟩) (t.parts.length+1) cap)):=⟨hg.os,hg.output,by rw[zC];exact hsz,fun k h1 h2 h3=>⟨(lJ _ _ _ _ h2).trans ((hg.block k (by simp;omega) h3).trans (lG _ _ _ h1)),fun e=>by
  have e2:k=g:=by simpa[Value.ownBlock] using e
  rcases hat with ha|ha
  ·exact h3 (by rw[ha,e2])
  ·omega⟩⟩
 have hst:∀q2 t2,TreeIn (fun j=>Y j∧j≠p∧some j≠sv.ownBlock) w d q2 t2->TreeIn (fun j=>Y j∧j≠p∧some j≠(Value.slice (some ⟨g,0,none⟩) (t.parts.length+1) cap).ownBlock) (w2.setCell ⟨p,3,none⟩ (slice (some ⟨g,0,none⟩) (t.parts.length+1) cap)) d q2 t2:=fun q2 t2 h2=>h2.step ⟨hKO.os,hKO.output,hKO.size,fun i hi hx=>(hKO.block i hi hx.2.1 hx.2.2).1⟩ fun i hi hx=>⟨hx.1,hx.2.1,(hKO.block i hi hx.2.1 hx.2.2).2⟩
 refine⟨⟨?_,h.set,?_,?_,fun i hi=>?_,hpH,by rw[zC];omega,?_⟩,hKO⟩
 ·simp[setCell,lU,hb]
 ·have e1:({t with parts:=t.parts++[u]}:Tr).parts.length=t.parts.length+1:=by simp
  have e2:xT (ps++[q])=xT ps++[pointer (some ⟨q,0,none⟩)]:=by simp[xT]
  rw[e1,e2];exact zX hown hpH
 ·simp[h.len]
 ·have hi2:i<t.parts.length+1:=by simpa using hi
  show TreeIn _ _ d ((ps++[q]).getD i 0) ((t.parts++[u]).getD i Tr.none);by_cases hi3:i<t.parts.length
  ·have e1:(ps++[q]).getD i 0=ps.getD i 0:=by rw[lW,lW,kW (by rw[h.len];exact hi3)]
   have e2:(t.parts++[u]).getD i Tr.none=t.parts.getD i Tr.none:=by rw[lW,lW,kW hi3]
   rw[e1,e2];exact hst _ _ (h.parts i hi3)
  ·have e:i=t.parts.length:=by omega
   subst e;have e1:(ps++[q]).getD t.parts.length 0=q:=by rw[<-h.len];simp
   have e2:(t.parts++[u]).getD t.parts.length Tr.none=u:=by simp
   rw[e1,e2];exact hst _ _ hu
 ·obtain⟨a,b,c,dd⟩:=h.small
  refine⟨?_,b,c,dd⟩;show(t.parts++[u]).length<=10000000;simp;omega
end
end
section
theorem zBF (a:UInt8):(⟨#[a]⟩:ByteArray).size=1:=rfl
def jA (s:ByteArray)(p:Nat):Option (Cs×Nat):=
 if byt s p=91 then zBT s p
 else if byt s p=92 then(if (zAG s (p+1)).ok then some (zH3 (zAG s (p+1)).num,(zAG s (p+1)).at_) else none)
 else if byt s p=46 then some (zOc,p+1)
 else if zAD (byt s p) then some (zH3 (byt s p:Nat),p+1) else none
structure Tm where
 least:Nat
 most:Nat
 endless:Bool
def Tm.copies (o:Tm):Nat:=if o.endless then(if o.least=0 then 1 else o.least) else o.most
def zA7 (s:ByteArray)(p:Nat):Option (Tm×Nat):=
 if xX (byt s (p+1)) then
  if zJ s (p+2) ⟨#[125]⟩ then some (⟨byt s (p+1)-48,byt s (p+1)-48,false⟩,p+3)
  else if zJ s (p+2) ⟨#[44]⟩ then
   if zJ s (p+3) ⟨#[125]⟩ then some (⟨byt s (p+1)-48,0,true⟩,p+4)
   else if xX (byt s (p+3))&&decide (byt s (p+1)<=byt s (p+3)) then(if zJ s (p+4) ⟨#[125]⟩ then some (⟨byt s (p+1)-48,byt s (p+3)-48,false⟩,p+5) else none)
   else none
  else none
 else none
def zDE (s:ByteArray)(p:Nat):Option (Tm×Nat):=if zJ s p ⟨#[42]⟩ then some (⟨0,0,true⟩,p+1) else if zJ s p ⟨#[43]⟩ then some (⟨1,0,true⟩,p+1) else if zJ s p ⟨#[63]⟩ then some (⟨0,1,false⟩,p+1) else zA7 s p
def braced (n:ByteArray):ByteArray:=⟨#[123]⟩++n++⟨#[125]⟩
def zCl (s:ByteArray)(p:Nat):List (ByteArray×Tr)->Option (Tr×Nat)
 |[]=>none
 |d::ds=>if zJ s p (braced d.1) then some (d.2,p+(braced d.1).size) else zCl s p ds
abbrev Reads:=Nat->Bool->Option (Tr×Nat)
def brM (s:ByteArray)(k:Nat)(sub:Reads)(p:Nat)(both:Bool):Option (Tr×Nat):=
 if k=0 then none else if zJ s p ⟨#[40,41]⟩ then some (Tr.none,p+2) else
 match sub (if zJ s p ⟨#[40,105,58]⟩ then p+3 else p+1) (zJ s p ⟨#[40,105,58]⟩||both) with
 |none=>none
 |some (t,q)=>if zJ s q ⟨#[41]⟩ then some (t,q+1) else none
def zKh (both:Bool)(c:Cs):Cs:=if both then⟨qB c.ranges,c.others⟩ else c
def zDg (s:ByteArray)(defs:List (ByteArray×Tr))(k:Nat)(sub:Reads)(p:Nat)(both:Bool):Option (Tr×Nat):=if byt s p=40 then brM s k sub p both else if byt s p=123 then zCl s p defs else(jA s p).map fun c=>(zGV (zKh both c.1),c.2)
def zBs (t:Tr)(o:Tm):Tr:=Tr.plain ⟨4,⟨[],false⟩,[t],o.least,o.most,o.endless,xI (t.chars*o.copies)⟩
def zBc (s:ByteArray):Nat->Nat->Tr->Option (Tr×Nat)
 |0,_,_=>none
 |f+1,p,t=>if zAN s p then(match zDE s p with
  |none=>none
  |some (o,q)=>zBc s f q (zBs t o)) else some (t,p)
def zDm (s:ByteArray)(defs:List (ByteArray×Tr))(k:Nat)(sub:Reads)(p:Nat)(both:Bool):Option (Tr×Nat):=
 match zDg s defs k sub p both with
 |none=>none
 |some (t,q)=>zBc s (s.size+1) q t
def zBv (s:ByteArray)(thing:Nat->Option (Tr×Nat)):Nat->Nat->Tr->Option (Tr×Nat)
 |0,_,_=>none
 |f+1,p,t=>match thing p with
  |none=>none
  |some (u,q)=>if zBA s q then some ((t.add u).plain,q) else zBv s thing f q (t.add u)
def zC0 (kind:Nat):Tr:=⟨kind,⟨[],false⟩,[],0,0,false,0⟩
def zOs (s:ByteArray)(defs:List (ByteArray×Tr))(k:Nat)(sub:Reads)(p:Nat)(both:Bool):Option (Tr×Nat):=zBv s (fun q=>zDm s defs k sub q both) (s.size+1) p (zC0 2)
def zAl (s:ByteArray)(row:Nat->Option (Tr×Nat)):Nat->Nat->Tr->Option (Tr×Nat)
 |0,_,_=>none
 |f+1,p,t=>match row p with
  |none=>none
  |some (u,q)=>if zJ s q ⟨#[124]⟩ then zAl s row f (q+1) (t.add u) else some ((t.add u).plain,q)
def zMv (s:ByteArray)(defs:List (ByteArray×Tr))(k:Nat)(sub:Reads)(p:Nat)(both:Bool):Option (Tr×Nat):=zAl s (fun q=>zOs s defs k sub q both) (s.size+1) p (zC0 3)
def zBo (s:ByteArray)(defs:List (ByteArray×Tr)):Nat->Reads
 |0=>zMv s defs 0 fun _ _=>none
 |k+1=>zMv s defs (k+1) (zBo s defs k)
def vK (s:ByteArray)(defs:List (ByteArray×Tr)):Option Tr:=
 match zBo s defs 8 0 false with
 |none=>none
 |some (t,q)=>if q=s.size then some t else none
theorem zDJ (n:Nat):xI n<=25:=by unfold xI;split <;> omega
theorem zJJ (a b:Nat):xI (xI a+xI b)=xI (a+b):=by
 unfold xI;by_cases h1:24<a <;> by_cases h2:24<b <;> by_cases h3:24<a+b <;> simp only[h1,h2,h3,if_true,if_false] <;> first|omega|(split <;> omega)
theorem zJI (a k:Nat):xI (xI a*k)=xI (a*k):=by
 rcases Nat.eq_zero_or_pos k with h|h
 ·subst h;rfl
 ·unfold xI
  by_cases h1:24<a
  ·have h2:=Nat.mul_le_mul_left a h
   have h3:=Nat.mul_le_mul_left 25 h;rw[if_pos h1,if_pos (by omega),if_pos (by omega)]
  ·rw[if_neg h1]
theorem zIq (f g:Tr->Nat)(parts:List Tr)(h:∀u∈parts,f u=g u)(j:Nat)(hj:j<=parts.length):zW f parts j=zW g parts j:=by
 induction j with
 |zero=>rfl
 |succ j ih=>
  show zW f parts j+f (parts.getD j Tr.none)=zW g parts j+g (parts.getD j Tr.none);have hm:parts.getD j Tr.none∈parts:=by
   rw[lW,lV (by omega:j<parts.length)];exact List.getElem_mem _
  rw[ih (by omega),h _ hm]
theorem zLq (f:Tr->Nat)(parts:List Tr)(u:Tr)(j:Nat)(hj:j<=parts.length):zW f (parts++[u]) j=zW f parts j:=by
 induction j with
 |zero=>rfl
 |succ j ih=>
  show zW f (parts++[u]) j+f ((parts++[u]).getD j Tr.none)=zW f parts j+f (parts.getD j Tr.none);rw[ih (by omega),lW,lW,kW (by omega)]
def zLG (c:Cs):Prop:=c.ranges.length<=10000000∧∀r∈c.ranges,-100<=r.1∧r.1<=20000000∧-100<=r.2∧r.2<=20000000
def TrOk:Nat->Tr->Prop
 |0,_=>False
 |d+1,t=>zLG t.set∧(∀u∈t.parts,TrOk d u)∧t.chars=xI (yP (d+1) t)
theorem zGs:∀d t,TrOk d t->yP (d+1) t=yP d t
 |0,_,h=>False.elim h
 |d+1,t,h=>by
  have e:=zIq _ _ _ (fun u hu=>zGs d u (h.2.1 u hu)) _ lQ;show(if t.kind=1 then 1 else if t.kind=2∨t.kind=3 then zW (yP (d+1)) t.parts t.parts.length else if t.kind=4 then t.copies*zW (yP (d+1)) t.parts t.parts.length else 0)=(if t.kind=1 then 1 else if t.kind=2∨t.kind=3 then zW (yP d) t.parts t.parts.length else if t.kind=4 then t.copies*zW (yP d) t.parts t.parts.length else 0);rw[e]
theorem TrOk.deeper:∀d t,TrOk d t->TrOk (d+1) t
 |0,_,h=>False.elim h
 |d+1,t,h=>⟨h.1,fun u hu=>TrOk.deeper d u (h.2.1 u hu),by rw[zGs (d+1) t h];exact h.2.2⟩
theorem TrOk.deep {d e:Nat}{t:Tr}(h:TrOk d t)(he:d<=e):TrOk e t:=by
 induction he with
 |refl=>exact h
 |step _ ih=>exact TrOk.deeper _ _ ih
theorem TrOk.few {d:Nat}{t:Tr}(h:TrOk d t):t.chars<=25:=by
 cases d with
 |zero=>exact False.elim h
 |succ d=>rw[h.2.2];exact zDJ _
theorem TrOk.chars {d:Nat}{t:Tr}(h:TrOk d t):t.chars=xI (yP d t):=by
 cases d with
 |zero=>exact False.elim h
 |succ d=>exact h.2.2
theorem zE0 (o:Bool):zLG ⟨[],o⟩:=⟨by show 0<=_;omega,fun r hr=>by cases hr⟩
theorem zJ0 (d:Nat):TrOk (d+1) Tr.none:=⟨zE0 false,fun u hu=>(by cases hu),rfl⟩
theorem zN0 (d:Nat)(c:Cs)(h:zLG c):TrOk (d+1) (zGV c):=⟨h,fun u hu=>(by cases hu),rfl⟩
theorem zEY {d:Nat}{t:Tr}(h:TrOk d t):TrOk d t.plain:=by
 cases d with
 |zero=>exact False.elim h
 |succ d=>
  unfold Tr.plain;split
  ·exact zJ0 d
  ·exact h
theorem zIJ {d:Nat}{t:Tr}(o:Tm)(h:TrOk d t):TrOk (d+1) (zBs t o):=by
 refine zEY ⟨zE0 false,fun u hu=>?_,?_⟩
 ·rw[kY.1 hu];exact h
 ·show xI (t.chars*o.copies)=xI (o.copies*(0+yP d t))
  rw[h.chars,zJI,Nat.zero_add,Nat.mul_comm]
theorem zGW (d k:Nat)(hk:k=2∨k=3):TrOk (d+1) (zC0 k):=by
 refine⟨zE0 false,fun u hu=>(by cases hu),?_⟩;rcases hk with e|e <;> subst e <;> rfl
theorem zHi {d:Nat}{t u:Tr}(h:TrOk (d+1) t)(hk:t.kind=2∨t.kind=3)(hu:TrOk d u):TrOk (d+1) (t.add u):=by
 refine⟨h.1,fun v hv=>?_,?_⟩
 ·rcases kU.1 hv with h1|h1
  ·exact h.2.1 v h1
  ·rw[kY.1 h1];exact hu
 ·have h1:t.kind≠1:=by omega
  have e1:yP (d+1) t=zW (yP d) t.parts t.parts.length:=by
   show(if t.kind=1 then _ else if t.kind=2∨t.kind=3 then _ else _)=_;rw[if_neg h1,if_pos hk]
  have e2:yP (d+1) (t.add u)=zW (yP d) (t.parts++[u]) (t.parts++[u]).length:=by
   show(if t.kind=1 then _ else if t.kind=2∨t.kind=3 then _ else _)=_;rw[if_neg h1,if_pos hk];rfl
  have e3:(t.parts++[u]).length=t.parts.length+1:=by simp
  have e4:(t.parts++[u]).getD t.parts.length Tr.none=u:=by simp
  show xI (t.chars+u.chars)=xI (yP (d+1) (t.add u));rw[e2,e3];show _=xI (zW (yP d) (t.parts++[u]) t.parts.length+yP d ((t.parts++[u]).getD t.parts.length Tr.none));rw[e4,zLq _ _ _ _ lQ,h.2.2,hu.chars,zJJ,e1]
theorem zDi {t u:Tr}(hk:t.kind=2∨t.kind=3):(t.add u).kind=2∨(t.add u).kind=3:=hk
theorem zFp (s:ByteArray):∀f p l l' q,zAR s f p l=some (l',q)->(∀r∈l,-100<=r.1∧r.1<=20000000∧-100<=r.2∧r.2<=20000000)->p<q∧q<=s.size∧l'.length<=l.length+(q-p)∧∀r∈l',-100<=r.1∧r.1<=20000000∧-100<=r.2∧r.2<=20000000
 |0,_,_,_,_,h,_=>by cases h
 |f+1,p,l,l',q,h,hl=>by
  obtain⟨m1,m2,m3,m4,m5,m6⟩:=zJ3 s p;have hl2:∀r∈l++[((yG s p).low,(yG s p).high)],-100<=r.1∧r.1<=20000000∧-100<=r.2∧r.2<=20000000:=fun r hr=>by
   rcases kU.1 hr with h1|h1
   ·exact hl r h1
   ·rw[kY.1 h1]
    show -100<=(yG s p).low∧(yG s p).low<=20000000∧-100<=(yG s p).high∧(yG s p).high<=20000000;omega
  have h2:(if (yG s p).ok then(if zJ s (yG s p).at_ ⟨#[93]⟩ then some (l++[((yG s p).low,(yG s p).high)],(yG s p).at_+1) else zAR s f (yG s p).at_ (l++[((yG s p).low,(yG s p).high)])) else none)=some (l',q):=h;by_cases hk:(yG s p).ok=true
  ·rw[if_pos hk] at h2
   have m7:=m2 hk;by_cases ht:zJ s (yG s p).at_ ⟨#[93]⟩=true
   ·rw[if_pos ht] at h2
    have e:=hU h2;have e1:l++[((yG s p).low,(yG s p).high)]=l':=congrArg Prod.fst e;have e2:(yG s p).at_+1=q:=congrArg Prod.snd e;have h5:=vB ht;rw[zBF] at h5;refine⟨by omega,by omega,?_,by rw[<-e1];exact hl2⟩;rw[<-e1,kX];show l.length+1<=_;omega
   ·rw[if_neg ht] at h2
    obtain⟨a,b,c,dd⟩:=zFp s f _ _ l' q h2 hl2;refine⟨by omega,b,?_,dd⟩;rw[kX] at c;have e9:[((yG s p).low,(yG s p).high)].length=1:=rfl;omega
  ·rw[if_neg hk] at h2
   cases h2
theorem zL4 (n:Int)(h:0<=n∧n<=16777216):zLG (zH3 n):=⟨by show 1<=_;omega,fun r hr=>by rw[kY.1 hr];show -100<=n∧n<=20000000∧-100<=n∧n<=20000000;omega⟩
def zMM (c:Cs):Prop:=c.ranges.length<=3000000∧∀r∈c.ranges,-100<=r.1∧r.1<=20000000∧-100<=r.2∧r.2<=20000000
theorem zCS (s:ByteArray)(hs:s.size<=1048576)(p:Nat)(c:Cs)(q:Nat)(h:jA s p=some (c,q)):p<q∧q<=s.size∧zMM c:=by
 have one1:∀n:Int,0<=n∧n<=16777216->zMM (zH3 n):=fun n hn=>⟨by show 1<=_;omega,(zL4 n hn).2⟩
 have hb:=zAm s p;unfold jA at h;split at h
 ·unfold zBT at h
  cases hg:zAR s (s.size+1) (if zJ s (p+1) ⟨#[94]⟩ then p+2 else p+1) [] with
  |none=>rw[hg] at h;cases h
  |some g=>
   obtain⟨l',q'⟩:=g;rw[hg] at h;have e:=hU h;have e1:(⟨l',zJ s (p+1) ⟨#[94]⟩⟩:Cs)=c:=congrArg Prod.fst e;have e2:q'=q:=congrArg Prod.snd e;obtain⟨a,b,cc,dd⟩:=zFp s _ _ _ l' q' hg (fun r hr=>by cases hr);have e0:([]:List (Int×Int)).length=0:=rfl;have a2:p+1<=(if zJ s (p+1) ⟨#[94]⟩ then p+2 else p+1):=by split <;> omega
   refine⟨by omega,by omega,?_⟩;rw[<-e1];exact⟨by show l'.length<=_;omega,dd⟩
 split at h
 ·obtain⟨a,b,cc,dd⟩:=zKe s (p+1)
  split at h
  ·rename_i hk
   have e:=hU h;have e1:zH3 (zAG s (p+1)).num=c:=congrArg Prod.fst e;have e2:(zAG s (p+1)).at_=q:=congrArg Prod.snd e;have:=b hk;exact⟨by omega,by omega,by rw[<-e1];exact one1 _ ⟨cc,dd⟩⟩
  ·cases h
 split at h
 ·rename_i e46
  have hin:p<s.size:=zBU (by omega);have e:=hU h;have e1:zOc=c:=congrArg Prod.fst e;have e2:p+1=q:=congrArg Prod.snd e;refine⟨by omega,by omega,?_⟩;rw[<-e1];exact⟨by show 1<=_;omega,fun r hr=>by rw[kY.1 hr];decide⟩
 split at h
 ·rename_i hk
  have hin:=zBU fun e=>by rw[e] at hk;exact absurd hk (by decide)
  have e:=hU h;have e1:zH3 (byt s p:Nat)=c:=congrArg Prod.fst e;have e2:p+1=q:=congrArg Prod.snd e;exact⟨by omega,by omega,by rw[<-e1];exact one1 _ ⟨by omega,by omega⟩⟩
 ·cases h
theorem zH6 (r:Int×Int)(first last far:Int)(hf:0<=first)(hl:last<=200)(hfa:-100<=far∧far<=100):∀x∈yT r first last far,-100<=x.1∧x.1<=20000000∧-100<=x.2∧x.2<=20000000:=fun x hx=>by
 unfold yT at hx;by_cases hle:(if first<r.1 then r.1 else first)<=(if r.2<last then r.2 else last)
 ·rw[if_pos hle] at hx
  rw[kY.1 hx];show -100<=(if first<r.1 then r.1 else first)+far∧(if first<r.1 then r.1 else first)+far<=20000000∧-100<=(if r.2<last then r.2 else last)+far∧(if r.2<last then r.2 else last)+far<=20000000;have h1:first<=(if first<r.1 then r.1 else first):=by split <;> omega
  have h2:(if r.2<last then r.2 else last)<=last:=by split <;> omega
  omega
 ·rw[if_neg hle] at hx
  cases hx
theorem zMB (both:Bool)(c:Cs)(h:zMM c):zLG (zKh both c):=by
 unfold zKh;split
 ·have hb:=zGu c.ranges
  refine⟨?_,fun x hx=>?_⟩
  ·show(qB c.ranges).length<=10000000
   have:=h.1;omega
  ·have hx2:=hx
   unfold qB at hx2;obtain⟨r,hr,hxr⟩:=List.mem_flatMap.1 hx2;unfold zIw at hxr;rcases List.mem_cons.1 hxr with h1|h1
   ·rw[h1];exact h.2 r hr
   rcases kU.1 h1 with h2|h2
   ·exact zH6 r 65 90 32 (by decide) (by decide) ⟨by decide,by decide⟩ x h2
   ·exact zH6 r 97 122 (-32) (by decide) (by decide) ⟨by decide,by decide⟩ x h2
 ·exact⟨lY h.1 (by omega),h.2⟩
theorem zG5 (s:ByteArray)(p:Nat)(o:Tm)(q:Nat)(h:zDE s p=some (o,q)):p<q∧q<=s.size∧o.least<=300∧o.most<=300:=by
 have fin:∀(o':Tm) (q' i:Nat) (x:UInt8),zJ s i ⟨#[x]⟩=true->some (o',q')=some (o,q)->q'=i+1->p<=i->o'.least<=300->o'.most<=300->p<q∧q<=s.size∧o.least<=300∧o.most<=300:=fun o' q' i x ht e hq hi h1 h2=>by
  have e:=hU e;have e1:o'=o:=congrArg Prod.fst e;have e2:q'=q:=congrArg Prod.snd e;have h5:=vB ht;rw[zBF] at h5;subst e1 e2;exact⟨by omega,by omega,h1,h2⟩
 have hb1:=zAm s (p+1);have hb3:=zAm s (p+3);unfold zDE at h;split at h
 ·rename_i ht;exact fin _ _ p _ ht h rfl (by omega) (by show 0<=300;omega) (by show 0<=300;omega)
 split at h
 ·rename_i ht;exact fin _ _ p _ ht h rfl (by omega) (by show 1<=300;omega) (by show 0<=300;omega)
 split at h
 ·rename_i ht;exact fin _ _ p _ ht h rfl (by omega) (by show 0<=300;omega) (by show 1<=300;omega)
 unfold zA7 at h;split at h
 ·split at h
  ·rename_i ht;exact fin _ _ (p+2) _ ht h rfl (by omega) (by show byt s (p+1)-48<=300;omega) (by show byt s (p+1)-48<=300;omega)
  split at h
  ·split at h
   ·rename_i ht;exact fin _ _ (p+3) _ ht h rfl (by omega) (by show byt s (p+1)-48<=300;omega) (by show 0<=300;omega)
   split at h
   ·split at h
    ·rename_i ht;exact fin _ _ (p+4) _ ht h rfl (by omega) (by show byt s (p+1)-48<=300;omega) (by show byt s (p+3)-48<=300;omega)
    ·cases h
   ·cases h
  ·cases h
 ·cases h
theorem zEC (s:ByteArray)(D:Nat):∀f p t u q,zBc s f p t=some (u,q)->p<=s.size->TrOk (D+4*p) t->p<=q∧q<=s.size∧TrOk (D+4*q) u
 |0,_,_,_,_,h,_,_=>by cases h
 |f+1,p,t,u,q,h,hp,ht=>by
  have h2:(if zAN s p then(match zDE s p with|none=>none|some (o,q)=>zBc s f q (zBs t o)) else some (t,p))=some (u,q):=h;split at h2
  ·cases hh:zDE s p with
   |none=>rw[hh] at h2;cases h2
   |some g=>
    obtain⟨o,q1⟩:=g;rw[hh] at h2;obtain⟨a,b,-,-⟩:=zG5 s p o q1 hh;obtain⟨c,d,e⟩:=zEC s D f q1 (zBs t o) u q h2 b ((zIJ o ht).deep (by omega));exact⟨by omega,d,e⟩
  ·have e:=hU h2
   have e1:t=u:=congrArg Prod.fst e;have e2:p=q:=congrArg Prod.snd e;subst e1 e2;exact⟨lQ,hp,ht⟩
def zBZ (s:ByteArray)(D:Nat)(f:Nat->Option (Tr×Nat)):Prop:=∀p t q,f p=some (t,q)->p<q∧q<=s.size∧TrOk (D+4*q) t
theorem zHL (s:ByteArray)(D:Nat)(thing:Nat->Option (Tr×Nat))(ht:zBZ s D thing):∀f p t u q,zBv s thing f p t=some (u,q)->(t.kind=2∨t.kind=3)->TrOk (D+1+4*p) t->p<q∧q<=s.size∧TrOk (D+1+4*q) u
 |0,_,_,_,_,h,_,_=>by cases h
 |f+1,p,t,u,q,h,hk,hT=>by
  have h2:(match thing p with|none=>none|some (u,q)=>if zBA s q then some ((t.add u).plain,q) else zBv s thing f q (t.add u))=some (u,q):=h;cases hh:thing p with
  |none=>rw[hh] at h2;cases h2
  |some g=>
   obtain⟨v,q1⟩:=g;rw[hh] at h2;obtain⟨a,b,c⟩:=ht p v q1 hh;have hA:TrOk (D+1+4*q1) (t.add v):=by
    rw[show D+1+4*q1=D+4*q1+1 by omega];exact zHi (hT.deep (by omega)) hk c
   have h3:(if zBA s q1 then some ((t.add v).plain,q1) else zBv s thing f q1 (t.add v))=some (u,q):=h2;split at h3
   ·have e:=hU h3
    have e1:(t.add v).plain=u:=congrArg Prod.fst e;have e2:q1=q:=congrArg Prod.snd e;subst e1 e2;exact⟨a,b,zEY hA⟩
   ·obtain⟨c1,c2,c3⟩:=zHL s D thing ht f q1 (t.add v) u q h3 (zDi hk) hA
    exact⟨by omega,c2,c3⟩
theorem zGp (s:ByteArray)(D:Nat)(row:Nat->Option (Tr×Nat))(ht:zBZ s D row):∀f p t u q,zAl s row f p t=some (u,q)->(t.kind=2∨t.kind=3)->TrOk (D+1+4*p) t->p<q∧q<=s.size∧TrOk (D+1+4*q) u
 |0,_,_,_,_,h,_,_=>by cases h
 |f+1,p,t,u,q,h,hk,hT=>by
  have h2:(match row p with|none=>none|some (u,q)=>if zJ s q ⟨#[124]⟩ then zAl s row f (q+1) (t.add u) else some ((t.add u).plain,q))=some (u,q):=h;cases hh:row p with
  |none=>rw[hh] at h2;cases h2
  |some g=>
   obtain⟨v,q1⟩:=g;rw[hh] at h2;obtain⟨a,b,c⟩:=ht p v q1 hh;have hA:TrOk (D+1+4*q1) (t.add v):=by
    rw[show D+1+4*q1=D+4*q1+1 by omega];exact zHi (hT.deep (by omega)) hk c
   have h3:(if zJ s q1 ⟨#[124]⟩ then zAl s row f (q1+1) (t.add v) else some ((t.add v).plain,q1))=some (u,q):=h2;split at h3
   ·obtain⟨c1,c2,c3⟩:=zGp s D row ht f (q1+1) (t.add v) u q h3 (zDi hk) (hA.deep (by omega))
    exact⟨by omega,c2,c3⟩
   ·have e:=hU h3
    have e1:(t.add v).plain=u:=congrArg Prod.fst e;have e2:q1=q:=congrArg Prod.snd e;subst e1 e2;exact⟨a,b,zEY hA⟩
def zAZ (D:Nat)(defs:List (ByteArray×Tr)):Prop:=∀d∈defs,TrOk D d.2
theorem zBV (n:ByteArray):(braced n).size=n.size+2:=by
 unfold braced;rw[ByteArray.size_append,ByteArray.size_append,zBF,zBF];omega
theorem zH5 (s:ByteArray)(D p:Nat):∀defs t q,zAZ D defs->zCl s p defs=some (t,q)->p<q∧q<=s.size∧TrOk D t
 |[],_,_,_,h=>by cases h
 |d::ds,t,q,hd,h=>by
  have h2:(if zJ s p (braced d.1) then some (d.2,p+(braced d.1).size) else zCl s p ds)=some (t,q):=h;split at h2
  ·rename_i ht
   have e:=hU h2;have e1:d.2=t:=congrArg Prod.fst e;have e2:p+(braced d.1).size=q:=congrArg Prod.snd e;have h5:=vB ht;have h6:=zBV d.1;subst e1;exact⟨by omega,by omega,hd d gY⟩
  ·exact zH5 s D p ds t q (fun x hx=>hd x (List.mem_cons_of_mem _ hx)) h2
section
variable {s:ByteArray} {D:Nat} {defs:List (ByteArray×Tr)} {k:Nat} {sub:Reads}
theorem zOe (hsub:∀both,zBZ s (D+2) fun p=>sub p both)(both:Bool):zBZ s D fun p=>brM s k sub p both:=fun p t q h=>by
 have h2:brM s k sub p both=some (t,q):=h;unfold brM at h2;split at h2
 ·cases h2
 split at h2
 ·rename_i ht
  have h5:=vB ht;have e5:(⟨#[40,41]⟩:ByteArray).size=2:=rfl;have e:=hU h2;have e1:Tr.none=t:=congrArg Prod.fst e;have e2:p+2=q:=congrArg Prod.snd e;subst e1 e2;exact⟨by omega,by omega,by rw[show D+4*(p+2)=D+4*p+7+1 by omega];exact zJ0 _⟩
 ·have hp:p+1<=(if zJ s p ⟨#[40,105,58]⟩ then p+3 else p+1):=by split <;> omega
  generalize (if zJ s p ⟨#[40,105,58]⟩ then p+3 else p+1)=p1 at *;generalize (zJ s p ⟨#[40,105,58]⟩||both)=bb at *;cases hh:sub p1 bb with
  |none=>rw[hh] at h2;cases h2
  |some g=>
   obtain⟨v,q1⟩:=g;rw[hh] at h2;obtain⟨a,b,c⟩:=hsub bb p1 v q1 hh;have h3:(if zJ s q1 ⟨#[41]⟩ then some (v,q1+1) else none)=some (t,q):=h2;split at h3
   ·rename_i ht
    have h5:=vB ht;rw[zBF] at h5;have e:=hU h3;have e1:v=t:=congrArg Prod.fst e;have e2:q1+1=q:=congrArg Prod.snd e;subst e1 e2;exact⟨by omega,by omega,c.deep (by omega)⟩
   ·cases h3
theorem zFv (hs:s.size<=1048576)(hd:zAZ D defs)(hsub:∀both,zBZ s (D+2) fun p=>sub p both)(both:Bool):zBZ s D fun p=>zDg s defs k sub p both:=fun p t q h=>by
 have h2:zDg s defs k sub p both=some (t,q):=h;unfold zDg at h2;split at h2
 ·exact zOe hsub both p t q h2
 split at h2
 ·obtain⟨a,b,c⟩:=zH5 s D p defs t q hd h2
  exact⟨a,b,c.deep (by omega)⟩
 ·cases hh:jA s p with
  |none=>rw[hh] at h2;cases h2
  |some g=>
   obtain⟨c,q1⟩:=g;rw[hh] at h2;have e:=hU h2;have e1:zGV (zKh both c)=t:=congrArg Prod.fst e;have e2:q1=q:=congrArg Prod.snd e;obtain⟨a,b,cc⟩:=zCS s hs p c q1 hh;subst e1 e2;exact⟨a,b,by rw[show D+4*q1=D+4*q1-1+1 by omega];exact zN0 _ _ (zMB both c cc)⟩
theorem zDl (hs:s.size<=1048576)(hd:zAZ D defs)(hsub:∀both,zBZ s (D+2) fun p=>sub p both)(both:Bool):zBZ s D fun p=>zDm s defs k sub p both:=fun p t q h=>by
 have h2:zDm s defs k sub p both=some (t,q):=h;unfold zDm at h2;cases hh:zDg s defs k sub p both with
 |none=>rw[hh] at h2;cases h2
 |some g=>
  obtain⟨v,q1⟩:=g;rw[hh] at h2;obtain⟨a,b,c⟩:=zFv hs hd hsub both p v q1 hh;obtain⟨a2,b2,c2⟩:=zEC s D _ q1 v t q h2 b c;exact⟨by omega,b2,c2⟩
theorem zGK (hs:s.size<=1048576)(hd:zAZ D defs)(hsub:∀both,zBZ s (D+2) fun p=>sub p both)(both:Bool):zBZ s (D+1) fun p=>zOs s defs k sub p both:=fun p t q h=>zHL s D _ (zDl hs hd hsub both) _ p (zC0 2) t q h (.inl rfl) (by rw[show D+1+4*p=D+4*p+1 by omega];exact zGW _ 2 (.inl rfl))
theorem zIo (hs:s.size<=1048576)(hd:zAZ D defs)(hsub:∀both,zBZ s (D+2) fun p=>sub p both)(both:Bool):zBZ s (D+2) fun p=>zMv s defs k sub p both:=fun p t q h=>zGp s (D+1) _ (zGK hs hd hsub both) _ p (zC0 3) t q h (.inr rfl) (by rw[show D+1+1+4*p=D+4*p+1+1 by omega];exact zGW _ 3 (.inr rfl))
theorem jT (hs:s.size<=1048576)(hd:zAZ D defs):∀k both,zBZ s (D+2) fun p=>zBo s defs k p both
 |0,both=>zIo hs hd (fun _ p t q h=>by cases h) both
 |k+1,both=>zIo hs hd (jT hs hd k) both
end
end
theorem zMX {w w2:World}{b:Nat}(hb:b<w.heap.size)(hk:Keep (w.heap.size+1) b (w.alloc (.cells #[slice none 0 0,bool false] 161)) w2):w2.heap[w.heap.size]? =some (.cells #[slice none 0 0,bool false] 161)∧w2.cell? ⟨w.heap.size,0,none⟩=some (slice none 0 0)∧w2.cell? ⟨w.heap.size,1,none⟩=some (bool false)∧w2.frozen? ⟨w.heap.size,0,none⟩=false∧w2.frozen? ⟨w.heap.size,1,none⟩=false∧Keep w.heap.size b w w2:=by
 have h1:=gU w (.cells #[slice none 0 0,bool false] 161);have h2:=(hk.block w.heap.size (by omega) (by omega)).trans h1;refine⟨h2,?_,?_,?_,?_,(kZ (H:=w.heap.size) (b:=b) _ _ lQ).trans ⟨hk.os,hk.output,hk.size,fun k h1 h2=>hk.block k (by omega) h2⟩⟩
 all_goals first|(unfold cell?;rw[h2];rfl)|(unfold frozen?;rw[h2];simp)
theorem zMD {w1:World}{b:Nat}{s:ByteArray}{dv:Value}{r:Rx}(h1:RxAt w1 b s dv r):∃w2,w2=w1.setCell ⟨b,2,none⟩ (int i64 ((r.at_:Int)+1))∧RxAt w2 b s dv {r with at_:=r.at_+1}∧(∀H,Keep H b w1 w2)∧w1.cell? ⟨b,2,none⟩=some (int i64 (r.at_:Int))∧w1.frozen? ⟨b,2,none⟩=false:=
 ⟨_,rfl,h1.setAt (r.at_+1),fun H=>Keep.set _ _ _,h1.cells.2.2.1,h1.cells.2.2.2.2.2 2⟩
theorem jN {w:World}{b:Nat}{s:ByteArray}{dv:Value}{r:Rx}(h:RxAt w b s dv r)(hs:s.size<=1048576)(ha:r.at_<=s.size):∃w1,w1=w.alloc (.cells #[slice none 0 0,bool false] 161)∧RxAt w1 b s dv r∧Hid (∀w2,Keep (w.heap.size+1) b w1 w2->w2.heap[w.heap.size]? =some (.cells #[slice none 0 0,bool false] 161)∧w2.cell? ⟨w.heap.size,0,none⟩=some (slice none 0 0)∧w2.cell? ⟨w.heap.size,1,none⟩=some (bool false)∧w2.frozen? ⟨w.heap.size,0,none⟩=false∧w2.frozen? ⟨w.heap.size,1,none⟩=false∧Keep w.heap.size b w w2)∧Hid (w1.heap.size=w.heap.size+1)∧Hid (b<w.heap.size)∧Hid (Calls prog 200 #[pointer (some ⟨b,0,none⟩),int i64 0] w1 fun e w'=>e=returned (int .u8 (byt s r.at_:Nat))∧w'=w1):=
 have h1:=RxAt.of_block h (lG _ _ _ h.lt)
 ⟨_,rfl,h1,fun w2 hk=>zMX h.lt hk,by show _=_;simp,h.lt,(zGS hs (by omega)).out _ h1⟩
theorem zNX (w:World)(b:Nat)(s:ByteArray)(dv:Value)(r:Rx)(h:RxAt w b s dv r)(hs:s.size<=1048576)(ha:r.at_<=s.size)(hc:byt s r.at_=91)(hm:zBT s r.at_=none):
  Calls prog 203 #[pointer (some ⟨b,0,none⟩)] w (zAn w b s dv r (jA s r.at_)):=by
 obtain⟨w1,hw1,h1,HK1,HZ1,HLB,HP0⟩:=jN h hs ha;have HA:Hid (jA s r.at_=none):=by show _=_;unfold jA;rw[if_pos hc,hm]
 have HCL:=vl (zD5 w1 b s dv r h1 hs (zBU (by omega)));rw[hm] at HCL;rw[HA.out];rw[hc] at HP0;go_in;apply wp_cut;intro K0 J;go_wp2;apply J.out;rw[<-hw1];clear hw1;go_wp2_with (first|(go_at_call 200;refine HP0.out.mono ?_;rintro e w9 ⟨rfl,hw9⟩;have hw8:=hw9.symm;subst hw8)|(go_at_call 208;refine HCL.out.mono ?_;rintro e w2 ⟨hk2,v,n,cc,o,q,rfl,hR2⟩;have HRR:=vl hR2;obtain⟨hB,c0,c1,f0,f1,hkk⟩:=HK1.out w2 (by rw[<-HZ1.out];exact hk2);obtain⟨w7,hw7,z0,z1,HZ⟩:=vH w w2 b s dv {r with at_:=q} _ _ (slice v n cc) (o) HLB.out hB HRR.out hkk;clear hB hkk))
 rw[<-hw7];refine bodyPost_ret (v:=tuple #[agg #[slice v n cc,bool (o)],bool false]) (by simp[results,results203,go_sem,z0,z1]) rfl ?_;exact⟨HZ.out.2.1,v,n,cc,o,q,rfl,HZ.out.1⟩
theorem zNW (w:World)(b:Nat)(s:ByteArray)(dv:Value)(r:Rx)(h:RxAt w b s dv r)(hs:s.size<=1048576)(ha:r.at_<=s.size)(hc:byt s r.at_=91)(c:Cs)(q:Nat)(hm:zBT s r.at_=some (c,q)):
  Calls prog 203 #[pointer (some ⟨b,0,none⟩)] w (zAn w b s dv r (jA s r.at_)):=by
 obtain⟨w1,hw1,h1,HK1,HZ1,HLB,HP0⟩:=jN h hs ha;have HA:Hid (jA s r.at_=some (c,q)):=by show _=_;unfold jA;rw[if_pos hc,hm]
 have HCL:=vl (zD5 w1 b s dv r h1 hs (zBU (by omega)));rw[hm] at HCL;rw[HA.out];rw[hc] at HP0;go_in;apply wp_cut;intro K0 J;go_wp2;apply J.out;clear J;rw[<-hw1];clear hw1;go_wp2_with (first|(go_at_call 200;refine HP0.out.mono ?_;rintro e w9 ⟨rfl,hw9⟩;have hw8:=hw9.symm;subst hw8)|(go_at_call 208;refine HCL.out.mono ?_;rintro e w2 ⟨hk2,u,rfl,hu2,hR2⟩;obtain⟨ao,cap,hu,-⟩:=hu2.at;subst hu;have HRR:=vl hR2;have HRI:Hid (RangesIn (fun i=>w.heap.size<i) w2 (slice ao c.ranges.length cap) c.ranges):=hu2.mono (fun i _ hi=>by have:=HZ1.out;omega);obtain⟨hB,c0,c1,f0,f1,hkk⟩:=HK1.out w2 (by rw[<-HZ1.out];exact hk2);obtain⟨w7,hw7,z0,z1,HZ⟩:=vH w w2 b s dv {r with at_:=q} _ _ (slice ao c.ranges.length cap) (c.others) HLB.out hB HRR.out hkk;clear hB hkk))
 rw[<-hw7];refine bodyPost_ret (v:=tuple #[agg #[slice ao c.ranges.length cap,bool (c.others)],bool true]) (by simp[results,results203,go_sem,z0,z1]) rfl ?_;exact⟨HZ.out.2.1,_,rfl,HZ.out.2.2 _ HRI.out,HZ.out.1⟩
theorem zNU (w:World)(b:Nat)(s:ByteArray)(dv:Value)(r:Rx)(h:RxAt w b s dv r)(hs:s.size<=1048576)(ha:r.at_<=s.size)(hc:byt s r.at_=92)(es:Sg)(hes:zAG s (r.at_+1)=es)(hok:es.ok=true):
  Calls prog 203 #[pointer (some ⟨b,0,none⟩)] w (zAn w b s dv r (jA s r.at_)):=by
 obtain⟨w1,hw1,h1,HK1,HZ1,HLB,HP0⟩:=jN h hs ha;have HA:Hid (jA s r.at_=some (zH3 es.num,es.at_)):=by show _=_;unfold jA;rw[if_neg (by omega),if_pos hc,hes,hok];rfl
 have HES:=vl (zBn w1 b s dv r h1 hs (by omega));rw[hes,hok] at HES;rw[HA.out];rw[hc] at HP0;clear HA hc hes hok;clear h h1;go_in;apply wp_cut;intro K0 J;go_wp2;apply J.out;clear J;rw[<-hw1];clear hw1;go_wp2_with (first|(go_at_call 200;refine HP0.out.mono ?_;rintro e w9 ⟨rfl,hw9⟩;have hw8:=hw9.symm;subst hw8)|(go_at_call 209;refine HES.out.mono ?_;rintro e w2 ⟨rfl,hR2,hk2⟩)|(go_at_call 210;refine(zDt w2 es.num).mono ?_;rintro e w3 ⟨u,rfl,⟨g,hg,rfl,hgb⟩,hk3⟩;have hs2:=(hk2 0).size;have hb2:b<w2.heap.size:=hR2.lt;have HRR:=vl <| RxAt.of_block hR2 (hk3.block b hb2 (by omega));have HRI:Hid (RangesIn (fun i=>w.heap.size<i) w3 (slice (some ⟨g,0,none⟩) 1 1) [(es.num,es.num)]):=zGU hgb (by have:=HZ1.out;omega);obtain⟨hB,c0,c1,f0,f1,hkk⟩:=HK1.out w3 ((hk2 _).trans ⟨hk3.os,hk3.output,hk3.size,fun k h1 _=>hk3.block k (by have:=HZ1.out;omega) (by have:=HZ1.out;omega)⟩);obtain⟨w7,hw7,z0,z1,HZ⟩:=vH w w3 b s dv {r with at_:=es.at_} _ _ (slice (some ⟨g,0,none⟩) 1 1) (false) HLB.out hB HRR.out hkk;clear hB hkk;clear hs2 hb2 hg))
 rw[<-hw7];refine bodyPost_ret (v:=tuple #[agg #[slice (some ⟨g,0,none⟩) 1 1,bool (false)],bool true]) (by simp[results,results203,go_sem,z0,z1]) rfl ?_;exact⟨HZ.out.2.1,_,rfl,HZ.out.2.2 _ HRI.out,HZ.out.1⟩
theorem zNV (w:World)(b:Nat)(s:ByteArray)(dv:Value)(r:Rx)(h:RxAt w b s dv r)(hs:s.size<=1048576)(ha:r.at_<=s.size)(hc:byt s r.at_=92)(es:Sg)(hes:zAG s (r.at_+1)=es)(hok:es.ok=false):
  Calls prog 203 #[pointer (some ⟨b,0,none⟩)] w (zAn w b s dv r (jA s r.at_)):=by
 obtain⟨w1,hw1,h1,HK1,HZ1,HLB,HP0⟩:=jN h hs ha;have HA:Hid (jA s r.at_=none):=by show _=_;unfold jA;rw[if_neg (by omega),if_pos hc,hes,hok];rfl
 have HES:=vl (zBn w1 b s dv r h1 hs (by omega));rw[hes,hok] at HES;rw[HA.out];rw[hc] at HP0;go_in;apply wp_cut;intro K0 J;go_wp2;apply J.out;clear J;rw[<-hw1];clear hw1;go_wp2_with (first|(go_at_call 200;refine HP0.out.mono ?_;rintro e w9 ⟨rfl,hw9⟩;have hw8:=hw9.symm;subst hw8)|(go_at_call 209;refine HES.out.mono ?_;rintro e w2 ⟨rfl,hR2,hk2⟩)|(go_at_call 210;refine(zDt w2 es.num).mono ?_;rintro e w3 ⟨u,rfl,⟨g,hg,rfl,hgb⟩,hk3⟩;have hs2:=(hk2 0).size;have hb2:b<w2.heap.size:=hR2.lt;have HRR:=vl <| RxAt.of_block hR2 (hk3.block b hb2 (by omega));have HRI:=vl <| zGU hgb (by have:=HZ1.out;omega);obtain⟨hB,c0,c1,f0,f1,hkk⟩:=HK1.out w3 ((hk2 _).trans ⟨hk3.os,hk3.output,hk3.size,fun k h1 _=>hk3.block k (by have:=HZ1.out;omega) (by have:=HZ1.out;omega)⟩);obtain⟨w7,hw7,z0,z1,HZ⟩:=vH w w3 b s dv {r with at_:=es.at_} _ _ (slice (some ⟨g,0,none⟩) 1 1) (false) HLB.out hB HRR.out hkk;clear hB hkk;clear hs2 hb2 hg))
 rw[<-hw7];refine bodyPost_ret (v:=tuple #[agg #[slice (some ⟨g,0,none⟩) 1 1,bool (false)],bool false]) (by simp[results,results203,go_sem,z0,z1]) rfl ?_;exact⟨HZ.out.2.1,some ⟨g,0,none⟩,1,1,false,es.at_,rfl,HZ.out.1⟩
theorem zOr (w:World)(b:Nat)(s:ByteArray)(dv:Value)(r:Rx)(h:RxAt w b s dv r)(hs:s.size<=1048576)(ha:r.at_<=s.size)(hc:byt s r.at_=46):
  Calls prog 203 #[pointer (some ⟨b,0,none⟩)] w (zAn w b s dv r (jA s r.at_)):=by
 obtain⟨w1,hw1,h1,HK1,HZ1,HLB,HP0⟩:=jN h hs ha;have HA:Hid (jA s r.at_=some (zOc,r.at_+1)):=by show _=_;unfold jA;rw[if_neg (by omega),if_neg (by omega),if_pos hc]
 rw[HA.out];obtain⟨w2,hw2,hR2,hk2,c2,cf2⟩:=zMD h1;rw[hc] at HP0;clear hc;clear HA;clear h h1;go_in;apply wp_cut;intro K0 J;go_wp2;apply J.out;clear J;rw[<-hw1];clear hw1;go_wp2_with (first|(go_at_call 200;refine HP0.out.mono ?_;rintro e w9 ⟨rfl,hw9⟩;have hw8:=hw9.symm;subst hw8)|(rw [<-hw2];go_at_call 211;refine(zLi w2).mono ?_;rintro e w3 ⟨u,rfl,⟨g,hg,rfl,hgb⟩,hk3⟩;have hs2:=(hk2 0).size;have hb2:b<w2.heap.size:=hR2.lt;have HRR:=vl <| RxAt.of_block hR2 (hk3.block b hb2 (by omega));have HRI:Hid (RangesIn (fun i=>w.heap.size<i) w3 (slice (some ⟨g,0,none⟩) 1 1) [(10,10)]):=zGU hgb (by have:=HZ1.out;omega);obtain⟨hB,c0,c1,f0,f1,hkk⟩:=HK1.out w3 ((hk2 _).trans ⟨hk3.os,hk3.output,hk3.size,fun k h1 _=>hk3.block k (by have:=HZ1.out;omega) (by have:=HZ1.out;omega)⟩);obtain⟨w7,hw7,z0,z1,HZ⟩:=vH w w3 b s dv {r with at_:=r.at_+1} _ _ (slice (some ⟨g,0,none⟩) 1 1) (true) HLB.out hB HRR.out hkk;clear hB hkk;clear hs2 hb2 hg))
 rw[<-hw7];refine bodyPost_ret (v:=tuple #[agg #[slice (some ⟨g,0,none⟩) 1 1,bool (true)],bool true]) (by simp[results,results203,go_sem,z0,z1]) rfl ?_;exact⟨HZ.out.2.1,_,rfl,HZ.out.2.2 _ HRI.out,HZ.out.1⟩
theorem zOp (w:World)(b:Nat)(s:ByteArray)(dv:Value)(r:Rx)(h:RxAt w b s dv r)(hs:s.size<=1048576)(ha:r.at_<=s.size)(c:Nat)(hcc:byt s r.at_=c)(n1:c≠91)(n2:c≠92)(n3:c≠46)(hp:zAD c=true):
  Calls prog 203 #[pointer (some ⟨b,0,none⟩)] w (zAn w b s dv r (jA s r.at_)):=by
 obtain⟨w1,hw1,h1,HK1,HZ1,HLB,HP0⟩:=jN h hs ha;have HA:Hid (jA s r.at_=some (zH3 (c:Nat),r.at_+1)):=by show _=_;unfold jA;rw[hcc,if_neg n1,if_neg n2,if_neg n3,if_pos hp]
 rw[HA.out];obtain⟨w2,hw2,hR2,hk2,c2,cf2⟩:=zMD h1;have hcl:=zAm s r.at_;rw[hcc] at HP0 hcl;have HIP:=vl fun w=>zCo w c;rw[hp] at HIP;have e1:((c:Int)==91)=false:=by rw[hJ];omega
 have e2:((c:Int)==92)=false:=by rw[hJ];omega
 have e3:((c:Int)==46)=false:=by rw[hJ];omega
 clear hcc n1 n2 n3 hp;clear HA;clear h h1;go_in;apply wp_cut;intro K0 J;go_wp2;apply J.out;clear J;rw[<-hw1];clear hw1;go_wp2_with (first|(go_at_call 200;refine HP0.out.mono ?_;rintro e w9 ⟨rfl,hw9⟩;have hw8:=hw9.symm;subst hw8)|(go_at_call 212;refine(HIP.out _).mono ?_;rintro e w9 ⟨rfl,hw9⟩;have hw8:=hw9.symm;subst hw8)|(rw [<-hw2];go_at_call 210;refine(zDt w2 (c:Int)).mono ?_;rintro e w3 ⟨u,rfl,⟨g,hg,rfl,hgb⟩,hk3⟩;have hs2:=(hk2 0).size;have hb2:b<w2.heap.size:=hR2.lt;have HRR:=vl <| RxAt.of_block hR2 (hk3.block b hb2 (by omega));have HRI:Hid (RangesIn (fun i=>w.heap.size<i) w3 (slice (some ⟨g,0,none⟩) 1 1) [((c:Int),(c:Int))]):=zGU hgb (by have:=HZ1.out;omega);obtain⟨hB,c0,c1,f0,f1,hkk⟩:=HK1.out w3 ((hk2 _).trans ⟨hk3.os,hk3.output,hk3.size,fun k h1 _=>hk3.block k (by have:=HZ1.out;omega) (by have:=HZ1.out;omega)⟩);obtain⟨w7,hw7,z0,z1,HZ⟩:=vH w w3 b s dv {r with at_:=r.at_+1} _ _ (slice (some ⟨g,0,none⟩) 1 1) (false) HLB.out hB HRR.out hkk;clear hB hkk;clear hs2 hb2 hg))
 rw[<-hw7];refine bodyPost_ret (v:=tuple #[agg #[slice (some ⟨g,0,none⟩) 1 1,bool (false)],bool true]) (by simp[results,results203,go_sem,z0,z1]) rfl ?_;exact⟨HZ.out.2.1,_,rfl,HZ.out.2.2 _ HRI.out,HZ.out.1⟩
theorem zOq (w:World)(b:Nat)(s:ByteArray)(dv:Value)(r:Rx)(h:RxAt w b s dv r)(hs:s.size<=1048576)(ha:r.at_<=s.size)(c:Nat)(hcc:byt s r.at_=c)(n1:c≠91)(n2:c≠92)(n3:c≠46)(hp:zAD c=false):
  Calls prog 203 #[pointer (some ⟨b,0,none⟩)] w (zAn w b s dv r (jA s r.at_)):=by
 obtain⟨w1,hw1,h1,HK1,HZ1,HLB,HP0⟩:=jN h hs ha;have HA:Hid (jA s r.at_=none):=by show _=_;unfold jA;rw[hcc,if_neg n1,if_neg n2,if_neg n3,if_neg (by rw[hp];decide)]
 rw[HA.out];have hcl:=zAm s r.at_;rw[hcc] at HP0 hcl;have HIP:=vl fun w=>zCo w c;rw[hp] at HIP;have e1:((c:Int)==91)=false:=by rw[hJ];omega
 have e2:((c:Int)==92)=false:=by rw[hJ];omega
 have e3:((c:Int)==46)=false:=by rw[hJ];omega
 have HRR:=vl h1;obtain⟨hB,c0,c1,f0,f1,hkk⟩:=HK1.out w1 (Keep.refl _ _ _);obtain⟨w7,hw7,z0,z1,HZ⟩:=vH w w1 b s dv r _ _ (slice none 0 0) false HLB.out hB HRR.out hkk;go_in;apply wp_cut;intro K0 J;go_wp2;apply J.out;clear J;rw[<-hw1];clear hw1;go_wp2_with (first|(go_at_call 200;refine HP0.out.mono ?_;rintro e w9 ⟨rfl,hw9⟩;have hw8:=hw9.symm;subst hw8)|(go_at_call 212;refine(HIP.out _).mono ?_;rintro e w9 ⟨rfl,hw9⟩;have hw8:=hw9.symm;subst hw8))
 rw[<-hw7];refine bodyPost_ret (v:=tuple #[agg #[slice none 0 0,bool (false)],bool false]) (by simp[results,results203,go_sem,z0,z1]) rfl ?_;exact⟨HZ.out.2.1,none,0,0,false,r.at_,rfl,HZ.out.1⟩
theorem zDp (w:World)(b:Nat)(s:ByteArray)(dv:Value)(r:Rx)(h:RxAt w b s dv r)(hs:s.size<=1048576)(ha:r.at_<=s.size):
  Calls prog 203 #[pointer (some ⟨b,0,none⟩)] w (zAn w b s dv r (jA s r.at_)):=by
 by_cases h1:byt s r.at_=91
 ·cases hm:zBT s r.at_ with
  |none=>exact zNX w b s dv r h hs ha h1 hm
  |some g=>
   obtain⟨c,q⟩:=g;exact zNW w b s dv r h hs ha h1 c q hm
 by_cases h2:byt s r.at_=92
 ·cases hok:(zAG s (r.at_+1)).ok with
  |true=>exact zNU w b s dv r h hs ha h2 _ rfl hok
  |false=>exact zNV w b s dv r h hs ha h2 _ rfl hok
 by_cases h3:byt s r.at_=46
 ·exact zOr w b s dv r h hs ha h3
 cases hp:zAD (byt s r.at_) with
 |true=>exact zOp w b s dv r h hs ha _ rfl h1 h2 h3 hp
 |false=>exact zOq w b s dv r h hs ha _ rfl h1 h2 h3 hp
end Go.Proofs.YtbjcfkdnjaiclaaGreat
