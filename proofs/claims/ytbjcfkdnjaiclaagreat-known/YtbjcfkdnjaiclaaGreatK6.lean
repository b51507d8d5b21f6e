import Derived.Deep.RegionHeld3
import Derived.Test.YtbjcfkdnjaiclaaGreatK0
import Derived.Test.YtbjcfkdnjaiclaaGreatK5
/- Parts of the proof. -/
set_option linter.unusedVariables false
set_option linter.unusedSimpArgs false
set_option maxHeartbeats 4000000
set_option maxRecDepth 100000
namespace Go.Proofs.YtbjcfkdnjaiclaaGreat
open Go.RowKit Go.Proofs.Tryz Go.World
open Go.Value (int slice bool pointer string agg tuple)
open Go.IntKind (i64)
open Go.Ending (returned)
def Sm.none:Sm:=⟨[],[],0,[]⟩
def zAp (m:Sm)(k:Nat):List Bool:=(List.range k).map λr=>!hasRuleB m ((r:Nat):Int)
def qG (ms:List Sm):Nat->List Bool
 |0=>[]
 |j+1=>qG ms j++zAp (ms.getD j ⟨[],[],0,[]⟩) (ms.getD j ⟨[],[],0,[]⟩).empty.length
def vT (ms:List Sm):Nat->List Bool
 |0=>[]
 |j+1=>vT ms j++(ms.getD j ⟨[],[],0,[]⟩).empty
def aheadTo (ms:List Sm):Nat->Int
 |0=>0
 |j+1=>yI (aheadTo ms j) (xV (ms.getD j ⟨[],[],0,[]⟩))
theorem zI6 (ms:List Sm)(j:Nat):(qG ms j).length=zU ms j:=by
 induction j with
 |zero=>rfl
 |succ j a=>simp[qG,zU,a,zAp]
theorem zLl (ms:List Sm)(j:Nat):(vT ms j).length=zU ms j:=by
 induction j with
 |zero=>rfl
 |succ j a=>simp[vT,zU,a]
theorem zJA (a b n:Int)(c:-1<=a/\a<=n)(d:-1<=b/\b<=n)(e:-1<=n):-1<=yI a b/\yI a b<=n:=by
 unfold yI;split
 ·omega
 ·split <;> omega
theorem zFF (ms:List Sm)(a:ModesOk ms)(j:Nat)(b:j<=ms.length):-1<=aheadTo ms j/\aheadTo ms j<=200:=by
 induction j with
 |zero=>exact⟨by show(-1:Int)<=0;omega,by show(0:Int)<=200;omega⟩
 |succ j c=>
  have e:=qC ms (j+1) ms.length b;have f:=a.states;have g:(ms.getD j ⟨[],[],0,[]⟩).next.length<=200:=by
   have:zE ms (j+1)=zE ms j+(ms.getD j ⟨[],[],0,[]⟩).next.length:=rfl
   omega
  have d:=zNs (ms.getD j ⟨[],[],0,[]⟩);exact zJA _ _ 200 (c (by omega)) ⟨d.1,by omega⟩ (by omega)
theorem ModesOk.tbl {ms:List Sm}(c:ModesOk ms)(j:Nat)(a:j<ms.length):(ms[j]).Tbl:=by
 have g:=qC ms (j+1) ms.length a;have k:=c.states;have e:ms.getD j ⟨[],[],0,[]⟩=ms[j]:=by rw[lW,lV a];rfl
 have l:zE ms (j+1)=zE ms j+ms[j].next.length:=by rw[<-e];rfl
 refine⟨c.states1 j a,by omega,(c.rules j a).1,λi d=>?_,λi b d f=>?_⟩
 ·exact(c.wide j a _ (zS _ i [] d)).1
 ·exact(c.wide j a _ (zS _ i [] d)).2 b f
section
attribute [local go_sem ↓] Go.wp_at_zero Go.wp_at_succ
theorem zMl:(prog.info? 139).map (λi=>(i.zero,i.size,i.bytes))=some (some (agg #[iX 0,iX 0,string ⟨#[]⟩,string ⟨#[]⟩,string ⟨#[]⟩,string ⟨#[]⟩,string ⟨#[]⟩]),7,96):=by kernel_rfl
theorem zLU (w:World):Rp w ((w.alloc (.cells #[slice none 0 0,slice none 0 0,slice none 0 0,iX 0,bool false,iX 0] 30)).alloc (.cells #[slice none 0 0,slice none 0 0,slice none 0 0,iX 0,bool false,iX 0] 30)) (slice none 0 0) (slice none 0 0) (slice none 0 0) 0 [] [] [] 0:=by
 have a:=gY w (.cells #[slice none 0 0,slice none 0 0,slice none 0 0,iX 0,bool false,iX 0] 30);refine⟨?_,?_,ownsRow_nil _ _ _ _,ownsRow_nil _ _ _ _,ownsRow_nil _ _ _ _,λg b=>by simp[Value.ownBlock] at b,(kZ _ _ lQ).trans (kZ _ _ (by simp)),by simp⟩
 ·exact(lG _ _ _ (by simp)).trans a
 ·have c:=gY (w.alloc (.cells #[slice none 0 0,slice none 0 0,slice none 0 0,iX 0,bool false,iX 0] 30)) (.cells #[slice none 0 0,slice none 0 0,slice none 0 0,iX 0,bool false,iX 0] 30)
  simpa using c
theorem zBg (w:World)(l:List Value)(t:TypeId)(g:Nat)(a:w.heap.size=g):∀j u,l[j]? =some u->(w.alloc (.cells l.toArray t)).cell? ((⟨g,0,none⟩:Addr).add j)=some u:=by
 intro j u b;subst a;rw[Addr.add_lit];unfold cell?;rw[gY];simpa using b
structure Mx (w:World)(q:Nat)(u0 u1 u3:Value)(m:Sm):Prop where
 blk:w.heap[q]? =some (.cells #[u0,u1,int i64 m.start,u3] 134)
 lt:q<w.heap.size
theorem Mx.cells {w:World}{q:Nat}{u0 u1 u3:Value}{m:Sm}(a:Mx w q u0 u1 u3 m):w.cell? ⟨q,0,none⟩=some u0/\w.cell? ⟨q,1,none⟩=some u1/\w.cell? ⟨q,2,none⟩=some (iX m.start)/\w.cell? ⟨q,3,none⟩=some u3:=by
 refine⟨?_,?_,?_,?_⟩ <;> ·unfold cell?;rw[a.blk];rfl
theorem Mx.grown {w w':World}{q:Nat}{u0 u1 u3:Value}{m:Sm}(a:Mx w q u0 u1 u3 m)(b:Grew w w'):Mx w' q u0 u1 u3 m:=⟨(b.block q a.lt (kJ a.lt)).trans a.blk,lZ a.lt b.size⟩
theorem Mx.app {w w2:World}{o:Obj}{H e c n q i p:Nat}{v x u0 u1 u3:Value}{m:Sm}{xs:List Value}(a:Mx w q u0 u1 u3 m)(d:w.ownsRow H e c v n xs)(f:e≠134)(b:(w.alloc o).grownBy w2 v.ownBlock)(g:q≠p):Mx (w2.setCell ⟨p,i,none⟩ x) q u0 u1 u3 m:=by
 have j:=a.lt;refine⟨(lJ _ _ _ _ g).trans ((b.block q (by simp;omega) (zN d a.blk f)).trans ((lG _ _ _ a.lt).trans a.blk)),?_⟩;rw[zC];exact lZ j (lY (by simp) b.size)
theorem zGQ (w:World)(mv:Value)(ms:List Sm)(hM:ModesAt w (In w) mv ms)(hms:ModesOk ms)(kinds:Nat)(hk:kinds<=256)(force:Bool):
  Calls prog 46 #[mv,iX kinds,bool force] w λe w'=>∃mo sh em,e=returned (agg #[mo,sh,em,iX (aheadTo ms ms.length),bool (!force&&xE (aheadTo ms ms.length) kinds),iX 0])/\OwnB w' w.heap.size sh (qG ms ms.length)/\OwnB w' w.heap.size em (vT ms ms.length)/\Grew w w'/\∃a n c,mo=slice a n c:=by
 obtain⟨i0,hi0,hz0,hz1,hz2⟩:=info_parts zMl;obtain⟨ib,hib,hb0,hb1,hb2⟩:=info_parts qU;obtain⟨am,cm,rfl,hcm,hmm,hmc⟩:=hM;have h3:=hms.three;have HMC:Hid (∀i (hi:i<ms.length),∃b o u0 u1 u3,am=some ⟨b,o,none⟩/\In w b/\w.cell? ⟨b,o+i*4,none⟩=some u0/\w.cell? ⟨b,o+i*4+1,none⟩=some u1/\w.cell? ⟨b,o+i*4+2,none⟩=some (iX ms[i].start)/\w.cell? ⟨b,o+i*4+3,none⟩=some u3/\IntRows w (In w) u0 ms[i].next/\Ints w (In w) u1 ms[i].rules/\Bools w (In w) u3 ms[i].empty):=hmc;have HOK:Hid (ModesOk ms):=hms;have h0:=zLU w;clear hmc hms;go_enter func46,ntmps46
 refine wp_seq_k ?_;intro K0 hK0;have HK0:Hid (∀a w,_->K0 a w):=hK0;clear hK0;go_wp2_with fail;apply HK0.out;clear HK0;refine wp_seq_k ?_;intro K0 hK0;have HK0:Hid (∀a w,_->K0 a w):=hK0;clear hK0;go_wp2_with fail;apply HK0.out;clear HK0;generalize (w.alloc (.cells #[slice none 0 0,slice none 0 0,slice none 0 0,iX 0,bool false,iX 0] 30)).alloc (.cells #[slice none 0 0,slice none 0 0,slice none 0 0,iX 0,bool false,iX 0] 30)=w1 at *;have H0:Hid (Rp w w1 (slice none 0 0) (slice none 0 0) (slice none 0 0) 0 [] [] [] 0):=h0;clear h0;go_wp2_with fail;go_loopg [16] ms.length (λq i wr=>∃(j:Nat) (mv sv ev:Value) (xs:List Value),q=ms.length-j/\j<=ms.length/\i=iX (j:Int)/\Rp w wr mv sv ev j xs (qG ms j) (vT ms j) (aheadTo ms j))
 case atStart=>exact⟨0,_,_,_,_,rfl,lX,rfl,H0⟩
 case round=>
  obtain⟨j,mv,sv,ev,xs,hgk,hj,rfl,hR⟩:=hrel;have HA:Hid (gk=ms.length-j/\Rp w wr mv sv ev j xs (qG ms j) (vT ms j) (aheadTo ms j)):=⟨hgk,hR⟩
  by_cases hj2:j<ms.length
  ·have i1:(j:Int)<(ms.length:Int):=by omega
   obtain⟨b,o,u0,u1,u3,rfl,hb,c0,c1,c2,c3,d0,d1,d3⟩:=HMC j hj2;obtain⟨an,cn,rfl,-⟩:=id d0;obtain⟨ar,cr,rfl,-⟩:=id d1;have y0:=zA c0 hb hR.keep;have y1:=zA c1 hb hR.keep;have y2:=zA c2 hb hR.keep;have y3:=zA c3 hb hR.keep;obtain⟨m,hm⟩:∃m,m=ms[j]:=⟨_,rfl⟩
   rw[<-hm] at y0 y1 y2 d0 d1 d3;have HT:Hid (TblAt w (slice an m.next.length cn) (slice ar m.rules.length cr) m/\m.Tbl/\Bools w (In w) u3 m.empty/\0<=m.start/\m.start<m.next.length/\m=ms[j]/\ms.getD j ⟨[],[],0,[]⟩=m):=⟨⟨d0,d1⟩,by rw[hm];exact HOK.tbl j hj2,d3,by rw[hm];exact(HOK.start j hj2).1,by rw[hm];exact(HOK.start j hj2).2,hm,by rw[hm,lW,lV hj2];rfl⟩
   clear c0 c1 c2 c3 d0 d1 d3 hm hgk hR;refine wp_seq_k ?_;intro K0 hK0;have HK0:Hid (∀a w,_->K0 a w):=hK0;clear hK0;go_wp2_with fail;apply HK0.out;clear HK0;obtain⟨st,hst⟩:∃st:Nat,m.start=(st:Int):=⟨m.start.toNat,by have:=HT.2.2.2.1;omega⟩
   have HS:Hid (m.start=(st:Int)/\st<m.next.length):=⟨hst,by have:=HT.2.2.2.2.1;omega⟩
   clear hst;obtain⟨ae,ce,rfl,he1,he2,he3⟩:=HT.2.2.1;have HE:Hid (∀i,i<m.empty.length->∃b o,ae=some ⟨b,o,none⟩/\In w b/\w.cell? ⟨b,o+i,none⟩=some (bool (m.empty.getD i false))):=he3;clear he3;have HTM:Hid (∀w',Grew w w'->Ca 67 #[agg #[slice an m.next.length cn,slice ar m.rules.length cr,iX m.start]] w' λe w2=>∃a b x y z:ByteArray,e=returned (agg #[iX m.next.length,iX (xV m),string a,string b,string x,string y,string z])/\Grew w' w2):=λw' hk=>zEK w' _ _ m (HT.1.grown hk) HT.2.1 st HS.1 HS.2;obtain⟨amv,cmv,hmv⟩:=zI HA.2.modes;subst hmv;have hlr:=HA.2.lt;have HNM:Hid (∀w5:World,Keep (wr.alloc (.cells #[slice an m.next.length cn,slice ar m.rules.length cr,iX m.start,slice ae m.empty.length ce] 134)).heap.size (wr.alloc (.cells #[slice an m.next.length cn,slice ar m.rules.length cr,iX m.start,slice ae m.empty.length ce] 134)).heap.size (wr.alloc (.cells #[slice an m.next.length cn,slice ar m.rules.length cr,iX m.start,slice ae m.empty.length ce] 134)) w5->some w5.heap.size≠Value.ownBlock (slice amv j cmv)):=λw5 h e=>by
    have h1:=(HA.2.modes.lt _ e.symm).2;have h2:=h.size;simp at h2;omega
   go_wp2_with (first|(go_at_call 67;refine(HTM _ (HA.2.keep.trans (kZ _ _ (by omega)))).mono ?_;rintro e w5 ⟨a,b',x,y,z,rfl,hk5⟩;have R5:Rp w (w5.alloc (.cells #[iX m.next.length,iX (xV m),string a,string b',string x,string y,string z] 139)) (slice amv j cmv) sv ev j xs (qG ms j) (vT ms j) (aheadTo ms j):=((HA.2.grown (kZ _ _ lQ)).grown hk5).grown (kZ _ _ lQ);obtain⟨⟨r0,r1,r2,r3,r4,r5⟩,rf⟩:=R5.cells;clear r1 r2 r3 r4 r5 rf;have hl5:w.heap.size+2<=w5.heap.size:=lY (by simp;omega) hk5.size;have M5:Mx w5 wr.heap.size (slice an m.next.length cn) (slice ar m.rules.length cr) (slice ae m.empty.length ce) m:=Mx.grown ⟨gY wr _,by simp⟩ hk5)|(at_builtin;refine wpList_append_lies _ rfl _ _ 27 rfl (w.heap.size+2) 139 i0 (agg #[iX 0,iX 0,string ⟨#[]⟩,string ⟨#[]⟩,string ⟨#[]⟩,string ⟨#[]⟩,string ⟨#[]⟩]) 7 96 underlying27 hi0 hz0 hz1 hz2 rfl (by decide) _ _ _ rfl (R5.modes.alloc _) ⟨w5.heap.size+1,0,none⟩ 1 1 [iX m.next.length,iX (xV m),string a,string b',string x,string y,string z] rfl rfl (zBg _ [iX m.next.length,iX (xV m),string a,string b',string x,string y,string z] _ _ (by simp)) (by intro u hu;simp at hu;rcases hu with rfl|rfl|rfl|rfl|rfl|rfl|rfl <;> rfl) (by decide) (by unfold maxLen;omega) (by omega) (by simp;omega) _ rfl ?_;intro gg cap w7 hown hgrow hat hlt2;have hbR:w7.heap[w.heap.size+1]? =(w5.alloc (.cells #[iX m.next.length,iX (xV m),string a,string b',string x,string y,string z] 139)).heap[w.heap.size+1]? :=(hgrow.block _ (by simp;omega) (λe=>by have:=(R5.modes.lt _ e.symm).1;omega)).trans (lG _ _ _ (by simp;omega));have s0:w7.cell? ⟨w.heap.size+1,0,none⟩=some (slice amv j cmv):=(gW hbR).trans r0;have f0:w7.frozen? ⟨w.heap.size+1,0,none⟩=false:=(gV hbR).trans (R5.cells.2 0);have R8:=Rp.modes_app R5 hown hgrow;have M8:=Mx.app (p:=w.heap.size+1) (i:=0) (x:=slice (qX gg) (j+1) cap) (M5.grown (kZ _ (.cells #[iX m.next.length,iX (xV m),string a,string b',string x,string y,string z] 139) lQ)) R5.modes (by decide) hgrow (by omega);have t3:(w7.setCell ⟨w.heap.size+1,0,none⟩ (slice (qX gg) (j+1) cap)).cell? ⟨w.heap.size+1,3,none⟩=some (iX (aheadTo ms j)):=R8.cells.1.2.2.2.1;have f3:(w7.setCell ⟨w.heap.size+1,0,none⟩ (slice (qX gg) (j+1) cap)).frozen? ⟨w.heap.size+1,3,none⟩=false:=R8.cells.2 3;have hbM:(w7.setCell ⟨w.heap.size+1,0,none⟩ (slice (qX gg) (j+1) cap)).heap[w5.heap.size]? =(w5.alloc (.cells #[iX m.next.length,iX (xV m),string a,string b',string x,string y,string z] 139)).heap[w5.heap.size]? :=(lJ _ _ _ _ (by show w5.heap.size≠w.heap.size+1;omega)).trans ((hgrow.block _ (by simp;omega) (HNM w5 hk5)).trans (lG _ _ _ (by simp)));have t1:(w7.setCell ⟨w.heap.size+1,0,none⟩ (slice (qX gg) (j+1) cap)).cell? ⟨w5.heap.size,1,none⟩=some (iX (xV m)):=(gW hbM).trans (by unfold cell?;rw[gY];rfl);have M9:((w7.setCell ⟨w.heap.size+1,0,none⟩ (slice (qX gg) (j+1) cap)).setCell ⟨w.heap.size+1,3,none⟩ (iX (yI (aheadTo ms j) (xV m)))).cell? ⟨wr.heap.size,3,none⟩=some (slice ae m.empty.length ce):=(gW (lJ _ _ _ _ (by show wr.heap.size≠w.heap.size+1;omega))).trans M8.cells.2.2.2)|(go_at_call 68;refine(zHe _ (aheadTo ms j) (xV m)).mono ?_;rintro e w9 ⟨rfl,rfl⟩))
   have A9:∃mv2 xs2 w9,w9=((w7.setCell ⟨w.heap.size+1,0,none⟩ (slice (qX gg) (j+1) cap)).setCell ⟨w.heap.size+1,3,none⟩ (iX (yI (aheadTo ms j) (xV m))))/\Hid (Rp w w9 mv2 sv ev (j+1) xs2 (qG ms j) (vT ms j) (aheadTo ms (j+1))/\Mx w9 wr.heap.size (slice an m.next.length cn) (slice ar m.rules.length cr) (slice ae m.empty.length ce) m):=by
    have e:aheadTo ms (j+1)=yI (aheadTo ms j) (xV m):=by rw[<-HT.out.2.2.2.2.2.2];rfl
    rw[e];exact⟨_,_,_,rfl,R8.ahead _,⟨(lJ _ _ _ _ (by show wr.heap.size≠w.heap.size+1;omega)).trans M8.blk,by rw[zC];exact M8.lt⟩⟩
   obtain⟨mv2,xs2,w9,hw9,A9⟩:=A9;rw[<-hw9];clear hw9 M9 t1 hbM f3 t3 M8 R8 f0 s0 hbR hown hgrow hat M5 R5 r0 y0 y1 y2 y3;have hrl:zU ms (j+1)=zU ms j+m.empty.length:=by rw[<-HT.out.2.2.2.2.2.2];rfl
   have hr8:zU ms j+m.empty.length<=8:=by
    have h1:=zBn ms (j+1) ms.length hj2;have h2:=HOK.rules8;omega
   have HSL:Hid ((qG ms j).length=zU ms j/\(vT ms j).length=zU ms j):=⟨zI6 ms j,zLl ms j⟩
   clear hrl HNM HTM hk5 hl5;have hq1:w.heap.size+1≠wr.heap.size:=by omega
   generalize hqb:wr.heap.size=qb at *;clear hqb;go_loopg [38] m.empty.length (λq i wt=>∃(k:Nat) (sv ev:Value),q=m.empty.length-k/\k<=m.empty.length/\i=iX (k:Int)/\Rp w wt mv2 sv ev (j+1) xs2 (qG ms j++zAp m k) (vT ms j++m.empty.take k) (aheadTo ms (j+1))/\Mx wt qb (slice an m.next.length cn) (slice ar m.rules.length cr) (slice ae m.empty.length ce) m)
   case atStart=>exact⟨0,sv,ev,rfl,lX,rfl,by rw[zAp,List.take_zero];simpa using A9.1,A9.2⟩
   case round=>
    obtain⟨k,sv,ev,hgk,hk2,rfl,hR,hM⟩:=hrel;have HB:Hid (gk=m.empty.length-k/\Rp w wr mv2 sv ev (j+1) xs2 (qG ms j++zAp m k) (vT ms j++m.empty.take k) (aheadTo ms (j+1))/\Mx wr qb (slice an m.next.length cn) (slice ar m.rules.length cr) (slice ae m.empty.length ce) m):=⟨hgk,hR,hM⟩
    by_cases hk3:k<m.empty.length
    ·have i2:(k:Int)<(m.empty.length:Int):=by omega
     obtain⟨be,oe,rfl,hbe,hce⟩:=HE k hk3;have ye:wr.cell? ⟨be,oe+k,none⟩=some (bool (m.empty.getD k false)):=zA hce hbe hR.keep;obtain⟨ek,hek⟩:∃ek,m.empty.getD k false=ek:=⟨_,rfl⟩
     rw[hek] at ye;have HEK:Hid (m.empty.getD k false=ek):=hek;clear hek;obtain⟨q0,q1,q2,q3⟩:=hM.cells;obtain⟨⟨r0,r1,r2,r3,r4,r5⟩,rf⟩:=hR.cells;obtain⟨as_,cs,hsv⟩:=hR.shad.form;obtain⟨ae2,ce2,hev⟩:=hR.emp.form;have hls:(qG ms j++zAp m k).length=zU ms j+k:=by rw[kX,HSL.out.1];simp[zAp]
     have hle:(vT ms j++m.empty.take k).length=zU ms j+k:=by rw[kX,HSL.out.2,List.length_take];omega
     rw[hls] at hsv;rw[hle] at hev;subst hsv hev;generalize hns:zU ms j+k=ns at *;have hn8:ns<=8:=by omega
     generalize hsl:qG ms j++zAp m k=sl at *;generalize hel:vT ms j++m.empty.take k=el at *;have HLL:Hid (sl.length=ns/\el.length=ns/\qG ms j++zAp m k=sl/\vT ms j++m.empty.take k=el):=⟨hls,hle,hsl,hel⟩
     clear hsl hel hls hle hns;have HHR:Hid (∀w',Grew w w'->Ca 69 #[agg #[slice an m.next.length cn,slice ar m.rules.length cr,iX m.start],iX ((k:Nat):Int)] w' λe w2=>e=returned (bool (hasRuleB m k))/\Grew w' w2):=λw' hk=>zFZ w' _ _ m (HT.1.grown hk) HT.2.1 k;have f1:=rf 1;have hlr:=hR.lt;clear r0 r3 r4 r5 r2 q3 rf hgk hce;clear hR hM;have HB2:Hid (∀w5,Grew wr.drew w5->Rp w w5 mv2 (slice as_ ns cs) (slice ae2 ns ce2) (j+1) xs2 sl el (aheadTo ms (j+1))/\Mx w5 qb (slice an m.next.length cn) (slice ar m.rules.length cr) (slice (some ⟨be,oe,none⟩) m.empty.length ce) m/\w5.ownsRow (w.heap.size+2) 4 1 (slice as_ ns cs) ns (sl.map λx=>bool x)/\wr.heap.size<=w5.heap.size):=by
      intro w5 h;have h':=HB.2.1.drew.grown h;refine⟨h',(HB.2.2.grown (Keep.drew _)).grown h,?_,h.size⟩;have h2:=h'.shad;unfold OwnB at h2;rw[HLL.out.1] at h2;exact h2
     go_wp2_with fail;go_region_law ((first
      |(refine step_append_lies _ (by rfl) (.tmp 44) (.tmp 50) 28 (by rfl) (w.heap.size+2) 4 ib _ 1 1 underlying28 hib hb0 hb1 hb2 rfl (by decide) (slice as_ ns cs) ns (sl.map λx=>bool x) (by simp[Act.eval,Act.put]) (O5.alloc _) ⟨w5.heap.size,0,none⟩ 1 1 [bool (!hasRuleB m k)] (by simp[Act.eval,Act.put]) (by rfl) (news_of_block (cs:=#[bool (!hasRuleB m k)]) (t:=4) (fr:=(0,0)) (gY w5 _)) (by simp[Value.oneCell']) (by decide) (by unfold maxLen;omega) (by omega) (by simp;omega) (w5.heap.size+1) (by simp) ?_;intro gg cap2 w6 hown hgrow hat hlt;have hPB:w6.heap[w.heap.size+1]? =w5.heap[w.heap.size+1]? :=(hgrow.block _ (by simp;omega) (λe=>by have:=(O5.lt _ e.symm).1;omega)).trans (lG _ _ _ (by omega));have t1:w6.cell? ⟨w.heap.size+1,1,none⟩=some (slice as_ ns cs):=(gW hPB).trans R5.cells.1.2.1;have t2:w6.frozen? ⟨w.heap.size+1,1,none⟩=false:=(gV hPB).trans (R5.cells.2 1))
      |(go_simp;go_at_call 69;refine(HHR _ (HB.2.1.keep.trans (Keep.drew _))).mono ?_;rintro e w5 ⟨rfl,hk5⟩;obtain⟨R5,M5,O5,hs5⟩:=HB2 w5 hk5;have p1:w5.cell? ⟨w.heap.size+1,1,none⟩=some (slice as_ ns cs):=R5.cells.1.2.1;have hl5:w.heap.size+2<=w5.heap.size:=R5.lt;have p2:(w5.alloc (.cells #[bool (!hasRuleB m k)] 4)).cell? ⟨w.heap.size+1,1,none⟩=some (slice as_ ns cs):=(gU _ _ _ (by show w.heap.size+1<w5.heap.size;omega)).trans p1)))
     all_goals
      obtain⟨sv3,w7,hw7,hsv3,A7⟩:∃sv3 w7,w7=w6.setCell ⟨w.heap.size+1,1,none⟩ (slice (qX gg) (ns+1) cap2)/\sv3=slice (qX gg) (ns+1) cap2/\Hid (Rp w w7 mv2 sv3 (slice ae2 ns ce2) (j+1) xs2 (sl++[!hasRuleB m k]) el (aheadTo ms (j+1))/\Mx w7 qb (slice an m.next.length cn) (slice ar m.rules.length cr) (slice (some ⟨be,oe,none⟩) m.empty.length ce) m):=by
       refine⟨_,_,rfl,rfl,?_,Mx.app M5 O5 (by decide) hgrow (Ne.symm hq1)⟩;have hown2:=hown;rw[<-HLL.out.1] at hown2;have h:=Rp.shad_app R5 hown2 hgrow (by
        rcases hat with ha|ha
        ·exact .inl ha
        ·right;rw[ha];omega)
       rw[HLL.out.1] at h;exact h
      rw[<-hw7];clear hw7 hown hgrow hat hPB t1 t2 p1 p2 O5 M5 R5 hk5 r1 q0 q1 q2 f1 ye;have hl7:=A7.1.lt;have s2:w7.cell? ⟨w.heap.size+1,2,none⟩=some (slice ae2 ns ce2):=A7.1.cells.1.2.2.1;have O7:w7.ownsRow (w.heap.size+2) 4 1 (slice ae2 ns ce2) ns (el.map λx=>bool x):=by
       have h:=A7.1.emp;unfold OwnB at h;rw[HLL.out.2.1] at h;exact h
      go_wp2_with (first|(at_builtin;refine wpList_append_lies _ rfl _ _ 28 rfl (w.heap.size+2) 4 ib (bool false) 1 1 underlying28 hib hb0 hb1 hb2 rfl (by decide) _ _ _ rfl (O7.alloc _) ⟨w7.heap.size,0,none⟩ 1 1 [bool ek] rfl rfl (cell_one_new _ _ _) (by intro u hu;simp at hu;subst hu;rfl) (by decide) (by unfold maxLen;omega) (by omega) (by simp;omega) _ rfl ?_;intro g2 cap3 w8 hown hgrow hat hlt2;have hPB:w8.heap[w.heap.size+1]? =w7.heap[w.heap.size+1]? :=(hgrow.block _ (by simp;omega) (λe=>by have:=(O7.lt _ e.symm).1;omega)).trans (lG _ _ _ (by omega));have t1:w8.cell? ⟨w.heap.size+1,2,none⟩=some (slice ae2 ns ce2):=(gW hPB).trans A7.1.cells.1.2.2.1;have t2:w8.frozen? ⟨w.heap.size+1,2,none⟩=false:=(gV hPB).trans (A7.1.cells.2 2)))
      obtain⟨ev3,w9,hw9,A9⟩:∃ev3 w9,w9=w8.setCell ⟨w.heap.size+1,2,none⟩ (slice (qX g2) (ns+1) cap3)/\Hid (Rp w w9 mv2 sv3 ev3 (j+1) xs2 (sl++[!hasRuleB m k]) (el++[ek]) (aheadTo ms (j+1))/\Mx w9 qb (slice an m.next.length cn) (slice ar m.rules.length cr) (slice (some ⟨be,oe,none⟩) m.empty.length ce) m):=by
       refine⟨slice (qX g2) (ns+1) cap3,_,rfl,?_,Mx.app A7.2 O7 (by decide) hgrow (Ne.symm hq1)⟩;have hown2:=hown;rw[<-HLL.out.2.1] at hown2;have h:=Rp.emp_app A7.1 hown2 hgrow (by
        rcases hat with ha|ha
        ·exact .inl ha
        ·right;rw[ha];simp)
       rw[HLL.out.2.1] at h;exact h
      rw[<-hw9];clear hw9 hown hgrow hat hPB t1 t2 O7 s2;go_roundg (m.empty.length-(k+1))
      case measure=>rw[HB.out.1];omega
      case rel=>
       refine⟨k+1,sv3,ev3,rfl,by omega,by go_num,?_,A9.2⟩;have e1:qG ms j++zAp m (k+1)=sl++[!hasRuleB m k]:=by
        rw[<-HLL.out.2.2.1];simp[zAp,List.range_succ]
       have e2:vT ms j++m.empty.take (k+1)=el++[ek]:=by
        rw[<-HLL.out.2.2.2,<-HEK.out,gX,List.take_add_one,lW,lV hk3];rfl
       rw[e1,e2];exact A9.1
    ·have hke:k=m.empty.length:=by omega
     have i2:(m.empty.length:Int)<=(k:Int):=by omega
     have HZ:Hid (Rp w wr mv2 sv ev (j+1) xs2 (qG ms (j+1)) (vT ms (j+1)) (aheadTo ms (j+1))):=by
      have h:=hR;rw[hke,List.take_length] at h;have e1:qG ms (j+1)=qG ms j++zAp m m.empty.length:=by rw[<-HT.out.2.2.2.2.2.2];rfl
      have e2:vT ms (j+1)=vT ms j++m.empty:=by rw[<-HT.out.2.2.2.2.2.2];rfl
      show Rp _ _ _ _ _ _ _ _ _ _;rw[e1,e2];exact h
     clear hgk hR hM hke;go_wp2_with fail;go_roundg (ms.length-(j+1))
     case measure=>rw[HA.out.1];omega
     case rel=>exact⟨j+1,_,_,_,_,rfl,by omega,by go_num,HZ⟩
  ·have hje:j=ms.length:=by omega
   have i1:(ms.length:Int)<=(j:Int):=by omega
   have HZ:Hid (Rp w wr mv sv ev j xs (qG ms ms.length) (vT ms ms.length) (aheadTo ms ms.length)):=by
    have h:=hR;show Rp _ _ _ _ _ _ _ _ _ _;rw[<-hje];exact h
   have hal:=zFF ms HOK ms.length lQ;have HIS:Hid (∀w',Ca 70 #[iX (aheadTo ms ms.length),iX ((kinds:Nat):Int)] w' λe w2=>e=returned (bool (xE (aheadTo ms ms.length) kinds))/\w2=w'):=λw'=>zFd w' _ kinds hk (by omega);obtain⟨⟨r0,r1,r2,r3,r4,r5⟩,rf⟩:=HZ.cells;have f4:=rf 4;obtain⟨a0,k0,rfl⟩:=zI HZ.modes;obtain⟨a1,k1,rfl⟩:=HZ.shad.form;obtain⟨a2,k2,rfl⟩:=HZ.emp.form;have hres:=HZ.res;have x0:wr.cell? ⟨w.heap.size,0,none⟩=some (slice none 0 0):=by unfold cell?;rw[hres];rfl
   have x1:wr.cell? ⟨w.heap.size,1,none⟩=some (slice none 0 0):=by unfold cell?;rw[hres];rfl
   have x2:wr.cell? ⟨w.heap.size,2,none⟩=some (slice none 0 0):=by unfold cell?;rw[hres];rfl
   have x3:wr.cell? ⟨w.heap.size,3,none⟩=some (iX 0):=by unfold cell?;rw[hres];rfl
   have x4:wr.cell? ⟨w.heap.size,4,none⟩=some (bool false):=by unfold cell?;rw[hres];rfl
   have x5:wr.cell? ⟨w.heap.size,5,none⟩=some (iX 0):=by unfold cell?;rw[hres];rfl
   have xf:∀i,wr.frozen? ⟨w.heap.size,i,none⟩=false:=λi=>by unfold frozen?;rw[hres];simp
   have xf0:=xf 0;have xf1:=xf 1;have xf2:=xf 2;have xf3:=xf 3;have xf4:=xf 4;have xf5:=xf 5;clear hgk hR hje rf xf hres;obtain⟨A,hA⟩:∃A,aheadTo ms ms.length=A:=⟨_,rfl⟩
   rw[hA] at r3 HIS HZ hal;have HAe:Hid (aheadTo ms ms.length=A):=hA;clear hA;cases force with
   |true=>
    go_wp2_with fail;refine gJ (v:=agg #[slice a0 j k0,slice a1 (qG ms ms.length).length k1,slice a2 (vT ms ms.length).length k2,iX A,bool false,iX 0]) (by simp[results,results46,go_sem, *]) rfl ⟨_,_,_,by rw[HAe.out];rfl,?_,?_,?_,⟨_,_,_,rfl⟩⟩
    ·refine vF (H:=w.heap.size+2) ?_ (by omega)
     iterate 7 refine zY ?_ (by omega)
     exact HZ.shad
    ·refine vF (H:=w.heap.size+2) ?_ (by omega)
     iterate 7 refine zY ?_ (by omega)
     exact HZ.emp
    ·refine HZ.keep.trans ?_
     iterate 6 refine Keep.trans ?_ (zP _ _ _ _ (by omega))
     exact zP _ _ _ _ (by omega)
   |false=>
    go_wp2_with (first|(go_at_call 70;refine(HIS _).mono ?_;rintro e w9 ⟨rfl,rfl⟩))
    refine gJ (v:=agg #[slice a0 j k0,slice a1 (qG ms ms.length).length k1,slice a2 (vT ms ms.length).length k2,iX A,bool (xE A kinds),iX 0]) (by simp[results,results46,go_sem, *]) rfl ⟨_,_,_,by rw[HAe.out];rfl,?_,?_,?_,⟨_,_,_,rfl⟩⟩
    ·refine vF (H:=w.heap.size+2) ?_ (by omega)
     iterate 7 refine zY ?_ (by omega)
     exact HZ.shad
    ·refine vF (H:=w.heap.size+2) ?_ (by omega)
     iterate 7 refine zY ?_ (by omega)
     exact HZ.emp
    ·refine HZ.keep.trans ?_
     iterate 6 refine Keep.trans ?_ (zP _ _ _ _ (by omega))
     exact zP _ _ _ _ (by omega)
end
theorem zDD (w:World)(H p:Nat)(c:Tc)(t:Tb)(b:Mem w H p c t)(ok:t.OkN)(g:1<=t.nst)(h:1<=t.count)(a:Nat)(i:a<=255)(j:zG t.count a<=3000):
  Calls prog 47 #[pX p,iX a] w λe w'=>e=returned (tuple #[])/\∃d,Mem w' H p d ({t with stream:=true}.looking a)/\Keep w.heap.size p w w':=by
 have o:=b.tp.get_stream;have q:=b.tp.fz 0;have k:Hid (Mem (w.setCell ⟨p,0,none⟩ (bool true)) H p {c with stream:=bool true} {t with stream:=true}):=b.putStream true;have l:=zBM _ H p _ _ k ⟨ok.1,ok.2,ok.3,ok.4⟩ g h a i j;clear b;go_enter func47,ntmps47
 go_wp2_with (first|(go_at_call 66;refine l.mono ?_;rintro e w2 ⟨rfl,d,m,f⟩))
 go_end0;exact⟨rfl,d,m,(Keep.set _ _ _).trans (by rw[zC] at f;exact f)⟩
def zDJ (n:Int):Bool:=decide (0<=n/\n<55296\/57343<n/\n<=1114111)
structure Cs where
 ranges:List (Int×Int)
 others:Bool
def Cs.lists (s:Cs)(c:Int):Bool:=s.ranges.any λr=>decide (r.1<=c)&&decide (c<=r.2)
def Cs.has (s:Cs)(c:Int):Bool:=zDJ c&&(s.lists c != s.others)
def RangesAt (w:World)(v:Value)(l:List (Int×Int)):Prop:=
 ∃ao cap,v=slice ao l.length cap/\l.length<=cap/\cap<=maxLen/\∀i,i<l.length->∃b o,ao=some ⟨b,o,none⟩/\In w b/\w.cell? ⟨b,o+i*2,none⟩=some (int i64 (l.getD i (0,0)).1)/\w.cell? ⟨b,o+i*2+1,none⟩=some (int i64 (l.getD i (0,0)).2)
theorem RangesAt.grown {w w':World}{v:Value}{l:List (Int×Int)}(d:RangesAt w v l)(a:Grew w w'):RangesAt w' v l:=by
 obtain⟨ao,cap,e,f,g,j⟩:=d;refine⟨ao,cap,e,f,g,λi k=>?_⟩;obtain⟨b,o,m,c,c0,c1⟩:=j i k;exact⟨b,o,m,lZ c a.size,zA c0 c a,zA c1 c a⟩
def SetsAt (w:World)(v:Value)(l:List Cs):Prop:=
 ∃ao cap,v=slice ao l.length cap/\l.length<=cap/\cap<=maxLen/\∀i,i<l.length->∃b o u,ao=some ⟨b,o,none⟩/\In w b/\w.cell? ⟨b,o+i*2,none⟩=some u/\w.cell? ⟨b,o+i*2+1,none⟩=some (bool (l.getD i ⟨[],false⟩).others)/\RangesAt w u (l.getD i ⟨[],false⟩).ranges
theorem SetsAt.grown {w w':World}{v:Value}{l:List Cs}(d:SetsAt w v l)(a:Grew w w'):SetsAt w' v l:=by
 obtain⟨ao,cap,e,f,g,j⟩:=d;refine⟨ao,cap,e,f,g,λi k=>?_⟩;obtain⟨b,o,u,m,c,c0,c1,p⟩:=j i k;exact⟨b,o,u,m,lZ c a.size,zA c0 c a,zA c1 c a,p.grown a⟩
theorem zFc (w:World)(n:Int):
  Calls prog 191 #[iX n] w λe w'=>e=returned (bool (zDJ n))/\w'=w:=by
 by_cases b:0<=n
 ·by_cases d:n<55296
  ·have a:Hid (zDJ n=true):=by show _=_;unfold zDJ;exact dQ (by omega)
   go_in;go_wp2;go_ret;exact⟨by rw[a.out];simp[b,d],rfl⟩
  ·by_cases c:57343<n
   ·have a:Hid (zDJ n=decide (n<=1114111)):=by show _=_;unfold zDJ;congr 1;exact propext (by omega)
    go_in;go_wp2;go_ret;exact⟨by rw[a.out];simp[b,d,c],rfl⟩
   ·have a:Hid (zDJ n=false):=by show _=_;unfold zDJ;exact gG (by omega)
    go_in;go_wp2;go_ret;exact⟨by rw[a.out];simp[b,d,c],rfl⟩
 ·have c:¬57343<n:=by omega
  have a:Hid (zDJ n=false):=by show _=_;unfold zDJ;exact gG (by omega)
  go_in;go_wp2;go_ret;exact⟨by rw[a.out];simp[b,c],rfl⟩
theorem zMH {a:Type}(l:List a)(p:a->Bool)(b:a)(i:Nat)(c:i<l.length)(e:p (l.getD i b)=true):l.any p=true:=by
 rw[List.any_eq_true];exact⟨_,zS l i b c,e⟩
theorem zIK {a:Type}(l:List a)(p:a->Bool)(c:a)(e:∀i,i<l.length->p (l.getD i c)=false):l.any p=false:=by
 rw[List.any_eq_false];intro x f;obtain⟨i,b,rfl⟩:=List.getElem_of_mem f;have:=e i b;rw[lW,lV b] at this;simpa using this
theorem zIi (w:World)(rv:Value)(s:Cs)(B:RangesAt w rv s.ranges)(J:s.ranges.length<=1000000000000)(c:Int):
  Calls prog 192 #[agg #[rv,bool s.others],iX c] w λe w'=>e=returned (bool (s.lists c))/\Grew w w':=by
 obtain⟨ao,cap,rfl,_,_,C⟩:=B;have D:=vl C;have E:Hid (∀i,i<s.ranges.length->(s.ranges.getD i (0,0)).1<=c->c<=(s.ranges.getD i (0,0)).2->s.lists c=true):=λi a l m=>zMH _ _ (0,0) i a (by show(decide _&&decide _)=true;rw[dQ l,dQ m];rfl);have F:Hid ((∀i,i<s.ranges.length->¬((s.ranges.getD i (0,0)).1<=c/\c<=(s.ranges.getD i (0,0)).2))->s.lists c=false):=λf=>zIK _ _ (0,0) λi a=>by
  have:=f i a;simpa using this
 go_in;go_wp2;go_loopg [10] s.ranges.length (λq i wr=>∃j:Nat,q=s.ranges.length-j/\j<=s.ranges.length/\i=iX (j:Int)/\(∀i,i<j->¬((s.ranges.getD i (0,0)).1<=c/\c<=(s.ranges.getD i (0,0)).2))/\Grew w wr)
 case atStart=>exact⟨0,rfl,lX,rfl,λi a=>by omega,kZ _ _ lQ⟩
 case round=>
  obtain⟨j,r,K,rfl,p,g⟩:=hrel;have d:Hid (gk=s.ranges.length-j/\(∀i,i<j->¬((s.ranges.getD i (0,0)).1<=c/\c<=(s.ranges.getD i (0,0)).2))/\Grew w wr):=⟨r,p,g⟩
  by_cases u:j<s.ranges.length
  ·have G:(j:Int)<(s.ranges.length:Int):=by omega
   obtain⟨b,o,rfl,v,c0,c1⟩:=D j u;have L:cX wr b (o+j*2)=some (iX (s.ranges.getD j (0,0)).1):=zA c0 v g;have M:cX wr b (o+j*2+1)=some (iX (s.ranges.getD j (0,0)).2):=zA c1 v g;have H:=vl <| E j u;have z:Hid (¬((s.ranges.getD j (0,0)).1<=c/\c<=(s.ranges.getD j (0,0)).2)->∀i,i<j+1->¬((s.ranges.getD i (0,0)).1<=c/\c<=(s.ranges.getD i (0,0)).2)):=λf i a=>by
    by_cases e:i=j
    ·rw[e];exact f
    ·exact d.2.1 i (by omega)
   clear c0 c1 r p g;generalize (s.ranges.getD j (0,0)).1=x at *;generalize (s.ranges.getD j (0,0)).2=y at *;have A:Grew w (wr.alloc (.cells #[iX x,iX y] 255)):=d.2.2.trans (kZ _ _ d.2.2.size);have t:=vl A;clear A;by_cases l:x<=c
   ·by_cases m:c<=y
    ·have k:=vl <| H l m
     go_wp2;go_ret;exact⟨by rw[k.out];rfl,t⟩
    ·have k:=vl m
     go_wp2;go_roundg (s.ranges.length-(j+1))
     case measure=>rw[d.out.1];omega
     case rel=>exact⟨j+1,rfl,by omega,by go_num,z (λf=>by have:=k.out;omega),t⟩
   ·have k:=vl l
    go_wp2;go_roundg (s.ranges.length-(j+1))
    case measure=>rw[d.out.1];omega
    case rel=>exact⟨j+1,rfl,by omega,by go_num,z (λf=>by have:=k.out;omega),t⟩
  ·have G:(s.ranges.length:Int)<=(j:Int):=by omega
   have I:=vl <| F λi a=>p i (by omega);clear r p g;go_wp2;go_ret;exact⟨by rw[I.out];rfl,d.2.2⟩
theorem zLa (w:World)(rv:Value)(s:Cs)(k:RangesAt w rv s.ranges)(r:s.ranges.length<=1000000000000)(c:Int):
  Calls prog 184 #[agg #[rv,bool s.others],iX c] w λe w'=>e=returned (bool (s.has c))/\Grew w w':=by
 obtain⟨ao,cap,l,_⟩:=id k;have y:=vl l;clear l;obtain⟨w1,d,a,m,o⟩:∃w1,w1=w.alloc (.cells #[rv,bool s.others] 161)/\Hid (Grew w w1/\w.heap.size<w1.heap.size)/\w1.cell? ⟨w.heap.size,0,none⟩=some rv/\w1.cell? ⟨w.heap.size,1,none⟩=some (bool s.others):=by
  have t:=gY w (.cells #[rv,bool s.others] 161);refine⟨_,rfl,⟨kZ _ _ lQ,by simp⟩,?_,?_⟩ <;> ·unfold cell?;rw[t];rfl
 have u:Hid (Ca 192 #[agg #[rv,bool s.others],iX c] w1.drew λe w'=>e=returned (bool (s.lists c))/\w'.cell? ⟨w.heap.size,1,none⟩=some (bool s.others)/\w'.cell? ⟨w.heap.size,0,none⟩=some rv/\Grew w w'):=by
  refine(zIi w1.drew rv s ((k.grown a.1).grown (Keep.drew _)) r c).mono ?_;rintro e w2 ⟨rfl,g⟩;exact⟨rfl,zA (w:=w1.drew) o a.2 g,zA (w:=w1.drew) m a.2 g,a.1.trans ((Keep.undrew g).lower a.1.size a.1.size)⟩
 cases b:zDJ c with
 |false=>
  have i:Hid (s.has c=false):=by show _=_;unfold Cs.has;rw[b];rfl
  have j:Hid (∀w,Ca 191 #[iX c] w λe w'=>e=returned (bool false)/\w'=w):=λw=>by rw[<-b];exact zFc w c
  go_in;apply wp_cut;intro v f;go_wp2;apply f.out;rw[<-d];clear d;go_wp2;go_quiet ((go_at_call 191;exact Calls.quiet_of_same (j _)));go_wp2;go_ret;exact⟨by rw[i.out];rfl,a.1.trans ⟨rfl,rfl,lQ,λ_ _ _=>rfl⟩⟩
 |true=>
  have i:Hid (s.has c=(s.lists c != s.others)):=by show _=_;unfold Cs.has;rw[b];rfl
  have j:Hid (∀w,Ca 191 #[iX c] w λe w'=>e=returned (bool true)/\w'=w):=λw=>by rw[<-b];exact zFc w c
  clear b;go_in;apply wp_cut;intro v f;go_wp2;apply f.out;clear f;rw[<-d];clear d;go_wp2;go_region_held3 (λw'=>w'.cell? ⟨w.heap.size,0,none⟩=some rv/\w'.cell? ⟨w.heap.size,1,none⟩=some (bool s.others)) (first|exact⟨p,q⟩|go_keep) (first|(go_at_call 191;refine(j _).mono ?_;rintro e z ⟨rfl,rfl⟩;have p:=m;have q:=o)|(go_at_call 192;refine u.mono ?_;rintro e A ⟨rfl,q,p,x⟩))
  all_goals
   go_wp2;go_ret;exact⟨by rw[i.out];rfl,x⟩
theorem yO (a b:Nat)(c:a<9223372036854775808)(d:b<9223372036854775808):bits .or i64 (a:Int) (b:Int)=((a|||b:Nat):Int):=
 (bits_nat i64 63 (by decide) (λn e f=>zBV n e (by simpa using f)) a b (by simpa using c) (by simpa using d)).2
theorem zE1 (j:Nat)(a:j<63):wrap64 (2^j)=((2^j:Nat):Int):=by
 have b:2^j<2^63:=Nat.pow_lt_pow_right (by omega) a;have e:((2:Int)^j)=((2^j:Nat):Int):=by simp
 rw[e];generalize 2^j=x at b;exact w64 _ (by omega) (by omega)
theorem zL3 (a j:Nat)(b:j<63)(c:a<9223372036854775808):bits .or i64 (a:Int) (wrap64 (2^j))=((a|||2^j:Nat):Int):=by
 have d:2^j<2^63:=Nat.pow_lt_pow_right (by omega) b;rw[zE1 j b];exact yO _ _ c (by omega)
def qR (f:Nat->Bool):Nat->Nat
 |0=>0
 |k+1=>if f k then qR f k|||2^k else qR f k
theorem zBh (f:Nat->Bool)(k:Nat):qR f k<2^k:=by
 induction k with
 |zero=>simp[qR]
 |succ k b=>
  have a:2^k<2^(k+1):=Nat.pow_lt_pow_right (by omega) (by omega);unfold qR;split
  ·exact Nat.or_lt_two_pow (by omega) a
  ·omega
def zAK (sets:List Cs)(c:Int)(i:Nat):Bool:=(sets.getD i ⟨[],false⟩).has c
def qP (sets:List Cs)(c:Int):Nat:=qR (zAK sets c) sets.length
theorem zGM (w:World)(v:Value)(sets:List Cs)(z:SetsAt w v sets)(S:sets.length<=24)(A:∀s∈sets,s.ranges.length<=1000000000000)(c:Int):
  Calls prog 169 #[v,iX c] w λe w'=>e=returned (iX (qP sets c))/\Grew w w':=by
 obtain⟨ao,cap,rfl,_,_,B⟩:=z;have C:=vl B;have D:Hid (∀i,i<sets.length->(sets.getD i ⟨[],false⟩).ranges.length<=1000000000000):=λi E=>A _ (zS _ i _ E);have F:Hid (qP sets c=qR (zAK sets c) sets.length):=rfl;generalize T:sets.length=n at *;go_in;go_wp2;go_loopg [5,10] n (λq x i wr=>∃j:Nat,q=n-j/\j<=n/\x=iX (qR (zAK sets c) j:Nat)/\i=iX (j:Int)/\Grew w wr)
 case atStart=>exact⟨0,rfl,lX,rfl,rfl,⟨rfl,rfl,lQ,λ_ _ _=>rfl⟩⟩
 case round=>
  obtain⟨j,G,U,rfl,rfl,k⟩:=hrel;have a:Hid (gk=n-j/\Grew w wr):=⟨G,k⟩
  by_cases r:j<n
  ·have H:(j:Int)<(n:Int):=by omega
   obtain⟨b,o,u,rfl,t,c0,c1,y⟩:=C j r;obtain⟨I,J,rfl,-⟩:=id y;have V:=zA c0 t k;have W:=zA c1 t k;have d:Hid (∀w',Grew w w'->Ca 184 #[agg #[slice I (sets.getD j ⟨[],false⟩).ranges.length J,bool (sets.getD j ⟨[],false⟩).others],iX c] w' λe w2=>e=returned (bool (zAK sets c j))/\Grew w w2):=by
    intro w' f;refine(zLa w' _ _ (y.grown f) (D j r) c).mono ?_;rintro e w2 ⟨rfl,K⟩;exact⟨rfl,f.trans (K.lower f.size f.size)⟩
   have X:=zBh (zAK sets c) j;have Y:2^j<=2^24:=kG (by omega) (by omega);have L:Hid (zAK sets c j=true->qR (zAK sets c) (j+1)=qR (zAK sets c) j|||2^j):=λl=>by show(if _ then _ else _)=_;rw[l];rfl
   have M:Hid (zAK sets c j=false->qR (zAK sets c) (j+1)=qR (zAK sets c) j):=λl=>by show(if _ then _ else _)=_;rw[l];rfl
   generalize (sets.getD j ⟨[],false⟩).ranges.length=aa at *;generalize (sets.getD j ⟨[],false⟩).others=ab at *;generalize qR (zAK sets c) j=N at *;have O:=vl <| zL3 N j (by omega) (by omega);cases g:zAK sets c j with
   |true=>
    rw[g] at d;have m:=vl <| L g;go_wp2_with (first|(go_at_call 184;refine(d _ (a.2.trans (kZ _ _ a.2.size))).mono ?_;rintro e P ⟨rfl,p⟩))
    go_roundg (n-(j+1))
    case measure=>rw[a.out.1];omega
    case rel=>exact⟨j+1,rfl,by omega,by rw[O.out,m.out],by go_num,p⟩
   |false=>
    rw[g] at d;have m:=vl <| M g;go_wp2_with (first|(go_at_call 184;refine(d _ (a.2.trans (kZ _ _ a.2.size))).mono ?_;rintro e P ⟨rfl,p⟩))
    go_roundg (n-(j+1))
    case measure=>rw[a.out.1];omega
    case rel=>exact⟨j+1,rfl,by omega,by rw[m.out],by go_num,p⟩
  ·have Q:j=n:=by omega
   have H:(n:Int)<=(j:Int):=by omega
   have R:Hid (qP sets c=qR (zAK sets c) j):=by show _=_;rw[F.out,Q]
   go_wp2;go_ret;exact⟨by rw[R.out];rfl,a.2⟩
structure Ar where
 lows:List Int
 letters:List Int
 sets:List Int
def jF (lows:List Int)(n:Int):Nat->Nat->Nat->Nat
 |0,low,_=>low
 |f+1,low,high=>if high-low>1 then(if lows.getD ((low+high)/2) 0<=n then jF lows n f ((low+high)/2) high else jF lows n f low ((low+high)/2)) else low
def Ar.area (a:Ar)(n:Int):Nat:=jF a.lows n a.lows.length 0 a.lows.length
theorem zJT (lows:List Int)(n:Int)(f low a:Nat)(b:¬a-low>1):jF lows n f low a=low:=by
 cases f with
 |zero=>rfl
 |succ f=>rw[jF,if_neg b]
theorem zIJ (lows:List Int)(n:Int)(f low a:Nat)(b:low<a):jF lows n f low a<a:=by
 induction f generalizing low a with
 |zero=>exact b
 |succ f c=>
  rw[jF];split
  ·split
   ·exact c _ _ (by omega)
   ·exact lZ (c _ _ (by omega)) (by omega)
  ·exact b
theorem Ar.area_lt (a:Ar)(n:Int)(b:0<a.lows.length):a.area n<a.lows.length:=zIJ _ _ _ _ _ b
structure ArAt (w:World)(lv tv sv:Value)(a:Ar):Prop where
 lows:Ints w (In w) lv a.lows
 letters:Ints w (In w) tv a.letters
 sets:Ints w (In w) sv a.sets
theorem ArAt.grown {w w':World}{lv tv sv:Value}{a:Ar}(b:ArAt w lv tv sv a)(c:Grew w w'):ArAt w' lv tv sv a:=⟨b.lows.grown c,b.letters.grown c,b.sets.grown c⟩
theorem zFE (w:World)(lv tv sv:Value)(a:Ar)(l:ArAt w lv tv sv a)(L:a.lows.length<=1000000000000)(n:Int):
  Calls prog 185 #[agg #[lv,tv,sv],iX n] w λe w'=>e=returned (iX (a.area n))/\Grew w w':=by
 obtain⟨p,r,rfl,_,_,t⟩:=l.lows;obtain⟨at_,u,rfl,-⟩:=l.letters;obtain⟨as_,cs,rfl,-⟩:=l.sets;have E:=vl t;clear t l;obtain⟨w1,v,z,M⟩:∃w1,w1=w.alloc (.cells #[slice p a.lows.length r,slice at_ a.letters.length u,slice as_ a.sets.length cs] 172)/\Hid (Grew w w1)/\w1.cell? ⟨w.heap.size,0,none⟩=some (slice p a.lows.length r):=by
  have F:=gY w (.cells #[slice p a.lows.length r,slice at_ a.letters.length u,slice as_ a.sets.length cs] 172);refine⟨_,rfl,kZ _ _ lQ,?_⟩;unfold cell?;rw[F];rfl
 have G:Hid (a.area n=jF a.lows n a.lows.length 0 a.lows.length):=rfl;generalize a.lows.length=m at *;go_in;apply wp_cut;intro H g;go_wp2;apply g.out;clear g;rw[<-v];clear v;go_wp2;go_loopg [5,6] m (λq x y wr=>∃low c f:Nat,q=c-low/\x=iX (low:Int)/\y=iX (c:Int)/\low<=c/\c<=m/\c-low<=f+1/\a.area n=jF a.lows n f low c/\wr=w1)
 case atStart=>exact⟨0,m,m,rfl,rfl,rfl,lX,lQ,by omega,G,rfl⟩
 case round=>
  obtain⟨low,c,f,A,rfl,rfl,N,O,P,B,rfl⟩:=hrel;have i:Hid (gk=c-low/\a.area n=jF a.lows n f low c):=⟨A,B⟩
  clear A B;by_cases s:c-low>1
  ·obtain⟨f,rfl⟩:∃I,f=I+1:=⟨f-1,by omega⟩
   have Q:low<(low+c)/2:=by omega
   have R:(low+c)/2<c:=by omega
   have C:Hid (jF a.lows n (f+1) low c=if a.lows.getD ((low+c)/2) 0<=n then jF a.lows n f ((low+c)/2) c else jF a.lows n f low ((low+c)/2)):=by show _=_;rw[jF,if_pos s]
   obtain⟨b,o,rfl,J,j⟩:=E ((low+c)/2) (by omega);have S:wr.cell? ⟨b,o+(low+c)/2,none⟩=some (iX (a.lows.getD ((low+c)/2) 0)):=zA j J z;have T:(((low:Int)+(c:Int)).tdiv 2)=(((low+c)/2:Nat):Int):=by
    rw[Int.tdiv_eq_ediv_of_nonneg (by omega)];omega
   clear j;have K:(1:Int)<(c:Int)-(low:Int):=by omega
   have U:(((low+c)/2:Nat):Int)<(m:Int):=by omega
   apply wp_cut;intro H g;go_wp2;apply g.out;clear g;generalize D:(low+c)/2=d at *;have V:=vl D;clear D;generalize a.lows.getD d 0=x at *;by_cases j:x<=n
   ·have k:Hid (jF a.lows n (f+1) low c=jF a.lows n f d c):=by show _=_;rw[C.out,if_pos j]
    go_wp2;go_roundg (c-d)
    case measure=>rw[i.out.1];omega
    case rel=>exact⟨d,c,f,rfl,rfl,rfl,by omega,by omega,by omega,by rw[i.out.2,k.out],rfl⟩
   ·have k:Hid (jF a.lows n (f+1) low c=jF a.lows n f low d):=by show _=_;rw[C.out,if_neg j]
    go_wp2;go_roundg (d-low)
    case measure=>rw[i.out.1];omega
    case rel=>exact⟨low,d,f,rfl,rfl,rfl,by omega,by omega,by omega,by rw[i.out.2,k.out],rfl⟩
  ·have K:(c:Int)-(low:Int)<=1:=by omega
   have k:Hid (jF a.lows n f low c=low):=zJT _ _ _ _ _ s;clear s;go_wp2;go_ret;exact⟨by rw[i.out.2,k.out];rfl,z⟩
def Ar.letter (a:Ar)(n:Int):Int:=a.letters.getD (a.area n) 0
def Ar.alike (a:Ar)(m n:Int):Bool:=(a.area m:Int)==(a.area n:Int)
theorem zG4 (w:World)(lv tv sv:Value)(a:Ar)(f:ArAt w lv tv sv a)(s:a.lows.length<=1000000000000)(o:0<a.lows.length)(t:a.letters.length=a.lows.length)(n:Int):
  Calls prog 175 #[agg #[lv,tv,sv],iX n] w λe w'=>e=returned (iX (a.letter n))/\Grew w w':=by
 obtain⟨i,j,rfl,-⟩:=id f.lows;obtain⟨b,c,g,rfl,u,_,_,p⟩:=f.letters.block (by omega);obtain⟨as_,cs,rfl,-⟩:=id f.sets;obtain⟨w1,q,d,D,v,E⟩:∃w1,w1=w.alloc (.cells #[slice i a.lows.length j,slice (some ⟨b,c,none⟩) a.letters.length g,slice as_ a.sets.length cs] 172)/\Hid (Grew w w1/\w.heap.size<w1.heap.size)/\w1.cell? ⟨w.heap.size,0,none⟩=some (slice i a.lows.length j)/\w1.cell? ⟨w.heap.size,1,none⟩=some (slice (some ⟨b,c,none⟩) a.letters.length g)/\w1.cell? ⟨w.heap.size,2,none⟩=some (slice as_ a.sets.length cs):=by
  have y:=gY w (.cells #[slice i a.lows.length j,slice (some ⟨b,c,none⟩) a.letters.length g,slice as_ a.sets.length cs] 172);refine⟨_,rfl,⟨kZ _ _ lQ,by simp⟩,?_,?_,?_⟩ <;> ·unfold cell?;rw[y];rfl
 have z:=zFE w1 _ _ _ a (f.grown d.1) s n;have A:a.area n<a.letters.length:=by have:=a.area_lt n o;omega
 have r:w.cell? ⟨b,c+a.area n,none⟩=some (iX (a.letters.getD (a.area n) 0)):=p _ A;have B:Hid (a.letter n=a.letters.getD (a.area n) 0):=rfl;have l:Hid (In w b/\w.cell? ⟨b,c+a.area n,none⟩=some (iX (a.letters.getD (a.area n) 0))):=⟨u,r⟩
 clear p f r o t;generalize a.letters.getD (a.area n) 0=x at *;generalize a.area n=k at *;have F:(k:Int)<(a.letters.length:Int):=by omega
 go_in;apply wp_cut;intro G C;go_wp2;apply C.out;rw[<-q];clear q;go_wp2_with (first|(go_at_call 185;refine z.mono ?_;rintro e w2 ⟨rfl,m⟩;have H:w2.cell? ⟨w.heap.size,1,none⟩=some (slice (some ⟨b,c,none⟩) a.letters.length g):=zA v d.2 m;have I:w2.cell? ⟨b,c+k,none⟩=some (iX x):=zA (zA l.2 l.1 d.1) (lZ l.1 d.1.size) m))
 go_ret;exact⟨by rw[B.out];rfl,d.1.trans (m.lower d.1.size d.1.size)⟩
theorem zIL (w:World)(lv tv sv:Value)(a:Ar)(d:ArAt w lv tv sv a)(s:a.lows.length<=1000000000000)(m n:Int):
  Calls prog 177 #[agg #[lv,tv,sv],iX m,iX n] w λe w'=>e=returned (bool (a.alike m n))/\Grew w w':=by
 obtain⟨f,g,rfl,-⟩:=id d.lows;obtain⟨at_,i,rfl,-⟩:=id d.letters;obtain⟨as_,cs,rfl,-⟩:=id d.sets;obtain⟨w1,l,b,o,p,q⟩:∃w1,w1=w.alloc (.cells #[slice f a.lows.length g,slice at_ a.letters.length i,slice as_ a.sets.length cs] 172)/\Hid (Grew w w1/\w.heap.size<w1.heap.size)/\w1.cell? ⟨w.heap.size,0,none⟩=some (slice f a.lows.length g)/\w1.cell? ⟨w.heap.size,1,none⟩=some (slice at_ a.letters.length i)/\w1.cell? ⟨w.heap.size,2,none⟩=some (slice as_ a.sets.length cs):=by
  have t:=gY w (.cells #[slice f a.lows.length g,slice at_ a.letters.length i,slice as_ a.sets.length cs] 172);refine⟨_,rfl,⟨kZ _ _ lQ,by simp⟩,?_,?_,?_⟩ <;> ·unfold cell?;rw[t];rfl
 have r:Hid (∀w' x,Grew w w'->Ca 185 #[agg #[slice f a.lows.length g,slice at_ a.letters.length i,slice as_ a.sets.length cs],iX x] w' λe w2=>e=returned (iX (a.area x))/\Grew w' w2):=λw' x u=>zFE w' _ _ _ a (d.grown u) s x;have v:Hid (a.alike m n=((a.area m:Int)==(a.area n:Int))):=rfl;go_in;apply wp_cut;intro y j;go_wp2;apply j.out;rw[<-l];clear l;apply wp_cut;intro y j;go_wp2_with (first|(go_at_call 185;refine(r _ m b.1).mono ?_;rintro e w2 ⟨rfl,c⟩;have A:=zA o b.2 c;have B:=zA p b.2 c;have C:=zA q b.2 c))
 apply j.out;clear j o p q;have k:=vl <| b.1.trans (c.lower b.1.size b.1.size);clear c;go_wp2_with (first|(go_at_call 185;refine(r _ n k).mono ?_;rintro e D ⟨rfl,z⟩))
 go_ret;exact⟨by rw[v.out];rfl,k.trans (z.lower k.size k.size)⟩
def zCF (l:List Int)(n:Int):Nat->Nat
 |0=>0
 |i+1=>if l.getD i 0>n then zCF l n i else i+1
theorem zM4 (l:List Int)(n:Int)(i:Nat):zCF l n i<=i:=by
 induction i with
 |zero=>exact lQ
 |succ i a=>unfold zCF;split <;> omega
def zCr (l:List Int)(n:Int)(i:Nat):List Int:=l.take i++n::l.drop i
def zFY (l:List Int)(n:Int):List Int:=zCr l n (zCF l n l.length)
theorem zGb (l:List Int)(n:Int)(i:Nat):(zCr l n i).length=l.length+1:=by
 simp[zCr];omega
theorem zDy (l:List Int)(n:Int)(i j:Nat)(c:i<=l.length):(zCr l n i).getD j 0=if j<i then l.getD j 0 else if j=i then n else l.getD (j-1) 0:=by
 unfold zCr;rw[lW,List.getElem?_append,List.length_take];by_cases a:j<i
 ·rw[if_pos (by omega),if_pos a,List.getElem?_take,if_pos a,lW]
 ·rw[if_neg (by omega),if_neg a]
  by_cases b:j=i
  ·subst b
   rw[if_pos rfl,show j-min j l.length=0 by omega];rfl
  ·rw[if_neg b,show j-min i l.length=(j-1-i)+1 by omega,List.getElem?_cons_succ,List.getElem?_drop,show i+(j-1-i)=j-1 by omega,lW]
structure BdAt (w:World)(H p:Nat)(v:Value)(l:List Int):Prop where
 blk:w.heap[p]? =some (.cells #[v] 239)
 own:OwnI w H v l
 pH:H<=p
 lt:p<w.heap.size
def zOs (w:World)(H p:Nat)(l:List Int):Prop:=∃v,BdAt w H p v l
theorem BdAt.cell {w:World}{H p:Nat}{v:Value}{l:List Int}(a:BdAt w H p v l):w.cell? ⟨p,0,none⟩=some v/\w.frozen? ⟨p,0,none⟩=false:=by
 constructor
 ·unfold cell?;rw[a.blk];rfl
 ·unfold frozen?;rw[a.blk];rfl
theorem OwnI.rowOf {w:World}{H:Nat}{v:Value}{l:List Int}(a:OwnI w H v l):Row w H 3 v l.length λi=>iX (l.getD i 0):=a.row l.length rfl (λi=>l.getD i 0) λ_ _=>rfl
theorem Row.ownI {w:World}{H:Nat}{v:Value}{l:List Int}(b:Row w H 3 v l.length λi=>iX (l.getD i 0)):OwnI w H v l:=by
 have e:(List.range l.length).map (λi=>iX (l.getD i 0))=l.map λx=>iX x:=by
  apply List.ext_getElem
  ·simp
  ·intro i a c
   simp at a;simp[a]
 unfold OwnI;rw[<-e];exact b
def Stay (w w':World):Prop:=∀(k:Nat) (c:Array Value) (t:TypeId),w.heap[k]? =some (Obj.cells c t)->t≠3->t≠239->w'.heap[k]? =some (Obj.cells c t)
structure Bz (w0 w:World)(H p g cap:Nat)(l:List Int)(n:Int)(i:Nat):Prop where
 blk:w.heap[p]? =some (.cells #[slice (some ⟨g,0,none⟩) (l.length+1) cap] 239)
 row:Row w H 3 (slice (some ⟨g,0,none⟩) (l.length+1) cap) (l.length+1) λj=>int i64 ((zCr l n i).getD j 0)
 lt:p<w.heap.size
 keep:Keep H H w0 w
 stay:Stay w0 w
theorem Bz.step {f w:World}{H p g cap:Nat}{l:List Int}{n:Int}{i:Nat}(a:Bz f w H p g cap l n (i+1))(v:i+1<=l.length):Bz f ((w.setCell ⟨g,i+1,none⟩ (iX (l.getD i 0))).setCell ⟨g,i,none⟩ (iX n)) H p g cap l n i:=by
 have m:p≠g:=λe=>zN a.row a.blk (by decide) (by rw[e];rfl);have o:=(a.row.at (by omega)).1;refine⟨(lJ _ _ _ _ m).trans ((lJ _ _ _ _ m).trans a.blk),?_,by rw[zC,zC];exact a.lt,(a.keep.trans (zP _ _ _ _ o)).trans (zP _ _ _ _ o),?_⟩;rotate_left
 ·intro k c t x q y
  have r:=a.stay k c t x q y;have s:k≠g:=λe=>zN a.row r (Ne.symm q) (by rw[e];rfl);exact(lJ _ _ _ _ s).trans ((lJ _ _ _ _ s).trans r)
 refine Row.congr ((a.row.set (i+1) (iX (l.getD i 0))).set i (iX n)) λj z=>?_;rw[zDy l n i j (by omega)];by_cases b:j=i
 ·rw[if_pos b,if_neg (by omega),if_pos b]
 ·rw[if_neg b]
  by_cases d:j=i+1
  ·rw[if_pos d,if_neg (by omega),if_neg b,show j-1=i by omega]
  ·rw[if_neg d,zDy l n (i+1) j v]
   by_cases u:j<i
   ·rw[if_pos (by omega),if_pos u]
   ·rw[if_neg (by omega),if_neg d,if_neg u,if_neg b]
end Go.Proofs.YtbjcfkdnjaiclaaGreat
