import Derived.Deep.RegionHeld3
import Derived.Test.YtbjcfkdnjaiclaaGreatB0
import Derived.Test.YtbjcfkdnjaiclaaGreatB5
/- Parts of the proof. -/
set_option linter.unusedVariables false
set_option linter.unusedSimpArgs false
set_option maxHeartbeats 4000000
set_option maxRecDepth 100000
namespace Go.Proofs.YtbjcfkdnjaiclaaGreat
open Go.RowKit Go.Proofs.Tryz Go.World
section
def OwnB (w:World)(H:Nat)(v:Value)(l:List Bool):Prop:=w.ownsRow H 4 1 v l.length (l.map fun x=>.bool x)
theorem OwnB.form {w:World}{H:Nat}{v:Value}{l:List Bool}(h:OwnB w H v l):∃ao cap,v=.slice ao l.length cap:=zE h
theorem OwnB.snoc {w:World}{H g cap:Nat}{l:List Bool}{x:Bool}(h:w.ownsRow H 4 1 (.slice (some ⟨g,0,none⟩) (l.length+1) cap) (l.length+1) ((l.map fun x=>.bool x)++[.bool x])):OwnB w H (.slice (some ⟨g,0,none⟩) (l.length+1) cap) (l++[x]):=by
 unfold OwnB;rw[kX,List.map_append];exact h
theorem zP {w1 w2:World}{o:Obj}{H e z m:Nat}{u v:Value}{ys:List Value}(hg:(w1.alloc o).grownBy w2 v.ownBlock)(h:w1.ownsRow H e z u m ys)(hne:∀g,u.ownBlock=some g->some g≠v.ownBlock):w2.ownsRow H e z u m ys:=
 zD h fun k _ h2 hk=>(hg.block k (by simp;omega) (hne k hk)).trans (lG _ _ _ h2)
theorem zX {w:World}{H e z m p i:Nat}{u x:Value}{ys:List Value}(h:w.ownsRow H e z u m ys)(hp:p<H):(w.setCell ⟨p,i,none⟩ x).ownsRow H e z u m ys:=
 zD h fun k h1 _ _=>lJ _ _ _ _ (by show k≠p;omega)
structure Rp (w wr:World)(mv sv ev:Value)(k:Nat)(xs:List Value)(sl el:List Bool)(a:Int):Prop where
 res:wr.heap[w.heap.size]? =some (.cells #[.slice none 0 0,.slice none 0 0,.slice none 0 0,.int .i64 0,.bool false,.int .i64 0] 30)
 blk:wr.heap[w.heap.size+1]? =some (.cells #[mv,sv,ev,.int .i64 a,.bool false,.int .i64 0] 30)
 modes:wr.ownsRow (w.heap.size+2) 139 7 mv k xs
 shad:OwnB wr (w.heap.size+2) sv sl
 emp:OwnB wr (w.heap.size+2) ev el
 ne:∀g,sv.ownBlock=some g->some g≠ev.ownBlock
 keep:Grew w wr
 lt:w.heap.size+2<=wr.heap.size
section
variable {w wr w2:World} {mv sv ev:Value} {k:Nat} {xs:List Value} {sl el:List Bool} {a:Int}
theorem Rp.grown (h:Rp w wr mv sv ev k xs sl el a)(hk:Grew wr w2):Rp w w2 mv sv ev k xs sl el a:=by
 have:=h.lt;exact⟨(hk.block _ (by omega) (by omega)).trans h.res,(hk.block _ (by omega) (by omega)).trans h.blk,zJ h.modes hk,zJ h.shad hk,zJ h.emp hk,h.ne,h.keep.trans (hk.lower (by omega) (by omega)),lY h.lt hk.size⟩
theorem Rp.drew (h:Rp w wr mv sv ev k xs sl el a):Rp w wr.drew mv sv ev k xs sl el a:=h.grown (Keep.drew _)
theorem Rp.cells (h:Rp w wr mv sv ev k xs sl el a):(wr.cell? ⟨w.heap.size+1,0,none⟩=some mv∧wr.cell? ⟨w.heap.size+1,1,none⟩=some sv∧wr.cell? ⟨w.heap.size+1,2,none⟩=some ev∧wr.cell? ⟨w.heap.size+1,3,none⟩=some (.int .i64 a)∧wr.cell? ⟨w.heap.size+1,4,none⟩=some (.bool false)∧wr.cell? ⟨w.heap.size+1,5,none⟩=some (.int .i64 0))∧(∀i,wr.frozen? ⟨w.heap.size+1,i,none⟩=false):=by
 refine⟨⟨?_,?_,?_,?_,?_,?_⟩,fun i=>?_⟩
 all_goals first|(unfold cell?;rw[h.blk];rfl)|(unfold frozen?;rw[h.blk];simp[World.frozen?])
theorem Rp.modes_app {o:Obj}{g cap:Nat}{news:List Value}(h:Rp w wr mv sv ev k xs sl el a)(hown:w2.ownsRow (w.heap.size+2) 139 7 (.slice (some ⟨g,0,none⟩) (k+1) cap) (k+1) (xs++news))(hg:(wr.alloc o).grownBy w2 mv.ownBlock):
  Rp w (w2.setCell ⟨w.heap.size+1,0,none⟩ (.slice (some ⟨g,0,none⟩) (k+1) cap)) (.slice (some ⟨g,0,none⟩) (k+1) cap) sv ev (k+1) (xs++news) sl el a:=by
 have hlt:=h.lt;have hbl:∀j,j<w.heap.size+2->w2.heap[j]? =wr.heap[j]? :=fun j hj=>(hg.block j (by simp;omega) fun e=>by have:=(h.modes.lt j e.symm).1;omega).trans (lG _ _ _ (by omega));have hb:=(hbl (w.heap.size+1) (by omega)).trans h.blk;refine⟨(lJ _ _ _ _ (by show w.heap.size≠w.heap.size+1;omega)).trans ((hbl _ (by omega)).trans h.res),?_,zX hown (by omega),zX (zP hg h.shad fun g hg=>xM h.shad h.modes (by decide) hg) (by omega),zX (zP hg h.emp fun g hg=>xM h.emp h.modes (by decide) hg) (by omega),h.ne,?_,?_⟩
 ·simp[setCell,lU,hb]
 ·exact(h.keep.trans ⟨hg.os,hg.output,lY (by simp) hg.size,fun j hj _=>hbl j (by omega)⟩).trans (zN _ _ _ _ (by omega))
 ·rw[zC];exact lY hlt (lY (by simp) hg.size)
theorem Rp.shad_app {o:Obj}{g cap:Nat}{x:Bool}(h:Rp w wr mv sv ev k xs sl el a)(hown:w2.ownsRow (w.heap.size+2) 4 1 (.slice (some ⟨g,0,none⟩) (sl.length+1) cap) (sl.length+1) ((sl.map fun x=>.bool x)++[.bool x]))(hg:(wr.alloc o).grownBy w2 sv.ownBlock)(hat:sv.ownBlock=some g∨wr.heap.size<=g):
  Rp w (w2.setCell ⟨w.heap.size+1,1,none⟩ (.slice (some ⟨g,0,none⟩) (sl.length+1) cap)) mv (.slice (some ⟨g,0,none⟩) (sl.length+1) cap) ev k xs (sl++[x]) el a:=by
 have hlt:=h.lt;have hbl:∀j,j<w.heap.size+2->w2.heap[j]? =wr.heap[j]? :=fun j hj=>(hg.block j (by simp;omega) fun e=>by have:=(h.shad.lt j e.symm).1;omega).trans (lG _ _ _ (by omega));have hb:=(hbl (w.heap.size+1) (by omega)).trans h.blk;refine⟨(lJ _ _ _ _ (by show w.heap.size≠w.heap.size+1;omega)).trans ((hbl _ (by omega)).trans h.res),?_,zX (zP hg h.modes fun g hg=>xM h.modes h.shad (by decide) hg) (by omega),?_,zX (zP hg h.emp fun g hg e=>h.ne g e.symm hg.symm) (by omega),?_,?_,?_⟩
 ·simp[setCell,lU,hb]
 ·exact zX (OwnB.snoc hown) (by omega)
 ·intro g' hg' e
  have e1:g=g':=by simpa[Value.ownBlock] using hg'
  subst e1;rcases hat with ha|ha
  ·exact h.ne g ha e
  ·have:=(h.emp.lt g e.symm).2
   omega
 ·exact(h.keep.trans ⟨hg.os,hg.output,lY (by simp) hg.size,fun j hj _=>hbl j (by omega)⟩).trans (zN _ _ _ _ (by omega))
 ·rw[zC];exact lY hlt (lY (by simp) hg.size)
theorem Rp.emp_app {o:Obj}{g cap:Nat}{x:Bool}(h:Rp w wr mv sv ev k xs sl el a)(hown:w2.ownsRow (w.heap.size+2) 4 1 (.slice (some ⟨g,0,none⟩) (el.length+1) cap) (el.length+1) ((el.map fun x=>.bool x)++[.bool x]))(hg:(wr.alloc o).grownBy w2 ev.ownBlock)(hat:ev.ownBlock=some g∨wr.heap.size<=g):
  Rp w (w2.setCell ⟨w.heap.size+1,2,none⟩ (.slice (some ⟨g,0,none⟩) (el.length+1) cap)) mv sv (.slice (some ⟨g,0,none⟩) (el.length+1) cap) k xs sl (el++[x]) a:=by
 have hlt:=h.lt;have hbl:∀j,j<w.heap.size+2->w2.heap[j]? =wr.heap[j]? :=fun j hj=>(hg.block j (by simp;omega) fun e=>by have:=(h.emp.lt j e.symm).1;omega).trans (lG _ _ _ (by omega));have hb:=(hbl (w.heap.size+1) (by omega)).trans h.blk;refine⟨(lJ _ _ _ _ (by show w.heap.size≠w.heap.size+1;omega)).trans ((hbl _ (by omega)).trans h.res),?_,zX (zP hg h.modes fun g hg=>xM h.modes h.emp (by decide) hg) (by omega),zX (zP hg h.shad fun g hg=>h.ne g hg) (by omega),?_,?_,?_,?_⟩
 ·simp[setCell,lU,hb]
 ·exact zX (OwnB.snoc hown) (by omega)
 ·intro g' hg' e
  have e1:g'=g:=by simpa[Value.ownBlock] using e
  subst e1;rcases hat with ha|ha
  ·exact h.ne g' hg' ha.symm
  ·have:=(h.shad.lt g' hg').2
   omega
 ·exact(h.keep.trans ⟨hg.os,hg.output,lY (by simp) hg.size,fun j hj _=>hbl j (by omega)⟩).trans (zN _ _ _ _ (by omega))
 ·rw[zC];exact lY hlt (lY (by simp) hg.size)
theorem Rp.ahead (h:Rp w wr mv sv ev k xs sl el a)(a':Int):Rp w (wr.setCell ⟨w.heap.size+1,3,none⟩ (.int .i64 a')) mv sv ev k xs sl el a':=by
 have hb:=h.blk;have:=h.lt;exact⟨(lJ _ _ _ _ (by show w.heap.size≠w.heap.size+1;omega)).trans h.res,by simp[setCell,lU,hb],zX h.modes (by omega),zX h.shad (by omega),zX h.emp (by omega),h.ne,h.keep.trans (zN _ _ _ _ (by omega)),by rw[zC];omega⟩
end
end
def zAj (m:Sm)(k:Nat):List Bool:=(List.range k).map fun r=>!hasRuleB m ((r:Nat):Int)
def qC (ms:List Sm):Nat->List Bool
 |0=>[]
 |j+1=>qC ms j++zAj (ms.getD j ⟨[],[],0,[]⟩) (ms.getD j ⟨[],[],0,[]⟩).empty.length
def vQ (ms:List Sm):Nat->List Bool
 |0=>[]
 |j+1=>vQ ms j++(ms.getD j ⟨[],[],0,[]⟩).empty
def aheadTo (ms:List Sm):Nat->Int
 |0=>0
 |j+1=>qA (aheadTo ms j) (qI (ms.getD j ⟨[],[],0,[]⟩))
theorem zIT (ms:List Sm)(j:Nat):(qC ms j).length=zQ ms j:=by
 induction j with
 |zero=>rfl
 |succ j ih=>simp[qC,zQ,ih,zAj]
theorem zKV (ms:List Sm)(j:Nat):(vQ ms j).length=zQ ms j:=by
 induction j with
 |zero=>rfl
 |succ j ih=>simp[vQ,zQ,ih]
theorem zJk (a b n:Int)(h:-1<=a∧a<=n)(h':-1<=b∧b<=n)(hn:-1<=n):-1<=qA a b∧qA a b<=n:=by
 unfold qA;split
 ·omega
 ·split <;> omega
theorem zFG (ms:List Sm)(h:ModesOk ms)(j:Nat)(hj:j<=ms.length):-1<=aheadTo ms j∧aheadTo ms j<=200:=by
 induction j with
 |zero=>exact⟨by show(-1:Int)<=0;omega,by show(0:Int)<=200;omega⟩
 |succ j ih=>
  have h1:=qJ ms (j+1) ms.length hj;have h2:=h.states;have h3:(ms.getD j ⟨[],[],0,[]⟩).next.length<=200:=by
   have:zO ms (j+1)=zO ms j+(ms.getD j ⟨[],[],0,[]⟩).next.length:=rfl
   omega
  have h4:=zMM (ms.getD j ⟨[],[],0,[]⟩);exact zJk _ _ 200 (ih (by omega)) ⟨h4.1,by omega⟩ (by omega)
theorem ModesOk.tbl {ms:List Sm}(h:ModesOk ms)(j:Nat)(hj:j<ms.length):(ms[j]).Tbl:=by
 have h1:=qJ ms (j+1) ms.length hj;have h2:=h.states;have e:ms.getD j ⟨[],[],0,[]⟩=ms[j]:=by rw[lW,lV hj];rfl
 have h3:zO ms (j+1)=zO ms j+ms[j].next.length:=by rw[<-e];rfl
 refine⟨h.states1 j hj,by omega,(h.rules j hj).1,fun i hi=>?_,fun i b hi hb=>?_⟩
 ·exact(h.wide j hj _ (zR _ i [] hi)).1
 ·exact(h.wide j hj _ (zR _ i [] hi)).2 b hb
section
attribute [local go_sem ↓] Go.wp_at_zero Go.wp_at_succ
theorem zLK:(prog.info? 139).map (fun i=>(i.zero,i.size,i.bytes))=some (some (.agg #[.int .i64 0,.int .i64 0,.string ⟨#[]⟩,.string ⟨#[]⟩,.string ⟨#[]⟩,.string ⟨#[]⟩,.string ⟨#[]⟩]),7,96):=by kernel_rfl
theorem zLn (w:World):Rp w ((w.alloc (.cells #[.slice none 0 0,.slice none 0 0,.slice none 0 0,.int .i64 0,.bool false,.int .i64 0] 30)).alloc (.cells #[.slice none 0 0,.slice none 0 0,.slice none 0 0,.int .i64 0,.bool false,.int .i64 0] 30)) (.slice none 0 0) (.slice none 0 0) (.slice none 0 0) 0 [] [] [] 0:=by
 have h1:=gG w (.cells #[.slice none 0 0,.slice none 0 0,.slice none 0 0,.int .i64 0,.bool false,.int .i64 0] 30);refine⟨?_,?_,ownsRow_nil _ _ _ _,ownsRow_nil _ _ _ _,ownsRow_nil _ _ _ _,fun g h=>by simp[Value.ownBlock] at h,(kZ _ _ lQ).trans (kZ _ _ (by simp)),by simp⟩
 ·exact(lG _ _ _ (by simp)).trans h1
 ·have h2:=gG (w.alloc (.cells #[.slice none 0 0,.slice none 0 0,.slice none 0 0,.int .i64 0,.bool false,.int .i64 0] 30)) (.cells #[.slice none 0 0,.slice none 0 0,.slice none 0 0,.int .i64 0,.bool false,.int .i64 0] 30)
  simpa using h2
theorem zBg (w:World)(l:List Value)(t:TypeId)(g:Nat)(hg:w.heap.size=g):∀j u,l[j]? =some u->(w.alloc (.cells l.toArray t)).cell? ((⟨g,0,none⟩:Addr).add j)=some u:=by
 intro j u hj;subst hg;rw[Addr.add_lit];unfold cell?;rw[gG];simpa using hj
structure Mx (w:World)(q:Nat)(u0 u1 u3:Value)(m:Sm):Prop where
 blk:w.heap[q]? =some (.cells #[u0,u1,.int .i64 m.start,u3] 134)
 lt:q<w.heap.size
theorem Mx.cells {w:World}{q:Nat}{u0 u1 u3:Value}{m:Sm}(h:Mx w q u0 u1 u3 m):w.cell? ⟨q,0,none⟩=some u0∧w.cell? ⟨q,1,none⟩=some u1∧w.cell? ⟨q,2,none⟩=some (.int .i64 m.start)∧w.cell? ⟨q,3,none⟩=some u3:=by
 refine⟨?_,?_,?_,?_⟩ <;> ·unfold cell?;rw[h.blk];rfl
theorem Mx.grown {w w':World}{q:Nat}{u0 u1 u3:Value}{m:Sm}(h:Mx w q u0 u1 u3 m)(hk:Grew w w'):Mx w' q u0 u1 u3 m:=⟨(hk.block q h.lt (kJ h.lt)).trans h.blk,lZ h.lt hk.size⟩
theorem Mx.app {w w2:World}{o:Obj}{H e z n q i p:Nat}{v x u0 u1 u3:Value}{m:Sm}{xs:List Value}(h:Mx w q u0 u1 u3 m)(hv:w.ownsRow H e z v n xs)(he:e≠134)(hg:(w.alloc o).grownBy w2 v.ownBlock)(hp:q≠p):Mx (w2.setCell ⟨p,i,none⟩ x) q u0 u1 u3 m:=by
 have hl:=h.lt;refine⟨(lJ _ _ _ _ hp).trans ((hg.block q (by simp;omega) (zL hv h.blk he)).trans ((lG _ _ _ h.lt).trans h.blk)),?_⟩;rw[zC];exact lZ hl (lY (by simp) hg.size)
theorem zGI (w:World)(mv:Value)(ms:List Sm)(hM:ModesAt w (In w) mv ms)(hms:ModesOk ms)(kinds:Nat)(hk:kinds<=256)(force:Bool):
  Calls prog 46 #[mv,.int .i64 kinds,.bool force] w fun e w'=>∃mo sh em,e=.returned (.agg #[mo,sh,em,.int .i64 (aheadTo ms ms.length),.bool (!force&&xO (aheadTo ms ms.length) kinds),.int .i64 0])∧OwnB w' w.heap.size sh (qC ms ms.length)∧OwnB w' w.heap.size em (vQ ms ms.length)∧Grew w w'∧∃a n c,mo=.slice a n c:=by
 obtain⟨i0,hi0,hz0,hz1,hz2⟩:=info_parts zLK;obtain⟨ib,hib,hb0,hb1,hb2⟩:=info_parts qP;obtain⟨am,cm,rfl,hcm,hmm,hmc⟩:=hM;have h3:=hms.three;have HMC:Hid (∀i (hi:i<ms.length),∃b o u0 u1 u3,am=some ⟨b,o,none⟩∧In w b∧w.cell? ⟨b,o+i*4,none⟩=some u0∧w.cell? ⟨b,o+i*4+1,none⟩=some u1∧w.cell? ⟨b,o+i*4+2,none⟩=some (.int .i64 ms[i].start)∧w.cell? ⟨b,o+i*4+3,none⟩=some u3∧IntRows w (In w) u0 ms[i].next∧Ints w (In w) u1 ms[i].rules∧Bools w (In w) u3 ms[i].empty):=hmc;have HOK:Hid (ModesOk ms):=hms;have h0:=zLn w;clear hmc hms;go_enter func46,ntmps46
 refine wp_seq_k ?_;intro K0 hK0;have J:Hid (∀a w,_->K0 a w):=hK0;clear hK0;go_wp2_with fail;apply J.out;clear J;refine wp_seq_k ?_;intro K0 hK0;have J:Hid (∀a w,_->K0 a w):=hK0;clear hK0;go_wp2_with fail;apply J.out;clear J;generalize (w.alloc (.cells #[.slice none 0 0,.slice none 0 0,.slice none 0 0,.int .i64 0,.bool false,.int .i64 0] 30)).alloc (.cells #[.slice none 0 0,.slice none 0 0,.slice none 0 0,.int .i64 0,.bool false,.int .i64 0] 30)=w1 at *;have H0:Hid (Rp w w1 (.slice none 0 0) (.slice none 0 0) (.slice none 0 0) 0 [] [] [] 0):=h0;clear h0;go_wp2_with fail;go_loopg [16] ms.length (fun q i wr=>∃(j:Nat) (mv sv ev:Value) (xs:List Value),q=ms.length-j∧j<=ms.length∧i=.int .i64 (j:Int)∧Rp w wr mv sv ev j xs (qC ms j) (vQ ms j) (aheadTo ms j))
 case atStart=>exact⟨0,_,_,_,_,rfl,lX,rfl,H0.out⟩
 case round=>
  obtain⟨j,mv,sv,ev,xs,hgk,hj,rfl,hR⟩:=hrel;have HA:Hid (gk=ms.length-j∧Rp w wr mv sv ev j xs (qC ms j) (vQ ms j) (aheadTo ms j)):=⟨hgk,hR⟩
  by_cases hj2:j<ms.length
  ·have i1:(j:Int)<(ms.length:Int):=by omega
   obtain⟨b,o,u0,u1,u3,rfl,hb,c0,c1,c2,c3,d0,d1,d3⟩:=HMC.out j hj2;obtain⟨an,cn,rfl,-⟩:=id d0;obtain⟨ar,cr,rfl,-⟩:=id d1;have y0:=zA c0 hb hR.keep;have y1:=zA c1 hb hR.keep;have y2:=zA c2 hb hR.keep;have y3:=zA c3 hb hR.keep;obtain⟨m,hm⟩:∃m,m=ms[j]:=⟨_,rfl⟩
   rw[<-hm] at y0 y1 y2 d0 d1 d3;have HT:Hid (TblAt w (.slice an m.next.length cn) (.slice ar m.rules.length cr) m∧m.Tbl∧Bools w (In w) u3 m.empty∧0<=m.start∧m.start<m.next.length∧m=ms[j]∧ms.getD j ⟨[],[],0,[]⟩=m):=⟨⟨d0,d1⟩,by rw[hm];exact HOK.out.tbl j hj2,d3,by rw[hm];exact(HOK.out.start j hj2).1,by rw[hm];exact(HOK.out.start j hj2).2,hm,by rw[hm,lW,lV hj2];rfl⟩
   clear c0 c1 c2 c3 d0 d1 d3 hm hgk hR;refine wp_seq_k ?_;intro K0 hK0;have J:Hid (∀a w,_->K0 a w):=hK0;clear hK0;go_wp2_with fail;apply J.out;clear J;obtain⟨st,hst⟩:∃st:Nat,m.start=(st:Int):=⟨m.start.toNat,by have:=HT.out.2.2.2.1;omega⟩
   have HS:Hid (m.start=(st:Int)∧st<m.next.length):=⟨hst,by have:=HT.out.2.2.2.2.1;omega⟩
   clear hst;obtain⟨ae,ce,rfl,he1,he2,he3⟩:=HT.out.2.2.1;have HE:Hid (∀i,i<m.empty.length->∃b o,ae=some ⟨b,o,none⟩∧In w b∧w.cell? ⟨b,o+i,none⟩=some (.bool (m.empty.getD i false))):=he3;clear he3;have HTM:Hid (∀w',Grew w w'->Calls prog 67 #[.agg #[.slice an m.next.length cn,.slice ar m.rules.length cr,.int .i64 m.start]] w' fun e w2=>∃a b x y z:ByteArray,e=.returned (.agg #[.int .i64 m.next.length,.int .i64 (qI m),.string a,.string b,.string x,.string y,.string z])∧Grew w' w2):=fun w' hk=>zEM w' _ _ m (HT.out.1.grown hk) HT.out.2.1 st HS.out.1 HS.out.2;obtain⟨amv,cmv,hmv⟩:=zE HA.out.2.modes;subst hmv;have hlr:=HA.out.2.lt;have HNM:Hid (∀w5:World,Keep (wr.alloc (.cells #[.slice an m.next.length cn,.slice ar m.rules.length cr,.int .i64 m.start,.slice ae m.empty.length ce] 134)).heap.size (wr.alloc (.cells #[.slice an m.next.length cn,.slice ar m.rules.length cr,.int .i64 m.start,.slice ae m.empty.length ce] 134)).heap.size (wr.alloc (.cells #[.slice an m.next.length cn,.slice ar m.rules.length cr,.int .i64 m.start,.slice ae m.empty.length ce] 134)) w5->some w5.heap.size≠Value.ownBlock (.slice amv j cmv)):=fun w5 h e=>by
    have h1:=(HA.out.2.modes.lt _ e.symm).2;have h2:=h.size;simp at h2;omega
   go_wp2_with (first|(go_at_call 67;refine(HTM.out _ (HA.out.2.keep.trans (kZ _ _ (by omega)))).mono ?_;rintro e w5 ⟨a,b',x,y,z,rfl,hk5⟩;have R5:Rp w (w5.alloc (.cells #[.int .i64 m.next.length,.int .i64 (qI m),.string a,.string b',.string x,.string y,.string z] 139)) (.slice amv j cmv) sv ev j xs (qC ms j) (vQ ms j) (aheadTo ms j):=((HA.out.2.grown (kZ _ _ lQ)).grown hk5).grown (kZ _ _ lQ);obtain⟨⟨r0,r1,r2,r3,r4,r5⟩,rf⟩:=R5.cells;clear r1 r2 r3 r4 r5 rf;have hl5:w.heap.size+2<=w5.heap.size:=lY (by simp;omega) hk5.size;have M5:Mx w5 wr.heap.size (.slice an m.next.length cn) (.slice ar m.rules.length cr) (.slice ae m.empty.length ce) m:=Mx.grown ⟨gG wr _,by simp⟩ hk5)|(at_builtin;refine wpList_append_lies _ rfl _ _ 27 rfl (w.heap.size+2) 139 i0 (.agg #[.int .i64 0,.int .i64 0,.string ⟨#[]⟩,.string ⟨#[]⟩,.string ⟨#[]⟩,.string ⟨#[]⟩,.string ⟨#[]⟩]) 7 96 underlying27 hi0 hz0 hz1 hz2 rfl (by decide) _ _ _ rfl (R5.modes.alloc _) ⟨w5.heap.size+1,0,none⟩ 1 1 [.int .i64 m.next.length,.int .i64 (qI m),.string a,.string b',.string x,.string y,.string z] rfl rfl (zBg _ [.int .i64 m.next.length,.int .i64 (qI m),.string a,.string b',.string x,.string y,.string z] _ _ (by simp)) (by intro u hu;simp at hu;rcases hu with rfl|rfl|rfl|rfl|rfl|rfl|rfl <;> rfl) (by decide) (by unfold maxLen;omega) (by omega) (by simp;omega) _ rfl ?_;intro gg cap w7 hown hgrow hat hlt2;have hbR:w7.heap[w.heap.size+1]? =(w5.alloc (.cells #[.int .i64 m.next.length,.int .i64 (qI m),.string a,.string b',.string x,.string y,.string z] 139)).heap[w.heap.size+1]? :=(hgrow.block _ (by simp;omega) (fun e=>by have:=(R5.modes.lt _ e.symm).1;omega)).trans (lG _ _ _ (by simp;omega));have s0:w7.cell? ⟨w.heap.size+1,0,none⟩=some (.slice amv j cmv):=(cell?_of_block hbR).trans r0;have f0:w7.frozen? ⟨w.heap.size+1,0,none⟩=false:=(frozen?_of_block hbR).trans (R5.cells.2 0);have R8:=Rp.modes_app R5 hown hgrow;have M8:=Mx.app (p:=w.heap.size+1) (i:=0) (x:=.slice (some ⟨gg,0,none⟩) (j+1) cap) (M5.grown (kZ _ (.cells #[.int .i64 m.next.length,.int .i64 (qI m),.string a,.string b',.string x,.string y,.string z] 139) lQ)) R5.modes (by decide) hgrow (by omega);have t3:(w7.setCell ⟨w.heap.size+1,0,none⟩ (.slice (some ⟨gg,0,none⟩) (j+1) cap)).cell? ⟨w.heap.size+1,3,none⟩=some (.int .i64 (aheadTo ms j)):=R8.cells.1.2.2.2.1;have f3:(w7.setCell ⟨w.heap.size+1,0,none⟩ (.slice (some ⟨gg,0,none⟩) (j+1) cap)).frozen? ⟨w.heap.size+1,3,none⟩=false:=R8.cells.2 3;have hbM:(w7.setCell ⟨w.heap.size+1,0,none⟩ (.slice (some ⟨gg,0,none⟩) (j+1) cap)).heap[w5.heap.size]? =(w5.alloc (.cells #[.int .i64 m.next.length,.int .i64 (qI m),.string a,.string b',.string x,.string y,.string z] 139)).heap[w5.heap.size]? :=(lJ _ _ _ _ (by show w5.heap.size≠w.heap.size+1;omega)).trans ((hgrow.block _ (by simp;omega) (HNM.out w5 hk5)).trans (lG _ _ _ (by simp)));have t1:(w7.setCell ⟨w.heap.size+1,0,none⟩ (.slice (some ⟨gg,0,none⟩) (j+1) cap)).cell? ⟨w5.heap.size,1,none⟩=some (.int .i64 (qI m)):=(cell?_of_block hbM).trans (by unfold cell?;rw[gG];rfl);have M9:((w7.setCell ⟨w.heap.size+1,0,none⟩ (.slice (some ⟨gg,0,none⟩) (j+1) cap)).setCell ⟨w.heap.size+1,3,none⟩ (.int .i64 (qA (aheadTo ms j) (qI m)))).cell? ⟨wr.heap.size,3,none⟩=some (.slice ae m.empty.length ce):=(cell?_of_block (lJ _ _ _ _ (by show wr.heap.size≠w.heap.size+1;omega))).trans M8.cells.2.2.2)|(go_at_call 68;refine(zG6 _ (aheadTo ms j) (qI m)).mono ?_;rintro e w9 ⟨rfl,rfl⟩))
   have A9:∃mv2 xs2 w9,w9=((w7.setCell ⟨w.heap.size+1,0,none⟩ (.slice (some ⟨gg,0,none⟩) (j+1) cap)).setCell ⟨w.heap.size+1,3,none⟩ (.int .i64 (qA (aheadTo ms j) (qI m))))∧Hid (Rp w w9 mv2 sv ev (j+1) xs2 (qC ms j) (vQ ms j) (aheadTo ms (j+1))∧Mx w9 wr.heap.size (.slice an m.next.length cn) (.slice ar m.rules.length cr) (.slice ae m.empty.length ce) m):=by
    have e:aheadTo ms (j+1)=qA (aheadTo ms j) (qI m):=by rw[<-HT.out.2.2.2.2.2.2];rfl
    rw[e];exact⟨_,_,_,rfl,R8.ahead _,⟨(lJ _ _ _ _ (by show wr.heap.size≠w.heap.size+1;omega)).trans M8.blk,by rw[zC];exact M8.lt⟩⟩
   obtain⟨mv2,xs2,w9,hw9,A9⟩:=A9;rw[<-hw9];clear hw9 M9 t1 hbM f3 t3 M8 R8 f0 s0 hbR hown hgrow hat M5 R5 r0 y0 y1 y2 y3;have hrl:zQ ms (j+1)=zQ ms j+m.empty.length:=by rw[<-HT.out.2.2.2.2.2.2];rfl
   have hr8:zQ ms j+m.empty.length<=8:=by
    have h1:=zBn ms (j+1) ms.length hj2;have h2:=HOK.out.rules8;omega
   have HSL:Hid ((qC ms j).length=zQ ms j∧(vQ ms j).length=zQ ms j):=⟨zIT ms j,zKV ms j⟩
   clear hrl HNM HTM hk5 hl5;have hq1:w.heap.size+1≠wr.heap.size:=by omega
   generalize hqb:wr.heap.size=qb at *;clear hqb;go_loopg [38] m.empty.length (fun q i wt=>∃(k:Nat) (sv ev:Value),q=m.empty.length-k∧k<=m.empty.length∧i=.int .i64 (k:Int)∧Rp w wt mv2 sv ev (j+1) xs2 (qC ms j++zAj m k) (vQ ms j++m.empty.take k) (aheadTo ms (j+1))∧Mx wt qb (.slice an m.next.length cn) (.slice ar m.rules.length cr) (.slice ae m.empty.length ce) m)
   case atStart=>exact⟨0,sv,ev,rfl,lX,rfl,by rw[zAj,List.take_zero];simpa using A9.out.1,A9.out.2⟩
   case round=>
    obtain⟨k,sv,ev,hgk,hk2,rfl,hR,hM⟩:=hrel;have HB:Hid (gk=m.empty.length-k∧Rp w wr mv2 sv ev (j+1) xs2 (qC ms j++zAj m k) (vQ ms j++m.empty.take k) (aheadTo ms (j+1))∧Mx wr qb (.slice an m.next.length cn) (.slice ar m.rules.length cr) (.slice ae m.empty.length ce) m):=⟨hgk,hR,hM⟩
    by_cases hk3:k<m.empty.length
    ·have i2:(k:Int)<(m.empty.length:Int):=by omega
     obtain⟨be,oe,rfl,hbe,hce⟩:=HE.out k hk3;have ye:wr.cell? ⟨be,oe+k,none⟩=some (.bool (m.empty.getD k false)):=zA hce hbe hR.keep;obtain⟨ek,hek⟩:∃ek,m.empty.getD k false=ek:=⟨_,rfl⟩
     rw[hek] at ye;have HEK:Hid (m.empty.getD k false=ek):=hek;clear hek;obtain⟨q0,q1,q2,q3⟩:=hM.cells;obtain⟨⟨r0,r1,r2,r3,r4,r5⟩,rf⟩:=hR.cells;obtain⟨as_,cs,hsv⟩:=hR.shad.form;obtain⟨ae2,ce2,hev⟩:=hR.emp.form;have hls:(qC ms j++zAj m k).length=zQ ms j+k:=by rw[kX,HSL.out.1];simp[zAj]
     have hle:(vQ ms j++m.empty.take k).length=zQ ms j+k:=by rw[kX,HSL.out.2,List.length_take];omega
     rw[hls] at hsv;rw[hle] at hev;subst hsv hev;generalize hns:zQ ms j+k=ns at *;have hn8:ns<=8:=by omega
     generalize hsl:qC ms j++zAj m k=sl at *;generalize hel:vQ ms j++m.empty.take k=el at *;have HLL:Hid (sl.length=ns∧el.length=ns∧qC ms j++zAj m k=sl∧vQ ms j++m.empty.take k=el):=⟨hls,hle,hsl,hel⟩
     clear hsl hel hls hle hns;have HHR:Hid (∀w',Grew w w'->Calls prog 69 #[.agg #[.slice an m.next.length cn,.slice ar m.rules.length cr,.int .i64 m.start],.int .i64 ((k:Nat):Int)] w' fun e w2=>e=.returned (.bool (hasRuleB m k))∧Grew w' w2):=fun w' hk=>zF0 w' _ _ m (HT.out.1.grown hk) HT.out.2.1 k;have f1:=rf 1;have hlr:=hR.lt;clear r0 r3 r4 r5 r2 q3 rf hgk hce;clear hR hM;have HB2:Hid (∀w5,Grew wr.drew w5->Rp w w5 mv2 (.slice as_ ns cs) (.slice ae2 ns ce2) (j+1) xs2 sl el (aheadTo ms (j+1))∧Mx w5 qb (.slice an m.next.length cn) (.slice ar m.rules.length cr) (.slice (some ⟨be,oe,none⟩) m.empty.length ce) m∧w5.ownsRow (w.heap.size+2) 4 1 (.slice as_ ns cs) ns (sl.map fun x=>.bool x)∧wr.heap.size<=w5.heap.size):=by
      intro w5 h;have h':=HB.out.2.1.drew.grown h;refine⟨h',(HB.out.2.2.grown (Keep.drew _)).grown h,?_,h.size⟩;have h2:=h'.shad;unfold OwnB at h2;rw[HLL.out.1] at h2;exact h2
     go_wp2_with fail;go_region_law ((first
      |(refine step_append_lies _ (by rfl) (.tmp 44) (.tmp 50) 28 (by rfl) (w.heap.size+2) 4 ib _ 1 1 underlying28 hib hb0 hb1 hb2 rfl (by decide) (.slice as_ ns cs) ns (sl.map fun x=>.bool x) (by simp[Act.eval,Act.put]) (O5.alloc _) ⟨w5.heap.size,0,none⟩ 1 1 [.bool (!hasRuleB m k)] (by simp[Act.eval,Act.put]) (by rfl) (news_of_block (cs:=#[.bool (!hasRuleB m k)]) (t:=4) (fr:=(0,0)) (gG w5 _)) (by simp[Value.oneCell']) (by decide) (by unfold maxLen;omega) (by omega) (by simp;omega) (w5.heap.size+1) (by simp) ?_;intro gg cap2 w6 hown hgrow hat hlt;have hPB:w6.heap[w.heap.size+1]? =w5.heap[w.heap.size+1]? :=(hgrow.block _ (by simp;omega) (fun e=>by have:=(O5.lt _ e.symm).1;omega)).trans (lG _ _ _ (by omega));have t1:w6.cell? ⟨w.heap.size+1,1,none⟩=some (.slice as_ ns cs):=(cell?_of_block hPB).trans R5.cells.1.2.1;have t2:w6.frozen? ⟨w.heap.size+1,1,none⟩=false:=(frozen?_of_block hPB).trans (R5.cells.2 1))
      |(go_simp;go_at_call 69;refine(HHR.out _ (HB.out.2.1.keep.trans (Keep.drew _))).mono ?_;rintro e w5 ⟨rfl,hk5⟩;obtain⟨R5,M5,O5,hs5⟩:=HB2.out w5 hk5;have p1:w5.cell? ⟨w.heap.size+1,1,none⟩=some (.slice as_ ns cs):=R5.cells.1.2.1;have hl5:w.heap.size+2<=w5.heap.size:=R5.lt;have p2:(w5.alloc (.cells #[.bool (!hasRuleB m k)] 4)).cell? ⟨w.heap.size+1,1,none⟩=some (.slice as_ ns cs):=(cell?_alloc_past _ _ _ (by show w.heap.size+1<w5.heap.size;omega)).trans p1)))
     all_goals
      obtain⟨sv3,w7,hw7,hsv3,A7⟩:∃sv3 w7,w7=w6.setCell ⟨w.heap.size+1,1,none⟩ (.slice (some ⟨gg,0,none⟩) (ns+1) cap2)∧sv3=.slice (some ⟨gg,0,none⟩) (ns+1) cap2∧Hid (Rp w w7 mv2 sv3 (.slice ae2 ns ce2) (j+1) xs2 (sl++[!hasRuleB m k]) el (aheadTo ms (j+1))∧Mx w7 qb (.slice an m.next.length cn) (.slice ar m.rules.length cr) (.slice (some ⟨be,oe,none⟩) m.empty.length ce) m):=by
       refine⟨_,_,rfl,rfl,?_,Mx.app M5 O5 (by decide) hgrow (Ne.symm hq1)⟩;have hown2:=hown;rw[<-HLL.out.1] at hown2;have h:=Rp.shad_app R5 hown2 hgrow (by
        rcases hat with ha|ha
        ·exact .inl ha
        ·right;rw[ha];omega)
       rw[HLL.out.1] at h;exact h
      rw[<-hw7];clear hw7 hown hgrow hat hPB t1 t2 p1 p2 O5 M5 R5 hk5 r1 q0 q1 q2 f1 ye;have hl7:=A7.out.1.lt;have s2:w7.cell? ⟨w.heap.size+1,2,none⟩=some (.slice ae2 ns ce2):=A7.out.1.cells.1.2.2.1;have O7:w7.ownsRow (w.heap.size+2) 4 1 (.slice ae2 ns ce2) ns (el.map fun x=>.bool x):=by
       have h:=A7.out.1.emp;unfold OwnB at h;rw[HLL.out.2.1] at h;exact h
      go_wp2_with (first|(at_builtin;refine wpList_append_lies _ rfl _ _ 28 rfl (w.heap.size+2) 4 ib (.bool false) 1 1 underlying28 hib hb0 hb1 hb2 rfl (by decide) _ _ _ rfl (O7.alloc _) ⟨w7.heap.size,0,none⟩ 1 1 [.bool ek] rfl rfl (cell_one_new _ _ _) (by intro u hu;simp at hu;subst hu;rfl) (by decide) (by unfold maxLen;omega) (by omega) (by simp;omega) _ rfl ?_;intro g2 cap3 w8 hown hgrow hat hlt2;have hPB:w8.heap[w.heap.size+1]? =w7.heap[w.heap.size+1]? :=(hgrow.block _ (by simp;omega) (fun e=>by have:=(O7.lt _ e.symm).1;omega)).trans (lG _ _ _ (by omega));have t1:w8.cell? ⟨w.heap.size+1,2,none⟩=some (.slice ae2 ns ce2):=(cell?_of_block hPB).trans A7.out.1.cells.1.2.2.1;have t2:w8.frozen? ⟨w.heap.size+1,2,none⟩=false:=(frozen?_of_block hPB).trans (A7.out.1.cells.2 2)))
      obtain⟨ev3,w9,hw9,A9⟩:∃ev3 w9,w9=w8.setCell ⟨w.heap.size+1,2,none⟩ (.slice (some ⟨g2,0,none⟩) (ns+1) cap3)∧Hid (Rp w w9 mv2 sv3 ev3 (j+1) xs2 (sl++[!hasRuleB m k]) (el++[ek]) (aheadTo ms (j+1))∧Mx w9 qb (.slice an m.next.length cn) (.slice ar m.rules.length cr) (.slice (some ⟨be,oe,none⟩) m.empty.length ce) m):=by
       refine⟨.slice (some ⟨g2,0,none⟩) (ns+1) cap3,_,rfl,?_,Mx.app A7.out.2 O7 (by decide) hgrow (Ne.symm hq1)⟩;have hown2:=hown;rw[<-HLL.out.2.1] at hown2;have h:=Rp.emp_app A7.out.1 hown2 hgrow (by
        rcases hat with ha|ha
        ·exact .inl ha
        ·right;rw[ha];simp)
       rw[HLL.out.2.1] at h;exact h
      rw[<-hw9];clear hw9 hown hgrow hat hPB t1 t2 O7 s2;go_roundg (m.empty.length-(k+1))
      case measure=>rw[HB.out.1];omega
      case rel=>
       refine⟨k+1,sv3,ev3,rfl,by omega,by go_num,?_,A9.out.2⟩;have e1:qC ms j++zAj m (k+1)=sl++[!hasRuleB m k]:=by
        rw[<-HLL.out.2.2.1];simp[zAj,List.range_succ]
       have e2:vQ ms j++m.empty.take (k+1)=el++[ek]:=by
        rw[<-HLL.out.2.2.2,<-HEK.out,gU,List.take_add_one,lW,lV hk3];rfl
       rw[e1,e2];exact A9.out.1
    ·have hke:k=m.empty.length:=by omega
     have i2:(m.empty.length:Int)<=(k:Int):=by omega
     have HZ:Hid (Rp w wr mv2 sv ev (j+1) xs2 (qC ms (j+1)) (vQ ms (j+1)) (aheadTo ms (j+1))):=by
      have h:=hR;rw[hke,List.take_length] at h;have e1:qC ms (j+1)=qC ms j++zAj m m.empty.length:=by rw[<-HT.out.2.2.2.2.2.2];rfl
      have e2:vQ ms (j+1)=vQ ms j++m.empty:=by rw[<-HT.out.2.2.2.2.2.2];rfl
      show Rp _ _ _ _ _ _ _ _ _ _;rw[e1,e2];exact h
     clear hgk hR hM hke;go_wp2_with fail;go_roundg (ms.length-(j+1))
     case measure=>rw[HA.out.1];omega
     case rel=>exact⟨j+1,_,_,_,_,rfl,by omega,by go_num,HZ.out⟩
  ·have hje:j=ms.length:=by omega
   have i1:(ms.length:Int)<=(j:Int):=by omega
   have HZ:Hid (Rp w wr mv sv ev j xs (qC ms ms.length) (vQ ms ms.length) (aheadTo ms ms.length)):=by
    have h:=hR;show Rp _ _ _ _ _ _ _ _ _ _;rw[<-hje];exact h
   have hal:=zFG ms HOK.out ms.length lQ;have HIS:Hid (∀w',Calls prog 70 #[.int .i64 (aheadTo ms ms.length),.int .i64 ((kinds:Nat):Int)] w' fun e w2=>e=.returned (.bool (xO (aheadTo ms ms.length) kinds))∧w2=w'):=fun w'=>zFh w' _ kinds hk (by omega);obtain⟨⟨r0,r1,r2,r3,r4,r5⟩,rf⟩:=HZ.out.cells;have f4:=rf 4;obtain⟨a0,k0,rfl⟩:=zE HZ.out.modes;obtain⟨a1,k1,rfl⟩:=HZ.out.shad.form;obtain⟨a2,k2,rfl⟩:=HZ.out.emp.form;have hres:=HZ.out.res;have x0:wr.cell? ⟨w.heap.size,0,none⟩=some (.slice none 0 0):=by unfold cell?;rw[hres];rfl
   have x1:wr.cell? ⟨w.heap.size,1,none⟩=some (.slice none 0 0):=by unfold cell?;rw[hres];rfl
   have x2:wr.cell? ⟨w.heap.size,2,none⟩=some (.slice none 0 0):=by unfold cell?;rw[hres];rfl
   have x3:wr.cell? ⟨w.heap.size,3,none⟩=some (.int .i64 0):=by unfold cell?;rw[hres];rfl
   have x4:wr.cell? ⟨w.heap.size,4,none⟩=some (.bool false):=by unfold cell?;rw[hres];rfl
   have x5:wr.cell? ⟨w.heap.size,5,none⟩=some (.int .i64 0):=by unfold cell?;rw[hres];rfl
   have xf:∀i,wr.frozen? ⟨w.heap.size,i,none⟩=false:=fun i=>by unfold frozen?;rw[hres];simp
   have xf0:=xf 0;have xf1:=xf 1;have xf2:=xf 2;have xf3:=xf 3;have xf4:=xf 4;have xf5:=xf 5;clear hgk hR hje rf xf hres;obtain⟨A,hA⟩:∃A,aheadTo ms ms.length=A:=⟨_,rfl⟩
   rw[hA] at r3 HIS HZ hal;have HAe:Hid (aheadTo ms ms.length=A):=hA;clear hA;cases force with
   |true=>
    go_wp2_with fail;refine bodyPost_ret (v:=.agg #[.slice a0 j k0,.slice a1 (qC ms ms.length).length k1,.slice a2 (vQ ms ms.length).length k2,.int .i64 A,.bool false,.int .i64 0]) (by simp[results,results46,go_sem, *]) rfl ⟨_,_,_,by rw[HAe.out];rfl,?_,?_,?_,⟨_,_,_,rfl⟩⟩
    ·refine qX (H:=w.heap.size+2) ?_ (by omega)
     iterate 7 refine zX ?_ (by omega)
     exact HZ.out.shad
    ·refine qX (H:=w.heap.size+2) ?_ (by omega)
     iterate 7 refine zX ?_ (by omega)
     exact HZ.out.emp
    ·refine HZ.out.keep.trans ?_
     iterate 6 refine Keep.trans ?_ (zN _ _ _ _ (by omega))
     exact zN _ _ _ _ (by omega)
   |false=>
    go_wp2_with (first|(go_at_call 70;refine(HIS.out _).mono ?_;rintro e w9 ⟨rfl,rfl⟩))
    refine bodyPost_ret (v:=.agg #[.slice a0 j k0,.slice a1 (qC ms ms.length).length k1,.slice a2 (vQ ms ms.length).length k2,.int .i64 A,.bool (xO A kinds),.int .i64 0]) (by simp[results,results46,go_sem, *]) rfl ⟨_,_,_,by rw[HAe.out];rfl,?_,?_,?_,⟨_,_,_,rfl⟩⟩
    ·refine qX (H:=w.heap.size+2) ?_ (by omega)
     iterate 7 refine zX ?_ (by omega)
     exact HZ.out.shad
    ·refine qX (H:=w.heap.size+2) ?_ (by omega)
     iterate 7 refine zX ?_ (by omega)
     exact HZ.out.emp
    ·refine HZ.out.keep.trans ?_
     iterate 6 refine Keep.trans ?_ (zN _ _ _ _ (by omega))
     exact zN _ _ _ _ (by omega)
end
theorem zDL (w:World)(H p:Nat)(c:Tc)(t:Tb)(hM:Mem w H p c t)(ok:t.OkN)(hn1:1<=t.nst)(hc1:1<=t.count)(a:Nat)(ha:a<=255)(hw:zG t.count a<=3000):
  Calls prog 47 #[.pointer (some ⟨p,0,none⟩),.int .i64 a] w fun e w'=>e=.returned (.tuple #[])∧∃c',Mem w' H p c' ({t with stream:=true}.looking a)∧Keep w.heap.size p w w':=by
 have y0:=hM.tp.get_stream;have z0:=hM.tp.fz 0;have HM:Hid (Mem (w.setCell ⟨p,0,none⟩ (.bool true)) H p {c with stream:=.bool true} {t with stream:=true}):=hM.putStream true;have HC:=zBP _ H p _ _ HM.out ⟨ok.1,ok.2,ok.3,ok.4⟩ hn1 hc1 a ha hw;clear hM;go_enter func47,ntmps47
 go_wp2_with (first|(go_at_call 66;refine HC.mono ?_;rintro e w2 ⟨rfl,c',hc,hk⟩))
 go_end0;exact⟨rfl,c',hc,(Keep.set _ _ _).trans (by rw[zC] at hk;exact hk)⟩
def zDQ (n:Int):Bool:=decide (0<=n∧n<55296∨57343<n∧n<=1114111)
structure Cs where
 ranges:List (Int×Int)
 others:Bool
def Cs.lists (s:Cs)(c:Int):Bool:=s.ranges.any fun r=>decide (r.1<=c)&&decide (c<=r.2)
def Cs.has (s:Cs)(c:Int):Bool:=zDQ c&&(s.lists c != s.others)
def RangesAt (w:World)(v:Value)(l:List (Int×Int)):Prop:=
 ∃ao cap,v=.slice ao l.length cap∧l.length<=cap∧cap<=maxLen∧∀i,i<l.length->∃b o,ao=some ⟨b,o,none⟩∧In w b∧w.cell? ⟨b,o+i*2,none⟩=some (.int .i64 (l.getD i (0,0)).1)∧w.cell? ⟨b,o+i*2+1,none⟩=some (.int .i64 (l.getD i (0,0)).2)
theorem RangesAt.grown {w w':World}{v:Value}{l:List (Int×Int)}(h:RangesAt w v l)(hk:Grew w w'):RangesAt w' v l:=by
 obtain⟨ao,cap,hv,h1,h2,h3⟩:=h;refine⟨ao,cap,hv,h1,h2,fun i hi=>?_⟩;obtain⟨b,o,ha,hb,c0,c1⟩:=h3 i hi;exact⟨b,o,ha,lZ hb hk.size,zA c0 hb hk,zA c1 hb hk⟩
def SetsAt (w:World)(v:Value)(l:List Cs):Prop:=
 ∃ao cap,v=.slice ao l.length cap∧l.length<=cap∧cap<=maxLen∧∀i,i<l.length->∃b o u,ao=some ⟨b,o,none⟩∧In w b∧w.cell? ⟨b,o+i*2,none⟩=some u∧w.cell? ⟨b,o+i*2+1,none⟩=some (.bool (l.getD i ⟨[],false⟩).others)∧RangesAt w u (l.getD i ⟨[],false⟩).ranges
theorem SetsAt.grown {w w':World}{v:Value}{l:List Cs}(h:SetsAt w v l)(hk:Grew w w'):SetsAt w' v l:=by
 obtain⟨ao,cap,hv,h1,h2,h3⟩:=h;refine⟨ao,cap,hv,h1,h2,fun i hi=>?_⟩;obtain⟨b,o,u,ha,hb,c0,c1,hr⟩:=h3 i hi;exact⟨b,o,u,ha,lZ hb hk.size,zA c0 hb hk,zA c1 hb hk,hr.grown hk⟩
theorem zFg (w:World)(n:Int):
  Calls prog 191 #[.int .i64 n] w fun e w'=>e=.returned (.bool (zDQ n))∧w'=w:=by
 by_cases h1:0<=n
 ·by_cases h2:n<55296
  ·have HV:Hid (zDQ n=true):=by show _=_;unfold zDQ;exact decide_eq_true (by omega)
   go_in;go_wp2;go_ret;exact⟨by rw[HV.out];simp[h1,h2],rfl⟩
  ·by_cases h3:57343<n
   ·have HV:Hid (zDQ n=decide (n<=1114111)):=by show _=_;unfold zDQ;congr 1;exact propext (by omega)
    go_in;go_wp2;go_ret;exact⟨by rw[HV.out];simp[h1,h2,h3],rfl⟩
   ·have HV:Hid (zDQ n=false):=by show _=_;unfold zDQ;exact decide_eq_false (by omega)
    go_in;go_wp2;go_ret;exact⟨by rw[HV.out];simp[h1,h2,h3],rfl⟩
 ·have h3:¬57343<n:=by omega
  have HV:Hid (zDQ n=false):=by show _=_;unfold zDQ;exact decide_eq_false (by omega)
  go_in;go_wp2;go_ret;exact⟨by rw[HV.out];simp[h1,h3],rfl⟩
theorem zL5 {α:Type}(l:List α)(p:α->Bool)(d:α)(i:Nat)(hi:i<l.length)(h:p (l.getD i d)=true):l.any p=true:=by
 rw[List.any_eq_true];exact⟨_,zR l i d hi,h⟩
theorem zIz {α:Type}(l:List α)(p:α->Bool)(d:α)(h:∀i,i<l.length->p (l.getD i d)=false):l.any p=false:=by
 rw[List.any_eq_false];intro x hx;obtain⟨i,hi,rfl⟩:=List.getElem_of_mem hx;have:=h i hi;rw[lW,lV hi] at this;simpa using this
theorem zIb (w:World)(rv:Value)(s:Cs)(hR:RangesAt w rv s.ranges)(hl:s.ranges.length<=1000000000000)(c:Int):
  Calls prog 192 #[.agg #[rv,.bool s.others],.int .i64 c] w fun e w'=>e=.returned (.bool (s.lists c))∧Grew w w':=by
 obtain⟨ao,cap,rfl,_,_,h3⟩:=hR;have HR:=vl h3;have HV:Hid (∀i,i<s.ranges.length->(s.ranges.getD i (0,0)).1<=c->c<=(s.ranges.getD i (0,0)).2->s.lists c=true):=fun i hi h1 h2=>zL5 _ _ (0,0) i hi (by show(decide _&&decide _)=true;rw[decide_eq_true h1,decide_eq_true h2];rfl);have HN:Hid ((∀i,i<s.ranges.length->¬((s.ranges.getD i (0,0)).1<=c∧c<=(s.ranges.getD i (0,0)).2))->s.lists c=false):=fun h=>zIz _ _ (0,0) fun i hi=>by
  have:=h i hi;simpa using this
 go_in;go_wp2;go_loopg [10] s.ranges.length (fun q i wr=>∃j:Nat,q=s.ranges.length-j∧j<=s.ranges.length∧i=.int .i64 (j:Int)∧(∀i,i<j->¬((s.ranges.getD i (0,0)).1<=c∧c<=(s.ranges.getD i (0,0)).2))∧Grew w wr)
 case atStart=>exact⟨0,rfl,lX,rfl,fun i hi=>by omega,kZ _ _ lQ⟩
 case round=>
  obtain⟨j,hgk,hj,rfl,hno,hkp⟩:=hrel;have HA:Hid (gk=s.ranges.length-j∧(∀i,i<j->¬((s.ranges.getD i (0,0)).1<=c∧c<=(s.ranges.getD i (0,0)).2))∧Grew w wr):=⟨hgk,hno,hkp⟩
  by_cases hj2:j<s.ranges.length
  ·have i1:(j:Int)<(s.ranges.length:Int):=by omega
   obtain⟨b,o,rfl,hb,c0,c1⟩:=HR.out j hj2;have y0:wr.cell? ⟨b,o+j*2,none⟩=some (.int .i64 (s.ranges.getD j (0,0)).1):=zA c0 hb hkp;have y1:wr.cell? ⟨b,o+j*2+1,none⟩=some (.int .i64 (s.ranges.getD j (0,0)).2):=zA c1 hb hkp;have HV2:=vl <| HV.out j hj2;have HN2:Hid (¬((s.ranges.getD j (0,0)).1<=c∧c<=(s.ranges.getD j (0,0)).2)->∀i,i<j+1->¬((s.ranges.getD i (0,0)).1<=c∧c<=(s.ranges.getD i (0,0)).2)):=fun h i hi=>by
    by_cases e:i=j
    ·rw[e];exact h
    ·exact HA.out.2.1 i (by omega)
   clear c0 c1 hgk hno hkp;generalize (s.ranges.getD j (0,0)).1=x at *;generalize (s.ranges.getD j (0,0)).2=y at *;have hka:Grew w (wr.alloc (.cells #[.int .i64 x,.int .i64 y] 255)):=HA.out.2.2.trans (kZ _ _ HA.out.2.2.size);have HKA:=vl hka;clear hka;by_cases h1:x<=c
   ·by_cases h2:c<=y
    ·have HH:=vl <| HV2.out h1 h2
     go_wp2;go_ret;exact⟨by rw[HH.out];rfl,HKA.out⟩
    ·have HH:=vl h2
     go_wp2;go_roundg (s.ranges.length-(j+1))
     case measure=>rw[HA.out.1];omega
     case rel=>exact⟨j+1,rfl,by omega,by go_num,HN2.out (fun h=>by have:=HH.out;omega),HKA.out⟩
   ·have HH:=vl h1
    go_wp2;go_roundg (s.ranges.length-(j+1))
    case measure=>rw[HA.out.1];omega
    case rel=>exact⟨j+1,rfl,by omega,by go_num,HN2.out (fun h=>by have:=HH.out;omega),HKA.out⟩
  ·have i1:(s.ranges.length:Int)<=(j:Int):=by omega
   have HZ:=vl <| HN.out fun i hi=>hno i (by omega);clear hgk hno hkp;go_wp2;go_ret;exact⟨by rw[HZ.out];rfl,HA.out.2.2⟩
theorem zKI (w:World)(rv:Value)(s:Cs)(hR:RangesAt w rv s.ranges)(hl:s.ranges.length<=1000000000000)(c:Int):
  Calls prog 184 #[.agg #[rv,.bool s.others],.int .i64 c] w fun e w'=>e=.returned (.bool (s.has c))∧Grew w w':=by
 obtain⟨ao,cap,hrv,_⟩:=id hR;have HRV:=vl hrv;clear hrv;obtain⟨w1,hw1,K1,y0,y1⟩:∃w1,w1=w.alloc (.cells #[rv,.bool s.others] 161)∧Hid (Grew w w1∧w.heap.size<w1.heap.size)∧w1.cell? ⟨w.heap.size,0,none⟩=some rv∧w1.cell? ⟨w.heap.size,1,none⟩=some (.bool s.others):=by
  have h:=gG w (.cells #[rv,.bool s.others] 161);refine⟨_,rfl,⟨kZ _ _ lQ,by simp⟩,?_,?_⟩ <;> ·unfold cell?;rw[h];rfl
 have HL:Hid (Calls prog 192 #[.agg #[rv,.bool s.others],.int .i64 c] w1.drew fun e w'=>e=.returned (.bool (s.lists c))∧w'.cell? ⟨w.heap.size,1,none⟩=some (.bool s.others)∧w'.cell? ⟨w.heap.size,0,none⟩=some rv∧Grew w w'):=by
  refine(zIb w1.drew rv s ((hR.grown K1.out.1).grown (Keep.drew _)) hl c).mono ?_;rintro e w2 ⟨rfl,hk⟩;exact⟨rfl,zA (w:=w1.drew) y1 K1.out.2 hk,zA (w:=w1.drew) y0 K1.out.2 hk,K1.out.1.trans ((Keep.undrew hk).lower K1.out.1.size K1.out.1.size)⟩
 cases hc:zDQ c with
 |false=>
  have HC:Hid (s.has c=false):=by show _=_;unfold Cs.has;rw[hc];rfl
  have HI:Hid (∀w,Calls prog 191 #[.int .i64 c] w fun e w'=>e=.returned (.bool false)∧w'=w):=fun w=>by rw[<-hc];exact zFg w c
  go_in;apply wp_cut;intro K0 J;go_wp2;apply J.out;rw[<-hw1];clear hw1;go_wp2;go_quiet ((go_at_call 191;exact Calls.quiet_of_same (HI.out _)));go_wp2;go_ret;exact⟨by rw[HC.out];rfl,K1.out.1.trans ⟨rfl,rfl,lQ,fun _ _ _=>rfl⟩⟩
 |true=>
  have HC:Hid (s.has c=(s.lists c != s.others)):=by show _=_;unfold Cs.has;rw[hc];rfl
  have HI:Hid (∀w,Calls prog 191 #[.int .i64 c] w fun e w'=>e=.returned (.bool true)∧w'=w):=fun w=>by rw[<-hc];exact zFg w c
  clear hc;go_in;apply wp_cut;intro K0 J;go_wp2;apply J.out;clear J;rw[<-hw1];clear hw1;go_wp2;go_region_held3 (fun w'=>w'.cell? ⟨w.heap.size,0,none⟩=some rv∧w'.cell? ⟨w.heap.size,1,none⟩=some (.bool s.others)) (first|exact⟨z0,z1⟩|go_keep) (first|(go_at_call 191;refine(HI.out _).mono ?_;rintro e w3 ⟨rfl,rfl⟩;have z0:=y0;have z1:=y1)|(go_at_call 192;refine HL.out.mono ?_;rintro e w4 ⟨rfl,z1,z0,hk4⟩))
  all_goals
   go_wp2;go_ret;exact⟨by rw[HC.out];rfl,hk4⟩
theorem yK (a b:Nat)(ha:a<9223372036854775808)(hb:b<9223372036854775808):bits .or .i64 (a:Int) (b:Int)=((a|||b:Nat):Int):=
 (bits_nat .i64 63 (by decide) (fun n h0 h1=>zB1 n h0 (by simpa using h1)) a b (by simpa using ha) (by simpa using hb)).2
theorem zE4 (j:Nat)(hj:j<63):wrap64 (2^j)=((2^j:Nat):Int):=by
 have h1:2^j<2^63:=Nat.pow_lt_pow_right (by omega) hj;have e:((2:Int)^j)=((2^j:Nat):Int):=by simp
 rw[e];generalize 2^j=x at h1;exact w64 _ (by omega) (by omega)
theorem zLt (a j:Nat)(hj:j<63)(ha:a<9223372036854775808):bits .or .i64 (a:Int) (wrap64 (2^j))=((a|||2^j:Nat):Int):=by
 have h1:2^j<2^63:=Nat.pow_lt_pow_right (by omega) hj;rw[zE4 j hj];exact yK _ _ ha (by omega)
def qM (f:Nat->Bool):Nat->Nat
 |0=>0
 |k+1=>if f k then qM f k|||2^k else qM f k
theorem zBh (f:Nat->Bool)(k:Nat):qM f k<2^k:=by
 induction k with
 |zero=>simp[qM]
 |succ k ih=>
  have h1:2^k<2^(k+1):=Nat.pow_lt_pow_right (by omega) (by omega);unfold qM;split
  ·exact Nat.or_lt_two_pow (by omega) h1
  ·omega
def zAK (sets:List Cs)(c:Int)(i:Nat):Bool:=(sets.getD i ⟨[],false⟩).has c
def qK (sets:List Cs)(c:Int):Nat:=qM (zAK sets c) sets.length
theorem zGE (w:World)(v:Value)(sets:List Cs)(hS:SetsAt w v sets)(hn:sets.length<=24)(hl:∀s∈sets,s.ranges.length<=1000000000000)(c:Int):
  Calls prog 169 #[v,.int .i64 c] w fun e w'=>e=.returned (.int .i64 (qK sets c))∧Grew w w':=by
 obtain⟨ao,cap,rfl,_,_,h3⟩:=hS;have HR:=vl h3;have HL:Hid (∀i,i<sets.length->(sets.getD i ⟨[],false⟩).ranges.length<=1000000000000):=fun i hi=>hl _ (zR _ i _ hi);have HV:Hid (qK sets c=qM (zAK sets c) sets.length):=rfl;generalize hn2:sets.length=n at *;go_in;go_wp2;go_loopg [5,10] n (fun q x i wr=>∃j:Nat,q=n-j∧j<=n∧x=.int .i64 (qM (zAK sets c) j:Nat)∧i=.int .i64 (j:Int)∧Grew w wr)
 case atStart=>exact⟨0,rfl,lX,rfl,rfl,⟨rfl,rfl,lQ,fun _ _ _=>rfl⟩⟩
 case round=>
  obtain⟨j,hgk,hj,rfl,rfl,hkp⟩:=hrel;have HA:Hid (gk=n-j∧Grew w wr):=⟨hgk,hkp⟩
  by_cases hj2:j<n
  ·have i1:(j:Int)<(n:Int):=by omega
   obtain⟨b,o,u,rfl,hb,c0,c1,hr⟩:=HR.out j hj2;obtain⟨au,cu,rfl,-⟩:=id hr;have y0:=zA c0 hb hkp;have y1:=zA c1 hb hkp;have HS:Hid (∀w',Grew w w'->Calls prog 184 #[.agg #[.slice au (sets.getD j ⟨[],false⟩).ranges.length cu,.bool (sets.getD j ⟨[],false⟩).others],.int .i64 c] w' fun e w2=>e=.returned (.bool (zAK sets c j))∧Grew w w2):=by
    intro w' hk;refine(zKI w' _ _ (hr.grown hk) (HL.out j hj2) c).mono ?_;rintro e w2 ⟨rfl,hk2⟩;exact⟨rfl,hk.trans (hk2.lower hk.size hk.size)⟩
   have hbl:=zBh (zAK sets c) j;have hpw:2^j<=2^24:=kG (by omega) (by omega);have HT:Hid (zAK sets c j=true->qM (zAK sets c) (j+1)=qM (zAK sets c) j|||2^j):=fun h=>by show(if _ then _ else _)=_;rw[h];rfl
   have HF:Hid (zAK sets c j=false->qM (zAK sets c) (j+1)=qM (zAK sets c) j):=fun h=>by show(if _ then _ else _)=_;rw[h];rfl
   generalize (sets.getD j ⟨[],false⟩).ranges.length=rl at *;generalize (sets.getD j ⟨[],false⟩).others=ot at *;generalize qM (zAK sets c) j=bj at *;have HOR:=vl <| zLt bj j (by omega) (by omega);cases hh:zAK sets c j with
   |true=>
    rw[hh] at HS;have HT2:=vl <| HT.out hh;go_wp2_with (first|(go_at_call 184;refine(HS.out _ (HA.out.2.trans (kZ _ _ HA.out.2.size))).mono ?_;rintro e w5 ⟨rfl,hk5⟩))
    go_roundg (n-(j+1))
    case measure=>rw[HA.out.1];omega
    case rel=>exact⟨j+1,rfl,by omega,by rw[HOR.out,HT2.out],by go_num,hk5⟩
   |false=>
    rw[hh] at HS;have HT2:=vl <| HF.out hh;go_wp2_with (first|(go_at_call 184;refine(HS.out _ (HA.out.2.trans (kZ _ _ HA.out.2.size))).mono ?_;rintro e w5 ⟨rfl,hk5⟩))
    go_roundg (n-(j+1))
    case measure=>rw[HA.out.1];omega
    case rel=>exact⟨j+1,rfl,by omega,by rw[HT2.out],by go_num,hk5⟩
  ·have hje:j=n:=by omega
   have i1:(n:Int)<=(j:Int):=by omega
   have HZ:Hid (qK sets c=qM (zAK sets c) j):=by show _=_;rw[HV.out,hje]
   go_wp2;go_ret;exact⟨by rw[HZ.out];rfl,HA.out.2⟩
end Go.Proofs.YtbjcfkdnjaiclaaGreat
