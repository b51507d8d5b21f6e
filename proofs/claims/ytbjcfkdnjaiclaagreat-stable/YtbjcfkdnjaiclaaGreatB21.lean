import Derived.Deep.DrawnRows
import Derived.Deep.RegionLaw
import Derived.Test.YtbjcfkdnjaiclaaGreatB0
import Derived.Test.YtbjcfkdnjaiclaaGreatB20
/- Parts of the proof, in order. -/
set_option linter.unusedVariables false
set_option linter.unusedSimpArgs false
set_option maxHeartbeats 4000000
set_option maxRecDepth 100000
namespace Go.Proofs.YtbjcfkdnjaiclaaGreat
open Go.RowKit Go.Proofs.Tryz Go.World
theorem zKI (t:Tr):t.copies<=t.least+t.most+1:=by
 unfold Tr.copies;split
 ·split <;> omega
 ·omega
theorem zEA (w0:World)(nb:Nat):∀d,zB3 w0 nb d (xC d) (yN d)
 |0=>fun w n b t _ _ h _=>h.elim
 |d+1=>by
  have ih:=zEA w0 nb d;intro w n b t h hg ht hl;have HT:=vl ht;obtain⟨hbl,rv,pv,hb,hrange,ao,cap,rfl,⟨_,hb1,hb2,hb3⟩,_,_⟩:=ht;obtain⟨ra,rc,hrv,-⟩:=id hrange;subst hrv;obtain⟨w1,hw1,HR1⟩:∃w1,w1=w.alloc (.cells #[.int .i64 0,.int .i64 0,.bool false] 167)∧Hid (NwIs w0 w1 nb n∧w1.heap[w.heap.size]? =some (.cells (Sn.mk 0 0 false).cells 167)∧StayS w w1∧w0.heap.size<=w.heap.size):=by
   have k1:=Keep.alloc (b:=w.heap.size) w (.cells #[.int .i64 0,.int .i64 0,.bool false] 167) (Nat.le_refl _);exact⟨_,rfl,h.grown k1,heap_alloc_new _ _,k1.stayS,by obtain⟨_,_,_,_,_,h⟩:=h;exact h.keep.size⟩
  have hk0:Grew w0 w1:=by obtain⟨_,_,_,_,_,h⟩:=HR1.out.1;exact h.keep
  have hb4:=(hk0.block b hbl (Nat.ne_of_lt hbl)).trans hb;have y0:w1.cell? ⟨b,0,none⟩=some (.int .i64 (t.kind:Int)):=by unfold cell?;rw[hb4];rfl
  have y1:w1.cell? ⟨b,1,none⟩=some (.slice ra t.set.ranges.length rc):=by unfold cell?;rw[hb4];rfl
  have y2:w1.cell? ⟨b,2,none⟩=some (.bool t.set.others):=by unfold cell?;rw[hb4];rfl
  have HFIN:Hid (∀w5,NwIs w0 w5 nb (xC (d+1) n t).1->StayS w1 w5->∃w9,w9=((w5.setCell ⟨w.heap.size,0,none⟩ (.int .i64 ((xC (d+1) n t).2.first:Int))).setCell ⟨w.heap.size,1,none⟩ (.int .i64 ((xC (d+1) n t).2.last:Int))).setCell ⟨w.heap.size,2,none⟩ (.bool (xC (d+1) n t).2.empty)∧Hid (NwIs w0 w9 nb (xC (d+1) n t).1∧StayS w w9)∧w9.cell? ⟨w.heap.size,0,none⟩=some (.int .i64 ((xC (d+1) n t).2.first:Int))∧w9.cell? ⟨w.heap.size,1,none⟩=some (.int .i64 ((xC (d+1) n t).2.last:Int))∧w9.cell? ⟨w.heap.size,2,none⟩=some (.bool (xC (d+1) n t).2.empty)):=by
   intro w5 hN5 hS5;obtain⟨h1,h2,h3⟩:=zEH (s':=(xC (d+1) n t).2) (hS5 _ _ HR1.out.2.1);obtain⟨c0,c1,c2,_⟩:=zF h1;exact⟨_,rfl,⟨h3 _ _ _ hN5 HR1.out.2.2.2,fun k c hk=>by
    have hl:=(Array.getElem?_eq_some_iff.1 hk).1;exact(h2 k (by omega)).trans (hS5 _ _ (HR1.out.2.2.1 k c hk))⟩,c0,c1,c2⟩
  go_in;refine wp_cut ?_;intro K0 HK0;go_wp2;refine HK0.out _ _ ?_;rw[<-hw1];clear hw1;by_cases hk1:t.kind=1
  ·have HE:Hid (xC (d+1) n t=(n.place t.set,n.spot)):=by show xC (d+1) n t=_;unfold xC;rw[if_pos hk1]
   have HCALL:=vl <| zHI w0 w1 nb n HR1.out.1 hg.len (by rw[hg.same];exact hg.len) _ t.set hrange;have HC2:Hid (Calls prog 123 #[.pointer (some ⟨nb,0,none⟩),.agg #[.slice ra t.set.ranges.length rc,.bool t.set.others]] w1 fun e w'=>e=.returned (.agg #[.int .i64 ((xC (d+1) n t).2.first:Int),.int .i64 ((xC (d+1) n t).2.last:Int),.bool (xC (d+1) n t).2.empty])∧NwIs w0 w' nb (xC (d+1) n t).1∧StayS w1 w'):=by
    show Calls _ _ _ _ _;rw[HE.out];exact HCALL.out
   clear HE HCALL;have d1:((t.kind:Int)==1)=true:=by rw[beq_iff_eq];omega
   generalize xC (d+1) n t=RE at *;clear hk1;go_wp2_with (first|(go_at_call 123;refine HC2.out.mono ?_;rintro e w5 ⟨rfl,hN5,hS5⟩;obtain⟨r0,r1,r2,rf⟩:=zF (s:=⟨0,0,false⟩) (hS5 _ _ HR1.out.2.1);have f0:=rf 0;have f1:=rf 1;have f2:=rf 2;clear rf))
   obtain⟨w9,hw9,K9,z0,z1,z2⟩:=HFIN.out w5 hN5 hS5;rw[<-hw9];clear hw9;refine bodyPost_ret (v:=.agg #[.int .i64 (RE.2.first:Int),.int .i64 (RE.2.last:Int),.bool RE.2.empty]) (by simp[results,results89,go_sem,z0,z1,z2]) rfl ?_;exact⟨rfl,K9.out.1,K9.out.2⟩
  by_cases hk2:t.kind=2
  ·have HE:Hid (xC (d+1) n t=rowTo (xC d) n t.parts t.parts.length):=by show xC (d+1) n t=_;unfold xC;rw[if_neg hk1,if_pos hk2]
   have HCALL:=vl <| zC9 w0 nb d (xC d) (yN d) ih (jQ d) w1 n b t HR1.out.1 hg HT.out (by unfold yN at hl;rw[if_neg hk1,if_pos (Or.inl hk2)] at hl;exact hl) hb1;have HC2:Hid (Calls prog 124 #[.pointer (some ⟨nb,0,none⟩),.pointer (some ⟨b,0,none⟩)] w1 fun e w'=>e=.returned (.agg #[.int .i64 ((xC (d+1) n t).2.first:Int),.int .i64 ((xC (d+1) n t).2.last:Int),.bool (xC (d+1) n t).2.empty])∧NwIs w0 w' nb (xC (d+1) n t).1∧StayS w1 w'):=by
    show Calls _ _ _ _ _;rw[HE.out];exact HCALL.out
   clear HE HCALL;have d1:((t.kind:Int)==1)=false:=by rw[beq_eq_false_iff_ne];omega
   have d2:((t.kind:Int)==2)=true:=by rw[beq_iff_eq];omega
   generalize xC (d+1) n t=RE at *;clear hk1 hk2;go_wp2_with (first|(go_at_call 124;refine HC2.out.mono ?_;rintro e w5 ⟨rfl,hN5,hS5⟩;obtain⟨r0,r1,r2,rf⟩:=zF (s:=⟨0,0,false⟩) (hS5 _ _ HR1.out.2.1);have f0:=rf 0;have f1:=rf 1;have f2:=rf 2;clear rf))
   obtain⟨w9,hw9,K9,z0,z1,z2⟩:=HFIN.out w5 hN5 hS5;rw[<-hw9];clear hw9;refine bodyPost_ret (v:=.agg #[.int .i64 (RE.2.first:Int),.int .i64 (RE.2.last:Int),.bool RE.2.empty]) (by simp[results,results89,go_sem,z0,z1,z2]) rfl ?_;exact⟨rfl,K9.out.1,K9.out.2⟩
  by_cases hk3:t.kind=3
  ·have HE:Hid (xC (d+1) n t=vV (xC d) n t.parts t.parts.length):=by show xC (d+1) n t=_;unfold xC;rw[if_neg hk1,if_neg hk2,if_pos hk3]
   have HCALL:=vl <| zEh w0 nb d (xC d) (yN d) ih (jQ d) w1 n b t HR1.out.1 hg HT.out (by unfold yN at hl;rw[if_neg hk1,if_pos (Or.inr hk3)] at hl;exact hl) hb1;have HC2:Hid (Calls prog 125 #[.pointer (some ⟨nb,0,none⟩),.pointer (some ⟨b,0,none⟩)] w1 fun e w'=>e=.returned (.agg #[.int .i64 ((xC (d+1) n t).2.first:Int),.int .i64 ((xC (d+1) n t).2.last:Int),.bool (xC (d+1) n t).2.empty])∧NwIs w0 w' nb (xC (d+1) n t).1∧StayS w1 w'):=by
    show Calls _ _ _ _ _;rw[HE.out];exact HCALL.out
   clear HE HCALL;have d1:((t.kind:Int)==1)=false:=by rw[beq_eq_false_iff_ne];omega
   have d2:((t.kind:Int)==2)=false:=by rw[beq_eq_false_iff_ne];omega
   have d3:((t.kind:Int)==3)=true:=by rw[beq_iff_eq];omega
   generalize xC (d+1) n t=RE at *;clear hk1 hk2 hk3;go_wp2_with (first|(go_at_call 125;refine HC2.out.mono ?_;rintro e w5 ⟨rfl,hN5,hS5⟩;obtain⟨r0,r1,r2,rf⟩:=zF (s:=⟨0,0,false⟩) (hS5 _ _ HR1.out.2.1);have f0:=rf 0;have f1:=rf 1;have f2:=rf 2;clear rf))
   obtain⟨w9,hw9,K9,z0,z1,z2⟩:=HFIN.out w5 hN5 hS5;rw[<-hw9];clear hw9;refine bodyPost_ret (v:=.agg #[.int .i64 (RE.2.first:Int),.int .i64 (RE.2.last:Int),.bool RE.2.empty]) (by simp[results,results89,go_sem,z0,z1,z2]) rfl ?_;exact⟨rfl,K9.out.1,K9.out.2⟩
  by_cases hk4:t.kind=4
  ·have HE:Hid (xC (d+1) n t=xS (xC d) n t t.copies):=by show xC (d+1) n t=_;unfold xC;rw[if_neg hk1,if_neg hk2,if_neg hk3,if_pos hk4]
   have HCALL:=vl <| zE4 w0 nb d (xC d) (yN d) ih (jQ d) w1 n b t HR1.out.1 hg HT.out (by unfold yN at hl;rw[if_neg hk1,if_neg (by omega),if_pos hk4] at hl;exact hl) hb1 (by have:=zKI t;omega) (by omega);have HC2:Hid (Calls prog 126 #[.pointer (some ⟨nb,0,none⟩),.pointer (some ⟨b,0,none⟩)] w1 fun e w'=>e=.returned (.agg #[.int .i64 ((xC (d+1) n t).2.first:Int),.int .i64 ((xC (d+1) n t).2.last:Int),.bool (xC (d+1) n t).2.empty])∧NwIs w0 w' nb (xC (d+1) n t).1∧StayS w1 w'):=by
    show Calls _ _ _ _ _;rw[HE.out];exact HCALL.out
   clear HE HCALL;have d1:((t.kind:Int)==1)=false:=by rw[beq_eq_false_iff_ne];omega
   have d2:((t.kind:Int)==2)=false:=by rw[beq_eq_false_iff_ne];omega
   have d3:((t.kind:Int)==3)=false:=by rw[beq_eq_false_iff_ne];omega
   have d4:((t.kind:Int)==4)=true:=by rw[beq_iff_eq];omega
   generalize xC (d+1) n t=RE at *;clear hk1 hk2 hk3 hk4;go_wp2_with (first|(go_at_call 126;refine HC2.out.mono ?_;rintro e w5 ⟨rfl,hN5,hS5⟩;obtain⟨r0,r1,r2,rf⟩:=zF (s:=⟨0,0,false⟩) (hS5 _ _ HR1.out.2.1);have f0:=rf 0;have f1:=rf 1;have f2:=rf 2;clear rf))
   obtain⟨w9,hw9,K9,z0,z1,z2⟩:=HFIN.out w5 hN5 hS5;rw[<-hw9];clear hw9;refine bodyPost_ret (v:=.agg #[.int .i64 (RE.2.first:Int),.int .i64 (RE.2.last:Int),.bool RE.2.empty]) (by simp[results,results89,go_sem,z0,z1,z2]) rfl ?_;exact⟨rfl,K9.out.1,K9.out.2⟩
  ·have HE:Hid (xC (d+1) n t=(n,⟨0,0,true⟩)):=by show xC (d+1) n t=_;unfold xC;rw[if_neg hk1,if_neg hk2,if_neg hk3,if_neg hk4]
   rw[HE.out] at HFIN ⊢;have d1:((t.kind:Int)==1)=false:=by rw[beq_eq_false_iff_ne];omega
   have d2:((t.kind:Int)==2)=false:=by rw[beq_eq_false_iff_ne];omega
   have d3:((t.kind:Int)==3)=false:=by rw[beq_eq_false_iff_ne];omega
   have d4:((t.kind:Int)==4)=false:=by rw[beq_eq_false_iff_ne];omega
   obtain⟨r0,r1,r2,rf⟩:=zF (s:=⟨0,0,false⟩) HR1.out.2.1;have f0:=rf 0;have f1:=rf 1;have f2:=rf 2;clear hk1 hk2 hk3 hk4 rf;go_wp2;obtain⟨w9,hw9,K9,z0,z1,z2⟩:=HFIN.out w1 HR1.out.1 (StayS.refl _);have hw9':w9=((w1.setCell ⟨w.heap.size,0,none⟩ (.int .i64 0)).setCell ⟨w.heap.size,1,none⟩ (.int .i64 0)).setCell ⟨w.heap.size,2,none⟩ (.bool true):=hw9;have z0':w9.cell? ⟨w.heap.size,0,none⟩=some (.int .i64 0):=z0;have z1':w9.cell? ⟨w.heap.size,1,none⟩=some (.int .i64 0):=z1;have z2':w9.cell? ⟨w.heap.size,2,none⟩=some (.bool true):=z2;rw[<-hw9'];clear hw9 hw9';refine bodyPost_ret (v:=.agg #[.int .i64 0,.int .i64 0,.bool true]) (by simp[results,results89,go_sem,z0',z1',z2']) rfl ?_;exact⟨rfl,K9.out.1,K9.out.2⟩
section
section
variable {w0 w w2:World} {nb:Nat} {n:Nt} {sv fv rv ev:Value} {ps:List (Value×Bool)}
theorem Nw.addRule {o:Obj}{g cap m x:Nat}(h:Nw w0 w nb n sv fv rv ev ps)(hm:m=n.rules.length)(hown:w2.ownsRow w0.heap.size 3 1 (.slice (some ⟨g,0,none⟩) (m+1) cap) (m+1) (((ints n.rules).map fun x=>.int .i64 x)++[.int .i64 (x:Int)]))(hg:(w.alloc o).grownBy w2 rv.ownBlock)(hat:rv.ownBlock=some g∨w.heap.size<=g):
  Nw w0 (w2.setCell ⟨nb,4,none⟩ (.slice (some ⟨g,0,none⟩) (m+1) cap)) nb {n with rules:=n.rules++[x]} sv fv (.slice (some ⟨g,0,none⟩) (m+1) cap) ev ps∧StayS w (w2.setCell ⟨nb,4,none⟩ (.slice (some ⟨g,0,none⟩) (m+1) cap)):=by
 subst hm;have hbx:=h.box;have hlt:=h.lt;have hbl:∀j,j<w.heap.size->some j≠rv.ownBlock->w2.heap[j]? =w.heap[j]? :=fun j hj hf=>(hg.block j (by simp;omega) hf).trans (Below.heap_alloc _ _ _ (by omega));have hsz:w.heap.size<=w2.heap.size:=Nat.le_trans (by simp) hg.size;have hb:=(hbl nb hlt hbx.2.2.1).trans h.blk;have e:∀k,k≠nb->(w2.setCell ⟨nb,4,none⟩ (.slice (some ⟨g,0,none⟩) (n.rules.length+1) cap)).heap[k]? =w2.heap[k]? :=fun k hk=>Below.heap_setCell _ _ _ _ hk;have hs2:=zP hg h.sOwn fun k hk=>xM h.sOwn h.rOwn (by decide) hk;have hf2:=zP hg h.fOwn h.fr;have he2:=zP hg h.eOwn fun k hk=>xM h.eOwn h.rOwn (by decide) hk;have hgm:nb≠g:=fun e2=>by
  rcases hat with ha|ha
  ·exact hbx.2.2.1 (by rw[ha,e2])
  ·omega
 have hO1:OwnI w2 w0.heap.size (.slice (some ⟨g,0,none⟩) (n.rules.length+1) cap) (ints (n.rules++[x])):=by
  rw[zA4];have:=zM n.rules;have h2:=OwnI.snoc (l:=ints n.rules) (x:=(x:Int)) (by rw[this];exact hown);rw[this] at h2;exact h2
 refine⟨⟨by simp[setCell,Array.getElem?_modify,hb],zD hs2 fun k _ _ hk=>e k fun e2=>hbx.1 (by rw[hk,e2]),h.plen,h.each,zD hf2 fun k _ _ hk=>e k fun e2=>hbx.2.1 (by rw[hk,e2]),zD hO1 fun k _ _ hk=>e k fun e2=>?_,zD he2 fun k _ _ hk=>e k fun e2=>hbx.2.2.2 (by rw[hk,e2]),zCc (yU h.fOwn (fun g hg e=>h.fr g e.symm hg.symm) hat),h.nH,h.keep.trans ⟨hg.os,hg.output,by rw[zC];exact hsz,fun k hk _=>(e k (by have:=h.nH;omega)).trans (hbl k (by have:=h.keep.size;omega) fun e2=>by have:=(h.rOwn.lt k e2.symm).1;omega)⟩⟩,fun k cc hk=>?_⟩
 ·have:g=k:=by simpa[Value.ownBlock] using hk
  omega
 ·have hl:=(Array.getElem?_eq_some_iff.1 hk).1
  have hkm:k≠nb:=fun e2=>by
   rw[e2,h.blk] at hk;injection hk with hk;injection hk with _ hk;exact absurd hk (by decide)
  exact(e k hkm).trans ((hbl k hl (zL h.rOwn hk (by decide))).trans hk)
theorem Nw.addEmpty {o:Obj}{g cap m:Nat}{x:Bool}(h:Nw w0 w nb n sv fv rv ev ps)(hm:m=n.empty.length)(hown:w2.ownsRow w0.heap.size 4 1 (.slice (some ⟨g,0,none⟩) (m+1) cap) (m+1) ((n.empty.map fun x=>.bool x)++[.bool x]))(hg:(w.alloc o).grownBy w2 ev.ownBlock)(hat:ev.ownBlock=some g∨w.heap.size<=g):
  Nw w0 (w2.setCell ⟨nb,5,none⟩ (.slice (some ⟨g,0,none⟩) (m+1) cap)) nb {n with empty:=n.empty++[x]} sv fv rv (.slice (some ⟨g,0,none⟩) (m+1) cap) ps∧StayS w (w2.setCell ⟨nb,5,none⟩ (.slice (some ⟨g,0,none⟩) (m+1) cap)):=by
 subst hm;have hbx:=h.box;have hlt:=h.lt;have hbl:∀j,j<w.heap.size->some j≠ev.ownBlock->w2.heap[j]? =w.heap[j]? :=fun j hj hf=>(hg.block j (by simp;omega) hf).trans (Below.heap_alloc _ _ _ (by omega));have hsz:w.heap.size<=w2.heap.size:=Nat.le_trans (by simp) hg.size;have hb:=(hbl nb hlt hbx.2.2.2).trans h.blk;have e:∀k,k≠nb->(w2.setCell ⟨nb,5,none⟩ (.slice (some ⟨g,0,none⟩) (n.empty.length+1) cap)).heap[k]? =w2.heap[k]? :=fun k hk=>Below.heap_setCell _ _ _ _ hk;have hs2:=zP hg h.sOwn fun k hk=>xM h.sOwn h.eOwn (by decide) hk;have hf2:=zP hg h.fOwn fun k hk=>xM h.fOwn h.eOwn (by decide) hk;have hr2:=zP hg h.rOwn fun k hk=>xM h.rOwn h.eOwn (by decide) hk;have hgm:nb≠g:=fun e2=>by
  rcases hat with ha|ha
  ·exact hbx.2.2.2 (by rw[ha,e2])
  ·omega
 have hO1:=OwnB.snoc hown;refine⟨⟨by simp[setCell,Array.getElem?_modify,hb],zD hs2 fun k _ _ hk=>e k fun e2=>hbx.1 (by rw[hk,e2]),h.plen,h.each,zD hf2 fun k _ _ hk=>e k fun e2=>hbx.2.1 (by rw[hk,e2]),zD hr2 fun k _ _ hk=>e k fun e2=>hbx.2.2.1 (by rw[hk,e2]),zD hO1 fun k _ _ hk=>e k fun e2=>?_,h.fr,h.nH,h.keep.trans ⟨hg.os,hg.output,by rw[zC];exact hsz,fun k hk _=>(e k (by have:=h.nH;omega)).trans (hbl k (by have:=h.keep.size;omega) fun e2=>by have:=(h.eOwn.lt k e2.symm).1;omega)⟩⟩,fun k cc hk=>?_⟩
 ·have:g=k:=by simpa[Value.ownBlock] using hk
  omega
 ·have hl:=(Array.getElem?_eq_some_iff.1 hk).1
  have hkm:k≠nb:=fun e2=>by
   rw[e2,h.blk] at hk;injection hk with hk;injection hk with _ hk;exact absurd hk (by decide)
  exact(e k hkm).trans ((hbl k hl (zL h.eOwn hk (by decide))).trans hk)
theorem Nw.setNet {i:Nat}{x:Value}{n2:Nt}(h:Nw w0 w nb n sv fv rv ev ps)(hs:n2.sets=n.sets)(hf:n2.follow=n.follow)(hr:n2.rules=n.rules)(he:n2.empty=n.empty)(hb:(w.setCell ⟨nb,i,none⟩ x).heap[nb]? =some (.cells #[sv,fv,.int .i64 (n2.first:Int),.int .i64 (n2.ends:Int),rv,ev] 132)):Nw w0 (w.setCell ⟨nb,i,none⟩ x) nb n2 sv fv rv ev ps∧StayS w (w.setCell ⟨nb,i,none⟩ x):=by
 have e:∀k,k≠nb->(w.setCell ⟨nb,i,none⟩ x).heap[k]? =w.heap[k]? :=fun k hk=>Below.heap_setCell _ _ _ _ hk;have hbx:=h.box;refine⟨⟨hb,by rw[hs];exact zD h.sOwn fun k _ _ hk=>e k fun e2=>hbx.1 (by rw[hk,e2]),by rw[hs];exact h.plen,by rw[hs];exact h.each,by rw[hf];exact zD h.fOwn fun k _ _ hk=>e k fun e2=>hbx.2.1 (by rw[hk,e2]),by rw[hr];exact zD h.rOwn fun k _ _ hk=>e k fun e2=>hbx.2.2.1 (by rw[hk,e2]),by rw[he];exact zD h.eOwn fun k _ _ hk=>e k fun e2=>hbx.2.2.2 (by rw[hk,e2]),h.fr,h.nH,h.keep.trans (zN _ _ _ _ h.nH)⟩,fun k c hk=>(e k fun e2=>?_).trans hk⟩;rw[e2,h.blk] at hk;injection hk with hk;injection hk with _ hk;exact absurd hk (by decide)
theorem Nw.setFirst (h:Nw w0 w nb n sv fv rv ev ps)(x:Nat):Nw w0 (w.setCell ⟨nb,2,none⟩ (.int .i64 (x:Int))) nb {n with first:=x} sv fv rv ev ps∧StayS w (w.setCell ⟨nb,2,none⟩ (.int .i64 (x:Int))):=h.setNet rfl rfl rfl rfl (by simp[setCell,Array.getElem?_modify,h.blk])
theorem Nw.setEnds (h:Nw w0 w nb n sv fv rv ev ps)(x:Nat):Nw w0 (w.setCell ⟨nb,3,none⟩ (.int .i64 (x:Int))) nb {n with ends:=x} sv fv rv ev ps∧StayS w (w.setCell ⟨nb,3,none⟩ (.int .i64 (x:Int))):=h.setNet rfl rfl rfl rfl (by simp[setCell,Array.getElem?_modify,h.blk])
end
def Nt.blank:Nt:=⟨[],[],0,0,[],[]⟩
def zK1 (before:Nat)(q:Nt×Sn):Nt:={q.1 with first:=q.1.first|||q.2.first,ends:=q.1.ends|||q.2.last,rules:=q.1.rules++[2^q.1.sets.length-2^before],empty:=q.1.empty++[q.2.empty]}
def xK (d:Nat)(rules:List Tr):Nat->Nt
 |0=>Nt.blank
 |j+1=>zK1 (xK d rules j).sets.length (xC d (xK d rules j) (rules.getD j Tr.none))
theorem Nw.begin (w:World):Nw w (w.alloc (.cells #[.slice none 0 0,.slice none 0 0,.int .i64 0,.int .i64 0,.slice none 0 0,.slice none 0 0] 132)) w.heap.size Nt.blank (.slice none 0 0) (.slice none 0 0) (.slice none 0 0) (.slice none 0 0) []:=
 ⟨heap_alloc_new _ _,ownsRow_nil _ _ _ _,rfl,fun i hi=>absurd hi (Nat.not_lt_zero _),OwnI.nil _ _,OwnI.nil _ _,ownsRow_nil _ _ _ _,fun g hg=>(by cases hg),Nat.le_refl _,Keep.alloc _ _ (Nat.le_refl _)⟩
theorem zAD (d:Nat)(rules:List Tr)(j:Nat)(hl:zV (yN d) rules j<=24):(xK d rules j).Good∧(xK d rules j).sets.length=zV (yN d) rules j:=by
 induction j with
 |zero=>exact⟨⟨Nat.zero_le _,rfl,fun x hx=>absurd hx List.not_mem_nil⟩,rfl⟩
 |succ j ih=>
  have hl2:zV (yN d) rules j+yN d (rules.getD j Tr.none)<=24:=hl;obtain⟨h1,h2⟩:=ih (by omega);obtain⟨g1,g2,g3⟩:=jQ d (xK d rules j) (rules.getD j Tr.none) h1 (by omega);exact⟨⟨g1.len,g1.same,g1.fol⟩,by show(xC d (xK d rules j) (rules.getD j Tr.none)).1.sets.length=zV (yN d) rules j+_;omega⟩
end
def Nt.Same (a b:Nt):Prop:=a.first=b.first∧a.ends=b.ends∧a.rules=b.rules∧a.empty=b.empty
theorem Nt.Same.refl (a:Nt):a.Same a:=⟨rfl,rfl,rfl,rfl⟩
theorem Nt.Same.trans {a b c:Nt}(h:a.Same b)(h':b.Same c):a.Same c:=⟨h.1.trans h'.1,h.2.1.trans h'.2.1,h.2.2.1.trans h'.2.2.1,h.2.2.2.trans h'.2.2.2⟩
theorem zDD (n:Nt)(a b:Nat):(n.link a b).Same n:=by
 have:=zBO n a b n.follow.length;exact⟨this.2.2.2.1,this.2.2.2.2,this.2.1,this.2.2.1⟩
def Still (sub:Lay):Prop:=∀n t,(sub n t).1.Same n
theorem zDW {sub:Lay}(h:Still sub)(n:Nt)(parts:List Tr)(j:Nat):(rowTo sub n parts j).1.Same n:=by
 induction j with
 |zero=>exact Nt.Same.refl _
 |succ j ih=>exact((zDD _ _ _).trans (h _ _)).trans ih
theorem zGV {sub:Lay}(h:Still sub)(n:Nt)(parts:List Tr)(j:Nat):(vV sub n parts j).1.Same n:=by
 induction j with
 |zero=>exact Nt.Same.refl _
 |succ j ih=>exact(h _ _).trans ih
theorem zIS (t:Tr)(j:Nat)(q:Nt×Sn):(jL t j q).Same q.1:=by
 unfold jL;split
 ·exact zDD _ _ _
 ·exact Nt.Same.refl _
theorem zFS {sub:Lay}(h:Still sub)(n:Nt)(t:Tr)(j:Nat):(xS sub n t j).1.Same n:=by
 induction j with
 |zero=>exact Nt.Same.refl _
 |succ j ih=>exact(((zDD _ _ _).trans (zIS _ _ _)).trans (zDW h _ _ _)).trans ih
theorem zE3 (d:Nat):Still (xC d):=by
 induction d with
 |zero=>exact fun n t=>Nt.Same.refl _
 |succ d ih=>
  intro n t;unfold xC;split
  ·exact⟨rfl,rfl,rfl,rfl⟩
  ·split
   ·exact zDW ih _ _ _
   ·split
    ·exact zGV ih _ _ _
    ·split
     ·exact zFS ih _ _ _
     ·exact Nt.Same.refl _
structure Nt.Laid (n:Nt)(j:Nat):Prop where
 first:n.first<2^n.sets.length
 ends:n.ends<2^n.sets.length
 rules:∀x∈n.rules,x<2^n.sets.length
 rlen:n.rules.length=j
 elen:n.empty.length=j
theorem zBl (d:Nat)(rules:List Tr)(j:Nat)(hl:zV (yN d) rules j<=24):(xK d rules j).Laid j:=by
 induction j with
 |zero=>exact⟨(by decide:0<2^0),(by decide:0<2^0),fun x hx=>absurd hx List.not_mem_nil,rfl,rfl⟩
 |succ j ih=>
  have hl2:zV (yN d) rules j+yN d (rules.getD j Tr.none)<=24:=hl;obtain⟨h1,h2⟩:=zAD d rules j (by omega);have h3:=ih (by omega);obtain⟨g1,g2,g3⟩:=jQ d (xK d rules j) (rules.getD j Tr.none) h1 (by omega);obtain⟨s1,s2,s3,s4⟩:=zE3 d (xK d rules j) (rules.getD j Tr.none);rw[<-g2] at g3;have hp:2^(xK d rules j).sets.length<=2^(xC d (xK d rules j) (rules.getD j Tr.none)).1.sets.length:=Nat.pow_le_pow_right (by omega) (by omega);have hp0:0<2^(xK d rules j).sets.length:=Nat.pow_pos (by omega);refine⟨Nat.or_lt_two_pow (by rw[s1];exact Nat.lt_of_lt_of_le h3.first hp) g3.first,Nat.or_lt_two_pow (by rw[s2];exact Nat.lt_of_lt_of_le h3.ends hp) g3.last,fun x hx=>?_,?_,?_⟩
  ·show x<2^(xC d (xK d rules j) (rules.getD j Tr.none)).1.sets.length
   have hx2:=hx;rcases List.mem_append.1 hx2 with h4|h4
   ·rw[s3] at h4
    exact Nat.lt_of_lt_of_le (h3.rules x h4) hp
   ·rw[List.mem_singleton.1 h4]
    omega
  ·show((xC d (xK d rules j) (rules.getD j Tr.none)).1.rules++[_]).length=j+1
   rw[s3,List.length_append,h3.rlen];rfl
  ·show((xC d (xK d rules j) (rules.getD j Tr.none)).1.empty++[_]).length=j+1
   rw[s4,List.length_append,h3.elen];rfl
theorem zMQ (d:Nat)(rules:List Tr)(hl:zV (yN d) rules rules.length<=24)(h8:rules.length<=8):(xK d rules rules.length).Ok:=by
 have h1:=zAD d rules rules.length hl;have h2:=zBl d rules rules.length hl;exact⟨h1.1.len,h1.1.same,h1.1.fol,h2.first,h2.ends,by rw[h2.rlen];exact h8,h2.rules⟩
theorem Nw.netAt {w0 w:World}{nb:Nat}{n:Nt}{sv fv rv ev:Value}{ps:List (Value×Bool)}(h:Nw w0 w nb n sv fv rv ev ps):NetAt w nb n sv fv rv ev:=by
 obtain⟨c0,c1,c2,c3,c4,c5,_⟩:=h.cells;refine⟨h.lt,c0,c1,c2,c3,c4,c5,?_,zAB h.fOwn,zAB h.rOwn,zF4 h.eOwn fun g hg=>(h.eOwn.lt g hg).2⟩;have hgi:∀i,i<n.sets.length->RangesAt w (ps.getD i (undef,false)).1 (n.sets.getD i ⟨[],false⟩).ranges:=fun i hi=>(h.each i hi).1.grown h.keep;rcases h.sOwn.2 with⟨hv,h0⟩|⟨g,cap,cur,hv,hH,hh,h1,h2,h3,h4⟩
 ·exact⟨none,0,by rw[hv,h0],by omega,by unfold maxLen;omega,fun i hi=>by omega⟩
 ·have hgl:=(h.sOwn.lt g (by rw[hv];rfl)).2
  refine⟨some ⟨g,0,none⟩,cap,hv,h1,h2,fun i hi=>⟨g,0,(ps.getD i (undef,false)).1,rfl,hgl,?_,?_,hgi i hi⟩⟩
  ·have:=h.sOwn.cells (g:=g) (by rw[hv];rfl) (i*2) _ (zDT ps i (by rw[h.plen];exact hi)).1
   rw[Addr.add_lit] at this;rw[Nat.zero_add] at this ⊢;exact this
  ·have:=h.sOwn.cells (g:=g) (by rw[hv];rfl) (i*2+1) _ (zDT ps i (by rw[h.plen];exact hi)).2
   rw[Addr.add_lit,(h.each i hi).2] at this;rw[Nat.zero_add] at this ⊢;exact this
section
attribute [local go_sem ↓] Go.wp_at_zero Go.wp_at_succ
def zJM (w:World)(d:Nat)(v:Value)(l:List Tr):Prop:=∃ao cap,v=.slice ao l.length cap∧l.length<=cap∧cap<=maxLen∧∀i,i<l.length->∃g o p,ao=some ⟨g,o,none⟩∧In w g∧w.cell? ⟨g,o+i,none⟩=some (.pointer (some ⟨p,0,none⟩))∧TreeAt w d p (l.getD i Tr.none)
theorem zKm (w:World)(d:Nat)(v:Value)(rules:List Tr)(hT:zJM w d v rules)(h8:rules.length<=8)(hl:zV (yN d) rules rules.length<=24):
  Calls prog 60 #[v] w fun e w'=>∃nb,e=.returned (.pointer (some ⟨nb,0,none⟩))∧NwIs w w' nb (xK d rules rules.length):=by
 obtain⟨i0,hi0,hz0,hz1,hz2⟩:=info_parts yH;obtain⟨ib,hib,hb0,hb1,hb2⟩:=info_parts qO;obtain⟨ao,cap,rfl,_,_,hpc⟩:=hT;have HPT:Hid (∀wr n2,NwIs w wr w.heap.size n2->∀i,i<rules.length->∃g o p,ao=some ⟨g,o,none⟩∧wr.cell? ⟨g,o+i,none⟩=some (.pointer (some ⟨p,0,none⟩))∧TreeAt w d p (rules.getD i Tr.none)):=by
  rintro wr n2 ⟨_,_,_,_,_,hN⟩ i hi;obtain⟨g,o,p,ha,hgi,hc,hti⟩:=hpc i hi;exact⟨g,o,p,ha,zA hc hgi hN.keep,hti⟩
 obtain⟨w1,hw1,HN1⟩:∃w1,w1=w.alloc (.cells #[.slice none 0 0,.slice none 0 0,.int .i64 0,.int .i64 0,.slice none 0 0,.slice none 0 0] 132)∧Hid (NwIs w w1 w.heap.size Nt.blank):=⟨_,rfl,_,_,_,_,_,Nw.begin w⟩
 have HTC:Hid (zB3 w w.heap.size d (xC d) (yN d)):=zEA w w.heap.size d;obtain⟨LT,hLT⟩:∃LT,LT=xK d rules:=⟨_,rfl⟩
 have HLT:Hid (LT 0=Nt.blank∧(∀j,LT (j+1)=zK1 (LT j).sets.length (xC d (LT j) (rules.getD j Tr.none)))∧(∀j,j<=rules.length->(LT j).Good∧(LT j).Laid j)∧(∀j,j<rules.length->(LT j).sets.length+yN d (rules.getD j Tr.none)<=24∧(xC d (LT j) (rules.getD j Tr.none)).1.Good∧(xC d (LT j) (rules.getD j Tr.none)).2.Small 24∧(xC d (LT j) (rules.getD j Tr.none)).1.first<16777216∧(xC d (LT j) (rules.getD j Tr.none)).1.ends<16777216∧(xC d (LT j) (rules.getD j Tr.none)).1.rules.length=j∧(xC d (LT j) (rules.getD j Tr.none)).1.empty.length=j)∧LT rules.length=xK d rules rules.length∧∀j,j<rules.length->(LT j).sets.length<=(xC d (LT j) (rules.getD j Tr.none)).1.sets.length):=by
  rw[hLT];have hm:∀j,j<=rules.length->zV (yN d) rules j<=24:=fun j hj=>Nat.le_trans (zCM _ rules j _ hj) hl;refine⟨rfl,fun j=>rfl,fun j hj=>⟨(zAD d rules j (hm j hj)).1,zBl d rules j (hm j hj)⟩,fun j hj=>?_,rfl,fun j hj=>?_⟩;rotate_left
  ·have h1:=zAD d rules j (hm j (by omega))
   have h2:zV (yN d) rules j+yN d (rules.getD j Tr.none)<=24:=hm (j+1) hj;have h3:=jQ d (xK d rules j) (rules.getD j Tr.none) h1.1 (by omega);omega
  have h1:=zAD d rules j (hm j (by omega));have h2:zV (yN d) rules j+yN d (rules.getD j Tr.none)<=24:=hm (j+1) hj;have h3:=jQ d (xK d rules j) (rules.getD j Tr.none) h1.1 (by omega);obtain⟨s1,s2,s3,s4⟩:=zE3 d (xK d rules j) (rules.getD j Tr.none);have h4:=zBl d rules j (hm j (by omega));have hp:2^(xK d rules j).sets.length<=2^24:=Nat.pow_le_pow_right (by omega) h1.1.len;exact⟨by omega,h3.1,h3.2.2.up (by omega),by rw[s1];exact Nat.lt_of_lt_of_le h4.first hp,by rw[s2];exact Nat.lt_of_lt_of_le h4.ends hp,by rw[s3];exact h4.rlen,by rw[s4];exact h4.elen⟩
 have HNC:Hid (∀wr n2,NwIs w wr w.heap.size n2->∃sa sc,wr.cell? ⟨w.heap.size,0,none⟩=some (.slice sa n2.sets.length sc)):=by
  rintro wr n2 ⟨sv,_,_,_,_,hN⟩;obtain⟨sa,sc,hsv⟩:=zE hN.sOwn;exact⟨sa,sc,by rw[<-hsv];exact hN.cells.1⟩
 generalize xK d rules rules.length=LE at *;clear hLT hl hpc;go_enter func60,ntmps60
 refine wp_seq_k ?_;intro K0 hK0;have HK0:Hid (∀a w,_->K0 a w):=hK0;clear hK0;go_wp2_with fail;refine HK0.out _ _ ?_;clear HK0;refine wp_seq_k ?_;intro K0 hK0;have HK0:Hid (∀a w,_->K0 a w):=hK0;clear hK0;go_wp2_with fail;refine HK0.out _ _ ?_;clear HK0;rw[<-hw1];clear hw1;go_wp2_with fail;go_loopg [12] rules.length (fun q i wr=>∃j:Nat,q=rules.length-j∧j<=rules.length∧i=.int .i64 (j:Int)∧NwIs w wr w.heap.size (LT j))
 case atStart=>exact⟨0,rfl,Nat.zero_le _,rfl,by rw[HLT.out.1];exact HN1.out⟩
 case round=>
  obtain⟨j,hgk,hj,rfl,hN⟩:=hrel;have HB:Hid (gk=rules.length-j∧NwIs w wr w.heap.size (LT j)):=⟨hgk,hN⟩
  by_cases hj2:j<rules.length
  ·have i1:(j:Int)<(rules.length:Int):=by omega
   obtain⟨g,o,p,rfl,hc,hti⟩:=HPT.out wr _ hN j hj2;obtain⟨b1,b2,b3,b4,b5,b6,b7⟩:=HLT.out.2.2.2.1 j hj2;obtain⟨g1,g2⟩:=HLT.out.2.2.1 j hj;have HC0:=HTC.out wr (LT j) p (rules.getD j Tr.none) hN g1 hti b1;have HNX:Hid (LT (j+1)=zK1 (LT j).sets.length (xC d (LT j) (rules.getD j Tr.none))):=HLT.out.2.1 j;obtain⟨sa,sc,y0⟩:=HNC.out wr _ hN;have hBL:=g1.len;have hBq0:(LT j).sets.length<=(xC d (LT j) (rules.getD j Tr.none)).1.sets.length:=HLT.out.2.2.2.2.2 j hj2;clear hgk hN hti b1 g1 g2;generalize (LT j).sets.length=B at *;generalize xC d (LT j) (rules.getD j Tr.none)=q at *;obtain⟨q1,⟨qf,ql,qe⟩⟩:=q;have b2':q1.sets.length<=24:=b2.len;have l3:qf<16777216:=b3.first
   have l4:ql<16777216:=b3.last;have b4':q1.first<16777216:=b4
   have b5':q1.ends<16777216:=b5;have b6':q1.rules.length=j:=b6;have b7':q1.empty.length=j:=b7;have HC:Hid (Calls prog 89 #[.pointer (some ⟨w.heap.size,0,none⟩),.pointer (some ⟨p,0,none⟩)] wr fun e w'=>e=.returned (.agg #[.int .i64 (qf:Int),.int .i64 (ql:Int),.bool qe])∧NwIs w w' w.heap.size q1∧StayS wr w'):=HC0;have HNX2:Hid (LT (j+1)={q1 with first:=q1.first|||qf,ends:=q1.ends|||ql,rules:=q1.rules++[2^q1.sets.length-2^B],empty:=q1.empty++[qe]}):=HNX.out;clear HC0 HNX b2 b3 b4 b5 b6 b7;go_wp2_with (first|(go_at_call 89;refine HC.out.mono ?_;rintro e w5 ⟨rfl,⟨sv,fv,rv,ev,ps,hN5⟩,hS5⟩;have HN5:Hid (Nw w w5 w.heap.size q1 sv fv rv ev ps):=hN5;clear hN5 hS5))
   obtain⟨w6,hw6,HN6,HB6⟩:∃w6,w6=w5.alloc (.cells #[.int .i64 (qf:Int),.int .i64 (ql:Int),.bool qe] 167)∧Hid (Nw w w6 w.heap.size q1 sv fv rv ev ps)∧Hid (w6.heap[w5.heap.size]? =some (.cells (Sn.mk qf ql qe).cells 167)):=⟨_,rfl,HN5.out.grown (Keep.alloc _ _ (Nat.le_refl _)),heap_alloc_new _ _⟩
   rw[<-hw6];clear hw6 HN5 y0 hc;generalize w5.heap.size=b8 at *;obtain⟨c0,c1,c2,c3,c4,c5,cf⟩:=HN6.out.cells;obtain⟨d0,d1,d2,-⟩:=zF HB6.out;have cf2:=cf 2;have hor1:bits .or .i64 (q1.first:Int) (qf:Int)=((q1.first|||qf:Nat):Int):=yK _ _ (by omega) (by omega);have hor2:bits .or .i64 (q1.ends:Int) (ql:Int)=((q1.ends|||ql:Nat):Int):=yK _ _ (by omega) (by omega);clear cf;go_region;obtain⟨w7,hw7,HN7,HB7⟩:∃w7,w7=(w6.setCell ⟨w.heap.size,2,none⟩ (.int .i64 ((q1.first|||qf:Nat):Int))).drew∧Hid (Nw w w7 w.heap.size {q1 with first:=q1.first|||qf} sv fv rv ev ps)∧Hid (w7.heap[b8]? =some (.cells (Sn.mk qf ql qe).cells 167)):=by
    have h:=HN6.out.setFirst (q1.first|||qf);exact⟨_,rfl,h.1.grown (Keep.drew _),h.2 _ _ HB6.out⟩
   rw[<-hw7];clear hw7 c0 c1 c2 c3 c4 c5 d0 d1 d2 cf2 HN6 HB6;obtain⟨c0,c1,c2,c3,c4,c5,cf⟩:=HN7.out.cells;obtain⟨d0,d1,d2,-⟩:=zF HB7.out;have cf3:=cf 3;clear cf;go_wp2_with fail;go_region;obtain⟨w8,hw8,HN8,HB8⟩:∃w8,w8=(w7.setCell ⟨w.heap.size,3,none⟩ (.int .i64 ((q1.ends|||ql:Nat):Int))).drew∧Hid (Nw w w8 w.heap.size {q1 with first:=q1.first|||qf,ends:=q1.ends|||ql} sv fv rv ev ps)∧Hid (w8.heap[b8]? =some (.cells (Sn.mk qf ql qe).cells 167)):=by
    have h:=HN7.out.setEnds (q1.ends|||ql);exact⟨_,rfl,h.1.grown (Keep.drew _),h.2 _ _ HB7.out⟩
   rw[<-hw8];clear hw8 c0 c1 c2 c3 c4 c5 d0 d1 d2 cf3 HN7 HB7 hor1 hor2;go_wp2_with fail;have hpl:q1.sets.length<=24:=b2';have hBq:B<=q1.sets.length:=hBq0;obtain⟨P1,hP1e⟩:∃P1:Nat,P1=2^q1.sets.length:=⟨_,rfl⟩
   obtain⟨P2,hP2e⟩:∃P2:Nat,P2=2^B:=⟨_,rfl⟩
   have hP1:P1<=16777216:=by rw[hP1e];exact(Nat.pow_le_pow_right (by omega) hpl:2^q1.sets.length<=2^24)
   have hP2:P2<=16777216:=by rw[hP2e];exact(Nat.pow_le_pow_right (by omega) hBL:2^B<=2^24)
   have hP3:P2<=P1:=by rw[hP1e,hP2e];exact Nat.pow_le_pow_right (by omega) hBq
   obtain⟨R,hR⟩:∃R:Nat,R=P1-P2:=⟨_,rfl⟩
   have hR1:(P1:Int)-(P2:Int)=(R:Int):=by omega
   have hR0:R<16777217:=by omega
   have HR:Hid (R=P1-P2):=hR;have HX:Hid ((IntKind.i64.wrap (IntKind.i64.wrap ((2:Int)^q1.sets.length)-IntKind.i64.wrap ((2:Int)^B)))=(R:Int)):=by
    show _=_;have e1:((2:Int)^q1.sets.length)=(P1:Int):=by rw[hP1e];simp
    have e2:((2:Int)^B)=(P2:Int):=by rw[hP2e];simp
    rw[e1,e2,zAM (P1:Int) (by omega) (by omega),zAM (P2:Int) (by omega) (by omega),hR1];exact zAM _ (by omega) (by omega)
   have HPP:Hid (P1=2^q1.sets.length∧P2=2^B):=⟨hP1e,hP2e⟩
   clear hP1e hP2e;obtain⟨sa2,sc2,hsv⟩:=zE HN8.out.sOwn;obtain⟨ra,rc,hrv⟩:=HN8.out.rOwn.form;obtain⟨ea,ec,hev⟩:=zE HN8.out.eOwn;rw[zM] at hrv;have hrv2:rv=.slice ra j rc:=by rw[hrv];show Value.slice ra q1.rules.length rc=_;rw[b6']
   have hev2:ev=.slice ea j ec:=by rw[hev];show Value.slice ea q1.empty.length ec=_;rw[b7']
   have hsv2:sv=.slice sa2 q1.sets.length sc2:=hsv;clear hsv hrv hev;subst hsv2 hrv2 hev2;obtain⟨c0,-,-,-,c4,c5,cf⟩:=HN8.out.cells;have cf4:=cf 4;have hlt:=HN8.out.lt;have hH8:w.heap.size<=w8.heap.size:=HN8.out.keep.size;have HNP:Hid (some w.heap.size≠(Value.slice ra j rc).ownBlock):=HN8.out.box.2.2.1;have OW:w8.ownsRow w.heap.size 3 1 (.slice ra j rc) j ((ints q1.rules).map fun x=>.int .i64 x):=by
    have:=HN8.out.rOwn;unfold OwnI at this;rw[zM] at this;have h2:w8.ownsRow w.heap.size 3 1 (.slice ra j rc) q1.rules.length ((ints q1.rules).map fun x=>.int .i64 x):=this;rw[b6'] at h2;exact h2
   obtain⟨d0,d1,d2,-⟩:=zF HB8.out;clear cf hR hP1 hP2 hP3 hBq hBq0 hR1;go_region_law ((refine step_append_lies _ (by rfl) (.tmp 46) (.tmp 56) 45 (by rfl) w.heap.size 3 i0 _ 1 8 underlying45 hi0 hz0 hz1 hz2 rfl (by decide) (.slice ra j rc) j ((ints q1.rules).map fun x=>.int .i64 x) (by simp[Act.eval,Act.put]) ((OW.alloc _).drew) ⟨w8.heap.size,0,none⟩ 1 1 [.int .i64 (IntKind.i64.wrap (IntKind.i64.wrap ((2:Int)^q1.sets.length)-IntKind.i64.wrap ((2:Int)^B)))] (by simp[Act.eval,Act.put]) (by rfl) (news_of_block (cs:=#[.int .i64 (IntKind.i64.wrap (IntKind.i64.wrap ((2:Int)^q1.sets.length)-IntKind.i64.wrap ((2:Int)^B)))]) (t:=3) (fr:=(0,0)) (heap_alloc_new w8 _)) (by simp[Value.oneCell']) (by decide) (by unfold maxLen;omega) (by omega) (by simp;omega) (w8.heap.size+1) (by simp) ?_;intro gg cap2 w9 hown hgrow hat hlt9;have hPB:=hgrow.block w.heap.size (by simp;omega) HNP.out;have c4b:w9.cell? ⟨w.heap.size,4,none⟩=some (.slice ra j rc):=(cell?_of_block hPB).trans ((cell?_alloc_past _ _ _ hlt).trans c4);have cf4b:w9.frozen? ⟨w.heap.size,4,none⟩=false:=(frozen?_of_block hPB).trans ((frozen?_alloc_past _ _ _ hlt).trans cf4)))
   all_goals
    rw[HX.out] at hown;have HN9:Hid (Nw w (w9.setCell ⟨w.heap.size,4,none⟩ (.slice (some ⟨gg,0,none⟩) (j+1) cap2)) w.heap.size {q1 with first:=q1.first|||qf,ends:=q1.ends|||ql,rules:=q1.rules++[R]} (.slice sa2 q1.sets.length sc2) fv (.slice (some ⟨gg,0,none⟩) (j+1) cap2) (.slice ea j ec) ps∧StayS w8.drew (w9.setCell ⟨w.heap.size,4,none⟩ (.slice (some ⟨gg,0,none⟩) (j+1) cap2))):=(HN8.out.grown (Keep.drew _)).addRule (o:=Obj.cells #[.int .i64 (IntKind.i64.wrap (IntKind.i64.wrap ((2:Int)^q1.sets.length)-IntKind.i64.wrap ((2:Int)^B)))] 3) b6'.symm hown hgrow (by
     rcases hat with ha|ha
     ·exact .inl ha
     ·right;show w8.heap.size<=gg;omega)
    have HB9:Hid ((w9.setCell ⟨w.heap.size,4,none⟩ (.slice (some ⟨gg,0,none⟩) (j+1) cap2)).heap[b8]? =some (.cells (Sn.mk qf ql qe).cells 167)):=HN9.out.2 _ _ HB8.out;clear hown hgrow hat hlt9 hPB c4b cf4b OW c0 c4 c5 cf4 d0 d1 d2 HX HN8 HB8 HNP;generalize w9.setCell ⟨w.heap.size,4,none⟩ (.slice (some ⟨gg,0,none⟩) (j+1) cap2)=w10 at *;obtain⟨-,-,-,-,-,c5,cf⟩:=HN9.out.1.cells;have cf5:=cf 5;have hlt10:=HN9.out.1.lt;have hH10:w.heap.size<=w10.heap.size:=HN9.out.1.keep.size;have HNE:Hid (some w.heap.size≠(Value.slice ea j ec).ownBlock):=HN9.out.1.box.2.2.2;have OE:w10.ownsRow w.heap.size 4 1 (.slice ea j ec) j (q1.empty.map fun x=>.bool x):=by
     have:=HN9.out.1.eOwn;unfold OwnB at this;have h2:w10.ownsRow w.heap.size 4 1 (.slice ea j ec) q1.empty.length (q1.empty.map fun x=>.bool x):=this;rw[b7'] at h2;exact h2
    obtain⟨d0,d1,d2,-⟩:=zF HB9.out;clear cf;go_wp2_with fail;go_region_law ((refine step_append_lies _ (by rfl) (.tmp 64) (.tmp 67) 28 (by rfl) w.heap.size 4 ib _ 1 1 underlying28 hib hb0 hb1 hb2 rfl (by decide) (.slice ea j ec) j (q1.empty.map fun x=>.bool x) (by simp[Act.eval,Act.put]) ((OE.alloc _).drew) ⟨w10.heap.size,0,none⟩ 1 1 [.bool qe] (by simp[Act.eval,Act.put]) (by rfl) (news_of_block (cs:=#[.bool qe]) (t:=4) (fr:=(0,0)) (heap_alloc_new w10 _)) (by simp[Value.oneCell']) (by decide) (by unfold maxLen;omega) (by omega) (by simp;omega) (w10.heap.size+1) (by simp) ?_;intro g5 cap5 w11 hown5 hgrow5 hat5 hlt11;have hPB5:=hgrow5.block w.heap.size (by simp;omega) HNE.out;have c5b:w11.cell? ⟨w.heap.size,5,none⟩=some (.slice ea j ec):=(cell?_of_block hPB5).trans ((cell?_alloc_past _ _ _ hlt10).trans c5);have cf5b:w11.frozen? ⟨w.heap.size,5,none⟩=false:=(frozen?_of_block hPB5).trans ((frozen?_alloc_past _ _ _ hlt10).trans cf5)))
    all_goals
     have HN12:Hid (NwIs w (w11.setCell ⟨w.heap.size,5,none⟩ (.slice (some ⟨g5,0,none⟩) (j+1) cap5)) w.heap.size (LT (j+1))):=by
      have h:=(HN9.out.1.grown (Keep.drew _)).addEmpty (o:=Obj.cells #[.bool qe] 4) b7'.symm hown5 hgrow5 (by
       rcases hat5 with ha|ha
       ·exact .inl ha
       ·right;show w10.heap.size<=g5;omega)
      show NwIs _ _ _ (LT (j+1));rw[HNX2.out,<-HPP.out.1,<-HPP.out.2,<-HR.out];exact⟨_,_,_,_,_,h.1⟩
     clear hown5 hgrow5 hat5 hlt11 hPB5 c5b cf5b OE c5 cf5 d0 d1 d2;go_wp2_with fail;go_roundg (rules.length-(j+1))
     case measure=>rw[HB.out.1];omega
     case rel=>exact⟨j+1,rfl,by omega,by go_num,HN12.out⟩
  ·have i1:(rules.length:Int)<=(j:Int):=by omega
   have e:j=rules.length:=by omega
   subst e;rw[HLT.out.2.2.2.2.1] at hN;clear hgk;go_wp2_with fail;go_ret;exact⟨_,rfl,hN⟩
end
def xF (c:Nat):Bool:=decide (48<=c)&&decide (c<=57)
def zCb (c:Nat):Bool:=(decide (97<=c)&&decide (c<=122))||(decide (65<=c)&&decide (c<=90))
def isPrintedB (c:Nat):Bool:=decide (32<=c)&&decide (c<=126)
theorem jW (w:World)(c:Nat):Calls prog 206 #[.int .u8 (c:Int)] w fun e w'=>e=.returned (.bool (xF c))∧w'=w:=by
 have hv:xF c=(decide (48<=c)&&decide (c<=57)):=rfl;rcases(show c<48∨(48<=c∧c<=57)∨(48<=c∧57<c) by omega) with h|⟨h,h2⟩|⟨h,h2⟩
 all_goals
  have HV:=vl hv;clear hv
  try have i1:(c:Int)<48:=by omega
  try have i1:(c:Int)>=48:=by omega
  try have i2:(c:Int)<=57:=by omega
  try have i2:57<(c:Int):=by omega
  go_in;go_wp2;go_ret;exact⟨by rw[HV.out];first|(simp;done)|(simp;omega)|(simp;rw[Bool.eq_iff_iff];simp;omega),rfl⟩
theorem zBx (w:World)(c:Nat):Calls prog 218 #[.int .u8 (c:Int)] w fun e w'=>e=.returned (.bool (isPrintedB c))∧w'=w:=by
 have hv:isPrintedB c=(decide (32<=c)&&decide (c<=126)):=rfl;rcases(show c<32∨(32<=c∧c<=126)∨(32<=c∧126<c) by omega) with h|⟨h,h2⟩|⟨h,h2⟩
 all_goals
  have HV:=vl hv;clear hv
  try have i1:(c:Int)<32:=by omega
  try have i1:(c:Int)>=32:=by omega
  try have i2:(c:Int)<=126:=by omega
  try have i2:126<(c:Int):=by omega
  go_in;go_wp2;go_ret;exact⟨by rw[HV.out];first|(simp;done)|(simp;omega)|(simp;rw[Bool.eq_iff_iff];simp;omega),rfl⟩
theorem zE7 (w:World)(c:Nat):Calls prog 217 #[.int .u8 (c:Int)] w fun e w'=>e=.returned (.bool (zCb c))∧w'=w:=by
 have hc:(c<65)∨(65<=c∧c<=90)∨(90<c∧c<97)∨(97<=c∧c<=122)∨(122<c):=by omega
 have hv:zCb c=((decide (97<=c)&&decide (c<=122))||(decide (65<=c)&&decide (c<=90))):=rfl;rcases hc with h|h|h|h|h
 all_goals
  have HV:=vl hv;clear hv
  try have i0:(c:Int)<97:=by omega
  try have i0:(c:Int)>=97:=by omega
  try have i1:(c:Int)<65:=by omega
  try have i1:(c:Int)>=65:=by omega
  try have i2:(c:Int)<=90:=by omega
  try have i2:90<(c:Int):=by omega
  try have i3:(c:Int)<=122:=by omega
  try have i3:122<(c:Int):=by omega
  go_in;go_wp2;go_ret;exact⟨by rw[HV.out];first|(simp;done)|(simp;omega)|(simp;rw[Bool.eq_iff_iff];simp;omega),rfl⟩
def zAG (c:Nat):Bool:=!(c==92||c==124||c==40||c==41||c==91||c==93||c==123||c==125||c==42||c==43||c==63||c==46)&&isPrintedB c
theorem zCp (w:World)(c:Nat):Calls prog 212 #[.int .u8 (c:Int)] w fun e w'=>e=.returned (.bool (zAG c))∧w'=w:=by
 have HP:Hid (∀w,Calls prog 218 #[.int .u8 (c:Int)] w fun e w'=>e=.returned (.bool (isPrintedB c))∧w'=w):=fun w=>zBx w c;by_cases hq:c=92∨c=124∨c=40∨c=41∨c=91∨c=93∨c=123∨c=125∨c=42∨c=43∨c=63∨c=46
 ·rcases hq with rfl|rfl|rfl|rfl|rfl|rfl|rfl|rfl|rfl|rfl|rfl|rfl
  all_goals
   go_in;go_wp2;go_ret;exact⟨rfl,rfl⟩
 obtain⟨h0,h1,h2,h3,h4,h5,h6,h7,h8,h9,h10,h11⟩:¬c=92∧¬c=124∧¬c=40∧¬c=41∧¬c=91∧¬c=93∧¬c=123∧¬c=125∧¬c=42∧¬c=43∧¬c=63∧¬c=46:=by omega
 have HV:Hid (zAG c=isPrintedB c):=by
  show _=_;unfold zAG;simp[h0,h1,h2,h3,h4,h5,h6,h7,h8,h9,h10,h11]
 have e0:((c:Int)==92)=false:=by rw[beq_eq_false_iff_ne];omega
 have e1:((c:Int)==124)=false:=by rw[beq_eq_false_iff_ne];omega
 have e2:((c:Int)==40)=false:=by rw[beq_eq_false_iff_ne];omega
 have e3:((c:Int)==41)=false:=by rw[beq_eq_false_iff_ne];omega
 have e4:((c:Int)==91)=false:=by rw[beq_eq_false_iff_ne];omega
 have e5:((c:Int)==93)=false:=by rw[beq_eq_false_iff_ne];omega
 have e6:((c:Int)==123)=false:=by rw[beq_eq_false_iff_ne];omega
 have e7:((c:Int)==125)=false:=by rw[beq_eq_false_iff_ne];omega
 have e8:((c:Int)==42)=false:=by rw[beq_eq_false_iff_ne];omega
 have e9:((c:Int)==43)=false:=by rw[beq_eq_false_iff_ne];omega
 have e10:((c:Int)==63)=false:=by rw[beq_eq_false_iff_ne];omega
 have e11:((c:Int)==46)=false:=by rw[beq_eq_false_iff_ne];omega
 generalize isPrintedB c=b at *;go_in;go_wp2_with (first|(go_at_call 218;refine(HP.out _).mono ?_;rintro e w9 ⟨rfl,hw9⟩;have hw8:=hw9.symm;subst hw8))
 go_ret;exact⟨by rw[HV.out];rfl,rfl⟩
def vT (c:Nat):Int:=if xF c then(c:Int)-48 else if 97<=c∧c<=102 then(c:Int)-87 else -1
theorem zFb (w:World)(c:Nat)(h8:c<256):Calls prog 220 #[.int .u8 (c:Int)] w fun e w'=>e=.returned (.int .i64 (vT c))∧w'=w:=by
 have HP0:Hid (∀w,Calls prog 206 #[.int .u8 (c:Int)] w fun e w'=>e=.returned (.bool (xF c))∧w'=w):=fun w=>jW w c;by_cases hd:48<=c∧c<=57
 ·have hdb:xF c=true:=by unfold xF;simp;omega
  rw[hdb] at HP0;have HP:=vl HP0.out;have HV:Hid (vT c=(c:Int)-48):=by show _=_;unfold vT;rw[if_pos hdb]
  have hw:IntKind.u8.wrap ((c:Int)-48)=(c:Int)-48:=by rw[IntKind.wrap_u8];omega
  go_in;go_wp2_with (first|(go_at_call 206;refine(HP.out _).mono ?_;rintro e w9 ⟨rfl,hw9⟩;have hw8:=hw9.symm;subst hw8))
  go_ret;exact⟨by rw[HV.out];first|rfl|(simp [hw];done)|(simp;omega),rfl⟩
 ·have hdb:xF c=false:=by unfold xF;simp;omega
  rw[hdb] at HP0;have HP:=vl HP0.out;by_cases hh:97<=c∧c<=102
  ·have HV:Hid (vT c=(c:Int)-87):=by show _=_;unfold vT;rw[if_neg (by rw[hdb];decide),if_pos hh]
   have i1:(c:Int)>=97:=by omega
   have i2:(c:Int)<=102:=by omega
   have hw:IntKind.u8.wrap ((c:Int)-97)=(c:Int)-97:=by rw[IntKind.wrap_u8];omega
   go_in;go_wp2_with (first|(go_at_call 206;refine(HP.out _).mono ?_;rintro e w9 ⟨rfl,hw9⟩;have hw8:=hw9.symm;subst hw8))
   go_ret;exact⟨by rw[HV.out];first|rfl|(simp [hw];done)|(simp;omega),rfl⟩
  ·have HV:Hid (vT c=-1):=by show _=_;unfold vT;rw[if_neg (by rw[hdb];decide),if_neg hh]
   by_cases h97:97<=c
   ·have i1:(c:Int)>=97:=by omega
    have i2:102<(c:Int):=by omega
    go_in;go_wp2_with (first|(go_at_call 206;refine(HP.out _).mono ?_;rintro e w9 ⟨rfl,hw9⟩;have hw8:=hw9.symm;subst hw8))
    go_ret;exact⟨by rw[HV.out];rfl,rfl⟩
   ·have i1:(c:Int)<97:=by omega
    go_in;go_wp2_with (first|(go_at_call 206;refine(HP.out _).mono ?_;rintro e w9 ⟨rfl,hw9⟩;have hw8:=hw9.symm;subst hw8))
    go_ret;exact⟨by rw[HV.out];rfl,rfl⟩
end Go.Proofs.YtbjcfkdnjaiclaaGreat
