import Derived.Deep.DrawnRows
import Derived.Deep.RegionLaw
import Derived.Test.YtbjcfkdnjaiclaaGreatE0
import Derived.Test.YtbjcfkdnjaiclaaGreatE3
/- Parts of the proof. -/
set_option linter.unusedVariables false
set_option linter.unusedSimpArgs false
set_option maxHeartbeats 4000000
set_option maxRecDepth 100000
namespace Go.Proofs.YtbjcfkdnjaiclaaGreat
open Go.RowKit Go.Proofs.Tryz Go.World
open Go.Value (int slice bool pointer string agg tuple)
open Go.IntKind (i64)
open Go.Ending (returned)
section
def SoY (w:World)(X Y:Nat->Prop)(p:Nat)(s:Sq)(d:Sf):Prop:=∃fv mv,SoAt w X p s d fv mv∧∀g,Y g->g<w.heap.size∧g≠p∧some g≠fv.ownBlock∧some g≠mv.ownBlock
section
variable {w w2:World} {X Y:Nat->Prop} {p:Nat} {s:Sq} {d:Sf} {fv mv:Value}
theorem SoAt.both (h:SoAt w X p s d fv mv)(hY:∀g,Y g->g<w.heap.size∧g≠p∧some g≠fv.ownBlock∧some g≠mv.ownBlock):SoAt w (fun g=>X g∨Y g) p s d fv mv:=
 h.fewer (fun e=>e.elim h.xp fun e=>(hY p e).2.1 rfl) (fun g e=>e.elim (h.xl g) fun e=>(hY g e).1) (fun g e=>e.elim (h.xf g) fun e=>(hY g e).2.2.1) (fun g e=>e.elim (h.xm g) fun e=>(hY g e).2.2.2) (fun g e=>.inl e)
theorem SoY.call {d':Sf}(h:SoY w X Y p s d)(h':zOi w2 (fun g=>X g∨Y g) p s d')(hk:KeepX (fun g=>X g∨Y g) w w2):SoY w2 X Y p s d':=by
 obtain⟨fv,mv,h,hY⟩:=h;obtain⟨fv',mv',h'⟩:=h';have e:∀b,X b->w2.heap[b]? =w.heap[b]? :=fun b hb=>hk.block b (.inl hb);refine⟨fv',mv',⟨h'.blk,h'.own1,h'.own2,h'.ne,fun g hg=>h'.xf g (.inl hg),fun g hg=>h'.xm g (.inl hg),h.xp,fun g hg=>h'.xl g (.inl hg),h'.lp,(cell?_of_block (e _ h.xq)).trans h.net,h.xq,h.rls.keep e,h.eight,h.rsm,h.tls.keep e,h.tsm,h.tlen,h.sts.keep e,h.ssm,h'.fsm,h'.msm⟩,fun g hg=>⟨h'.xl g (.inr hg),(hY g hg).2.1,h'.xf g (.inr hg),h'.xm g (.inr hg)⟩⟩
theorem SoY.mono {Z:Nat->Prop}(h:SoY w X Y p s d)(e:∀g,Z g->Y g):SoY w X Z p s d:=by
 obtain⟨fv,mv,h,hY⟩:=h;exact⟨fv,mv,h,fun g hg=>hY g (e g hg)⟩
theorem SoY.grown {Z:Nat->Prop}(h:SoY w X Y p s d)(hk:Grew w w2)(e:∀g,Z g->g<w2.heap.size∧(Y g∨w.heap.size<=g)):SoY w2 X Z p s d:=by
 obtain⟨fv,mv,h,hY⟩:=h;refine⟨fv,mv,h.grown hk,fun g hg=>?_⟩;obtain⟨hl,hy|hn⟩:=e g hg
 ·exact⟨hl,(hY g hy).2⟩
 ·refine⟨hl,fun e2=>by have:=h.lp;omega,fun e2=>?_,fun e2=>?_⟩
  ·have:=(h.own1.lt g e2.symm).2;omega
  ·have:=(h.own2.lt g e2.symm).2;omega
theorem SoY.app {Z:Nat->Prop}{o:Obj}{g:Nat}{v:Value}(h:SoY w X Y p s d)(hv:∀k,some k=v.ownBlock->Y k∧¬X k)(hg:(w.alloc o).grownBy w2 v.ownBlock)(hat:v.ownBlock=some g∨w.heap.size<=g)(hl:g<w2.heap.size)(hZ:∀k,Z k->Y k∨k=g):SoY w2 X Z p s d:=by
 obtain⟨fv,mv,h,hY⟩:=h;have hsz:w.heap.size<=w2.heap.size:=lY (by simp) hg.size;have hbl:∀j,j<w.heap.size->some j≠v.ownBlock->w2.heap[j]? =w.heap[j]? :=fun j hj hf=>(hg.block j (by simp;omega) hf).trans (lG _ _ _ (by omega));have e:∀b,X b->w2.heap[b]? =w.heap[b]? :=fun b hb=>hbl b (h.xl b hb) fun e2=>(hv b e2).2 hb;have hp:=hbl p h.lp fun e2=>(hY p (hv p e2).1).2.1 rfl;have hgY:g<w.heap.size->Y g:=fun hlt=>(hv g (hat.elim (fun e=>e.symm) fun e=>by omega)).1;refine⟨fv,mv,⟨hp.trans h.blk,zD h.own1 fun k _ h2 hk=>hbl k h2 fun e2=>(hY k (hv k e2).1).2.2.1 hk.symm,zD h.own2 fun k _ h2 hk=>hbl k h2 fun e2=>(hY k (hv k e2).1).2.2.2 hk.symm,h.ne,h.xf,h.xm,h.xp,fun g hg=>lZ (h.xl g hg) hsz,lZ h.lp hsz,(cell?_of_block (e _ h.xq)).trans h.net,h.xq,h.rls.keep e,h.eight,h.rsm,h.tls.keep e,h.tsm,h.tlen,h.sts.keep e,h.ssm,h.fsm,h.msm⟩,fun k hk=>?_⟩;rcases hZ k hk with hy|rfl
 ·exact⟨lZ (hY k hy).1 hsz,(hY k hy).2⟩
 ·by_cases hlt:k<w.heap.size
  ·exact⟨hl,(hY k (hgY hlt)).2⟩
  ·refine⟨hl,fun e2=>by have:=h.lp;omega,fun e2=>?_,fun e2=>?_⟩
   ·have:=(h.own1.lt k e2.symm).2;omega
   ·have:=(h.own2.lt k e2.symm).2;omega
theorem zIc (h:SoY w X Y p s d)(hl:d.marks.length<=100000000000)(hl2:d.found.length<=100000000000)(x:Nat)(hx:x<16777216):
  Calls prog 94 #[pointer (some ⟨p,0,none⟩),int i64 x] w fun e w'=>e=returned (int i64 (s.kind d x))∧SoY w' X Y p s (s.kindS d x)∧KeepX (fun g=>X g∨Y g) w w':=by
 have h0:=h;obtain⟨fv,mv,h,hY⟩:=h;refine(zG2 w _ p s d ⟨fv,mv,h.both hY⟩ hl hl2 x hx).mono ?_;rintro e w' ⟨rfl,h1,h2⟩;exact⟨rfl,h0.call h1 h2,h2⟩
end
def Sq.rowTo (s:Sq)(next:Nat)(d:Sf):Nat->List Nat×Sf
 |0=>([],d)
 |j+1=>((s.rowTo next d j).1++[s.kind (s.rowTo next d j).2 (next&&&s.sets.getD j 0)],s.kindS (s.rowTo next d j).2 (next&&&s.sets.getD j 0))
theorem Sq.kindS_len (s:Sq)(d:Sf)(x:Nat):(s.kindS d x).found.length<=d.found.length+1∧(s.kindS d x).marks.length<=d.marks.length+1∧d.found.length<=(s.kindS d x).found.length:=by
 unfold Sq.kindS;split
 ·split <;> simp
 ·simp
theorem Sq.rowTo_len (s:Sq)(next:Nat)(d:Sf)(j:Nat):(s.rowTo next d j).1.length=j∧(s.rowTo next d j).2.found.length<=d.found.length+j∧(s.rowTo next d j).2.marks.length<=d.marks.length+j∧d.found.length<=(s.rowTo next d j).2.found.length:=by
 induction j with
 |zero=>exact⟨rfl,lQ,lQ,lQ⟩
 |succ j ih=>
  have h:=s.kindS_len (s.rowTo next d j).2 (next&&&s.sets.getD j 0);unfold Sq.rowTo;simp only[kX,List.length_singleton];omega
end
theorem zKQ {w w':World}{X:Nat->Prop}{H:Nat}{v:Value}{l:List Int}(h:OwnI w H v l)(hk:KeepX X w w')(e:∀k,some k=v.ownBlock->X k):OwnI w' H v l:=zD h fun g _ _ hg=>hk.block g (e g hg.symm)
theorem zFE (w:World)(X Y:Nat->Prop)(p:Nat)(s:Sq)(d:Sf)(h:SoY w X Y p s d)(hl:d.marks.length+s.sets.length<=100000000000)(hl2:d.found.length+s.sets.length<=100000000000)(next:Nat)(hx:next<16777216):
  Calls prog 91 #[pointer (some ⟨p,0,none⟩),int i64 next] w fun e w'=>∃u,e=returned u∧OwnI w' w.heap.size u (ints (s.rowTo next d s.sets.length).1)∧SoY w' X (fun g=>Y g∨some g=u.ownBlock) p s (s.rowTo next d s.sets.length).2∧KeepX (fun g=>X g∨Y g) w w':=by
 obtain⟨i0,hi0,hz0,hz1,hz2⟩:=info_parts yJ;obtain⟨fv,mv,hA,hY⟩:=h;have y3:=hA.cells.2.1;have hin:Hid (∀k,X k∨Y k->k<w.heap.size):=fun k hk=>hk.elim (hA.xl k) fun e=>(hY k e).1;obtain⟨as_,cs,hsv,_,_,hsc⟩:=hA.sts;rw[zN] at hsv;have HSC:Hid (∀i,i<s.sets.length->∃b o,as_=some ⟨b,o,none⟩∧X b∧w.cell? ⟨b,o+i,none⟩=some (int i64 ((s.sets.getD i 0:Nat):Int))∧next&&&s.sets.getD i 0<16777216∧s.sets.getD i 0<16777216):=by
  intro i hi;obtain⟨b,o,h1,h0,h2⟩:=hsc i (by rw[zN];exact hi);rw[vF] at h2;exact⟨b,o,h1,h0,h2,Nat.lt_of_le_of_lt Nat.and_le_left hx,hA.ssm _ (zS _ i 0 hi)⟩
 rw[hsv] at y3;have HR:Hid (∀j,(s.rowTo next d j).1.length=j∧(s.rowTo next d j).2.found.length<=d.found.length+j∧(s.rowTo next d j).2.marks.length<=d.marks.length+j):=fun j=>by
  have:=s.rowTo_len next d j
  exact⟨this.1,this.2.1,this.2.2.1⟩
 have HI:Hid (SoY w X (fun g=>Y g∨some g=(Value.slice none 0 0).ownBlock) p s d):=⟨fv,mv,hA,fun g hg=>hg.elim (hY g) fun e=>by cases e⟩
 have hsl:s.sets.length<=100000000000:=by omega
 go_in;go_wp2;go_loopg [5,15] s.sets.length (fun q u i wr=>∃j:Nat,q=s.sets.length-j∧j<=s.sets.length∧i=int i64 (j:Int)∧OwnI wr w.heap.size u (ints (s.rowTo next d j).1)∧SoY wr X (fun g=>Y g∨some g=u.ownBlock) p s (s.rowTo next d j).2∧KeepX (fun g=>X g∨Y g) w wr)
 case atStart=>exact⟨0,rfl,lX,rfl,OwnI.nil _ _,HI.out,KeepX.refl _ _⟩
 case round=>
  obtain⟨j,hgk,hj,rfl,ho,hs,hkp⟩:=hrel;have HB:Hid (gk=s.sets.length-j∧OwnI wr w.heap.size u5 (ints (s.rowTo next d j).1)∧SoY wr X (fun g=>Y g∨some g=u5.ownBlock) p s (s.rowTo next d j).2∧KeepX (fun g=>X g∨Y g) w wr):=⟨hgk,ho,hs,hkp⟩
  by_cases hj2:j<s.sets.length
  ·have i1:(j:Int)<(s.sets.length:Int):=by omega
   obtain⟨b1,o1,rfl,hb1,hc,hlt,hlt2⟩:=HSC.out j hj2;have y1:=(cell?_of_block (hkp.block b1 (.inl hb1))).trans hc;obtain⟨au,cu,hu5⟩:=ho.form;rw[zN,(HR.out j).1] at hu5;have HK:Hid (∀x:Nat,x<16777216->Ca 94 #[pointer (some ⟨p,0,none⟩),int i64 x] wr fun e w'=>e=returned (int i64 (s.kind (s.rowTo next d j).2 x))∧(OwnI w' w.heap.size u5 (ints (s.rowTo next d j).1)∧SoY w' X (fun g=>Y g∨some g=u5.ownBlock) p s (s.kindS (s.rowTo next d j).2 x))∧KeepX (fun g=>X g∨Y g) w w'):=fun x hx=>by
    have:=HR.out j;refine(zIc HB.out.2.2.1 (by omega) (by omega) x hx).mono ?_;rintro e w2 ⟨rfl,h1,h2⟩;exact⟨rfl,⟨zKQ HB.out.2.1 h2 fun k hk=>.inr (.inr hk),h1⟩,HB.out.2.2.2.trans (h2.mono fun k hk=>hk.elim .inl fun e=>.inr (.inl e))⟩
   have HN:Hid ((s.rowTo next d (j+1)).1=(s.rowTo next d j).1++[s.kind (s.rowTo next d j).2 (next&&&s.sets.getD j 0)]∧(s.rowTo next d (j+1)).2=s.kindS (s.rowTo next d j).2 (next&&&s.sets.getD j 0)):=⟨rfl,rfl⟩
   have hll:=(HR.out j).1;generalize s.sets.getD j 0=r at *;have hand:bits .and i64 (next:Int) (r:Int)=((next&&&r:Nat):Int):=qA _ _ (by omega) (by omega);generalize next&&&r=x at *
   have HK2:=vl <| HK.out x hlt;generalize s.kind (s.rowTo next d j).2 x=kd at *;generalize s.kindS (s.rowTo next d j).2 x=d2 at *;generalize (s.rowTo next d j).1=l at *;subst hu5;go_wp2_with (first|(go_at_call 94;refine HK2.out.mono ?_;rintro e w2 ⟨rfl,hA2,hk2⟩;have HA2:=vl hA2;have OR:w2.ownsRow w.heap.size 3 1 (slice au j cu) j ((ints l).map fun x=>int i64 x):=(by have:=hA2.1;unfold OwnI at this;rw[zN,hll] at this;exact this);have hsz2:=hk2.size;clear hA2)|(at_builtin;refine wpList_append_lies _ rfl _ _ 45 rfl (w.heap.size) 3 i0 (int i64 0) 1 8 underlying45 hi0 hz0 hz1 hz2 rfl (by decide) _ _ _ rfl (OR.alloc _) ⟨w2.heap.size,0,none⟩ 1 1 [int i64 (kd:Int)] rfl rfl (cell_one_new _ _ _) (by intro u hu;simp at hu;subst hu;rfl) (by decide) (by unfold maxLen;omega) (by omega) (by simp;omega) _ rfl ?_;intro gg cap w3 hown hgrow hat hlt3))
   have hO3:OwnI w3 w.heap.size (slice (some ⟨gg,0,none⟩) (j+1) cap) (ints (l++[kd])):=by
    rw[zA3];have h2:=OwnI.snoc (l:=ints l) (x:=(kd:Int)) (by rw[zN,hll];exact hown);rw[zN,hll] at h2;exact h2
   have hat2:(Value.slice au j cu).ownBlock=some gg∨w2.heap.size<=gg:=by
    rcases hat with ha|ha
    ·exact .inl ha
    ·right;rw[ha];simp
   have hS3:SoY w3 X (fun g=>Y g∨some g=(Value.slice (some ⟨gg,0,none⟩) (j+1) cap).ownBlock) p s d2:=by
    refine HA2.out.2.app (v:=slice au j cu) (fun k hk=>⟨.inr hk,fun e=>?_⟩) hgrow hat2 (hO3.lt gg rfl).2 ?_
    ·have:=(HA2.out.1.lt k hk.symm).1
     have:=hin.out k (.inl e);omega
    ·intro k hk
     rcases hk with e|e
     ·exact .inl (.inl e)
     ·exact .inr (by simpa[Value.ownBlock] using e)
   have hK3:KeepX (fun g=>X g∨Y g) w w3:=by
    refine hk2.trans ⟨hgrow.os,hgrow.output,lY (by simp) hgrow.size,fun k hk=>?_⟩;have h1:=hin.out k hk;exact(hgrow.block k (by simp;omega) fun e=>by have:=(HA2.out.1.lt k e.symm).1;omega).trans (lG _ _ _ (by omega))
   go_roundg (s.sets.length-(j+1))
   case measure=>rw[HB.out.1];omega
   case rel=>exact⟨j+1,rfl,by omega,by go_num,by rw[HN.out.1];exact hO3,by rw[HN.out.2];exact hS3,hK3⟩
  ·have i1:(s.sets.length:Int)<=(j:Int):=by omega
   have e:j=s.sets.length:=by omega
   subst e;go_wp2;go_ret;exact⟨_,rfl,HB.out.2.1,HB.out.2.2.1,HB.out.2.2.2⟩
theorem zBD (n:Int)(h0:0<=n)(h1:n<18446744073709551616):IntKind.u64.wrap n=n:=by rw[IntKind.wrap_u64];omega
theorem zHt (a b:Nat)(ha:a<18446744073709551616)(hb:b<18446744073709551616):bits .and .u64 (a:Int) (b:Int)=((a&&&b:Nat):Int):=
 (bits_nat .u64 64 (by decide) (fun n h0 h1=>zBD n h0 (by simpa using h1)) a b (by simpa using ha) (by simpa using hb)).1
theorem zIQ (a b:Nat)(ha:a<18446744073709551616)(hb:b<18446744073709551616):bits .or .u64 (a:Int) (b:Int)=((a|||b:Nat):Int):=
 (bits_nat .u64 64 (by decide) (fun n h0 h1=>zBD n h0 (by simpa using h1)) a b (by simpa using ha) (by simpa using hb)).2
theorem zAS (f:Nat->Bool)(k j:Nat):(qR f k).testBit j=(decide (j<k)&&f j):=by
 induction k with
 |zero=>simp[qR]
 |succ k ih=>
  unfold qR;by_cases e:j=k
  ·subst e
   cases hf:f j
   ·simp[ih]
   ·simp[ih,Nat.testBit_or]
  ·have h1:decide (j<k+1)=decide (j<k):=by simp;omega
   rw[h1,<-ih];split
   ·rw[Nat.testBit_or,Nat.testBit_two_pow,show decide (k=j)=false by simp;omega,Bool.or_false]
   ·rfl
def wd (m:Nat->Bool)(i:Nat):Nat:=qR (fun j=>m (64*i+j)) 64
theorem zOn (m:Nat->Bool)(i:Nat):wd m i<18446744073709551616:=zBa _ 64
theorem zNL (m:Nat->Bool)(i j:Nat)(hj:j<64):wd m i&&&2^j=if m (64*i+j) then 2^j else 0:=by
 apply Nat.eq_of_testBit_eq;intro k;rw[Nat.testBit_and,Nat.testBit_two_pow];have e2:(wd m i).testBit k=(decide (k<64)&&m (64*i+k)):=zAS _ 64 k;by_cases hk:j=k
 ·subst hk
  rw[e2,decide_eq_true hj,decide_eq_true rfl];cases m (64*i+j) <;> simp
 ·rw[decide_eq_false hk,Bool.and_false]
  cases m (64*i+j) <;> simp[Nat.testBit_two_pow,hk]
theorem zNM (m:Nat->Bool)(x i:Nat):wd (fun y=>y==x||m y) i=if i=x/64 then wd m i|||2^(x%64) else wd m i:=by
 apply Nat.eq_of_testBit_eq;intro j;have e:(wd (fun y=>y==x||m y) i).testBit j=(decide (j<64)&&(64*i+j==x||m (64*i+j))):=zAS _ 64 j;have e2:(wd m i).testBit j=(decide (j<64)&&m (64*i+j)):=zAS _ 64 j;rw[e];split
 ·rename_i h
  rw[Nat.testBit_or,e2,Nat.testBit_two_pow];by_cases hj:j<64
  ·rw[decide_eq_true hj,Bool.true_and,Bool.true_and,Bool.or_comm]
   congr 1
   by_cases hx:x%64=j
   ·rw[decide_eq_true hx,beq_iff_eq];omega
   ·rw[decide_eq_false hx,hJ];omega
  ·rw[decide_eq_false hj,decide_eq_false (by omega)];rfl
 ·rename_i h
  rw[e2];by_cases hj:j<64
  ·rw[show (64*i+j==x)=false by rw[hJ];omega,Bool.false_or]
  ·rw[decide_eq_false hj];rfl
structure SeAt (w:World)(H p n:Nat)(m:Nat->Bool)(g cap:Nat):Prop where
 blk:w.heap[p]? =some (.cells #[slice (some ⟨g,0,none⟩) n cap] 259)
 row:Row w H 260 (slice (some ⟨g,0,none⟩) n cap) n fun i=>int .u64 ((wd m i:Nat):Int)
def SeIs (w:World)(H p n:Nat)(m:Nat->Bool):Prop:=∃g cap,SeAt w H p n m g cap
structure StayU (H:Nat)(w w':World):Prop where
 os:w'.os=w.os
 output:w'.output=w.output
 size:w'.heap.size=w.heap.size
 low:∀k,k<H->w'.heap[k]? =w.heap[k]?
 other:∀(k:Nat) (c:Array Value) (t:TypeId),w.heap[k]? =some (Obj.cells c t)->t≠260->w'.heap[k]? =some (Obj.cells c t)
theorem StayU.refl (H:Nat)(w:World):StayU H w w:=⟨rfl,rfl,rfl,fun _ _=>rfl,fun _ _ _ h _=>h⟩
theorem zFF (w:World)(H p n:Nat)(m:Nat->Bool)(h:SeIs w H p n m)(hn:n<=1000000)(x:Nat)(hx:x<64*n):
  Calls prog 172 #[pointer (some ⟨p,0,none⟩),int i64 x] w fun e w'=>e=returned (bool (!m x))∧SeIs w' H p n (fun y=>y==x||m y)∧StayU H w w':=by
 obtain⟨g,cap,h⟩:=h;have y0:w.cell? ⟨p,0,none⟩=some (slice (some ⟨g,0,none⟩) n cap):=by unfold cell?;rw[h.blk];rfl
 obtain⟨g',cp,hv,g1,g2,g3,g4,g5,g6⟩:=h.row.get (by omega);have eg:g'=g:=by injection hv with e1 _ _;injection e1 with e1;injection e1 with e1;exact e1.symm
 subst eg;have y1:w.cell? ⟨g',x/64,none⟩=some (int .u64 ((wd m (x/64):Nat):Int)):=g5 (x/64) (by omega);have z1:=g6 (x/64);have hsh:bits .and i64 (x:Int) 63=((x%64:Nat):Int):=by
  have:=qA x 63 (by omega) (by omega);rw[show (63:Nat)=2^6-1 from rfl,Nat.and_two_pow_sub_one_eq_mod] at this;exact this
 have hhas:=zNL m (x/64) (x%64) (by omega);rw[show 64*(x/64)+x%64=x by omega] at hhas;have hpl:2^(x%64)<18446744073709551616:=(Nat.pow_lt_pow_right (by omega) (show x%64<64 by omega):2^(x%64)<2^64)
 have hpp:0<2^(x%64):=Nat.pow_pos (by omega);have hwl:=zOn m (x/64);have HW:=vl <| zNM m x;have HS:=vl h;have hw1:IntKind.u64.wrap ((2:Int)^(x%64))=((2^(x%64):Nat):Int):=by
  have e1:((2^(x%64):Nat):Int)=(2:Int)^(x%64):=by simp
  rw[<-e1];exact zBD _ (by omega) (by omega)
 have i1:(x:Int)/64<(n:Int):=by omega
 have i2:(0:Int)<=(x:Int)/64:=by omega
 have i3:¬((x:Int)/64<0):=by omega
 have i4:¬((n:Int)<=(x:Int)/64):=by omega
 have ha:=zHt (wd m (x/64)) (2^(x%64)) hwl hpl;rw[hhas,<-hw1] at ha;have HO:Hid (bits .or .u64 ((wd m (x/64):Nat):Int) (IntKind.u64.wrap ((2:Int)^(x%64)))=((wd m (x/64)|||2^(x%64):Nat):Int)):=by
  show _=_;rw[hw1];exact zIQ (wd m (x/64)) (2^(x%64)) hwl hpl
 clear h hv g1 g2 g3 g4 g5 g6 hhas;cases hm:m x with
 |true=>
  have hc:(bits .and .u64 ((wd m (x/64):Nat):Int) (IntKind.u64.wrap ((2:Int)^(x%64))) != 0)=true:=by
   rw[ha,hm,if_pos rfl];rw[bne_iff_ne];omega
  have HM:Hid (∀y,(y==x||m y)=m y):=fun y=>by
   by_cases e:y=x
   ·rw[e,hm];simp
   ·rw[show (y==x)=false by simp[e]];rfl
  clear ha hw1 hm hwl hpl hpp;go_in;go_wp2;go_ret;exact⟨rfl,⟨_,_,HS.out.blk,HS.out.row.congr fun i _=>by rw[show (fun y=>y==x||m y)=m from funext HM.out]⟩,StayU.refl _ _⟩
 |false=>
  have hc:(bits .and .u64 ((wd m (x/64):Nat):Int) (IntKind.u64.wrap ((2:Int)^(x%64))) != 0)=false:=by
   rw[ha,hm];simp
  clear ha hw1 hm hwl hpl hpp;go_in;go_wp2;go_ret;have hg:H<=g':=(HS.out.row.get (by omega)).elim fun g h=>h.elim fun c h=>by
   obtain⟨hv,h1,_⟩:=h;injection hv with e1 _ _;injection e1 with e1;injection e1 with e1;omega
  have hpg:p≠g':=fun e=>zM HS.out.row HS.out.blk (by decide) (by rw[e];rfl);have hot:∀(k:Nat) (c:Array Value) (t:TypeId),w.heap[k]? =some (Obj.cells c t)->t≠260->k≠g':=fun k c t hk ht e=>zM HS.out.row hk (Ne.symm ht) (congrArg some e);refine⟨rfl,⟨g',cap,(lJ _ _ _ _ hpg).trans HS.out.blk,?_⟩,⟨rfl,rfl,zC _ _ _,fun k hk=>lJ _ _ _ _ (by show k≠g';omega),fun k c t hk ht=>(lJ _ _ _ _ (hot k c t hk ht)).trans hk⟩⟩;refine Row.congr (HS.out.row.set (x/64) _) fun i _=>?_;rw[HW.out i,HO.out];by_cases e:i=x/64
  ·subst e;simp
  ·simp[e]
theorem zNf:(prog.info? 260).map (fun i=>(i.zero,i.size,i.bytes))=some (some (int .u64 0),1,8):=by kernel_rfl
theorem zMN (i:Nat):wd (fun _=>false) i=0:=by
 apply Nat.eq_of_testBit_eq;intro j;have e:(wd (fun _=>false) i).testBit j=(decide (j<64)&&false):=zAS _ 64 j;rw[e];simp
def vM (n:Nat):Nat:=2^n/64+1
theorem zFL (w:World)(n:Nat)(hn:n<=24):
  Calls prog 171 #[int i64 n] w fun e w'=>∃p,e=returned (pointer (some ⟨p,0,none⟩))∧w.heap.size<=p∧SeIs w' w.heap.size p (vM n) (fun _=>false)∧Grew w w':=by
 obtain⟨i0,hi0,hz0,hz1,hz2⟩:=info_parts zNf;have hpw:2^n<=2^24:=kG (by omega) hn;have hpw2:=zEX n (by omega);have HN:Hid (vM n=2^n/64+1):=rfl;obtain⟨w1,hmk,ho1,hg1⟩:=run_makeSlice_full (P:=prog) w w.heap.size 257 260 i0 _ 1 underlying257 hi0 hz0 hz1 i64 i64 (vM n) (by rw[HN.out];omega) (by rw[hz2,HN.out];omega) (by rw[HN.out];unfold maxLen;omega) lQ;have HO1:Hid (Row w1 w.heap.size 260 (slice (some ⟨w.heap.size,0,none⟩) (vM n) (vM n)) (vM n) (fun j=>int .u64 ((wd (fun _=>false) j:Nat):Int))∧Grew w w1):=by
  refine⟨?_,⟨hg1.os,hg1.output,hg1.size,fun k hk _=>hg1.block k hk (by simp)⟩⟩;have h:=ho1;rw[Nat.mul_one,zAc _ rfl] at h;refine Row.congr (f:=fun _=>int .u64 0) h fun i _=>?_;rw[zMN];rfl
 have hsz:w.heap.size<w1.heap.size:=(HO1.out.1.get (by rw[HN.out];exact Nat.succ_pos _)).elim fun g h=>h.elim fun c h=>by
  obtain⟨hv,_,h1,_⟩:=h;injection hv with e1 _ _;injection e1 with e1;injection e1 with e1;omega
 have ecast:((vM n:Nat):Int)=((2^n:Nat):Int)/64+1:=by rw[HN.out];omega
 rw[ecast] at hmk;generalize 2^n=z at *;go_in;go_wp2;go_ret;refine⟨_,rfl,by omega,⟨w.heap.size,vM n,gU _ _,?_⟩,HO1.out.2.trans (kZ _ _ (by omega))⟩;exact zK HO1.out.1 (kZ _ _ lQ)
section
def zM6 (f:Nat->Nat):Nat->Nat
 |0=>0
 |n+1=>zM6 f n|||f n
theorem zM5 (f:Nat->Nat)(k:Nat)(h:∀i,f i<16777216)(n:Nat):zM6 f n<16777216:=by
 induction n with
 |zero=>show 0<16777216;omega
 |succ n ih=>exact Nat.or_lt_two_pow (n:=24) ih (h n)
def spG (by_:List Nat)(i p:Nat):Nat:=if p/8=i/256 then(if (i%256).testBit (p%8) then by_.getD p 0 else 0) else 0
def spF (by_:List Nat)(n i:Nat):Nat:=zM6 (spG by_ i) n
theorem zNT (by_:List Nat)(hs:∀x∈by_,x<16777216)(i p:Nat):spG by_ i p<16777216:=by
 unfold spG;split
 ·split
  ·by_cases h:p<by_.length
   ·exact hs _ (zS _ _ 0 h)
   ·rw[lW,List.getElem?_eq_none (by omega)];show 0<16777216;omega
  ·omega
 ·omega
theorem zLP (by_:List Nat)(hs:∀x∈by_,x<16777216)(n i:Nat):spF by_ n i<16777216:=zM5 _ 0 (zNT by_ hs i) n
theorem zHG (by_:List Nat)(n i:Nat):spF by_ (n+1) i=spF by_ n i|||spG by_ i n:=rfl
theorem zIO:zeroCells208=((List.range 768).map fun _=>Value.int i64 0).toArray:=by kernel_rfl
def SpAt (w:World)(f:Nat)(c:Nat->Nat):Prop:=∃cs:Array Value,w.heap[f]? =some (.cells cs 208)∧∀i,i<768->cs[i]? =some (int i64 ((c i:Nat):Int))
section
variable {w w2:World} {f:Nat} {c:Nat->Nat}
theorem SpAt.cell (h:SpAt w f c)(i:Nat)(hi:i<768):w.cell? ⟨f,i,none⟩=some (int i64 ((c i:Nat):Int))∧w.frozen? ⟨f,i,none⟩=false:=by
 obtain⟨cs,hb,hc⟩:=h
 constructor
 ·unfold cell?;rw[hb];exact hc i hi
 ·unfold frozen?;rw[hb];simp
theorem SpAt.lt (h:SpAt w f c):f<w.heap.size:=by
 obtain⟨cs,hb,_⟩:=h;exact(kQ.1 hb).1
theorem SpAt.set (h:SpAt w f c)(i x:Nat):SpAt (w.setCell ⟨f,i,none⟩ (int i64 (x:Int))) f (fun j=>if j=i then x else c j):=by
 obtain⟨cs,hb,hc⟩:=h;refine⟨cs.setIfInBounds i (int i64 (x:Int)),by simp[setCell,lU,hb],fun j hj=>?_⟩;have h1:=hc j hj;rw[Array.getElem?_setIfInBounds];by_cases e:i=j
 ·subst e
  have:=(kQ.1 h1).1;simp[this]
 ·rw[if_neg e,h1]
  simp[Ne.symm e]
theorem SpAt.congr {c':Nat->Nat}(h:SpAt w f c)(e:∀i,i<768->c i=c' i):SpAt w f c':=by
 obtain⟨cs,hb,hc⟩:=h;exact⟨cs,hb,fun i hi=>by rw[<-e i hi];exact hc i hi⟩
theorem SpAt.keep (h:SpAt w f c)(e:w2.heap[f]? =w.heap[f]?):SpAt w2 f c:=by
 obtain⟨cs,hb,hc⟩:=h;exact⟨cs,e.trans hb,hc⟩
end
theorem zHo (w:World):SpAt (w.alloc (Obj.cells zeroCells208 208)) w.heap.size (fun _=>0):=by
 refine⟨_,gU _ _,fun i hi=>?_⟩;rw[zIO];simp[hi]
theorem zBw (w:World)(v:Value)(by_:List Nat)(hB:Ints w (In w) v (ints by_))(hn:by_.length<=24)(hs:∀x∈by_,x<16777216):
  Calls prog 128 #[v] w fun e w'=>e=returned (pointer (some ⟨w.heap.size,0,none⟩))∧SpAt w' w.heap.size (spF by_ by_.length)∧Grew w w':=by
 obtain⟨ab,cb,rfl,_,_,hbc⟩:=hB;rw[zN] at hbc ⊢;have HBC:Hid (∀i,i<by_.length->∃b o,ab=some ⟨b,o,none⟩∧In w b∧w.cell? ⟨b,o+i,none⟩=some (int i64 ((by_.getD i 0:Nat):Int))∧by_.getD i 0<16777216):=by
  intro i hi;obtain⟨b,o,h1,h2,h3⟩:=hbc i hi;rw[vF] at h3;exact⟨b,o,h1,h2,h3,hs _ (zS _ _ 0 hi)⟩
 have HSF:=vl <| zLP by_ hs;have HZ:=vl <| zHo w;clear hbc hs;go_in;go_wp2;go_loopg [4] by_.length (fun q i wr=>∃j:Nat,q=by_.length-j∧j<=by_.length∧i=int i64 (j:Int)∧SpAt wr w.heap.size (spF by_ j)∧Grew w wr)
 case atStart=>exact⟨0,rfl,lX,rfl,HZ.out,kZ _ _ lQ⟩
 case round=>
  obtain⟨j,hgk,hj,rfl,hsp,hkp⟩:=hrel;have HA:Hid (gk=by_.length-j∧SpAt wr w.heap.size (spF by_ j)∧Grew w wr):=⟨hgk,hsp,hkp⟩
  by_cases hj2:j<by_.length
  ·have i1:(j:Int)<(by_.length:Int):=by omega
   have i2:(j:Int)<24:=by omega
   obtain⟨b,o,rfl,hb,hc,hlt⟩:=HBC.out j hj2;have HC:=vl hc;clear hgk hsp hkp hc;go_wp2;go_loopg [5] 256 (fun q i wr=>∃s:Nat,q=256-s∧s<=256∧i=int i64 (s:Int)∧SpAt wr w.heap.size (fun i=>if i%256<s then spF by_ (j+1) i else spF by_ j i)∧Grew w wr)
   case atStart=>exact⟨0,rfl,lX,rfl,HA.out.2.1.congr fun i _=>by simp,HA.out.2.2⟩
   case round=>
    obtain⟨s,hgk2,hs,rfl,hsp,hkp⟩:=hrel;have HB:Hid (gk=256-s∧SpAt wr w.heap.size (fun i=>if i%256<s then spF by_ (j+1) i else spF by_ j i)∧Grew w wr):=⟨hgk2,hsp,hkp⟩
    by_cases hs2:s<256
    ·have i3:(s:Int)<256:=by omega
     have y1:wr.cell? ⟨b,o+j,none⟩=some (int i64 ((by_.getD j 0:Nat):Int)):=zA HC.out hb hkp;have hbit:bits .and i64 ((s:Int)/2^(j%8)) 1=((s/2^(j%8)%2:Nat):Int):=by
      rw[zBp];exact zD1 _ (Nat.lt_of_le_of_lt (Nat.div_le_self _ _) (by omega))
     have HT:Hid (s.testBit (j%8)=decide (s/2^(j%8)%2=1)):=Nat.testBit_eq_decide_div_mod_eq;have hI:j/8*256+s<768:=by omega
     obtain⟨y2,z2⟩:=hsp.cell (j/8*256+s) hI;have y3:wr.cell? ⟨w.heap.size,j/8*256+s,none⟩=some (int i64 ((spF by_ j (j/8*256+s):Nat):Int)):=by
      rw[y2,if_neg (by omega)]
     have HGen:Hid (∀i,i<768->(if i%256<s+1 then spF by_ (j+1) i else spF by_ j i)=if i=j/8*256+s then spF by_ j i|||(if s.testBit (j%8) then by_.getD j 0 else 0) else if i%256<s then spF by_ (j+1) i else spF by_ j i):=fun i hi=>by
      by_cases e:i=j/8*256+s
      ·rw[if_pos e,if_pos (by omega),zHG]
       congr 1
       unfold spG;rw[if_pos (by omega),show i%256=s by omega]
      ·rw[if_neg e]
       by_cases e2:i%256<s
       ·rw[if_pos e2,if_pos (by omega)]
       ·rw[if_neg e2]
        by_cases e3:i%256<s+1
        ·rw[if_pos e3,zHG]
         unfold spG;rw[if_neg (by omega),Nat.or_zero]
        ·rw[if_neg e3]
     have hcl:=HSF.out j (j/8*256+s);clear hgk2 hsp hkp y2;cases htb:s.testBit (j%8) with
     |true=>
      have hc1:(bits .and i64 ((s:Int)/2^(j%8)) 1==1)=true:=by
       have h1:=HT.out;rw[htb] at h1;rw[hbit,of_decide_eq_true h1.symm];rfl
      rw[htb] at HGen;have HOR:Hid (bits .or i64 ((spF by_ j (j/8*256+s):Nat):Int) ((by_.getD j 0:Nat):Int)=((spF by_ j (j/8*256+s)|||by_.getD j 0:Nat):Int)):=yM _ _ (by omega) (by omega);clear hbit HT htb;generalize hr:by_.getD j 0=r at *;generalize hc0:spF by_ j (j/8*256+s)=c0 at *;have HC0:Hid (spF by_ j (j/8*256+s)=c0):=hc0;clear hr hc0;have i5:(j:Int)/8<3:=by omega
      have i6:(0:Int)<=(j:Int)/8:=by omega
      go_wp2;go_region;go_wp2;go_roundg (256-(s+1))
      case measure=>rw[HB.out.1];omega
      case rel=>
       refine⟨s+1,rfl,by omega,by go_num,?_,HB.out.2.2.trans (Keep.trans (zO _ _ _ _ lQ) (Keep.drew _))⟩;have h:=HB.out.2.1.set (j/8*256+s) (c0|||r);rw[<-HOR.out] at h;refine SpAt.keep (SpAt.congr h fun i hi=>?_) rfl;show(if i=_ then _ else if _ then _ else _)=if _ then _ else _
       rw[HGen.out i hi];by_cases e:i=j/8*256+s
       ·rw[if_pos e,if_pos e,e,HC0.out];simp
       ·rw[if_neg e,if_neg e]
     |false=>
      have hc1:(bits .and i64 ((s:Int)/2^(j%8)) 1==1)=false:=by
       have h1:=HT.out;rw[htb] at h1;have h2:=of_decide_eq_false h1.symm;rw[hbit,hJ];omega
      rw[htb] at HGen;clear hbit HT htb;go_wp2;go_roundg (256-(s+1))
      case measure=>rw[HB.out.1];omega
      case rel=>
       refine⟨s+1,rfl,by omega,by go_num,?_,HB.out.2.2⟩;refine HB.out.2.1.congr fun i hi=>?_;show(if _ then _ else _)=if _ then _ else _
       rw[HGen.out i hi];by_cases e:i=j/8*256+s
       ·rw[if_pos e,if_neg (by omega),if_neg (by decide),Nat.or_zero]
       ·rw[if_neg e]
    ·have i3:(256:Int)<=(s:Int):=by omega
     have e:s=256:=by omega
     subst e;have HD:Hid (SpAt wr w.heap.size (spF by_ (j+1))):=hsp.congr fun i _=>by rw[if_pos (gZ _ (by omega))]
     clear hgk2 hsp hkp;go_wp2;go_roundg (by_.length-(j+1))
     case measure=>rw[HA.out.1];omega
     case rel=>exact⟨j+1,rfl,by omega,by go_num,HD.out,HB.out.2.2⟩
  ·have i1:(by_.length:Int)<=(j:Int):=by omega
   have e:j=by_.length:=by omega
   subst e;clear hgk hsp hkp;go_wp2;go_ret;exact⟨rfl,HA.out.2.1,HA.out.2.2⟩
end
def zAq (c:Nat->Nat)(x:Nat):Nat:=c (x%256)|||c (256+x/256%256)|||c (512+x/65536%256)
theorem zMU (c:Nat->Nat)(h:∀i,c i<16777216)(x:Nat):zAq c x<16777216:=Nat.or_lt_two_pow (n:=24) (Nat.or_lt_two_pow (n:=24) (h _) (h _)) (h _)
theorem zBE (w:World)(f:Nat)(c:Nat->Nat)(h:SpAt w f c)(hc:∀i,c i<16777216)(x:Nat)(hx:x<16777216):
  Calls prog 92 #[pointer (some ⟨f,0,none⟩),int i64 x] w fun e w'=>e=returned (int i64 ((zAq c x:Nat):Int))∧Grew w w':=by
 have m:∀y:Nat,y<16777216->bits .and i64 (y:Int) 255=((y%256:Nat):Int):=fun y hy=>by
  have:=qA y 255 (by omega) (by omega);rw[show (255:Nat)=2^8-1 from rfl,Nat.and_two_pow_sub_one_eq_mod] at this;exact this
 have m0:=m x hx;have m1:bits .and i64 ((x:Int)/256) 255=((x/256%256:Nat):Int):=by
  have:=m (x/256) (by omega);rw[<-this]
  congr 1
 have m2:bits .and i64 ((x:Int)/65536) 255=((x/65536%256:Nat):Int):=by
  have:=m (x/65536) (by omega);rw[<-this]
  congr 1
 have y0:=(h.cell (x%256) (by omega)).1;have y1:=(h.cell (256+x/256%256) (by omega)).1;have y2:=(h.cell (512+x/65536%256) (by omega)).1;have HV:Hid (zAq c x=c (x%256)|||c (256+x/256%256)|||c (512+x/65536%256)):=rfl;have l0:=hc (x%256);have l1:=hc (256+x/256%256);have l2:=hc (512+x/65536%256);have i0:((x%256:Nat):Int)<256:=by omega
 have i1:((x/256%256:Nat):Int)<256:=by omega
 have i2:((x/65536%256:Nat):Int)<256:=by omega
 clear m hc h;generalize x%256=p0 at *;generalize x/256%256=p1 at *;generalize x/65536%256=p2 at *;generalize c p0=c0 at *;generalize c (256+p1)=c1 at *;generalize c (512+p2)=c2 at *;have o1:=yM c0 c1 (by omega) (by omega);have o2:=yM (c0|||c1) c2 (Nat.lt_trans (Nat.or_lt_two_pow (n:=24) l0 l1) (by omega)) (by omega);rw[<-o1] at o2;have HO:=vl o2;clear o1 o2;go_in;go_wp2;go_quiet (fail);go_wp2;go_ret;refine⟨?_,Keep.alike (w':=w.drewN nq) ⟨rfl,rfl,rfl⟩⟩;rw[HV.out,<-HO.out];rfl
def yR (follow:List Nat)(n q:Nat):Nat:=qR (fun p=>(follow.getD p 0).testBit q) n
def zCg (follow:List Nat):List Nat:=(List.range follow.length).map (yR follow follow.length)
theorem zDk (follow:List Nat):(zCg follow).length=follow.length:=by simp[zCg]
theorem zKq (follow:List Nat)(q:Nat)(hq:q<follow.length):(zCg follow).getD q 0=yR follow follow.length q:=by
 unfold zCg;rw[lW,gV,List.getElem?_range hq];rfl
theorem zHu (follow:List Nat)(n q:Nat)(hn:n<=24):yR follow n q<16777216:=lZ (zBa _ n) (kG (by omega) hn:2^n<=2^24)
theorem zIR (follow:List Nat)(n q:Nat):yR follow (n+1) q=if(follow.getD n 0).testBit q then yR follow n q|||2^n else yR follow n q:=rfl
theorem zM4 (a j:Nat)(hj:j<62)(ha:a<9223372036854775808):bits .or i64 (a:Int) (IntKind.i64.wrap (2^j))=((a|||2^j:Nat):Int):=by
 have h1:2^j<2^62:=Nat.pow_lt_pow_right (by omega) hj;have e:((2:Int)^j)=((2^j:Nat):Int):=by simp
 rw[e];generalize 2^j=z at *;rw[zBP _ (by omega) (by omega)];exact yM _ _ ha (by omega)
theorem zKi (x q:Nat)(hx:x<9223372036854775808):(bits .and i64 ((x:Int)/2^q) 1==1)=x.testBit q:=by
 have hbit:bits .and i64 ((x:Int)/2^q) 1=((x/2^q%2:Nat):Int):=by
  rw[zBp];exact zD1 _ (Nat.lt_of_le_of_lt (Nat.div_le_self _ _) hx)
 have HT:x.testBit q=decide (x/2^q%2=1):=Nat.testBit_eq_decide_div_mod_eq;rw[hbit,HT];by_cases e:x/2^q%2=1
 ·rw[e];rfl
 ·rw[decide_eq_false e,hJ];omega
theorem zGA (w:World)(v:Value)(fo:List Nat)(hB:Ints w (In w) v (ints fo))(hn:fo.length<=24)(hs:∀x∈fo,x<16777216):
  Calls prog 170 #[v] w fun e w'=>∃u,e=returned u∧Ints w' (In w') u (ints (zCg fo))∧Grew w w':=by
 obtain⟨i0,hi0,hz0,hz1,hz2⟩:=info_parts yJ;obtain⟨ab,cb,rfl,_,_,hbc⟩:=hB;rw[zN] at hbc ⊢;have HBC:Hid (∀i,i<fo.length->∃b o,ab=some ⟨b,o,none⟩∧In w b∧w.cell? ⟨b,o+i,none⟩=some (int i64 ((fo.getD i 0:Nat):Int))∧fo.getD i 0<16777216):=by
  intro i hi;obtain⟨b,o,h1,h2,h3⟩:=hbc i hi;rw[vF] at h3;exact⟨b,o,h1,h2,h3,hs _ (zS _ _ 0 hi)⟩
 obtain⟨w1,hmk,ho1,hg1⟩:=run_makeSlice_full (P:=prog) w w.heap.size 45 3 i0 _ 1 underlying45 hi0 hz0 hz1 i64 i64 fo.length (by omega) (by rw[hz2];omega) (by unfold maxLen;omega) lQ;have HO1:Hid (Row w1 w.heap.size 3 (slice (some ⟨w.heap.size,0,none⟩) fo.length fo.length) fo.length (fun q=>int i64 ((yR fo 0 q:Nat):Int))∧Grew w w1):=by
  refine⟨?_,⟨hg1.os,hg1.output,hg1.size,fun k hk _=>hg1.block k hk (by simp)⟩⟩;have h:=ho1;rw[Nat.mul_one,zAc _ rfl] at h;exact h
 have HFin:Hid (∀wr,Row wr w.heap.size 3 (slice (some ⟨w.heap.size,0,none⟩) fo.length fo.length) fo.length (fun q=>int i64 ((yR fo fo.length q:Nat):Int))->Ints wr (In wr) (slice (some ⟨w.heap.size,0,none⟩) fo.length fo.length) (ints (zCg fo))):=fun wr h=>by
  refine zAA (H:=w.heap.size) (Row.ownI ?_);rw[zN,zDk];refine h.congr fun q hq=>?_;rw[vF,zKq _ _ hq]
 have HTL:Hid (∀j q,j<=24->yR fo j q<16777216):=fun j q h=>zHu fo j q h;clear hbc hs ho1 hg1;go_in;go_wp2;clear hmk;go_loopg [12] fo.length (fun k i wr=>∃j:Nat,k=fo.length-j∧j<=fo.length∧i=int i64 (j:Int)∧Row wr w.heap.size 3 (slice (some ⟨w.heap.size,0,none⟩) fo.length fo.length) fo.length (fun q=>int i64 ((yR fo j q:Nat):Int))∧Grew w wr)
 case atStart=>exact⟨0,rfl,lX,rfl,HO1.out.1,HO1.out.2⟩
 case round=>
  obtain⟨j,hgk,hj,rfl,hsp,hkp⟩:=hrel;have HA:Hid (gk=fo.length-j∧Row wr w.heap.size 3 (slice (some ⟨w.heap.size,0,none⟩) fo.length fo.length) fo.length (fun q=>int i64 ((yR fo j q:Nat):Int))∧Grew w wr):=⟨hgk,hsp,hkp⟩
  by_cases hj2:j<fo.length
  ·have i1:(j:Int)<(fo.length:Int):=by omega
   obtain⟨b,o,rfl,hb,hc,hlt⟩:=HBC.out j hj2;have y1:wr.cell? ⟨b,o+j,none⟩=some (int i64 ((fo.getD j 0:Nat):Int)):=zA hc hb hkp;have HSU:Hid (∀q,yR fo (j+1) q=if(fo.getD j 0).testBit q then yR fo j q|||2^j else yR fo j q):=fun q=>zIR fo j q;clear hgk hsp hkp hc;generalize fo.getD j 0=r at *;go_wp2;clear y1;go_loopg [19] fo.length (fun k i wr=>∃s:Nat,k=fo.length-s∧s<=fo.length∧i=int i64 (s:Int)∧Row wr w.heap.size 3 (slice (some ⟨w.heap.size,0,none⟩) fo.length fo.length) fo.length (fun q=>int i64 (((if q<s then yR fo (j+1) q else yR fo j q:Nat)):Int))∧Grew w wr)
   case atStart=>exact⟨0,rfl,lX,rfl,HA.out.2.1.congr fun i _=>by simp,HA.out.2.2⟩
   case round=>
    obtain⟨s,hgk2,hs,rfl,hsp,hkp⟩:=hrel;have HB:Hid (gk=fo.length-s∧Row wr w.heap.size 3 (slice (some ⟨w.heap.size,0,none⟩) fo.length fo.length) fo.length (fun q=>int i64 (((if q<s then yR fo (j+1) q else yR fo j q:Nat)):Int))∧Grew w wr):=⟨hgk2,hsp,hkp⟩
    by_cases hs2:s<fo.length
    ·have i3:(s:Int)<(fo.length:Int):=by omega
     obtain⟨g,cp,hv,g1,g2,g3,g4,g5,g6⟩:=hsp.get (by omega);have eg:g=w.heap.size:=by injection hv with e1 _ _;injection e1 with e1;injection e1 with e1;exact e1.symm
     subst eg;have y2:wr.cell? ⟨w.heap.size,s,none⟩=some (int i64 ((yR fo j s:Nat):Int)):=by
      rw[g5 s hs2,if_neg (by omega)]
     have z2:=g6 s;have hbit:=zKi r s (by omega);have htl:=HTL.out j s (by omega);have HGen:Hid (∀i,i<fo.length->(if i<s+1 then yR fo (j+1) i else yR fo j i)=if i=s then(if r.testBit s then yR fo j s|||2^j else yR fo j s) else if i<s then yR fo (j+1) i else yR fo j i):=fun i hi=>by
      by_cases e:i=s
      ·rw[if_pos e,if_pos (by omega),e,HSU.out s]
      ·rw[if_neg e]
       by_cases e2:i<s
       ·rw[if_pos e2,if_pos (by omega)]
       ·rw[if_neg e2,if_neg (by omega)]
     clear hgk2 hsp hkp hv g1 g2 g3 g4 g5 g6;cases htb:r.testBit s with
     |true=>
      rw[htb] at hbit HGen;have HOR:Hid (bits .or i64 ((yR fo j s:Nat):Int) (IntKind.i64.wrap (2^j))=((yR fo j s|||2^j:Nat):Int)):=zM4 _ j (by omega) (by omega);have HOR2:Hid (bits .or i64 ((yR fo j s:Nat):Int) (wrap64 (2^j))=((yR fo j s|||2^j:Nat):Int)):=zL1 _ j (by omega) (by omega);clear htb;generalize yR fo j s=c0 at *;go_wp2;go_region;go_wp2;go_roundg (fo.length-(s+1))
      case measure=>rw[HB.out.1];omega
      case rel=>
       refine⟨s+1,rfl,by omega,by go_num,?_,HB.out.2.2.trans (Keep.trans (zO _ _ _ _ lQ) (Keep.drew _))⟩;have h:=HB.out.2.1.set s (int i64 ((c0|||2^j:Nat):Int));rw[<-HOR2.out] at h;refine Row.congr (w:=(wr.setCell ⟨w.heap.size,s,none⟩ _).drew) h fun i hi=>?_;rw[HGen.out i hi];by_cases e:i=s
       ·rw[if_pos e,if_pos e];rw[HOR2.out];simp
       ·rw[if_neg e,if_neg e]
     |false=>
      rw[htb] at hbit HGen;clear htb;go_wp2;go_roundg (fo.length-(s+1))
      case measure=>rw[HB.out.1];omega
      case rel=>
       refine⟨s+1,rfl,by omega,by go_num,?_,HB.out.2.2⟩;refine HB.out.2.1.congr fun i hi=>?_;rw[HGen.out i hi];by_cases e:i=s
       ·rw[if_pos e,if_neg (by omega),e];simp
       ·rw[if_neg e]
    ·have i3:(fo.length:Int)<=(s:Int):=by omega
     have HD:=vl <| hsp.congr fun i hi=>by rw[if_pos (by omega)]
     clear hgk2 hsp hkp;go_wp2;go_roundg (fo.length-(j+1))
     case measure=>rw[HA.out.1];omega
     case rel=>exact⟨j+1,rfl,by omega,by go_num,HD.out,HB.out.2.2⟩
  ·have i1:(fo.length:Int)<=(j:Int):=by omega
   have e:j=fo.length:=by omega
   subst e;clear hgk hsp hkp;go_wp2;go_ret;exact⟨_,rfl,HFin.out _ HA.out.2.1,HA.out.2.2⟩
section
def zHj (l:List Nat)(x:Nat):List Nat:=if l.contains x then l else l++[x]
def zA4 (c:Nat->Nat)(ls:List Nat)(t:Nat)(l:List Nat):Nat->List Nat
 |0=>l
 |k+1=>zHj (zA4 c ls t l k) (zAq c (t&&&ls.getD k 0))
def jC (c:Nat->Nat)(ls:List Nat):Nat->Nat->List Nat->List Nat
 |0,_,l=>l
 |f+1,i,l=>if i<l.length then jC c ls f (i+1) (zA4 c ls (l.getD i 0) l ls.length) else l
def zNR (c:Nat->Nat)(ls:List Nat)(ends:Nat):List Nat:=jC c ls 16777216 0 [ends]
structure Once (B:Nat)(l:List Nat):Prop where
 nd:l.Nodup
 lt:∀x∈l,x<B
theorem zL5 (B:Nat)(l:List Nat)(h:Once B l):l.length<=B:=by
 induction B generalizing l with
 |zero=>
  cases l with
  |nil=>exact lQ
  |cons x l=>exact absurd (h.lt x (gY)) (by omega)
 |succ B ih=>
  have h2:Once B (l.erase B):=⟨h.nd.erase B,fun x hx=>by
   have h3:=(h.nd.mem_erase_iff.1 hx)
   have:=h.lt x h3.2;have:=h3.1;omega⟩
  have:=ih _ h2;have h4:=List.length_erase (a:=B) (l:=l);rw[h4] at this;split at this <;> omega
theorem zLD {B:Nat}{l:List Nat}{x:Nat}(h:Once B l)(hx:x<B):Once B (zHj l x):=by
 unfold zHj;split
 ·exact h
 ·rename_i hc
  refine⟨?_,fun y hy=>?_⟩
  ·rw[List.nodup_append]
   refine⟨h.nd,by simp,fun a ha b hb e=>?_⟩;rw[kY.1 hb] at e;subst e;exact hc (by simpa using ha)
  ·rcases kU.1 hy with h1|h1
   ·exact h.lt y h1
   ·rw[kY.1 h1];exact hx
theorem zMG (l:List Nat)(x:Nat):l.length<=(zHj l x).length∧∀i,i<l.length->(zHj l x).getD i 0=l.getD i 0:=by
 unfold zHj;split
 ·exact⟨lQ,fun _ _=>rfl⟩
 ·refine⟨by simp,fun i hi=>?_⟩
  rw[lW,kW hi,lW]
theorem zIe (c:Nat->Nat)(ls:List Nat)(t:Nat)(l:List Nat)(k:Nat):l.length<=(zA4 c ls t l k).length∧∀i,i<l.length->(zA4 c ls t l k).getD i 0=l.getD i 0:=by
 induction k with
 |zero=>exact⟨lQ,fun _ _=>rfl⟩
 |succ k ih=>
  have h:=zMG (zA4 c ls t l k) (zAq c (t&&&ls.getD k 0));exact⟨lY ih.1 h.1,fun i hi=>(h.2 i (by omega)).trans (ih.2 i hi)⟩
theorem zGk {B:Nat}{c:Nat->Nat}(hc:∀x,zAq c x<B)(ls:List Nat)(t:Nat){l:List Nat}(h:Once B l)(k:Nat):Once B (zA4 c ls t l k):=by
 induction k with
 |zero=>exact h
 |succ k ih=>exact zLD ih (hc _)
theorem zGD {B:Nat}{c:Nat->Nat}(hc:∀x,zAq c x<B)(ls:List Nat)(f:Nat):∀i l,Once B l->Once B (jC c ls f i l):=by
 induction f with
 |zero=>exact fun i l h=>h
 |succ f ih=>
  intro i l h;unfold jC;split
  ·exact ih _ _ (zGk hc ls _ h _)
  ·exact h
theorem zL2 (f:Nat->Nat)(k:Nat)(h:∀i,f i<2^k)(n:Nat):zM6 f n<2^k:=by
 induction n with
 |zero=>exact Nat.pow_pos (by omega)
 |succ n ih=>exact Nat.or_lt_two_pow ih (h n)
theorem zMV (by_:List Nat)(k:Nat)(hs:∀x∈by_,x<2^k)(n i:Nat):spF by_ n i<2^k:=by
 refine zL2 _ k (fun p=>?_) n;have h0:0<2^k:=Nat.pow_pos (by omega);unfold spG;split
 ·split
  ·by_cases h:p<by_.length
   ·exact hs _ (zS _ _ 0 h)
   ·rw[lW,List.getElem?_eq_none (by omega)];exact h0
  ·exact h0
 ·exact h0
theorem zHF (c:Nat->Nat)(k:Nat)(h:∀i,c i<2^k)(x:Nat):zAq c x<2^k:=Nat.or_lt_two_pow (Nat.or_lt_two_pow (h _) (h _)) (h _)
structure Tt (w0 w:World)(fb ps N:Nat)(c:Nat->Nat)(u:Value)(l:List Nat)(m:Nat->Bool):Prop where
 sp:SpAt w fb c
 se:SeIs w w0.heap.size ps N m
 own:w.ownsRow w0.heap.size 21 1 u l.length (l.map fun(x:Nat)=>int .i32 (x:Int))
 keep:Grew w0 w
section
variable {w0 w w2:World} {fb ps N:Nat} {c:Nat->Nat} {u:Value} {l:List Nat} {m:Nat->Bool}
theorem SeIs.grown {H:Nat}(h:SeIs w H ps N m)(hk:Grew w w2):SeIs w2 H ps N m:=by
 obtain⟨g,cap,h⟩:=h;have hl:=(kQ.1 h.blk).1;exact⟨g,cap,(hk.block ps hl (kJ hl)).trans h.blk,zK h.row hk⟩
theorem Tt.grown (h:Tt w0 w fb ps N c u l m)(hk:Grew w w2):Tt w0 w2 fb ps N c u l m:=
 ⟨h.sp.keep (hk.block fb h.sp.lt (kJ h.sp.lt)),h.se.grown hk,zK h.own hk,h.keep.trans (hk.lower h.keep.size h.keep.size)⟩
theorem Tt.add {m':Nat->Bool}(h:Tt w0 w fb ps N c u l m)(hs:StayU w0.heap.size w w2)(he:SeIs w2 w0.heap.size ps N m'):Tt w0 w2 fb ps N c u l m':=by
 refine⟨?_,he,zD h.own fun g _ _ hg=>?_,h.keep.trans ⟨hs.os,hs.output,Nat.le_of_eq hs.size.symm,fun k hk _=>hs.low k hk⟩⟩
 ·obtain⟨cs,hb,hc⟩:=h.sp
  exact⟨cs,hs.other fb cs _ hb (by decide),hc⟩
 ·rcases h.own.2 with⟨hv,_⟩|⟨g1,cap,cur,hv,_,hh,_⟩
  ·rw[hv] at hg;cases hg
  ·rw[hv] at hg
   have e:g1=g:=by simpa[Value.ownBlock] using hg
   subst e;rw[hh];exact hs.other g1 cur _ hh (by decide)
theorem Tt.app {o:Obj}{g cap x:Nat}(h:Tt w0 w fb ps N c u l m)(hown:w2.ownsRow w0.heap.size 21 1 (slice (some ⟨g,0,none⟩) (l.length+1) cap) (l.length+1) ((l.map fun(x:Nat)=>int .i32 (x:Int))++[int .i32 (x:Int)]))(hg:(w.alloc o).grownBy w2 u.ownBlock):
  Tt w0 w2 fb ps N c (slice (some ⟨g,0,none⟩) (l.length+1) cap) (l++[x]) m:=by
 have hbl:∀j,j<w.heap.size->some j≠u.ownBlock->w2.heap[j]? =w.heap[j]? :=fun j hj hf=>(hg.block j (by simp;omega) hf).trans (lG _ _ _ (by omega));refine⟨?_,?_,?_,h.keep.trans ⟨hg.os,hg.output,lY (by simp) hg.size,fun k hk _=>hbl k (lZ hk h.keep.size) fun e=>by have:=(h.own.lt k e.symm).1;omega⟩⟩
 ·obtain⟨cs,hb,hc⟩:=h.sp
  exact⟨cs,(hbl fb h.sp.lt (zM h.own hb (by decide))).trans hb,hc⟩
 ·obtain⟨gs,cp,hse⟩:=h.se
  have hl:=(kQ.1 hse.blk).1;exact⟨gs,cp,(hbl ps hl (zM h.own hse.blk (by decide))).trans hse.blk,zR hg hse.row fun k hk=>xM hse.row h.own (by decide) hk⟩
 ·have e:(l++[x]).length=l.length+1:=by simp
  rw[e,List.map_append];exact hown
end
end
structure Nt where
 sets:List Cs
 follow:List Nat
 first:Nat
 ends:Nat
 rules:List Nat
 empty:List Bool
structure Nt.Ok (n:Nt):Prop where
 len:n.sets.length<=24
 fl:n.follow.length=n.sets.length
 fs:∀x∈n.follow,x<2^n.sets.length
 first:n.first<2^n.sets.length
 ends:n.ends<2^n.sets.length
 eight:n.rules.length<=8
 rs:∀x∈n.rules,x<2^n.sets.length
theorem Nt.Ok.top {n:Nt}(h:n.Ok):2^n.sets.length<=16777216:=(kG (by omega) h.len:2^n.sets.length<=2^24)
structure NetAt (w:World)(q:Nat)(n:Nt)(sv fv rv ev:Value):Prop where
 lq:q<w.heap.size
 c0:w.cell? ⟨q,0,none⟩=some sv
 c1:w.cell? ⟨q,1,none⟩=some fv
 c2:w.cell? ⟨q,2,none⟩=some (int i64 (n.first:Int))
 c3:w.cell? ⟨q,3,none⟩=some (int i64 (n.ends:Int))
 c4:w.cell? ⟨q,4,none⟩=some rv
 c5:w.cell? ⟨q,5,none⟩=some ev
 sets:SetsAt w sv n.sets
 follow:Ints w (In w) fv (ints n.follow)
 rules:Ints w (In w) rv (ints n.rules)
 empty:Bools w (In w) ev n.empty
theorem NetAt.grown {w w2:World}{q:Nat}{n:Nt}{sv fv rv ev:Value}(h:NetAt w q n sv fv rv ev)(hk:Grew w w2):NetAt w2 q n sv fv rv ev:=
 ⟨lZ h.lq hk.size,zA h.c0 h.lq hk,zA h.c1 h.lq hk,zA h.c2 h.lq hk,zA h.c3 h.lq hk,zA h.c4 h.lq hk,zA h.c5 h.lq hk,h.sets.grown hk,h.follow.grown hk,h.rules.grown hk,h.empty.grown hk⟩
def Nt.back (n:Nt):Nat->Nat:=spF (zCg n.follow) n.follow.length
def Nt.tails (n:Nt)(ls:List Nat):List Nat:=zNR n.back ls n.ends
theorem Nt.back_lt {n:Nt}(h:n.Ok)(i:Nat):n.back i<2^n.sets.length:=by
 refine zMV _ _ (fun x hx=>?_) _ _;obtain⟨q,hq,rfl⟩:=List.mem_map.1 hx;have:=zBa (fun p=>(n.follow.getD p 0).testBit q) n.follow.length;rw[h.fl] at this;show yR n.follow n.follow.length q<_;rw[h.fl];exact this
theorem Nt.tails_once {n:Nt}(h:n.Ok)(ls:List Nat):Once (2^n.sets.length) (n.tails ls):=
 zGD (zHF _ _ (Nt.back_lt h)) ls _ _ _ ⟨by simp,fun x hx=>by rw[kY.1 hx];exact h.ends⟩
theorem Once.top {n:Nt}(h:n.Ok){l:List Nat}(hl:Once (2^n.sets.length) l):l.length<=16777216∧∀x∈l,x<16777216:=
 ⟨lY (zL5 _ _ hl) h.top,fun x hx=>lZ (hl.lt x hx) h.top⟩
theorem zH0 {w:World}{H:Nat}{v:Value}{l:List Nat}(h:w.ownsRow H 21 1 v l.length (l.map fun(x:Nat)=>int .i32 (x:Int))):I32s w (In w) v l:=by
 rcases h.2 with⟨hv,h0⟩|⟨g,cap,cur,hv,hg,hh,h1,h2,h3,h4⟩
 ·exact⟨none,0,by rw[hv,h0],by omega,by unfold maxLen;omega,fun i hi=>by omega⟩
 ·refine⟨some ⟨g,0,none⟩,cap,hv,h1,h2,fun i hi=>⟨g,0,rfl,(h.lt g (by rw[hv];rfl)).2,?_⟩⟩
  have hc:=h.cells (g:=g) (by rw[hv];rfl) i (int .i32 ((l.getD i 0:Nat):Int)) (by
   rw[gV,lV hi,lW,lV hi];rfl)
  rw[Addr.add_lit] at hc;exact hc
theorem zNh:(prog.info? 21).map (fun i=>(i.zero,i.size,i.bytes))=some (some (int .i32 0),1,4):=by kernel_rfl
theorem zL3 (w:World)(H x:Nat)(hH:H<=w.heap.size):(w.alloc (.cells #[int .i32 (x:Int)] 21)).ownsRow H 21 1 (slice (some ⟨w.heap.size,0,none⟩) 1 1) ([x]:List Nat).length (([x]:List Nat).map fun(x:Nat)=>int .i32 (x:Int)):=
 ⟨rfl,.inr ⟨w.heap.size,1,_,rfl,hH,gU w _,lQ,by unfold maxLen;omega,rfl,rfl⟩⟩
theorem zFD (w:World)(q:Nat)(n:Nt)(sv fv rv ev:Value)(hN:NetAt w q n sv fv rv ev)(ok:n.Ok)(lv:Value)(ls:List Nat)(hL:Ints w (In w) lv (ints ls))(hll:ls.length<=1000000000000)(hls:∀x∈ls,x<16777216):
  Calls prog 129 #[pointer (some ⟨q,0,none⟩),lv] w fun e w'=>∃u,e=returned u∧I32s w' (In w') u (n.tails ls)∧Grew w w':=by
 obtain⟨i0,hi0,hz0,hz1,hz2⟩:=info_parts zNh;obtain⟨asv,csv,rfl,-⟩:=id hN.sets;obtain⟨al,cl,rfl,-⟩:=id hL;have hlen:=ok.len;have htop:=ok.top;have hends:=ok.ends;have x0:=hN.c0;have x1:=hN.c1;have x3:=hN.c3;have HN:=vl hN;have HOK:Hid n.Ok:=ok;have HT:Hid (∀w2,w2=w->Ca 170 #[fv] w2 fun e w'=>∃u,e=returned u∧Ints w' (In w') u (ints (zCg n.follow))∧Grew w w'):=by
  rintro w2 rfl;exact zGA w2 fv n.follow HN.out.follow (by rw[ok.fl];exact hlen) fun x hx=>lZ (ok.fs x hx) htop
 have HSp:Hid (∀w1 u,Ints w1 (In w1) u (ints (zCg n.follow))->Grew w w1->Ca 128 #[u] w1 fun e w'=>e=returned (pointer (some ⟨w1.heap.size,0,none⟩))∧SpAt w' w1.heap.size n.back∧Grew w w'):=fun w1 u hu hk=>by
  refine(zBw w1 u (zCg n.follow) hu (by rw[zDk,ok.fl];exact hlen) fun x hx=>?_).mono ?_
  ·obtain⟨q,hq,rfl⟩:=List.mem_map.1 hx
   exact zHu _ _ _ (by rw[ok.fl];exact hlen)
  ·rintro e w2 ⟨rfl,h1,h2⟩
   rw[zDk] at h1;exact⟨rfl,h1,hk.trans (h2.lower hk.size hk.size)⟩
 have HSe:Hid (∀w2 f,SpAt w2 f n.back->Grew w w2->Ca 171 #[int i64 (n.sets.length:Int)] w2 fun e w'=>∃p,e=returned (pointer (some ⟨p,0,none⟩))∧SeIs w' w.heap.size p (vM n.sets.length) (fun _=>false)∧SpAt w' f n.back∧Grew w w'):=fun w2 f hf hk=>by
  refine(zFL w2 n.sets.length hlen).mono ?_;rintro e w3 ⟨p,rfl,hp,⟨g,cap,hs⟩,hk3⟩;exact⟨p,rfl,⟨g,cap,hs.blk,hs.row.mono hk.size⟩,hf.keep (hk3.block f hf.lt (kJ hf.lt)),hk.trans (hk3.lower hk.size hk.size)⟩
 have hsn:∀x:Nat,x<2^n.sets.length->x<64*vM n.sets.length:=fun x hx=>by unfold vM;omega
 have hsn2:vM n.sets.length<=1000000:=by unfold vM;omega
 have HAd:Hid (∀w3 p f m u l,Tt w w3 f p (vM n.sets.length) n.back u l m->∀x:Nat,x<2^n.sets.length->Ca 172 #[pointer (some ⟨p,0,none⟩),int i64 (x:Int)] w3 fun e w'=>e=returned (bool (!m x))∧Tt w w' f p (vM n.sets.length) n.back u l (fun y=>y==x||m y)):=fun w3 p f m u l ht x hx=>by
  refine(zFF w3 w.heap.size p (vM n.sets.length) m ht.se hsn2 x (hsn x hx)).mono ?_;rintro e w4 ⟨rfl,h1,h2⟩;exact⟨rfl,ht.add h2 h1⟩
 have HOf:Hid (∀w3 p f m u l,Tt w w3 f p (vM n.sets.length) n.back u l m->∀x:Nat,x<16777216->Ca 92 #[pointer (some ⟨f,0,none⟩),int i64 (x:Int)] w3 fun e w'=>e=returned (int i64 ((zAq n.back x:Nat):Int))∧Tt w w' f p (vM n.sets.length) n.back u l m):=fun w3 p f m u l ht x hx=>by
  refine(zBE w3 f n.back ht.sp (fun i=>lZ (Nt.back_lt HOK.out i) htop) x hx).mono ?_;rintro e w4 ⟨rfl,h1⟩;exact⟨rfl,ht.grown h1⟩
 have HLC:Hid (∀i,i<ls.length->∃b o,al=some ⟨b,o,none⟩∧In w b∧w.cell? ⟨b,o+i,none⟩=some (int i64 ((ls.getD i 0:Nat):Int))∧ls.getD i 0<16777216):=by
  obtain⟨al',cl',hv,_,_,h3⟩:=hL;injection hv with e1 _ _;subst e1;intro i hi;obtain⟨b,o,h1,h0,h2⟩:=h3 i (by rw[zN];exact hi);rw[vF] at h2;exact⟨b,o,h1,h0,h2,hls _ (zS _ i 0 hi)⟩
 have HON:Hid (∀l,Once (2^n.sets.length) l->l.length<=16777216∧∀x∈l,x<16777216):=fun l hl=>Once.top HOK.out hl;have HBL:=vl <| zHF _ _ (Nt.back_lt HOK.out);have HE1:Hid (Once (2^n.sets.length) [n.ends]):=⟨by simp,fun x hx=>by rw[kY.1 hx];exact hends⟩
 have HTT:Hid (n.tails ls=jC n.back ls 16777216 0 [n.ends]):=rfl;rw[zN];have hew:n.ends<16777216:=by omega
 clear hN ok hL hls;go_in;go_wp2_with (first|(go_at_call 170;refine(HT.out _ rfl).mono ?_;rintro e w1 ⟨u,rfl,hu,hk1⟩;have HU:=vl hu;clear hu)|(go_at_call 128;refine(HSp.out w1 u HU.out hk1).mono ?_;rintro e w2 ⟨rfl,hs2,hk2⟩;have y0:=(HN.out.grown hk2).c0;clear hk1)|(go_at_call 171;refine(HSe.out w2 w1.heap.size hs2 hk2).mono ?_;rintro e w3 ⟨p,rfl,he3,hs3,hk3⟩;have y3:=(HN.out.grown hk3).c3;have T3:Tt w w3 w1.heap.size p (vM n.sets.length) n.back (slice none 0 0) [] (fun _=>false):=⟨hs3,he3,ownsRow_nil _ _ _ _,hk3⟩;clear y0 hk2 hs2)|(go_at_call 172;refine(HAd.out w3 p w1.heap.size _ _ _ T3 n.ends hends).mono ?_;rintro e w4 ⟨rfl,T4⟩;have y4:=(HN.out.grown T4.keep).c3;clear y3))
 have T5:Hid (Tt w (w4.alloc (Obj.cells #[Value.int IntKind.i32 (n.ends:Int)] 21)) w1.heap.size p (vM n.sets.length) n.back (slice (some ⟨w4.heap.size,0,none⟩) 1 1) [n.ends] (fun y=>[n.ends].contains y)):=by
  have h:=T4.grown (kZ w4 (Obj.cells #[Value.int IntKind.i32 (n.ends:Int)] 21) lQ);refine⟨h.sp,?_,zL3 w4 w.heap.size n.ends T4.keep.size,h.keep⟩;have e:(fun y=>[n.ends].contains y)=fun y=>y==n.ends||false:=by funext y;by_cases e:y=n.ends <;> simp[e]
  rw[e];exact h.se
 clear T4 T3 hs3 he3 hk3 y4;generalize w1.heap.size=f at *;generalize vM n.sets.length=N at *;go_loopg [7,8] 16777216 (fun k u i wr=>∃(j:Nat) (l:List Nat),k=16777216-j∧j<=l.length∧i=int i64 (j:Int)∧Tt w wr f p N n.back u l (fun y=>l.contains y)∧Once (2^n.sets.length) l∧jC n.back ls 16777216 0 [n.ends]=jC n.back ls (16777216-j) j l)
 case atStart=>exact⟨0,[n.ends],rfl,lX,rfl,T5.out,HE1.out,rfl⟩
 case round=>
  obtain⟨j,l,hgk,hj,rfl,ht,hon,hgo⟩:=hrel;have HA:Hid (gk=16777216-j∧Tt w wr f p N n.back u7 l (fun y=>l.contains y)∧Once (2^n.sets.length) l∧jC n.back ls 16777216 0 [n.ends]=jC n.back ls (16777216-j) j l):=⟨hgk,ht,hon,hgo⟩
  obtain⟨ao,cap,hu7⟩:=zG ht.own;have hl24:=(HON.out l hon).1;by_cases hj2:j<l.length
  ·have i1:(j:Int)<(l.length:Int):=by omega
   have HG2:Hid (jC n.back ls 16777216 0 [n.ends]=jC n.back ls (16777216-(j+1)) (j+1) (zA4 n.back ls (l.getD j 0) l ls.length)):=by
    show _=_;rw[hgo,show 16777216-j=(16777216-(j+1))+1 by omega];show(if j<l.length then _ else _)=_;rw[if_pos hj2]
   have HP:Hid (∀k,l.length<=(zA4 n.back ls (l.getD j 0) l k).length∧(zA4 n.back ls (l.getD j 0) l k).getD j 0=l.getD j 0∧Once (2^n.sets.length) (zA4 n.back ls (l.getD j 0) l k)):=fun k=>⟨(zIe _ _ _ _ k).1,(zIe _ _ _ _ k).2 j hj2,zGk HBL.out ls _ hon k⟩
   have hxl:=(HON.out l hon).2 _ (zS l j 0 hj2);subst hu7;clear hgk ht hon hgo T5;generalize hxx:l.getD j 0=x at *;clear hxx;go_wp2;go_loopg [7,44] ls.length (fun k u i wr=>∃t:Nat,k=ls.length-t∧t<=ls.length∧i=int i64 (t:Int)∧Tt w wr f p N n.back u (zA4 n.back ls x l t) (fun y=>(zA4 n.back ls x l t).contains y))
   case atStart=>exact⟨0,rfl,lX,rfl,HA.out.2.1⟩
   case round=>
    obtain⟨t,hgk,ht,rfl,hT⟩:=hrel;have HB:Hid (gk=ls.length-t∧Tt w wr f p N n.back u7 (zA4 n.back ls x l t) (fun y=>(zA4 n.back ls x l t).contains y)):=⟨hgk,hT⟩
    by_cases ht2:t<ls.length
    ·have i2:(t:Int)<(ls.length:Int):=by omega
     obtain⟨b1,o1,rfl,hb1,hc1,hlt1⟩:=HLC.out t ht2;have y1:wr.cell? ⟨b1,o1+t,none⟩=some (int i64 ((ls.getD t 0:Nat):Int)):=zA hc1 hb1 hT.keep;obtain⟨hp1,hp2,hp3⟩:=HP.out t;obtain⟨ao2,cap2,hu2,hcap2,hml2,hcs⟩:=zH0 hT.own;obtain⟨b2,o2,rfl,hb2,hc2⟩:=hcs j (by omega);rw[hp2] at hc2;have i3:(j:Int)<((zA4 n.back ls x l t).length:Int):=by omega
     have HNx:Hid (zA4 n.back ls x l (t+1)=zHj (zA4 n.back ls x l t) (zAq n.back (x&&&ls.getD t 0))):=rfl;have hl3:=(HON.out _ hp3).1;clear hgk hT hc1 hcs HP hp2 hp3;generalize zA4 n.back ls x l t=L at *;generalize ls.getD t 0=r at *;have hand:bits .and i64 (x:Int) (r:Int)=((x&&&r:Nat):Int):=qA _ _ (by omega) (by omega);have hal:x&&&r<16777216:=Nat.lt_of_le_of_lt Nat.and_le_left hxl;generalize x&&&r=y at *;have hyl:=HBL.out y;have HOf2:=vl <| HOf.out wr p f _ _ _ HB.out.2 y hal;generalize zAq n.back y=z at *;have hz24:z<16777216:=by omega
     subst hu2;cases hcz:L.contains z with
     |true=>
      have HAd2:Hid (∀w5,Tt w w5 f p N n.back (slice (some ⟨b2,o2,none⟩) L.length cap2) L (fun y=>L.contains y)->Ca 172 #[pointer (some ⟨p,0,none⟩),int i64 (z:Int)] w5 fun e w'=>e=returned (bool false)∧Tt w w' f p N n.back (slice (some ⟨b2,o2,none⟩) L.length cap2) L (fun y=>y==z||L.contains y)):=fun w5 h5=>by
       have:=HAd.out w5 p f _ _ _ h5 z hyl;rw[hcz] at this;exact this
      have HX:Hid (zA4 n.back ls x l (t+1)=L∧(fun y=>y==z||L.contains y)=fun y=>L.contains y):=⟨by rw[HNx.out];unfold zHj;rw[if_pos hcz],by
       funext y
       by_cases e:y=z
       ·rw[e,hcz];simp
       ·rw[show (y==z)=false by simp[e]];rfl⟩
      clear hcz;go_wp2_with (first|(go_at_call 92;refine HOf2.out.mono ?_;rintro e w5 ⟨rfl,T6⟩)|(go_at_call 172;refine(HAd2.out w5 T6).mono ?_;rintro e w6 ⟨rfl,T7⟩))
      go_roundg (ls.length-(t+1))
      case measure=>rw[HB.out.1];omega
      case rel=>
       rw[HX.out.2] at T7;exact⟨t+1,rfl,by omega,by go_num,by rw[HX.out.1];exact T7⟩
     |false=>
      have HAd2:Hid (∀w5,Tt w w5 f p N n.back (slice (some ⟨b2,o2,none⟩) L.length cap2) L (fun y=>L.contains y)->Ca 172 #[pointer (some ⟨p,0,none⟩),int i64 (z:Int)] w5 fun e w'=>e=returned (bool true)∧Tt w w' f p N n.back (slice (some ⟨b2,o2,none⟩) L.length cap2) L (fun y=>y==z||L.contains y)):=fun w5 h5=>by
       have:=HAd.out w5 p f _ _ _ h5 z hyl;rw[hcz] at this;exact this
      have HX:Hid (zA4 n.back ls x l (t+1)=L++[z]∧(fun y=>y==z||L.contains y)=fun y=>(L++[z]).contains y):=⟨by rw[HNx.out];unfold zHj;rw[if_neg (by rw[hcz];decide)],by
       funext y
       rw[List.contains_append];by_cases e:y=z
       ·simp[e]
       ·simp[e]⟩
      clear hcz;go_wp2_with (first|(go_at_call 92;refine HOf2.out.mono ?_;rintro e w5 ⟨rfl,T6⟩)|(go_at_call 172;refine(HAd2.out w5 T6).mono ?_;rintro e w6 ⟨rfl,T7⟩;have OR:=T7.own;have hsz6:=T7.keep.size)|(at_builtin;refine wpList_append_lies _ rfl _ _ 174 rfl (w.heap.size) 21 i0 (int .i32 0) 1 4 underlying174 hi0 hz0 hz1 hz2 rfl (by decide) _ _ _ rfl (OR.alloc _) ⟨w6.heap.size,0,none⟩ 1 1 [int .i32 (z:Int)] rfl rfl (cell_one_new _ _ _) (by intro u hu;simp at hu;subst hu;rfl) (by decide) (by unfold maxLen;omega) (by omega) (by simp;omega) _ rfl ?_;intro gg cap3 w7 hown hgrow hat hlt3;have T8:=T7.app hown hgrow))
      go_roundg (ls.length-(t+1))
      case measure=>rw[HB.out.1];omega
      case rel=>
       rw[HX.out.2] at T8;exact⟨t+1,rfl,by omega,by go_num,by rw[HX.out.1];exact T8⟩
    ·have i2:(ls.length:Int)<=(t:Int):=by omega
     have e:t=ls.length:=by omega
     subst e;have HZ:=HP.out ls.length;clear hgk hT;go_wp2;go_roundg (16777216-(j+1))
     case measure=>rw[HA.out.1];omega
     case rel=>exact⟨j+1,_,rfl,by omega,by go_num,HB.out.2,HZ.2.2,HG2.out⟩
  ·have i1:(l.length:Int)<=(j:Int):=by omega
   have HZ:Hid (n.tails ls=l):=by
    show _=_;rw[HTT.out,hgo];cases 16777216-j with
    |zero=>rfl
    |succ k=>
     show(if j<l.length then _ else _)=_;rw[if_neg hj2]
   subst hu7;clear hgk ht hon hgo T5;go_wp2;go_ret;exact⟨_,rfl,by rw[HZ.out];exact zH0 HA.out.2.1.own,HA.out.2.1.keep⟩
section
structure Ar.Good (a:Ar)(k:Nat):Prop where
 sets:∀x∈a.sets,0<=x∧x<((2^k:Nat):Int)
 letters:∀x∈a.letters,0<=x∧x<(a.sets.length:Int)
 lens:a.lows.length=a.letters.length
theorem Ar.look_lt (a:Ar)(x:Int):a.look x<(a.seen x).sets.length:=by
 unfold Ar.seen;split
 ·assumption
 ·have:a.look x<=a.sets.length:=List.findIdx_le_length
  simp;omega
theorem Ar.seen_good {a:Ar}{k:Nat}(h:a.Good k)(x:Int)(hx:0<=x∧x<((2^k:Nat):Int)):(a.seen x).Good k:=by
 unfold Ar.seen;split
 ·exact h
 ·refine⟨fun y hy=>?_,fun y hy=>?_,h.lens⟩
  ·rcases kU.1 hy with h1|h1
   ·exact h.sets y h1
   ·rw[kY.1 h1];exact hx
  ·have:=h.letters y hy
   simp;omega
theorem Ar.step_good (sets:List Cs){a:Ar}(h:a.Good sets.length)(low:Int):(a.step sets low).Good sets.length∧0<(a.step sets low).lows.length:=by
 have hb:=zBa (zAE sets low) sets.length;have hs:(0:Int)<=(qP sets low:Nat)∧((qP sets low:Nat):Int)<((2^sets.length:Nat):Int):=by
  unfold qP;omega
 have h2:=Ar.seen_good h _ hs;have h3:=a.look_lt (qP sets low:Nat);unfold Ar.step;split
 ·refine⟨⟨h2.sets,fun y hy=>?_,?_⟩,by simp⟩
  ·rcases kU.1 hy with h1|h1
   ·exact h2.letters y h1
   ·rw[kY.1 h1]
    exact⟨by omega,by show _<(((a.seen _).sets.length:Nat):Int);omega⟩
  ·have:=h2.lens
   simp;omega
 ·rename_i hn
  refine⟨h2,?_⟩;have h4:=h2.lens;apply Nat.pos_of_ne_zero;intro e;apply hn;unfold Ar.turns;rw[show (a.seen (qP sets low)).letters.length=0 by omega];rfl
theorem zHY (sets:List Cs)(j:Nat)(hj:j<=(xH sets).length):(qY sets j).Good sets.length∧(0<j->0<(qY sets j).lows.length):=by
 induction j with
 |zero=>exact⟨⟨fun x hx=>absurd hx (List.not_mem_nil),fun x hx=>absurd hx (List.not_mem_nil),rfl⟩,fun h=>absurd h (Nat.lt_irrefl _)⟩
 |succ j ih=>
  have h:=Ar.step_good sets (ih (by omega)).1 ((xH sets).getD j 0);rw[zBI sets j (by omega)];exact⟨h.1,fun _=>h.2⟩
theorem zLu (sets:List Cs):(xH sets).length=4+2*yC sets:=zFt sets _
theorem zBj (sets:List Cs):(xY sets).Good sets.length∧0<(xY sets).lows.length∧(xY sets).lows.length<=4+2*yC sets∧(xY sets).sets.length<=4+2*yC sets:=by
 have h:=zHY sets (xH sets).length lQ;have h2:=zCY sets (xH sets).length lQ;rw[zEZ sets _ lQ] at h h2;have:=zLu sets;exact⟨h.1,h.2 (by omega),by omega,by omega⟩
def Ar.setsN (a:Ar):List Nat:=a.sets.map Int.toNat
theorem Ar.setsN_ints {a:Ar}{k:Nat}(h:a.Good k):a.sets=ints a.setsN:=by
 unfold ints Ar.setsN;rw[List.map_map]
 conv=>lhs;rw[<-List.map_id a.sets]
 apply List.map_congr_left;intro x hx;have:=h.sets x hx;show x=((x.toNat:Nat):Int);omega
theorem Ar.setsN_lt {a:Ar}{k:Nat}(h:a.Good k):∀x∈a.setsN,x<2^k:=by
 intro x hx;obtain⟨y,hy,rfl⟩:=List.mem_map.1 hx;have:=h.sets y hy;omega
theorem Ar.setsN_len (a:Ar):a.setsN.length=a.sets.length:=kV ..
def Nt.areas (n:Nt):Ar:=xY n.sets
def Nt.letters (n:Nt):List Nat:=n.areas.setsN
def Nt.ahead (n:Nt):Nat->Nat:=spF n.follow n.follow.length
structure Nm (w w':World)(q b:Nat)(n:Nt)(sv fv rv ev lv tv av:Value):Prop where
 net:NetAt w' q n sv fv rv ev
 blk:w'.heap[b]? =some (.cells #[lv,tv,av] 172)
 ar:ArAt w' lv tv av n.areas
 keep:Grew w w'
section
variable {w w1 w2:World} {q b:Nat} {n:Nt} {sv fv rv ev lv tv av:Value}
theorem Nm.grown (h:Nm w w1 q b n sv fv rv ev lv tv av)(hk:Grew w1 w2):Nm w w2 q b n sv fv rv ev lv tv av:=by
 have hl:=(kQ.1 h.blk).1;exact⟨h.net.grown hk,(hk.block b hl (kJ hl)).trans h.blk,h.ar.grown hk,h.keep.trans (hk.lower h.keep.size h.keep.size)⟩
theorem Nm.drew (h:Nm w w1 q b n sv fv rv ev lv tv av):Nm w w1.drew q b n sv fv rv ev lv tv av:=h.grown (Keep.drew _)
theorem Nm.cells (h:Nm w w1 q b n sv fv rv ev lv tv av):w1.cell? ⟨b,0,none⟩=some lv∧w1.cell? ⟨b,1,none⟩=some tv∧w1.cell? ⟨b,2,none⟩=some av:=by
 refine⟨?_,?_,?_⟩
 all_goals (unfold cell?;rw[h.blk];rfl)
end
end
structure Nt.Fits (n:Nt):Prop where
 few:yC n.sets<=10000000000
 small:∀s∈n.sets,s.Small
theorem zEb (w:World)(q:Nat)(n:Nt)(sv fv rv ev:Value)(hN:NetAt w q n sv fv rv ev)(ok:n.Ok)(fit:n.Fits):
  Calls prog 90 #[pointer (some ⟨q,0,none⟩)] w fun e w'=>∃p s,e=returned (pointer (some ⟨p,0,none⟩))∧(s.rules=n.rules∧s.tails=n.tails n.letters∧s.sets=n.letters∧s.q=q)∧SoAt w' (fun g=>g<w'.heap.size∧g≠p) p s ⟨[],[]⟩ (slice none 0 0) (slice none 0 0)∧ArAt w' s.lv s.tv s.sv n.areas∧SpAt w' s.f n.ahead∧s.f≠p∧w.heap.size<=p∧Grew w w':=by
 have hlen:=ok.len;have htop:=ok.top;have x0:=hN.c0;have HN:=vl hN;have HOK:Hid n.Ok:=ok;have hfew:=fit.few;have HP:Hid (Ca 127 #[sv] w fun e w'=>∃lv tv sv,e=returned (agg #[lv,tv,sv])∧ArAt w' lv tv sv (xY n.sets)∧Grew w w'):=zJa w sv n.sets hN.sets hlen (by omega) fit.small;have HG:Hid (n.areas.Good n.sets.length):=(zBj n.sets).1;have hal:n.areas.sets.length<=1000000000000:=by have:=(zBj n.sets).2.2.2;show(xY n.sets).sets.length<=_;omega
 have HSp:Hid (∀b lv tv av w1,Nm w w1 q b n sv fv rv ev lv tv av->Ca 128 #[fv] w1 fun e w'=>∃f,e=returned (pointer (some ⟨f,0,none⟩))∧SpAt w' f n.ahead∧f≠b∧Nm w w' q b n sv fv rv ev lv tv av∧Grew w1 w'):=fun b lv tv av w1 hm=>by
  refine(zBw w1 fv n.follow hm.net.follow (by rw[HOK.out.fl];exact hlen) fun x hx=>lZ (HOK.out.fs x hx) htop).mono ?_;rintro e w2 ⟨rfl,h1,h2⟩;have hl:=(kQ.1 hm.blk).1;exact⟨_,rfl,h1,by omega,hm.grown h2,h2⟩
 have HTl:Hid (∀b lv tv av w1,Nm w w1 q b n sv fv rv ev lv tv av->Ca 129 #[pointer (some ⟨q,0,none⟩),av] w1 fun e w'=>∃u,e=returned u∧I32s w' (In w') u (n.tails n.letters)∧Nm w w' q b n sv fv rv ev lv tv av∧Grew w1 w'):=fun b lv tv av w1 hm=>by
  have hs:=hm.ar.sets;rw[Ar.setsN_ints HG.out] at hs;refine(zFD w1 q n sv fv rv ev hm.net HOK.out av n.letters hs (by show n.areas.setsN.length<=_;rw[Ar.setsN_len];exact hal) fun x hx=>lZ (Ar.setsN_lt HG.out x hx) htop).mono ?_;rintro e w2 ⟨u,rfl,h1,h2⟩;exact⟨u,rfl,h1,hm.grown h2,h2⟩
 clear hN ok fit;go_in;go_wp2_with (first|(go_at_call 127;refine HP.out.mono ?_;rintro e w1 ⟨lv,tv,av,rfl,ha1,hk1⟩;obtain⟨al,cl,rfl,-⟩:=id ha1.lows;obtain⟨at_,ct,rfl,-⟩:=id ha1.letters;obtain⟨as_,cs,rfl,-⟩:=id ha1.sets;have HA1:Hid (ArAt w1 (slice al (xY n.sets).lows.length cl) (slice at_ (xY n.sets).letters.length ct) (slice as_ (xY n.sets).sets.length cs) (xY n.sets)∧Grew w w1):=⟨ha1,hk1⟩;clear ha1))
 obtain⟨w2,hw2,HM⟩:∃w2,w2=w1.alloc (Obj.cells #[Value.slice al (xY n.sets).lows.length cl,Value.slice at_ (xY n.sets).letters.length ct,Value.slice as_ (xY n.sets).sets.length cs] 172)∧Hid (Nm w w2 q w1.heap.size n sv fv rv ev (slice al (xY n.sets).lows.length cl) (slice at_ (xY n.sets).letters.length ct) (slice as_ (xY n.sets).sets.length cs)):=by
  have hk2:=kZ (b:=w1.heap.size) w1 (Obj.cells #[Value.slice al (xY n.sets).lows.length cl,Value.slice at_ (xY n.sets).letters.length ct,Value.slice as_ (xY n.sets).sets.length cs] 172) lQ;have hk3:=HA1.out.2.trans (hk2.lower (c:=w.heap.size) HA1.out.2.size HA1.out.2.size);exact⟨_,rfl,⟨HN.out.grown hk3,gU _ _,HA1.out.1.grown hk2,hk3⟩⟩
 rw[<-hw2];have hwl:w.heap.size<=w1.heap.size:=HA1.out.2.size;clear hw2 HA1 hk1 x0 HP;obtain⟨y0,y1,y2⟩:=HM.out.cells;have y3:=HM.out.net.c1;generalize w1.heap.size=b at *;generalize (xY n.sets).lows.length=l0 at *;generalize (xY n.sets).letters.length=l1 at *;generalize (xY n.sets).sets.length=l2 at *;go_region_held3 (fun w'=>w'.cell? ⟨b,0,none⟩=some (slice al l0 cl)∧w'.cell? ⟨b,1,none⟩=some (slice at_ l1 ct)∧w'.cell? ⟨b,2,none⟩=some (slice as_ l2 cs)∧w'.cell? ⟨q,1,none⟩=some fv) (first|exact⟨z0,z1,z2,z3⟩|go_keep) (first|(go_at_call 128;go_must ((refine (HSp.out _ _ _ _ _ (by first|exact hmT|exact HM.out.drew)).mono ?_;rintro e wS ⟨f,rfl,hsp,hfb,hmS,hkS⟩;obtain⟨z0,z1,z2⟩:=hmS.cells;have z3:=hmS.net.c1)))|(go_at_call 129;go_must ((refine (HTl.out _ _ _ _ _ (by first|exact hmS|exact HM.out.drew)).mono ?_;rintro e wT ⟨tl,rfl,htl,hmT,hkT⟩;obtain⟨atl,ctl,rfl,-⟩:=id htl;obtain⟨z0,z1,z2⟩:=hmT.cells;have z3:=hmT.net.c1))));have HF:Hid (SpAt wT f n.ahead∧Nm w wT q b n sv fv rv ev (slice al l0 cl) (slice at_ l1 ct) (slice as_ l2 cs)∧I32s wT (In wT) (slice atl (n.tails n.letters).length ctl) (n.tails n.letters)):=⟨hsp.keep (hkT.block f hsp.lt (kJ hsp.lt)),hmT,htl⟩
 clear hsp hmS hkS hmT hkT htl;go_wp2;go_ret;obtain⟨hsp,hm,htl⟩:=HF.out;have hka:=kZ (b:=wT.heap.size) wT (Obj.cells #[Value.pointer (some ⟨q,0,none⟩),Value.slice al l0 cl,Value.slice at_ l1 ct,Value.slice as_ l2 cs,Value.pointer (some ⟨f,0,none⟩),Value.slice atl (n.tails n.letters).length ctl,Value.slice none 0 0,Value.slice none 0 0] 176) lQ;have hin:∀g,In wT g->g<(wT.alloc (Obj.cells #[Value.pointer (some ⟨q,0,none⟩),Value.slice al l0 cl,Value.slice at_ l1 ct,Value.slice as_ l2 cs,Value.pointer (some ⟨f,0,none⟩),Value.slice atl (n.tails n.letters).length ctl,Value.slice none 0 0,Value.slice none 0 0] 176)).heap.size∧g≠wT.heap.size:=fun g hg=>by
  have:g<wT.heap.size:=hg;simp;omega
 have e:∀g,In wT g->(wT.alloc (Obj.cells #[Value.pointer (some ⟨q,0,none⟩),Value.slice al l0 cl,Value.slice at_ l1 ct,Value.slice as_ l2 cs,Value.pointer (some ⟨f,0,none⟩),Value.slice atl (n.tails n.letters).length ctl,Value.slice none 0 0,Value.slice none 0 0] 176)).heap[g]? =wT.heap[g]? :=fun g hg=>lG _ _ _ hg;have hon:=Once.top HOK.out (Nt.tails_once HOK.out n.letters);have hm2:=hm.grown hka;have hss:=hm.ar.sets;rw[Ar.setsN_ints HG.out] at hss;refine⟨wT.heap.size,⟨n.rules,n.tails n.letters,n.letters,q,f,slice al l0 cl,slice at_ l1 ct,slice as_ l2 cs,slice atl (n.tails n.letters).length ctl,rv⟩,rfl,⟨rfl,rfl,rfl,rfl⟩,?_,hm2.ar,hsp.keep (e f hsp.lt),kJ hsp.lt,hm.keep.size,hm2.keep⟩;exact⟨gU _ _,OwnI.nil _ _,OwnI.nil _ _,fun g hg=>(by cases hg),fun g _ hg=>(by cases hg),fun g _ hg=>(by cases hg),fun h=>h.2 rfl,fun g hg=>hg.1,by simp,(cell?_of_block (e q hm.net.lq)).trans hm.net.c4,hin q hm.net.lq,(hm.net.rules.keep e).mono hin,HOK.out.eight,fun r hr=>lZ (HOK.out.rs r hr) htop,(htl.keep e).mono hin,hon.2,hon.1,(hss.keep e).mono hin,fun x hx=>lZ (Ar.setsN_lt HG.out x hx) htop,fun x hx=>absurd hx List.not_mem_nil,fun x hx=>absurd hx List.not_mem_nil⟩
def zBx (rows:List (List Int))(rules:List Int)(next:List Int)(i:Nat):Bool:=rules.getD i 0== -1&&decide (rows.getD i []=next)
def zAo (rows:List (List Int))(rules:List Int)(next:List Int):Nat:=(List.range rows.length).findIdx (zBx rows rules next)
theorem qQ (n j:Nat)(hj:j<n):(List.range n).getD j 0=j:=by
 rw[lW,List.getElem?_range hj];rfl
theorem zNb (rows:List (List Int))(rules next:List Int)(j:Nat)(hj:j<rows.length)(h:zBx rows rules next j=true)(hn:∀i,i<j->zBx rows rules next i=false):zAo rows rules next=j:=
 zC7 _ _ j (by rw[List.length_range];exact hj) (by rw[qQ _ _ hj];exact h) fun i hi=>by rw[qQ _ _ (by omega)];exact hn i hi
theorem zKZ (rows:List (List Int))(rules next:List Int)(hn:∀i,i<rows.length->zBx rows rules next i=false):zAo rows rules next=rows.length:=by
 have h:=zA5 (List.range rows.length) (zBx rows rules next) fun i hi=>by
  rw[List.length_range] at hi;rw[qQ _ _ hi];exact hn i hi
 rw[List.length_range] at h;exact h
theorem zJ4 (rows:List (List Int))(rules next:List Int):zAo rows rules next<=rows.length:=by
 have h:(List.range rows.length).findIdx (zBx rows rules next)<=(List.range rows.length).length:=List.findIdx_le_length;rw[List.length_range] at h;exact h
theorem zJn (w:World)(kb:Nat)(nv rv tv:Value)(rows:List (List Int))(rules next:List Int)(hl:kb<w.heap.size)(h3:w.cell? ⟨kb,3,none⟩=some nv)(h4:w.cell? ⟨kb,4,none⟩=some rv)(hN:IntRows w (In w) nv rows)(hR:Ints w (In w) rv rules)(hrl:rules.length=rows.length)(hrn:rows.length<=1000000000000)(hT:Ints w (In w) tv next)(hlen:∀r∈rows,r.length<=1000000000000):
  Calls prog 95 #[pointer (some ⟨kb,0,none⟩),tv] w fun e w'=>e=returned (int i64 ((zAo rows rules next:Nat):Int))∧Grew w w':=by
 obtain⟨an,cn,rfl,_,_,hnc⟩:=hN;obtain⟨ar,cr,rfl,_,_,hrc⟩:=hR;rw[hrl] at h4 hrc;have HN:=vl hnc;have HR:=vl hrc;have HE:Hid (∀wr u i,i<rows.length->Grew w wr->Ints w (In w) u (rows.getD i [])->Ca 132 #[u,tv] wr fun e w'=>e=returned (bool (decide (rows.getD i []=next)))∧Grew w w'):=fun wr u i hi hk hu=>by
  refine(zIj wr u tv _ next (hu.grown hk) (hT.grown hk) (hlen _ (zS _ _ _ hi))).mono ?_;rintro e w2 ⟨rfl,hk2⟩;exact⟨rfl,hk.trans (hk2.lower hk.size hk.size)⟩
 have H1:=vl <| zNb rows rules next
 have H2:=vl <| zKZ rows rules next
 go_in;go_wp2;go_loopg [12] rows.length (fun k i wr=>∃j:Nat,k=rows.length-j∧j<=rows.length∧i=int i64 (j:Int)∧(∀i,i<j->zBx rows rules next i=false)∧Grew w wr)
 case atStart=>exact⟨0,rfl,lX,rfl,fun i hi=>by omega,⟨rfl,rfl,lQ,fun _ _ _=>rfl⟩⟩
 case round=>
  obtain⟨j,hgk,hj,rfl,hno,hkp⟩:=hrel;have HB:Hid (gk=rows.length-j∧(∀i,i<j->zBx rows rules next i=false)∧Grew w wr):=⟨hgk,hno,hkp⟩
  have x3:=zA h3 hl hkp;have x4:=zA h4 hl hkp;by_cases hj2:j<rows.length
  ·have i1:(j:Int)<(rows.length:Int):=by omega
   obtain⟨b1,o1,u,rfl,hb1,hc1,hu⟩:=HN.out j hj2;obtain⟨b2,o2,rfl,hb2,hc2⟩:=HR.out j hj2;obtain⟨au,cu,hu2,-⟩:=id hu;have y1:=zA hc1 hb1 hkp;have y2:=zA hc2 hb2 hkp;have HC:=vl <| HE.out wr u j hj2 hkp hu;have HV:Hid (zBx rows rules next j=(rules.getD j 0== -1&&decide (rows.getD j []=next))):=rfl;have HL3:Hid (zBx rows rules next j=true->zAo rows rules next=j):=fun h=>H1.out j hj2 h HB.out.2.1;have HN3:Hid (zBx rows rules next j=false->∀i,i<j+1->zBx rows rules next i=false):=fun h i hi=>by
    by_cases e:i=j
    ·rw[e];exact h
    ·exact HB.out.2.1 i (by omega)
   generalize (rows.getD j []).length=ul at *;subst hu2;generalize decide (rows.getD j []=next)=d at *;generalize rules.getD j 0=r at *;by_cases hr:r=-1
   ·subst hr
    cases d with
    |true=>
     have HR2:=vl <| HL3.out (by rw[HV.out];rfl);go_wp2_with (first|(go_at_call 132;refine HC.out.mono ?_;rintro e w5 ⟨rfl,hk5⟩))
     go_ret;exact⟨by rw[HR2.out];rfl,hk5⟩
    |false=>
     have HR2:=vl <| HN3.out (by rw[HV.out];rfl);go_wp2_with (first|(go_at_call 132;refine HC.out.mono ?_;rintro e w5 ⟨rfl,hk5⟩))
     go_roundg (rows.length-(j+1))
     case measure=>rw[HB.out.1];omega
     case rel=>exact⟨j+1,rfl,by omega,by go_num,HR2.out,hk5⟩
   ·have hc:(r== -1)=false:=by simp[hr]
    have HR2:=vl <| HN3.out (by rw[HV.out,hc];rfl);go_wp2;go_roundg (rows.length-(j+1))
    case measure=>rw[HB.out.1];omega
    case rel=>exact⟨j+1,rfl,by omega,by go_num,HR2.out,HB.out.2.2⟩
  ·have i1:(rows.length:Int)<=(j:Int):=by omega
   have HR2:=vl <| H2.out fun i hi=>hno i (by omega);go_wp2;go_ret;exact⟨by rw[HR2.out];rfl,HB.out.2.2⟩
section
theorem SoY.set {w:World}{X Y:Nat->Prop}{p b i:Nat}{s:Sq}{d:Sf}{x:Value}(h:SoY w X Y p s d)(hb:Y b)(hx:¬X b):SoY (w.setCell ⟨b,i,none⟩ x) X Y p s d:=by
 obtain⟨fv,mv,h,hY⟩:=h;obtain⟨hbl,hbp,hbf,hbm⟩:=hY b hb;have e:∀k,k≠b->(w.setCell ⟨b,i,none⟩ x).heap[k]? =w.heap[k]? :=fun k hk=>lJ _ _ _ _ hk;have eX:∀k,X k->(w.setCell ⟨b,i,none⟩ x).heap[k]? =w.heap[k]? :=fun k hk=>e k fun e2=>hx (e2 ▸ hk);exact⟨fv,mv,⟨(e p (Ne.symm hbp)).trans h.blk,zD h.own1 fun k _ _ hk=>e k fun e2=>hbf (by rw[hk,e2]),zD h.own2 fun k _ _ hk=>e k fun e2=>hbm (by rw[hk,e2]),h.ne,h.xf,h.xm,h.xp,fun g hg=>by rw[zC];exact h.xl g hg,by rw[zC];exact h.lp,(cell?_of_block (eX _ h.xq)).trans h.net,h.xq,h.rls.keep eX,h.eight,h.rsm,h.tls.keep eX,h.tsm,h.tlen,h.sts.keep eX,h.ssm,h.fsm,h.msm⟩,fun g hg=>by rw[zC];exact hY g hg⟩
structure Kw (w1 w:World)(H p kb:Nat)(Z:Nat->Prop)(s:Sq)(d:Sf)(lv tv sv nv rv u8:Value)(us:Nat->Value)(rows:List (List Nat))(rules:List Int)(start:List Nat)(st dd:Int):Prop where
 blk:w.heap[kb]? =some (.cells #[lv,tv,sv,nv,rv,int i64 st,int i64 dd] 178)
 nOwn:Row w H 45 nv rows.length us
 each:∀i,i<rows.length->Ints w Z (us i) (ints (rows.getD i []))
 rOwn:OwnI w H rv rules
 stA:Ints w Z u8 (ints start)
 zr:∀g,Z g->some g≠rv.ownBlock
 zn:∀g,Z g->some g≠nv.ownBlock
 zk:∀g,Z g->g≠kb
 zH:∀g,Z g->H<=g
 so:SoY w (fun g=>g<H∧g≠p) (fun g=>Z g∨g=kb∨some g=nv.ownBlock∨some g=rv.ownBlock) p s d
 kbH:H<=kb
 keep:KeepX (fun g=>g<H∧g≠p) w1 w
section
variable {w1 w w2:World} {H p kb:Nat} {Z:Nat->Prop} {s:Sq} {d d':Sf} {lv tv sv nv rv u8 u:Value} {us:Nat->Value} {rows:List (List Nat)} {rules:List Int} {start l:List Nat} {st dd:Int}
theorem Kw.zl (h:Kw w1 w H p kb Z s d lv tv sv nv rv u8 us rows rules start st dd):∀g,Z g->g<w.heap.size:=by
 obtain⟨fv,mv,_,hY⟩:=h.so;exact fun g hg=>(hY g (.inl hg)).1
theorem Kw.kl (h:Kw w1 w H p kb Z s d lv tv sv nv rv u8 us rows rules start st dd):kb<w.heap.size:=(kQ.1 h.blk).1
theorem Kw.cells (h:Kw w1 w H p kb Z s d lv tv sv nv rv u8 us rows rules start st dd):w.cell? ⟨kb,3,none⟩=some nv∧w.cell? ⟨kb,4,none⟩=some rv∧w.cell? ⟨kb,5,none⟩=some (int i64 st)∧w.cell? ⟨kb,6,none⟩=some (int i64 dd)∧∀i,w.frozen? ⟨kb,i,none⟩=false:=by
 refine⟨?_,?_,?_,?_,fun i=>?_⟩
 all_goals first|(unfold cell?;rw[h.blk];rfl)|(unfold frozen?;rw[h.blk];simp)
theorem Kw.nbox (h:Kw w1 w H p kb Z s d lv tv sv nv rv u8 us rows rules start st dd):some kb≠nv.ownBlock∧some kb≠rv.ownBlock:=⟨zM h.nOwn h.blk (by decide),zM h.rOwn h.blk (by decide)⟩
theorem Kw.call {Z':Nat->Prop}(h:Kw w1 w H p kb Z s d lv tv sv nv rv u8 us rows rules start st dd)(hk:KeepX (fun g=>(g<H∧g≠p)∨(Z g∨g=kb∨some g=nv.ownBlock∨some g=rv.ownBlock)) w w2)(hZ:∀g,Z g->Z' g)(hZ2:∀g,Z' g->Z g∨w.heap.size<=g)(hs:SoY w2 (fun g=>g<H∧g≠p) (fun g=>Z' g∨g=kb∨some g=nv.ownBlock∨some g=rv.ownBlock) p s d'):Kw w1 w2 H p kb Z' s d' lv tv sv nv rv u8 us rows rules start st dd:=by
 have eZ:∀b,Z b->w2.heap[b]? =w.heap[b]? :=fun b hb=>hk.block b (.inr (.inl hb));have hH:=lY h.kbH (Nat.le_of_lt h.kl);refine⟨(hk.block kb (.inr (.inr (.inl rfl)))).trans h.blk,zD h.nOwn fun g _ _ hg=>hk.block g (.inr (.inr (.inr (.inl hg.symm)))),fun i hi=>((h.each i hi).keep eZ).mono hZ,zD h.rOwn fun g _ _ hg=>hk.block g (.inr (.inr (.inr (.inr hg.symm)))),(h.stA.keep eZ).mono hZ,fun g hg=>?_,fun g hg=>?_,fun g hg=>?_,fun g hg=>?_,hs,h.kbH,h.keep.trans (hk.mono fun k hk=>.inl hk)⟩
 ·rcases hZ2 g hg with h1|h1
  ·exact h.zr g h1
  ·intro e;have:=(h.rOwn.lt g e.symm).2;omega
 ·rcases hZ2 g hg with h1|h1
  ·exact h.zn g h1
  ·intro e;have:=(h.nOwn.lt g e.symm).2;omega
 ·rcases hZ2 g hg with h1|h1
  ·exact h.zk g h1
  ·have:=h.kl;omega
 ·rcases hZ2 g hg with h1|h1
  ·exact h.zH g h1
  ·omega
theorem Kw.grown (h:Kw w1 w H p kb Z s d lv tv sv nv rv u8 us rows rules start st dd)(hk:Grew w w2):Kw w1 w2 H p kb Z s d lv tv sv nv rv u8 us rows rules start st dd:=by
 obtain⟨fv,mv,hs,hY⟩:=id h.so;refine h.call (hk.kx fun k hk2=>?_) (fun _ h=>h) (fun _ h=>.inl h) (h.so.grown hk fun g hg=>⟨lZ (hY g hg).1 hk.size,.inl hg⟩);have:=hk2.elim (hs.xl k) fun e=>(hY k e).1;omega
theorem Kw.setC {i:Nat}{x:Value}{st' dd':Int}(h:Kw w1 w H p kb Z s d lv tv sv nv rv u8 us rows rules start st dd)(hb:(w.setCell ⟨kb,i,none⟩ x).heap[kb]? =some (.cells #[lv,tv,sv,nv,rv,int i64 st',int i64 dd'] 178)):Kw w1 (w.setCell ⟨kb,i,none⟩ x) H p kb Z s d lv tv sv nv rv u8 us rows rules start st' dd':=by
 have e:∀k,k≠kb->(w.setCell ⟨kb,i,none⟩ x).heap[k]? =w.heap[k]? :=fun k hk=>lJ _ _ _ _ hk;have hnb:=h.nbox;have hkH:=h.kbH;exact⟨hb,zD h.nOwn fun g _ _ hg=>e g fun e2=>hnb.1 (by rw[hg,e2]),fun i hi=>(h.each i hi).keep fun b hb=>e b (h.zk b hb),zD h.rOwn fun g _ _ hg=>e g fun e2=>hnb.2 (by rw[hg,e2]),h.stA.keep fun b hb=>e b (h.zk b hb),h.zr,h.zn,h.zk,h.zH,h.so.set (.inr (.inl rfl)) (fun e2=>by omega),h.kbH,h.keep.trans ⟨rfl,rfl,by rw[zC];exact lQ,fun k hk=>e k (by omega)⟩⟩
theorem Kw.setStart (h:Kw w1 w H p kb Z s d lv tv sv nv rv u8 us rows rules start st dd)(x:Int):Kw w1 (w.setCell ⟨kb,5,none⟩ (int i64 x)) H p kb Z s d lv tv sv nv rv u8 us rows rules start x dd:=h.setC (by simp[setCell,lU,h.blk])
theorem Kw.setDead (h:Kw w1 w H p kb Z s d lv tv sv nv rv u8 us rows rules start st dd)(x:Int):Kw w1 (w.setCell ⟨kb,6,none⟩ (int i64 x)) H p kb Z s d lv tv sv nv rv u8 us rows rules start st x:=h.setC (by simp[setCell,lU,h.blk])
theorem Kw.start_of (h:Kw w1 w H p kb Z s d lv tv sv nv rv u8 us rows rules start st dd)(hu:Ints w Z u (ints l)):Kw w1 w H p kb Z s d lv tv sv nv rv u us rows rules l st dd:={h with stA:=hu}
theorem Kw.snocN {o:Obj}{g cap m:Nat}(h:Kw w1 w H p kb Z s d lv tv sv nv rv u8 us rows rules start st dd)(hm:m=rows.length)(hu:Ints w Z u (ints l))(hown:w2.ownsRow H 45 1 (slice (some ⟨g,0,none⟩) (m+1) cap) (m+1) ((List.range m).map us++[u]))(hg:(w.alloc o).grownBy w2 nv.ownBlock)(hat:nv.ownBlock=some g∨w.heap.size<=g):
  Kw w1 (w2.setCell ⟨kb,3,none⟩ (slice (some ⟨g,0,none⟩) (m+1) cap)) H p kb Z s d lv tv sv (slice (some ⟨g,0,none⟩) (m+1) cap) rv u8 (fun i=>if i=m then u else us i) (rows++[l]) rules start st dd:=by
 subst hm;have hkl:=h.kl;have hkH:=h.kbH;have hnb:=h.nbox;have hbl:∀j,j<w.heap.size->some j≠nv.ownBlock->w2.heap[j]? =w.heap[j]? :=fun j hj hf=>(hg.block j (by simp;omega) hf).trans (lG _ _ _ (by omega));have hb:=(hbl kb hkl hnb.1).trans h.blk;have hsz:w.heap.size<=w2.heap.size:=lY (by simp) hg.size;have e:∀k,k≠kb->(w2.setCell ⟨kb,3,none⟩ (slice (some ⟨g,0,none⟩) (rows.length+1) cap)).heap[k]? =w2.heap[k]? :=fun k hk=>lJ _ _ _ _ hk;have eZ:∀k,Z k->(w2.setCell ⟨kb,3,none⟩ (slice (some ⟨g,0,none⟩) (rows.length+1) cap)).heap[k]? =w.heap[k]? :=fun k hk=>(e k (h.zk k hk)).trans (hbl k (h.zl k hk) (h.zn k hk));have hkg:kb≠g:=fun e2=>by
  rcases hat with ha|ha
  ·exact hnb.1 (by rw[ha,e2])
  ·omega
 have hR2:=zR hg h.rOwn fun k hk=>xM h.rOwn h.nOwn (by decide) hk;have hgl:=(hown.lt g rfl).2;have hso:SoY w2 (fun g=>g<H∧g≠p) (fun k=>Z k∨k=kb∨some k=(Value.slice (some ⟨g,0,none⟩) (rows.length+1) cap).ownBlock∨some k=rv.ownBlock) p s d:=by
  refine h.so.app (v:=nv) (fun k hk=>⟨.inr (.inr (.inl hk)),fun e2=>by have:=(h.nOwn.lt k hk.symm).1;omega⟩) hg hat hgl fun k hk=>?_;rcases hk with h1|h1|h1|h1
  ·exact .inl (.inl h1)
  ·exact .inl (.inr (.inl h1))
  ·exact .inr (by simpa[Value.ownBlock] using h1)
  ·exact .inl (.inr (.inr (.inr h1)))
 refine⟨by simp[setCell,lU,hb],?_,fun i hi=>?_,zD hR2 fun k _ _ hk=>e k fun e2=>hnb.2 (by rw[hk,e2]),h.stA.keep eZ,h.zr,fun k hk e2=>?_,h.zk,h.zH,hso.set (.inr (.inl rfl)) (fun e2=>by omega),h.kbH,h.keep.trans ⟨hg.os,hg.output,by rw[zC];exact hsz,fun k hk=>(e k (by omega)).trans (hbl k (by omega) fun e2=>by have:=(h.nOwn.lt k e2.symm).1;omega)⟩⟩
 ·have h2:Row w2 H 45 (slice (some ⟨g,0,none⟩) (rows.length+1) cap) (rows.length+1) (fun i=>if i=rows.length then u else us i):=by
   unfold Row;rw[jO];rw[show (List.range rows.length).map (fun i=>if i=rows.length then u else us i)=(List.range rows.length).map us from List.map_congr_left fun i hi=>by rw[if_neg (by have:=List.mem_range.1 hi;omega)]];rw[if_pos rfl];exact hown
  have e3:(rows++[l]).length=rows.length+1:=by simp
  rw[e3];exact zD h2 fun k _ _ hk=>e k fun e2=>by
   have:g=k:=by simpa[Value.ownBlock] using hk
   omega
 ·by_cases e3:i=rows.length
  ·subst e3
   rw[if_pos rfl,lW,gQ lQ,Nat.sub_self];exact hu.keep eZ
  ·have hi2:i<rows.length:=by simp at hi;omega
   rw[if_neg e3,lW,kW hi2,<-lW];exact(h.each i hi2).keep eZ
 ·have e4:k=g:=by simpa[Value.ownBlock] using e2
  subst e4;rcases hat with ha|ha
  ·exact h.zn k hk ha.symm
  ·have:=h.zl k hk;omega
theorem Kw.snocR {o:Obj}{g cap m:Nat}{x:Int}(h:Kw w1 w H p kb Z s d lv tv sv nv rv u8 us rows rules start st dd)(hm:m=rules.length)(hown:w2.ownsRow H 3 1 (slice (some ⟨g,0,none⟩) (m+1) cap) (m+1) ((rules.map fun x=>int i64 x)++[int i64 x]))(hg:(w.alloc o).grownBy w2 rv.ownBlock)(hat:rv.ownBlock=some g∨w.heap.size<=g):
  Kw w1 (w2.setCell ⟨kb,4,none⟩ (slice (some ⟨g,0,none⟩) (m+1) cap)) H p kb Z s d lv tv sv nv (slice (some ⟨g,0,none⟩) (m+1) cap) u8 us rows (rules++[x]) start st dd:=by
 subst hm;have hkl:=h.kl;have hkH:=h.kbH;have hnb:=h.nbox;have hbl:∀j,j<w.heap.size->some j≠rv.ownBlock->w2.heap[j]? =w.heap[j]? :=fun j hj hf=>(hg.block j (by simp;omega) hf).trans (lG _ _ _ (by omega));have hb:=(hbl kb hkl hnb.2).trans h.blk;have hsz:w.heap.size<=w2.heap.size:=lY (by simp) hg.size;have e:∀k,k≠kb->(w2.setCell ⟨kb,4,none⟩ (slice (some ⟨g,0,none⟩) (rules.length+1) cap)).heap[k]? =w2.heap[k]? :=fun k hk=>lJ _ _ _ _ hk;have eZ:∀k,Z k->(w2.setCell ⟨kb,4,none⟩ (slice (some ⟨g,0,none⟩) (rules.length+1) cap)).heap[k]? =w.heap[k]? :=fun k hk=>(e k (h.zk k hk)).trans (hbl k (h.zl k hk) (h.zr k hk));have hkg:kb≠g:=fun e2=>by
  rcases hat with ha|ha
  ·exact hnb.2 (by rw[ha,e2])
  ·omega
 have hN2:=zR hg h.nOwn fun k hk=>xM h.nOwn h.rOwn (by decide) hk;have hgl:=(hown.lt g rfl).2;have hso:SoY w2 (fun g=>g<H∧g≠p) (fun k=>Z k∨k=kb∨some k=nv.ownBlock∨some k=(Value.slice (some ⟨g,0,none⟩) (rules.length+1) cap).ownBlock) p s d:=by
  refine h.so.app (v:=rv) (fun k hk=>⟨.inr (.inr (.inr hk)),fun e2=>by have:=(h.rOwn.lt k hk.symm).1;omega⟩) hg hat hgl fun k hk=>?_;rcases hk with h1|h1|h1|h1
  ·exact .inl (.inl h1)
  ·exact .inl (.inr (.inl h1))
  ·exact .inl (.inr (.inr (.inl h1)))
  ·exact .inr (by simpa[Value.ownBlock] using h1)
 refine⟨by simp[setCell,lU,hb],zD hN2 fun k _ _ hk=>e k fun e2=>hnb.1 (by rw[hk,e2]),fun i hi=>(h.each i hi).keep eZ,?_,h.stA.keep eZ,fun k hk e2=>?_,h.zn,h.zk,h.zH,hso.set (.inr (.inl rfl)) (fun e2=>by omega),h.kbH,h.keep.trans ⟨hg.os,hg.output,by rw[zC];exact hsz,fun k hk=>(e k (by omega)).trans (hbl k (by omega) fun e2=>by have:=(h.rOwn.lt k e2.symm).1;omega)⟩⟩
 ·exact zD (OwnI.snoc hown) fun k _ _ hk=>e k fun e2=>by
   have:g=k:=by simpa[Value.ownBlock] using hk
   omega
 ·have e4:k=g:=by simpa[Value.ownBlock] using e2
  subst e4;rcases hat with ha|ha
  ·exact h.zr k hk ha.symm
  ·have:=h.zl k hk;omega
end
end
section
theorem Sq.kindS_ml (s:Sq)(d:Sf)(x:Nat)(h:d.marks.length<=d.found.length):(s.kindS d x).marks.length<=(s.kindS d x).found.length:=by
 unfold Sq.kindS;split
 ·split
  ·exact h
  ·simp;omega
 ·simp;omega
theorem Sq.rowTo_ml (s:Sq)(next:Nat)(d:Sf)(j:Nat)(h:d.marks.length<=d.found.length):(s.rowTo next d j).2.marks.length<=(s.rowTo next d j).2.found.length:=by
 induction j with
 |zero=>exact h
 |succ j ih=>exact s.kindS_ml _ _ ih
theorem Sq.kind_lt (s:Sq)(d:Sf)(x:Nat):s.kind d x<(s.kindS d x).found.length:=by
 have:=s.look_le d x;unfold Sq.kind Sq.kindS;by_cases h:s.look d x<d.found.length
 ·rw[if_pos h,if_pos h]
  by_cases h2:s.tail d x<0
  ·rw[if_pos h2,if_pos h2];exact h
  ·rw[if_neg h2,if_neg h2];simp
 ·rw[if_neg h,if_neg h];simp
theorem Sq.rowTo_lt (s:Sq)(next:Nat)(d:Sf)(j:Nat):∀k∈(s.rowTo next d j).1,k<(s.rowTo next d j).2.found.length:=by
 induction j with
 |zero=>exact fun k hk=>absurd hk List.not_mem_nil
 |succ j ih=>
  intro k hk;have hm:=(s.kindS_len (s.rowTo next d j).2 (next&&&s.sets.getD j 0)).2.2;rcases kU.1 hk with h1|h1
  ·have:=ih k h1
   show k<(s.kindS (s.rowTo next d j).2 (next&&&s.sets.getD j 0)).found.length;omega
  ·rw[kY.1 h1]
   exact s.kind_lt _ _
def Sq.Like (s t:Sq):Prop:=s.rules=t.rules∧s.tails=t.tails∧s.sets=t.sets
theorem Sq.Like.kind {s t:Sq}(h:s.Like t)(d:Sf)(x:Nat):s.kind d x=t.kind d x∧s.kindS d x=t.kindS d x:=by
 obtain⟨h1,h2,h3⟩:=h;unfold Sq.kind Sq.kindS Sq.tail Sq.look;rw[h1,h2];exact⟨rfl,rfl⟩
theorem Sq.Like.row {s t:Sq}(h:s.Like t)(next:Nat)(d:Sf)(j:Nat):s.rowTo next d j=t.rowTo next d j:=by
 induction j with
 |zero=>rfl
 |succ j ih=>
  unfold Sq.rowTo;rw[ih,(h.kind _ _).1,(h.kind _ _).2,h.2.2]
def Sq.sortGo (s:Sq)(ahead:Nat->Nat)(ends most:Nat):Nat->Nat->Sf->List (List Nat)->List Int->Option (Sf×List (List Nat)×List Int)
 |0,_,d,rows,rules=>some (d,rows,rules)
 |f+1,i,d,rows,rules=>if i<d.found.length then(if d.found.length>most then none else s.sortGo ahead ends most f (i+1) (s.rowTo (zAq ahead (d.found.getD i 0)) d s.sets.length).2 (rows++[(s.rowTo (zAq ahead (d.found.getD i 0)) d s.sets.length).1]) (rules++[vA s.rules (d.found.getD i 0&&&ends)])) else some (d,rows,rules)
structure Kd where
 rows:List (List Nat)
 rules:List Int
 start:Nat
 dead:Nat
def Nt.sq (n:Nt):Sq:=⟨n.rules,n.tails n.letters,n.letters,0,0,undef,undef,undef,undef,undef⟩
def Nt.start (n:Nt):List Nat×Sf:=n.sq.rowTo n.first ⟨[],[]⟩ n.letters.length
def Nt.ended (n:Nt)(d:Sf)(rows:List (List Nat))(rules:List Int):Kd:=
 if zAo (rows.map ints) rules (ints n.start.1)=rows.length then⟨rows++[n.start.1],rules++[-1],zAo (rows.map ints) rules (ints n.start.1),n.sq.kind d 0⟩ else⟨rows,rules,zAo (rows.map ints) rules (ints n.start.1),n.sq.kind d 0⟩
def Nt.sort (n:Nt)(most:Nat):Option Kd:=
 match n.sq.sortGo n.ahead n.ends most (most+1) 0 n.start.2 [] [] with
 |none=>none
 |some (d,rows,rules)=>some (n.ended d rows rules)
section
variable {w1 w:World} {H p kb:Nat} {Z:Nat->Prop} {s:Sq} {d:Sf} {lv tv sv nv rv u8:Value} {us:Nat->Value} {rows:List (List Nat)} {rules:List Int} {start:List Nat} {st dd:Int}
theorem Kw.row (h:Kw w1 w H p kb Z s d lv tv sv nv rv u8 us rows rules start st dd)(hl:d.marks.length<=d.found.length)(hl2:d.found.length+s.sets.length<=100000000000)(next:Nat)(hx:next<16777216):
  Calls prog 91 #[pointer (some ⟨p,0,none⟩),int i64 next] w fun e w'=>∃u Z',e=returned u∧Kw w1 w' H p kb Z' s (s.rowTo next d s.sets.length).2 lv tv sv nv rv u8 us rows rules start st dd∧Ints w' Z' u (ints (s.rowTo next d s.sets.length).1):=by
 refine(zFE w _ _ p s d h.so (by omega) hl2 next hx).mono ?_;rintro e w' ⟨u,rfl,ho,hs,hk⟩;refine⟨u,fun g=>Z g∨some g=u.ownBlock,rfl,h.call hk (fun g hg=>.inl hg) (fun g hg=>hg.imp id fun e=>(ho.lt g e.symm).1) (hs.mono fun g hg=>?_),zBJ ho fun g hg=>.inr hg.symm⟩;rcases hg with(h1|h1)|h1
 ·exact .inl (.inl h1)
 ·exact .inr h1
 ·exact .inl (.inr h1)
theorem Kw.kindOf (h:Kw w1 w H p kb Z s d lv tv sv nv rv u8 us rows rules start st dd)(hl:d.marks.length<=d.found.length)(hl2:d.found.length<=100000000000)(x:Nat)(hx:x<16777216):
  Calls prog 94 #[pointer (some ⟨p,0,none⟩),int i64 x] w fun e w'=>e=returned (int i64 (s.kind d x))∧Kw w1 w' H p kb Z s (s.kindS d x) lv tv sv nv rv u8 us rows rules start st dd:=by
 refine(zIc h.so (by omega) hl2 x hx).mono ?_;rintro e w' ⟨rfl,hs,hk⟩;exact⟨rfl,h.call hk (fun g hg=>hg) (fun g hg=>.inl hg) hs⟩
theorem Kw.ruleOf (h:Kw w1 w H p kb Z s d lv tv sv nv rv u8 us rows rules start st dd)(x:Nat)(hx:x<16777216):
  Calls prog 93 #[pointer (some ⟨p,0,none⟩),int i64 x] w fun e w'=>e=returned (int i64 (vA s.rules x))∧w'=w:=by
 obtain⟨fv,mv,hs,_⟩:=h.so;have:=hs.so;exact zBi w p s.q s.rv s.rules this.net this.rcell this.at_ this.eight this.small x hx
theorem Kw.found (h:Kw w1 w H p kb Z s d lv tv sv nv rv u8 us rows rules start st dd):∃fa cap,w.cell? ⟨p,6,none⟩=some (slice fa d.found.length cap)∧w.cell? ⟨p,4,none⟩=some (pointer (some ⟨s.f,0,none⟩))∧∀i,i<d.found.length->∃g,fa=some ⟨g,0,none⟩∧w.cell? ⟨g,i,none⟩=some (int i64 ((d.found.getD i 0:Nat):Int))∧d.found.getD i 0<16777216:=by
 obtain⟨fv,mv,hs,_⟩:=h.so;obtain⟨fa,cap,hf⟩:=hs.own1.form;rw[zN] at hf;refine⟨fa,cap,by rw[<-hf];exact hs.cells.2.2.2.2.1,hs.cells.2.2.1,fun i hi=>?_⟩;have ho:=hs.own1;rw[hf] at ho;obtain⟨g,rfl⟩:=ho.some (by rw[zN];omega);have:=ho.cell i (by rw[zN];exact hi);rw[vF] at this;exact⟨g,rfl,this,hs.fsm _ (zS _ _ 0 hi)⟩
end
structure KdAt (w:World)(kb:Nat)(a:Ar)(k:Kd):Prop where
 lk:kb<w.heap.size
 all:∃lv tv sv nv rv,w.heap[kb]? =some (.cells #[lv,tv,sv,nv,rv,int i64 (k.start:Int),int i64 (k.dead:Int)] 178)∧ArAt w lv tv sv a∧IntRows w (In w) nv (k.rows.map ints)∧Ints w (In w) rv k.rules
theorem Kw.rowsAt {w1 w:World}{H p kb:Nat}{Z:Nat->Prop}{s:Sq}{d:Sf}{lv tv sv nv rv u8:Value}{us:Nat->Value}{rows:List (List Nat)}{rules:List Int}{start:List Nat}{st dd:Int}(h:Kw w1 w H p kb Z s d lv tv sv nv rv u8 us rows rules start st dd):IntRows w (In w) nv (rows.map ints):=by
 have hg:∀i,(rows.map ints).getD i []=ints (rows.getD i []):=fun i=>by
  rw[lW,lW,gV];cases rows[i]? <;> rfl
 by_cases h0:rows.length=0
 ·rcases h.nOwn.2 with⟨hv,_⟩|⟨g,cap,cur,hv,hH,hh,h1,h2,h3,h4⟩
  ·exact⟨none,0,by rw[hv,kV,h0],by rw[kV,h0];exact lQ,by unfold maxLen;omega,fun i hi=>by rw[kV] at hi;omega⟩
  ·exact⟨_,cap,by rw[hv,kV],by rw[kV];exact h1,h2,fun i hi=>by rw[kV] at hi;omega⟩
 ·obtain⟨g,cap,hv,hH,hl,h1,h2,h3,_⟩:=h.nOwn.get (by omega)
  refine⟨_,cap,by rw[hv,kV],by rw[kV];exact h1,h2,fun i hi=>?_⟩;rw[kV] at hi;refine⟨g,0,us i,rfl,hl,by rw[Nat.zero_add];exact h3 i hi,?_⟩;rw[hg];exact(h.each i hi).mono h.zl
end
section
attribute [local go_sem ↓] Go.wp_at_zero Go.wp_at_succ
def zOk (w1 w:World)(H p kb:Nat)(s:Sq)(d:Sf)(lv tv sv u8:Value)(rows:List (List Nat))(rules:List Int)(start:List Nat)(st dd:Int):Prop:=∃Z nv rv us,Kw w1 w H p kb Z s d lv tv sv nv rv u8 us rows rules start st dd
def zBu (w:World)(n:Nt)(most:Nat)(e:Ending)(w':World):Prop:=
 match n.sort most with
 |none=>e=returned (tuple #[pointer none,bool false])∧Grew w w'
 |some k=>∃kb,e=returned (tuple #[pointer (some ⟨kb,0,none⟩),bool true])∧KdAt w' kb n.areas k∧Grew w w'
theorem zKE {w w':World}{n:Nt}{most:Nat}(h:n.sort most=none)(hk:Grew w w'):zBu w n most (returned (tuple #[pointer none,bool false])) w':=by
 unfold zBu;rw[h];exact⟨rfl,hk⟩
theorem zF4 {w w':World}{n:Nt}{most kb:Nat}{k:Kd}(h:n.sort most=some k)(hk:KdAt w' kb n.areas k∧Grew w w'):zBu w n most (returned (tuple #[pointer (some ⟨kb,0,none⟩),bool true])) w':=by
 unfold zBu;rw[h];exact⟨kb,rfl,hk.1,hk.2⟩
theorem Kw.begin {w1:World}{p:Nat}{s:Sq}(h:SoAt w1 (fun g=>g<w1.heap.size∧g≠p) p s ⟨[],[]⟩ (slice none 0 0) (slice none 0 0))(lv tv sv:Value):
  Kw w1 (w1.alloc (.cells #[lv,tv,sv,slice none 0 0,slice none 0 0,int i64 0,int i64 0] 178)) w1.heap.size p w1.heap.size (fun _=>False) s ⟨[],[]⟩ lv tv sv (slice none 0 0) (slice none 0 0) (slice none 0 0) (fun _=>undef) [] [] [] 0 0:=by
 have hp:=h.lp;refine⟨gU _ _,ownsRow_nil _ _ _ _,fun i hi=>absurd hi (Nat.not_lt_zero _),OwnI.nil _ _,⟨none,0,rfl,lQ,by unfold maxLen;omega,fun i hi=>absurd hi (Nat.not_lt_zero _)⟩,fun g hg=>hg.elim,fun g hg=>hg.elim,fun g hg=>hg.elim,fun g hg=>hg.elim,⟨_,_,h.grown (kZ _ _ lQ),fun g hg=>?_⟩,lQ,⟨rfl,rfl,by simp,fun k hk=>lG _ _ _ hk.1⟩⟩;rcases hg with h1|h1|h1|h1
 ·exact h1.elim
 ·subst h1
  exact⟨by simp,by omega,fun e=>(by cases e),fun e=>(by cases e)⟩
 ·cases h1
 ·cases h1
theorem zMg {w:World}{S:Nat->Prop}{v:Value}{l:List Int}{p:Nat}(h:Ints w S v l)(hp:∀i x,w.cell? ⟨p,i,none⟩≠some (int i64 x)):Ints w (fun g=>S g∧g≠p) v l:=by
 obtain⟨ao,cap,hv,h1,h2,h3⟩:=h;refine⟨ao,cap,hv,h1,h2,fun i hi=>?_⟩;obtain⟨b,o,ha,hb,hc⟩:=h3 i hi;exact⟨b,o,ha,⟨hb,fun e=>hp (o+i) _ (by rw[<-e];exact hc)⟩,hc⟩
theorem SoAt.no_int {w:World}{X:Nat->Prop}{p:Nat}{s:Sq}{d:Sf}{fv mv lv tv sv tl:Value}(h:SoAt w X p s d fv mv)(h1:∃a n c,s.lv=slice a n c)(h2:∃a n c,s.tv=slice a n c)(h3:∃a n c,s.sv=slice a n c)(h4:∃a n c,s.tl=slice a n c)(h5:∃a n c,fv=slice a n c)(h6:∃a n c,mv=slice a n c):∀i x,w.cell? ⟨p,i,none⟩≠some (int i64 x):=by
 intro i x e;obtain⟨_,_,_,h1⟩:=h1;obtain⟨_,_,_,h2⟩:=h2;obtain⟨_,_,_,h3⟩:=h3;obtain⟨_,_,_,h4⟩:=h4;obtain⟨_,_,_,h5⟩:=h5;obtain⟨_,_,_,h6⟩:=h6;unfold cell? at e;rw[h.blk,h1,h2,h3,h4,h5,h6] at e;rcases i with _|_|_|_|_|_|_|_|i
 all_goals simp at e
theorem zMq {w w1 w2:World}{H p kb:Nat}{Z:Nat->Prop}{s:Sq}{d:Sf}{lv tv sv nv rv u8:Value}{us:Nat->Value}{rows:List (List Nat)}{rules:List Int}{start:List Nat}{st dd:Nat}{a:Ar}(h:Kw w1 w2 H p kb Z s d lv tv sv nv rv u8 us rows rules start st dd)(hH:H=w1.heap.size)(hp:∀i x,w1.cell? ⟨p,i,none⟩≠some (int i64 x))(har:ArAt w1 lv tv sv a):KdAt w2 kb a ⟨rows,rules,st,dd⟩:=by
 have e:∀v l,Ints w1 (fun g=>g<H∧g≠p) v l->Ints w2 (In w2) v l:=fun v l hv=>(hv.keep fun b hb=>h.keep.block b hb).mono fun b hb=>by
  have h1:b<w1.heap.size:=by rw[<-hH];exact hb.1
  exact lZ h1 h.keep.size
 have a:∀v l,Ints w1 (In w1) v l->Ints w1 (fun g=>g<H∧g≠p) v l:=fun v l hv=>(zMg hv hp).mono fun g hg=>⟨by rw[hH];exact hg.1,hg.2⟩
 exact⟨h.kl,lv,tv,sv,nv,rv,h.blk,⟨e _ _ (a _ _ har.lows),e _ _ (a _ _ har.letters),e _ _ (a _ _ har.sets)⟩,h.rowsAt,zAA h.rOwn⟩
end
end Go.Proofs.YtbjcfkdnjaiclaaGreat
