import Derived.Test.YtbjcfkdnjaiclaaGreatB0
import Derived.Test.YtbjcfkdnjaiclaaGreatB10
/- Parts of the proof, in order. -/
set_option linter.unusedVariables false
set_option linter.unusedSimpArgs false
set_option maxHeartbeats 4000000
set_option maxRecDepth 100000
namespace Go.Proofs.YtbjcfkdnjaiclaaGreat
open Go.RowKit Go.Proofs.Tryz Go.World
theorem zKd {w w':World}{X:Nat->Prop}{H:Nat}{v:Value}{l:List Int}(h:OwnI w H v l)(hk:KeepX X w w')(e:∀k,some k=v.ownBlock->X k):OwnI w' H v l:=zD h fun g _ _ hg=>hk.block g (e g hg.symm)
theorem zFA (w:World)(X Y:Nat->Prop)(p:Nat)(s:Sq)(d:Sf)(h:SoY w X Y p s d)(hl:d.marks.length+s.sets.length<=100000000000)(hl2:d.found.length+s.sets.length<=100000000000)(next:Nat)(hx:next<16777216):
  Calls prog 91 #[.pointer (some ⟨p,0,none⟩),.int .i64 next] w fun e w'=>∃u,e=.returned u∧OwnI w' w.heap.size u (ints (s.rowTo next d s.sets.length).1)∧SoY w' X (fun g=>Y g∨some g=u.ownBlock) p s (s.rowTo next d s.sets.length).2∧KeepX (fun g=>X g∨Y g) w w':=by
 obtain⟨i0,hi0,hz0,hz1,hz2⟩:=info_parts yH;obtain⟨fv,mv,hA,hY⟩:=h;have y3:=hA.cells.2.1;have hin:Hid (∀k,X k∨Y k->k<w.heap.size):=fun k hk=>hk.elim (hA.xl k) fun e=>(hY k e).1;obtain⟨as_,cs,hsv,_,_,hsc⟩:=hA.sts;rw[zM] at hsv;have HSC:Hid (∀i,i<s.sets.length->∃b o,as_=some ⟨b,o,none⟩∧X b∧w.cell? ⟨b,o+i,none⟩=some (.int .i64 ((s.sets.getD i 0:Nat):Int))∧next&&&s.sets.getD i 0<16777216∧s.sets.getD i 0<16777216):=by
  intro i hi;obtain⟨b,o,h1,h0,h2⟩:=hsc i (by rw[zM];exact hi);rw[vA] at h2;exact⟨b,o,h1,h0,h2,Nat.lt_of_le_of_lt Nat.and_le_left hx,hA.ssm _ (zR _ i 0 hi)⟩
 rw[hsv] at y3;have HR:Hid (∀j,(s.rowTo next d j).1.length=j∧(s.rowTo next d j).2.found.length<=d.found.length+j∧(s.rowTo next d j).2.marks.length<=d.marks.length+j):=fun j=>by
  have:=s.rowTo_len next d j
  exact⟨this.1,this.2.1,this.2.2.1⟩
 have HI:Hid (SoY w X (fun g=>Y g∨some g=(Value.slice none 0 0).ownBlock) p s d):=⟨fv,mv,hA,fun g hg=>hg.elim (hY g) fun e=>by cases e⟩
 have hsl:s.sets.length<=100000000000:=by omega
 go_in;go_wp2;go_loopg [5,15] s.sets.length (fun q u i wr=>∃j:Nat,q=s.sets.length-j∧j<=s.sets.length∧i=.int .i64 (j:Int)∧OwnI wr w.heap.size u (ints (s.rowTo next d j).1)∧SoY wr X (fun g=>Y g∨some g=u.ownBlock) p s (s.rowTo next d j).2∧KeepX (fun g=>X g∨Y g) w wr)
 case atStart=>exact⟨0,rfl,Nat.zero_le _,rfl,OwnI.nil _ _,HI.out,KeepX.refl _ _⟩
 case round=>
  obtain⟨j,hgk,hj,rfl,ho,hs,hkp⟩:=hrel;have HB:Hid (gk=s.sets.length-j∧OwnI wr w.heap.size u5 (ints (s.rowTo next d j).1)∧SoY wr X (fun g=>Y g∨some g=u5.ownBlock) p s (s.rowTo next d j).2∧KeepX (fun g=>X g∨Y g) w wr):=⟨hgk,ho,hs,hkp⟩
  by_cases hj2:j<s.sets.length
  ·have i1:(j:Int)<(s.sets.length:Int):=by omega
   obtain⟨b1,o1,rfl,hb1,hc,hlt,hlt2⟩:=HSC.out j hj2;have y1:=(cell?_of_block (hkp.block b1 (.inl hb1))).trans hc;obtain⟨au,cu,hu5⟩:=ho.form;rw[zM,(HR.out j).1] at hu5;have HK:Hid (∀x:Nat,x<16777216->Calls prog 94 #[.pointer (some ⟨p,0,none⟩),.int .i64 x] wr fun e w'=>e=.returned (.int .i64 (s.kind (s.rowTo next d j).2 x))∧(OwnI w' w.heap.size u5 (ints (s.rowTo next d j).1)∧SoY w' X (fun g=>Y g∨some g=u5.ownBlock) p s (s.kindS (s.rowTo next d j).2 x))∧KeepX (fun g=>X g∨Y g) w w'):=fun x hx=>by
    have:=HR.out j;refine(zHW HB.out.2.2.1 (by omega) (by omega) x hx).mono ?_;rintro e w2 ⟨rfl,h1,h2⟩;exact⟨rfl,⟨zKd HB.out.2.1 h2 fun k hk=>.inr (.inr hk),h1⟩,HB.out.2.2.2.trans (h2.mono fun k hk=>hk.elim .inl fun e=>.inr (.inl e))⟩
   have HN:Hid ((s.rowTo next d (j+1)).1=(s.rowTo next d j).1++[s.kind (s.rowTo next d j).2 (next&&&s.sets.getD j 0)]∧(s.rowTo next d (j+1)).2=s.kindS (s.rowTo next d j).2 (next&&&s.sets.getD j 0)):=⟨rfl,rfl⟩
   have hll:=(HR.out j).1;generalize s.sets.getD j 0=r at *;have hand:bits .and .i64 (next:Int) (r:Int)=((next&&&r:Nat):Int):=yY _ _ (by omega) (by omega);generalize next&&&r=x at *
   have HK2:=vl <| HK.out x hlt;generalize s.kind (s.rowTo next d j).2 x=kd at *;generalize s.kindS (s.rowTo next d j).2 x=d2 at *;generalize (s.rowTo next d j).1=l at *;subst hu5;go_wp2_with (first|(go_at_call 94;refine HK2.out.mono ?_;rintro e w2 ⟨rfl,hA2,hk2⟩;have HA2:=vl hA2;have OR:w2.ownsRow w.heap.size 3 1 (.slice au j cu) j ((ints l).map fun x=>.int .i64 x):=(by have:=hA2.1;unfold OwnI at this;rw[zM,hll] at this;exact this);have hsz2:=hk2.size;clear hA2)|(at_builtin;refine wpList_append_lies _ rfl _ _ 45 rfl (w.heap.size) 3 i0 (.int .i64 0) 1 8 underlying45 hi0 hz0 hz1 hz2 rfl (by decide) _ _ _ rfl (OR.alloc _) ⟨w2.heap.size,0,none⟩ 1 1 [.int .i64 (kd:Int)] rfl rfl (cell_one_new _ _ _) (by intro u hu;simp at hu;subst hu;rfl) (by decide) (by unfold maxLen;omega) (by omega) (by simp;omega) _ rfl ?_;intro gg cap w3 hown hgrow hat hlt3))
   have hO3:OwnI w3 w.heap.size (.slice (some ⟨gg,0,none⟩) (j+1) cap) (ints (l++[kd])):=by
    rw[zA4];have h2:=OwnI.snoc (l:=ints l) (x:=(kd:Int)) (by rw[zM,hll];exact hown);rw[zM,hll] at h2;exact h2
   have hat2:(Value.slice au j cu).ownBlock=some gg∨w2.heap.size<=gg:=by
    rcases hat with ha|ha
    ·exact .inl ha
    ·right;rw[ha];simp
   have hS3:SoY w3 X (fun g=>Y g∨some g=(Value.slice (some ⟨gg,0,none⟩) (j+1) cap).ownBlock) p s d2:=by
    refine HA2.out.2.app (v:=.slice au j cu) (fun k hk=>⟨.inr hk,fun e=>?_⟩) hgrow hat2 (hO3.lt gg rfl).2 ?_
    ·have:=(HA2.out.1.lt k hk.symm).1
     have:=hin.out k (.inl e);omega
    ·intro k hk
     rcases hk with e|e
     ·exact .inl (.inl e)
     ·exact .inr (by simpa[Value.ownBlock] using e)
   have hK3:KeepX (fun g=>X g∨Y g) w w3:=by
    refine hk2.trans ⟨hgrow.os,hgrow.output,Nat.le_trans (by simp) hgrow.size,fun k hk=>?_⟩;have h1:=hin.out k hk;exact(hgrow.block k (by simp;omega) fun e=>by have:=(HA2.out.1.lt k e.symm).1;omega).trans (Below.heap_alloc _ _ _ (by omega))
   go_roundg (s.sets.length-(j+1))
   case measure=>rw[HB.out.1];omega
   case rel=>exact⟨j+1,rfl,by omega,by go_num,by rw[HN.out.1];exact hO3,by rw[HN.out.2];exact hS3,hK3⟩
  ·have i1:(s.sets.length:Int)<=(j:Int):=by omega
   have e:j=s.sets.length:=by omega
   subst e;go_wp2;go_ret;exact⟨_,rfl,HB.out.2.1,HB.out.2.2.1,HB.out.2.2.2⟩
theorem zBD (n:Int)(h0:0<=n)(h1:n<18446744073709551616):IntKind.u64.wrap n=n:=by rw[IntKind.wrap_u64];omega
theorem zHe (a b:Nat)(ha:a<18446744073709551616)(hb:b<18446744073709551616):bits .and .u64 (a:Int) (b:Int)=((a&&&b:Nat):Int):=
 (bits_nat .u64 64 (by decide) (fun n h0 h1=>zBD n h0 (by simpa using h1)) a b (by simpa using ha) (by simpa using hb)).1
theorem zIm (a b:Nat)(ha:a<18446744073709551616)(hb:b<18446744073709551616):bits .or .u64 (a:Int) (b:Int)=((a|||b:Nat):Int):=
 (bits_nat .u64 64 (by decide) (fun n h0 h1=>zBD n h0 (by simpa using h1)) a b (by simpa using ha) (by simpa using hb)).2
theorem zAU (f:Nat->Bool)(k j:Nat):(qL f k).testBit j=(decide (j<k)&&f j):=by
 induction k with
 |zero=>simp[qL]
 |succ k ih=>
  unfold qL;by_cases e:j=k
  ·subst e
   cases hf:f j
   ·simp[ih]
   ·simp[ih,Nat.testBit_or]
  ·have h1:decide (j<k+1)=decide (j<k):=by simp;omega
   rw[h1,<-ih];split
   ·rw[Nat.testBit_or,Nat.testBit_two_pow,show decide (k=j)=false by simp;omega,Bool.or_false]
   ·rfl
def wd (m:Nat->Bool)(i:Nat):Nat:=qL (fun j=>m (64*i+j)) 64
theorem zM8 (m:Nat->Bool)(i:Nat):wd m i<18446744073709551616:=zBc _ 64
theorem zMz (m:Nat->Bool)(i j:Nat)(hj:j<64):wd m i&&&2^j=if m (64*i+j) then 2^j else 0:=by
 apply Nat.eq_of_testBit_eq;intro k;rw[Nat.testBit_and,Nat.testBit_two_pow];have e2:(wd m i).testBit k=(decide (k<64)&&m (64*i+k)):=zAU _ 64 k;by_cases hk:j=k
 ·subst hk
  rw[e2,decide_eq_true hj,decide_eq_true rfl];cases m (64*i+j) <;> simp
 ·rw[decide_eq_false hk,Bool.and_false]
  cases m (64*i+j) <;> simp[Nat.testBit_two_pow,hk]
theorem zMA (m:Nat->Bool)(x i:Nat):wd (fun y=>y==x||m y) i=if i=x/64 then wd m i|||2^(x%64) else wd m i:=by
 apply Nat.eq_of_testBit_eq;intro j;have e:(wd (fun y=>y==x||m y) i).testBit j=(decide (j<64)&&(64*i+j==x||m (64*i+j))):=zAU _ 64 j;have e2:(wd m i).testBit j=(decide (j<64)&&m (64*i+j)):=zAU _ 64 j;rw[e];split
 ·rename_i h
  rw[Nat.testBit_or,e2,Nat.testBit_two_pow];by_cases hj:j<64
  ·rw[decide_eq_true hj,Bool.true_and,Bool.true_and,Bool.or_comm]
   congr 1
   by_cases hx:x%64=j
   ·rw[decide_eq_true hx,beq_iff_eq];omega
   ·rw[decide_eq_false hx,beq_eq_false_iff_ne];omega
  ·rw[decide_eq_false hj,decide_eq_false (by omega)];rfl
 ·rename_i h
  rw[e2];by_cases hj:j<64
  ·rw[show (64*i+j==x)=false by rw[beq_eq_false_iff_ne];omega,Bool.false_or]
  ·rw[decide_eq_false hj];rfl
structure SeAt (w:World)(H p n:Nat)(m:Nat->Bool)(g cap:Nat):Prop where
 blk:w.heap[p]? =some (.cells #[.slice (some ⟨g,0,none⟩) n cap] 259)
 row:Row w H 260 (.slice (some ⟨g,0,none⟩) n cap) n fun i=>.int .u64 ((wd m i:Nat):Int)
def SeIs (w:World)(H p n:Nat)(m:Nat->Bool):Prop:=∃g cap,SeAt w H p n m g cap
structure StayU (H:Nat)(w w':World):Prop where
 os:w'.os=w.os
 output:w'.output=w.output
 size:w'.heap.size=w.heap.size
 low:∀k,k<H->w'.heap[k]? =w.heap[k]?
 other:∀(k:Nat) (c:Array Value) (t:TypeId),w.heap[k]? =some (Obj.cells c t)->t≠260->w'.heap[k]? =some (Obj.cells c t)
theorem StayU.refl (H:Nat)(w:World):StayU H w w:=⟨rfl,rfl,rfl,fun _ _=>rfl,fun _ _ _ h _=>h⟩
theorem zFB (w:World)(H p n:Nat)(m:Nat->Bool)(h:SeIs w H p n m)(hn:n<=1000000)(x:Nat)(hx:x<64*n):
  Calls prog 172 #[.pointer (some ⟨p,0,none⟩),.int .i64 x] w fun e w'=>e=.returned (.bool (!m x))∧SeIs w' H p n (fun y=>y==x||m y)∧StayU H w w':=by
 obtain⟨g,cap,h⟩:=h;have y0:w.cell? ⟨p,0,none⟩=some (.slice (some ⟨g,0,none⟩) n cap):=by unfold cell?;rw[h.blk];rfl
 obtain⟨g',cp,hv,g1,g2,g3,g4,g5,g6⟩:=h.row.get (by omega);have eg:g'=g:=by injection hv with e1 _ _;injection e1 with e1;injection e1 with e1;exact e1.symm
 subst eg;have y1:w.cell? ⟨g',x/64,none⟩=some (.int .u64 ((wd m (x/64):Nat):Int)):=g5 (x/64) (by omega);have z1:=g6 (x/64);have hsh:bits .and .i64 (x:Int) 63=((x%64:Nat):Int):=by
  have:=yY x 63 (by omega) (by omega);rw[show (63:Nat)=2^6-1 from rfl,Nat.and_two_pow_sub_one_eq_mod] at this;exact this
 have hhas:=zMz m (x/64) (x%64) (by omega);rw[show 64*(x/64)+x%64=x by omega] at hhas;have hpl:2^(x%64)<18446744073709551616:=(Nat.pow_lt_pow_right (by omega) (show x%64<64 by omega):2^(x%64)<2^64)
 have hpp:0<2^(x%64):=Nat.pow_pos (by omega);have hwl:=zM8 m (x/64);have HW:=vl <| zMA m x;have HS:=vl h;have hw1:IntKind.u64.wrap ((2:Int)^(x%64))=((2^(x%64):Nat):Int):=by
  have e1:((2^(x%64):Nat):Int)=(2:Int)^(x%64):=by simp
  rw[<-e1];exact zBD _ (by omega) (by omega)
 have i1:(x:Int)/64<(n:Int):=by omega
 have i2:(0:Int)<=(x:Int)/64:=by omega
 have i3:¬((x:Int)/64<0):=by omega
 have i4:¬((n:Int)<=(x:Int)/64):=by omega
 have ha:=zHe (wd m (x/64)) (2^(x%64)) hwl hpl;rw[hhas,<-hw1] at ha;have HO:Hid (bits .or .u64 ((wd m (x/64):Nat):Int) (IntKind.u64.wrap ((2:Int)^(x%64)))=((wd m (x/64)|||2^(x%64):Nat):Int)):=by
  show _=_;rw[hw1];exact zIm (wd m (x/64)) (2^(x%64)) hwl hpl
 clear h hv g1 g2 g3 g4 g5 g6 hhas;cases hm:m x with
 |true=>
  have hc:(bits .and .u64 ((wd m (x/64):Nat):Int) (IntKind.u64.wrap ((2:Int)^(x%64))) != 0)=true:=by
   rw[ha,hm,if_pos rfl];rw[bne_iff_ne];omega
  have HM:Hid (∀y,(y==x||m y)=m y):=fun y=>by
   by_cases e:y=x
   ·rw[e,hm];simp
   ·rw[show (y==x)=false by simp[e]];rfl
  clear ha hw1 hm hwl hpl hpp;go_in;go_wp2;go_ret;exact⟨rfl,⟨_,_,HS.out.blk,HS.out.row.congr fun i _=>by rw[show (fun y=>y==x||m y)=m from funext HM.out]⟩,StayU.refl _ _⟩
 |false=>
  have hc:(bits .and .u64 ((wd m (x/64):Nat):Int) (IntKind.u64.wrap ((2:Int)^(x%64))) != 0)=false:=by
   rw[ha,hm];simp
  clear ha hw1 hm hwl hpl hpp;go_in;go_wp2;go_ret;have hg:H<=g':=(HS.out.row.get (by omega)).elim fun g h=>h.elim fun c h=>by
   obtain⟨hv,h1,_⟩:=h;injection hv with e1 _ _;injection e1 with e1;injection e1 with e1;omega
  have hpg:p≠g':=fun e=>zL HS.out.row HS.out.blk (by decide) (by rw[e];rfl);have hot:∀(k:Nat) (c:Array Value) (t:TypeId),w.heap[k]? =some (Obj.cells c t)->t≠260->k≠g':=fun k c t hk ht e=>zL HS.out.row hk (Ne.symm ht) (congrArg some e);refine⟨rfl,⟨g',cap,(Below.heap_setCell _ _ _ _ hpg).trans HS.out.blk,?_⟩,⟨rfl,rfl,zC _ _ _,fun k hk=>Below.heap_setCell _ _ _ _ (by show k≠g';omega),fun k c t hk ht=>(Below.heap_setCell _ _ _ _ (hot k c t hk ht)).trans hk⟩⟩;refine Row.congr (HS.out.row.set (x/64) _) fun i _=>?_;rw[HW.out i,HO.out];by_cases e:i=x/64
  ·subst e;simp
  ·simp[e]
theorem zL9:(prog.info? 260).map (fun i=>(i.zero,i.size,i.bytes))=some (some (.int .u64 0),1,8):=by kernel_rfl
theorem zLO (i:Nat):wd (fun _=>false) i=0:=by
 apply Nat.eq_of_testBit_eq;intro j;have e:(wd (fun _=>false) i).testBit j=(decide (j<64)&&false):=zAU _ 64 j;rw[e];simp
def vL (n:Nat):Nat:=2^n/64+1
theorem zFH (w:World)(n:Nat)(hn:n<=24):
  Calls prog 171 #[.int .i64 n] w fun e w'=>∃p,e=.returned (.pointer (some ⟨p,0,none⟩))∧w.heap.size<=p∧SeIs w' w.heap.size p (vL n) (fun _=>false)∧Grew w w':=by
 obtain⟨i0,hi0,hz0,hz1,hz2⟩:=info_parts zL9;have hpw:2^n<=2^24:=Nat.pow_le_pow_right (by omega) hn;have hpw2:=zEU n (by omega);have HN:Hid (vL n=2^n/64+1):=rfl;obtain⟨w1,hmk,ho1,hg1⟩:=run_makeSlice_full (P:=prog) w w.heap.size 257 260 i0 _ 1 underlying257 hi0 hz0 hz1 .i64 .i64 (vL n) (by rw[HN.out];omega) (by rw[hz2,HN.out];omega) (by rw[HN.out];unfold maxLen;omega) (Nat.le_refl _);have HO1:Hid (Row w1 w.heap.size 260 (.slice (some ⟨w.heap.size,0,none⟩) (vL n) (vL n)) (vL n) (fun j=>.int .u64 ((wd (fun _=>false) j:Nat):Int))∧Grew w w1):=by
  refine⟨?_,⟨hg1.os,hg1.output,hg1.size,fun k hk _=>hg1.block k hk (by simp)⟩⟩;have h:=ho1;rw[Nat.mul_one,zAa _ rfl] at h;refine Row.congr (f:=fun _=>.int .u64 0) h fun i _=>?_;rw[zLO];rfl
 have hsz:w.heap.size<w1.heap.size:=(HO1.out.1.get (by rw[HN.out];exact Nat.succ_pos _)).elim fun g h=>h.elim fun c h=>by
  obtain⟨hv,_,h1,_⟩:=h;injection hv with e1 _ _;injection e1 with e1;injection e1 with e1;omega
 have ecast:((vL n:Nat):Int)=((2^n:Nat):Int)/64+1:=by rw[HN.out];omega
 rw[ecast] at hmk;generalize 2^n=z at *;go_in;go_wp2;go_ret;refine⟨_,rfl,by omega,⟨w.heap.size,vL n,heap_alloc_new _ _,?_⟩,HO1.out.2.trans (Keep.alloc _ _ (by omega))⟩;exact zJ HO1.out.1 (Keep.alloc _ _ (Nat.le_refl _))
section
def zL2 (f:Nat->Nat):Nat->Nat
 |0=>0
 |n+1=>zL2 f n|||f n
theorem zL1 (f:Nat->Nat)(k:Nat)(h:∀i,f i<16777216)(n:Nat):zL2 f n<16777216:=by
 induction n with
 |zero=>show 0<16777216;omega
 |succ n ih=>exact Nat.or_lt_two_pow (n:=24) ih (h n)
def spG (by_:List Nat)(i p:Nat):Nat:=if p/8=i/256 then(if (i%256).testBit (p%8) then by_.getD p 0 else 0) else 0
def spF (by_:List Nat)(n i:Nat):Nat:=zL2 (spG by_ i) n
theorem zMH (by_:List Nat)(hs:∀x∈by_,x<16777216)(i p:Nat):spG by_ i p<16777216:=by
 unfold spG;split
 ·split
  ·by_cases h:p<by_.length
   ·exact hs _ (zR _ _ 0 h)
   ·rw[List.getD_eq_getElem?_getD,List.getElem?_eq_none (by omega)];show 0<16777216;omega
  ·omega
 ·omega
theorem zKY (by_:List Nat)(hs:∀x∈by_,x<16777216)(n i:Nat):spF by_ n i<16777216:=zL1 _ 0 (zMH by_ hs i) n
theorem zHq (by_:List Nat)(n i:Nat):spF by_ (n+1) i=spF by_ n i|||spG by_ i n:=rfl
theorem zIl:zeroCells208=((List.range 768).map fun _=>Value.int .i64 0).toArray:=by kernel_rfl
def SpAt (w:World)(f:Nat)(c:Nat->Nat):Prop:=∃cs:Array Value,w.heap[f]? =some (.cells cs 208)∧∀i,i<768->cs[i]? =some (.int .i64 ((c i:Nat):Int))
section
variable {w w2:World} {f:Nat} {c:Nat->Nat}
theorem SpAt.cell (h:SpAt w f c)(i:Nat)(hi:i<768):w.cell? ⟨f,i,none⟩=some (.int .i64 ((c i:Nat):Int))∧w.frozen? ⟨f,i,none⟩=false:=by
 obtain⟨cs,hb,hc⟩:=h
 constructor
 ·unfold cell?;rw[hb];exact hc i hi
 ·unfold frozen?;rw[hb];simp
theorem SpAt.lt (h:SpAt w f c):f<w.heap.size:=by
 obtain⟨cs,hb,_⟩:=h;exact(Array.getElem?_eq_some_iff.1 hb).1
theorem SpAt.set (h:SpAt w f c)(i x:Nat):SpAt (w.setCell ⟨f,i,none⟩ (.int .i64 (x:Int))) f (fun j=>if j=i then x else c j):=by
 obtain⟨cs,hb,hc⟩:=h;refine⟨cs.setIfInBounds i (.int .i64 (x:Int)),by simp[setCell,Array.getElem?_modify,hb],fun j hj=>?_⟩;have h1:=hc j hj;rw[Array.getElem?_setIfInBounds];by_cases e:i=j
 ·subst e
  have:=(Array.getElem?_eq_some_iff.1 h1).1;simp[this]
 ·rw[if_neg e,h1]
  simp[Ne.symm e]
theorem SpAt.congr {c':Nat->Nat}(h:SpAt w f c)(e:∀i,i<768->c i=c' i):SpAt w f c':=by
 obtain⟨cs,hb,hc⟩:=h;exact⟨cs,hb,fun i hi=>by rw[<-e i hi];exact hc i hi⟩
theorem SpAt.keep (h:SpAt w f c)(e:w2.heap[f]? =w.heap[f]?):SpAt w2 f c:=by
 obtain⟨cs,hb,hc⟩:=h;exact⟨cs,e.trans hb,hc⟩
end
theorem zG9 (w:World):SpAt (w.alloc (Obj.cells zeroCells208 208)) w.heap.size (fun _=>0):=by
 refine⟨_,heap_alloc_new _ _,fun i hi=>?_⟩;rw[zIl];simp[hi]
theorem zBv (w:World)(v:Value)(by_:List Nat)(hB:Ints w (In w) v (ints by_))(hn:by_.length<=24)(hs:∀x∈by_,x<16777216):
  Calls prog 128 #[v] w fun e w'=>e=.returned (.pointer (some ⟨w.heap.size,0,none⟩))∧SpAt w' w.heap.size (spF by_ by_.length)∧Grew w w':=by
 obtain⟨ab,cb,rfl,_,_,hbc⟩:=hB;rw[zM] at hbc ⊢;have HBC:Hid (∀i,i<by_.length->∃b o,ab=some ⟨b,o,none⟩∧In w b∧w.cell? ⟨b,o+i,none⟩=some (.int .i64 ((by_.getD i 0:Nat):Int))∧by_.getD i 0<16777216):=by
  intro i hi;obtain⟨b,o,h1,h2,h3⟩:=hbc i hi;rw[vA] at h3;exact⟨b,o,h1,h2,h3,hs _ (zR _ _ 0 hi)⟩
 have HSF:=vl <| zKY by_ hs;have HZ:=vl <| zG9 w;clear hbc hs;go_in;go_wp2;go_loopg [4] by_.length (fun q i wr=>∃j:Nat,q=by_.length-j∧j<=by_.length∧i=.int .i64 (j:Int)∧SpAt wr w.heap.size (spF by_ j)∧Grew w wr)
 case atStart=>exact⟨0,rfl,Nat.zero_le _,rfl,HZ.out,Keep.alloc _ _ (Nat.le_refl _)⟩
 case round=>
  obtain⟨j,hgk,hj,rfl,hsp,hkp⟩:=hrel;have HA:Hid (gk=by_.length-j∧SpAt wr w.heap.size (spF by_ j)∧Grew w wr):=⟨hgk,hsp,hkp⟩
  by_cases hj2:j<by_.length
  ·have i1:(j:Int)<(by_.length:Int):=by omega
   have i2:(j:Int)<24:=by omega
   obtain⟨b,o,rfl,hb,hc,hlt⟩:=HBC.out j hj2;have HC:=vl hc;clear hgk hsp hkp hc;go_wp2;go_loopg [5] 256 (fun q i wr=>∃s:Nat,q=256-s∧s<=256∧i=.int .i64 (s:Int)∧SpAt wr w.heap.size (fun i=>if i%256<s then spF by_ (j+1) i else spF by_ j i)∧Grew w wr)
   case atStart=>exact⟨0,rfl,Nat.zero_le _,rfl,HA.out.2.1.congr fun i _=>by simp,HA.out.2.2⟩
   case round=>
    obtain⟨s,hgk2,hs,rfl,hsp,hkp⟩:=hrel;have HB:Hid (gk=256-s∧SpAt wr w.heap.size (fun i=>if i%256<s then spF by_ (j+1) i else spF by_ j i)∧Grew w wr):=⟨hgk2,hsp,hkp⟩
    by_cases hs2:s<256
    ·have i3:(s:Int)<256:=by omega
     have y1:wr.cell? ⟨b,o+j,none⟩=some (.int .i64 ((by_.getD j 0:Nat):Int)):=zA HC.out hb hkp;have hbit:bits .and .i64 ((s:Int)/2^(j%8)) 1=((s/2^(j%8)%2:Nat):Int):=by
      rw[zBq];exact zD5 _ (Nat.lt_of_le_of_lt (Nat.div_le_self _ _) (by omega))
     have HT:Hid (s.testBit (j%8)=decide (s/2^(j%8)%2=1)):=Nat.testBit_eq_decide_div_mod_eq;have hI:j/8*256+s<768:=by omega
     obtain⟨y2,z2⟩:=hsp.cell (j/8*256+s) hI;have y3:wr.cell? ⟨w.heap.size,j/8*256+s,none⟩=some (.int .i64 ((spF by_ j (j/8*256+s):Nat):Int)):=by
      rw[y2,if_neg (by omega)]
     have HGen:Hid (∀i,i<768->(if i%256<s+1 then spF by_ (j+1) i else spF by_ j i)=if i=j/8*256+s then spF by_ j i|||(if s.testBit (j%8) then by_.getD j 0 else 0) else if i%256<s then spF by_ (j+1) i else spF by_ j i):=fun i hi=>by
      by_cases e:i=j/8*256+s
      ·rw[if_pos e,if_pos (by omega),zHq]
       congr 1
       unfold spG;rw[if_pos (by omega),show i%256=s by omega]
      ·rw[if_neg e]
       by_cases e2:i%256<s
       ·rw[if_pos e2,if_pos (by omega)]
       ·rw[if_neg e2]
        by_cases e3:i%256<s+1
        ·rw[if_pos e3,zHq]
         unfold spG;rw[if_neg (by omega),Nat.or_zero]
        ·rw[if_neg e3]
     have hcl:=HSF.out j (j/8*256+s);clear hgk2 hsp hkp y2;cases htb:s.testBit (j%8) with
     |true=>
      have hc1:(bits .and .i64 ((s:Int)/2^(j%8)) 1==1)=true:=by
       have h1:=HT.out;rw[htb] at h1;rw[hbit,of_decide_eq_true h1.symm];rfl
      rw[htb] at HGen;have HOR:Hid (bits .or .i64 ((spF by_ j (j/8*256+s):Nat):Int) ((by_.getD j 0:Nat):Int)=((spF by_ j (j/8*256+s)|||by_.getD j 0:Nat):Int)):=yK _ _ (by omega) (by omega);clear hbit HT htb;generalize hr:by_.getD j 0=r at *;generalize hc0:spF by_ j (j/8*256+s)=c0 at *;have HC0:Hid (spF by_ j (j/8*256+s)=c0):=hc0;clear hr hc0;have i5:(j:Int)/8<3:=by omega
      have i6:(0:Int)<=(j:Int)/8:=by omega
      go_wp2;go_region;go_wp2;go_roundg (256-(s+1))
      case measure=>rw[HB.out.1];omega
      case rel=>
       refine⟨s+1,rfl,by omega,by go_num,?_,HB.out.2.2.trans (Keep.trans (zN _ _ _ _ (Nat.le_refl _)) (Keep.drew _))⟩;have h:=HB.out.2.1.set (j/8*256+s) (c0|||r);rw[<-HOR.out] at h;refine SpAt.keep (SpAt.congr h fun i hi=>?_) rfl;show(if i=_ then _ else if _ then _ else _)=if _ then _ else _
       rw[HGen.out i hi];by_cases e:i=j/8*256+s
       ·rw[if_pos e,if_pos e,e,HC0.out];simp
       ·rw[if_neg e,if_neg e]
     |false=>
      have hc1:(bits .and .i64 ((s:Int)/2^(j%8)) 1==1)=false:=by
       have h1:=HT.out;rw[htb] at h1;have h2:=of_decide_eq_false h1.symm;rw[hbit,beq_eq_false_iff_ne];omega
      rw[htb] at HGen;clear hbit HT htb;go_wp2;go_roundg (256-(s+1))
      case measure=>rw[HB.out.1];omega
      case rel=>
       refine⟨s+1,rfl,by omega,by go_num,?_,HB.out.2.2⟩;refine HB.out.2.1.congr fun i hi=>?_;show(if _ then _ else _)=if _ then _ else _
       rw[HGen.out i hi];by_cases e:i=j/8*256+s
       ·rw[if_pos e,if_neg (by omega),if_neg (by decide),Nat.or_zero]
       ·rw[if_neg e]
    ·have i3:(256:Int)<=(s:Int):=by omega
     have e:s=256:=by omega
     subst e;have HD:Hid (SpAt wr w.heap.size (spF by_ (j+1))):=hsp.congr fun i _=>by rw[if_pos (Nat.mod_lt _ (by omega))]
     clear hgk2 hsp hkp;go_wp2;go_roundg (by_.length-(j+1))
     case measure=>rw[HA.out.1];omega
     case rel=>exact⟨j+1,rfl,by omega,by go_num,HD.out,HB.out.2.2⟩
  ·have i1:(by_.length:Int)<=(j:Int):=by omega
   have e:j=by_.length:=by omega
   subst e;clear hgk hsp hkp;go_wp2;go_ret;exact⟨rfl,HA.out.2.1,HA.out.2.2⟩
end
def zAn (c:Nat->Nat)(x:Nat):Nat:=c (x%256)|||c (256+x/256%256)|||c (512+x/65536%256)
theorem zLS (c:Nat->Nat)(h:∀i,c i<16777216)(x:Nat):zAn c x<16777216:=Nat.or_lt_two_pow (n:=24) (Nat.or_lt_two_pow (n:=24) (h _) (h _)) (h _)
theorem zBF (w:World)(f:Nat)(c:Nat->Nat)(h:SpAt w f c)(hc:∀i,c i<16777216)(x:Nat)(hx:x<16777216):
  Calls prog 92 #[.pointer (some ⟨f,0,none⟩),.int .i64 x] w fun e w'=>e=.returned (.int .i64 ((zAn c x:Nat):Int))∧Grew w w':=by
 have m:∀y:Nat,y<16777216->bits .and .i64 (y:Int) 255=((y%256:Nat):Int):=fun y hy=>by
  have:=yY y 255 (by omega) (by omega);rw[show (255:Nat)=2^8-1 from rfl,Nat.and_two_pow_sub_one_eq_mod] at this;exact this
 have m0:=m x hx;have m1:bits .and .i64 ((x:Int)/256) 255=((x/256%256:Nat):Int):=by
  have:=m (x/256) (by omega);rw[<-this]
  congr 1
 have m2:bits .and .i64 ((x:Int)/65536) 255=((x/65536%256:Nat):Int):=by
  have:=m (x/65536) (by omega);rw[<-this]
  congr 1
 have y0:=(h.cell (x%256) (by omega)).1;have y1:=(h.cell (256+x/256%256) (by omega)).1;have y2:=(h.cell (512+x/65536%256) (by omega)).1;have HV:Hid (zAn c x=c (x%256)|||c (256+x/256%256)|||c (512+x/65536%256)):=rfl;have l0:=hc (x%256);have l1:=hc (256+x/256%256);have l2:=hc (512+x/65536%256);have i0:((x%256:Nat):Int)<256:=by omega
 have i1:((x/256%256:Nat):Int)<256:=by omega
 have i2:((x/65536%256:Nat):Int)<256:=by omega
 clear m hc h;generalize x%256=p0 at *;generalize x/256%256=p1 at *;generalize x/65536%256=p2 at *;generalize c p0=c0 at *;generalize c (256+p1)=c1 at *;generalize c (512+p2)=c2 at *;have o1:=yK c0 c1 (by omega) (by omega);have o2:=yK (c0|||c1) c2 (Nat.lt_trans (Nat.or_lt_two_pow (n:=24) l0 l1) (by omega)) (by omega);rw[<-o1] at o2;have HO:=vl o2;clear o1 o2;go_in;go_wp2;go_quiet (fail);go_wp2;go_ret;refine⟨?_,Keep.alike (w':=w.drewN nq) ⟨rfl,rfl,rfl⟩⟩;rw[HV.out,<-HO.out];rfl
def yR (follow:List Nat)(n q:Nat):Nat:=qL (fun p=>(follow.getD p 0).testBit q) n
def zCh (follow:List Nat):List Nat:=(List.range follow.length).map (yR follow follow.length)
theorem zDo (follow:List Nat):(zCh follow).length=follow.length:=by simp[zCh]
theorem zJS (follow:List Nat)(q:Nat)(hq:q<follow.length):(zCh follow).getD q 0=yR follow follow.length q:=by
 unfold zCh;rw[List.getD_eq_getElem?_getD,List.getElem?_map,List.getElem?_range hq];rfl
theorem zHf (follow:List Nat)(n q:Nat)(hn:n<=24):yR follow n q<16777216:=Nat.lt_of_lt_of_le (zBc _ n) (Nat.pow_le_pow_right (by omega) hn:2^n<=2^24)
theorem zIn (follow:List Nat)(n q:Nat):yR follow (n+1) q=if(follow.getD n 0).testBit q then yR follow n q|||2^n else yR follow n q:=rfl
theorem zL0 (a j:Nat)(hj:j<62)(ha:a<9223372036854775808):bits .or .i64 (a:Int) (IntKind.i64.wrap (2^j))=((a|||2^j:Nat):Int):=by
 have h1:2^j<2^62:=Nat.pow_lt_pow_right (by omega) hj;have e:((2:Int)^j)=((2^j:Nat):Int):=by simp
 rw[e];generalize 2^j=z at *;rw[zBT _ (by omega) (by omega)];exact yK _ _ ha (by omega)
theorem zJJ (x q:Nat)(hx:x<9223372036854775808):(bits .and .i64 ((x:Int)/2^q) 1==1)=x.testBit q:=by
 have hbit:bits .and .i64 ((x:Int)/2^q) 1=((x/2^q%2:Nat):Int):=by
  rw[zBq];exact zD5 _ (Nat.lt_of_le_of_lt (Nat.div_le_self _ _) hx)
 have HT:x.testBit q=decide (x/2^q%2=1):=Nat.testBit_eq_decide_div_mod_eq;rw[hbit,HT];by_cases e:x/2^q%2=1
 ·rw[e];rfl
 ·rw[decide_eq_false e,beq_eq_false_iff_ne];omega
theorem zGl (w:World)(v:Value)(fo:List Nat)(hB:Ints w (In w) v (ints fo))(hn:fo.length<=24)(hs:∀x∈fo,x<16777216):
  Calls prog 170 #[v] w fun e w'=>∃u,e=.returned u∧Ints w' (In w') u (ints (zCh fo))∧Grew w w':=by
 obtain⟨i0,hi0,hz0,hz1,hz2⟩:=info_parts yH;obtain⟨ab,cb,rfl,_,_,hbc⟩:=hB;rw[zM] at hbc ⊢;have HBC:Hid (∀i,i<fo.length->∃b o,ab=some ⟨b,o,none⟩∧In w b∧w.cell? ⟨b,o+i,none⟩=some (.int .i64 ((fo.getD i 0:Nat):Int))∧fo.getD i 0<16777216):=by
  intro i hi;obtain⟨b,o,h1,h2,h3⟩:=hbc i hi;rw[vA] at h3;exact⟨b,o,h1,h2,h3,hs _ (zR _ _ 0 hi)⟩
 obtain⟨w1,hmk,ho1,hg1⟩:=run_makeSlice_full (P:=prog) w w.heap.size 45 3 i0 _ 1 underlying45 hi0 hz0 hz1 .i64 .i64 fo.length (by omega) (by rw[hz2];omega) (by unfold maxLen;omega) (Nat.le_refl _);have HO1:Hid (Row w1 w.heap.size 3 (.slice (some ⟨w.heap.size,0,none⟩) fo.length fo.length) fo.length (fun q=>.int .i64 ((yR fo 0 q:Nat):Int))∧Grew w w1):=by
  refine⟨?_,⟨hg1.os,hg1.output,hg1.size,fun k hk _=>hg1.block k hk (by simp)⟩⟩;have h:=ho1;rw[Nat.mul_one,zAa _ rfl] at h;exact h
 have HFin:Hid (∀wr,Row wr w.heap.size 3 (.slice (some ⟨w.heap.size,0,none⟩) fo.length fo.length) fo.length (fun q=>.int .i64 ((yR fo fo.length q:Nat):Int))->Ints wr (In wr) (.slice (some ⟨w.heap.size,0,none⟩) fo.length fo.length) (ints (zCh fo))):=fun wr h=>by
  refine zAB (H:=w.heap.size) (Row.ownI ?_);rw[zM,zDo];refine h.congr fun q hq=>?_;rw[vA,zJS _ _ hq]
 have HTL:Hid (∀j q,j<=24->yR fo j q<16777216):=fun j q h=>zHf fo j q h;clear hbc hs ho1 hg1;go_in;go_wp2;clear hmk;go_loopg [12] fo.length (fun k i wr=>∃j:Nat,k=fo.length-j∧j<=fo.length∧i=.int .i64 (j:Int)∧Row wr w.heap.size 3 (.slice (some ⟨w.heap.size,0,none⟩) fo.length fo.length) fo.length (fun q=>.int .i64 ((yR fo j q:Nat):Int))∧Grew w wr)
 case atStart=>exact⟨0,rfl,Nat.zero_le _,rfl,HO1.out.1,HO1.out.2⟩
 case round=>
  obtain⟨j,hgk,hj,rfl,hsp,hkp⟩:=hrel;have HA:Hid (gk=fo.length-j∧Row wr w.heap.size 3 (.slice (some ⟨w.heap.size,0,none⟩) fo.length fo.length) fo.length (fun q=>.int .i64 ((yR fo j q:Nat):Int))∧Grew w wr):=⟨hgk,hsp,hkp⟩
  by_cases hj2:j<fo.length
  ·have i1:(j:Int)<(fo.length:Int):=by omega
   obtain⟨b,o,rfl,hb,hc,hlt⟩:=HBC.out j hj2;have y1:wr.cell? ⟨b,o+j,none⟩=some (.int .i64 ((fo.getD j 0:Nat):Int)):=zA hc hb hkp;have HSU:Hid (∀q,yR fo (j+1) q=if(fo.getD j 0).testBit q then yR fo j q|||2^j else yR fo j q):=fun q=>zIn fo j q;clear hgk hsp hkp hc;generalize fo.getD j 0=r at *;go_wp2;clear y1;go_loopg [19] fo.length (fun k i wr=>∃s:Nat,k=fo.length-s∧s<=fo.length∧i=.int .i64 (s:Int)∧Row wr w.heap.size 3 (.slice (some ⟨w.heap.size,0,none⟩) fo.length fo.length) fo.length (fun q=>.int .i64 (((if q<s then yR fo (j+1) q else yR fo j q:Nat)):Int))∧Grew w wr)
   case atStart=>exact⟨0,rfl,Nat.zero_le _,rfl,HA.out.2.1.congr fun i _=>by simp,HA.out.2.2⟩
   case round=>
    obtain⟨s,hgk2,hs,rfl,hsp,hkp⟩:=hrel;have HB:Hid (gk=fo.length-s∧Row wr w.heap.size 3 (.slice (some ⟨w.heap.size,0,none⟩) fo.length fo.length) fo.length (fun q=>.int .i64 (((if q<s then yR fo (j+1) q else yR fo j q:Nat)):Int))∧Grew w wr):=⟨hgk2,hsp,hkp⟩
    by_cases hs2:s<fo.length
    ·have i3:(s:Int)<(fo.length:Int):=by omega
     obtain⟨g,cp,hv,g1,g2,g3,g4,g5,g6⟩:=hsp.get (by omega);have eg:g=w.heap.size:=by injection hv with e1 _ _;injection e1 with e1;injection e1 with e1;exact e1.symm
     subst eg;have y2:wr.cell? ⟨w.heap.size,s,none⟩=some (.int .i64 ((yR fo j s:Nat):Int)):=by
      rw[g5 s hs2,if_neg (by omega)]
     have z2:=g6 s;have hbit:=zJJ r s (by omega);have htl:=HTL.out j s (by omega);have HGen:Hid (∀i,i<fo.length->(if i<s+1 then yR fo (j+1) i else yR fo j i)=if i=s then(if r.testBit s then yR fo j s|||2^j else yR fo j s) else if i<s then yR fo (j+1) i else yR fo j i):=fun i hi=>by
      by_cases e:i=s
      ·rw[if_pos e,if_pos (by omega),e,HSU.out s]
      ·rw[if_neg e]
       by_cases e2:i<s
       ·rw[if_pos e2,if_pos (by omega)]
       ·rw[if_neg e2,if_neg (by omega)]
     clear hgk2 hsp hkp hv g1 g2 g3 g4 g5 g6;cases htb:r.testBit s with
     |true=>
      rw[htb] at hbit HGen;have HOR:Hid (bits .or .i64 ((yR fo j s:Nat):Int) (IntKind.i64.wrap (2^j))=((yR fo j s|||2^j:Nat):Int)):=zL0 _ j (by omega) (by omega);have HOR2:Hid (bits .or .i64 ((yR fo j s:Nat):Int) (wrap64 (2^j))=((yR fo j s|||2^j:Nat):Int)):=zK8 _ j (by omega) (by omega);clear htb;generalize yR fo j s=c0 at *;go_wp2;go_region;go_wp2;go_roundg (fo.length-(s+1))
      case measure=>rw[HB.out.1];omega
      case rel=>
       refine⟨s+1,rfl,by omega,by go_num,?_,HB.out.2.2.trans (Keep.trans (zN _ _ _ _ (Nat.le_refl _)) (Keep.drew _))⟩;have h:=HB.out.2.1.set s (.int .i64 ((c0|||2^j:Nat):Int));rw[<-HOR2.out] at h;refine Row.congr (w:=(wr.setCell ⟨w.heap.size,s,none⟩ _).drew) h fun i hi=>?_;rw[HGen.out i hi];by_cases e:i=s
       ·rw[if_pos e,if_pos e];rw[HOR2.out];simp
       ·rw[if_neg e,if_neg e]
     |false=>
      rw[htb] at hbit HGen;clear htb;go_wp2;go_roundg (fo.length-(s+1))
      case measure=>rw[HB.out.1];omega
      case rel=>
       refine⟨s+1,rfl,by omega,by go_num,?_,HB.out.2.2⟩;refine HB.out.2.1.congr fun i hi=>?_;rw[HGen.out i hi];by_cases e:i=s
       ·rw[if_pos e,if_neg (by omega),e];simp
       ·rw[if_neg e]
    ·have i3:(fo.length:Int)<=(s:Int):=by omega
     have HD:=vl <| hsp.congr fun i hi=>by rw[if_pos (by omega)]
     clear hgk2 hsp hkp;go_wp2;go_roundg (fo.length-(j+1))
     case measure=>rw[HA.out.1];omega
     case rel=>exact⟨j+1,rfl,by omega,by go_num,HD.out,HB.out.2.2⟩
  ·have i1:(fo.length:Int)<=(j:Int):=by omega
   have e:j=fo.length:=by omega
   subst e;clear hgk hsp hkp;go_wp2;go_ret;exact⟨_,rfl,HFin.out _ HA.out.2.1,HA.out.2.2⟩
section
def zG4 (l:List Nat)(x:Nat):List Nat:=if l.contains x then l else l++[x]
def zA5 (c:Nat->Nat)(ls:List Nat)(t:Nat)(l:List Nat):Nat->List Nat
 |0=>l
 |k+1=>zG4 (zA5 c ls t l k) (zAn c (t&&&ls.getD k 0))
def jC (c:Nat->Nat)(ls:List Nat):Nat->Nat->List Nat->List Nat
 |0,_,l=>l
 |f+1,i,l=>if i<l.length then jC c ls f (i+1) (zA5 c ls (l.getD i 0) l ls.length) else l
def zMF (c:Nat->Nat)(ls:List Nat)(ends:Nat):List Nat:=jC c ls 16777216 0 [ends]
structure Once (B:Nat)(l:List Nat):Prop where
 nd:l.Nodup
 lt:∀x∈l,x<B
theorem zLc (B:Nat)(l:List Nat)(h:Once B l):l.length<=B:=by
 induction B generalizing l with
 |zero=>
  cases l with
  |nil=>exact Nat.le_refl _
  |cons x l=>exact absurd (h.lt x (List.mem_cons_self)) (by omega)
 |succ B ih=>
  have h2:Once B (l.erase B):=⟨h.nd.erase B,fun x hx=>by
   have h3:=(h.nd.mem_erase_iff.1 hx)
   have:=h.lt x h3.2;have:=h3.1;omega⟩
  have:=ih _ h2;have h4:=List.length_erase (a:=B) (l:=l);rw[h4] at this;split at this <;> omega
theorem zKR {B:Nat}{l:List Nat}{x:Nat}(h:Once B l)(hx:x<B):Once B (zG4 l x):=by
 unfold zG4;split
 ·exact h
 ·rename_i hc
  refine⟨?_,fun y hy=>?_⟩
  ·rw[List.nodup_append]
   refine⟨h.nd,by simp,fun a ha b hb e=>?_⟩;rw[List.mem_singleton.1 hb] at e;subst e;exact hc (by simpa using ha)
  ·rcases List.mem_append.1 hy with h1|h1
   ·exact h.lt y h1
   ·rw[List.mem_singleton.1 h1];exact hx
theorem zLH (l:List Nat)(x:Nat):l.length<=(zG4 l x).length∧∀i,i<l.length->(zG4 l x).getD i 0=l.getD i 0:=by
 unfold zG4;split
 ·exact⟨Nat.le_refl _,fun _ _=>rfl⟩
 ·refine⟨by simp,fun i hi=>?_⟩
  rw[List.getD_eq_getElem?_getD,List.getElem?_append_left hi,List.getD_eq_getElem?_getD]
theorem zHX (c:Nat->Nat)(ls:List Nat)(t:Nat)(l:List Nat)(k:Nat):l.length<=(zA5 c ls t l k).length∧∀i,i<l.length->(zA5 c ls t l k).getD i 0=l.getD i 0:=by
 induction k with
 |zero=>exact⟨Nat.le_refl _,fun _ _=>rfl⟩
 |succ k ih=>
  have h:=zLH (zA5 c ls t l k) (zAn c (t&&&ls.getD k 0));exact⟨Nat.le_trans ih.1 h.1,fun i hi=>(h.2 i (by omega)).trans (ih.2 i hi)⟩
theorem zGb {B:Nat}{c:Nat->Nat}(hc:∀x,zAn c x<B)(ls:List Nat)(t:Nat){l:List Nat}(h:Once B l)(k:Nat):Once B (zA5 c ls t l k):=by
 induction k with
 |zero=>exact h
 |succ k ih=>exact zKR ih (hc _)
theorem zGo {B:Nat}{c:Nat->Nat}(hc:∀x,zAn c x<B)(ls:List Nat)(f:Nat):∀i l,Once B l->Once B (jC c ls f i l):=by
 induction f with
 |zero=>exact fun i l h=>h
 |succ f ih=>
  intro i l h;unfold jC;split
  ·exact ih _ _ (zGb hc ls _ h _)
  ·exact h
theorem zK9 (f:Nat->Nat)(k:Nat)(h:∀i,f i<2^k)(n:Nat):zL2 f n<2^k:=by
 induction n with
 |zero=>exact Nat.pow_pos (by omega)
 |succ n ih=>exact Nat.or_lt_two_pow ih (h n)
theorem zLT (by_:List Nat)(k:Nat)(hs:∀x∈by_,x<2^k)(n i:Nat):spF by_ n i<2^k:=by
 refine zK9 _ k (fun p=>?_) n;have h0:0<2^k:=Nat.pow_pos (by omega);unfold spG;split
 ·split
  ·by_cases h:p<by_.length
   ·exact hs _ (zR _ _ 0 h)
   ·rw[List.getD_eq_getElem?_getD,List.getElem?_eq_none (by omega)];exact h0
  ·exact h0
 ·exact h0
theorem zHp (c:Nat->Nat)(k:Nat)(h:∀i,c i<2^k)(x:Nat):zAn c x<2^k:=Nat.or_lt_two_pow (Nat.or_lt_two_pow (h _) (h _)) (h _)
structure Tt (w0 w:World)(fb ps N:Nat)(c:Nat->Nat)(u:Value)(l:List Nat)(m:Nat->Bool):Prop where
 sp:SpAt w fb c
 se:SeIs w w0.heap.size ps N m
 own:w.ownsRow w0.heap.size 21 1 u l.length (l.map fun(x:Nat)=>.int .i32 (x:Int))
 keep:Grew w0 w
section
variable {w0 w w2:World} {fb ps N:Nat} {c:Nat->Nat} {u:Value} {l:List Nat} {m:Nat->Bool}
theorem SeIs.grown {H:Nat}(h:SeIs w H ps N m)(hk:Grew w w2):SeIs w2 H ps N m:=by
 obtain⟨g,cap,h⟩:=h;have hl:=(Array.getElem?_eq_some_iff.1 h.blk).1;exact⟨g,cap,(hk.block ps hl (Nat.ne_of_lt hl)).trans h.blk,zJ h.row hk⟩
theorem Tt.grown (h:Tt w0 w fb ps N c u l m)(hk:Grew w w2):Tt w0 w2 fb ps N c u l m:=
 ⟨h.sp.keep (hk.block fb h.sp.lt (Nat.ne_of_lt h.sp.lt)),h.se.grown hk,zJ h.own hk,h.keep.trans (hk.lower h.keep.size h.keep.size)⟩
theorem Tt.add {m':Nat->Bool}(h:Tt w0 w fb ps N c u l m)(hs:StayU w0.heap.size w w2)(he:SeIs w2 w0.heap.size ps N m'):Tt w0 w2 fb ps N c u l m':=by
 refine⟨?_,he,zD h.own fun g _ _ hg=>?_,h.keep.trans ⟨hs.os,hs.output,Nat.le_of_eq hs.size.symm,fun k hk _=>hs.low k hk⟩⟩
 ·obtain⟨cs,hb,hc⟩:=h.sp
  exact⟨cs,hs.other fb cs _ hb (by decide),hc⟩
 ·rcases h.own.2 with⟨hv,_⟩|⟨g1,cap,cur,hv,_,hh,_⟩
  ·rw[hv] at hg;cases hg
  ·rw[hv] at hg
   have e:g1=g:=by simpa[Value.ownBlock] using hg
   subst e;rw[hh];exact hs.other g1 cur _ hh (by decide)
theorem Tt.app {o:Obj}{g cap x:Nat}(h:Tt w0 w fb ps N c u l m)(hown:w2.ownsRow w0.heap.size 21 1 (.slice (some ⟨g,0,none⟩) (l.length+1) cap) (l.length+1) ((l.map fun(x:Nat)=>.int .i32 (x:Int))++[.int .i32 (x:Int)]))(hg:(w.alloc o).grownBy w2 u.ownBlock):
  Tt w0 w2 fb ps N c (.slice (some ⟨g,0,none⟩) (l.length+1) cap) (l++[x]) m:=by
 have hbl:∀j,j<w.heap.size->some j≠u.ownBlock->w2.heap[j]? =w.heap[j]? :=fun j hj hf=>(hg.block j (by simp;omega) hf).trans (Below.heap_alloc _ _ _ (by omega));refine⟨?_,?_,?_,h.keep.trans ⟨hg.os,hg.output,Nat.le_trans (by simp) hg.size,fun k hk _=>hbl k (Nat.lt_of_lt_of_le hk h.keep.size) fun e=>by have:=(h.own.lt k e.symm).1;omega⟩⟩
 ·obtain⟨cs,hb,hc⟩:=h.sp
  exact⟨cs,(hbl fb h.sp.lt (zL h.own hb (by decide))).trans hb,hc⟩
 ·obtain⟨gs,cp,hse⟩:=h.se
  have hl:=(Array.getElem?_eq_some_iff.1 hse.blk).1;exact⟨gs,cp,(hbl ps hl (zL h.own hse.blk (by decide))).trans hse.blk,zP hg hse.row fun k hk=>xM hse.row h.own (by decide) hk⟩
 ·have e:(l++[x]).length=l.length+1:=by simp
  rw[e,List.map_append];exact hown
end
end
end Go.Proofs.YtbjcfkdnjaiclaaGreat
