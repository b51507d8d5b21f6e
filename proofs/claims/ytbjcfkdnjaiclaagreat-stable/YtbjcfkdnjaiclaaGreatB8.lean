import Derived.Deep.RegionHeld3
import Derived.Test.YtbjcfkdnjaiclaaGreatB0
import Derived.Test.YtbjcfkdnjaiclaaGreatB7
/- Parts of the proof, in order. -/
set_option linter.unusedVariables false
set_option linter.unusedSimpArgs false
set_option maxHeartbeats 4000000
set_option maxRecDepth 100000
namespace Go.Proofs.YtbjcfkdnjaiclaaGreat
open Go.RowKit Go.Proofs.Tryz Go.World
theorem zLG {α:Type}(l:List α)(p:α->Bool)(d:α)(i:Nat)(hi:i<l.length)(h:p (l.getD i d)=true):l.any p=true:=by
 rw[List.any_eq_true];exact⟨_,zR l i d hi,h⟩
theorem zIf {α:Type}(l:List α)(p:α->Bool)(d:α)(h:∀i,i<l.length->p (l.getD i d)=false):l.any p=false:=by
 rw[List.any_eq_false];intro x hx;obtain⟨i,hi,rfl⟩:=List.getElem_of_mem hx;have:=h i hi;rw[List.getD_eq_getElem?_getD,List.getElem?_eq_getElem hi] at this;simpa using this
theorem zHU (w:World)(rv:Value)(s:Cs)(hR:RangesAt w rv s.ranges)(hl:s.ranges.length<=1000000000000)(c:Int):
  Calls prog 192 #[.agg #[rv,.bool s.others],.int .i64 c] w fun e w'=>e=.returned (.bool (s.lists c))∧Grew w w':=by
 obtain⟨ao,cap,rfl,_,_,h3⟩:=hR;have HR:=vl h3;have HV:Hid (∀i,i<s.ranges.length->(s.ranges.getD i (0,0)).1<=c->c<=(s.ranges.getD i (0,0)).2->s.lists c=true):=fun i hi h1 h2=>zLG _ _ (0,0) i hi (by show(decide _&&decide _)=true;rw[decide_eq_true h1,decide_eq_true h2];rfl);have HN:Hid ((∀i,i<s.ranges.length->¬((s.ranges.getD i (0,0)).1<=c∧c<=(s.ranges.getD i (0,0)).2))->s.lists c=false):=fun h=>zIf _ _ (0,0) fun i hi=>by
  have:=h i hi;simpa using this
 go_in;go_wp2;go_loopg [10] s.ranges.length (fun q i wr=>∃j:Nat,q=s.ranges.length-j∧j<=s.ranges.length∧i=.int .i64 (j:Int)∧(∀i,i<j->¬((s.ranges.getD i (0,0)).1<=c∧c<=(s.ranges.getD i (0,0)).2))∧Grew w wr)
 case atStart=>exact⟨0,rfl,Nat.zero_le _,rfl,fun i hi=>by omega,Keep.alloc _ _ (Nat.le_refl _)⟩
 case round=>
  obtain⟨j,hgk,hj,rfl,hno,hkp⟩:=hrel;have HA:Hid (gk=s.ranges.length-j∧(∀i,i<j->¬((s.ranges.getD i (0,0)).1<=c∧c<=(s.ranges.getD i (0,0)).2))∧Grew w wr):=⟨hgk,hno,hkp⟩
  by_cases hj2:j<s.ranges.length
  ·have i1:(j:Int)<(s.ranges.length:Int):=by omega
   obtain⟨b,o,rfl,hb,c0,c1⟩:=HR.out j hj2;have y0:wr.cell? ⟨b,o+j*2,none⟩=some (.int .i64 (s.ranges.getD j (0,0)).1):=zA c0 hb hkp;have y1:wr.cell? ⟨b,o+j*2+1,none⟩=some (.int .i64 (s.ranges.getD j (0,0)).2):=zA c1 hb hkp;have HV2:=vl <| HV.out j hj2;have HN2:Hid (¬((s.ranges.getD j (0,0)).1<=c∧c<=(s.ranges.getD j (0,0)).2)->∀i,i<j+1->¬((s.ranges.getD i (0,0)).1<=c∧c<=(s.ranges.getD i (0,0)).2)):=fun h i hi=>by
    by_cases e:i=j
    ·rw[e];exact h
    ·exact HA.out.2.1 i (by omega)
   clear c0 c1 hgk hno hkp;generalize (s.ranges.getD j (0,0)).1=x at *;generalize (s.ranges.getD j (0,0)).2=y at *;have hka:Grew w (wr.alloc (.cells #[.int .i64 x,.int .i64 y] 255)):=HA.out.2.2.trans (Keep.alloc _ _ HA.out.2.2.size);have HKA:=vl hka;clear hka;by_cases h1:x<=c
   ·by_cases h2:c<=y
    ·have HH:=vl <| HV2.out h1 h2
     go_wp2;go_ret;exact⟨by rw[HH.out];rfl,HKA.out⟩
    ·have HH:=vl h2
     go_wp2;go_roundg (s.ranges.length-(j+1))
     case measure=>rw[HA.out.1];omega
     case rel=>exact⟨j+1,rfl,by omega,by go_num,HN2.out (fun h=>by have:=HH.out;omega),HKA.out⟩
   ·have HH:=vl h1
    go_wp2;go_roundg (s.ranges.length-(j+1))
    case measure=>rw[HA.out.1];omega
    case rel=>exact⟨j+1,rfl,by omega,by go_num,HN2.out (fun h=>by have:=HH.out;omega),HKA.out⟩
  ·have i1:(s.ranges.length:Int)<=(j:Int):=by omega
   have HZ:=vl <| HN.out fun i hi=>hno i (by omega);clear hgk hno hkp;go_wp2;go_ret;exact⟨by rw[HZ.out];rfl,HA.out.2.2⟩
theorem zKq (w:World)(rv:Value)(s:Cs)(hR:RangesAt w rv s.ranges)(hl:s.ranges.length<=1000000000000)(c:Int):
  Calls prog 184 #[.agg #[rv,.bool s.others],.int .i64 c] w fun e w'=>e=.returned (.bool (s.has c))∧Grew w w':=by
 obtain⟨ao,cap,hrv,_⟩:=id hR;have HRV:=vl hrv;clear hrv;obtain⟨w1,hw1,K1,y0,y1⟩:∃w1,w1=w.alloc (.cells #[rv,.bool s.others] 161)∧Hid (Grew w w1∧w.heap.size<w1.heap.size)∧w1.cell? ⟨w.heap.size,0,none⟩=some rv∧w1.cell? ⟨w.heap.size,1,none⟩=some (.bool s.others):=by
  have h:=heap_alloc_new w (.cells #[rv,.bool s.others] 161);refine⟨_,rfl,⟨Keep.alloc _ _ (Nat.le_refl _),by simp⟩,?_,?_⟩ <;> ·unfold cell?;rw[h];rfl
 have HL:Hid (Calls prog 192 #[.agg #[rv,.bool s.others],.int .i64 c] w1.drew fun e w'=>e=.returned (.bool (s.lists c))∧w'.cell? ⟨w.heap.size,1,none⟩=some (.bool s.others)∧w'.cell? ⟨w.heap.size,0,none⟩=some rv∧Grew w w'):=by
  refine(zHU w1.drew rv s ((hR.grown K1.out.1).grown (Keep.drew _)) hl c).mono ?_;rintro e w2 ⟨rfl,hk⟩;exact⟨rfl,zA (w:=w1.drew) y1 K1.out.2 hk,zA (w:=w1.drew) y0 K1.out.2 hk,K1.out.1.trans ((Keep.undrew hk).lower K1.out.1.size K1.out.1.size)⟩
 cases hc:zDG c with
 |false=>
  have HC:Hid (s.has c=false):=by show _=_;unfold Cs.has;rw[hc];rfl
  have HI:Hid (∀w,Calls prog 191 #[.int .i64 c] w fun e w'=>e=.returned (.bool false)∧w'=w):=fun w=>by rw[<-hc];exact zE5 w c
  go_in;refine wp_cut ?_;intro K0 HK0;go_wp2;refine HK0.out _ _ ?_;rw[<-hw1];clear hw1;go_wp2;go_quiet ((go_at_call 191;exact Calls.quiet_of_same (HI.out _)));go_wp2;go_ret;exact⟨by rw[HC.out];rfl,K1.out.1.trans ⟨rfl,rfl,Nat.le_refl _,fun _ _ _=>rfl⟩⟩
 |true=>
  have HC:Hid (s.has c=(s.lists c != s.others)):=by show _=_;unfold Cs.has;rw[hc];rfl
  have HI:Hid (∀w,Calls prog 191 #[.int .i64 c] w fun e w'=>e=.returned (.bool true)∧w'=w):=fun w=>by rw[<-hc];exact zE5 w c
  clear hc;go_in;refine wp_cut ?_;intro K0 HK0;go_wp2;refine HK0.out _ _ ?_;clear HK0;rw[<-hw1];clear hw1;go_wp2;go_region_held3 (fun w'=>w'.cell? ⟨w.heap.size,0,none⟩=some rv∧w'.cell? ⟨w.heap.size,1,none⟩=some (.bool s.others)) (first|exact⟨z0,z1⟩|go_keep) (first|(go_at_call 191;refine(HI.out _).mono ?_;rintro e w3 ⟨rfl,rfl⟩;have z0:=y0;have z1:=y1)|(go_at_call 192;refine HL.out.mono ?_;rintro e w4 ⟨rfl,z1,z0,hk4⟩))
  all_goals
   go_wp2;go_ret;exact⟨by rw[HC.out];rfl,hk4⟩
theorem yK (a b:Nat)(ha:a<9223372036854775808)(hb:b<9223372036854775808):bits .or .i64 (a:Int) (b:Int)=((a|||b:Nat):Int):=
 (bits_nat .i64 63 (by decide) (fun n h0 h1=>zBT n h0 (by simpa using h1)) a b (by simpa using ha) (by simpa using hb)).2
theorem zEU (j:Nat)(hj:j<63):wrap64 (2^j)=((2^j:Nat):Int):=by
 have h1:2^j<2^63:=Nat.pow_lt_pow_right (by omega) hj;have e:((2:Int)^j)=((2^j:Nat):Int):=by simp
 rw[e];generalize 2^j=x at h1;exact w64 _ (by omega) (by omega)
theorem zK8 (a j:Nat)(hj:j<63)(ha:a<9223372036854775808):bits .or .i64 (a:Int) (wrap64 (2^j))=((a|||2^j:Nat):Int):=by
 have h1:2^j<2^63:=Nat.pow_lt_pow_right (by omega) hj;rw[zEU j hj];exact yK _ _ ha (by omega)
def qL (f:Nat->Bool):Nat->Nat
 |0=>0
 |k+1=>if f k then qL f k|||2^k else qL f k
theorem zBc (f:Nat->Bool)(k:Nat):qL f k<2^k:=by
 induction k with
 |zero=>simp[qL]
 |succ k ih=>
  have h1:2^k<2^(k+1):=Nat.pow_lt_pow_right (by omega) (by omega);unfold qL;split
  ·exact Nat.or_lt_two_pow (by omega) h1
  ·omega
def zAH (sets:List Cs)(c:Int)(i:Nat):Bool:=(sets.getD i ⟨[],false⟩).has c
def qJ (sets:List Cs)(c:Int):Nat:=qL (zAH sets c) sets.length
theorem zGs (w:World)(v:Value)(sets:List Cs)(hS:SetsAt w v sets)(hn:sets.length<=24)(hl:∀s∈sets,s.ranges.length<=1000000000000)(c:Int):
  Calls prog 169 #[v,.int .i64 c] w fun e w'=>e=.returned (.int .i64 (qJ sets c))∧Grew w w':=by
 obtain⟨ao,cap,rfl,_,_,h3⟩:=hS;have HR:=vl h3;have HL:Hid (∀i,i<sets.length->(sets.getD i ⟨[],false⟩).ranges.length<=1000000000000):=fun i hi=>hl _ (zR _ i _ hi);have HV:Hid (qJ sets c=qL (zAH sets c) sets.length):=rfl;generalize hn2:sets.length=n at *;go_in;go_wp2;go_loopg [5,10] n (fun q x i wr=>∃j:Nat,q=n-j∧j<=n∧x=.int .i64 (qL (zAH sets c) j:Nat)∧i=.int .i64 (j:Int)∧Grew w wr)
 case atStart=>exact⟨0,rfl,Nat.zero_le _,rfl,rfl,⟨rfl,rfl,Nat.le_refl _,fun _ _ _=>rfl⟩⟩
 case round=>
  obtain⟨j,hgk,hj,rfl,rfl,hkp⟩:=hrel;have HA:Hid (gk=n-j∧Grew w wr):=⟨hgk,hkp⟩
  by_cases hj2:j<n
  ·have i1:(j:Int)<(n:Int):=by omega
   obtain⟨b,o,u,rfl,hb,c0,c1,hr⟩:=HR.out j hj2;obtain⟨au,cu,rfl,-⟩:=id hr;have y0:=zA c0 hb hkp;have y1:=zA c1 hb hkp;have HS:Hid (∀w',Grew w w'->Calls prog 184 #[.agg #[.slice au (sets.getD j ⟨[],false⟩).ranges.length cu,.bool (sets.getD j ⟨[],false⟩).others],.int .i64 c] w' fun e w2=>e=.returned (.bool (zAH sets c j))∧Grew w w2):=by
    intro w' hk;refine(zKq w' _ _ (hr.grown hk) (HL.out j hj2) c).mono ?_;rintro e w2 ⟨rfl,hk2⟩;exact⟨rfl,hk.trans (hk2.lower hk.size hk.size)⟩
   have hbl:=zBc (zAH sets c) j;have hpw:2^j<=2^24:=Nat.pow_le_pow_right (by omega) (by omega);have HT:Hid (zAH sets c j=true->qL (zAH sets c) (j+1)=qL (zAH sets c) j|||2^j):=fun h=>by show(if _ then _ else _)=_;rw[h];rfl
   have HF:Hid (zAH sets c j=false->qL (zAH sets c) (j+1)=qL (zAH sets c) j):=fun h=>by show(if _ then _ else _)=_;rw[h];rfl
   generalize (sets.getD j ⟨[],false⟩).ranges.length=rl at *;generalize (sets.getD j ⟨[],false⟩).others=ot at *;generalize qL (zAH sets c) j=bj at *;have HOR:=vl <| zK8 bj j (by omega) (by omega);cases hh:zAH sets c j with
   |true=>
    rw[hh] at HS;have HT2:=vl <| HT.out hh;go_wp2_with (first|(go_at_call 184;refine(HS.out _ (HA.out.2.trans (Keep.alloc _ _ HA.out.2.size))).mono ?_;rintro e w5 ⟨rfl,hk5⟩))
    go_roundg (n-(j+1))
    case measure=>rw[HA.out.1];omega
    case rel=>exact⟨j+1,rfl,by omega,by rw[HOR.out,HT2.out],by go_num,hk5⟩
   |false=>
    rw[hh] at HS;have HT2:=vl <| HF.out hh;go_wp2_with (first|(go_at_call 184;refine(HS.out _ (HA.out.2.trans (Keep.alloc _ _ HA.out.2.size))).mono ?_;rintro e w5 ⟨rfl,hk5⟩))
    go_roundg (n-(j+1))
    case measure=>rw[HA.out.1];omega
    case rel=>exact⟨j+1,rfl,by omega,by rw[HT2.out],by go_num,hk5⟩
  ·have hje:j=n:=by omega
   have i1:(n:Int)<=(j:Int):=by omega
   have HZ:Hid (qJ sets c=qL (zAH sets c) j):=by show _=_;rw[HV.out,hje]
   go_wp2;go_ret;exact⟨by rw[HZ.out];rfl,HA.out.2⟩
structure Ar where
 lows:List Int
 letters:List Int
 sets:List Int
def vY (lows:List Int)(n:Int):Nat->Nat->Nat->Nat
 |0,low,_=>low
 |f+1,low,high=>if high-low>1 then(if lows.getD ((low+high)/2) 0<=n then vY lows n f ((low+high)/2) high else vY lows n f low ((low+high)/2)) else low
def Ar.area (a:Ar)(n:Int):Nat:=vY a.lows n a.lows.length 0 a.lows.length
theorem zJg (lows:List Int)(n:Int)(f low high:Nat)(h:¬high-low>1):vY lows n f low high=low:=by
 cases f with
 |zero=>rfl
 |succ f=>rw[vY,if_neg h]
theorem zIe (lows:List Int)(n:Int)(f low high:Nat)(h:low<high):vY lows n f low high<high:=by
 induction f generalizing low high with
 |zero=>exact h
 |succ f ih=>
  rw[vY];split
  ·split
   ·exact ih _ _ (by omega)
   ·exact Nat.lt_of_lt_of_le (ih _ _ (by omega)) (by omega)
  ·exact h
theorem Ar.area_lt (a:Ar)(n:Int)(h:0<a.lows.length):a.area n<a.lows.length:=zIe _ _ _ _ _ h
structure ArAt (w:World)(lv tv sv:Value)(a:Ar):Prop where
 lows:Ints w (In w) lv a.lows
 letters:Ints w (In w) tv a.letters
 sets:Ints w (In w) sv a.sets
theorem ArAt.grown {w w':World}{lv tv sv:Value}{a:Ar}(h:ArAt w lv tv sv a)(hk:Grew w w'):ArAt w' lv tv sv a:=⟨h.lows.grown hk,h.letters.grown hk,h.sets.grown hk⟩
theorem zFr (w:World)(lv tv sv:Value)(a:Ar)(hA:ArAt w lv tv sv a)(hl:a.lows.length<=1000000000000)(n:Int):
  Calls prog 185 #[.agg #[lv,tv,sv],.int .i64 n] w fun e w'=>e=.returned (.int .i64 (a.area n))∧Grew w w':=by
 obtain⟨al,cl,rfl,_,_,hlc⟩:=hA.lows;obtain⟨at_,ct,rfl,-⟩:=hA.letters;obtain⟨as_,cs,rfl,-⟩:=hA.sets;have HL:=vl hlc;clear hlc hA;obtain⟨w1,hw1,K1,y0⟩:∃w1,w1=w.alloc (.cells #[.slice al a.lows.length cl,.slice at_ a.letters.length ct,.slice as_ a.sets.length cs] 172)∧Hid (Grew w w1)∧w1.cell? ⟨w.heap.size,0,none⟩=some (.slice al a.lows.length cl):=by
  have h:=heap_alloc_new w (.cells #[.slice al a.lows.length cl,.slice at_ a.letters.length ct,.slice as_ a.sets.length cs] 172);refine⟨_,rfl,Keep.alloc _ _ (Nat.le_refl _),?_⟩;unfold cell?;rw[h];rfl
 have HV:Hid (a.area n=vY a.lows n a.lows.length 0 a.lows.length):=rfl;generalize a.lows.length=m at *;go_in;refine wp_cut ?_;intro K0 HK0;go_wp2;refine HK0.out _ _ ?_;clear HK0;rw[<-hw1];clear hw1;go_wp2;go_loopg [5,6] m (fun q x y wr=>∃low high f:Nat,q=high-low∧x=.int .i64 (low:Int)∧y=.int .i64 (high:Int)∧low<=high∧high<=m∧high-low<=f+1∧a.area n=vY a.lows n f low high∧wr=w1)
 case atStart=>exact⟨0,m,m,rfl,rfl,rfl,Nat.zero_le _,Nat.le_refl _,by omega,HV.out,rfl⟩
 case round=>
  obtain⟨low,high,f,hgk,rfl,rfl,hlh,hhm,hf,hv,rfl⟩:=hrel;have HA:Hid (gk=high-low∧a.area n=vY a.lows n f low high):=⟨hgk,hv⟩
  clear hgk hv;by_cases h1:high-low>1
  ·obtain⟨f,rfl⟩:∃f',f=f'+1:=⟨f-1,by omega⟩
   have hm1:low<(low+high)/2:=by omega
   have hm2:(low+high)/2<high:=by omega
   have HB:Hid (vY a.lows n (f+1) low high=if a.lows.getD ((low+high)/2) 0<=n then vY a.lows n f ((low+high)/2) high else vY a.lows n f low ((low+high)/2)):=by show _=_;rw[vY,if_pos h1]
   obtain⟨b,o,rfl,hb,hc⟩:=HL.out ((low+high)/2) (by omega);have y1:wr.cell? ⟨b,o+(low+high)/2,none⟩=some (.int .i64 (a.lows.getD ((low+high)/2) 0)):=zA hc hb K1.out;have em:(((low:Int)+(high:Int)).tdiv 2)=(((low+high)/2:Nat):Int):=by
    rw[Int.tdiv_eq_ediv_of_nonneg (by omega)];omega
   clear hc;have i1:(1:Int)<(high:Int)-(low:Int):=by omega
   have i2:(((low+high)/2:Nat):Int)<(m:Int):=by omega
   refine wp_cut ?_;intro K0 HK0;go_wp2;refine HK0.out _ _ ?_;clear HK0;generalize hmid:(low+high)/2=mid at *;have HMID:=vl hmid;clear hmid;generalize a.lows.getD mid 0=x at *;by_cases hc:x<=n
   ·have HC:Hid (vY a.lows n (f+1) low high=vY a.lows n f mid high):=by show _=_;rw[HB.out,if_pos hc]
    go_wp2;go_roundg (high-mid)
    case measure=>rw[HA.out.1];omega
    case rel=>exact⟨mid,high,f,rfl,rfl,rfl,by omega,by omega,by omega,by rw[HA.out.2,HC.out],rfl⟩
   ·have HC:Hid (vY a.lows n (f+1) low high=vY a.lows n f low mid):=by show _=_;rw[HB.out,if_neg hc]
    go_wp2;go_roundg (mid-low)
    case measure=>rw[HA.out.1];omega
    case rel=>exact⟨low,mid,f,rfl,rfl,rfl,by omega,by omega,by omega,by rw[HA.out.2,HC.out],rfl⟩
  ·have i1:(high:Int)-(low:Int)<=1:=by omega
   have HC:Hid (vY a.lows n f low high=low):=zJg _ _ _ _ _ h1;clear h1;go_wp2;go_ret;exact⟨by rw[HA.out.2,HC.out];rfl,K1.out⟩
def Ar.letter (a:Ar)(n:Int):Int:=a.letters.getD (a.area n) 0
def Ar.alike (a:Ar)(m n:Int):Bool:=(a.area m:Int)==(a.area n:Int)
theorem zGL (w:World)(lv tv sv:Value)(a:Ar)(hA:ArAt w lv tv sv a)(hl:a.lows.length<=1000000000000)(h0:0<a.lows.length)(hll:a.letters.length=a.lows.length)(n:Int):
  Calls prog 175 #[.agg #[lv,tv,sv],.int .i64 n] w fun e w'=>e=.returned (.int .i64 (a.letter n))∧Grew w w':=by
 obtain⟨al,cl,rfl,-⟩:=id hA.lows;obtain⟨bt,ot,ct,rfl,hbt,_,_,htc⟩:=hA.letters.block (by omega);obtain⟨as_,cs,rfl,-⟩:=id hA.sets;obtain⟨w1,hw1,K1,y0,y1,y2⟩:∃w1,w1=w.alloc (.cells #[.slice al a.lows.length cl,.slice (some ⟨bt,ot,none⟩) a.letters.length ct,.slice as_ a.sets.length cs] 172)∧Hid (Grew w w1∧w.heap.size<w1.heap.size)∧w1.cell? ⟨w.heap.size,0,none⟩=some (.slice al a.lows.length cl)∧w1.cell? ⟨w.heap.size,1,none⟩=some (.slice (some ⟨bt,ot,none⟩) a.letters.length ct)∧w1.cell? ⟨w.heap.size,2,none⟩=some (.slice as_ a.sets.length cs):=by
  have h:=heap_alloc_new w (.cells #[.slice al a.lows.length cl,.slice (some ⟨bt,ot,none⟩) a.letters.length ct,.slice as_ a.sets.length cs] 172);refine⟨_,rfl,⟨Keep.alloc _ _ (Nat.le_refl _),by simp⟩,?_,?_,?_⟩ <;> ·unfold cell?;rw[h];rfl
 have HC:=zFr w1 _ _ _ a (hA.grown K1.out.1) hl n;have har:a.area n<a.letters.length:=by have:=a.area_lt n h0;omega
 have hcc:w.cell? ⟨bt,ot+a.area n,none⟩=some (.int .i64 (a.letters.getD (a.area n) 0)):=htc _ har;have HV:Hid (a.letter n=a.letters.getD (a.area n) 0):=rfl;have HLB:Hid (In w bt∧w.cell? ⟨bt,ot+a.area n,none⟩=some (.int .i64 (a.letters.getD (a.area n) 0))):=⟨hbt,hcc⟩
 clear htc hA hcc h0 hll;generalize a.letters.getD (a.area n) 0=x at *;generalize a.area n=k at *;have i1:(k:Int)<(a.letters.length:Int):=by omega
 go_in;refine wp_cut ?_;intro K0 HK0;go_wp2;refine HK0.out _ _ ?_;rw[<-hw1];clear hw1;go_wp2_with (first|(go_at_call 185;refine HC.mono ?_;rintro e w2 ⟨rfl,hk2⟩;have z1:w2.cell? ⟨w.heap.size,1,none⟩=some (.slice (some ⟨bt,ot,none⟩) a.letters.length ct):=zA y1 K1.out.2 hk2;have z2:w2.cell? ⟨bt,ot+k,none⟩=some (.int .i64 x):=zA (zA HLB.out.2 HLB.out.1 K1.out.1) (Nat.lt_of_lt_of_le HLB.out.1 K1.out.1.size) hk2))
 go_ret;exact⟨by rw[HV.out];rfl,K1.out.1.trans (hk2.lower K1.out.1.size K1.out.1.size)⟩
theorem zB1 (w:World)(lv tv sv:Value)(a:Ar)(hA:ArAt w lv tv sv a)(hl:a.lows.length<=1000000000000)(m n:Int):
  Calls prog 177 #[.agg #[lv,tv,sv],.int .i64 m,.int .i64 n] w fun e w'=>e=.returned (.bool (a.alike m n))∧Grew w w':=by
 obtain⟨al,cl,rfl,-⟩:=id hA.lows;obtain⟨at_,ct,rfl,-⟩:=id hA.letters;obtain⟨as_,cs,rfl,-⟩:=id hA.sets;obtain⟨w1,hw1,K1,y0,y1,y2⟩:∃w1,w1=w.alloc (.cells #[.slice al a.lows.length cl,.slice at_ a.letters.length ct,.slice as_ a.sets.length cs] 172)∧Hid (Grew w w1∧w.heap.size<w1.heap.size)∧w1.cell? ⟨w.heap.size,0,none⟩=some (.slice al a.lows.length cl)∧w1.cell? ⟨w.heap.size,1,none⟩=some (.slice at_ a.letters.length ct)∧w1.cell? ⟨w.heap.size,2,none⟩=some (.slice as_ a.sets.length cs):=by
  have h:=heap_alloc_new w (.cells #[.slice al a.lows.length cl,.slice at_ a.letters.length ct,.slice as_ a.sets.length cs] 172);refine⟨_,rfl,⟨Keep.alloc _ _ (Nat.le_refl _),by simp⟩,?_,?_,?_⟩ <;> ·unfold cell?;rw[h];rfl
 have HC:Hid (∀w' x,Grew w w'->Calls prog 185 #[.agg #[.slice al a.lows.length cl,.slice at_ a.letters.length ct,.slice as_ a.sets.length cs],.int .i64 x] w' fun e w2=>e=.returned (.int .i64 (a.area x))∧Grew w' w2):=fun w' x hk=>zFr w' _ _ _ a (hA.grown hk) hl x;have HV:Hid (a.alike m n=((a.area m:Int)==(a.area n:Int))):=rfl;go_in;refine wp_cut ?_;intro K0 HK0;go_wp2;refine HK0.out _ _ ?_;rw[<-hw1];clear hw1;refine wp_cut ?_;intro K0 HK0;go_wp2_with (first|(go_at_call 185;refine(HC.out _ m K1.out.1).mono ?_;rintro e w2 ⟨rfl,hk2⟩;have z0:=zA y0 K1.out.2 hk2;have z1:=zA y1 K1.out.2 hk2;have z2:=zA y2 K1.out.2 hk2))
 refine HK0.out _ _ ?_;clear HK0 y0 y1 y2;have K2:=vl <| K1.out.1.trans (hk2.lower K1.out.1.size K1.out.1.size);clear hk2;go_wp2_with (first|(go_at_call 185;refine(HC.out _ n K2.out).mono ?_;rintro e w3 ⟨rfl,hk3⟩))
 go_ret;exact⟨by rw[HV.out];rfl,K2.out.trans (hk3.lower K2.out.size K2.out.size)⟩
def zCD (l:List Int)(n:Int):Nat->Nat
 |0=>0
 |i+1=>if l.getD i 0>n then zCD l n i else i+1
theorem zLY (l:List Int)(n:Int)(i:Nat):zCD l n i<=i:=by
 induction i with
 |zero=>exact Nat.le_refl _
 |succ i ih=>unfold zCD;split <;> omega
def zCl (l:List Int)(n:Int)(i:Nat):List Int:=l.take i++n::l.drop i
def zFN (l:List Int)(n:Int):List Int:=zCl l n (zCD l n l.length)
theorem zF0 (l:List Int)(n:Int)(i:Nat):(zCl l n i).length=l.length+1:=by
 simp[zCl];omega
theorem zDw (l:List Int)(n:Int)(i j:Nat)(hi:i<=l.length):(zCl l n i).getD j 0=if j<i then l.getD j 0 else if j=i then n else l.getD (j-1) 0:=by
 unfold zCl;rw[List.getD_eq_getElem?_getD,List.getElem?_append,List.length_take];by_cases h1:j<i
 ·rw[if_pos (by omega),if_pos h1,List.getElem?_take,if_pos h1,List.getD_eq_getElem?_getD]
 ·rw[if_neg (by omega),if_neg h1]
  by_cases h2:j=i
  ·subst h2
   rw[if_pos rfl,show j-min j l.length=0 by omega];rfl
  ·rw[if_neg h2,show j-min i l.length=(j-1-i)+1 by omega,List.getElem?_cons_succ,List.getElem?_drop,show i+(j-1-i)=j-1 by omega,List.getD_eq_getElem?_getD]
structure BdAt (w:World)(H p:Nat)(v:Value)(l:List Int):Prop where
 blk:w.heap[p]? =some (.cells #[v] 239)
 own:OwnI w H v l
 pH:H<=p
 lt:p<w.heap.size
def zM7 (w:World)(H p:Nat)(l:List Int):Prop:=∃v,BdAt w H p v l
theorem BdAt.cell {w:World}{H p:Nat}{v:Value}{l:List Int}(h:BdAt w H p v l):w.cell? ⟨p,0,none⟩=some v∧w.frozen? ⟨p,0,none⟩=false:=by
 constructor
 ·unfold cell?;rw[h.blk];rfl
 ·unfold frozen?;rw[h.blk];rfl
theorem OwnI.rowOf {w:World}{H:Nat}{v:Value}{l:List Int}(h:OwnI w H v l):Row w H 3 v l.length fun i=>.int .i64 (l.getD i 0):=h.row l.length rfl (fun i=>l.getD i 0) fun _ _=>rfl
theorem Row.ownI {w:World}{H:Nat}{v:Value}{l:List Int}(h:Row w H 3 v l.length fun i=>.int .i64 (l.getD i 0)):OwnI w H v l:=by
 have e:(List.range l.length).map (fun i=>Value.int .i64 (l.getD i 0))=l.map fun x=>.int .i64 x:=by
  apply List.ext_getElem
  ·simp
  ·intro i h1 h2
   simp at h1;simp[h1]
 unfold OwnI;rw[<-e];exact h
def Stay (w w':World):Prop:=∀(k:Nat) (c:Array Value) (t:TypeId),w.heap[k]? =some (Obj.cells c t)->t≠3->t≠239->w'.heap[k]? =some (Obj.cells c t)
structure Bz (w0 w:World)(H p g cap:Nat)(l:List Int)(n:Int)(i:Nat):Prop where
 blk:w.heap[p]? =some (.cells #[.slice (some ⟨g,0,none⟩) (l.length+1) cap] 239)
 row:Row w H 3 (.slice (some ⟨g,0,none⟩) (l.length+1) cap) (l.length+1) fun j=>.int .i64 ((zCl l n i).getD j 0)
 lt:p<w.heap.size
 keep:Keep H H w0 w
 stay:Stay w0 w
theorem Bz.step {w0 w:World}{H p g cap:Nat}{l:List Int}{n:Int}{i:Nat}(h:Bz w0 w H p g cap l n (i+1))(hi:i+1<=l.length):Bz w0 ((w.setCell ⟨g,i+1,none⟩ (.int .i64 (l.getD i 0))).setCell ⟨g,i,none⟩ (.int .i64 n)) H p g cap l n i:=by
 have hgp:p≠g:=fun e=>zL h.row h.blk (by decide) (by rw[e];rfl);have hg:=(h.row.at (by omega)).1;refine⟨(Below.heap_setCell _ _ _ _ hgp).trans ((Below.heap_setCell _ _ _ _ hgp).trans h.blk),?_,by rw[zC,zC];exact h.lt,(h.keep.trans (zN _ _ _ _ hg)).trans (zN _ _ _ _ hg),?_⟩;rotate_left
 ·intro k c t hk h1 h2
  have hk2:=h.stay k c t hk h1 h2;have hkg:k≠g:=fun e=>zL h.row hk2 (Ne.symm h1) (by rw[e];rfl);exact(Below.heap_setCell _ _ _ _ hkg).trans ((Below.heap_setCell _ _ _ _ hkg).trans hk2)
 refine Row.congr ((h.row.set (i+1) (.int .i64 (l.getD i 0))).set i (.int .i64 n)) fun j hj=>?_;rw[zDw l n i j (by omega)];by_cases e1:j=i
 ·rw[if_pos e1,if_neg (by omega),if_pos e1]
 ·rw[if_neg e1]
  by_cases e2:j=i+1
  ·rw[if_pos e2,if_neg (by omega),if_neg e1,show j-1=i by omega]
  ·rw[if_neg e2,zDw l n (i+1) j hi]
   by_cases e3:j<i
   ·rw[if_pos (by omega),if_pos e3]
   ·rw[if_neg (by omega),if_neg e2,if_neg e3,if_neg e1]
theorem Bz.drewed {w0 X:World}{a:Addr}{u:Value}{H p g cap:Nat}{l:List Int}{n:Int}{i:Nat}(h:Bz w0 (X.setCell a u) H p g cap l n i):Bz w0 (X.drew.setCell a u) H p g cap l n i:=⟨h.1,h.2,h.3,⟨h.keep.os,h.keep.output,h.keep.size,h.keep.block⟩,h.stay⟩
theorem zJf (w:World)(H p:Nat)(v:Value)(l:List Int)(hB:BdAt w H p v l)(hl:l.length<=1000000000000)(n:Int):
  Calls prog 183 #[.pointer (some ⟨p,0,none⟩),.int .i64 n] w fun e w'=>e=.returned (.tuple #[])∧zM7 w' H p (zFN l n)∧Keep H H w w'∧Stay w w':=by
 obtain⟨i0,hi0,hz0,hz1,hz2⟩:=info_parts yH;obtain⟨ao,cap,rfl⟩:=hB.own.form;obtain⟨y0,z0⟩:=hB.cell;have HB:=vl hB;have OR:=vl hB.own;have hpH:=hB.pH;have hlt:=hB.lt;have HNP:=vl <| zL hB.own hB.blk (by decide);have hHw:H<=w.heap.size:=by omega
 go_in;refine wp_cut ?_;intro K0 HK0;go_wp2_with (first|(at_builtin;refine wpList_append_lies _ rfl _ _ 45 rfl (H) 3 i0 (.int .i64 0) 1 8 underlying45 hi0 hz0 hz1 hz2 rfl (by decide) _ _ _ rfl (OR.out.alloc _) ⟨w.heap.size,0,none⟩ 1 1 [.int .i64 n] rfl rfl (cell_one_new _ _ _) (by intro u hu;simp at hu;subst hu;rfl) (by decide) (by unfold maxLen;omega) (by omega) (by simp;omega) _ rfl ?_;intro gg cap2 w2 hown hgrow hat hlt2;have hPB:w2.heap[p]? =w.heap[p]? :=(hgrow.block p (by simp;omega) HNP.out).trans (Below.heap_alloc _ _ _ hlt);have t0:w2.cell? ⟨p,0,none⟩=some (.slice ao l.length cap):=(cell?_of_block hPB).trans y0;have f0:w2.frozen? ⟨p,0,none⟩=false:=(frozen?_of_block hPB).trans z0))
 refine HK0.out _ _ ?_;obtain⟨w3,hw3,A3⟩:∃w3,w3=w2.setCell ⟨p,0,none⟩ (.slice (some ⟨gg,0,none⟩) (l.length+1) cap2)∧Hid (Bz w w3 H p gg cap2 l n l.length):=by
  refine⟨_,rfl,?_,?_,?_,?_,?_⟩
  ·have hb:=hPB.trans HB.out.blk
   simp[setCell,Array.getElem?_modify,hb]
  ·have ho:=OwnI.snoc hown
   have hgp:gg≠p:=fun e=>zL hown (hPB.trans HB.out.blk) (by decide) (by rw[<-e];rfl);have hr:Row w2 H 3 (.slice (some ⟨gg,0,none⟩) (l.length+1) cap2) (l.length+1) fun j=>.int .i64 ((zCl l n l.length).getD j 0):=by
    refine ho.row (l.length+1) (by simp) _ fun j hj=>?_;simp[zCl]
   exact hr.blk fun g _ _ hg=>Below.heap_setCell _ _ _ _ fun e=>hgp (by have e':gg=g:=(by simpa[Value.ownBlock] using hg);rw[e',e])
  ·rw[zC];exact Nat.lt_of_lt_of_le hlt (Nat.le_trans (by simp) hgrow.size)
  ·exact(xN (xO OR.out hgrow hHw)).trans (zN _ _ _ _ hpH)
  ·intro k c t hk h1 h2
   have hkl:k<w.heap.size:=by
    rcases Nat.lt_or_ge k w.heap.size with h|h
    ·exact h
    ·rw[Array.getElem?_eq_none h] at hk;cases hk
   have hkp:k≠p:=fun e=>by
    rw[e,HB.out.blk] at hk;injection hk with hk;injection hk with _ hk;exact h2 hk.symm
   exact(Below.heap_setCell _ _ _ _ hkp).trans ((hgrow.block k (by simp;omega) (zL OR.out hk (Ne.symm h1))).trans ((Below.heap_alloc _ _ _ hkl).trans hk))
 rw[<-hw3];clear hw3 hPB t0 f0 hown hgrow hat y0 z0;have y3:w3.cell? ⟨p,0,none⟩=some (.slice (some ⟨gg,0,none⟩) (l.length+1) cap2):=by unfold cell?;rw[A3.out.blk];rfl
 go_wp2;clear y3;go_loopg [4] l.length (fun q x wr=>∃i:Nat,q=i∧i<=l.length∧x=.int .i64 (i:Int)∧Bz w wr H p gg cap2 l n i∧zCD l n l.length=zCD l n i)
 case atStart=>exact⟨l.length,rfl,Nat.le_refl _,(by first|rfl|(congr 1;omega)),A3.out,rfl⟩
 case round=>
  obtain⟨i,hgk,hi,rfl,hZ,hp⟩:=hrel;have HA:Hid (gk=i∧Bz w wr H p gg cap2 l n i∧zCD l n l.length=zCD l n i):=⟨hgk,hZ,hp⟩
  have y3:wr.cell? ⟨p,0,none⟩=some (.slice (some ⟨gg,0,none⟩) (l.length+1) cap2):=by unfold cell?;rw[hZ.blk];rfl
  have fin:zCD l n i=i->zM7 wr H p (zFN l n)∧Keep H H w wr∧Stay w wr:=fun e=>by
   refine⟨⟨_,hZ.blk,?_,hpH,hZ.lt⟩,hZ.keep,hZ.stay⟩;have hr:=hZ.row;rw[show i=zCD l n l.length by rw[hp,e]] at hr;have e2:l.length+1=(zFN l n).length:=(zF0 _ _ _).symm;rw[e2] at hr ⊢;exact Row.ownI hr
  have FN:=vl fin;clear fin;cases i with
  |zero=>
   clear hgk hZ hp;go_wp2;go_end0;exact⟨rfl,FN.out rfl⟩
  |succ i=>
   obtain⟨g1,g2,g3,g4⟩:=hZ.row.at (by omega)
   have e0:(zCl l n (i+1)).getD i 0=l.getD i 0:=by rw[zDw l n (i+1) i hi,if_pos (by omega)]
   have y4:wr.cell? ⟨gg,i,none⟩=some (.int .i64 (l.getD i 0)):=by rw[<-e0];exact g3 i (by omega)
   have y5:=g3 (i+1) (by omega);have z4:=g4 i;have z5:=g4 (i+1);have HP:Hid (zCD l n (i+1)=if l.getD i 0>n then zCD l n i else i+1):=rfl;have hgp:gg≠p:=fun e=>zL hZ.row hZ.blk (by decide) (by rw[<-e];rfl);have hle:=zLY l n i;have i1:(0:Int)<((i+1:Nat):Int):=by omega
   have i2:(i:Int)<((l.length+1:Nat):Int):=by omega
   have i3:((i+1:Nat):Int)<((l.length+1:Nat):Int):=by omega
   have ew:IntKind.i64.wrap (((i+1:Nat):Int)-1)=(i:Int):=by rw[zAM _ (by omega) (by omega)];omega
   have HST:=vl <| hZ.step hi;clear hgk hZ hp e0 g1 g2 g3 g4;generalize l.getD i 0=x at *;generalize (zCl l n (i+1)).getD (i+1) 0=x2 at *;by_cases hx:x>n
   ·have HP2:Hid (zCD l n (i+1)=zCD l n i):=by show _=_;rw[HP.out,if_pos hx]
    go_wp2;go_region;obtain⟨w5,hw5,H5,q3,q4,q5⟩:∃w5,w5=(wr.setCell ⟨gg,i+1,none⟩ (.int .i64 x)).drew∧Hid (Bz w (w5.setCell ⟨gg,i,none⟩ (.int .i64 n)) H p gg cap2 l n i)∧w5.cell? ⟨p,0,none⟩=some (.slice (some ⟨gg,0,none⟩) (l.length+1) cap2)∧w5.cell? ⟨gg,i,none⟩=some (.int .i64 x)∧w5.frozen? ⟨gg,i,none⟩=false:=by
     have hb:(wr.setCell ⟨gg,i+1,none⟩ (.int .i64 x)).heap[p]? =wr.heap[p]? :=Below.heap_setCell _ _ _ _ (Ne.symm hgp);refine⟨_,rfl,HST.out.drewed,(cell?_of_block hb).trans y3,?_,?_⟩
     ·show(wr.setCell ⟨gg,i+1,none⟩ (.int .i64 x)).cell? ⟨gg,i,none⟩=_
      rw[World.cell?_setCell_other]
      ·exact y4
      ·intro e
       injection e with _ e _;omega
     ·show(wr.setCell ⟨gg,i+1,none⟩ (.int .i64 x)).frozen? ⟨gg,i,none⟩=_
      simpa using z4
    rw[<-hw5];clear hw5 y3 y4 y5 z4 z5;go_wp2;go_roundg i
    case measure=>rw[HA.out.1];omega
    case rel=>exact⟨i,rfl,by omega,by go_num,H5.out,by rw[HA.out.2.2,HP2.out]⟩
   ·have HP2:Hid (zCD l n (i+1)=i+1):=by show _=_;rw[HP.out,if_neg hx]
    go_wp2;go_end0;exact⟨rfl,FN.out HP2.out⟩
def zLI (l:List Int)(r:Int×Int):List Int:=zFN (zFN l r.1) (r.2+1)
def inR (l:List Int)(rs:List (Int×Int)):List Int:=rs.foldl zLI l
def xI (sets:List Cs):List Int:=sets.foldl (fun l s=>inR l s.ranges) [0,55296,57344,1114112]
theorem zCI {α β:Type}(f:β->α->β)(b:β)(l:List α)(d:α)(k:Nat)(hk:k<l.length):(l.take (k+1)).foldl f b=f ((l.take k).foldl f b) (l.getD k d):=by
 rw[List.take_add_one,List.foldl_append,List.getD_eq_getElem?_getD,List.getElem?_eq_getElem hk];rfl
theorem zE8 (l:List Int)(n:Int):(zFN l n).length=l.length+1:=zF0 _ _ _
theorem zJB (l:List Int)(rs:List (Int×Int)):(inR l rs).length=l.length+2*rs.length:=by
 unfold inR;induction rs generalizing l with
 |nil=>simp
 |cons r rs ih=>
  rw[List.foldl_cons,ih];unfold zLI;rw[zE8,zE8,List.length_cons];omega
def yC:List Cs->Nat
 |[]=>0
 |s::l=>s.ranges.length+yC l
theorem zFo (sets:List Cs)(l:List Int):(sets.foldl (fun l s=>inR l s.ranges) l).length=l.length+2*yC sets:=by
 induction sets generalizing l with
 |nil=>simp[yC]
 |cons s sets ih=>
  rw[List.foldl_cons,ih,zJB];simp only[yC];omega
theorem zDX (sets:List Cs)(j:Nat)(hj:j<sets.length):yC (sets.take j)+(sets.getD j ⟨[],false⟩).ranges.length<=yC sets:=by
 induction sets generalizing j with
 |nil=>simp at hj
 |cons s sets ih=>
  cases j with
  |zero=>simp[yC]
  |succ j=>
   have:=ih j (by simpa using hj);simp only[List.take_succ_cons,yC,List.getD_cons_succ];omega
structure Bo (w wr:World)(l:List Int):Prop where
 bd:zM7 wr (w.heap.size+1) (w.heap.size+2) l
 res:wr.heap[w.heap.size]? =some (.cells #[.slice none 0 0] 239)
 keep:Grew w wr
theorem Bo.grown {w wr w2:World}{l:List Int}(h:Bo w wr l)(hk:Grew wr w2):Bo w w2 l:=by
 obtain⟨v,hb⟩:=h.bd;have hl:=hb.lt;exact⟨⟨v,(hk.block _ hl (Nat.ne_of_lt hl)).trans hb.blk,zJ hb.own hk,hb.pH,Nat.lt_of_lt_of_le hl hk.size⟩,(hk.block _ (by omega) (by omega)).trans h.res,h.keep.trans (hk.lower (by omega) (by omega))⟩
theorem Bo.add {w wr:World}{l:List Int}(h:Bo w wr l)(hl:l.length<=1000000000000)(n:Int):
  Calls prog 183 #[.pointer (some ⟨w.heap.size+2,0,none⟩),.int .i64 n] wr fun e w'=>e=.returned (.tuple #[])∧Bo w w' (zFN l n)∧wr.heap.size<=w'.heap.size∧Stay wr w':=by
 obtain⟨v,hb⟩:=h.bd;refine(zJf wr _ _ v l hb hl n).mono ?_;rintro e w2 ⟨rfl,hb2,hk,hs⟩;exact⟨rfl,⟨hb2,(hk.block _ (by omega) (by omega)).trans h.res,h.keep.trans (hk.lower (by omega) (by omega))⟩,hk.size,hs⟩
theorem Bo.start (w:World):Bo w (((w.alloc (.cells #[.slice none 0 0] 239)).alloc (.cells #[.int .i64 0,.int .i64 55296,.int .i64 57344,.int .i64 1114112] 3)).alloc (.cells #[.slice (some ⟨w.heap.size+1,0,none⟩) 4 4] 239)) [0,55296,57344,1114112]:=by
 obtain⟨w1,hw1⟩:∃w1,w1=w.alloc (.cells #[.slice none 0 0] 239):=⟨_,rfl⟩
 have h1:w1.heap[w.heap.size]? =some (.cells #[.slice none 0 0] 239):=by rw[hw1];exact heap_alloc_new w _
 have k1:Grew w w1:=by rw[hw1];exact Keep.alloc _ _ (Nat.le_refl _)
 have s1:w1.heap.size=w.heap.size+1:=by rw[hw1];simp
 rw[<-hw1];obtain⟨w2,hw2⟩:∃w2,w2=w1.alloc (.cells #[.int .i64 0,.int .i64 55296,.int .i64 57344,.int .i64 1114112] 3):=⟨_,rfl⟩
 have h2:w2.heap[w.heap.size+1]? =some (.cells #[.int .i64 0,.int .i64 55296,.int .i64 57344,.int .i64 1114112] 3):=by rw[hw2,<-s1];exact heap_alloc_new w1 _
 have k2:Grew w1 w2:=by rw[hw2];exact Keep.alloc _ _ (Nat.le_refl _)
 have s2:w2.heap.size=w.heap.size+2:=by rw[hw2];simp[s1]
 rw[<-hw2];obtain⟨w3,hw3⟩:∃w3,w3=w2.alloc (.cells #[.slice (some ⟨w.heap.size+1,0,none⟩) 4 4] 239):=⟨_,rfl⟩
 have h3:w3.heap[w.heap.size+2]? =some (.cells #[.slice (some ⟨w.heap.size+1,0,none⟩) 4 4] 239):=by rw[hw3,<-s2];exact heap_alloc_new w2 _
 have k3:Grew w2 w3:=by rw[hw3];exact Keep.alloc _ _ (Nat.le_refl _)
 have s3:w3.heap.size=w.heap.size+3:=by rw[hw3];simp[s2]
 rw[<-hw3];refine⟨⟨_,h3,zJ ⟨rfl,.inr ⟨w.heap.size+1,4,#[.int .i64 0,.int .i64 55296,.int .i64 57344,.int .i64 1114112],rfl,by omega,h2,Nat.le_refl _,by unfold maxLen;omega,rfl,rfl⟩⟩ k3,by omega,by omega⟩,?_,(k1.trans (k2.lower (by omega) (by omega))).trans (k3.lower (by omega) (by omega))⟩;exact(k3.block _ (by omega) (by omega)).trans ((k2.block _ (by omega) (by omega)).trans h1)
def Cs.Small (s:Cs):Prop:=∀r∈s.ranges,-4294967296<=r.1∧r.1<=4294967296∧-4294967296<=r.2∧r.2<=4294967296
theorem zEn (w:World)(v:Value)(sets:List Cs)(hS:SetsAt w v sets)(hn:sets.length<=24)(hN:yC sets<=100000000000)(hsm:∀s∈sets,s.Small):
  Calls prog 167 #[v] w fun e w'=>∃u,e=.returned (.agg #[u])∧OwnI w' w.heap.size u (xI sets)∧Grew w w':=by
 obtain⟨ao,cap,rfl,_,_,h3⟩:=hS;have HR:=vl h3;have HSM:Hid (∀i,i<sets.length->(sets.getD i ⟨[],false⟩).Small):=fun i hi=>hsm _ (zR _ i _ hi);have h0:=Bo.start w;have HNN:=vl hN;clear h3 hsm hN;go_in;refine wp_cut ?_;intro K0 HK0;go_wp2;refine HK0.out _ _ ?_;clear HK0;refine wp_cut ?_;intro K0 HK0;go_wp2;refine HK0.out _ _ ?_;clear HK0;generalize ((w.alloc (.cells #[.slice none 0 0] 239)).alloc (.cells #[.int .i64 0,.int .i64 55296,.int .i64 57344,.int .i64 1114112] 3)).alloc (.cells #[.slice (some ⟨w.heap.size+1,0,none⟩) 4 4] 239)=w1 at *;have H0:=vl h0;clear h0;go_wp2;go_loopg [12] sets.length (fun q i wr=>∃j:Nat,q=sets.length-j∧j<=sets.length∧i=.int .i64 (j:Int)∧Bo w wr (xI (sets.take j)))
 case atStart=>exact⟨0,rfl,Nat.zero_le _,rfl,by rw[List.take_zero];exact H0.out⟩
 case round=>
  obtain⟨j,hgk,hj,rfl,hB⟩:=hrel;have HA:Hid (gk=sets.length-j∧Bo w wr (xI (sets.take j))):=⟨hgk,hB⟩
  by_cases hj2:j<sets.length
  ·have i1:(j:Int)<(sets.length:Int):=by omega
   obtain⟨b,o,u,rfl,hb,c0,c1,hr⟩:=HR.out j hj2;have hsmj:=HSM.out j hj2;have y0:=zA c0 hb hB.keep;have y1:=zA c1 hb hB.keep;obtain⟨s,hs⟩:∃s,sets.getD j ⟨[],false⟩=s:=⟨_,rfl⟩
   have hrt:=zDX sets j hj2;rw[hs] at hr y1 hsmj hrt;have HSJ:Hid (sets.getD j ⟨[],false⟩=s∧yC (sets.take j)+s.ranges.length<=yC sets):=⟨hs,hrt⟩
   obtain⟨au,cu,rfl,_,_,hrc⟩:=hr;have HRC:=vl hrc;have HSM2:Hid s.Small:=hsmj;have hlr:s.ranges.length<=100000000000:=by have:=HNN.out;omega
   clear hrc hsmj hs hrt c0 c1 hgk hB;go_wp2;have H1:Hid (Bo w (wr.alloc (.cells #[.slice au s.ranges.length cu,.bool s.others] 161)) (xI (sets.take j))):=HA.out.2.grown (Keep.alloc _ _ (Nat.le_refl _));generalize wr.alloc (.cells #[.slice au s.ranges.length cu,.bool s.others] 161)=w2 at *;clear y0 y1;go_loopg [19] s.ranges.length (fun q i wt=>∃k:Nat,q=s.ranges.length-k∧k<=s.ranges.length∧i=.int .i64 (k:Int)∧Bo w wt (inR (xI (sets.take j)) (s.ranges.take k)))
   case atStart=>exact⟨0,rfl,Nat.zero_le _,rfl,by rw[List.take_zero];exact H1.out⟩
   case round=>
    obtain⟨k,hgk,hk,rfl,hB⟩:=hrel;have HB:Hid (gk=s.ranges.length-k∧Bo w wr (inR (xI (sets.take j)) (s.ranges.take k))):=⟨hgk,hB⟩
    by_cases hk2:k<s.ranges.length
    ·have i2:(k:Int)<(s.ranges.length:Int):=by omega
     obtain⟨br,orr,rfl,hbr,d0,d1⟩:=HRC.out k hk2;have y0:=zA d0 hbr hB.keep;have y1:=zA d1 hbr hB.keep;obtain⟨m1,m2,m3,m4⟩:=HSM2.out _ (zR s.ranges k (0,0) hk2);have HST:Hid (inR (xI (sets.take j)) (s.ranges.take (k+1))=zLI (inR (xI (sets.take j)) (s.ranges.take k)) (s.ranges.getD k (0,0))):=zCI _ _ _ (0,0) k hk2;have HLEN:Hid ((inR (xI (sets.take j)) (s.ranges.take k)).length+2<=1000000000000):=by
      have h1:=HSJ.out.2;have h2:=HNN.out;have h3:(xI (sets.take j)).length=4+2*yC (sets.take j):=zFo _ _;show _<=_;rw[zJB,h3,List.length_take];omega
     obtain⟨l,hl⟩:∃l,inR (xI (sets.take j)) (s.ranges.take k)=l:=⟨_,rfl⟩
     rw[hl] at HST HLEN HB;clear d0 d1 hgk hB hl;obtain⟨x,hx⟩:∃x,(s.ranges.getD k (0,0)).1=x:=⟨_,rfl⟩
     obtain⟨y,hy⟩:∃y,(s.ranges.getD k (0,0)).2=y:=⟨_,rfl⟩
     have HXY:Hid (zLI l (s.ranges.getD k (0,0))=zFN (zFN l x) (y+1)):=by show _=_;unfold zLI;rw[hx,hy]
     rw[hx] at y0 m1 m2;rw[hy] at y1 m3 m4;clear hx hy;have H2:Hid (Bo w (wr.alloc (.cells #[.int .i64 x,.int .i64 y] 255)) l∧(wr.alloc (.cells #[.int .i64 x,.int .i64 y] 255)).heap[wr.heap.size]? =some (.cells #[.int .i64 x,.int .i64 y] 255)):=⟨HB.out.2.grown (Keep.alloc _ _ (Nat.le_refl _)),heap_alloc_new wr _⟩
     have HC1:Hid (∀wx,Bo w wx l->_):=fun wx h=>h.add (Nat.le_trans (Nat.le_add_right _ 2) HLEN.out) x;have HC2:Hid (∀wx,Bo w wx (zFN l x)->_):=fun wx h=>h.add (by rw[zE8];have:=HLEN.out;omega) (y+1);go_wp2_with (first|(go_at_call 183;first|(refine (HC2.out _ hb5).mono ?_;rintro e w6 ⟨rfl,hb6,-,-⟩)|(refine (HC1.out _ H2.out.1).mono ?_;rintro e w5 ⟨rfl,hb5,hs5,hst5⟩;have z1:w5.cell? ⟨wr.heap.size,1,none⟩=some (.int .i64 y):=(by have h:=hst5 _ _ _ H2.out.2 (by decide) (by decide);unfold cell?;rw[h];rfl))))
     go_roundg (s.ranges.length-(k+1))
     case measure=>rw[HB.out.1];omega
     case rel=>exact⟨k+1,rfl,by omega,by go_num,by rw[HST.out,HXY.out];exact hb6⟩
    ·have i2:(s.ranges.length:Int)<=(k:Int):=by omega
     have HZ:Hid (Bo w wr (xI (sets.take (j+1)))):=by
      have h:=hB;have et:s.ranges.take k=s.ranges:=List.take_of_length_le (by omega);rw[et] at h;have e:xI (sets.take (j+1))=inR (xI (sets.take j)) s.ranges:=by
       rw[<-HSJ.out.1];exact zCI _ _ _ ⟨[],false⟩ j hj2
      show Bo _ _ _;rw[e];exact h
     clear hgk hB;go_wp2;go_roundg (sets.length-(j+1))
     case measure=>rw[HA.out.1];omega
     case rel=>exact⟨j+1,rfl,by omega,by go_num,HZ.out⟩
  ·have i1:(sets.length:Int)<=(j:Int):=by omega
   have HZ:Hid (Bo w wr (xI sets)):=by
    have h:=hB;rw[List.take_of_length_le (by omega)] at h;exact h
   obtain⟨v,hb⟩:=HZ.out.bd;obtain⟨y0,-⟩:=hb.cell;obtain⟨av,cv,rfl⟩:=hb.own.form;have hres:=HZ.out.res;have x0:wr.cell? ⟨w.heap.size,0,none⟩=some (.slice none 0 0):=by unfold cell?;rw[hres];rfl
   have xf:wr.frozen? ⟨w.heap.size,0,none⟩=false:=by unfold frozen?;rw[hres];rfl
   have HO:Hid (OwnI wr (w.heap.size+1) (.slice av (xI sets).length cv) (xI sets)):=hb.own;clear hgk hB hb hres;go_wp2;refine bodyPost_ret (v:=.agg #[.slice av (xI sets).length cv]) (by simp[results,results167,go_sem, *]) rfl ⟨_,rfl,qW (H:=w.heap.size+1) (zW HO.out (by omega)) (by omega),HZ.out.keep.trans (zN _ _ _ _ (Nat.le_refl _))⟩
end Go.Proofs.YtbjcfkdnjaiclaaGreat
