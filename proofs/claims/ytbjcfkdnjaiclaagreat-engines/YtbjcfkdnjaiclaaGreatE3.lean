import Derived.Deep.RegionHeld3
import Derived.Test.YtbjcfkdnjaiclaaGreatE0
import Derived.Test.YtbjcfkdnjaiclaaGreatE2
/- Parts of the proof. -/
set_option linter.unusedVariables false
set_option linter.unusedSimpArgs false
set_option maxHeartbeats 4000000
set_option maxRecDepth 100000
namespace Go.Proofs.YtbjcfkdnjaiclaaGreat
open Go.RowKit Go.Proofs.Tryz Go.World
open Go.Value (int slice bool pointer string agg tuple)
open Go.IntKind (i64)
open Go.Ending (returned)
theorem yM (a b:Nat)(ha:a<9223372036854775808)(hb:b<9223372036854775808):bits .or i64 (a:Int) (b:Int)=((a|||b:Nat):Int):=
 (bits_nat i64 63 (by decide) (fun n h0 h1=>zBP n h0 (by simpa using h1)) a b (by simpa using ha) (by simpa using hb)).2
theorem zEX (j:Nat)(hj:j<63):wrap64 (2^j)=((2^j:Nat):Int):=by
 have h1:2^j<2^63:=Nat.pow_lt_pow_right (by omega) hj;have e:((2:Int)^j)=((2^j:Nat):Int):=by simp
 rw[e];generalize 2^j=x at h1;exact w64 _ (by omega) (by omega)
theorem zL1 (a j:Nat)(hj:j<63)(ha:a<9223372036854775808):bits .or i64 (a:Int) (wrap64 (2^j))=((a|||2^j:Nat):Int):=by
 have h1:2^j<2^63:=Nat.pow_lt_pow_right (by omega) hj;rw[zEX j hj];exact yM _ _ ha (by omega)
def qR (f:Nat->Bool):Nat->Nat
 |0=>0
 |k+1=>if f k then qR f k|||2^k else qR f k
theorem zBa (f:Nat->Bool)(k:Nat):qR f k<2^k:=by
 induction k with
 |zero=>simp[qR]
 |succ k ih=>
  have h1:2^k<2^(k+1):=Nat.pow_lt_pow_right (by omega) (by omega);unfold qR;split
  ·exact Nat.or_lt_two_pow (by omega) h1
  ·omega
def zAE (sets:List Cs)(c:Int)(i:Nat):Bool:=(sets.getD i ⟨[],false⟩).has c
def qP (sets:List Cs)(c:Int):Nat:=qR (zAE sets c) sets.length
theorem zGH (w:World)(v:Value)(sets:List Cs)(hS:SetsAt w v sets)(hn:sets.length<=24)(hl:∀s∈sets,s.ranges.length<=1000000000000)(c:Int):
  Calls prog 169 #[v,int i64 c] w fun e w'=>e=returned (int i64 (qP sets c))∧Grew w w':=by
 obtain⟨ao,cap,rfl,_,_,h3⟩:=hS;have HR:=vl h3;have HL:Hid (∀i,i<sets.length->(sets.getD i ⟨[],false⟩).ranges.length<=1000000000000):=fun i hi=>hl _ (zS _ i _ hi);have HV:Hid (qP sets c=qR (zAE sets c) sets.length):=rfl;generalize hn2:sets.length=n at *;go_in;go_wp2;go_loopg [5,10] n (fun q x i wr=>∃j:Nat,q=n-j∧j<=n∧x=int i64 (qR (zAE sets c) j:Nat)∧i=int i64 (j:Int)∧Grew w wr)
 case atStart=>exact⟨0,rfl,lX,rfl,rfl,⟨rfl,rfl,lQ,fun _ _ _=>rfl⟩⟩
 case round=>
  obtain⟨j,hgk,hj,rfl,rfl,hkp⟩:=hrel;have HA:Hid (gk=n-j∧Grew w wr):=⟨hgk,hkp⟩
  by_cases hj2:j<n
  ·have i1:(j:Int)<(n:Int):=by omega
   obtain⟨b,o,u,rfl,hb,c0,c1,hr⟩:=HR.out j hj2;obtain⟨au,cu,rfl,-⟩:=id hr;have y0:=zA c0 hb hkp;have y1:=zA c1 hb hkp;have HS:Hid (∀w',Grew w w'->Ca 184 #[agg #[slice au (sets.getD j ⟨[],false⟩).ranges.length cu,bool (sets.getD j ⟨[],false⟩).others],int i64 c] w' fun e w2=>e=returned (bool (zAE sets c j))∧Grew w w2):=by
    intro w' hk;refine(zK4 w' _ _ (hr.grown hk) (HL.out j hj2) c).mono ?_;rintro e w2 ⟨rfl,hk2⟩;exact⟨rfl,hk.trans (hk2.lower hk.size hk.size)⟩
   have hbl:=zBa (zAE sets c) j;have hpw:2^j<=2^24:=kG (by omega) (by omega);have HT:Hid (zAE sets c j=true->qR (zAE sets c) (j+1)=qR (zAE sets c) j|||2^j):=fun h=>by show(if _ then _ else _)=_;rw[h];rfl
   have HF:Hid (zAE sets c j=false->qR (zAE sets c) (j+1)=qR (zAE sets c) j):=fun h=>by show(if _ then _ else _)=_;rw[h];rfl
   generalize (sets.getD j ⟨[],false⟩).ranges.length=rl at *;generalize (sets.getD j ⟨[],false⟩).others=ot at *;generalize qR (zAE sets c) j=bj at *;have HOR:=vl <| zL1 bj j (by omega) (by omega);cases hh:zAE sets c j with
   |true=>
    rw[hh] at HS;have HT2:=vl <| HT.out hh;go_wp2_with (first|(go_at_call 184;refine(HS.out _ (HA.out.2.trans (kZ _ _ HA.out.2.size))).mono ?_;rintro e w5 ⟨rfl,hk5⟩))
    go_roundg (n-(j+1))
    case measure=>rw[HA.out.1];omega
    case rel=>exact⟨j+1,rfl,by omega,by rw[HOR.out,HT2.out],by go_num,hk5⟩
   |false=>
    rw[hh] at HS;have HT2:=vl <| HF.out hh;go_wp2_with (first|(go_at_call 184;refine(HS.out _ (HA.out.2.trans (kZ _ _ HA.out.2.size))).mono ?_;rintro e w5 ⟨rfl,hk5⟩))
    go_roundg (n-(j+1))
    case measure=>rw[HA.out.1];omega
    case rel=>exact⟨j+1,rfl,by omega,by rw[HT2.out],by go_num,hk5⟩
  ·have hje:j=n:=by omega
   have i1:(n:Int)<=(j:Int):=by omega
   have HZ:Hid (qP sets c=qR (zAE sets c) j):=by show _=_;rw[HV.out,hje]
   go_wp2;go_ret;exact⟨by rw[HZ.out];rfl,HA.out.2⟩
structure Ar where
 lows:List Int
 letters:List Int
 sets:List Int
def vY (lows:List Int)(n:Int):Nat->Nat->Nat->Nat
 |0,low,_=>low
 |f+1,low,high=>if high-low>1 then(if lows.getD ((low+high)/2) 0<=n then vY lows n f ((low+high)/2) high else vY lows n f low ((low+high)/2)) else low
def Ar.area (a:Ar)(n:Int):Nat:=vY a.lows n a.lows.length 0 a.lows.length
theorem zJN (lows:List Int)(n:Int)(f low high:Nat)(h:¬high-low>1):vY lows n f low high=low:=by
 cases f with
 |zero=>rfl
 |succ f=>rw[vY,if_neg h]
theorem zIF (lows:List Int)(n:Int)(f low high:Nat)(h:low<high):vY lows n f low high<high:=by
 induction f generalizing low high with
 |zero=>exact h
 |succ f ih=>
  rw[vY];split
  ·split
   ·exact ih _ _ (by omega)
   ·exact lZ (ih _ _ (by omega)) (by omega)
  ·exact h
theorem Ar.area_lt (a:Ar)(n:Int)(h:0<a.lows.length):a.area n<a.lows.length:=zIF _ _ _ _ _ h
structure ArAt (w:World)(lv tv sv:Value)(a:Ar):Prop where
 lows:Ints w (In w) lv a.lows
 letters:Ints w (In w) tv a.letters
 sets:Ints w (In w) sv a.sets
theorem ArAt.grown {w w':World}{lv tv sv:Value}{a:Ar}(h:ArAt w lv tv sv a)(hk:Grew w w'):ArAt w' lv tv sv a:=⟨h.lows.grown hk,h.letters.grown hk,h.sets.grown hk⟩
theorem zFw (w:World)(lv tv sv:Value)(a:Ar)(hA:ArAt w lv tv sv a)(hl:a.lows.length<=1000000000000)(n:Int):
  Calls prog 185 #[agg #[lv,tv,sv],int i64 n] w fun e w'=>e=returned (int i64 (a.area n))∧Grew w w':=by
 obtain⟨al,cl,rfl,_,_,hlc⟩:=hA.lows;obtain⟨at_,ct,rfl,-⟩:=hA.letters;obtain⟨as_,cs,rfl,-⟩:=hA.sets;have HL:=vl hlc;clear hlc hA;obtain⟨w1,hw1,K1,y0⟩:∃w1,w1=w.alloc (.cells #[slice al a.lows.length cl,slice at_ a.letters.length ct,slice as_ a.sets.length cs] 172)∧Hid (Grew w w1)∧w1.cell? ⟨w.heap.size,0,none⟩=some (slice al a.lows.length cl):=by
  have h:=gU w (.cells #[slice al a.lows.length cl,slice at_ a.letters.length ct,slice as_ a.sets.length cs] 172);refine⟨_,rfl,kZ _ _ lQ,?_⟩;unfold cell?;rw[h];rfl
 have HV:Hid (a.area n=vY a.lows n a.lows.length 0 a.lows.length):=rfl;generalize a.lows.length=m at *;go_in;apply wp_cut;intro K0 J;go_wp2;apply J.out;clear J;rw[<-hw1];clear hw1;go_wp2;go_loopg [5,6] m (fun q x y wr=>∃low high f:Nat,q=high-low∧x=int i64 (low:Int)∧y=int i64 (high:Int)∧low<=high∧high<=m∧high-low<=f+1∧a.area n=vY a.lows n f low high∧wr=w1)
 case atStart=>exact⟨0,m,m,rfl,rfl,rfl,lX,lQ,by omega,HV.out,rfl⟩
 case round=>
  obtain⟨low,high,f,hgk,rfl,rfl,hlh,hhm,hf,hv,rfl⟩:=hrel;have HA:Hid (gk=high-low∧a.area n=vY a.lows n f low high):=⟨hgk,hv⟩
  clear hgk hv;by_cases h1:high-low>1
  ·obtain⟨f,rfl⟩:∃f',f=f'+1:=⟨f-1,by omega⟩
   have hm1:low<(low+high)/2:=by omega
   have hm2:(low+high)/2<high:=by omega
   have HB:Hid (vY a.lows n (f+1) low high=if a.lows.getD ((low+high)/2) 0<=n then vY a.lows n f ((low+high)/2) high else vY a.lows n f low ((low+high)/2)):=by show _=_;rw[vY,if_pos h1]
   obtain⟨b,o,rfl,hb,hc⟩:=HL.out ((low+high)/2) (by omega);have y1:wr.cell? ⟨b,o+(low+high)/2,none⟩=some (int i64 (a.lows.getD ((low+high)/2) 0)):=zA hc hb K1.out;have em:(((low:Int)+(high:Int)).tdiv 2)=(((low+high)/2:Nat):Int):=by
    rw[Int.tdiv_eq_ediv_of_nonneg (by omega)];omega
   clear hc;have i1:(1:Int)<(high:Int)-(low:Int):=by omega
   have i2:(((low+high)/2:Nat):Int)<(m:Int):=by omega
   apply wp_cut;intro K0 J;go_wp2;apply J.out;clear J;generalize hmid:(low+high)/2=mid at *;have HMID:=vl hmid;clear hmid;generalize a.lows.getD mid 0=x at *;by_cases hc:x<=n
   ·have HC:Hid (vY a.lows n (f+1) low high=vY a.lows n f mid high):=by show _=_;rw[HB.out,if_pos hc]
    go_wp2;go_roundg (high-mid)
    case measure=>rw[HA.out.1];omega
    case rel=>exact⟨mid,high,f,rfl,rfl,rfl,by omega,by omega,by omega,by rw[HA.out.2,HC.out],rfl⟩
   ·have HC:Hid (vY a.lows n (f+1) low high=vY a.lows n f low mid):=by show _=_;rw[HB.out,if_neg hc]
    go_wp2;go_roundg (mid-low)
    case measure=>rw[HA.out.1];omega
    case rel=>exact⟨low,mid,f,rfl,rfl,rfl,by omega,by omega,by omega,by rw[HA.out.2,HC.out],rfl⟩
  ·have i1:(high:Int)-(low:Int)<=1:=by omega
   have HC:Hid (vY a.lows n f low high=low):=zJN _ _ _ _ _ h1;clear h1;go_wp2;go_ret;exact⟨by rw[HA.out.2,HC.out];rfl,K1.out⟩
def Ar.letter (a:Ar)(n:Int):Int:=a.letters.getD (a.area n) 0
def Ar.alike (a:Ar)(m n:Int):Bool:=(a.area m:Int)==(a.area n:Int)
theorem zGZ (w:World)(lv tv sv:Value)(a:Ar)(hA:ArAt w lv tv sv a)(hl:a.lows.length<=1000000000000)(h0:0<a.lows.length)(hll:a.letters.length=a.lows.length)(n:Int):
  Calls prog 175 #[agg #[lv,tv,sv],int i64 n] w fun e w'=>e=returned (int i64 (a.letter n))∧Grew w w':=by
 obtain⟨al,cl,rfl,-⟩:=id hA.lows;obtain⟨bt,ot,ct,rfl,hbt,_,_,htc⟩:=hA.letters.block (by omega);obtain⟨as_,cs,rfl,-⟩:=id hA.sets;obtain⟨w1,hw1,K1,y0,y1,y2⟩:∃w1,w1=w.alloc (.cells #[slice al a.lows.length cl,slice (some ⟨bt,ot,none⟩) a.letters.length ct,slice as_ a.sets.length cs] 172)∧Hid (Grew w w1∧w.heap.size<w1.heap.size)∧w1.cell? ⟨w.heap.size,0,none⟩=some (slice al a.lows.length cl)∧w1.cell? ⟨w.heap.size,1,none⟩=some (slice (some ⟨bt,ot,none⟩) a.letters.length ct)∧w1.cell? ⟨w.heap.size,2,none⟩=some (slice as_ a.sets.length cs):=by
  have h:=gU w (.cells #[slice al a.lows.length cl,slice (some ⟨bt,ot,none⟩) a.letters.length ct,slice as_ a.sets.length cs] 172);refine⟨_,rfl,⟨kZ _ _ lQ,by simp⟩,?_,?_,?_⟩ <;> ·unfold cell?;rw[h];rfl
 have HC:=zFw w1 _ _ _ a (hA.grown K1.out.1) hl n;have har:a.area n<a.letters.length:=by have:=a.area_lt n h0;omega
 have hcc:w.cell? ⟨bt,ot+a.area n,none⟩=some (int i64 (a.letters.getD (a.area n) 0)):=htc _ har;have HV:Hid (a.letter n=a.letters.getD (a.area n) 0):=rfl;have HLB:Hid (In w bt∧w.cell? ⟨bt,ot+a.area n,none⟩=some (int i64 (a.letters.getD (a.area n) 0))):=⟨hbt,hcc⟩
 clear htc hA hcc h0 hll;generalize a.letters.getD (a.area n) 0=x at *;generalize a.area n=k at *;have i1:(k:Int)<(a.letters.length:Int):=by omega
 go_in;apply wp_cut;intro K0 J;go_wp2;apply J.out;rw[<-hw1];clear hw1;go_wp2_with (first|(go_at_call 185;refine HC.mono ?_;rintro e w2 ⟨rfl,hk2⟩;have z1:w2.cell? ⟨w.heap.size,1,none⟩=some (slice (some ⟨bt,ot,none⟩) a.letters.length ct):=zA y1 K1.out.2 hk2;have z2:w2.cell? ⟨bt,ot+k,none⟩=some (int i64 x):=zA (zA HLB.out.2 HLB.out.1 K1.out.1) (lZ HLB.out.1 K1.out.1.size) hk2))
 go_ret;exact⟨by rw[HV.out];rfl,K1.out.1.trans (hk2.lower K1.out.1.size K1.out.1.size)⟩
theorem zII (w:World)(lv tv sv:Value)(a:Ar)(hA:ArAt w lv tv sv a)(hl:a.lows.length<=1000000000000)(m n:Int):
  Calls prog 177 #[agg #[lv,tv,sv],int i64 m,int i64 n] w fun e w'=>e=returned (bool (a.alike m n))∧Grew w w':=by
 obtain⟨al,cl,rfl,-⟩:=id hA.lows;obtain⟨at_,ct,rfl,-⟩:=id hA.letters;obtain⟨as_,cs,rfl,-⟩:=id hA.sets;obtain⟨w1,hw1,K1,y0,y1,y2⟩:∃w1,w1=w.alloc (.cells #[slice al a.lows.length cl,slice at_ a.letters.length ct,slice as_ a.sets.length cs] 172)∧Hid (Grew w w1∧w.heap.size<w1.heap.size)∧w1.cell? ⟨w.heap.size,0,none⟩=some (slice al a.lows.length cl)∧w1.cell? ⟨w.heap.size,1,none⟩=some (slice at_ a.letters.length ct)∧w1.cell? ⟨w.heap.size,2,none⟩=some (slice as_ a.sets.length cs):=by
  have h:=gU w (.cells #[slice al a.lows.length cl,slice at_ a.letters.length ct,slice as_ a.sets.length cs] 172);refine⟨_,rfl,⟨kZ _ _ lQ,by simp⟩,?_,?_,?_⟩ <;> ·unfold cell?;rw[h];rfl
 have HC:Hid (∀w' x,Grew w w'->Ca 185 #[agg #[slice al a.lows.length cl,slice at_ a.letters.length ct,slice as_ a.sets.length cs],int i64 x] w' fun e w2=>e=returned (int i64 (a.area x))∧Grew w' w2):=fun w' x hk=>zFw w' _ _ _ a (hA.grown hk) hl x;have HV:Hid (a.alike m n=((a.area m:Int)==(a.area n:Int))):=rfl;go_in;apply wp_cut;intro K0 J;go_wp2;apply J.out;rw[<-hw1];clear hw1;apply wp_cut;intro K0 J;go_wp2_with (first|(go_at_call 185;refine(HC.out _ m K1.out.1).mono ?_;rintro e w2 ⟨rfl,hk2⟩;have z0:=zA y0 K1.out.2 hk2;have z1:=zA y1 K1.out.2 hk2;have z2:=zA y2 K1.out.2 hk2))
 apply J.out;clear J y0 y1 y2;have K2:=vl <| K1.out.1.trans (hk2.lower K1.out.1.size K1.out.1.size);clear hk2;go_wp2_with (first|(go_at_call 185;refine(HC.out _ n K2.out).mono ?_;rintro e w3 ⟨rfl,hk3⟩))
 go_ret;exact⟨by rw[HV.out];rfl,K2.out.trans (hk3.lower K2.out.size K2.out.size)⟩
def zCy (l:List Int)(n:Int):Nat->Nat
 |0=>0
 |i+1=>if l.getD i 0>n then zCy l n i else i+1
theorem zM0 (l:List Int)(n:Int)(i:Nat):zCy l n i<=i:=by
 induction i with
 |zero=>exact lQ
 |succ i ih=>unfold zCy;split <;> omega
def zCk (l:List Int)(n:Int)(i:Nat):List Int:=l.take i++n::l.drop i
def zFR (l:List Int)(n:Int):List Int:=zCk l n (zCy l n l.length)
theorem zF7 (l:List Int)(n:Int)(i:Nat):(zCk l n i).length=l.length+1:=by
 simp[zCk];omega
theorem zDr (l:List Int)(n:Int)(i j:Nat)(hi:i<=l.length):(zCk l n i).getD j 0=if j<i then l.getD j 0 else if j=i then n else l.getD (j-1) 0:=by
 unfold zCk;rw[lW,List.getElem?_append,List.length_take];by_cases h1:j<i
 ·rw[if_pos (by omega),if_pos h1,List.getElem?_take,if_pos h1,lW]
 ·rw[if_neg (by omega),if_neg h1]
  by_cases h2:j=i
  ·subst h2
   rw[if_pos rfl,show j-min j l.length=0 by omega];rfl
  ·rw[if_neg h2,show j-min i l.length=(j-1-i)+1 by omega,List.getElem?_cons_succ,List.getElem?_drop,show i+(j-1-i)=j-1 by omega,lW]
structure BdAt (w:World)(H p:Nat)(v:Value)(l:List Int):Prop where
 blk:w.heap[p]? =some (.cells #[v] 239)
 own:OwnI w H v l
 pH:H<=p
 lt:p<w.heap.size
def zOm (w:World)(H p:Nat)(l:List Int):Prop:=∃v,BdAt w H p v l
theorem BdAt.cell {w:World}{H p:Nat}{v:Value}{l:List Int}(h:BdAt w H p v l):w.cell? ⟨p,0,none⟩=some v∧w.frozen? ⟨p,0,none⟩=false:=by
 constructor
 ·unfold cell?;rw[h.blk];rfl
 ·unfold frozen?;rw[h.blk];rfl
theorem OwnI.rowOf {w:World}{H:Nat}{v:Value}{l:List Int}(h:OwnI w H v l):Row w H 3 v l.length fun i=>int i64 (l.getD i 0):=h.row l.length rfl (fun i=>l.getD i 0) fun _ _=>rfl
theorem Row.ownI {w:World}{H:Nat}{v:Value}{l:List Int}(h:Row w H 3 v l.length fun i=>int i64 (l.getD i 0)):OwnI w H v l:=by
 have e:(List.range l.length).map (fun i=>Value.int i64 (l.getD i 0))=l.map fun x=>int i64 x:=by
  apply List.ext_getElem
  ·simp
  ·intro i h1 h2
   simp at h1;simp[h1]
 unfold OwnI;rw[<-e];exact h
def Stay (w w':World):Prop:=∀(k:Nat) (c:Array Value) (t:TypeId),w.heap[k]? =some (Obj.cells c t)->t≠3->t≠239->w'.heap[k]? =some (Obj.cells c t)
structure Bz (w0 w:World)(H p g cap:Nat)(l:List Int)(n:Int)(i:Nat):Prop where
 blk:w.heap[p]? =some (.cells #[slice (some ⟨g,0,none⟩) (l.length+1) cap] 239)
 row:Row w H 3 (slice (some ⟨g,0,none⟩) (l.length+1) cap) (l.length+1) fun j=>int i64 ((zCk l n i).getD j 0)
 lt:p<w.heap.size
 keep:Keep H H w0 w
 stay:Stay w0 w
theorem Bz.step {w0 w:World}{H p g cap:Nat}{l:List Int}{n:Int}{i:Nat}(h:Bz w0 w H p g cap l n (i+1))(hi:i+1<=l.length):Bz w0 ((w.setCell ⟨g,i+1,none⟩ (int i64 (l.getD i 0))).setCell ⟨g,i,none⟩ (int i64 n)) H p g cap l n i:=by
 have hgp:p≠g:=fun e=>zM h.row h.blk (by decide) (by rw[e];rfl);have hg:=(h.row.at (by omega)).1;refine⟨(lJ _ _ _ _ hgp).trans ((lJ _ _ _ _ hgp).trans h.blk),?_,by rw[zC,zC];exact h.lt,(h.keep.trans (zO _ _ _ _ hg)).trans (zO _ _ _ _ hg),?_⟩;rotate_left
 ·intro k c t hk h1 h2
  have hk2:=h.stay k c t hk h1 h2;have hkg:k≠g:=fun e=>zM h.row hk2 (Ne.symm h1) (by rw[e];rfl);exact(lJ _ _ _ _ hkg).trans ((lJ _ _ _ _ hkg).trans hk2)
 refine Row.congr ((h.row.set (i+1) (int i64 (l.getD i 0))).set i (int i64 n)) fun j hj=>?_;rw[zDr l n i j (by omega)];by_cases e1:j=i
 ·rw[if_pos e1,if_neg (by omega),if_pos e1]
 ·rw[if_neg e1]
  by_cases e2:j=i+1
  ·rw[if_pos e2,if_neg (by omega),if_neg e1,show j-1=i by omega]
  ·rw[if_neg e2,zDr l n (i+1) j hi]
   by_cases e3:j<i
   ·rw[if_pos (by omega),if_pos e3]
   ·rw[if_neg (by omega),if_neg e2,if_neg e3,if_neg e1]
theorem Bz.drewed {w0 X:World}{a:Addr}{u:Value}{H p g cap:Nat}{l:List Int}{n:Int}{i:Nat}(h:Bz w0 (X.setCell a u) H p g cap l n i):Bz w0 (X.drew.setCell a u) H p g cap l n i:=⟨h.1,h.2,h.3,⟨h.keep.os,h.keep.output,h.keep.size,h.keep.block⟩,h.stay⟩
theorem zJM (w:World)(H p:Nat)(v:Value)(l:List Int)(hB:BdAt w H p v l)(hl:l.length<=1000000000000)(n:Int):
  Calls prog 183 #[pointer (some ⟨p,0,none⟩),int i64 n] w fun e w'=>e=returned (tuple #[])∧zOm w' H p (zFR l n)∧Keep H H w w'∧Stay w w':=by
 obtain⟨i0,hi0,hz0,hz1,hz2⟩:=info_parts yJ;obtain⟨ao,cap,rfl⟩:=hB.own.form;obtain⟨y0,z0⟩:=hB.cell;have HB:=vl hB;have OR:=vl hB.own;have hpH:=hB.pH;have hlt:=hB.lt;have HNP:=vl <| zM hB.own hB.blk (by decide);have hHw:H<=w.heap.size:=by omega
 go_in;apply wp_cut;intro K0 J;go_wp2_with (first|(at_builtin;refine wpList_append_lies _ rfl _ _ 45 rfl (H) 3 i0 (int i64 0) 1 8 underlying45 hi0 hz0 hz1 hz2 rfl (by decide) _ _ _ rfl (OR.out.alloc _) ⟨w.heap.size,0,none⟩ 1 1 [int i64 n] rfl rfl (cell_one_new _ _ _) (by intro u hu;simp at hu;subst hu;rfl) (by decide) (by unfold maxLen;omega) (by omega) (by simp;omega) _ rfl ?_;intro gg cap2 w2 hown hgrow hat hlt2;have hPB:w2.heap[p]? =w.heap[p]? :=(hgrow.block p (by simp;omega) HNP.out).trans (lG _ _ _ hlt);have t0:w2.cell? ⟨p,0,none⟩=some (slice ao l.length cap):=(cell?_of_block hPB).trans y0;have f0:w2.frozen? ⟨p,0,none⟩=false:=(frozen?_of_block hPB).trans z0))
 apply J.out;obtain⟨w3,hw3,A3⟩:∃w3,w3=w2.setCell ⟨p,0,none⟩ (slice (some ⟨gg,0,none⟩) (l.length+1) cap2)∧Hid (Bz w w3 H p gg cap2 l n l.length):=by
  refine⟨_,rfl,?_,?_,?_,?_,?_⟩
  ·have hb:=hPB.trans HB.out.blk
   simp[setCell,lU,hb]
  ·have ho:=OwnI.snoc hown
   have hgp:gg≠p:=fun e=>zM hown (hPB.trans HB.out.blk) (by decide) (by rw[<-e];rfl);have hr:Row w2 H 3 (slice (some ⟨gg,0,none⟩) (l.length+1) cap2) (l.length+1) fun j=>int i64 ((zCk l n l.length).getD j 0):=by
    refine ho.row (l.length+1) (by simp) _ fun j hj=>?_;simp[zCk]
   exact hr.blk fun g _ _ hg=>lJ _ _ _ _ fun e=>hgp (by have e':gg=g:=(by simpa[Value.ownBlock] using hg);rw[e',e])
  ·rw[zC];exact lZ hlt (lY (by simp) hgrow.size)
  ·exact(xN (xP OR.out hgrow hHw)).trans (zO _ _ _ _ hpH)
  ·intro k c t hk h1 h2
   have hkl:k<w.heap.size:=by
    rcases Nat.lt_or_ge k w.heap.size with h|h
    ·exact h
    ·rw[Array.getElem?_eq_none h] at hk;cases hk
   have hkp:k≠p:=fun e=>by
    rw[e,HB.out.blk] at hk;injection hk with hk;injection hk with _ hk;exact h2 hk.symm
   exact(lJ _ _ _ _ hkp).trans ((hgrow.block k (by simp;omega) (zM OR.out hk (Ne.symm h1))).trans ((lG _ _ _ hkl).trans hk))
 rw[<-hw3];clear hw3 hPB t0 f0 hown hgrow hat y0 z0;have y3:w3.cell? ⟨p,0,none⟩=some (slice (some ⟨gg,0,none⟩) (l.length+1) cap2):=by unfold cell?;rw[A3.out.blk];rfl
 go_wp2;clear y3;go_loopg [4] l.length (fun q x wr=>∃i:Nat,q=i∧i<=l.length∧x=int i64 (i:Int)∧Bz w wr H p gg cap2 l n i∧zCy l n l.length=zCy l n i)
 case atStart=>exact⟨l.length,rfl,lQ,(by first|rfl|(congr 1;omega)),A3.out,rfl⟩
 case round=>
  obtain⟨i,hgk,hi,rfl,hZ,hp⟩:=hrel;have HA:Hid (gk=i∧Bz w wr H p gg cap2 l n i∧zCy l n l.length=zCy l n i):=⟨hgk,hZ,hp⟩
  have y3:wr.cell? ⟨p,0,none⟩=some (slice (some ⟨gg,0,none⟩) (l.length+1) cap2):=by unfold cell?;rw[hZ.blk];rfl
  have fin:zCy l n i=i->zOm wr H p (zFR l n)∧Keep H H w wr∧Stay w wr:=fun e=>by
   refine⟨⟨_,hZ.blk,?_,hpH,hZ.lt⟩,hZ.keep,hZ.stay⟩;have hr:=hZ.row;rw[show i=zCy l n l.length by rw[hp,e]] at hr;have e2:l.length+1=(zFR l n).length:=(zF7 _ _ _).symm;rw[e2] at hr ⊢;exact Row.ownI hr
  have FN:=vl fin;clear fin;cases i with
  |zero=>
   clear hgk hZ hp;go_wp2;go_end0;exact⟨rfl,FN.out rfl⟩
  |succ i=>
   obtain⟨g1,g2,g3,g4⟩:=hZ.row.at (by omega)
   have e0:(zCk l n (i+1)).getD i 0=l.getD i 0:=by rw[zDr l n (i+1) i hi,if_pos (by omega)]
   have y4:wr.cell? ⟨gg,i,none⟩=some (int i64 (l.getD i 0)):=by rw[<-e0];exact g3 i (by omega)
   have y5:=g3 (i+1) (by omega);have z4:=g4 i;have z5:=g4 (i+1);have HP:Hid (zCy l n (i+1)=if l.getD i 0>n then zCy l n i else i+1):=rfl;have hgp:gg≠p:=fun e=>zM hZ.row hZ.blk (by decide) (by rw[<-e];rfl);have hle:=zM0 l n i;have i1:(0:Int)<((i+1:Nat):Int):=by omega
   have i2:(i:Int)<((l.length+1:Nat):Int):=by omega
   have i3:((i+1:Nat):Int)<((l.length+1:Nat):Int):=by omega
   have ew:IntKind.i64.wrap (((i+1:Nat):Int)-1)=(i:Int):=by rw[zAI _ (by omega) (by omega)];omega
   have HST:=vl <| hZ.step hi;clear hgk hZ hp e0 g1 g2 g3 g4;generalize l.getD i 0=x at *;generalize (zCk l n (i+1)).getD (i+1) 0=x2 at *;by_cases hx:x>n
   ·have HP2:Hid (zCy l n (i+1)=zCy l n i):=by show _=_;rw[HP.out,if_pos hx]
    go_wp2;go_region;obtain⟨w5,hw5,H5,q3,q4,q5⟩:∃w5,w5=(wr.setCell ⟨gg,i+1,none⟩ (int i64 x)).drew∧Hid (Bz w (w5.setCell ⟨gg,i,none⟩ (int i64 n)) H p gg cap2 l n i)∧w5.cell? ⟨p,0,none⟩=some (slice (some ⟨gg,0,none⟩) (l.length+1) cap2)∧w5.cell? ⟨gg,i,none⟩=some (int i64 x)∧w5.frozen? ⟨gg,i,none⟩=false:=by
     have hb:(wr.setCell ⟨gg,i+1,none⟩ (int i64 x)).heap[p]? =wr.heap[p]? :=lJ _ _ _ _ (Ne.symm hgp);refine⟨_,rfl,HST.out.drewed,(cell?_of_block hb).trans y3,?_,?_⟩
     ·show(wr.setCell ⟨gg,i+1,none⟩ (int i64 x)).cell? ⟨gg,i,none⟩=_
      rw[World.cell?_setCell_other]
      ·exact y4
      ·intro e
       injection e with _ e _;omega
     ·show(wr.setCell ⟨gg,i+1,none⟩ (int i64 x)).frozen? ⟨gg,i,none⟩=_
      simpa using z4
    rw[<-hw5];clear hw5 y3 y4 y5 z4 z5;go_wp2;go_roundg i
    case measure=>rw[HA.out.1];omega
    case rel=>exact⟨i,rfl,by omega,by go_num,H5.out,by rw[HA.out.2.2,HP2.out]⟩
   ·have HP2:Hid (zCy l n (i+1)=i+1):=by show _=_;rw[HP.out,if_neg hx]
    go_wp2;go_end0;exact⟨rfl,FN.out HP2.out⟩
def zMH (l:List Int)(r:Int×Int):List Int:=zFR (zFR l r.1) (r.2+1)
def inR (l:List Int)(rs:List (Int×Int)):List Int:=rs.foldl zMH l
def xH (sets:List Cs):List Int:=sets.foldl (fun l s=>inR l s.ranges) [0,55296,57344,1114112]
theorem zCC {α β:Type}(f:β->α->β)(b:β)(l:List α)(d:α)(k:Nat)(hk:k<l.length):(l.take (k+1)).foldl f b=f ((l.take k).foldl f b) (l.getD k d):=by
 rw[List.take_add_one,List.foldl_append,lW,lV hk];rfl
theorem zFc (l:List Int)(n:Int):(zFR l n).length=l.length+1:=zF7 _ _ _
theorem zJ9 (l:List Int)(rs:List (Int×Int)):(inR l rs).length=l.length+2*rs.length:=by
 unfold inR;induction rs generalizing l with
 |nil=>simp
 |cons r rs ih=>
  rw[List.foldl_cons,ih];unfold zMH;rw[zFc,zFc,gX];omega
def yC:List Cs->Nat
 |[]=>0
 |s::l=>s.ranges.length+yC l
theorem zFt (sets:List Cs)(l:List Int):(sets.foldl (fun l s=>inR l s.ranges) l).length=l.length+2*yC sets:=by
 induction sets generalizing l with
 |nil=>simp[yC]
 |cons s sets ih=>
  rw[List.foldl_cons,ih,zJ9];simp only[yC];omega
theorem zDV (sets:List Cs)(j:Nat)(hj:j<sets.length):yC (sets.take j)+(sets.getD j ⟨[],false⟩).ranges.length<=yC sets:=by
 induction sets generalizing j with
 |nil=>simp at hj
 |cons s sets ih=>
  cases j with
  |zero=>simp[yC]
  |succ j=>
   have:=ih j (by simpa using hj);simp only[List.take_succ_cons,yC,List.getD_cons_succ];omega
structure Bo (w wr:World)(l:List Int):Prop where
 bd:zOm wr (w.heap.size+1) (w.heap.size+2) l
 res:wr.heap[w.heap.size]? =some (.cells #[slice none 0 0] 239)
 keep:Grew w wr
theorem Bo.grown {w wr w2:World}{l:List Int}(h:Bo w wr l)(hk:Grew wr w2):Bo w w2 l:=by
 obtain⟨v,hb⟩:=h.bd;have hl:=hb.lt;exact⟨⟨v,(hk.block _ hl (kJ hl)).trans hb.blk,zK hb.own hk,hb.pH,lZ hl hk.size⟩,(hk.block _ (by omega) (by omega)).trans h.res,h.keep.trans (hk.lower (by omega) (by omega))⟩
theorem Bo.add {w wr:World}{l:List Int}(h:Bo w wr l)(hl:l.length<=1000000000000)(n:Int):
  Calls prog 183 #[pointer (some ⟨w.heap.size+2,0,none⟩),int i64 n] wr fun e w'=>e=returned (tuple #[])∧Bo w w' (zFR l n)∧wr.heap.size<=w'.heap.size∧Stay wr w':=by
 obtain⟨v,hb⟩:=h.bd;refine(zJM wr _ _ v l hb hl n).mono ?_;rintro e w2 ⟨rfl,hb2,hk,hs⟩;exact⟨rfl,⟨hb2,(hk.block _ (by omega) (by omega)).trans h.res,h.keep.trans (hk.lower (by omega) (by omega))⟩,hk.size,hs⟩
theorem Bo.start (w:World):Bo w (((w.alloc (.cells #[slice none 0 0] 239)).alloc (.cells #[int i64 0,int i64 55296,int i64 57344,int i64 1114112] 3)).alloc (.cells #[slice (some ⟨w.heap.size+1,0,none⟩) 4 4] 239)) [0,55296,57344,1114112]:=by
 obtain⟨w1,hw1⟩:∃w1,w1=w.alloc (.cells #[slice none 0 0] 239):=⟨_,rfl⟩
 have h1:w1.heap[w.heap.size]? =some (.cells #[slice none 0 0] 239):=by rw[hw1];exact gU w _
 have k1:Grew w w1:=by rw[hw1];exact kZ _ _ lQ
 have s1:w1.heap.size=w.heap.size+1:=by rw[hw1];simp
 rw[<-hw1];obtain⟨w2,hw2⟩:∃w2,w2=w1.alloc (.cells #[int i64 0,int i64 55296,int i64 57344,int i64 1114112] 3):=⟨_,rfl⟩
 have h2:w2.heap[w.heap.size+1]? =some (.cells #[int i64 0,int i64 55296,int i64 57344,int i64 1114112] 3):=by rw[hw2,<-s1];exact gU w1 _
 have k2:Grew w1 w2:=by rw[hw2];exact kZ _ _ lQ
 have s2:w2.heap.size=w.heap.size+2:=by rw[hw2];simp[s1]
 rw[<-hw2];obtain⟨w3,hw3⟩:∃w3,w3=w2.alloc (.cells #[slice (some ⟨w.heap.size+1,0,none⟩) 4 4] 239):=⟨_,rfl⟩
 have h3:w3.heap[w.heap.size+2]? =some (.cells #[slice (some ⟨w.heap.size+1,0,none⟩) 4 4] 239):=by rw[hw3,<-s2];exact gU w2 _
 have k3:Grew w2 w3:=by rw[hw3];exact kZ _ _ lQ
 have s3:w3.heap.size=w.heap.size+3:=by rw[hw3];simp[s2]
 rw[<-hw3];refine⟨⟨_,h3,zK ⟨rfl,.inr ⟨w.heap.size+1,4,#[int i64 0,int i64 55296,int i64 57344,int i64 1114112],rfl,by omega,h2,lQ,by unfold maxLen;omega,rfl,rfl⟩⟩ k3,by omega,by omega⟩,?_,(k1.trans (k2.lower (by omega) (by omega))).trans (k3.lower (by omega) (by omega))⟩;exact(k3.block _ (by omega) (by omega)).trans ((k2.block _ (by omega) (by omega)).trans h1)
def Cs.Small (s:Cs):Prop:=∀r∈s.ranges,-4294967296<=r.1∧r.1<=4294967296∧-4294967296<=r.2∧r.2<=4294967296
theorem zEj (w:World)(v:Value)(sets:List Cs)(hS:SetsAt w v sets)(hn:sets.length<=24)(hN:yC sets<=100000000000)(hsm:∀s∈sets,s.Small):
  Calls prog 167 #[v] w fun e w'=>∃u,e=returned (agg #[u])∧OwnI w' w.heap.size u (xH sets)∧Grew w w':=by
 obtain⟨ao,cap,rfl,_,_,h3⟩:=hS;have HR:=vl h3;have HSM:Hid (∀i,i<sets.length->(sets.getD i ⟨[],false⟩).Small):=fun i hi=>hsm _ (zS _ i _ hi);have h0:=Bo.start w;have HNN:=vl hN;clear h3 hsm hN;go_in;apply wp_cut;intro K0 J;go_wp2;apply J.out;clear J;apply wp_cut;intro K0 J;go_wp2;apply J.out;clear J;generalize ((w.alloc (.cells #[slice none 0 0] 239)).alloc (.cells #[int i64 0,int i64 55296,int i64 57344,int i64 1114112] 3)).alloc (.cells #[slice (some ⟨w.heap.size+1,0,none⟩) 4 4] 239)=w1 at *;have H0:=vl h0;clear h0;go_wp2;go_loopg [12] sets.length (fun q i wr=>∃j:Nat,q=sets.length-j∧j<=sets.length∧i=int i64 (j:Int)∧Bo w wr (xH (sets.take j)))
 case atStart=>exact⟨0,rfl,lX,rfl,by rw[List.take_zero];exact H0.out⟩
 case round=>
  obtain⟨j,hgk,hj,rfl,hB⟩:=hrel;have HA:Hid (gk=sets.length-j∧Bo w wr (xH (sets.take j))):=⟨hgk,hB⟩
  by_cases hj2:j<sets.length
  ·have i1:(j:Int)<(sets.length:Int):=by omega
   obtain⟨b,o,u,rfl,hb,c0,c1,hr⟩:=HR.out j hj2;have hsmj:=HSM.out j hj2;have y0:=zA c0 hb hB.keep;have y1:=zA c1 hb hB.keep;obtain⟨s,hs⟩:∃s,sets.getD j ⟨[],false⟩=s:=⟨_,rfl⟩
   have hrt:=zDV sets j hj2;rw[hs] at hr y1 hsmj hrt;have HSJ:Hid (sets.getD j ⟨[],false⟩=s∧yC (sets.take j)+s.ranges.length<=yC sets):=⟨hs,hrt⟩
   obtain⟨au,cu,rfl,_,_,hrc⟩:=hr;have HRC:=vl hrc;have HSM2:Hid s.Small:=hsmj;have hlr:s.ranges.length<=100000000000:=by have:=HNN.out;omega
   clear hrc hsmj hs hrt c0 c1 hgk hB;go_wp2;have H1:Hid (Bo w (wr.alloc (.cells #[slice au s.ranges.length cu,bool s.others] 161)) (xH (sets.take j))):=HA.out.2.grown (kZ _ _ lQ);generalize wr.alloc (.cells #[slice au s.ranges.length cu,bool s.others] 161)=w2 at *;clear y0 y1;go_loopg [19] s.ranges.length (fun q i wt=>∃k:Nat,q=s.ranges.length-k∧k<=s.ranges.length∧i=int i64 (k:Int)∧Bo w wt (inR (xH (sets.take j)) (s.ranges.take k)))
   case atStart=>exact⟨0,rfl,lX,rfl,by rw[List.take_zero];exact H1.out⟩
   case round=>
    obtain⟨k,hgk,hk,rfl,hB⟩:=hrel;have HB:Hid (gk=s.ranges.length-k∧Bo w wr (inR (xH (sets.take j)) (s.ranges.take k))):=⟨hgk,hB⟩
    by_cases hk2:k<s.ranges.length
    ·have i2:(k:Int)<(s.ranges.length:Int):=by omega
     obtain⟨br,orr,rfl,hbr,d0,d1⟩:=HRC.out k hk2;have y0:=zA d0 hbr hB.keep;have y1:=zA d1 hbr hB.keep;obtain⟨m1,m2,m3,m4⟩:=HSM2.out _ (zS s.ranges k (0,0) hk2);have HST:Hid (inR (xH (sets.take j)) (s.ranges.take (k+1))=zMH (inR (xH (sets.take j)) (s.ranges.take k)) (s.ranges.getD k (0,0))):=zCC _ _ _ (0,0) k hk2;have HLEN:Hid ((inR (xH (sets.take j)) (s.ranges.take k)).length+2<=1000000000000):=by
      have h1:=HSJ.out.2;have h2:=HNN.out;have h3:(xH (sets.take j)).length=4+2*yC (sets.take j):=zFt _ _;show _<=_;rw[zJ9,h3,List.length_take];omega
     obtain⟨l,hl⟩:∃l,inR (xH (sets.take j)) (s.ranges.take k)=l:=⟨_,rfl⟩
     rw[hl] at HST HLEN HB;clear d0 d1 hgk hB hl;obtain⟨x,hx⟩:∃x,(s.ranges.getD k (0,0)).1=x:=⟨_,rfl⟩
     obtain⟨y,hy⟩:∃y,(s.ranges.getD k (0,0)).2=y:=⟨_,rfl⟩
     have HXY:Hid (zMH l (s.ranges.getD k (0,0))=zFR (zFR l x) (y+1)):=by show _=_;unfold zMH;rw[hx,hy]
     rw[hx] at y0 m1 m2;rw[hy] at y1 m3 m4;clear hx hy;have H2:Hid (Bo w (wr.alloc (.cells #[int i64 x,int i64 y] 255)) l∧(wr.alloc (.cells #[int i64 x,int i64 y] 255)).heap[wr.heap.size]? =some (.cells #[int i64 x,int i64 y] 255)):=⟨HB.out.2.grown (kZ _ _ lQ),gU wr _⟩
     have HC1:Hid (∀wx,Bo w wx l->_):=fun wx h=>h.add (lY (Nat.le_add_right _ 2) HLEN.out) x;have HC2:Hid (∀wx,Bo w wx (zFR l x)->_):=fun wx h=>h.add (by rw[zFc];have:=HLEN.out;omega) (y+1);go_wp2_with (first|(go_at_call 183;first|(refine (HC2.out _ hb5).mono ?_;rintro e w6 ⟨rfl,hb6,-,-⟩)|(refine (HC1.out _ H2.out.1).mono ?_;rintro e w5 ⟨rfl,hb5,hs5,hst5⟩;have z1:w5.cell? ⟨wr.heap.size,1,none⟩=some (int i64 y):=(by have h:=hst5 _ _ _ H2.out.2 (by decide) (by decide);unfold cell?;rw[h];rfl))))
     go_roundg (s.ranges.length-(k+1))
     case measure=>rw[HB.out.1];omega
     case rel=>exact⟨k+1,rfl,by omega,by go_num,by rw[HST.out,HXY.out];exact hb6⟩
    ·have i2:(s.ranges.length:Int)<=(k:Int):=by omega
     have HZ:Hid (Bo w wr (xH (sets.take (j+1)))):=by
      have h:=hB;have et:s.ranges.take k=s.ranges:=List.take_of_length_le (by omega);rw[et] at h;have e:xH (sets.take (j+1))=inR (xH (sets.take j)) s.ranges:=by
       rw[<-HSJ.out.1];exact zCC _ _ _ ⟨[],false⟩ j hj2
      show Bo _ _ _;rw[e];exact h
     clear hgk hB;go_wp2;go_roundg (sets.length-(j+1))
     case measure=>rw[HA.out.1];omega
     case rel=>exact⟨j+1,rfl,by omega,by go_num,HZ.out⟩
  ·have i1:(sets.length:Int)<=(j:Int):=by omega
   have HZ:Hid (Bo w wr (xH sets)):=by
    have h:=hB;rw[List.take_of_length_le (by omega)] at h;exact h
   obtain⟨v,hb⟩:=HZ.out.bd;obtain⟨y0,-⟩:=hb.cell;obtain⟨av,cv,rfl⟩:=hb.own.form;have hres:=HZ.out.res;have x0:wr.cell? ⟨w.heap.size,0,none⟩=some (slice none 0 0):=by unfold cell?;rw[hres];rfl
   have xf:wr.frozen? ⟨w.heap.size,0,none⟩=false:=by unfold frozen?;rw[hres];rfl
   have HO:Hid (OwnI wr (w.heap.size+1) (slice av (xH sets).length cv) (xH sets)):=hb.own;clear hgk hB hb hres;go_wp2;refine bodyPost_ret (v:=agg #[slice av (xH sets).length cv]) (by simp[results,results167,go_sem, *]) rfl ⟨_,rfl,vD (H:=w.heap.size+1) (zX HO.out (by omega)) (by omega),HZ.out.keep.trans (zO _ _ _ _ lQ)⟩
section
structure Aw (w:World)(H p:Nat)(lv tv sv:Value)(a:Ar):Prop where
 blk:w.heap[p]? =some (.cells #[lv,tv,sv] 172)
 lows:OwnI w H lv a.lows
 letters:OwnI w H tv a.letters
 sets:OwnI w H sv a.sets
 ne1:∀g,lv.ownBlock=some g->some g≠tv.ownBlock
 ne2:∀g,lv.ownBlock=some g->some g≠sv.ownBlock
 ne3:∀g,tv.ownBlock=some g->some g≠sv.ownBlock
 pH:p<H
 lt:H<=w.heap.size
section
variable {w w2:World} {H p:Nat} {lv tv sv:Value} {a:Ar}
theorem Aw.grown (h:Aw w H p lv tv sv a)(hk:Grew w w2):Aw w2 H p lv tv sv a:=by
 have h1:=h.pH;have h2:=h.lt;exact⟨(hk.block _ (by omega) (by omega)).trans h.blk,zK h.lows hk,zK h.letters hk,zK h.sets hk,h.ne1,h.ne2,h.ne3,h.pH,lY h2 hk.size⟩
theorem Aw.cells (h:Aw w H p lv tv sv a):w.cell? ⟨p,0,none⟩=some lv∧w.cell? ⟨p,1,none⟩=some tv∧w.cell? ⟨p,2,none⟩=some sv∧∀i,w.frozen? ⟨p,i,none⟩=false:=by
 refine⟨?_,?_,?_,fun i=>?_⟩
 all_goals first|(unfold cell?;rw[h.blk];rfl)|(unfold frozen?;rw[h.blk];simp)
theorem yV {w:World}{H g cap n m:Nat}{v u:Value}{ys:List Value}{e z:Nat}(hu:w.ownsRow H e z u m ys)(hne:∀g,v.ownBlock=some g->some g≠u.ownBlock)(hat:v.ownBlock=some g∨w.heap.size<=g):∀k,(Value.slice (some ⟨g,0,none⟩) n cap).ownBlock=some k->some k≠u.ownBlock:=by
 intro k hk e;have e1:g=k:=by simpa[Value.ownBlock] using hk
 subst e1;rcases hat with ha|ha
 ·exact hne g ha e
 ·have:=(hu.lt g e.symm).2
  omega
theorem zCc {u v:Value}(h:∀g,u.ownBlock=some g->some g≠v.ownBlock):∀g,v.ownBlock=some g->some g≠u.ownBlock:=fun g hg e=>h g e.symm hg.symm
theorem Aw.lows_app {o:Obj}{g cap:Nat}{x:Int}(h:Aw w H p lv tv sv a)(hown:w2.ownsRow H 3 1 (slice (some ⟨g,0,none⟩) (a.lows.length+1) cap) (a.lows.length+1) ((a.lows.map fun x=>int i64 x)++[int i64 x]))(hg:(w.alloc o).grownBy w2 lv.ownBlock)(hat:lv.ownBlock=some g∨w.heap.size<=g):
  Aw (w2.setCell ⟨p,0,none⟩ (slice (some ⟨g,0,none⟩) (a.lows.length+1) cap)) H p (slice (some ⟨g,0,none⟩) (a.lows.length+1) cap) tv sv {a with lows:=a.lows++[x]}∧Keep H p w (w2.setCell ⟨p,0,none⟩ (slice (some ⟨g,0,none⟩) (a.lows.length+1) cap)):=by
 have hpH:=h.pH;have hlt:=h.lt;have hbl:∀j,j<H->w2.heap[j]? =w.heap[j]? :=fun j hj=>(hg.block j (by simp;omega) fun e=>by have:=(h.lows.lt j e.symm).1;omega).trans (lG _ _ _ (by omega));have hb:=(hbl p hpH).trans h.blk;have hsz:w.heap.size<=w2.heap.size:=lY (by simp) hg.size;refine⟨⟨?_,zX (OwnI.snoc hown) h.pH,zX (zR hg h.letters (fun g hg e=>h.ne1 g e.symm hg.symm)) h.pH,zX (zR hg h.sets (fun g hg e=>h.ne2 g e.symm hg.symm)) h.pH,yV h.letters h.ne1 hat,yV h.sets h.ne2 hat,h.ne3,hpH,by rw[zC];omega⟩,⟨hg.os,hg.output,by rw[zC];exact hsz,fun k h1 h2=>(lJ _ _ _ _ h2).trans (hbl k h1)⟩⟩;simp[setCell,lU,hb]
theorem Aw.letters_app {o:Obj}{g cap:Nat}{x:Int}(h:Aw w H p lv tv sv a)(hown:w2.ownsRow H 3 1 (slice (some ⟨g,0,none⟩) (a.letters.length+1) cap) (a.letters.length+1) ((a.letters.map fun x=>int i64 x)++[int i64 x]))(hg:(w.alloc o).grownBy w2 tv.ownBlock)(hat:tv.ownBlock=some g∨w.heap.size<=g):
  Aw (w2.setCell ⟨p,1,none⟩ (slice (some ⟨g,0,none⟩) (a.letters.length+1) cap)) H p lv (slice (some ⟨g,0,none⟩) (a.letters.length+1) cap) sv {a with letters:=a.letters++[x]}∧Keep H p w (w2.setCell ⟨p,1,none⟩ (slice (some ⟨g,0,none⟩) (a.letters.length+1) cap)):=by
 have hpH:=h.pH;have hlt:=h.lt;have hbl:∀j,j<H->w2.heap[j]? =w.heap[j]? :=fun j hj=>(hg.block j (by simp;omega) fun e=>by have:=(h.letters.lt j e.symm).1;omega).trans (lG _ _ _ (by omega));have hb:=(hbl p hpH).trans h.blk;have hsz:w.heap.size<=w2.heap.size:=lY (by simp) hg.size;refine⟨⟨?_,zX (zR hg h.lows h.ne1) h.pH,zX (OwnI.snoc hown) h.pH,zX (zR hg h.sets (fun g hg e=>h.ne3 g e.symm hg.symm)) h.pH,zCc (yV h.lows (fun g hg e=>h.ne1 g e.symm hg.symm) hat),h.ne2,yV h.sets h.ne3 hat,hpH,by rw[zC];omega⟩,⟨hg.os,hg.output,by rw[zC];exact hsz,fun k h1 h2=>(lJ _ _ _ _ h2).trans (hbl k h1)⟩⟩;simp[setCell,lU,hb]
theorem Aw.sets_app {o:Obj}{g cap:Nat}{x:Int}(h:Aw w H p lv tv sv a)(hown:w2.ownsRow H 3 1 (slice (some ⟨g,0,none⟩) (a.sets.length+1) cap) (a.sets.length+1) ((a.sets.map fun x=>int i64 x)++[int i64 x]))(hg:(w.alloc o).grownBy w2 sv.ownBlock)(hat:sv.ownBlock=some g∨w.heap.size<=g):
  Aw (w2.setCell ⟨p,2,none⟩ (slice (some ⟨g,0,none⟩) (a.sets.length+1) cap)) H p lv tv (slice (some ⟨g,0,none⟩) (a.sets.length+1) cap) {a with sets:=a.sets++[x]}∧Keep H p w (w2.setCell ⟨p,2,none⟩ (slice (some ⟨g,0,none⟩) (a.sets.length+1) cap)):=by
 have hpH:=h.pH;have hlt:=h.lt;have hbl:∀j,j<H->w2.heap[j]? =w.heap[j]? :=fun j hj=>(hg.block j (by simp;omega) fun e=>by have:=(h.sets.lt j e.symm).1;omega).trans (lG _ _ _ (by omega));have hb:=(hbl p hpH).trans h.blk;have hsz:w.heap.size<=w2.heap.size:=lY (by simp) hg.size;refine⟨⟨?_,zX (zR hg h.lows h.ne2) h.pH,zX (zR hg h.letters h.ne3) h.pH,zX (OwnI.snoc hown) h.pH,h.ne1,zCc (yV h.lows (fun g hg e=>h.ne2 g e.symm hg.symm) hat),zCc (yV h.letters (fun g hg e=>h.ne3 g e.symm hg.symm) hat),hpH,by rw[zC];omega⟩,⟨hg.os,hg.output,by rw[zC];exact hsz,fun k h1 h2=>(lJ _ _ _ _ h2).trans (hbl k h1)⟩⟩;simp[setCell,lU,hb]
end
end
def Ar.look (a:Ar)(x:Int):Nat:=a.sets.findIdx (·==x)
def Ar.seen (a:Ar)(x:Int):Ar:=if a.look x<a.sets.length then a else{a with sets:=a.sets++[x]}
def AwIs (w:World)(H p:Nat)(a:Ar):Prop:=∃lv tv sv,Aw w H p lv tv sv a
theorem zNa (a:Ar)(x:Int)(j:Nat)(hj:j<a.sets.length)(h:a.sets.getD j 0=x)(hn:∀i,i<j->a.sets.getD i 0≠x):a.look x=j:=by
 unfold Ar.look;rw[List.findIdx_eq hj];rw[lW,lV hj] at h;refine⟨by simpa using h,fun i hi=>?_⟩;have:=hn i hi;rw[lW,lV (by omega)] at this;simpa using this
theorem zKV (a:Ar)(x:Int)(hn:∀i,i<a.sets.length->a.sets.getD i 0≠x):a.look x=a.sets.length:=by
 unfold Ar.look;rw[List.findIdx_eq_length];intro y hy;obtain⟨i,hi,rfl⟩:=List.getElem_of_mem hy;have:=hn i hi;rw[lW,lV hi] at this;simpa using this
theorem zE5 (w:World)(H p:Nat)(a:Ar)(hA:AwIs w H p a)(hl:a.sets.length<=1000000000000)(x:Int):
  Calls prog 168 #[pointer (some ⟨p,0,none⟩),int i64 x] w fun e w'=>e=returned (int i64 (a.look x))∧AwIs w' H p (a.seen x)∧Keep H p w w':=by
 obtain⟨i0,hi0,hz0,hz1,hz2⟩:=info_parts yJ;obtain⟨lv,tv,sv,hA⟩:=hA;obtain⟨as_,cs,rfl⟩:=hA.sets.form;obtain⟨y0,y1,y2,f⟩:=hA.cells;have f2:=f 2;have HA:=vl hA;have OR:=vl hA.sets;have hpH:=hA.pH;have hlt:=hA.lt;have HCL:Hid (∀i,i<a.sets.length->∃g,as_=some ⟨g,0,none⟩∧w.cell? ⟨g,i,none⟩=some (int i64 (a.sets.getD i 0))):=by
  intro i hi;obtain⟨g,hg⟩:∃g,as_=some ⟨g,0,none⟩:=by
   rcases hA.sets.2 with⟨h,h0⟩|⟨g,_,_,h,_⟩
   ·omega
   ·injection h with h _ _
    exact⟨g,h⟩
  subst hg;exact⟨g,rfl,hA.sets.cell i hi⟩
 have HL1:Hid (∀j,j<a.sets.length->a.sets.getD j 0=x->(∀i,i<j->a.sets.getD i 0≠x)->a.look x=j∧a.seen x=a):=fun j hj h hn=>by
  have e:=zNa a x j hj h hn;exact⟨e,by unfold Ar.seen;rw[e,if_pos hj]⟩
 have HL2:Hid ((∀i,i<a.sets.length->a.sets.getD i 0≠x)->a.look x=a.sets.length∧a.seen x={a with sets:=a.sets++[x]}):=fun hn=>by
  have e:=zKV a x hn;exact⟨e,by unfold Ar.seen;rw[e,if_neg (Nat.lt_irrefl _)]⟩
 go_in;go_wp2;go_loopg [12] a.sets.length (fun q i wr=>∃j:Nat,q=a.sets.length-j∧j<=a.sets.length∧i=int i64 (j:Int)∧(∀i,i<j->a.sets.getD i 0≠x)∧wr=w)
 case atStart=>exact⟨0,rfl,lX,rfl,fun i hi=>by omega,rfl⟩
 case round=>
  obtain⟨j,hgk,hj,rfl,hno,hw⟩:=hrel;subst hw;have HB:Hid (gk=a.sets.length-j∧∀i,i<j->a.sets.getD i 0≠x):=⟨hgk,hno⟩
  by_cases hj2:j<a.sets.length
  ·have i1:(j:Int)<(a.sets.length:Int):=by omega
   obtain⟨g,rfl,hc⟩:=HCL.out j hj2;have HL3:Hid (a.sets.getD j 0=x->a.look x=j∧a.seen x=a):=fun h=>HL1.out j hj2 h HB.out.2;have HN3:Hid (a.sets.getD j 0≠x->∀i,i<j+1->a.sets.getD i 0≠x):=fun h i hi=>by
    by_cases e:i=j
    ·rw[e];exact h
    ·exact HB.out.2 i (by omega)
   generalize a.sets.getD j 0=y at *;by_cases hy:y=x
   ·have HR:=HL3.out hy
    have HR2:=vl HR;have hy2:(y==x)=true:=by simp[hy]
    go_wp2;go_ret;exact⟨by rw[HR2.out.1];rfl,by rw[HR2.out.2];exact⟨_,_,_,HA.out⟩,⟨rfl,rfl,lQ,fun _ _ _=>rfl⟩⟩
   ·have HR:=vl <| HN3.out hy
    have hy2:(y==x)=false:=by simp[hy]
    go_wp2;go_roundg (a.sets.length-(j+1))
    case measure=>rw[HB.out.1];omega
    case rel=>exact⟨j+1,rfl,by omega,by go_num,HR.out,rfl⟩
  ·have i1:(a.sets.length:Int)<=(j:Int):=by omega
   have HR:=vl <| HL2.out fun i hi=>hno i (by omega);have hHs:=hlt;go_wp2_with (first|(at_builtin;refine wpList_append_lies _ rfl _ _ 45 rfl (H) 3 i0 (int i64 0) 1 8 underlying45 hi0 hz0 hz1 hz2 rfl (by decide) _ _ _ rfl (OR.out.alloc _) ⟨wr.heap.size,0,none⟩ 1 1 [int i64 x] rfl rfl (cell_one_new _ _ _) (by intro u hu;simp at hu;subst hu;rfl) (by decide) (by unfold maxLen;omega) (by omega) (by simp;omega) _ rfl ?_;intro gg cap2 w2 hown hgrow hat hlt2;have hPB:=(hgrow.block p (by simp;omega) (fun e=>by have:=(OR.out.lt _ e.symm).1;omega)).trans (lG _ _ _ (by omega));have t2:=(cell?_of_block hPB).trans y2;have g2:=(frozen?_of_block hPB).trans f2;have A2:=Aw.sets_app HA.out hown hgrow (by rcases hat with ha|ha;exact .inl ha;right;rw[ha];simp);have t3:=A2.1.cells.2.2.1))
   go_ret;refine⟨?_,by rw[HR.out.2];exact⟨_,_,_,A2.1⟩,A2.2⟩;rw[HR.out.1]
   first|rfl|(simp;done)|(show _=_;congr 2;omega)
theorem AwIs.grown {w w2:World}{H p:Nat}{a:Ar}(h:AwIs w H p a)(hk:Grew w w2):AwIs w2 H p a:=by
 obtain⟨lv,tv,sv,h⟩:=h;exact⟨lv,tv,sv,h.grown hk⟩
def Ar.turns (a:Ar)(l:Nat):Bool:=a.letters.length==0||(a.letters.getD (a.letters.length-1) 0 != (l:Int))
def Ar.step (sets:List Cs)(a:Ar)(low:Int):Ar:=
 if(a.seen (qP sets low)).turns (a.look (qP sets low)) then{a.seen (qP sets low) with lows:=(a.seen (qP sets low)).lows++[low],letters:=(a.seen (qP sets low)).letters++[(a.look (qP sets low):Int)]} else a.seen (qP sets low)
def qY (sets:List Cs)(j:Nat):Ar:=((xH sets).take j).foldl (Ar.step sets) ⟨[],[],[]⟩
def xY (sets:List Cs):Ar:=(xH sets).foldl (Ar.step sets) ⟨[],[],[]⟩
theorem zBI (sets:List Cs)(j:Nat)(hj:j<(xH sets).length):qY sets (j+1)=(qY sets j).step sets ((xH sets).getD j 0):=zCC _ _ _ 0 j hj
theorem zEZ (sets:List Cs)(j:Nat)(hj:(xH sets).length<=j):qY sets j=xY sets:=by
 unfold qY;rw[List.take_of_length_le hj];rfl
theorem zEK (a:Ar)(x:Int):(a.seen x).lows=a.lows∧(a.seen x).letters=a.letters∧(a.seen x).sets.length<=a.sets.length+1:=by
 unfold Ar.seen;split
 ·exact⟨rfl,rfl,by omega⟩
 ·exact⟨rfl,rfl,by simp⟩
theorem zIZ (sets:List Cs)(a:Ar)(low:Int)(n:Nat)(h:a.lows.length=a.letters.length∧a.lows.length<=n∧a.sets.length<=n):(a.step sets low).lows.length=(a.step sets low).letters.length∧(a.step sets low).lows.length<=n+1∧(a.step sets low).sets.length<=n+1:=by
 obtain⟨e1,e2,e3⟩:=zEK a (qP sets low);unfold Ar.step;split
 ·show((a.seen _).lows++[low]).length=((a.seen _).letters++[_]).length∧((a.seen _).lows++[low]).length<=n+1∧(a.seen _).sets.length<=n+1
  rw[e1,e2,kX,kX];simp only[List.length_singleton];omega
 ·rw[e1,e2]
  omega
theorem zCY (sets:List Cs)(j:Nat)(hj:j<=(xH sets).length):(qY sets j).lows.length=(qY sets j).letters.length∧(qY sets j).lows.length<=j∧(qY sets j).sets.length<=j:=by
 induction j with
 |zero=>exact⟨rfl,lQ,lQ⟩
 |succ j ih=>
  rw[zBI sets j (by omega)];exact zIZ sets _ _ j (ih (by omega))
theorem Ar.step_yes (sets:List Cs)(a:Ar)(low:Int)(h:(a.seen (qP sets low)).turns (a.look (qP sets low))=true):a.step sets low={a.seen (qP sets low) with lows:=(a.seen (qP sets low)).lows++[low],letters:=(a.seen (qP sets low)).letters++[(a.look (qP sets low):Int)]}:=by
 unfold Ar.step;rw[if_pos h]
theorem Ar.step_no (sets:List Cs)(a:Ar)(low:Int)(h:(a.seen (qP sets low)).turns (a.look (qP sets low))=false):a.step sets low=a.seen (qP sets low):=by
 unfold Ar.step;rw[h];rfl
theorem OwnI.some {w:World}{H n cap:Nat}{ao:Option Addr}{l:List Int}(h:OwnI w H (slice ao n cap) l)(hl:0<l.length):∃g,ao=some ⟨g,0,none⟩:=by
 rcases h.2 with⟨_,h0⟩|⟨g,_,_,h,_⟩
 ·omega
 ·injection h with h _ _
  exact⟨g,h⟩
theorem zAA {w:World}{H:Nat}{v:Value}{l:List Int}(h:OwnI w H v l):Ints w (In w) v l:=zBJ h fun g hg=>(h.lt g hg).2
theorem zJa (w:World)(v:Value)(sets:List Cs)(hS:SetsAt w v sets)(hn:sets.length<=24)(hN:yC sets<=100000000000)(hsm:∀s∈sets,s.Small):
  Calls prog 127 #[v] w fun e w'=>∃lv tv sv,e=returned (agg #[lv,tv,sv])∧ArAt w' lv tv sv (xY sets)∧Grew w w':=by
 obtain⟨i0,hi0,hz0,hz1,hz2⟩:=info_parts yJ;have HBC:Hid (∀w',Grew w w'->_):=fun w' hk=>zEj w' v sets (hS.grown hk) hn hN hsm;have HSC:Hid (∀w' c,Grew w w'->_):=fun w' c hk=>zGH w' v sets (hS.grown hk) hn (fun s hs=>by
  obtain⟨i,hi,rfl⟩:=List.getElem_of_mem hs;have h:=zDV sets i hi;rw[lW,lV hi] at h;have h2:sets[i].ranges.length<=yC sets:=by simpa using (lY (Nat.le_add_left _ _) h)
  omega) c
 have hbl:(xH sets).length<=500000000000:=by
  have:(xH sets).length=4+2*yC sets:=zFt _ _;omega
 have HSZ:Hid (∀j,j<=(xH sets).length->_):=fun j hj=>zCY sets j hj;have hal1:w.heap.size<(w.alloc (.cells #[slice none 0 0,slice none 0 0,slice none 0 0] 172)).heap.size:=by simp
 obtain⟨w1,hw1,K1⟩:∃w1,w1=w.alloc (.cells #[slice none 0 0,slice none 0 0,slice none 0 0] 172)∧Hid (Grew w w1∧w1.heap[w.heap.size]? =some (.cells #[slice none 0 0,slice none 0 0,slice none 0 0] 172)∧w.heap.size<w1.heap.size):=⟨_,rfl,kZ _ _ lQ,gU w _,by simp⟩
 go_in;apply wp_cut;intro K0 J;go_wp2;apply J.out;clear J;rw[<-hw1];clear hw1 hal1;apply wp_cut;intro K0 J;go_wp2_with (first|(go_at_call 167;refine(HBC.out _ K1.out.1).mono ?_;rintro e w2 ⟨u,rfl,hu,hk2⟩;obtain⟨au,cu,rfl⟩:=hu.form))
 apply J.out;clear J;apply wp_cut;intro K0 J;go_wp2;apply J.out;clear J;obtain⟨w4,hw4,A4,hs4⟩:∃w4,w4=(w2.alloc (.cells #[slice au (xH sets).length cu] 239)).alloc (.cells #[slice none 0 0,slice none 0 0,slice none 0 0] 172)∧Hid (AwIs w4 (w2.heap.size+2) (w2.heap.size+1) ⟨[],[],[]⟩∧Grew w w4∧w4.heap[w.heap.size]? =some (.cells #[slice none 0 0,slice none 0 0,slice none 0 0] 172)∧w4.cell? ⟨w2.heap.size,0,none⟩=some (slice au (xH sets).length cu)∧(∀i,i<(xH sets).length->∃g,au=some ⟨g,0,none⟩∧g<w2.heap.size∧w4.cell? ⟨g,i,none⟩=some (int i64 ((xH sets).getD i 0))))∧w.heap.size<w2.heap.size:=by
  obtain⟨w3,hw3⟩:∃w3,w3=w2.alloc (.cells #[slice au (xH sets).length cu] 239):=⟨_,rfl⟩
  have h3:w3.heap[w2.heap.size]? =some (.cells #[slice au (xH sets).length cu] 239):=by rw[hw3];exact gU w2 _
  have k3:Grew w2 w3:=by rw[hw3];exact kZ _ _ lQ
  have s3:w3.heap.size=w2.heap.size+1:=by rw[hw3];simp
  rw[<-hw3];obtain⟨w4,hw4⟩:∃w4,w4=w3.alloc (.cells #[slice none 0 0,slice none 0 0,slice none 0 0] 172):=⟨_,rfl⟩
  have h4:w4.heap[w2.heap.size+1]? =some (.cells #[slice none 0 0,slice none 0 0,slice none 0 0] 172):=by rw[hw4,<-s3];exact gU w3 _
  have k4:Grew w3 w4:=by rw[hw4];exact kZ _ _ lQ
  have s4:w4.heap.size=w2.heap.size+2:=by rw[hw4];simp[s3]
  have hz1:=K1.out.2.2;have hz2:=hk2.size;have kw:Grew w w4:=((K1.out.1.trans (hk2.lower (by omega) (by omega))).trans (k3.lower (by omega) (by omega))).trans (k4.lower (by omega) (by omega));refine⟨w4,hw4,⟨⟨_,_,_,⟨h4,ownsRow_nil _ _ _ _,ownsRow_nil _ _ _ _,ownsRow_nil _ _ _ _,fun g h=>by simp[Value.ownBlock] at h,fun g h=>by simp[Value.ownBlock] at h,fun g h=>by simp[Value.ownBlock] at h,by omega,by omega⟩⟩,kw,?_,?_,?_⟩,by omega⟩
  ·exact(k4.block _ (by omega) (by omega)).trans ((k3.block _ (by omega) (by omega)).trans ((hk2.block _ hz1 (by omega)).trans K1.out.2.1))
  ·have e:w4.heap[w2.heap.size]? =some (.cells #[slice au (xH sets).length cu] 239):=(k4.block _ (by omega) (by omega)).trans h3
   unfold cell?;rw[e];rfl
  ·intro i hi
   obtain⟨g,hg⟩:∃g,au=some ⟨g,0,none⟩:=by
    rcases hu.2 with⟨h,h0⟩|⟨g,_,_,h,_⟩
    ·omega
    ·injection h with h _ _
     exact⟨g,h⟩
   subst hg;have hl:=(hu.lt g rfl).2;exact⟨g,rfl,hl,zA (zA (hu.cell i hi) hl k3) (by omega) k4⟩
 rw[<-hw4];clear hw4 hu hk2;have y0:=A4.out.2.2.2.1;go_wp2;clear y0;go_loopg [15] (xH sets).length (fun q i wr=>∃j:Nat,q=(xH sets).length-j∧j<=(xH sets).length∧i=int i64 (j:Int)∧AwIs wr (w2.heap.size+2) (w2.heap.size+1) (qY sets j)∧Keep (w2.heap.size+2) (w2.heap.size+1) w4 wr)
 case atStart=>exact⟨0,rfl,lX,rfl,by unfold qY;rw[List.take_zero];exact A4.out.1,⟨rfl,rfl,lQ,fun _ _ _=>rfl⟩⟩
 case round=>
  obtain⟨j,hgk,hj,rfl,hA,hkp⟩:=hrel;have HA:Hid (gk=(xH sets).length-j∧AwIs wr (w2.heap.size+2) (w2.heap.size+1) (qY sets j)∧Keep (w2.heap.size+2) (w2.heap.size+1) w4 wr∧Grew w wr):=⟨hgk,hA,hkp,A4.out.2.1.trans (hkp.lower (by omega) (by omega))⟩
  by_cases hj2:j<(xH sets).length
  ·have i1:(j:Int)<((xH sets).length:Int):=by omega
   obtain⟨g,rfl,hg,hc⟩:=A4.out.2.2.2.2 j hj2;have yl:wr.cell? ⟨g,j,none⟩=some (int i64 ((xH sets).getD j 0)):=(cell?_of_block (hkp.block g (by omega) (by omega))).trans hc;have HPS:=vl <| zBI sets j hj2;have hsz:=HSZ.out j hj;clear hgk hkp hc;generalize (xH sets).getD j 0=low at *;generalize hbn:(xH sets).length=bn at *;obtain⟨x,hx⟩:∃x,qP sets low=x:=⟨_,rfl⟩
   obtain⟨a,ha⟩:∃a,qY sets j=a:=⟨_,rfl⟩
   rw[ha] at HPS hsz hA HA;have hse:=zEK a x;have HY:Hid ((a.seen x).turns (a.look x)=true->qY sets (j+1)={a.seen x with lows:=(a.seen x).lows++[low],letters:=(a.seen x).letters++[(a.look x:Int)]}):=fun h=>by
    rw[HPS.out];have:=Ar.step_yes sets a low (by rw[hx];exact h);rw[hx] at this;exact this
   have HNO:Hid ((a.seen x).turns (a.look x)=false->qY sets (j+1)=a.seen x):=fun h=>by
    rw[HPS.out];have:=Ar.step_no sets a low (by rw[hx];exact h);rw[hx] at this;exact this
   have HSC2:Hid (∀w',Grew w w'->Ca 169 #[v,int i64 low] w' fun e w2=>e=returned (int i64 (x:Nat))∧Grew w' w2):=fun w' h=>by rw[<-hx];exact HSC.out w' low h
   have HLC:Hid (∀w',AwIs w' (w2.heap.size+2) (w2.heap.size+1) a->_):=fun w' h=>zE5 w' _ _ a h (by omega) x;have hb1:(a.seen x).lows.length<=500000000000:=by rw[hse.1];omega
   have hb2:(a.seen x).letters.length<=500000000000:=by rw[hse.2.1,<-hsz.1];omega
   clear hse hsz;have hlw:w2.heap.size+2<=wr.heap.size:=by
    obtain⟨_,_,_,h⟩:=hA;exact h.lt
   clear ha hx hA;by_cases hl0:(a.seen x).letters.length=0
   ·have HT:=vl <| HY.out (by unfold Ar.turns;rw[hl0];rfl)
    have HLN:=vl hl0;clear hl0;go_wp2_with (first|(go_at_call 169;refine(HSC2.out _ HA.out.2.2.2).mono ?_;rintro e w5 ⟨rfl,hk5⟩)|(go_at_call 168;refine(HLC.out _ (HA.out.2.1.grown hk5)).mono ?_;rintro e w6 ⟨rfl,⟨lv,tv,sv,hA6⟩,hk6⟩;obtain⟨q0,q1,q2,qf⟩:=hA6.cells;obtain⟨al,cl,rfl⟩:=hA6.lows.form;obtain⟨at_,ct,htv⟩:=hA6.letters.form;rw[HLN.out] at htv;subst htv;have HA6:Hid (Aw w6 (w2.heap.size+2) (w2.heap.size+1) (slice al (a.seen x).lows.length cl) (slice at_ 0 ct) sv (a.seen x)∧Keep (w2.heap.size+2) (w2.heap.size+1) w4 w6):=⟨hA6,(HA.out.2.2.1.trans (hk5.lower (by omega) (by omega))).trans hk6⟩;have hl6:=hA6.lt;have OL6:w6.ownsRow (w2.heap.size+2) 3 1 (slice al (a.seen x).lows.length cl) (a.seen x).lows.length ((a.seen x).lows.map fun x=>int i64 x):=hA6.lows;clear hA6 hk6 hk5 qf q2)|(at_builtin;refine wpList_append_lies _ rfl _ _ 45 rfl (w2.heap.size+2) 3 i0 (int i64 0) 1 8 underlying45 hi0 hz0 hz1 hz2 rfl (by decide) _ _ _ rfl (OT7.alloc _) ⟨w7.heap.size,0,none⟩ 1 1 [int i64 (a.look x:Int)] rfl rfl (zA9 _ [int i64 (a.look x:Int)] _ _ (zC _ _ _)) (by intro u hu;simp at hu;subst hu;rfl) (by decide) (by unfold maxLen;omega) (by omega) (by simp[zC];omega) _ rfl ?_;intro g2 cap2 w8 hown2 hgrow2 hat2 hlt3;have hPB2:w8.heap[w2.heap.size+1]? =(w7.setCell ⟨w2.heap.size+1,0,none⟩ (slice (some ⟨gg,0,none⟩) ((a.seen x).lows.length+1) cap)).heap[w2.heap.size+1]? :=(hgrow2.block _ (by simp[zC];omega) (fun e=>by have:=(OT7.lt _ e.symm).1;omega)).trans (lG _ _ _ (by rw[zC];omega));have t2:w8.cell? ⟨w2.heap.size+1,1,none⟩=some (slice at_ 0 ct):=(cell?_of_block hPB2).trans t1;have g1:w8.frozen? ⟨w2.heap.size+1,1,none⟩=false:=(frozen?_of_block hPB2).trans f1)|(at_builtin;refine wpList_append_lies _ rfl _ _ 45 rfl (w2.heap.size+2) 3 i0 (int i64 0) 1 8 underlying45 hi0 hz0 hz1 hz2 rfl (by decide) _ _ _ rfl (OL6.alloc _) ⟨w6.heap.size,0,none⟩ 1 1 [int i64 low] rfl rfl (cell_one_new _ _ _) (by intro u hu;simp at hu;subst hu;rfl) (by decide) (by unfold maxLen;omega) (by omega) (by simp;omega) _ rfl ?_;intro gg cap w7 hown hgrow hat hlt2;have hPB:w7.heap[w2.heap.size+1]? =w6.heap[w2.heap.size+1]? :=(hgrow.block _ (by simp;omega) (fun e=>by have:=(OL6.lt _ e.symm).1;omega)).trans (lG _ _ _ (by omega));have t0:w7.cell? ⟨w2.heap.size+1,0,none⟩=some (slice al (a.seen x).lows.length cl):=(cell?_of_block hPB).trans q0;have g0:w7.frozen? ⟨w2.heap.size+1,0,none⟩=false:=(frozen?_of_block hPB).trans (HA6.out.1.cells.2.2.2 0);have A7:=Aw.lows_app HA6.out.1 hown hgrow (by rcases hat with ha|ha;exact .inl ha;right;rw[ha];simp);have t1:(w7.setCell ⟨w2.heap.size+1,0,none⟩ (slice (some ⟨gg,0,none⟩) ((a.seen x).lows.length+1) cap)).cell? ⟨w2.heap.size+1,1,none⟩=some (slice at_ 0 ct):=A7.1.cells.2.1;have OT7:(w7.setCell ⟨w2.heap.size+1,0,none⟩ (slice (some ⟨gg,0,none⟩) ((a.seen x).lows.length+1) cap)).ownsRow (w2.heap.size+2) 3 1 (slice at_ 0 ct) 0 ((a.seen x).letters.map fun x=>int i64 x):=(by have h:=A7.1.letters;unfold OwnI at h;rw[show ({a.seen x with lows:=(a.seen x).lows++[low]}:Ar).letters=(a.seen x).letters from rfl,HLN.out] at h;exact h);have hl7:w2.heap.size+2<=w7.heap.size:=lY hl6 (lY (by simp) hgrow.size);have f1:(w7.setCell ⟨w2.heap.size+1,0,none⟩ (slice (some ⟨gg,0,none⟩) ((a.seen x).lows.length+1) cap)).frozen? ⟨w2.heap.size+1,1,none⟩=false:=A7.1.cells.2.2.2 1))
    have A8:Hid (AwIs (w8.setCell ⟨w2.heap.size+1,1,none⟩ (slice (some ⟨g2,0,none⟩) (0+1) cap2)) (w2.heap.size+2) (w2.heap.size+1) (qY sets (j+1))∧Keep (w2.heap.size+2) (w2.heap.size+1) w4 (w8.setCell ⟨w2.heap.size+1,1,none⟩ (slice (some ⟨g2,0,none⟩) (0+1) cap2))):=by
     have hown3:w8.ownsRow (w2.heap.size+2) 3 1 (slice (some ⟨g2,0,none⟩) ((a.seen x).letters.length+1) cap2) ((a.seen x).letters.length+1) (((a.seen x).letters.map fun x=>int i64 x)++[int i64 (a.look x:Int)]):=by rw[HLN.out];exact hown2
     have h:=Aw.letters_app A7.1 (g:=g2) (cap:=cap2) (x:=(a.look x:Int)) hown3 hgrow2 (by
      rcases hat2 with ha|ha
      ·exact .inl ha
      ·right;rw[ha];simp[zC])
     rw[show ({a.seen x with lows:=(a.seen x).lows++[low]}:Ar).letters=(a.seen x).letters from rfl,HLN.out] at h;rw[HT.out];exact⟨⟨_,_,_,h.1⟩,(HA6.out.2.trans A7.2).trans h.2⟩
    go_roundg (bn-(j+1))
    case measure=>rw[HA.out.1];omega
    case rel=>exact⟨j+1,rfl,by omega,by go_num,A8.out.1,A8.out.2⟩
   ·obtain⟨k,hk⟩:∃k,(a.seen x).letters.length=k+1:=⟨(a.seen x).letters.length-1,by omega⟩
    have HLN:=vl hk;obtain⟨t,htt⟩:∃t,(a.seen x).letters.getD k 0=t:=⟨_,rfl⟩
    have HTV:=vl htt;have htn:(a.seen x).turns (a.look x)=(t != (a.look x:Int)):=by
     unfold Ar.turns;rw[hk,<-htt];rfl
    have hkb:k<=500000000000:=by omega
    clear hl0 hk htt hb2;cases hcc:(t != (a.look x:Int)) with
    |true=>
     have HT:=vl <| HY.out (by rw[htn,hcc]);clear htn;go_wp2_with (first|(go_at_call 169;refine(HSC2.out _ HA.out.2.2.2).mono ?_;rintro e w5 ⟨rfl,hk5⟩)|(go_at_call 168;refine(HLC.out _ (HA.out.2.1.grown hk5)).mono ?_;rintro e w6 ⟨rfl,⟨lv,tv,sv,hA6⟩,hk6⟩;obtain⟨q0,q1,q2,qf⟩:=hA6.cells;obtain⟨al,cl,rfl⟩:=hA6.lows.form;obtain⟨at_,ct,htv⟩:=hA6.letters.form;rw[HLN.out] at htv;subst htv;obtain⟨gt,rfl⟩:=hA6.letters.some (by rw[HLN.out];omega);have ql:w6.cell? ⟨gt,k,none⟩=some (int i64 t):=(by rw[<-HTV.out];exact hA6.letters.cell k (by rw[HLN.out];omega));have HA6:Hid (Aw w6 (w2.heap.size+2) (w2.heap.size+1) (slice al (a.seen x).lows.length cl) (slice (some ⟨gt,0,none⟩) (k+1) ct) sv (a.seen x)∧Keep (w2.heap.size+2) (w2.heap.size+1) w4 w6):=⟨hA6,(HA.out.2.2.1.trans (hk5.lower (by omega) (by omega))).trans hk6⟩;have hl6:=hA6.lt;have OL6:w6.ownsRow (w2.heap.size+2) 3 1 (slice al (a.seen x).lows.length cl) (a.seen x).lows.length ((a.seen x).lows.map fun x=>int i64 x):=hA6.lows;clear hA6 hk6 hk5 qf q2)|(at_builtin;refine wpList_append_lies _ rfl _ _ 45 rfl (w2.heap.size+2) 3 i0 (int i64 0) 1 8 underlying45 hi0 hz0 hz1 hz2 rfl (by decide) _ _ _ rfl (OT7.alloc _) ⟨w7.heap.size,0,none⟩ 1 1 [int i64 (a.look x:Int)] rfl rfl (zA9 _ [int i64 (a.look x:Int)] _ _ (zC _ _ _)) (by intro u hu;simp at hu;subst hu;rfl) (by decide) (by unfold maxLen;omega) (by omega) (by simp[zC];omega) _ rfl ?_;intro g2 cap2 w8 hown2 hgrow2 hat2 hlt3;have hPB2:w8.heap[w2.heap.size+1]? =(w7.setCell ⟨w2.heap.size+1,0,none⟩ (slice (some ⟨gg,0,none⟩) ((a.seen x).lows.length+1) cap)).heap[w2.heap.size+1]? :=(hgrow2.block _ (by simp[zC];omega) (fun e=>by have:=(OT7.lt _ e.symm).1;omega)).trans (lG _ _ _ (by rw[zC];omega));have t2:w8.cell? ⟨w2.heap.size+1,1,none⟩=some (slice (some ⟨gt,0,none⟩) (k+1) ct):=(cell?_of_block hPB2).trans t1;have g1:w8.frozen? ⟨w2.heap.size+1,1,none⟩=false:=(frozen?_of_block hPB2).trans f1)|(at_builtin;refine wpList_append_lies _ rfl _ _ 45 rfl (w2.heap.size+2) 3 i0 (int i64 0) 1 8 underlying45 hi0 hz0 hz1 hz2 rfl (by decide) _ _ _ rfl (OL6.alloc _) ⟨w6.heap.size,0,none⟩ 1 1 [int i64 low] rfl rfl (cell_one_new _ _ _) (by intro u hu;simp at hu;subst hu;rfl) (by decide) (by unfold maxLen;omega) (by omega) (by simp;omega) _ rfl ?_;intro gg cap w7 hown hgrow hat hlt2;have hPB:w7.heap[w2.heap.size+1]? =w6.heap[w2.heap.size+1]? :=(hgrow.block _ (by simp;omega) (fun e=>by have:=(OL6.lt _ e.symm).1;omega)).trans (lG _ _ _ (by omega));have t0:w7.cell? ⟨w2.heap.size+1,0,none⟩=some (slice al (a.seen x).lows.length cl):=(cell?_of_block hPB).trans q0;have g0:w7.frozen? ⟨w2.heap.size+1,0,none⟩=false:=(frozen?_of_block hPB).trans (HA6.out.1.cells.2.2.2 0);have A7:=Aw.lows_app HA6.out.1 hown hgrow (by rcases hat with ha|ha;exact .inl ha;right;rw[ha];simp);have t1:(w7.setCell ⟨w2.heap.size+1,0,none⟩ (slice (some ⟨gg,0,none⟩) ((a.seen x).lows.length+1) cap)).cell? ⟨w2.heap.size+1,1,none⟩=some (slice (some ⟨gt,0,none⟩) (k+1) ct):=A7.1.cells.2.1;have OT7:(w7.setCell ⟨w2.heap.size+1,0,none⟩ (slice (some ⟨gg,0,none⟩) ((a.seen x).lows.length+1) cap)).ownsRow (w2.heap.size+2) 3 1 (slice (some ⟨gt,0,none⟩) (k+1) ct) (k+1) ((a.seen x).letters.map fun x=>int i64 x):=(by have h:=A7.1.letters;unfold OwnI at h;rw[show ({a.seen x with lows:=(a.seen x).lows++[low]}:Ar).letters=(a.seen x).letters from rfl,HLN.out] at h;exact h);have hl7:w2.heap.size+2<=w7.heap.size:=lY hl6 (lY (by simp) hgrow.size);have f1:(w7.setCell ⟨w2.heap.size+1,0,none⟩ (slice (some ⟨gg,0,none⟩) ((a.seen x).lows.length+1) cap)).frozen? ⟨w2.heap.size+1,1,none⟩=false:=A7.1.cells.2.2.2 1))
     have A8:Hid (AwIs (w8.setCell ⟨w2.heap.size+1,1,none⟩ (slice (some ⟨g2,0,none⟩) (k+1+1) cap2)) (w2.heap.size+2) (w2.heap.size+1) (qY sets (j+1))∧Keep (w2.heap.size+2) (w2.heap.size+1) w4 (w8.setCell ⟨w2.heap.size+1,1,none⟩ (slice (some ⟨g2,0,none⟩) (k+1+1) cap2))):=by
      have hown3:w8.ownsRow (w2.heap.size+2) 3 1 (slice (some ⟨g2,0,none⟩) ((a.seen x).letters.length+1) cap2) ((a.seen x).letters.length+1) (((a.seen x).letters.map fun x=>int i64 x)++[int i64 (a.look x:Int)]):=by rw[HLN.out];exact hown2
      have h:=Aw.letters_app A7.1 (g:=g2) (cap:=cap2) (x:=(a.look x:Int)) hown3 hgrow2 (by
       rcases hat2 with ha|ha
       ·exact .inl ha
       ·right;rw[ha];simp[zC])
      rw[show ({a.seen x with lows:=(a.seen x).lows++[low]}:Ar).letters=(a.seen x).letters from rfl,HLN.out] at h;rw[HT.out];exact⟨⟨_,_,_,h.1⟩,(HA6.out.2.trans A7.2).trans h.2⟩
     go_roundg (bn-(j+1))
     case measure=>rw[HA.out.1];omega
     case rel=>exact⟨j+1,rfl,by omega,by go_num,A8.out.1,A8.out.2⟩
    |false=>
     have HT:=vl <| HNO.out (by rw[htn,hcc]);clear htn;go_wp2_with (first|(go_at_call 169;refine(HSC2.out _ HA.out.2.2.2).mono ?_;rintro e w5 ⟨rfl,hk5⟩)|(go_at_call 168;refine(HLC.out _ (HA.out.2.1.grown hk5)).mono ?_;rintro e w6 ⟨rfl,⟨lv,tv,sv,hA6⟩,hk6⟩;obtain⟨q0,q1,q2,qf⟩:=hA6.cells;obtain⟨al,cl,rfl⟩:=hA6.lows.form;obtain⟨at_,ct,htv⟩:=hA6.letters.form;rw[HLN.out] at htv;subst htv;obtain⟨gt,rfl⟩:=hA6.letters.some (by rw[HLN.out];omega);have ql:w6.cell? ⟨gt,k,none⟩=some (int i64 t):=(by rw[<-HTV.out];exact hA6.letters.cell k (by rw[HLN.out];omega));have HA6:Hid (Aw w6 (w2.heap.size+2) (w2.heap.size+1) (slice al (a.seen x).lows.length cl) (slice (some ⟨gt,0,none⟩) (k+1) ct) sv (a.seen x)∧Keep (w2.heap.size+2) (w2.heap.size+1) w4 w6):=⟨hA6,(HA.out.2.2.1.trans (hk5.lower (by omega) (by omega))).trans hk6⟩;have hl6:=hA6.lt;have OL6:w6.ownsRow (w2.heap.size+2) 3 1 (slice al (a.seen x).lows.length cl) (a.seen x).lows.length ((a.seen x).lows.map fun x=>int i64 x):=hA6.lows;clear hA6 hk6 hk5 qf q2))
     go_roundg (bn-(j+1))
     case measure=>rw[HA.out.1];omega
     case rel=>exact⟨j+1,rfl,by omega,by go_num,by rw[HT.out];exact⟨_,_,_,HA6.out.1⟩,HA6.out.2⟩
  ·have i1:((xH sets).length:Int)<=(j:Int):=by omega
   have e:=zEZ sets j (by omega);rw[e] at hA;obtain⟨lv,tv,sv,h⟩:=hA;obtain⟨q0,q1,q2,-⟩:=h.cells;obtain⟨al,cl,rfl⟩:=h.lows.form;obtain⟨at_,ct,rfl⟩:=h.letters.form;obtain⟨as_,cs,rfl⟩:=h.sets.form;have hres:wr.heap[w.heap.size]? =some (.cells #[slice none 0 0,slice none 0 0,slice none 0 0] 172):=(hkp.block _ (by omega) (by omega)).trans A4.out.2.2.1;have x0:wr.cell? ⟨w.heap.size,0,none⟩=some (slice none 0 0):=by unfold cell?;rw[hres];rfl
   have x1:wr.cell? ⟨w.heap.size,1,none⟩=some (slice none 0 0):=by unfold cell?;rw[hres];rfl
   have x2:wr.cell? ⟨w.heap.size,2,none⟩=some (slice none 0 0):=by unfold cell?;rw[hres];rfl
   have xf:∀i,wr.frozen? ⟨w.heap.size,i,none⟩=false:=fun i=>by unfold frozen?;rw[hres];simp
   have xf0:=xf 0;have xf1:=xf 1;have xf2:=xf 2;have HZ:Hid (Aw wr (w2.heap.size+2) (w2.heap.size+1) (slice al (xY sets).lows.length cl) (slice at_ (xY sets).letters.length ct) (slice as_ (xY sets).sets.length cs) (xY sets)∧Grew w wr):=⟨h,HA.out.2.2.2⟩
   clear h hgk hkp hres xf e;go_wp2;refine bodyPost_ret (v:=agg #[slice al (xY sets).lows.length cl,slice at_ (xY sets).letters.length ct,slice as_ (xY sets).sets.length cs]) (by simp[results,results127,go_sem, *]) rfl ⟨_,_,_,rfl,⟨zAA (zX (zX (zX HZ.out.1.lows (by omega)) (by omega)) (by omega)),zAA (zX (zX (zX HZ.out.1.letters (by omega)) (by omega)) (by omega)),zAA (zX (zX (zX HZ.out.1.sets (by omega)) (by omega)) (by omega))⟩,?_⟩;exact((HZ.out.2.trans (zO _ _ _ _ lQ)).trans (zO _ _ _ _ lQ)).trans (zO _ _ _ _ lQ)
theorem zMa (a b:List Int)(hl:a.length=b.length)(h:∀i,i<a.length->a.getD i 0=b.getD i 0):a=b:=by
 apply List.ext_getElem hl;intro i h1 h2;have:=h i h1;rw[lW,lV h1,lW,lV h2] at this;exact this
theorem zIj (w:World)(va vb:Value)(a b:List Int)(hA:Ints w (In w) va a)(hB:Ints w (In w) vb b)(hl:a.length<=1000000000000):
  Calls prog 132 #[va,vb] w fun e w'=>e=returned (bool (decide (a=b)))∧Grew w w':=by
 obtain⟨aa,ca,rfl,_,_,hac⟩:=hA;obtain⟨ab,cb,rfl,_,_,hbc⟩:=hB;have HAC:=vl hac;have HBC:=vl hbc;by_cases hne:a.length=b.length
 ·have HEQ:Hid ((∀i,i<a.length->a.getD i 0=b.getD i 0)->a=b):=fun h=>zMa a b hne h
  have HNE:Hid (∀i,a.getD i 0≠b.getD i 0->a≠b):=fun i h e=>h (by rw[e]);rw[<-hne] at HBC ⊢;have hne2:((a.length:Int) != (b.length:Int))=false:=by simp[hne]
  go_in;go_wp2;go_loopg [13] a.length (fun q i wr=>∃j:Nat,q=a.length-j∧j<=a.length∧i=int i64 (j:Int)∧(∀i,i<j->a.getD i 0=b.getD i 0)∧Grew w wr)
  case atStart=>exact⟨0,rfl,lX,rfl,fun i hi=>by omega,⟨rfl,rfl,lQ,fun _ _ _=>rfl⟩⟩
  case round=>
   obtain⟨j,hgk,hj,rfl,hsame,hkp⟩:=hrel;have HA:Hid (gk=a.length-j∧(∀i,i<j->a.getD i 0=b.getD i 0)∧Grew w wr):=⟨hgk,hsame,hkp⟩
   by_cases hj2:j<a.length
   ·have i1:(j:Int)<(a.length:Int):=by omega
    obtain⟨b1,o1,rfl,hb1,c1⟩:=HAC.out j hj2;obtain⟨b2,o2,rfl,hb2,c2⟩:=HBC.out j hj2;have y1:=zA c1 hb1 hkp;have y2:=zA c2 hb2 hkp;have HN1:=vl <| HNE.out j;have HS1:Hid (a.getD j 0=b.getD j 0->∀i,i<j+1->a.getD i 0=b.getD i 0):=fun h i hi=>by
     by_cases e:i=j
     ·rw[e];exact h
     ·exact HA.out.2.1 i (by omega)
    generalize a.getD j 0=x at *;generalize b.getD j 0=y at *;by_cases hxy:x=y
    ·have HS2:=vl <| HS1.out hxy
     have hc:(x != y)=false:=by simp[hxy]
     go_wp2;go_quiet (fail);go_wp2;go_roundg (a.length-(j+1))
     case measure=>rw[HA.out.1];omega
     case rel=>exact⟨j+1,rfl,by omega,by go_num,HS2.out,HA.out.2.2.trans (Keep.alike (w':=wr.drewN nq) ⟨rfl,rfl,rfl⟩)⟩
    ·have HN2:=vl <| HN1.out hxy
     have hc:(x != y)=true:=by simp[hxy]
     go_wp2;go_quiet (fail);go_wp2;go_ret;exact⟨by rw[decide_eq_false HN2.out];rfl,HA.out.2.2.trans (Keep.alike (w':=wr.drewN nq) ⟨rfl,rfl,rfl⟩)⟩
   ·have i1:(a.length:Int)<=(j:Int):=by omega
    have HZ:=vl <| HEQ.out fun i hi=>hsame i (by omega);go_wp2;go_ret;exact⟨by rw[decide_eq_true HZ.out];rfl,HA.out.2.2⟩
 ·have HZ:Hid (a≠b):=fun e=>hne (by rw[e])
  have hc:((a.length:Int) != (b.length:Int))=true:=by simp;omega
  go_in;go_wp2;go_ret;exact⟨by rw[decide_eq_false HZ.out];rfl,⟨rfl,rfl,lQ,fun _ _ _=>rfl⟩⟩
theorem zIa (w:World)(step:Nat)(h:step=1∨step=64∨step=4096):
  Calls prog 176 #[int i64 step] w fun e w'=>e=returned (int i64 (if step=64 then 2048 else if step=4096 then 65536 else 0))∧w'=w:=by
 rcases h with rfl|rfl|rfl
 all_goals
  go_in;go_wp2;go_ret;exact⟨rfl,rfl⟩
def vA (rules:List Nat)(set:Nat):Int:=if rules.findIdx (fun r=>set&&&r != 0)<rules.length then(rules.findIdx (fun r=>set&&&r != 0):Int) else -1
theorem zMZ (rules:List Nat)(set j:Nat)(hj:j<rules.length)(h:set&&&rules.getD j 0≠0)(hn:∀i,i<j->set&&&rules.getD i 0=0):vA rules set=j:=by
 have e:rules.findIdx (fun r=>set&&&r != 0)=j:=by
  rw[List.findIdx_eq hj];rw[lW,lV hj] at h;refine⟨by simpa using h,fun i hi=>?_⟩;have:=hn i hi;rw[lW,lV (by omega)] at this;simpa using this
 unfold vA;rw[e,if_pos hj]
theorem zKJ (rules:List Nat)(set:Nat)(hn:∀i,i<rules.length->set&&&rules.getD i 0=0):vA rules set=-1:=by
 have e:rules.findIdx (fun r=>set&&&r != 0)=rules.length:=by
  rw[List.findIdx_eq_length];intro y hy;obtain⟨i,hi,rfl⟩:=List.getElem_of_mem hy;have:=hn i hi;rw[lW,lV hi] at this;simpa using this
 unfold vA;rw[e,if_neg (Nat.lt_irrefl _)]
theorem zI5 (rules:List Nat)(set:Nat):-1<=vA rules set∧vA rules set<rules.length:=by
 unfold vA;split <;> omega
theorem zBi (w:World)(p q:Nat)(rv:Value)(rules:List Nat)(hp:w.cell? ⟨p,0,none⟩=some (pointer (some ⟨q,0,none⟩)))(hq:w.cell? ⟨q,4,none⟩=some rv)(hR:Ints w (In w) rv (rules.map fun(x:Nat)=>(x:Int)))(hl:rules.length<=8)(hr:∀r∈rules,r<16777216)(set:Nat)(hs:set<16777216):
  Calls prog 93 #[pointer (some ⟨p,0,none⟩),int i64 set] w fun e w'=>e=returned (int i64 (vA rules set))∧w'=w:=by
 obtain⟨ar,cr,hrv,_,_,hrc⟩:=hR;rw[kV] at hrv;subst hrv;have HRC:Hid (∀i,i<rules.length->∃b o,ar=some ⟨b,o,none⟩∧w.cell? ⟨b,o+i,none⟩=some (int i64 ((rules.getD i 0:Nat):Int))∧rules.getD i 0<16777216):=by
  intro i hi;obtain⟨b,o,h1,_,h2⟩:=hrc i (by rw[kV];exact hi);refine⟨b,o,h1,?_,hr _ (zS _ i 0 hi)⟩;rw[lW,gV,lV hi] at h2;rw[lW,lV hi];exact h2
 have H1:Hid (∀j,j<rules.length->set&&&rules.getD j 0≠0->(∀i,i<j->set&&&rules.getD i 0=0)->vA rules set=j):=fun j=>zMZ rules set j;have H2:=vl <| zKJ rules set;go_in;go_wp2;go_loopg [15] rules.length (fun k i wr=>∃j:Nat,k=rules.length-j∧j<=rules.length∧i=int i64 (j:Int)∧(∀i,i<j->set&&&rules.getD i 0=0)∧wr=w)
 case atStart=>exact⟨0,rfl,lX,rfl,fun i hi=>by omega,rfl⟩
 case round=>
  obtain⟨j,hgk,hj,rfl,hno,hw⟩:=hrel;subst hw;have HB:Hid (gk=rules.length-j∧∀i,i<j->set&&&rules.getD i 0=0):=⟨hgk,hno⟩
  by_cases hj2:j<rules.length
  ·have i1:(j:Int)<(rules.length:Int):=by omega
   obtain⟨b,o,rfl,hc,hlt⟩:=HRC.out j hj2;have HL3:Hid (set&&&rules.getD j 0≠0->vA rules set=j):=fun h=>H1.out j hj2 h HB.out.2;have HN3:Hid (set&&&rules.getD j 0=0->∀i,i<j+1->set&&&rules.getD i 0=0):=fun h i hi=>by
    by_cases e:i=j
    ·rw[e];exact h
    ·exact HB.out.2 i (by omega)
   generalize rules.getD j 0=r at *;have hand:bits .and i64 (set:Int) (r:Int)=((set&&&r:Nat):Int):=qA _ _ (by omega) (by omega);by_cases hy:set&&&r=0
   ·have HR:=vl <| HN3.out hy
    rw[hy] at hand;have hand2:=hand;go_wp2;go_roundg (rules.length-(j+1))
    case measure=>rw[HB.out.1];omega
    case rel=>exact⟨j+1,rfl,by omega,by go_num,HR.out,rfl⟩
   ·have HR:=vl <| HL3.out hy
    have hc2:((bits .and i64 (set:Int) (r:Int)) != 0)=true:=by rw[hand];simp;exact hy
    go_wp2;go_ret;exact⟨by rw[HR.out];rfl,rfl⟩
  ·have i1:(rules.length:Int)<=(j:Int):=by omega
   have HR:=vl <| H2.out fun i hi=>hno i (by omega);go_wp2;go_ret;exact⟨by rw[HR.out];rfl,rfl⟩
def xG (rules:List Nat)(a b tail:Nat):Bool:=a&&&tail != b&&&tail&&(vA rules (a&&&tail) != vA rules (b&&&tail))
theorem zHc (w:World)(p q:Nat)(rv:Value)(rules:List Nat)(hp:w.cell? ⟨p,0,none⟩=some (pointer (some ⟨q,0,none⟩)))(hq:w.cell? ⟨q,4,none⟩=some rv)(hR:Ints w (In w) rv (rules.map fun(x:Nat)=>(x:Int)))(hl:rules.length<=8)(hr:∀r∈rules,r<16777216)(a b tail:Nat)(ha:a<16777216)(hb:b<16777216)(ht:tail<16777216):
  Calls prog 174 #[pointer (some ⟨p,0,none⟩),int i64 a,int i64 b,int i64 tail] w fun e w'=>e=returned (bool (xG rules a b tail))∧Grew w w':=by
 have hx:bits .and i64 (a:Int) (tail:Int)=((a&&&tail:Nat):Int):=qA _ _ (by omega) (by omega);have hy:bits .and i64 (b:Int) (tail:Int)=((b&&&tail:Nat):Int):=qA _ _ (by omega) (by omega);have hxl:a&&&tail<16777216:=Nat.lt_of_le_of_lt Nat.and_le_left ha;have hyl:b&&&tail<16777216:=Nat.lt_of_le_of_lt Nat.and_le_left hb;have HV:Hid (xG rules a b tail=(a&&&tail != b&&&tail&&(vA rules (a&&&tail) != vA rules (b&&&tail)))):=rfl;have HC1:=vl <| zBi w p q rv rules hp hq hR hl hr _ hxl;have HC2:=vl <| zBi w p q rv rules hp hq hR hl hr _ hyl;generalize a&&&tail=x at *;generalize b&&&tail=y at *;by_cases hxy:x=y
 ·have HZ:Hid (xG rules a b tail=false):=by show _=_;rw[HV.out,hxy];simp
  have hc:((x:Int)==(y:Int))=true:=by simp[hxy]
  go_in;go_wp2;go_ret;exact⟨by rw[HZ.out];rfl,⟨rfl,rfl,lQ,fun _ _ _=>rfl⟩⟩
 ·have HZ:Hid (xG rules a b tail=(vA rules x != vA rules y)):=by
   show _=_;rw[HV.out,show(x != y)=true by simp[hxy]];rfl
  have hc:((x:Int)==(y:Int))=false:=by simp;omega
  generalize vA rules x=rx at *;generalize vA rules y=ry at *;go_in;go_wp2_with (first|(go_at_call 93;first|(have m2:=mark1;refine HC2.out.mono ?_;rintro e w3 ⟨rfl,rfl⟩)|(refine HC1.out.mono ?_;rintro e w2 ⟨rfl,rfl⟩;have mark1:True:=trivial)))
  go_ret;exact⟨by rw[HZ.out];rfl,⟨rfl,rfl,lQ,fun _ _ _=>rfl⟩⟩
structure So (w:World)(p q:Nat)(rv:Value)(rules:List Nat):Prop where
 net:w.cell? ⟨p,0,none⟩=some (pointer (some ⟨q,0,none⟩))
 rcell:w.cell? ⟨q,4,none⟩=some rv
 at_:Ints w (In w) rv (rules.map fun(x:Nat)=>(x:Int))
 eight:rules.length<=8
 small:∀r∈rules,r<16777216
 lp:p<w.heap.size
 lq:q<w.heap.size
theorem So.grown {w w':World}{p q:Nat}{rv:Value}{rules:List Nat}(h:So w p q rv rules)(hk:Grew w w'):So w' p q rv rules:=
 ⟨zA h.net h.lp hk,zA h.rcell h.lq hk,h.at_.grown hk,h.eight,h.small,lZ h.lp hk.size,lZ h.lq hk.size⟩
theorem So.differ {w:World}{p q:Nat}{rv:Value}{rules:List Nat}(h:So w p q rv rules)(a b tail:Nat)(ha:a<16777216)(hb:b<16777216)(ht:tail<16777216):
  Calls prog 174 #[pointer (some ⟨p,0,none⟩),int i64 a,int i64 b,int i64 tail] w fun e w'=>e=returned (bool (xG rules a b tail))∧Grew w w':=zHc w p q rv rules h.net h.rcell h.at_ h.eight h.small a b tail ha hb ht
def jK (rules marks:List Nat)(a b:Nat):Bool:=!(marks.any fun t=>xG rules a b t)
theorem zDv (w:World)(p q:Nat)(rv mv:Value)(rules marks:List Nat)(hS:So w p q rv rules)(hm:w.cell? ⟨p,7,none⟩=some mv)(hM:Ints w (In w) mv (marks.map fun(x:Nat)=>(x:Int)))(hl:marks.length<=1000000000000)(hr:∀r∈marks,r<16777216)(a b:Nat)(ha:a<16777216)(hb:b<16777216):
  Calls prog 173 #[pointer (some ⟨p,0,none⟩),int i64 a,int i64 b] w fun e w'=>e=returned (bool (jK rules marks a b))∧Grew w w':=by
 obtain⟨ar,cr,hrv,_,_,hrc⟩:=hM;rw[kV] at hrv;subst hrv;have HRC:Hid (∀i,i<marks.length->∃b o,ar=some ⟨b,o,none⟩∧In w b∧w.cell? ⟨b,o+i,none⟩=some (int i64 ((marks.getD i 0:Nat):Int))∧marks.getD i 0<16777216):=by
  intro i hi;obtain⟨b,o,h1,h0,h2⟩:=hrc i (by rw[kV];exact hi);refine⟨b,o,h1,h0,?_,hr _ (zS _ i 0 hi)⟩;rw[lW,gV,lV hi] at h2;rw[lW,lV hi];exact h2
 have HS:=vl hS;have H1:Hid (∀j,j<marks.length->xG rules a b (marks.getD j 0)=true->jK rules marks a b=false):=fun j hj h=>by
  show(!_)=false;rw[zMF marks _ 0 j hj h];rfl
 have H2:Hid ((∀i,i<marks.length->xG rules a b (marks.getD i 0)=false)->jK rules marks a b=true):=fun h=>by
  show(!_)=true;rw[zIG marks _ 0 h];rfl
 go_in;go_wp2;go_loopg [14] marks.length (fun k i wr=>∃j:Nat,k=marks.length-j∧j<=marks.length∧i=int i64 (j:Int)∧(∀i,i<j->xG rules a b (marks.getD i 0)=false)∧Grew w wr)
 case atStart=>exact⟨0,rfl,lX,rfl,fun i hi=>by omega,⟨rfl,rfl,lQ,fun _ _ _=>rfl⟩⟩
 case round=>
  obtain⟨j,hgk,hj,rfl,hno,hkp⟩:=hrel;have HB:Hid (gk=marks.length-j∧(∀i,i<j->xG rules a b (marks.getD i 0)=false)∧Grew w wr):=⟨hgk,hno,hkp⟩
  by_cases hj2:j<marks.length
  ·have i1:(j:Int)<(marks.length:Int):=by omega
   obtain⟨b1,o1,rfl,hb1,hc,hlt⟩:=HRC.out j hj2;have y1:=zA hc hb1 hkp;have HL3:=vl <| H1.out j hj2;have HN3:Hid (xG rules a b (marks.getD j 0)=false->∀i,i<j+1->xG rules a b (marks.getD i 0)=false):=fun h i hi=>by
    by_cases e:i=j
    ·rw[e];exact h
    ·exact HB.out.2.1 i (by omega)
   have HD:Hid (∀t:Nat,t<16777216->Ca 174 #[pointer (some ⟨p,0,none⟩),int i64 a,int i64 b,int i64 t] wr fun e w'=>e=returned (bool (xG rules a b t))∧Grew w w'):=fun t ht=>by
    refine((HS.out.grown HB.out.2.2).differ a b t ha hb ht).mono ?_;rintro e w2 ⟨rfl,hk2⟩;exact⟨rfl,HB.out.2.2.trans (hk2.lower HB.out.2.2.size HB.out.2.2.size)⟩
   generalize marks.getD j 0=r at *;have HD2:=HD.out r hlt;cases hd:xG rules a b r with
   |false=>
    rw[hd] at HD2;have HR:=vl <| HN3.out hd;have HD3:=vl HD2;go_wp2_with (first|(go_at_call 174;refine HD3.out.mono ?_;rintro e w5 ⟨rfl,hk5⟩))
    go_roundg (marks.length-(j+1))
    case measure=>rw[HB.out.1];omega
    case rel=>exact⟨j+1,rfl,by omega,by go_num,HR.out,hk5⟩
   |true=>
    rw[hd] at HD2;have HR:=vl <| HL3.out hd;have HD3:=vl HD2;go_wp2_with (first|(go_at_call 174;refine HD3.out.mono ?_;rintro e w5 ⟨rfl,hk5⟩))
    go_ret;exact⟨by rw[HR.out];rfl,hk5⟩
  ·have i1:(marks.length:Int)<=(j:Int):=by omega
   have HR:=vl <| H2.out fun i hi=>hno i (by omega);go_wp2;go_ret;exact⟨by rw[HR.out];rfl,HB.out.2.2⟩
def I32s (w:World)(S:Nat->Prop)(v:Value)(l:List Nat):Prop:=
 ∃ao cap,v=slice ao l.length cap∧l.length<=cap∧cap<=maxLen∧∀i,i<l.length->∃b o,ao=some ⟨b,o,none⟩∧S b∧w.cell? ⟨b,o+i,none⟩=some (int .i32 ((l.getD i 0:Nat):Int))
theorem I32s.keep {w w':World}{S:Nat->Prop}{v:Value}{l:List Nat}(h:I32s w S v l)(e:∀b,S b->w'.heap[b]? =w.heap[b]?):I32s w' S v l:=by
 obtain⟨ao,cap,hv,h1,h2,h3⟩:=h;refine⟨ao,cap,hv,h1,h2,fun i hi=>?_⟩;obtain⟨b,o,ha,hb,hc⟩:=h3 i hi;exact⟨b,o,ha,hb,(cell?_of_block (e b hb)).trans hc⟩
theorem I32s.mono {w:World}{S S':Nat->Prop}{v:Value}{l:List Nat}(h:I32s w S v l)(e:∀b,S b->S' b):I32s w S' v l:=by
 obtain⟨ao,cap,hv,h1,h2,h3⟩:=h;refine⟨ao,cap,hv,h1,h2,fun i hi=>?_⟩;obtain⟨b,o,ha,hb,hc⟩:=h3 i hi;exact⟨b,o,ha,e b hb,hc⟩
def zAv (rules tails:List Nat)(a b:Nat):Int:=if a=b then -1 else if tails.findIdx (fun t=>xG rules a b t)<tails.length then(tails.getD (tails.findIdx fun t=>xG rules a b t) 0:Int) else -1
theorem zC7 (l:List Nat)(p:Nat->Bool)(j:Nat)(hj:j<l.length)(h:p (l.getD j 0)=true)(hn:∀i,i<j->p (l.getD i 0)=false):l.findIdx p=j:=by
 rw[List.findIdx_eq hj];rw[lW,lV hj] at h;refine⟨by simpa using h,fun i hi=>?_⟩;have:=hn i hi;rw[lW,lV (by omega)] at this;simpa using this
theorem zA5 (l:List Nat)(p:Nat->Bool)(hn:∀i,i<l.length->p (l.getD i 0)=false):l.findIdx p=l.length:=by
 rw[List.findIdx_eq_length];intro y hy;obtain⟨i,hi,rfl⟩:=List.getElem_of_mem hy;have:=hn i hi;rw[lW,lV hi] at this;simpa using this
theorem zMS (rules tails:List Nat)(a b j:Nat)(hab:a≠b)(hj:j<tails.length)(h:xG rules a b (tails.getD j 0)=true)(hn:∀i,i<j->xG rules a b (tails.getD i 0)=false):zAv rules tails a b=(tails.getD j 0:Nat):=by
 unfold zAv;rw[if_neg hab,zC7 tails _ j hj h hn,if_pos hj]
theorem zKx (rules tails:List Nat)(a b:Nat)(hn:∀i,i<tails.length->xG rules a b (tails.getD i 0)=false):zAv rules tails a b=-1:=by
 unfold zAv;rw[zA5 tails _ hn,if_neg (Nat.lt_irrefl _)];split <;> rfl
theorem zIY (rules tails:List Nat)(a b:Nat)(ht:∀t∈tails,t<16777216):zAv rules tails a b=-1∨∃t:Nat,zAv rules tails a b=t∧t<16777216:=by
 unfold zAv;by_cases h:a=b
 ·rw[if_pos h];exact .inl rfl
 ·rw[if_neg h]
  by_cases h2:tails.findIdx (fun t=>xG rules a b t)<tails.length
  ·rw[if_pos h2]
   exact .inr ⟨_,rfl,ht _ (zS _ _ 0 h2)⟩
  ·rw[if_neg h2];exact .inl rfl
theorem zCO (w:World)(p q:Nat)(rv mv:Value)(rules marks:List Nat)(hS:So w p q rv rules)(hm:w.cell? ⟨p,5,none⟩=some mv)(hM:I32s w (In w) mv marks)(hl:marks.length<=1000000000000)(hr:∀r∈marks,r<16777216)(a b:Nat)(ha:a<16777216)(hb:b<16777216):
  Calls prog 131 #[pointer (some ⟨p,0,none⟩),int i64 a,int i64 b] w fun e w'=>e=returned (int i64 (zAv rules marks a b))∧Grew w w':=by
 by_cases hab:a=b
 ·have HZ:Hid (zAv rules marks a b=-1):=by unfold zAv;rw[if_pos hab];exact rfl
  have hc:((a:Int)==(b:Int))=true:=by simp[hab]
  go_in;go_wp2;go_ret;exact⟨by rw[HZ.out];rfl,⟨rfl,rfl,lQ,fun _ _ _=>rfl⟩⟩
 have hc0:((a:Int)==(b:Int))=false:=by simp;omega
 obtain⟨ar,cr,rfl,_,_,hrc⟩:=hM;have HRC:Hid (∀i,i<marks.length->∃b o,ar=some ⟨b,o,none⟩∧In w b∧w.cell? ⟨b,o+i,none⟩=some (int .i32 ((marks.getD i 0:Nat):Int))∧marks.getD i 0<16777216):=by
  intro i hi;obtain⟨b,o,h1,h0,h2⟩:=hrc i hi;exact⟨b,o,h1,h0,h2,hr _ (zS _ i 0 hi)⟩
 have HS:=vl hS;have H1:Hid (∀j,j<marks.length->xG rules a b (marks.getD j 0)=true->(∀i,i<j->xG rules a b (marks.getD i 0)=false)->zAv rules marks a b=(marks.getD j 0:Nat)):=fun j hj h hn=>zMS rules marks a b j hab hj h hn;have H2:Hid ((∀i,i<marks.length->xG rules a b (marks.getD i 0)=false)->zAv rules marks a b=-1):=fun h=>zKx rules marks a b h;go_in;go_wp2;go_loopg [17] marks.length (fun k i wr=>∃j:Nat,k=marks.length-j∧j<=marks.length∧i=int i64 (j:Int)∧(∀i,i<j->xG rules a b (marks.getD i 0)=false)∧Grew w wr)
 case atStart=>exact⟨0,rfl,lX,rfl,fun i hi=>by omega,⟨rfl,rfl,lQ,fun _ _ _=>rfl⟩⟩
 case round=>
  obtain⟨j,hgk,hj,rfl,hno,hkp⟩:=hrel;have HB:Hid (gk=marks.length-j∧(∀i,i<j->xG rules a b (marks.getD i 0)=false)∧Grew w wr):=⟨hgk,hno,hkp⟩
  by_cases hj2:j<marks.length
  ·have i1:(j:Int)<(marks.length:Int):=by omega
   obtain⟨b1,o1,rfl,hb1,hc,hlt⟩:=HRC.out j hj2;have y1:=zA hc hb1 hkp;have HL3:Hid (xG rules a b (marks.getD j 0)=true->zAv rules marks a b=(marks.getD j 0:Nat)):=fun h=>H1.out j hj2 h HB.out.2.1;have HN3:Hid (xG rules a b (marks.getD j 0)=false->∀i,i<j+1->xG rules a b (marks.getD i 0)=false):=fun h i hi=>by
    by_cases e:i=j
    ·rw[e];exact h
    ·exact HB.out.2.1 i (by omega)
   have HD:Hid (∀t:Nat,t<16777216->Ca 174 #[pointer (some ⟨p,0,none⟩),int i64 a,int i64 b,int i64 t] wr fun e w'=>e=returned (bool (xG rules a b t))∧Grew w w'):=fun t ht=>by
    refine((HS.out.grown HB.out.2.2).differ a b t ha hb ht).mono ?_;rintro e w2 ⟨rfl,hk2⟩;exact⟨rfl,HB.out.2.2.trans (hk2.lower HB.out.2.2.size HB.out.2.2.size)⟩
   generalize marks.getD j 0=r at *;have HD2:=HD.out r hlt;cases hd:xG rules a b r with
   |false=>
    rw[hd] at HD2;have HR:=vl <| HN3.out hd;have HD3:=vl HD2;go_wp2_with (first|(go_at_call 174;refine HD3.out.mono ?_;rintro e w5 ⟨rfl,hk5⟩))
    go_roundg (marks.length-(j+1))
    case measure=>rw[HB.out.1];omega
    case rel=>exact⟨j+1,rfl,by omega,by go_num,HR.out,hk5⟩
   |true=>
    rw[hd] at HD2;have HR:=vl <| HL3.out hd;have HD3:=vl HD2;go_wp2_with (first|(go_at_call 174;refine HD3.out.mono ?_;rintro e w5 ⟨rfl,hk5⟩))
    go_ret;exact⟨by rw[HR.out];rfl,hk5⟩
  ·have i1:(marks.length:Int)<=(j:Int):=by omega
   have HR:=vl <| H2.out fun i hi=>hno i (by omega);go_wp2;go_ret;exact⟨by rw[HR.out];rfl,HB.out.2.2⟩
def zAt (rules marks found:List Nat)(set:Nat):Nat:=found.findIdx fun o=>jK rules marks set o
theorem zHs (rules marks found:List Nat)(set:Nat):zAt rules marks found set<=found.length:=List.findIdx_le_length
theorem zEA (w:World)(p q:Nat)(rv mv fv:Value)(rules marks found:List Nat)(hS:So w p q rv rules)(hm:w.cell? ⟨p,7,none⟩=some mv)(hM:Ints w (In w) mv (marks.map fun(x:Nat)=>(x:Int)))(hl:marks.length<=1000000000000)(hr:∀r∈marks,r<16777216)(hf:w.cell? ⟨p,6,none⟩=some fv)(hF:Ints w (In w) fv (found.map fun(x:Nat)=>(x:Int)))(hl2:found.length<=1000000000000)(hr2:∀r∈found,r<16777216)(a:Nat)(ha:a<16777216):
  Calls prog 130 #[pointer (some ⟨p,0,none⟩),int i64 a] w fun e w'=>e=returned (int i64 (zAt rules marks found a))∧Grew w w':=by
 have hF':=hF;obtain⟨ar,cr,hrv,_,_,hrc⟩:=hF;rw[kV] at hrv;subst hrv;have HRC:Hid (∀i,i<found.length->∃b o,ar=some ⟨b,o,none⟩∧In w b∧w.cell? ⟨b,o+i,none⟩=some (int i64 ((found.getD i 0:Nat):Int))∧found.getD i 0<16777216):=by
  intro i hi;obtain⟨b,o,h1,h0,h2⟩:=hrc i (by rw[kV];exact hi);refine⟨b,o,h1,h0,?_,hr2 _ (zS _ i 0 hi)⟩;rw[lW,gV,lV hi] at h2;rw[lW,lV hi];exact h2
 have hpl:=hS.lp;have HAC:Hid (∀wr,Grew w wr->∀b:Nat,b<16777216->Ca 173 #[pointer (some ⟨p,0,none⟩),int i64 a,int i64 b] wr fun e w'=>e=returned (bool (jK rules marks a b))∧Grew w w'):=fun wr hk b hb=>by
  refine(zDv wr p q rv mv rules marks (hS.grown hk) (zA hm hpl hk) (hM.grown hk) hl hr a b ha hb).mono ?_;rintro e w2 ⟨rfl,hk2⟩;exact⟨rfl,hk.trans (hk2.lower hk.size hk.size)⟩
 have H1:Hid (∀j,j<found.length->jK rules marks a (found.getD j 0)=true->(∀i,i<j->jK rules marks a (found.getD i 0)=false)->zAt rules marks found a=j):=fun j hj h hn=>zC7 found _ j hj h hn;have H2:Hid ((∀i,i<found.length->jK rules marks a (found.getD i 0)=false)->zAt rules marks found a=found.length):=fun h=>zA5 found _ h;go_in;go_wp2;go_loopg [12] found.length (fun k i wr=>∃j:Nat,k=found.length-j∧j<=found.length∧i=int i64 (j:Int)∧(∀i,i<j->jK rules marks a (found.getD i 0)=false)∧Grew w wr)
 case atStart=>exact⟨0,rfl,lX,rfl,fun i hi=>by omega,⟨rfl,rfl,lQ,fun _ _ _=>rfl⟩⟩
 case round=>
  obtain⟨j,hgk,hj,rfl,hno,hkp⟩:=hrel;have HB:Hid (gk=found.length-j∧(∀i,i<j->jK rules marks a (found.getD i 0)=false)∧Grew w wr):=⟨hgk,hno,hkp⟩
  by_cases hj2:j<found.length
  ·have i1:(j:Int)<(found.length:Int):=by omega
   obtain⟨b1,o1,rfl,hb1,hc,hlt⟩:=HRC.out j hj2;have y1:=zA hc hb1 hkp;have HL3:Hid (jK rules marks a (found.getD j 0)=true->zAt rules marks found a=j):=fun h=>H1.out j hj2 h HB.out.2.1;have HN3:Hid (jK rules marks a (found.getD j 0)=false->∀i,i<j+1->jK rules marks a (found.getD i 0)=false):=fun h i hi=>by
    by_cases e:i=j
    ·rw[e];exact h
    ·exact HB.out.2.1 i (by omega)
   have HD:=vl <| HAC.out wr hkp;generalize found.getD j 0=r at *;have HD2:=HD.out r hlt;cases hd:jK rules marks a r with
   |false=>
    rw[hd] at HD2;have HR:=vl <| HN3.out hd;have HD3:=vl HD2;go_wp2_with (first|(go_at_call 173;refine HD3.out.mono ?_;rintro e w5 ⟨rfl,hk5⟩))
    go_roundg (found.length-(j+1))
    case measure=>rw[HB.out.1];omega
    case rel=>exact⟨j+1,rfl,by omega,by go_num,HR.out,hk5⟩
   |true=>
    rw[hd] at HD2;have HR:=vl <| HL3.out hd;have HD3:=vl HD2;go_wp2_with (first|(go_at_call 173;refine HD3.out.mono ?_;rintro e w5 ⟨rfl,hk5⟩))
    go_ret;exact⟨by rw[HR.out];rfl,hk5⟩
  ·have i1:(found.length:Int)<=(j:Int):=by omega
   have y9:=zA hf hpl hkp;have HR:=vl <| H2.out fun i hi=>hno i (by omega);go_wp2;go_ret;exact⟨by rw[HR.out];rfl,HB.out.2.2⟩
section
structure KeepX (X:Nat->Prop)(w w':World):Prop where
 os:w'.os=w.os
 output:w'.output=w.output
 size:w.heap.size<=w'.heap.size
 block:∀k,X k->w'.heap[k]? =w.heap[k]?
theorem KeepX.refl (X:Nat->Prop)(w:World):KeepX X w w:=⟨rfl,rfl,lQ,fun _ _=>rfl⟩
theorem KeepX.trans {X:Nat->Prop}{w w' w'':World}(h:KeepX X w w')(h':KeepX X w' w''):KeepX X w w'':=⟨h'.os.trans h.os,h'.output.trans h.output,lY h.size h'.size,fun k hk=>(h'.block k hk).trans (h.block k hk)⟩
theorem KeepX.mono {X Y:Nat->Prop}{w w':World}(h:KeepX X w w')(e:∀k,Y k->X k):KeepX Y w w':=⟨h.os,h.output,h.size,fun k hk=>h.block k (e k hk)⟩
theorem Keep.kx {X:Nat->Prop}{H b:Nat}{w w':World}(h:Keep H b w w')(e:∀k,X k->k<H∧k≠b):KeepX X w w':=⟨h.os,h.output,h.size,fun k hk=>h.block k (e k hk).1 (e k hk).2⟩
def ints (l:List Nat):List Int:=l.map fun(x:Nat)=>(x:Int)
theorem zN (l:List Nat):(ints l).length=l.length:=kV ..
theorem zA3 (l:List Nat)(x:Nat):ints (l++[x])=ints l++[(x:Int)]:=by simp[ints]
theorem vF (l:List Nat)(i:Nat):(ints l).getD i 0=(l.getD i 0:Nat):=by
 unfold ints;rw[lW,lW,gV];cases l[i]? <;> rfl
structure Sq where
 rules:List Nat
 tails:List Nat
 sets:List Nat
 q:Nat
 f:Nat
 lv:Value
 tv:Value
 sv:Value
 tl:Value
 rv:Value
structure Sf where
 found:List Nat
 marks:List Nat
structure SoAt (w:World)(X:Nat->Prop)(p:Nat)(s:Sq)(d:Sf)(fv mv:Value):Prop where
 blk:w.heap[p]? =some (.cells #[pointer (some ⟨s.q,0,none⟩),s.lv,s.tv,s.sv,pointer (some ⟨s.f,0,none⟩),s.tl,fv,mv] 176)
 own1:OwnI w 0 fv (ints d.found)
 own2:OwnI w 0 mv (ints d.marks)
 ne:∀g,fv.ownBlock=some g->some g≠mv.ownBlock
 xf:∀g,X g->some g≠fv.ownBlock
 xm:∀g,X g->some g≠mv.ownBlock
 xp:¬X p
 xl:∀g,X g->g<w.heap.size
 lp:p<w.heap.size
 net:w.cell? ⟨s.q,4,none⟩=some s.rv
 xq:X s.q
 rls:Ints w X s.rv (ints s.rules)
 eight:s.rules.length<=8
 rsm:∀r∈s.rules,r<16777216
 tls:I32s w X s.tl s.tails
 tsm:∀t∈s.tails,t<16777216
 tlen:s.tails.length<=16777216
 sts:Ints w X s.sv (ints s.sets)
 ssm:∀t∈s.sets,t<16777216
 fsm:∀t∈d.found,t<16777216
 msm:∀t∈d.marks,t<16777216
def zOi (w:World)(X:Nat->Prop)(p:Nat)(s:Sq)(d:Sf):Prop:=∃fv mv,SoAt w X p s d fv mv
section
variable {w w2:World} {X:Nat->Prop} {p:Nat} {s:Sq} {d:Sf} {fv mv:Value}
theorem SoAt.grown (h:SoAt w X p s d fv mv)(hk:Grew w w2):SoAt w2 X p s d fv mv:=by
 have e:∀b,X b->w2.heap[b]? =w.heap[b]? :=fun b hb=>hk.block b (h.xl b hb) (kJ (h.xl b hb));exact⟨(hk.block _ h.lp (kJ h.lp)).trans h.blk,zK h.own1 hk,zK h.own2 hk,h.ne,h.xf,h.xm,h.xp,fun g hg=>lZ (h.xl g hg) hk.size,lZ h.lp hk.size,(cell?_of_block (e _ h.xq)).trans h.net,h.xq,h.rls.keep e,h.eight,h.rsm,h.tls.keep e,h.tsm,h.tlen,h.sts.keep e,h.ssm,h.fsm,h.msm⟩
theorem SoAt.cells (h:SoAt w X p s d fv mv):w.cell? ⟨p,0,none⟩=some (pointer (some ⟨s.q,0,none⟩))∧w.cell? ⟨p,3,none⟩=some s.sv∧w.cell? ⟨p,4,none⟩=some (pointer (some ⟨s.f,0,none⟩))∧w.cell? ⟨p,5,none⟩=some s.tl∧w.cell? ⟨p,6,none⟩=some fv∧w.cell? ⟨p,7,none⟩=some mv∧∀i,w.frozen? ⟨p,i,none⟩=false:=by
 refine⟨?_,?_,?_,?_,?_,?_,fun i=>?_⟩
 all_goals first|(unfold cell?;rw[h.blk];rfl)|(unfold frozen?;rw[h.blk];simp)
theorem SoAt.so (h:SoAt w X p s d fv mv):So w p s.q s.rv s.rules:=⟨h.cells.1,h.net,h.rls.mono h.xl,h.eight,h.rsm,h.lp,h.xl _ h.xq⟩
theorem SoAt.fewer {Y:Nat->Prop}(h:SoAt w X p s d fv mv)(hp:¬Y p)(hl:∀g,Y g->g<w.heap.size)(hf:∀g,Y g->some g≠fv.ownBlock)(hm:∀g,Y g->some g≠mv.ownBlock)(e:∀g,X g->Y g):SoAt w Y p s d fv mv:=
 ⟨h.blk,h.own1,h.own2,h.ne,hf,hm,hp,hl,h.lp,h.net,e _ h.xq,h.rls.mono e,h.eight,h.rsm,h.tls.mono e,h.tsm,h.tlen,h.sts.mono e,h.ssm,h.fsm,h.msm⟩
theorem zB6 {w:World}{b i e':Nat}{v x:Value}{l:List Int}{c:Array Value}(h:OwnI w 0 v l)(hb:w.heap[b]? =some (.cells c e'))(he:3≠e'):OwnI (w.setCell ⟨b,i,none⟩ x) 0 v l:=
 zD h fun k _ _ hk=>lJ _ _ _ _ fun e=>zM h hb he (by rw[hk];exact congrArg some (Eq.symm e))
theorem SoAt.found_app {o:Obj}{g cap n x:Nat}(h:SoAt w X p s d fv mv)(hx:x<16777216)(hn:n=d.found.length)(hown:w2.ownsRow 0 3 1 (slice (some ⟨g,0,none⟩) (n+1) cap) (n+1) (((ints d.found).map fun x=>int i64 x)++[int i64 (x:Int)]))(hg:(w.alloc o).grownBy w2 fv.ownBlock)(hat:fv.ownBlock=some g∨w.heap.size<=g):
  SoAt (w2.setCell ⟨p,6,none⟩ (slice (some ⟨g,0,none⟩) (n+1) cap)) X p s {d with found:=d.found++[x]} (slice (some ⟨g,0,none⟩) (n+1) cap) mv∧KeepX X w (w2.setCell ⟨p,6,none⟩ (slice (some ⟨g,0,none⟩) (n+1) cap)):=by
 subst hn;have hlp:=h.lp;have hpf:=zM h.own1 h.blk (by decide);have hbl:∀j,j<w.heap.size->some j≠fv.ownBlock->w2.heap[j]? =w.heap[j]? :=fun j hj hf=>(hg.block j (by simp;omega) hf).trans (lG _ _ _ (by omega));have hb:=(hbl p hlp hpf).trans h.blk;have hsz:w.heap.size<=w2.heap.size:=lY (by simp) hg.size;have hxp:∀k,X k->k≠p:=fun k hk e=>h.xp (e ▸ hk);have e:∀k,X k->(w2.setCell ⟨p,6,none⟩ (slice (some ⟨g,0,none⟩) (d.found.length+1) cap)).heap[k]? =w.heap[k]? :=fun k hk=>(lJ _ _ _ _ (hxp k hk)).trans (hbl k (h.xl k hk) (h.xf k hk));have hO1:OwnI w2 0 (slice (some ⟨g,0,none⟩) (d.found.length+1) cap) (ints (d.found++[x])):=by
  rw[zA3];have:=zN d.found;have h2:=OwnI.snoc (l:=ints d.found) (x:=(x:Int)) (by rw[this];exact hown);rw[this] at h2;exact h2
 have hO2:=zR hg h.own2 (fun g hg e=>h.ne g e.symm hg.symm);refine⟨⟨?_,zB6 hO1 hb (by decide),zB6 hO2 hb (by decide),yV h.own2 h.ne hat,?_,h.xm,h.xp,fun k hk=>by rw[zC];exact lZ (h.xl k hk) hsz,by rw[zC];omega,(cell?_of_block (e _ h.xq)).trans h.net,h.xq,h.rls.keep e,h.eight,h.rsm,h.tls.keep e,h.tsm,h.tlen,h.sts.keep e,h.ssm,?_,h.msm⟩,⟨hg.os,hg.output,by rw[zC];exact hsz,e⟩⟩
 ·simp[setCell,lU,hb]
 ·intro k hk e
  have e1:k=g:=by simpa[Value.ownBlock] using e
  subst e1;rcases hat with ha|ha
  ·exact h.xf k hk ha.symm
  ·have:=h.xl k hk
   omega
 ·intro t ht
  rcases kU.1 ht with h1|h1
  ·exact h.fsm t h1
  ·rw[kY.1 h1];exact hx
theorem SoAt.marks_app {o:Obj}{g cap n x:Nat}(h:SoAt w X p s d fv mv)(hx:x<16777216)(hn:n=d.marks.length)(hown:w2.ownsRow 0 3 1 (slice (some ⟨g,0,none⟩) (n+1) cap) (n+1) (((ints d.marks).map fun x=>int i64 x)++[int i64 (x:Int)]))(hg:(w.alloc o).grownBy w2 mv.ownBlock)(hat:mv.ownBlock=some g∨w.heap.size<=g):
  SoAt (w2.setCell ⟨p,7,none⟩ (slice (some ⟨g,0,none⟩) (n+1) cap)) X p s {d with marks:=d.marks++[x]} fv (slice (some ⟨g,0,none⟩) (n+1) cap)∧KeepX X w (w2.setCell ⟨p,7,none⟩ (slice (some ⟨g,0,none⟩) (n+1) cap)):=by
 subst hn;have hlp:=h.lp;have hpf:=zM h.own2 h.blk (by decide);have hbl:∀j,j<w.heap.size->some j≠mv.ownBlock->w2.heap[j]? =w.heap[j]? :=fun j hj hf=>(hg.block j (by simp;omega) hf).trans (lG _ _ _ (by omega));have hb:=(hbl p hlp hpf).trans h.blk;have hsz:w.heap.size<=w2.heap.size:=lY (by simp) hg.size;have hxp:∀k,X k->k≠p:=fun k hk e=>h.xp (e ▸ hk);have e:∀k,X k->(w2.setCell ⟨p,7,none⟩ (slice (some ⟨g,0,none⟩) (d.marks.length+1) cap)).heap[k]? =w.heap[k]? :=fun k hk=>(lJ _ _ _ _ (hxp k hk)).trans (hbl k (h.xl k hk) (h.xm k hk));have hO1:OwnI w2 0 (slice (some ⟨g,0,none⟩) (d.marks.length+1) cap) (ints (d.marks++[x])):=by
  rw[zA3];have:=zN d.marks;have h2:=OwnI.snoc (l:=ints d.marks) (x:=(x:Int)) (by rw[this];exact hown);rw[this] at h2;exact h2
 have hO2:=zR hg h.own1 h.ne;refine⟨⟨?_,zB6 hO2 hb (by decide),zB6 hO1 hb (by decide),zCc (yV h.own1 (fun g hg e=>h.ne g e.symm hg.symm) hat),h.xf,?_,h.xp,fun k hk=>by rw[zC];exact lZ (h.xl k hk) hsz,by rw[zC];omega,(cell?_of_block (e _ h.xq)).trans h.net,h.xq,h.rls.keep e,h.eight,h.rsm,h.tls.keep e,h.tsm,h.tlen,h.sts.keep e,h.ssm,h.fsm,?_⟩,⟨hg.os,hg.output,by rw[zC];exact hsz,e⟩⟩
 ·simp[setCell,lU,hb]
 ·intro k hk e
  have e1:k=g:=by simpa[Value.ownBlock] using e
  subst e1;rcases hat with ha|ha
  ·exact h.xm k hk ha.symm
  ·have:=h.xl k hk
   omega
 ·intro t ht
  rcases kU.1 ht with h1|h1
  ·exact h.msm t h1
  ·rw[kY.1 h1];exact hx
end
end
section
def Sq.look (s:Sq)(d:Sf)(x:Nat):Nat:=zAt s.rules d.marks d.found x
def Sq.tail (s:Sq)(d:Sf)(x:Nat):Int:=zAv s.rules s.tails x (d.found.getD (s.look d x) 0)
def Sq.kind (s:Sq)(d:Sf)(x:Nat):Nat:=if s.look d x<d.found.length then(if s.tail d x<0 then s.look d x else d.found.length) else d.found.length
def Sq.kindS (s:Sq)(d:Sf)(x:Nat):Sf:=if s.look d x<d.found.length then(if s.tail d x<0 then d else⟨d.found++[x],d.marks++[(s.tail d x).toNat]⟩) else⟨d.found++[x],d.marks⟩
theorem Sq.look_le (s:Sq)(d:Sf)(x:Nat):s.look d x<=d.found.length:=zHs _ _ _ _
section
variable {w:World} {X:Nat->Prop} {p:Nat} {s:Sq} {d:Sf} {fv mv:Value}
theorem SoAt.unmarked (h:SoAt w X p s d fv mv)(hl:d.marks.length<=1000000000000)(hl2:d.found.length<=1000000000000)(x:Nat)(hx:x<16777216):
  Calls prog 130 #[pointer (some ⟨p,0,none⟩),int i64 x] w fun e w'=>e=returned (int i64 (s.look d x))∧Grew w w':=
 zEA w p s.q s.rv mv fv s.rules d.marks d.found h.so h.cells.2.2.2.2.2.1 (zAA h.own2) hl h.msm h.cells.2.2.2.2.1 (zAA h.own1) hl2 h.fsm x hx
theorem SoAt.between (h:SoAt w X p s d fv mv)(a b:Nat)(ha:a<16777216)(hb:b<16777216):
  Calls prog 131 #[pointer (some ⟨p,0,none⟩),int i64 a,int i64 b] w fun e w'=>e=returned (int i64 (zAv s.rules s.tails a b))∧Grew w w':=
 zCO w p s.q s.rv s.tl s.rules s.tails h.so h.cells.2.2.2.1 (h.tls.mono h.xl) (lY h.tlen (by omega)) h.tsm a b ha hb
end
theorem zG2 (w:World)(X:Nat->Prop)(p:Nat)(s:Sq)(d:Sf)(h:zOi w X p s d)(hl:d.marks.length<=100000000000)(hl2:d.found.length<=100000000000)(x:Nat)(hx:x<16777216):
  Calls prog 94 #[pointer (some ⟨p,0,none⟩),int i64 x] w fun e w'=>e=returned (int i64 (s.kind d x))∧zOi w' X p s (s.kindS d x)∧KeepX X w w':=by
 obtain⟨i0,hi0,hz0,hz1,hz2⟩:=info_parts yJ;obtain⟨fv,mv,h⟩:=h;have HU:=vl <| h.unmarked (by omega) (by omega) x hx;obtain⟨af,cf,hfv⟩:=h.own1.form;rw[zN] at hfv;obtain⟨am,cm,hmv⟩:=h.own2.form;rw[zN] at hmv;subst hfv hmv;have HG:Hid (∀w2,Grew w w2->SoAt w2 X p s d (slice af d.found.length cf) (slice am d.marks.length cm)):=fun w2 hk=>h.grown hk;have HX:Hid (∀w2,Grew w w2->KeepX X w w2):=fun w2 hk=>hk.kx fun k hk2=>⟨h.xl k hk2,kJ (h.xl k hk2)⟩
 have HOf:Hid (∀w2,SoAt w2 X p s d (slice af d.found.length cf) (slice am d.marks.length cm)->w2.ownsRow 0 3 1 (slice af d.found.length cf) d.found.length ((ints d.found).map fun x=>int i64 x)):=fun w2 h2=>by
  have:=h2.own1;unfold OwnI at this;rw[zN] at this;exact this
 have HOm:Hid (∀w2,SoAt w2 X p s d (slice af d.found.length cf) (slice am d.marks.length cm)->w2.ownsRow 0 3 1 (slice am d.marks.length cm) d.marks.length ((ints d.marks).map fun x=>int i64 x)):=fun w2 h2=>by
  have:=h2.own2;unfold OwnI at this;rw[zN] at this;exact this
 have hle:=s.look_le d x;by_cases hk:s.look d x<d.found.length
 ·have hk2:((s.look d x:Nat):Int)<(d.found.length:Int):=by omega
  have hfl:d.found.getD (s.look d x) 0<16777216:=h.fsm _ (zS _ _ 0 hk);obtain⟨gf,rfl⟩:=h.own1.some (by rw[zN];omega);have HC:Hid (∀w2,Grew w w2->w2.cell? ⟨gf,s.look d x,none⟩=some (int i64 ((d.found.getD (s.look d x) 0:Nat):Int))):=fun w2 hk2=>by
   have:=(HG.out w2 hk2).own1.cell (s.look d x) (by rw[zN];exact hk);rw[vF] at this;exact this
  have HT:Hid (∀w2,Grew w w2->Ca 131 #[pointer (some ⟨p,0,none⟩),int i64 (x:Int),int i64 ((d.found.getD (s.look d x) 0:Nat):Int)] w2 fun e w'=>e=returned (int i64 (s.tail d x))∧Grew w w'):=fun w2 hk2=>by
   refine((HG.out w2 hk2).between x _ hx hfl).mono ?_;rintro e w3 ⟨rfl,hk3⟩;exact⟨rfl,hk2.trans (hk3.lower hk2.size hk2.size)⟩
  have hrange:Hid (s.tail d x=-1∨∃t:Nat,s.tail d x=t∧t<16777216):=zIY s.rules s.tails x _ h.tsm;by_cases ht:s.tail d x<0
  ·have HZ:Hid (s.kind d x=s.look d x∧s.kindS d x=d):=⟨by unfold Sq.kind;rw[if_pos hk,if_pos ht],by unfold Sq.kindS;rw[if_pos hk,if_pos ht]⟩
   generalize s.look d x=k at *;generalize d.found.getD k 0=y at *;generalize s.tail d x=t at *;go_in;go_wp2_with (first|(go_at_call 130;refine HU.out.mono ?_;rintro e w2 ⟨rfl,hk2⟩;have y6:=(HG.out w2 hk2).cells.2.2.2.2.1;have y8:=HC.out w2 hk2)|(go_at_call 131;refine(HT.out w2 hk2).mono ?_;rintro e w3 ⟨rfl,hk3⟩))
   go_ret;exact⟨by rw[HZ.out.1];rfl,by rw[HZ.out.2];exact⟨_,_,HG.out _ hk3⟩,HX.out _ hk3⟩
  ·obtain⟨t,hte,htl⟩:=hrange.out.resolve_left (by omega)
   have HZ:Hid (s.kind d x=d.found.length∧s.kindS d x=⟨d.found++[x],d.marks++[t]⟩):=⟨by unfold Sq.kind;rw[if_pos hk,if_neg ht],by unfold Sq.kindS;rw[if_pos hk,if_neg ht,hte];rfl⟩
   rw[hte] at HT;have ht2:¬((t:Int)<0):=by omega
   generalize s.look d x=k at *;generalize d.found.getD k 0=y at *;go_in;go_wp2_with (first|(go_at_call 130;refine HU.out.mono ?_;rintro e w2 ⟨rfl,hk2⟩;have y6:=(HG.out w2 hk2).cells.2.2.2.2.1;have y8:=HC.out w2 hk2)|(go_at_call 131;refine(HT.out w2 hk2).mono ?_;rintro e w3 ⟨rfl,hk3⟩;have HS3:=vl <| HG.out w3 hk3;have y7:=(HG.out w3 hk3).cells.2.2.2.2.2.1;have OM3:=HOm.out w3 (HG.out w3 hk3);have hp3:=(HG.out w3 hk3).lp)|(have m2:=mark1;at_builtin;refine wpList_append_lies _ rfl _ _ 45 rfl 0 3 i0 (int i64 0) 1 8 underlying45 hi0 hz0 hz1 hz2 rfl (by decide) _ _ _ rfl (OF5.alloc _) ⟨w4.heap.size,0,none⟩ 1 1 [int i64 (x:Int)] rfl rfl (zA9 _ [int i64 (x:Int)] _ _ (zC _ _ _)) (by intro u hu;simp at hu;subst hu;rfl) (by decide) (by unfold maxLen;omega) (by omega) (by simp[zC]) _ rfl ?_;intro g2 cap2 w6 hown2 hgrow2 hat2 hlt3;have A7:=A5.1.found_app hx rfl hown2 hgrow2 (by rcases hat2 with ha|ha;exact .inl ha;right;rw[ha];simp[zC]);have hPB2:w6.heap[p]? =(w4.setCell ⟨p,7,none⟩ (slice (some ⟨gg,0,none⟩) (d.marks.length+1) cap)).heap[p]? :=(hgrow2.block _ (by simp[zC];omega) (zM A5.1.own1 A5.1.blk (by decide))).trans (lG _ _ _ (by rw[zC];omega));have t6:w6.cell? ⟨p,6,none⟩=some (slice (some ⟨gf,0,none⟩) d.found.length cf):=(cell?_of_block hPB2).trans y9;have g6:w6.frozen? ⟨p,6,none⟩=false:=(frozen?_of_block hPB2).trans (A5.1.cells.2.2.2.2.2.2 6);have y10:(w6.setCell ⟨p,6,none⟩ (slice (some ⟨g2,0,none⟩) (d.found.length+1) cap2)).cell? ⟨p,6,none⟩=some (slice (some ⟨g2,0,none⟩) (d.found.length+1) cap2):=A7.1.cells.2.2.2.2.1)|(at_builtin;refine wpList_append_lies _ rfl _ _ 45 rfl 0 3 i0 (int i64 0) 1 8 underlying45 hi0 hz0 hz1 hz2 rfl (by decide) _ _ _ rfl (OM3.alloc _) ⟨w3.heap.size,0,none⟩ 1 1 [int i64 (t:Int)] rfl rfl (cell_one_new _ _ _) (by intro u hu;simp at hu;subst hu;rfl) (by decide) (by unfold maxLen;omega) (by omega) (by simp) _ rfl ?_;intro gg cap w4 hown hgrow hat hlt2;have mark1:True:=trivial;have A5:=HS3.out.marks_app htl rfl hown hgrow (by rcases hat with ha|ha;exact .inl ha;right;rw[ha];simp);have hPB:w4.heap[p]? =w3.heap[p]? :=(hgrow.block _ (by simp;omega) (zM HS3.out.own2 HS3.out.blk (by decide))).trans (lG _ _ _ (by omega));have t7:w4.cell? ⟨p,7,none⟩=some (slice am d.marks.length cm):=(cell?_of_block hPB).trans y7;have g7:w4.frozen? ⟨p,7,none⟩=false:=(frozen?_of_block hPB).trans (HS3.out.cells.2.2.2.2.2.2 7);have y9:(w4.setCell ⟨p,7,none⟩ (slice (some ⟨gg,0,none⟩) (d.marks.length+1) cap)).cell? ⟨p,6,none⟩=some (slice (some ⟨gf,0,none⟩) d.found.length cf):=A5.1.cells.2.2.2.2.1;have hp4:p<w4.heap.size:=lZ hp3 (lY (by simp) hgrow.size);have OF5:(w4.setCell ⟨p,7,none⟩ (slice (some ⟨gg,0,none⟩) (d.marks.length+1) cap)).ownsRow 0 3 1 (slice (some ⟨gf,0,none⟩) d.found.length cf) d.found.length ((ints d.found).map fun x=>int i64 x):=(by have:=A5.1.own1;unfold OwnI at this;rw[zN] at this;exact this)))
   go_ret;refine⟨?_,by rw[HZ.out.2];exact⟨_,_,A7.1⟩,((HX.out _ hk3).trans A5.2).trans A7.2⟩;rw[HZ.out.1]
   first|rfl|(simp;done)|(show _=_;congr 2;omega)
 ·have HZ:Hid (s.kind d x=d.found.length∧s.kindS d x=⟨d.found++[x],d.marks⟩):=⟨by unfold Sq.kind;rw[if_neg hk],by unfold Sq.kindS;rw[if_neg hk]⟩
  have hk2:¬(((s.look d x:Nat):Int)<(d.found.length:Int)):=by omega
  generalize s.look d x=k at *;go_in;go_wp2_with (first|(go_at_call 130;refine HU.out.mono ?_;rintro e w3 ⟨rfl,hk3⟩;have HS3:=vl <| HG.out w3 hk3;have y6:=(HG.out w3 hk3).cells.2.2.2.2.1;have OM3:=HOf.out w3 (HG.out w3 hk3);have hp3:=(HG.out w3 hk3).lp)|(at_builtin;refine wpList_append_lies _ rfl _ _ 45 rfl 0 3 i0 (int i64 0) 1 8 underlying45 hi0 hz0 hz1 hz2 rfl (by decide) _ _ _ rfl (OM3.alloc _) ⟨w3.heap.size,0,none⟩ 1 1 [int i64 (x:Int)] rfl rfl (cell_one_new _ _ _) (by intro u hu;simp at hu;subst hu;rfl) (by decide) (by unfold maxLen;omega) (by omega) (by simp) _ rfl ?_;intro gg cap w4 hown hgrow hat hlt2;have A5:=HS3.out.found_app hx rfl hown hgrow (by rcases hat with ha|ha;exact .inl ha;right;rw[ha];simp);have hPB:w4.heap[p]? =w3.heap[p]? :=(hgrow.block _ (by simp;omega) (zM HS3.out.own1 HS3.out.blk (by decide))).trans (lG _ _ _ (by omega));have t7:w4.cell? ⟨p,6,none⟩=some (slice af d.found.length cf):=(cell?_of_block hPB).trans y6;have g7:w4.frozen? ⟨p,6,none⟩=false:=(frozen?_of_block hPB).trans (HS3.out.cells.2.2.2.2.2.2 6);have y9:(w4.setCell ⟨p,6,none⟩ (slice (some ⟨gg,0,none⟩) (d.found.length+1) cap)).cell? ⟨p,6,none⟩=some (slice (some ⟨gg,0,none⟩) (d.found.length+1) cap):=A5.1.cells.2.2.2.2.1))
  go_ret;refine⟨?_,by rw[HZ.out.2];exact⟨_,_,A5.1⟩,(HX.out _ hk3).trans A5.2⟩;rw[HZ.out.1]
  first|rfl|(simp;done)|(show _=_;congr 2;omega)
end
end Go.Proofs.YtbjcfkdnjaiclaaGreat
