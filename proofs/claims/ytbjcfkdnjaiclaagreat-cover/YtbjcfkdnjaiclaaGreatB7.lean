import Derived.Deep.RegionHeld3
import Derived.Test.YtbjcfkdnjaiclaaGreatB0
import Derived.Test.YtbjcfkdnjaiclaaGreatB6
/- Parts of the proof. -/
set_option linter.unusedVariables false
set_option linter.unusedSimpArgs false
set_option maxHeartbeats 4000000
set_option maxRecDepth 100000
namespace Go.Proofs.YtbjcfkdnjaiclaaGreat
open Go.RowKit Go.Proofs.Tryz Go.World
structure Ar where
 lows:List Int
 letters:List Int
 sets:List Int
def jB (lows:List Int)(n:Int):Nat->Nat->Nat->Nat
 |0,low,_=>low
 |f+1,low,high=>if high-low>1 then(if lows.getD ((low+high)/2) 0<=n then jB lows n f ((low+high)/2) high else jB lows n f low ((low+high)/2)) else low
def Ar.area (a:Ar)(n:Int):Nat:=jB a.lows n a.lows.length 0 a.lows.length
theorem zJz (lows:List Int)(n:Int)(f low high:Nat)(h:¬high-low>1):jB lows n f low high=low:=by
 cases f with
 |zero=>rfl
 |succ f=>rw[jB,if_neg h]
theorem zIy (lows:List Int)(n:Int)(f low high:Nat)(h:low<high):jB lows n f low high<high:=by
 induction f generalizing low high with
 |zero=>exact h
 |succ f ih=>
  rw[jB];split
  ·split
   ·exact ih _ _ (by omega)
   ·exact lZ (ih _ _ (by omega)) (by omega)
  ·exact h
theorem Ar.area_lt (a:Ar)(n:Int)(h:0<a.lows.length):a.area n<a.lows.length:=zIy _ _ _ _ _ h
structure ArAt (w:World)(lv tv sv:Value)(a:Ar):Prop where
 lows:Ints w (In w) lv a.lows
 letters:Ints w (In w) tv a.letters
 sets:Ints w (In w) sv a.sets
theorem ArAt.grown {w w':World}{lv tv sv:Value}{a:Ar}(h:ArAt w lv tv sv a)(hk:Grew w w'):ArAt w' lv tv sv a:=⟨h.lows.grown hk,h.letters.grown hk,h.sets.grown hk⟩
theorem zFE (w:World)(lv tv sv:Value)(a:Ar)(hA:ArAt w lv tv sv a)(hl:a.lows.length<=1000000000000)(n:Int):
  Calls prog 185 #[.agg #[lv,tv,sv],.int .i64 n] w fun e w'=>e=.returned (.int .i64 (a.area n))∧Grew w w':=by
 obtain⟨al,cl,rfl,_,_,hlc⟩:=hA.lows;obtain⟨at_,ct,rfl,-⟩:=hA.letters;obtain⟨as_,cs,rfl,-⟩:=hA.sets;have HL:=vl hlc;clear hlc hA;obtain⟨w1,hw1,K1,y0⟩:∃w1,w1=w.alloc (.cells #[.slice al a.lows.length cl,.slice at_ a.letters.length ct,.slice as_ a.sets.length cs] 172)∧Hid (Grew w w1)∧w1.cell? ⟨w.heap.size,0,none⟩=some (.slice al a.lows.length cl):=by
  have h:=gG w (.cells #[.slice al a.lows.length cl,.slice at_ a.letters.length ct,.slice as_ a.sets.length cs] 172);refine⟨_,rfl,kZ _ _ lQ,?_⟩;unfold cell?;rw[h];rfl
 have HV:Hid (a.area n=jB a.lows n a.lows.length 0 a.lows.length):=rfl;generalize a.lows.length=m at *;go_in;apply wp_cut;intro K0 J;go_wp2;apply J.out;clear J;rw[<-hw1];clear hw1;go_wp2;go_loopg [5,6] m (fun q x y wr=>∃low high f:Nat,q=high-low∧x=.int .i64 (low:Int)∧y=.int .i64 (high:Int)∧low<=high∧high<=m∧high-low<=f+1∧a.area n=jB a.lows n f low high∧wr=w1)
 case atStart=>exact⟨0,m,m,rfl,rfl,rfl,lX,lQ,by omega,HV.out,rfl⟩
 case round=>
  obtain⟨low,high,f,hgk,rfl,rfl,hlh,hhm,hf,hv,rfl⟩:=hrel;have HA:Hid (gk=high-low∧a.area n=jB a.lows n f low high):=⟨hgk,hv⟩
  clear hgk hv;by_cases h1:high-low>1
  ·obtain⟨f,rfl⟩:∃f',f=f'+1:=⟨f-1,by omega⟩
   have hm1:low<(low+high)/2:=by omega
   have hm2:(low+high)/2<high:=by omega
   have HB:Hid (jB a.lows n (f+1) low high=if a.lows.getD ((low+high)/2) 0<=n then jB a.lows n f ((low+high)/2) high else jB a.lows n f low ((low+high)/2)):=by show _=_;rw[jB,if_pos h1]
   obtain⟨b,o,rfl,hb,hc⟩:=HL.out ((low+high)/2) (by omega);have y1:wr.cell? ⟨b,o+(low+high)/2,none⟩=some (.int .i64 (a.lows.getD ((low+high)/2) 0)):=zA hc hb K1.out;have em:(((low:Int)+(high:Int)).tdiv 2)=(((low+high)/2:Nat):Int):=by
    rw[Int.tdiv_eq_ediv_of_nonneg (by omega)];omega
   clear hc;have i1:(1:Int)<(high:Int)-(low:Int):=by omega
   have i2:(((low+high)/2:Nat):Int)<(m:Int):=by omega
   apply wp_cut;intro K0 J;go_wp2;apply J.out;clear J;generalize hmid:(low+high)/2=mid at *;have HMID:=vl hmid;clear hmid;generalize a.lows.getD mid 0=x at *;by_cases hc:x<=n
   ·have HC:Hid (jB a.lows n (f+1) low high=jB a.lows n f mid high):=by show _=_;rw[HB.out,if_pos hc]
    go_wp2;go_roundg (high-mid)
    case measure=>rw[HA.out.1];omega
    case rel=>exact⟨mid,high,f,rfl,rfl,rfl,by omega,by omega,by omega,by rw[HA.out.2,HC.out],rfl⟩
   ·have HC:Hid (jB a.lows n (f+1) low high=jB a.lows n f low mid):=by show _=_;rw[HB.out,if_neg hc]
    go_wp2;go_roundg (mid-low)
    case measure=>rw[HA.out.1];omega
    case rel=>exact⟨low,mid,f,rfl,rfl,rfl,by omega,by omega,by omega,by rw[HA.out.2,HC.out],rfl⟩
  ·have i1:(high:Int)-(low:Int)<=1:=by omega
   have HC:Hid (jB a.lows n f low high=low):=zJz _ _ _ _ _ h1;clear h1;go_wp2;go_ret;exact⟨by rw[HA.out.2,HC.out];rfl,K1.out⟩
def Ar.letter (a:Ar)(n:Int):Int:=a.letters.getD (a.area n) 0
def Ar.alike (a:Ar)(m n:Int):Bool:=(a.area m:Int)==(a.area n:Int)
theorem zGZ (w:World)(lv tv sv:Value)(a:Ar)(hA:ArAt w lv tv sv a)(hl:a.lows.length<=1000000000000)(h0:0<a.lows.length)(hll:a.letters.length=a.lows.length)(n:Int):
  Calls prog 175 #[.agg #[lv,tv,sv],.int .i64 n] w fun e w'=>e=.returned (.int .i64 (a.letter n))∧Grew w w':=by
 obtain⟨al,cl,rfl,-⟩:=id hA.lows;obtain⟨bt,ot,ct,rfl,hbt,_,_,htc⟩:=hA.letters.block (by omega);obtain⟨as_,cs,rfl,-⟩:=id hA.sets;obtain⟨w1,hw1,K1,y0,y1,y2⟩:∃w1,w1=w.alloc (.cells #[.slice al a.lows.length cl,.slice (some ⟨bt,ot,none⟩) a.letters.length ct,.slice as_ a.sets.length cs] 172)∧Hid (Grew w w1∧w.heap.size<w1.heap.size)∧w1.cell? ⟨w.heap.size,0,none⟩=some (.slice al a.lows.length cl)∧w1.cell? ⟨w.heap.size,1,none⟩=some (.slice (some ⟨bt,ot,none⟩) a.letters.length ct)∧w1.cell? ⟨w.heap.size,2,none⟩=some (.slice as_ a.sets.length cs):=by
  have h:=gG w (.cells #[.slice al a.lows.length cl,.slice (some ⟨bt,ot,none⟩) a.letters.length ct,.slice as_ a.sets.length cs] 172);refine⟨_,rfl,⟨kZ _ _ lQ,by simp⟩,?_,?_,?_⟩ <;> ·unfold cell?;rw[h];rfl
 have HC:=zFE w1 _ _ _ a (hA.grown K1.out.1) hl n;have har:a.area n<a.letters.length:=by have:=a.area_lt n h0;omega
 have hcc:w.cell? ⟨bt,ot+a.area n,none⟩=some (.int .i64 (a.letters.getD (a.area n) 0)):=htc _ har;have HV:Hid (a.letter n=a.letters.getD (a.area n) 0):=rfl;have HLB:Hid (In w bt∧w.cell? ⟨bt,ot+a.area n,none⟩=some (.int .i64 (a.letters.getD (a.area n) 0))):=⟨hbt,hcc⟩
 clear htc hA hcc h0 hll;generalize a.letters.getD (a.area n) 0=x at *;generalize a.area n=k at *;have i1:(k:Int)<(a.letters.length:Int):=by omega
 go_in;apply wp_cut;intro K0 J;go_wp2;apply J.out;rw[<-hw1];clear hw1;go_wp2_with (first|(go_at_call 185;refine HC.mono ?_;rintro e w2 ⟨rfl,hk2⟩;have z1:w2.cell? ⟨w.heap.size,1,none⟩=some (.slice (some ⟨bt,ot,none⟩) a.letters.length ct):=zA y1 K1.out.2 hk2;have z2:w2.cell? ⟨bt,ot+k,none⟩=some (.int .i64 x):=zA (zA HLB.out.2 HLB.out.1 K1.out.1) (lZ HLB.out.1 K1.out.1.size) hk2))
 go_ret;exact⟨by rw[HV.out];rfl,K1.out.1.trans (hk2.lower K1.out.1.size K1.out.1.size)⟩
theorem zB8 (w:World)(lv tv sv:Value)(a:Ar)(hA:ArAt w lv tv sv a)(hl:a.lows.length<=1000000000000)(m n:Int):
  Calls prog 177 #[.agg #[lv,tv,sv],.int .i64 m,.int .i64 n] w fun e w'=>e=.returned (.bool (a.alike m n))∧Grew w w':=by
 obtain⟨al,cl,rfl,-⟩:=id hA.lows;obtain⟨at_,ct,rfl,-⟩:=id hA.letters;obtain⟨as_,cs,rfl,-⟩:=id hA.sets;obtain⟨w1,hw1,K1,y0,y1,y2⟩:∃w1,w1=w.alloc (.cells #[.slice al a.lows.length cl,.slice at_ a.letters.length ct,.slice as_ a.sets.length cs] 172)∧Hid (Grew w w1∧w.heap.size<w1.heap.size)∧w1.cell? ⟨w.heap.size,0,none⟩=some (.slice al a.lows.length cl)∧w1.cell? ⟨w.heap.size,1,none⟩=some (.slice at_ a.letters.length ct)∧w1.cell? ⟨w.heap.size,2,none⟩=some (.slice as_ a.sets.length cs):=by
  have h:=gG w (.cells #[.slice al a.lows.length cl,.slice at_ a.letters.length ct,.slice as_ a.sets.length cs] 172);refine⟨_,rfl,⟨kZ _ _ lQ,by simp⟩,?_,?_,?_⟩ <;> ·unfold cell?;rw[h];rfl
 have HC:Hid (∀w' x,Grew w w'->Calls prog 185 #[.agg #[.slice al a.lows.length cl,.slice at_ a.letters.length ct,.slice as_ a.sets.length cs],.int .i64 x] w' fun e w2=>e=.returned (.int .i64 (a.area x))∧Grew w' w2):=fun w' x hk=>zFE w' _ _ _ a (hA.grown hk) hl x;have HV:Hid (a.alike m n=((a.area m:Int)==(a.area n:Int))):=rfl;go_in;apply wp_cut;intro K0 J;go_wp2;apply J.out;rw[<-hw1];clear hw1;apply wp_cut;intro K0 J;go_wp2_with (first|(go_at_call 185;refine(HC.out _ m K1.out.1).mono ?_;rintro e w2 ⟨rfl,hk2⟩;have z0:=zA y0 K1.out.2 hk2;have z1:=zA y1 K1.out.2 hk2;have z2:=zA y2 K1.out.2 hk2))
 apply J.out;clear J y0 y1 y2;have K2:=vl <| K1.out.1.trans (hk2.lower K1.out.1.size K1.out.1.size);clear hk2;go_wp2_with (first|(go_at_call 185;refine(HC.out _ n K2.out).mono ?_;rintro e w3 ⟨rfl,hk3⟩))
 go_ret;exact⟨by rw[HV.out];rfl,K2.out.trans (hk3.lower K2.out.size K2.out.size)⟩
def zCK (l:List Int)(n:Int):Nat->Nat
 |0=>0
 |i+1=>if l.getD i 0>n then zCK l n i else i+1
theorem zMn (l:List Int)(n:Int)(i:Nat):zCK l n i<=i:=by
 induction i with
 |zero=>exact lQ
 |succ i ih=>unfold zCK;split <;> omega
def zCs (l:List Int)(n:Int)(i:Nat):List Int:=l.take i++n::l.drop i
def zFZ (l:List Int)(n:Int):List Int:=zCs l n (zCK l n l.length)
theorem zGc (l:List Int)(n:Int)(i:Nat):(zCs l n i).length=l.length+1:=by
 simp[zCs];omega
theorem zDG (l:List Int)(n:Int)(i j:Nat)(hi:i<=l.length):(zCs l n i).getD j 0=if j<i then l.getD j 0 else if j=i then n else l.getD (j-1) 0:=by
 unfold zCs;rw[lW,List.getElem?_append,List.length_take];by_cases h1:j<i
 ·rw[if_pos (by omega),if_pos h1,List.getElem?_take,if_pos h1,lW]
 ·rw[if_neg (by omega),if_neg h1]
  by_cases h2:j=i
  ·subst h2
   rw[if_pos rfl,show j-min j l.length=0 by omega];rfl
  ·rw[if_neg h2,show j-min i l.length=(j-1-i)+1 by omega,List.getElem?_cons_succ,List.getElem?_drop,show i+(j-1-i)=j-1 by omega,lW]
structure BdAt (w:World)(H p:Nat)(v:Value)(l:List Int):Prop where
 blk:w.heap[p]? =some (.cells #[v] 239)
 own:OwnI w H v l
 pH:H<=p
 lt:p<w.heap.size
def zNB (w:World)(H p:Nat)(l:List Int):Prop:=∃v,BdAt w H p v l
theorem BdAt.cell {w:World}{H p:Nat}{v:Value}{l:List Int}(h:BdAt w H p v l):w.cell? ⟨p,0,none⟩=some v∧w.frozen? ⟨p,0,none⟩=false:=by
 constructor
 ·unfold cell?;rw[h.blk];rfl
 ·unfold frozen?;rw[h.blk];rfl
theorem OwnI.rowOf {w:World}{H:Nat}{v:Value}{l:List Int}(h:OwnI w H v l):Row w H 3 v l.length fun i=>.int .i64 (l.getD i 0):=h.row l.length rfl (fun i=>l.getD i 0) fun _ _=>rfl
theorem Row.ownI {w:World}{H:Nat}{v:Value}{l:List Int}(h:Row w H 3 v l.length fun i=>.int .i64 (l.getD i 0)):OwnI w H v l:=by
 have e:(List.range l.length).map (fun i=>Value.int .i64 (l.getD i 0))=l.map fun x=>.int .i64 x:=by
  apply List.ext_getElem
  ·simp
  ·intro i h1 h2
   simp at h1;simp[h1]
 unfold OwnI;rw[<-e];exact h
def Stay (w w':World):Prop:=∀(k:Nat) (c:Array Value) (t:TypeId),w.heap[k]? =some (Obj.cells c t)->t≠3->t≠239->w'.heap[k]? =some (Obj.cells c t)
structure Bz (w0 w:World)(H p g cap:Nat)(l:List Int)(n:Int)(i:Nat):Prop where
 blk:w.heap[p]? =some (.cells #[.slice (some ⟨g,0,none⟩) (l.length+1) cap] 239)
 row:Row w H 3 (.slice (some ⟨g,0,none⟩) (l.length+1) cap) (l.length+1) fun j=>.int .i64 ((zCs l n i).getD j 0)
 lt:p<w.heap.size
 keep:Keep H H w0 w
 stay:Stay w0 w
theorem Bz.step {w0 w:World}{H p g cap:Nat}{l:List Int}{n:Int}{i:Nat}(h:Bz w0 w H p g cap l n (i+1))(hi:i+1<=l.length):Bz w0 ((w.setCell ⟨g,i+1,none⟩ (.int .i64 (l.getD i 0))).setCell ⟨g,i,none⟩ (.int .i64 n)) H p g cap l n i:=by
 have hgp:p≠g:=fun e=>zL h.row h.blk (by decide) (by rw[e];rfl);have hg:=(h.row.at (by omega)).1;refine⟨(lJ _ _ _ _ hgp).trans ((lJ _ _ _ _ hgp).trans h.blk),?_,by rw[zC,zC];exact h.lt,(h.keep.trans (zN _ _ _ _ hg)).trans (zN _ _ _ _ hg),?_⟩;rotate_left
 ·intro k c t hk h1 h2
  have hk2:=h.stay k c t hk h1 h2;have hkg:k≠g:=fun e=>zL h.row hk2 (Ne.symm h1) (by rw[e];rfl);exact(lJ _ _ _ _ hkg).trans ((lJ _ _ _ _ hkg).trans hk2)
 refine Row.congr ((h.row.set (i+1) (.int .i64 (l.getD i 0))).set i (.int .i64 n)) fun j hj=>?_;rw[zDG l n i j (by omega)];by_cases e1:j=i
 ·rw[if_pos e1,if_neg (by omega),if_pos e1]
 ·rw[if_neg e1]
  by_cases e2:j=i+1
  ·rw[if_pos e2,if_neg (by omega),if_neg e1,show j-1=i by omega]
  ·rw[if_neg e2,zDG l n (i+1) j hi]
   by_cases e3:j<i
   ·rw[if_pos (by omega),if_pos e3]
   ·rw[if_neg (by omega),if_neg e2,if_neg e3,if_neg e1]
theorem Bz.drewed {w0 X:World}{a:Addr}{u:Value}{H p g cap:Nat}{l:List Int}{n:Int}{i:Nat}(h:Bz w0 (X.setCell a u) H p g cap l n i):Bz w0 (X.drew.setCell a u) H p g cap l n i:=⟨h.1,h.2,h.3,⟨h.keep.os,h.keep.output,h.keep.size,h.keep.block⟩,h.stay⟩
theorem zJy (w:World)(H p:Nat)(v:Value)(l:List Int)(hB:BdAt w H p v l)(hl:l.length<=1000000000000)(n:Int):
  Calls prog 183 #[.pointer (some ⟨p,0,none⟩),.int .i64 n] w fun e w'=>e=.returned (.tuple #[])∧zNB w' H p (zFZ l n)∧Keep H H w w'∧Stay w w':=by
 obtain⟨i0,hi0,hz0,hz1,hz2⟩:=info_parts yH;obtain⟨ao,cap,rfl⟩:=hB.own.form;obtain⟨y0,z0⟩:=hB.cell;have HB:=vl hB;have OR:=vl hB.own;have hpH:=hB.pH;have hlt:=hB.lt;have HNP:=vl <| zL hB.own hB.blk (by decide);have hHw:H<=w.heap.size:=by omega
 go_in;apply wp_cut;intro K0 J;go_wp2_with (first|(at_builtin;refine wpList_append_lies _ rfl _ _ 45 rfl (H) 3 i0 (.int .i64 0) 1 8 underlying45 hi0 hz0 hz1 hz2 rfl (by decide) _ _ _ rfl (OR.out.alloc _) ⟨w.heap.size,0,none⟩ 1 1 [.int .i64 n] rfl rfl (cell_one_new _ _ _) (by intro u hu;simp at hu;subst hu;rfl) (by decide) (by unfold maxLen;omega) (by omega) (by simp;omega) _ rfl ?_;intro gg cap2 w2 hown hgrow hat hlt2;have hPB:w2.heap[p]? =w.heap[p]? :=(hgrow.block p (by simp;omega) HNP.out).trans (lG _ _ _ hlt);have t0:w2.cell? ⟨p,0,none⟩=some (.slice ao l.length cap):=(cell?_of_block hPB).trans y0;have f0:w2.frozen? ⟨p,0,none⟩=false:=(frozen?_of_block hPB).trans z0))
 apply J.out;obtain⟨w3,hw3,A3⟩:∃w3,w3=w2.setCell ⟨p,0,none⟩ (.slice (some ⟨gg,0,none⟩) (l.length+1) cap2)∧Hid (Bz w w3 H p gg cap2 l n l.length):=by
  refine⟨_,rfl,?_,?_,?_,?_,?_⟩
  ·have hb:=hPB.trans HB.out.blk
   simp[setCell,lU,hb]
  ·have ho:=OwnI.snoc hown
   have hgp:gg≠p:=fun e=>zL hown (hPB.trans HB.out.blk) (by decide) (by rw[<-e];rfl);have hr:Row w2 H 3 (.slice (some ⟨gg,0,none⟩) (l.length+1) cap2) (l.length+1) fun j=>.int .i64 ((zCs l n l.length).getD j 0):=by
    refine ho.row (l.length+1) (by simp) _ fun j hj=>?_;simp[zCs]
   exact hr.blk fun g _ _ hg=>lJ _ _ _ _ fun e=>hgp (by have e':gg=g:=(by simpa[Value.ownBlock] using hg);rw[e',e])
  ·rw[zC];exact lZ hlt (lY (by simp) hgrow.size)
  ·exact(xN (xP OR.out hgrow hHw)).trans (zN _ _ _ _ hpH)
  ·intro k c t hk h1 h2
   have hkl:k<w.heap.size:=by
    rcases Nat.lt_or_ge k w.heap.size with h|h
    ·exact h
    ·rw[Array.getElem?_eq_none h] at hk;cases hk
   have hkp:k≠p:=fun e=>by
    rw[e,HB.out.blk] at hk;injection hk with hk;injection hk with _ hk;exact h2 hk.symm
   exact(lJ _ _ _ _ hkp).trans ((hgrow.block k (by simp;omega) (zL OR.out hk (Ne.symm h1))).trans ((lG _ _ _ hkl).trans hk))
 rw[<-hw3];clear hw3 hPB t0 f0 hown hgrow hat y0 z0;have y3:w3.cell? ⟨p,0,none⟩=some (.slice (some ⟨gg,0,none⟩) (l.length+1) cap2):=by unfold cell?;rw[A3.out.blk];rfl
 go_wp2;clear y3;go_loopg [4] l.length (fun q x wr=>∃i:Nat,q=i∧i<=l.length∧x=.int .i64 (i:Int)∧Bz w wr H p gg cap2 l n i∧zCK l n l.length=zCK l n i)
 case atStart=>exact⟨l.length,rfl,lQ,(by first|rfl|(congr 1;omega)),A3.out,rfl⟩
 case round=>
  obtain⟨i,hgk,hi,rfl,hZ,hp⟩:=hrel;have HA:Hid (gk=i∧Bz w wr H p gg cap2 l n i∧zCK l n l.length=zCK l n i):=⟨hgk,hZ,hp⟩
  have y3:wr.cell? ⟨p,0,none⟩=some (.slice (some ⟨gg,0,none⟩) (l.length+1) cap2):=by unfold cell?;rw[hZ.blk];rfl
  have fin:zCK l n i=i->zNB wr H p (zFZ l n)∧Keep H H w wr∧Stay w wr:=fun e=>by
   refine⟨⟨_,hZ.blk,?_,hpH,hZ.lt⟩,hZ.keep,hZ.stay⟩;have hr:=hZ.row;rw[show i=zCK l n l.length by rw[hp,e]] at hr;have e2:l.length+1=(zFZ l n).length:=(zGc _ _ _).symm;rw[e2] at hr ⊢;exact Row.ownI hr
  have FN:=vl fin;clear fin;cases i with
  |zero=>
   clear hgk hZ hp;go_wp2;go_end0;exact⟨rfl,FN.out rfl⟩
  |succ i=>
   obtain⟨g1,g2,g3,g4⟩:=hZ.row.at (by omega)
   have e0:(zCs l n (i+1)).getD i 0=l.getD i 0:=by rw[zDG l n (i+1) i hi,if_pos (by omega)]
   have y4:wr.cell? ⟨gg,i,none⟩=some (.int .i64 (l.getD i 0)):=by rw[<-e0];exact g3 i (by omega)
   have y5:=g3 (i+1) (by omega);have z4:=g4 i;have z5:=g4 (i+1);have HP:Hid (zCK l n (i+1)=if l.getD i 0>n then zCK l n i else i+1):=rfl;have hgp:gg≠p:=fun e=>zL hZ.row hZ.blk (by decide) (by rw[<-e];rfl);have hle:=zMn l n i;have i1:(0:Int)<((i+1:Nat):Int):=by omega
   have i2:(i:Int)<((l.length+1:Nat):Int):=by omega
   have i3:((i+1:Nat):Int)<((l.length+1:Nat):Int):=by omega
   have ew:IntKind.i64.wrap (((i+1:Nat):Int)-1)=(i:Int):=by rw[zAQ _ (by omega) (by omega)];omega
   have HST:=vl <| hZ.step hi;clear hgk hZ hp e0 g1 g2 g3 g4;generalize l.getD i 0=x at *;generalize (zCs l n (i+1)).getD (i+1) 0=x2 at *;by_cases hx:x>n
   ·have HP2:Hid (zCK l n (i+1)=zCK l n i):=by show _=_;rw[HP.out,if_pos hx]
    go_wp2;go_region;obtain⟨w5,hw5,H5,q3,q4,q5⟩:∃w5,w5=(wr.setCell ⟨gg,i+1,none⟩ (.int .i64 x)).drew∧Hid (Bz w (w5.setCell ⟨gg,i,none⟩ (.int .i64 n)) H p gg cap2 l n i)∧w5.cell? ⟨p,0,none⟩=some (.slice (some ⟨gg,0,none⟩) (l.length+1) cap2)∧w5.cell? ⟨gg,i,none⟩=some (.int .i64 x)∧w5.frozen? ⟨gg,i,none⟩=false:=by
     have hb:(wr.setCell ⟨gg,i+1,none⟩ (.int .i64 x)).heap[p]? =wr.heap[p]? :=lJ _ _ _ _ (Ne.symm hgp);refine⟨_,rfl,HST.out.drewed,(cell?_of_block hb).trans y3,?_,?_⟩
     ·show(wr.setCell ⟨gg,i+1,none⟩ (.int .i64 x)).cell? ⟨gg,i,none⟩=_
      rw[World.cell?_setCell_other]
      ·exact y4
      ·intro e
       injection e with _ e _;omega
     ·show(wr.setCell ⟨gg,i+1,none⟩ (.int .i64 x)).frozen? ⟨gg,i,none⟩=_
      simpa using z4
    rw[<-hw5];clear hw5 y3 y4 y5 z4 z5;go_wp2;go_roundg i
    case measure=>rw[HA.out.1];omega
    case rel=>exact⟨i,rfl,by omega,by go_num,H5.out,by rw[HA.out.2.2,HP2.out]⟩
   ·have HP2:Hid (zCK l n (i+1)=i+1):=by show _=_;rw[HP.out,if_neg hx]
    go_wp2;go_end0;exact⟨rfl,FN.out HP2.out⟩
def zL7 (l:List Int)(r:Int×Int):List Int:=zFZ (zFZ l r.1) (r.2+1)
def inR (l:List Int)(rs:List (Int×Int)):List Int:=rs.foldl zL7 l
def xI (sets:List Cs):List Int:=sets.foldl (fun l s=>inR l s.ranges) [0,55296,57344,1114112]
theorem zCP {α β:Type}(f:β->α->β)(b:β)(l:List α)(d:α)(k:Nat)(hk:k<l.length):(l.take (k+1)).foldl f b=f ((l.take k).foldl f b) (l.getD k d):=by
 rw[List.take_add_one,List.foldl_append,lW,lV hk];rfl
theorem zFj (l:List Int)(n:Int):(zFZ l n).length=l.length+1:=zGc _ _ _
theorem zJS (l:List Int)(rs:List (Int×Int)):(inR l rs).length=l.length+2*rs.length:=by
 unfold inR;induction rs generalizing l with
 |nil=>simp
 |cons r rs ih=>
  rw[List.foldl_cons,ih];unfold zL7;rw[zFj,zFj,gY];omega
def yC:List Cs->Nat
 |[]=>0
 |s::l=>s.ranges.length+yC l
theorem zFB (sets:List Cs)(l:List Int):(sets.foldl (fun l s=>inR l s.ranges) l).length=l.length+2*yC sets:=by
 induction sets generalizing l with
 |nil=>simp[yC]
 |cons s sets ih=>
  rw[List.foldl_cons,ih,zJS];simp only[yC];omega
theorem zEa (sets:List Cs)(j:Nat)(hj:j<sets.length):yC (sets.take j)+(sets.getD j ⟨[],false⟩).ranges.length<=yC sets:=by
 induction sets generalizing j with
 |nil=>simp at hj
 |cons s sets ih=>
  cases j with
  |zero=>simp[yC]
  |succ j=>
   have:=ih j (by simpa using hj);simp only[List.take_succ_cons,yC,List.getD_cons_succ];omega
structure Bo (w wr:World)(l:List Int):Prop where
 bd:zNB wr (w.heap.size+1) (w.heap.size+2) l
 res:wr.heap[w.heap.size]? =some (.cells #[.slice none 0 0] 239)
 keep:Grew w wr
theorem Bo.grown {w wr w2:World}{l:List Int}(h:Bo w wr l)(hk:Grew wr w2):Bo w w2 l:=by
 obtain⟨v,hb⟩:=h.bd;have hl:=hb.lt;exact⟨⟨v,(hk.block _ hl (kJ hl)).trans hb.blk,zJ hb.own hk,hb.pH,lZ hl hk.size⟩,(hk.block _ (by omega) (by omega)).trans h.res,h.keep.trans (hk.lower (by omega) (by omega))⟩
theorem Bo.add {w wr:World}{l:List Int}(h:Bo w wr l)(hl:l.length<=1000000000000)(n:Int):
  Calls prog 183 #[.pointer (some ⟨w.heap.size+2,0,none⟩),.int .i64 n] wr fun e w'=>e=.returned (.tuple #[])∧Bo w w' (zFZ l n)∧wr.heap.size<=w'.heap.size∧Stay wr w':=by
 obtain⟨v,hb⟩:=h.bd;refine(zJy wr _ _ v l hb hl n).mono ?_;rintro e w2 ⟨rfl,hb2,hk,hs⟩;exact⟨rfl,⟨hb2,(hk.block _ (by omega) (by omega)).trans h.res,h.keep.trans (hk.lower (by omega) (by omega))⟩,hk.size,hs⟩
theorem Bo.start (w:World):Bo w (((w.alloc (.cells #[.slice none 0 0] 239)).alloc (.cells #[.int .i64 0,.int .i64 55296,.int .i64 57344,.int .i64 1114112] 3)).alloc (.cells #[.slice (some ⟨w.heap.size+1,0,none⟩) 4 4] 239)) [0,55296,57344,1114112]:=by
 obtain⟨w1,hw1⟩:∃w1,w1=w.alloc (.cells #[.slice none 0 0] 239):=⟨_,rfl⟩
 have h1:w1.heap[w.heap.size]? =some (.cells #[.slice none 0 0] 239):=by rw[hw1];exact gG w _
 have k1:Grew w w1:=by rw[hw1];exact kZ _ _ lQ
 have s1:w1.heap.size=w.heap.size+1:=by rw[hw1];simp
 rw[<-hw1];obtain⟨w2,hw2⟩:∃w2,w2=w1.alloc (.cells #[.int .i64 0,.int .i64 55296,.int .i64 57344,.int .i64 1114112] 3):=⟨_,rfl⟩
 have h2:w2.heap[w.heap.size+1]? =some (.cells #[.int .i64 0,.int .i64 55296,.int .i64 57344,.int .i64 1114112] 3):=by rw[hw2,<-s1];exact gG w1 _
 have k2:Grew w1 w2:=by rw[hw2];exact kZ _ _ lQ
 have s2:w2.heap.size=w.heap.size+2:=by rw[hw2];simp[s1]
 rw[<-hw2];obtain⟨w3,hw3⟩:∃w3,w3=w2.alloc (.cells #[.slice (some ⟨w.heap.size+1,0,none⟩) 4 4] 239):=⟨_,rfl⟩
 have h3:w3.heap[w.heap.size+2]? =some (.cells #[.slice (some ⟨w.heap.size+1,0,none⟩) 4 4] 239):=by rw[hw3,<-s2];exact gG w2 _
 have k3:Grew w2 w3:=by rw[hw3];exact kZ _ _ lQ
 have s3:w3.heap.size=w.heap.size+3:=by rw[hw3];simp[s2]
 rw[<-hw3];refine⟨⟨_,h3,zJ ⟨rfl,.inr ⟨w.heap.size+1,4,#[.int .i64 0,.int .i64 55296,.int .i64 57344,.int .i64 1114112],rfl,by omega,h2,lQ,by unfold maxLen;omega,rfl,rfl⟩⟩ k3,by omega,by omega⟩,?_,(k1.trans (k2.lower (by omega) (by omega))).trans (k3.lower (by omega) (by omega))⟩;exact(k3.block _ (by omega) (by omega)).trans ((k2.block _ (by omega) (by omega)).trans h1)
def Cs.Small (s:Cs):Prop:=∀r∈s.ranges,-4294967296<=r.1∧r.1<=4294967296∧-4294967296<=r.2∧r.2<=4294967296
theorem zEw (w:World)(v:Value)(sets:List Cs)(hS:SetsAt w v sets)(hn:sets.length<=24)(hN:yC sets<=100000000000)(hsm:∀s∈sets,s.Small):
  Calls prog 167 #[v] w fun e w'=>∃u,e=.returned (.agg #[u])∧OwnI w' w.heap.size u (xI sets)∧Grew w w':=by
 obtain⟨ao,cap,rfl,_,_,h3⟩:=hS;have HR:=vl h3;have HSM:Hid (∀i,i<sets.length->(sets.getD i ⟨[],false⟩).Small):=fun i hi=>hsm _ (zR _ i _ hi);have h0:=Bo.start w;have HNN:=vl hN;clear h3 hsm hN;go_in;apply wp_cut;intro K0 J;go_wp2;apply J.out;clear J;apply wp_cut;intro K0 J;go_wp2;apply J.out;clear J;generalize ((w.alloc (.cells #[.slice none 0 0] 239)).alloc (.cells #[.int .i64 0,.int .i64 55296,.int .i64 57344,.int .i64 1114112] 3)).alloc (.cells #[.slice (some ⟨w.heap.size+1,0,none⟩) 4 4] 239)=w1 at *;have H0:=vl h0;clear h0;go_wp2;go_loopg [12] sets.length (fun q i wr=>∃j:Nat,q=sets.length-j∧j<=sets.length∧i=.int .i64 (j:Int)∧Bo w wr (xI (sets.take j)))
 case atStart=>exact⟨0,rfl,lX,rfl,by rw[List.take_zero];exact H0.out⟩
 case round=>
  obtain⟨j,hgk,hj,rfl,hB⟩:=hrel;have HA:Hid (gk=sets.length-j∧Bo w wr (xI (sets.take j))):=⟨hgk,hB⟩
  by_cases hj2:j<sets.length
  ·have i1:(j:Int)<(sets.length:Int):=by omega
   obtain⟨b,o,u,rfl,hb,c0,c1,hr⟩:=HR.out j hj2;have hsmj:=HSM.out j hj2;have y0:=zA c0 hb hB.keep;have y1:=zA c1 hb hB.keep;obtain⟨s,hs⟩:∃s,sets.getD j ⟨[],false⟩=s:=⟨_,rfl⟩
   have hrt:=zEa sets j hj2;rw[hs] at hr y1 hsmj hrt;have HSJ:Hid (sets.getD j ⟨[],false⟩=s∧yC (sets.take j)+s.ranges.length<=yC sets):=⟨hs,hrt⟩
   obtain⟨au,cu,rfl,_,_,hrc⟩:=hr;have HRC:=vl hrc;have HSM2:Hid s.Small:=hsmj;have hlr:s.ranges.length<=100000000000:=by have:=HNN.out;omega
   clear hrc hsmj hs hrt c0 c1 hgk hB;go_wp2;have H1:Hid (Bo w (wr.alloc (.cells #[.slice au s.ranges.length cu,.bool s.others] 161)) (xI (sets.take j))):=HA.out.2.grown (kZ _ _ lQ);generalize wr.alloc (.cells #[.slice au s.ranges.length cu,.bool s.others] 161)=w2 at *;clear y0 y1;go_loopg [19] s.ranges.length (fun q i wt=>∃k:Nat,q=s.ranges.length-k∧k<=s.ranges.length∧i=.int .i64 (k:Int)∧Bo w wt (inR (xI (sets.take j)) (s.ranges.take k)))
   case atStart=>exact⟨0,rfl,lX,rfl,by rw[List.take_zero];exact H1.out⟩
   case round=>
    obtain⟨k,hgk,hk,rfl,hB⟩:=hrel;have HB:Hid (gk=s.ranges.length-k∧Bo w wr (inR (xI (sets.take j)) (s.ranges.take k))):=⟨hgk,hB⟩
    by_cases hk2:k<s.ranges.length
    ·have i2:(k:Int)<(s.ranges.length:Int):=by omega
     obtain⟨br,orr,rfl,hbr,d0,d1⟩:=HRC.out k hk2;have y0:=zA d0 hbr hB.keep;have y1:=zA d1 hbr hB.keep;obtain⟨m1,m2,m3,m4⟩:=HSM2.out _ (zR s.ranges k (0,0) hk2);have HST:Hid (inR (xI (sets.take j)) (s.ranges.take (k+1))=zL7 (inR (xI (sets.take j)) (s.ranges.take k)) (s.ranges.getD k (0,0))):=zCP _ _ _ (0,0) k hk2;have HLEN:Hid ((inR (xI (sets.take j)) (s.ranges.take k)).length+2<=1000000000000):=by
      have h1:=HSJ.out.2;have h2:=HNN.out;have h3:(xI (sets.take j)).length=4+2*yC (sets.take j):=zFB _ _;show _<=_;rw[zJS,h3,List.length_take];omega
     obtain⟨l,hl⟩:∃l,inR (xI (sets.take j)) (s.ranges.take k)=l:=⟨_,rfl⟩
     rw[hl] at HST HLEN HB;clear d0 d1 hgk hB hl;obtain⟨x,hx⟩:∃x,(s.ranges.getD k (0,0)).1=x:=⟨_,rfl⟩
     obtain⟨y,hy⟩:∃y,(s.ranges.getD k (0,0)).2=y:=⟨_,rfl⟩
     have HXY:Hid (zL7 l (s.ranges.getD k (0,0))=zFZ (zFZ l x) (y+1)):=by show _=_;unfold zL7;rw[hx,hy]
     rw[hx] at y0 m1 m2;rw[hy] at y1 m3 m4;clear hx hy;have H2:Hid (Bo w (wr.alloc (.cells #[.int .i64 x,.int .i64 y] 255)) l∧(wr.alloc (.cells #[.int .i64 x,.int .i64 y] 255)).heap[wr.heap.size]? =some (.cells #[.int .i64 x,.int .i64 y] 255)):=⟨HB.out.2.grown (kZ _ _ lQ),gG wr _⟩
     have HC1:Hid (∀wx,Bo w wx l->_):=fun wx h=>h.add (lY (Nat.le_add_right _ 2) HLEN.out) x;have HC2:Hid (∀wx,Bo w wx (zFZ l x)->_):=fun wx h=>h.add (by rw[zFj];have:=HLEN.out;omega) (y+1);go_wp2_with (first|(go_at_call 183;first|(refine (HC2.out _ hb5).mono ?_;rintro e w6 ⟨rfl,hb6,-,-⟩)|(refine (HC1.out _ H2.out.1).mono ?_;rintro e w5 ⟨rfl,hb5,hs5,hst5⟩;have z1:w5.cell? ⟨wr.heap.size,1,none⟩=some (.int .i64 y):=(by have h:=hst5 _ _ _ H2.out.2 (by decide) (by decide);unfold cell?;rw[h];rfl))))
     go_roundg (s.ranges.length-(k+1))
     case measure=>rw[HB.out.1];omega
     case rel=>exact⟨k+1,rfl,by omega,by go_num,by rw[HST.out,HXY.out];exact hb6⟩
    ·have i2:(s.ranges.length:Int)<=(k:Int):=by omega
     have HZ:Hid (Bo w wr (xI (sets.take (j+1)))):=by
      have h:=hB;have et:s.ranges.take k=s.ranges:=List.take_of_length_le (by omega);rw[et] at h;have e:xI (sets.take (j+1))=inR (xI (sets.take j)) s.ranges:=by
       rw[<-HSJ.out.1];exact zCP _ _ _ ⟨[],false⟩ j hj2
      show Bo _ _ _;rw[e];exact h
     clear hgk hB;go_wp2;go_roundg (sets.length-(j+1))
     case measure=>rw[HA.out.1];omega
     case rel=>exact⟨j+1,rfl,by omega,by go_num,HZ.out⟩
  ·have i1:(sets.length:Int)<=(j:Int):=by omega
   have HZ:Hid (Bo w wr (xI sets)):=by
    have h:=hB;rw[List.take_of_length_le (by omega)] at h;exact h
   obtain⟨v,hb⟩:=HZ.out.bd;obtain⟨y0,-⟩:=hb.cell;obtain⟨av,cv,rfl⟩:=hb.own.form;have hres:=HZ.out.res;have x0:wr.cell? ⟨w.heap.size,0,none⟩=some (.slice none 0 0):=by unfold cell?;rw[hres];rfl
   have xf:wr.frozen? ⟨w.heap.size,0,none⟩=false:=by unfold frozen?;rw[hres];rfl
   have HO:Hid (OwnI wr (w.heap.size+1) (.slice av (xI sets).length cv) (xI sets)):=hb.own;clear hgk hB hb hres;go_wp2;refine bodyPost_ret (v:=.agg #[.slice av (xI sets).length cv]) (by simp[results,results167,go_sem, *]) rfl ⟨_,rfl,qX (H:=w.heap.size+1) (zX HO.out (by omega)) (by omega),HZ.out.keep.trans (zN _ _ _ _ lQ)⟩
section
structure Aw (w:World)(H p:Nat)(lv tv sv:Value)(a:Ar):Prop where
 blk:w.heap[p]? =some (.cells #[lv,tv,sv] 172)
 lows:OwnI w H lv a.lows
 letters:OwnI w H tv a.letters
 sets:OwnI w H sv a.sets
 ne1:∀g,lv.ownBlock=some g->some g≠tv.ownBlock
 ne2:∀g,lv.ownBlock=some g->some g≠sv.ownBlock
 ne3:∀g,tv.ownBlock=some g->some g≠sv.ownBlock
 pH:p<H
 lt:H<=w.heap.size
section
variable {w w2:World} {H p:Nat} {lv tv sv:Value} {a:Ar}
theorem Aw.grown (h:Aw w H p lv tv sv a)(hk:Grew w w2):Aw w2 H p lv tv sv a:=by
 have h1:=h.pH;have h2:=h.lt;exact⟨(hk.block _ (by omega) (by omega)).trans h.blk,zJ h.lows hk,zJ h.letters hk,zJ h.sets hk,h.ne1,h.ne2,h.ne3,h.pH,lY h2 hk.size⟩
theorem Aw.cells (h:Aw w H p lv tv sv a):w.cell? ⟨p,0,none⟩=some lv∧w.cell? ⟨p,1,none⟩=some tv∧w.cell? ⟨p,2,none⟩=some sv∧∀i,w.frozen? ⟨p,i,none⟩=false:=by
 refine⟨?_,?_,?_,fun i=>?_⟩
 all_goals first|(unfold cell?;rw[h.blk];rfl)|(unfold frozen?;rw[h.blk];simp)
theorem yV {w:World}{H g cap n m:Nat}{v u:Value}{ys:List Value}{e z:Nat}(hu:w.ownsRow H e z u m ys)(hne:∀g,v.ownBlock=some g->some g≠u.ownBlock)(hat:v.ownBlock=some g∨w.heap.size<=g):∀k,(Value.slice (some ⟨g,0,none⟩) n cap).ownBlock=some k->some k≠u.ownBlock:=by
 intro k hk e;have e1:g=k:=by simpa[Value.ownBlock] using hk
 subst e1;rcases hat with ha|ha
 ·exact hne g ha e
 ·have:=(hu.lt g e.symm).2
  omega
theorem zCj {u v:Value}(h:∀g,u.ownBlock=some g->some g≠v.ownBlock):∀g,v.ownBlock=some g->some g≠u.ownBlock:=fun g hg e=>h g e.symm hg.symm
theorem Aw.lows_app {o:Obj}{g cap:Nat}{x:Int}(h:Aw w H p lv tv sv a)(hown:w2.ownsRow H 3 1 (.slice (some ⟨g,0,none⟩) (a.lows.length+1) cap) (a.lows.length+1) ((a.lows.map fun x=>.int .i64 x)++[.int .i64 x]))(hg:(w.alloc o).grownBy w2 lv.ownBlock)(hat:lv.ownBlock=some g∨w.heap.size<=g):
  Aw (w2.setCell ⟨p,0,none⟩ (.slice (some ⟨g,0,none⟩) (a.lows.length+1) cap)) H p (.slice (some ⟨g,0,none⟩) (a.lows.length+1) cap) tv sv {a with lows:=a.lows++[x]}∧Keep H p w (w2.setCell ⟨p,0,none⟩ (.slice (some ⟨g,0,none⟩) (a.lows.length+1) cap)):=by
 have hpH:=h.pH;have hlt:=h.lt;have hbl:∀j,j<H->w2.heap[j]? =w.heap[j]? :=fun j hj=>(hg.block j (by simp;omega) fun e=>by have:=(h.lows.lt j e.symm).1;omega).trans (lG _ _ _ (by omega));have hb:=(hbl p hpH).trans h.blk;have hsz:w.heap.size<=w2.heap.size:=lY (by simp) hg.size;refine⟨⟨?_,zX (OwnI.snoc hown) h.pH,zX (zP hg h.letters (fun g hg e=>h.ne1 g e.symm hg.symm)) h.pH,zX (zP hg h.sets (fun g hg e=>h.ne2 g e.symm hg.symm)) h.pH,yV h.letters h.ne1 hat,yV h.sets h.ne2 hat,h.ne3,hpH,by rw[zC];omega⟩,⟨hg.os,hg.output,by rw[zC];exact hsz,fun k h1 h2=>(lJ _ _ _ _ h2).trans (hbl k h1)⟩⟩;simp[setCell,lU,hb]
theorem Aw.letters_app {o:Obj}{g cap:Nat}{x:Int}(h:Aw w H p lv tv sv a)(hown:w2.ownsRow H 3 1 (.slice (some ⟨g,0,none⟩) (a.letters.length+1) cap) (a.letters.length+1) ((a.letters.map fun x=>.int .i64 x)++[.int .i64 x]))(hg:(w.alloc o).grownBy w2 tv.ownBlock)(hat:tv.ownBlock=some g∨w.heap.size<=g):
  Aw (w2.setCell ⟨p,1,none⟩ (.slice (some ⟨g,0,none⟩) (a.letters.length+1) cap)) H p lv (.slice (some ⟨g,0,none⟩) (a.letters.length+1) cap) sv {a with letters:=a.letters++[x]}∧Keep H p w (w2.setCell ⟨p,1,none⟩ (.slice (some ⟨g,0,none⟩) (a.letters.length+1) cap)):=by
 have hpH:=h.pH;have hlt:=h.lt;have hbl:∀j,j<H->w2.heap[j]? =w.heap[j]? :=fun j hj=>(hg.block j (by simp;omega) fun e=>by have:=(h.letters.lt j e.symm).1;omega).trans (lG _ _ _ (by omega));have hb:=(hbl p hpH).trans h.blk;have hsz:w.heap.size<=w2.heap.size:=lY (by simp) hg.size;refine⟨⟨?_,zX (zP hg h.lows h.ne1) h.pH,zX (OwnI.snoc hown) h.pH,zX (zP hg h.sets (fun g hg e=>h.ne3 g e.symm hg.symm)) h.pH,zCj (yV h.lows (fun g hg e=>h.ne1 g e.symm hg.symm) hat),h.ne2,yV h.sets h.ne3 hat,hpH,by rw[zC];omega⟩,⟨hg.os,hg.output,by rw[zC];exact hsz,fun k h1 h2=>(lJ _ _ _ _ h2).trans (hbl k h1)⟩⟩;simp[setCell,lU,hb]
theorem Aw.sets_app {o:Obj}{g cap:Nat}{x:Int}(h:Aw w H p lv tv sv a)(hown:w2.ownsRow H 3 1 (.slice (some ⟨g,0,none⟩) (a.sets.length+1) cap) (a.sets.length+1) ((a.sets.map fun x=>.int .i64 x)++[.int .i64 x]))(hg:(w.alloc o).grownBy w2 sv.ownBlock)(hat:sv.ownBlock=some g∨w.heap.size<=g):
  Aw (w2.setCell ⟨p,2,none⟩ (.slice (some ⟨g,0,none⟩) (a.sets.length+1) cap)) H p lv tv (.slice (some ⟨g,0,none⟩) (a.sets.length+1) cap) {a with sets:=a.sets++[x]}∧Keep H p w (w2.setCell ⟨p,2,none⟩ (.slice (some ⟨g,0,none⟩) (a.sets.length+1) cap)):=by
 have hpH:=h.pH;have hlt:=h.lt;have hbl:∀j,j<H->w2.heap[j]? =w.heap[j]? :=fun j hj=>(hg.block j (by simp;omega) fun e=>by have:=(h.sets.lt j e.symm).1;omega).trans (lG _ _ _ (by omega));have hb:=(hbl p hpH).trans h.blk;have hsz:w.heap.size<=w2.heap.size:=lY (by simp) hg.size;refine⟨⟨?_,zX (zP hg h.lows h.ne2) h.pH,zX (zP hg h.letters h.ne3) h.pH,zX (OwnI.snoc hown) h.pH,h.ne1,zCj (yV h.lows (fun g hg e=>h.ne2 g e.symm hg.symm) hat),zCj (yV h.letters (fun g hg e=>h.ne3 g e.symm hg.symm) hat),hpH,by rw[zC];omega⟩,⟨hg.os,hg.output,by rw[zC];exact hsz,fun k h1 h2=>(lJ _ _ _ _ h2).trans (hbl k h1)⟩⟩;simp[setCell,lU,hb]
end
end
def Ar.look (a:Ar)(x:Int):Nat:=a.sets.findIdx (·==x)
def Ar.seen (a:Ar)(x:Int):Ar:=if a.look x<a.sets.length then a else{a with sets:=a.sets++[x]}
def AwIs (w:World)(H p:Nat)(a:Ar):Prop:=∃lv tv sv,Aw w H p lv tv sv a
theorem zMw (a:Ar)(x:Int)(j:Nat)(hj:j<a.sets.length)(h:a.sets.getD j 0=x)(hn:∀i,i<j->a.sets.getD i 0≠x):a.look x=j:=by
 unfold Ar.look;rw[List.findIdx_eq hj];rw[lW,lV hj] at h;refine⟨by simpa using h,fun i hi=>?_⟩;have:=hn i hi;rw[lW,lV (by omega)] at this;simpa using this
theorem zKz (a:Ar)(x:Int)(hn:∀i,i<a.sets.length->a.sets.getD i 0≠x):a.look x=a.sets.length:=by
 unfold Ar.look;rw[List.findIdx_eq_length];intro y hy;obtain⟨i,hi,rfl⟩:=List.getElem_of_mem hy;have:=hn i hi;rw[lW,lV hi] at this;simpa using this
theorem zFd (w:World)(H p:Nat)(a:Ar)(hA:AwIs w H p a)(hl:a.sets.length<=1000000000000)(x:Int):
  Calls prog 168 #[.pointer (some ⟨p,0,none⟩),.int .i64 x] w fun e w'=>e=.returned (.int .i64 (a.look x))∧AwIs w' H p (a.seen x)∧Keep H p w w':=by
 obtain⟨i0,hi0,hz0,hz1,hz2⟩:=info_parts yH;obtain⟨lv,tv,sv,hA⟩:=hA;obtain⟨as_,cs,rfl⟩:=hA.sets.form;obtain⟨y0,y1,y2,f⟩:=hA.cells;have f2:=f 2;have HA:=vl hA;have OR:=vl hA.sets;have hpH:=hA.pH;have hlt:=hA.lt;have HCL:Hid (∀i,i<a.sets.length->∃g,as_=some ⟨g,0,none⟩∧w.cell? ⟨g,i,none⟩=some (.int .i64 (a.sets.getD i 0))):=by
  intro i hi;obtain⟨g,hg⟩:∃g,as_=some ⟨g,0,none⟩:=by
   rcases hA.sets.2 with⟨h,h0⟩|⟨g,_,_,h,_⟩
   ·omega
   ·injection h with h _ _
    exact⟨g,h⟩
  subst hg;exact⟨g,rfl,hA.sets.cell i hi⟩
 have HL1:Hid (∀j,j<a.sets.length->a.sets.getD j 0=x->(∀i,i<j->a.sets.getD i 0≠x)->a.look x=j∧a.seen x=a):=fun j hj h hn=>by
  have e:=zMw a x j hj h hn;exact⟨e,by unfold Ar.seen;rw[e,if_pos hj]⟩
 have HL2:Hid ((∀i,i<a.sets.length->a.sets.getD i 0≠x)->a.look x=a.sets.length∧a.seen x={a with sets:=a.sets++[x]}):=fun hn=>by
  have e:=zKz a x hn;exact⟨e,by unfold Ar.seen;rw[e,if_neg (Nat.lt_irrefl _)]⟩
 go_in;go_wp2;go_loopg [12] a.sets.length (fun q i wr=>∃j:Nat,q=a.sets.length-j∧j<=a.sets.length∧i=.int .i64 (j:Int)∧(∀i,i<j->a.sets.getD i 0≠x)∧wr=w)
 case atStart=>exact⟨0,rfl,lX,rfl,fun i hi=>by omega,rfl⟩
 case round=>
  obtain⟨j,hgk,hj,rfl,hno,hw⟩:=hrel;subst hw;have HB:Hid (gk=a.sets.length-j∧∀i,i<j->a.sets.getD i 0≠x):=⟨hgk,hno⟩
  by_cases hj2:j<a.sets.length
  ·have i1:(j:Int)<(a.sets.length:Int):=by omega
   obtain⟨g,rfl,hc⟩:=HCL.out j hj2;have HL3:Hid (a.sets.getD j 0=x->a.look x=j∧a.seen x=a):=fun h=>HL1.out j hj2 h HB.out.2;have HN3:Hid (a.sets.getD j 0≠x->∀i,i<j+1->a.sets.getD i 0≠x):=fun h i hi=>by
    by_cases e:i=j
    ·rw[e];exact h
    ·exact HB.out.2 i (by omega)
   generalize a.sets.getD j 0=y at *;by_cases hy:y=x
   ·have HR:=HL3.out hy
    have HR2:=vl HR;have hy2:(y==x)=true:=by simp[hy]
    go_wp2;go_ret;exact⟨by rw[HR2.out.1];rfl,by rw[HR2.out.2];exact⟨_,_,_,HA.out⟩,⟨rfl,rfl,lQ,fun _ _ _=>rfl⟩⟩
   ·have HR:=vl <| HN3.out hy
    have hy2:(y==x)=false:=by simp[hy]
    go_wp2;go_roundg (a.sets.length-(j+1))
    case measure=>rw[HB.out.1];omega
    case rel=>exact⟨j+1,rfl,by omega,by go_num,HR.out,rfl⟩
  ·have i1:(a.sets.length:Int)<=(j:Int):=by omega
   have HR:=vl <| HL2.out fun i hi=>hno i (by omega);have hHs:=hlt;go_wp2_with (first|(at_builtin;refine wpList_append_lies _ rfl _ _ 45 rfl (H) 3 i0 (.int .i64 0) 1 8 underlying45 hi0 hz0 hz1 hz2 rfl (by decide) _ _ _ rfl (OR.out.alloc _) ⟨wr.heap.size,0,none⟩ 1 1 [.int .i64 x] rfl rfl (cell_one_new _ _ _) (by intro u hu;simp at hu;subst hu;rfl) (by decide) (by unfold maxLen;omega) (by omega) (by simp;omega) _ rfl ?_;intro gg cap2 w2 hown hgrow hat hlt2;have hPB:=(hgrow.block p (by simp;omega) (fun e=>by have:=(OR.out.lt _ e.symm).1;omega)).trans (lG _ _ _ (by omega));have t2:=(cell?_of_block hPB).trans y2;have g2:=(frozen?_of_block hPB).trans f2;have A2:=Aw.sets_app HA.out hown hgrow (by rcases hat with ha|ha;exact .inl ha;right;rw[ha];simp);have t3:=A2.1.cells.2.2.1))
   go_ret;refine⟨?_,by rw[HR.out.2];exact⟨_,_,_,A2.1⟩,A2.2⟩;rw[HR.out.1]
   first|rfl|(simp;done)|(show _=_;congr 2;omega)
theorem AwIs.grown {w w2:World}{H p:Nat}{a:Ar}(h:AwIs w H p a)(hk:Grew w w2):AwIs w2 H p a:=by
 obtain⟨lv,tv,sv,h⟩:=h;exact⟨lv,tv,sv,h.grown hk⟩
def Ar.turns (a:Ar)(l:Nat):Bool:=a.letters.length==0||(a.letters.getD (a.letters.length-1) 0 != (l:Int))
def Ar.step (sets:List Cs)(a:Ar)(low:Int):Ar:=
 if(a.seen (qK sets low)).turns (a.look (qK sets low)) then{a.seen (qK sets low) with lows:=(a.seen (qK sets low)).lows++[low],letters:=(a.seen (qK sets low)).letters++[(a.look (qK sets low):Int)]} else a.seen (qK sets low)
def qR (sets:List Cs)(j:Nat):Ar:=((xI sets).take j).foldl (Ar.step sets) ⟨[],[],[]⟩
def xY (sets:List Cs):Ar:=(xI sets).foldl (Ar.step sets) ⟨[],[],[]⟩
theorem zBS (sets:List Cs)(j:Nat)(hj:j<(xI sets).length):qR sets (j+1)=(qR sets j).step sets ((xI sets).getD j 0):=zCP _ _ _ 0 j hj
theorem zE7 (sets:List Cs)(j:Nat)(hj:(xI sets).length<=j):qR sets j=xY sets:=by
 unfold qR;rw[List.take_of_length_le hj];rfl
theorem zES (a:Ar)(x:Int):(a.seen x).lows=a.lows∧(a.seen x).letters=a.letters∧(a.seen x).sets.length<=a.sets.length+1:=by
 unfold Ar.seen;split
 ·exact⟨rfl,rfl,by omega⟩
 ·exact⟨rfl,rfl,by simp⟩
theorem zIP (sets:List Cs)(a:Ar)(low:Int)(n:Nat)(h:a.lows.length=a.letters.length∧a.lows.length<=n∧a.sets.length<=n):(a.step sets low).lows.length=(a.step sets low).letters.length∧(a.step sets low).lows.length<=n+1∧(a.step sets low).sets.length<=n+1:=by
 obtain⟨e1,e2,e3⟩:=zES a (qK sets low);unfold Ar.step;split
 ·show((a.seen _).lows++[low]).length=((a.seen _).letters++[_]).length∧((a.seen _).lows++[low]).length<=n+1∧(a.seen _).sets.length<=n+1
  rw[e1,e2,kX,kX];simp only[List.length_singleton];omega
 ·rw[e1,e2]
  omega
theorem zC9 (sets:List Cs)(j:Nat)(hj:j<=(xI sets).length):(qR sets j).lows.length=(qR sets j).letters.length∧(qR sets j).lows.length<=j∧(qR sets j).sets.length<=j:=by
 induction j with
 |zero=>exact⟨rfl,lQ,lQ⟩
 |succ j ih=>
  rw[zBS sets j (by omega)];exact zIP sets _ _ j (ih (by omega))
theorem Ar.step_yes (sets:List Cs)(a:Ar)(low:Int)(h:(a.seen (qK sets low)).turns (a.look (qK sets low))=true):a.step sets low={a.seen (qK sets low) with lows:=(a.seen (qK sets low)).lows++[low],letters:=(a.seen (qK sets low)).letters++[(a.look (qK sets low):Int)]}:=by
 unfold Ar.step;rw[if_pos h]
theorem Ar.step_no (sets:List Cs)(a:Ar)(low:Int)(h:(a.seen (qK sets low)).turns (a.look (qK sets low))=false):a.step sets low=a.seen (qK sets low):=by
 unfold Ar.step;rw[h];rfl
end Go.Proofs.YtbjcfkdnjaiclaaGreat
