import Derived.Deep.DrawnRows
import Derived.Deep.RegionHeld3
import Derived.Deep.RegionLaw
import Derived.Test.YtbjcfkdnjaiclaaGreatB0
import Derived.Test.YtbjcfkdnjaiclaaGreatB27
/- Parts of the proof. -/
set_option linter.unusedVariables false
set_option linter.unusedSimpArgs false
set_option maxHeartbeats 4000000
set_option maxRecDepth 100000
namespace Go.Proofs.YtbjcfkdnjaiclaaGreat
open Go.RowKit Go.Proofs.Tryz Go.World
def xU (l:List (ByteArray×List Tr)):Nat->Nat
 |0=>0
 |j+1=>xU l j+(l.getD j (⟨#[]⟩,[])).2.length
theorem zB4 (l l':List (ByteArray×List Tr))(j:Nat)(h:∀i,i<j->(l.getD i (⟨#[]⟩,[])).2.length=(l'.getD i (⟨#[]⟩,[])).2.length):xU l j=xU l' j:=by
 induction j with
 |zero=>rfl
 |succ j ih=>
  show xU l j+_=xU l' j+_;rw[ih fun i hi=>h i (by omega),h j (by omega)]
def zBJ (sh:Sh):Prop:=xU sh.modes sh.modes.length=sh.acts.length∧∀a∈sh.acts,a<4
theorem zHd (l:List (ByteArray×List Tr))(k:Nat)(x:ByteArray×List Tr)(hx:x.2.length=(l.getD k (⟨#[]⟩,[])).2.length+1)(j:Nat)(hk:k<j)(hj:j<=l.length):xU (l.set k x) j=xU l j+1:=by
 induction j with
 |zero=>omega
 |succ j ih=>
  show xU (l.set k x) j+((l.set k x).getD j (⟨#[]⟩,[])).2.length=xU l j+(l.getD j (⟨#[]⟩,[])).2.length+1;by_cases e:k=j
  ·subst e
   have e1:xU (l.set k x) k=xU l k:=zB4 _ _ k fun i hi=>by rw[lW,lW,List.getElem?_set_ne (by omega)]
   have e2:(l.set k x).getD k (⟨#[]⟩,[])=x:=by rw[lW,List.getElem?_set_self (by omega)];rfl
   rw[e1,e2,hx];omega
  ·have e2:(l.set k x).getD j (⟨#[]⟩,[])=l.getD j (⟨#[]⟩,[]):=by rw[lW,lW,List.getElem?_set_ne e]
   rw[ih (by omega) (by omega),e2];omega
theorem zMS (s:ByteArray):(zA4 s).act<4:=by
 unfold zA4 zHW
 repeat' split
 all_goals (dsimp only;omega)
theorem zGL {sh sh':Sh}{nm:ByteArray}(h:yG sh nm=some sh')(s:zBJ sh):zBJ sh':=by
 unfold yG at h;split at h
 ·cases h
 split at h
 ·cases h
 split at h
 ·have e:=hU h
  subst e;refine⟨?_,s.2⟩;show xU (sh.modes++[(nm,[])]) (sh.modes++[(nm,[])]).length=sh.acts.length;rw[kX];show xU (sh.modes++[(nm,[])]) sh.modes.length+((sh.modes++[(nm,[])]).getD sh.modes.length (⟨#[]⟩,[])).2.length=_;have e1:(sh.modes++[(nm,[])]).getD sh.modes.length (⟨#[]⟩,[])=(nm,[]):=by simp
  have e2:xU (sh.modes++[(nm,[])]) sh.modes.length=xU sh.modes sh.modes.length:=zB4 _ _ _ fun i hi=>by rw[lW,lW,kW hi]
  rw[e1,e2];exact s.1
 ·cases h
theorem zHO {sh sh':Sh}{s:ByteArray}(h:vP sh s=some sh')(hs:zBJ sh):zBJ sh':=by
 unfold vP at h;split at h
 ·split at h
  ·cases h
  split at h
  ·cases h
  split at h
  ·cases hr:vH (qF s 32) sh.defs with
   |none=>rw[hr] at h;cases h
   |some t=>
    rw[hr] at h;have e:=hU h;subst e;exact hs
  ·cases h
 ·cases h
theorem zGK {sh sh':Sh}{nm s:ByteArray}(h:qQ sh nm s=some sh')(hs:zBJ sh):zBJ sh':=by
 unfold qQ at h;split at h
 ·split at h
  ·cases h
  split at h
  ·cases h
  split at h
  ·split at h
   ·rename_i h0 _ _ _
    cases hr:vH (qF s 32) sh.defs with
    |none=>rw[hr] at h;cases h
    |some t=>
     rw[hr] at h;have e:=hU h;subst e;have hac:=zMS (yM s 32);generalize (zA4 (yM s 32))=ac at *;refine⟨?_,fun a ha=>by rcases kU.1 ha with h1|h1;exact hs.2 a h1;rw[kY.1 h1];exact hac⟩;show xU (sh.modes.set (sh.modes.length-1) ((sh.mode (sh.modes.length-1)).1,(sh.mode (sh.modes.length-1)).2++[t])) (sh.modes.set (sh.modes.length-1) _).length=(sh.acts++[ac.act]).length;rw[List.length_set,kX,zHd sh.modes _ _ (by show((sh.mode (sh.modes.length-1)).2++[t]).length=_;rw[kX];rfl) sh.modes.length (by omega) lQ,hs.1];rfl
   ·cases h
  ·cases h
 ·cases h
theorem zGM {sh sh':Sh}{s:ByteArray}(h:xV sh s=some sh')(hs:zBJ sh):zBJ sh':=by
 unfold xV at h;split at h
 ·split at h
  ·exact zGL h hs
  split at h
  ·exact zHO h hs
  ·exact zGK h hs
 ·cases h
theorem zGj:∀f sh n s sh',jJ f sh n s=.inl sh'->zBJ sh->zBJ sh'
 |0,_,_,_,_,h,hs=>by cases h;exact hs
 |f+1,sh,n,s,sh',h,hs=>by
  have h2:(if s.size=0 then .inl sh else if jW s 10 then(match xV sh (yM s 10) with|none=>.inr n|some sh'=>jJ f sh' (n+1) (qF s 10)) else .inr n)=(.inl sh':Sh ⊕ Nat):=h;split at h2
  ·cases h2;exact hs
  split at h2
  ·cases hm:xV sh (yM s 10) with
   |none=>rw[hm] at h2;cases h2
   |some sh1=>
    rw[hm] at h2;exact zGj f sh1 (n+1) _ sh' h2 (zGM hm hs)
  ·cases h2
theorem zHC {s:ByteArray}{sh:Sh}(h:jO s=.inl sh):zBJ sh:=by
 unfold jO at h;split at h
 ·cases h
 cases hn:jJ (s.size+1) Sh.none 1 s with
 |inr n=>rw[hn] at h;cases h
 |inl sh1=>
  rw[hn] at h;have h2:(if sh1.there&&sh1.haveB then(if sh1.fitB then .inl sh1 else .inr (0,4)) else .inr (0,3))=(.inl sh:Sh ⊕ (Nat×Nat)):=h;split at h2
  ·split at h2
   ·cases h2
    exact zGj _ _ _ _ _ hn ⟨rfl,fun a ha=>(List.not_mem_nil ha).elim⟩
   ·cases h2
  ·cases h2
structure SmOk (m:Sm)(mo nr:Nat):Prop where
 one:1<=m.next.length
 few:m.next.length<=mo
 wide:∀row∈m.next,row.length=256∧∀x∈row,0<=x∧x<(m.next.length:Int)
 same:m.rules.length=m.next.length
 rules:∀r∈m.rules,-1<=r∧r<(m.empty.length:Int)
 start:0<=m.start∧m.start<(m.next.length:Int)
 len:m.empty.length=nr
theorem zLA {D:Nat}{rules:List Tr}{mo:Nat}{m:Sm}(h:zDe D rules mo=some m)(f:ModeFacts D rules):SmOk m mo rules.length:=by
 have hl:=zBq D rules rules.length f.cnt;have hok:=f.ok;have hfit:=f.fit;unfold zDe at h;generalize xK D rules rules.length=n at *;cases hs:n.sort mo with
 |none=>rw[hs] at h;cases h
 |some k=>
  rw[hs] at h;obtain⟨kok,-,kru⟩:=zJD hs hok hfit;have h2:(if (yA k n.areas mo).full then none else some ⟨(yA k n.areas mo).next,(yA k n.areas mo).rules,(yA k n.areas mo).of.getD k.start 0,n.empty⟩)=some m:=h;cases hf:(yA k n.areas mo).full with
  |true=>rw[hf] at h2;cases h2
  |false=>
   rw[hf] at h2;have e:=hU h2;obtain⟨t,fi⟩:=zGi k n.areas mo (nr:=(n.rules.length:Int)) (by omega) kru kok.lens hf;have he:n.empty.length=n.rules.length:=by rw[hl.elen,hl.rlen]
   subst e;exact⟨t.one,fi.few,t.wide,fi.same,fun r hr=>by have:=t.rules r hr;show -1<=r∧r<(n.empty.length:Int);rw[he];exact this,zJJ t _,hl.elen⟩
theorem zGh (D:Nat)(sh:Sh)(hF:∀j,j<sh.modes.length->ModeFacts D (sh.mode j).2):∀f j mo ms,xZ D sh f j mo=some ms->j+f<=sh.modes.length->ms.length=f∧(∀i,i<f->∃mo',mo'<=mo∧SmOk (ms.getD i ⟨[],[],0,[]⟩) mo' (sh.mode (j+i)).2.length)∧zO ms f<=mo
 |0,_,_,ms,h,_=>by
  have e:=hU h;subst e;exact⟨rfl,fun i hi=>absurd hi (Nat.not_lt_zero _),lX⟩
 |f+1,j,mo,ms,h,hj=>by
  have h2:(match zDe D (sh.mode j).2 mo with|none=>none|some m=>(xZ D sh f (j+1) (mo-m.next.length)).map (m::·))=some ms:=h;cases hm:zDe D (sh.mode j).2 mo with
  |none=>rw[hm] at h2;cases h2
  |some m=>
   rw[hm] at h2;have ok:=zLA hm (hF j (by omega));have h3:(xZ D sh f (j+1) (mo-m.next.length)).map (m::·)=some ms:=h2;cases hr:xZ D sh f (j+1) (mo-m.next.length) with
   |none=>rw[hr] at h3;cases h3
   |some l=>
    rw[hr] at h3;have e:=hU h3;have e:=e;subst e;obtain⟨a,b,c⟩:=zGh D sh hF f (j+1) _ l hr (by omega);have hst:∀q,zO (m::l) (q+1)=m.next.length+zO l q:=fun q=>by
     induction q with
     |zero=>show 0+m.next.length=m.next.length+0;omega
     |succ q ih=>
      show zO (m::l) (q+1)+((m::l).getD (q+1) ⟨[],[],0,[]⟩).next.length=m.next.length+(zO l q+(l.getD q ⟨[],[],0,[]⟩).next.length)
      rw[ih,show(m::l).getD (q+1) ⟨[],[],0,[]⟩=l.getD q ⟨[],[],0,[]⟩ from rfl];omega
    refine⟨by rw[gY,a],fun i hi=>?_,?_⟩
    ·cases i with
     |zero=>exact⟨mo,lQ,ok⟩
     |succ i=>
      obtain⟨mo',h5,h6⟩:=b i (by omega);refine⟨mo',by omega,?_⟩;rw[show j+(i+1)=j+1+i by omega];exact h6
    ·rw[hst]
     have:=ok.few;omega
theorem zHI (D:Nat)(sh:Sh)(ms:List Sm)(h:∀i,i<sh.modes.length->(ms.getD i ⟨[],[],0,[]⟩).empty.length=(sh.mode i).2.length)(j:Nat)(hj:j<=sh.modes.length):zQ ms j=xU sh.modes j:=by
 induction j with
 |zero=>rfl
 |succ j ih=>
  show zQ ms j+(ms.getD j ⟨[],[],0,[]⟩).empty.length=xU sh.modes j+(sh.modes.getD j (⟨#[]⟩,[])).2.length;rw[ih (by omega),h j (by omega)];rfl
theorem zLz {w:World}{D:Nat}{mv av pv:Value}{sh:Sh}(h:SpecIs w D mv av pv sh)(hsum:zBJ sh){most:Nat}(hmost:most<=200){ms:List Sm}(hm:xZ D sh sh.modes.length 0 most=some ms):ModesOk ms∧zQ ms ms.length=sh.acts.length:=by
 obtain⟨a,b,c⟩:=zGh D sh (fun j hj=>h.facts hj) sh.modes.length 0 most ms hm (by omega);have hh:=h.have_;unfold Sh.haveB at hh;obtain⟨hp,hr⟩:=of_decide_eq_true hh;have hg:∀i (hi:i<ms.length),ms.getD i ⟨[],[],0,[]⟩=ms[i]:=fun i hi=>by rw[lW,lV hi];rfl
 have ok:∀i (hi:i<ms.length),∃mo,SmOk ms[i] mo (sh.mode i).2.length:=fun i hi=>by
  obtain⟨mo,-,h1⟩:=b i (by omega);rw[hg i hi,Nat.zero_add] at h1;exact⟨mo,h1⟩
 have hrt:zQ ms ms.length=sh.acts.length:=by
  rw[a,zHI D sh ms (fun i hi=>by obtain⟨mo,h1⟩:=ok i (by omega);rw[hg i (by omega)];exact h1.len) _ lQ];exact hsum.1
 have h1:1<=sh.acts.length:=by
  have h3:=h.few 0 hp;have h4:=hr 0 hp;omega
 refine⟨⟨by omega,by have:=h.ok.modes;omega,fun i hi=>?_,fun i hi row hrow=>?_,fun i hi=>?_,fun i hi=>?_,by rw[a];omega,by omega,by have:=h.ok.acts;omega⟩,hrt⟩
 ·obtain⟨mo,h5⟩:=ok i hi;exact h5.one
 ·obtain⟨mo,h5⟩:=ok i hi
  obtain⟨h6,h7⟩:=h5.wide row hrow;refine⟨h6,fun q hq=>h7 _ ?_⟩;rw[lW,lV (by omega:q<row.length)];exact List.getElem_mem _
 ·obtain⟨mo,h5⟩:=ok i hi;exact⟨h5.same,h5.rules⟩
 ·obtain⟨mo,h5⟩:=ok i hi;exact h5.start
def yJ (st ho:Int):Bool:=decide (st<1)||decide (200<st)||decide (ho<1)||decide (64<ho)
def zAP (s:ByteArray)(st ho:Int):(List Sm×Sh) ⊕ (Nat×Nat):=
 if yJ st ho then .inr (0,6) else
 match jO s with
 | .inr e=>.inr e
 | .inl sh=>match xZ (1+6*s.size) sh sh.modes.length 0 st.toNat with
  |none=>.inr (0,5)
  |some ms=>.inl (ms,sh)
def zIE (w:World)(n k:Nat)(e:Ending)(w':World):Prop:=Grew w w'∧e=.returned (.tuple #[.pointer none,.agg #[.slice none 0 0,.slice none 0 0,.slice none 0 0,.int .i64 0,.bool false,.int .i64 (n:Int)],.int .i64 (k:Int)])
theorem qN (w:World)(q i:Nat)(v:Value)(c:Array Value)(t:TypeId)(h:w.heap[q]? =some (.cells c t)):∃w3,w3=w.setCell ⟨q,i,none⟩ v∧w3.heap[q]? =some (.cells (c.setIfInBounds i v) t)∧w3.heap.size=w.heap.size∧w3.os=w.os∧w3.output=w.output∧∀k,k≠q->w3.heap[k]? =w.heap[k]? :=⟨_,rfl,by simp[setCell,lU,h],by rw[zC],rfl,rfl,fun k hk=>lJ _ _ _ _ hk⟩
theorem zDC (w w2:World)(v0 v1 v2 v3 v4 v5:Value)(hB:w2.heap[w.heap.size+1]? =some (.cells #[.slice none 0 0,.slice none 0 0,.slice none 0 0,.int .i64 0,.bool false,.int .i64 0] 30))(hk:Grew w w2):
  ∃w3:World,w3=((((((w2.setCell ⟨w.heap.size+1,0,none⟩ v0).setCell ⟨w.heap.size+1,1,none⟩ v1).setCell ⟨w.heap.size+1,2,none⟩ v2).setCell ⟨w.heap.size+1,3,none⟩ v3).setCell ⟨w.heap.size+1,4,none⟩ v4).setCell ⟨w.heap.size+1,5,none⟩ v5)∧w3.cell? ⟨w.heap.size+1,0,none⟩=some v0∧w3.cell? ⟨w.heap.size+1,1,none⟩=some v1∧w3.cell? ⟨w.heap.size+1,2,none⟩=some v2∧w3.cell? ⟨w.heap.size+1,3,none⟩=some v3∧w3.cell? ⟨w.heap.size+1,4,none⟩=some v4∧w3.cell? ⟨w.heap.size+1,5,none⟩=some v5∧Hid (Grew w w3∧w3.heap.size=w2.heap.size∧w3.os=w2.os∧w3.output=w2.output∧∀k,k≠w.heap.size+1->w3.heap[k]? =w2.heap[k]?):=by
 obtain⟨a1,e1,c1,z1,o1,u1,n1⟩:=qN w2 (w.heap.size+1) 0 v0 _ _ hB;have b1:=c1;obtain⟨a2,e2,c2,z2,o2,u2,n2⟩:=qN a1 (w.heap.size+1) 1 v1 _ _ b1;have b2:=c2;obtain⟨a3,e3,c3,z3,o3,u3,n3⟩:=qN a2 (w.heap.size+1) 2 v2 _ _ b2;have b3:=c3;obtain⟨a4,e4,c4,z4,o4,u4,n4⟩:=qN a3 (w.heap.size+1) 3 v3 _ _ b3;have b4:=c4;obtain⟨a5,e5,c5,z5,o5,u5,n5⟩:=qN a4 (w.heap.size+1) 4 v4 _ _ b4;have b5:=c5;obtain⟨a6,e6,c6,z6,o6,u6,n6⟩:=qN a5 (w.heap.size+1) 5 v5 _ _ b5;have b6:a6.heap[w.heap.size+1]? =some (.cells #[v0,v1,v2,v3,v4,v5] 30):=c6;have hne:∀i,i≠w.heap.size+1->a6.heap[i]? =w2.heap[i]? :=fun i hi=>(n6 i hi).trans ((n5 i hi).trans ((n4 i hi).trans ((n3 i hi).trans ((n2 i hi).trans (n1 i hi)))));have hz:a6.heap.size=w2.heap.size:=by omega
 have ho:a6.os=w2.os:=o6.trans (o5.trans (o4.trans (o3.trans (o2.trans o1))));have hu:a6.output=w2.output:=u6.trans (u5.trans (u4.trans (u3.trans (u2.trans u1))));refine⟨a6,by rw[e6,e5,e4,e3,e2,e1],?_,?_,?_,?_,?_,?_,hk.trans ⟨ho,hu,by omega,fun k h1 _=>hne k (by omega)⟩,hz,ho,hu,hne⟩
 all_goals (unfold cell?;rw[b6];rfl)
theorem zGJ {w w2:World}{st ho:Int}{fo:Bool}(hk:Keep (w.heap.size+2) (w.heap.size+2) ((w.alloc (.cells #[.int .i64 st,.int .i64 ho,.bool fo] 58)).alloc (.cells #[.slice none 0 0,.slice none 0 0,.slice none 0 0,.int .i64 0,.bool false,.int .i64 0] 30)) w2):w2.heap[w.heap.size+1]? =some (.cells #[.slice none 0 0,.slice none 0 0,.slice none 0 0,.int .i64 0,.bool false,.int .i64 0] 30)∧w2.cell? ⟨w.heap.size,0,none⟩=some (.int .i64 st)∧w2.cell? ⟨w.heap.size,1,none⟩=some (.int .i64 ho)∧w2.cell? ⟨w.heap.size,2,none⟩=some (.bool fo)∧Grew w w2:=by
 have s1:(w.alloc (.cells #[.int .i64 st,.int .i64 ho,.bool fo] 58)).heap.size=w.heap.size+1:=by simp
 have h1:=gG w (.cells #[.int .i64 st,.int .i64 ho,.bool fo] 58);have h2:=gG (w.alloc (.cells #[.int .i64 st,.int .i64 ho,.bool fo] 58)) (.cells #[.slice none 0 0,.slice none 0 0,.slice none 0 0,.int .i64 0,.bool false,.int .i64 0] 30);rw[s1] at h2;have b0:=(hk.block w.heap.size (by omega) (by omega)).trans ((lG _ _ _ (by rw[s1];omega)).trans h1);have b1:=(hk.block (w.heap.size+1) (by omega) (by omega)).trans h2;refine⟨b1,?_,?_,?_,((kZ (H:=w.heap.size) (b:=w.heap.size) _ _ lQ).trans (kZ _ _ (by rw[s1];omega))).trans ⟨hk.os,hk.output,hk.size,fun k h1 h2=>hk.block k (by omega) (by omega)⟩⟩
 all_goals (unfold cell?;rw[b0];rfl)
theorem vZ {w:World}{q:Nat}(h:w.heap[q]? =some (.cells #[.slice none 0 0,.slice none 0 0,.slice none 0 0,.int .i64 0,.bool false,.int .i64 0] 30)):w.cell? ⟨q,0,none⟩=some (.slice none 0 0)∧w.cell? ⟨q,1,none⟩=some (.slice none 0 0)∧w.cell? ⟨q,2,none⟩=some (.slice none 0 0)∧w.cell? ⟨q,3,none⟩=some (.int .i64 0)∧w.cell? ⟨q,4,none⟩=some (.bool false)∧w.cell? ⟨q,5,none⟩=some (.int .i64 0)∧w.frozen? ⟨q,0,none⟩=false∧w.frozen? ⟨q,1,none⟩=false∧w.frozen? ⟨q,2,none⟩=false∧w.frozen? ⟨q,3,none⟩=false∧w.frozen? ⟨q,4,none⟩=false∧w.frozen? ⟨q,5,none⟩=false:=by
 refine⟨?_,?_,?_,?_,?_,?_,?_,?_,?_,?_,?_,?_⟩
 all_goals first|(unfold cell?;rw[h];rfl)|(unfold frozen?;rw[h];rfl)
theorem zGo (w:World)(st ho:Int)(fo:Bool):∃w2,w2=(w.alloc (.cells #[.int .i64 st,.int .i64 ho,.bool fo] 58)).alloc (.cells #[.slice none 0 0,.slice none 0 0,.slice none 0 0,.int .i64 0,.bool false,.int .i64 0] 30)∧Hid (∀w3,Keep (w.heap.size+2) (w.heap.size+2) w2 w3->w3.heap[w.heap.size+1]? =some (.cells #[.slice none 0 0,.slice none 0 0,.slice none 0 0,.int .i64 0,.bool false,.int .i64 0] 30)∧w3.cell? ⟨w.heap.size,0,none⟩=some (.int .i64 st)∧w3.cell? ⟨w.heap.size,1,none⟩=some (.int .i64 ho)∧w3.cell? ⟨w.heap.size,2,none⟩=some (.bool fo)∧Grew w w3):=⟨_,rfl,fun w3 hk=>zGJ hk⟩
theorem zEC (w:World)(s:ByteArray)(st ho:Int)(fo:Bool)(hb:st<1∨1<=st∧200<st∨1<=st∧st<=200∧ho<1∨1<=st∧st<=200∧1<=ho∧64<ho):Calls prog 30 #[.string s,.agg #[.int .i64 st,.int .i64 ho,.bool fo]] w (zIE w 0 6):=by
 obtain⟨w2,hw2,HK1⟩:=zGo w st ho fo;have HZ2:Hid (w2.heap.size=w.heap.size+2):=by show _=_;rw[hw2];simp
 go_in;apply wp_cut;intro K0 J;go_wp2_with fail;apply J.out;clear J;rw[<-hw2];clear hw2;obtain⟨hB,l0,l1,l2,hkk⟩:=HK1.out w2 (Keep.refl _ _ _);obtain⟨r0,r1,r2,r3,r4,r5,g0,g1,g2,g3,g4,g5⟩:=vZ hB;obtain⟨w7,hw7,z0,z1,z2,z3,z4,z5,HZ⟩:=zDC w w2 (.slice none 0 0) (.slice none 0 0) (.slice none 0 0) (.int .i64 0) (.bool false) (.int .i64 (0)) hB hkk;clear hB hkk;rcases hb with h1|⟨h1,h2⟩|⟨h1,h2,h3⟩|⟨h1,h2,h3,h4⟩
 all_goals
  go_wp2;rw[<-hw7];refine bodyPost_ret (v:=.tuple #[.pointer none,.agg #[.slice none 0 0,.slice none 0 0,.slice none 0 0,.int .i64 0,.bool false,.int .i64 (0)],.int .i64 6]) (by simp[results,results30,go_sem,z0,z1,z2,z3,z4,z5]) rfl ?_;exact⟨HZ.out.1,rfl⟩
theorem zLM (w:World)(s:ByteArray)(st ho:Int)(fo:Bool)(hs:s.size<=1048576)(h1:1<=st)(h2:st<=200)(h3:1<=ho)(h4:ho<=64)(n k:Nat)(hk0:k≠0)(hsp:jO s=.inr (n,k)):Calls prog 30 #[.string s,.agg #[.int .i64 st,.int .i64 ho,.bool fo]] w (zIE w n k):=by
 obtain⟨w2,hw2,HK1⟩:=zGo w st ho fo;have HZ2:Hid (w2.heap.size=w.heap.size+2):=by show _=_;rw[hw2];simp
 have HRD:Hid (Calls prog 43 #[.string s] w2 (zEE w2 (1+6*s.size) (.inr (n,k)))):=by have:=zAA w2 s hs;rw[hsp] at this;exact this
 have ek:((k:Int) != 0)=true:=by simp;omega
 clear hsp hk0;go_in;apply wp_cut;intro K0 J;go_wp2_with fail;apply J.out;clear J;rw[<-hw2];clear hw2;obtain⟨-,p0,p1,p2,-⟩:=HK1.out w2 (Keep.refl _ _ _);apply wp_cut;intro K0 J;go_wp2;apply J.out;clear J;clear p0 p1 p2;apply wp_cut;intro K0 J;go_wp2_with (first|(go_at_call 43;refine HRD.out.mono ?_;rintro e w3 ⟨hk3,rfl⟩))
 apply J.out;clear J;obtain⟨w4,hw4,K4⟩:∃w4,w4=w3.alloc (.cells #[.slice none 0 0,.slice none 0 0,.slice none 0 0] 79)∧Hid (Keep (w.heap.size+2) (w.heap.size+2) w2 w4):=by
  have h5:Keep (w.heap.size+2) (w.heap.size+2) w2 w3:=by rw[<-HZ2.out];exact hk3
  refine⟨_,rfl,h5.trans (kZ _ _ (by have:=hk3.size;rw[HZ2.out] at this;omega))⟩
 rw[<-hw4];clear hw4 hk3;obtain⟨hB,l0,l1,l2,hkk⟩:=HK1.out w4 (K4.out);obtain⟨r0,r1,r2,r3,r4,r5,g0,g1,g2,g3,g4,g5⟩:=vZ hB;obtain⟨w7,hw7,z0,z1,z2,z3,z4,z5,HZ⟩:=zDC w w4 (.slice none 0 0) (.slice none 0 0) (.slice none 0 0) (.int .i64 0) (.bool false) (.int .i64 ((n:Int))) hB hkk;clear hB hkk;go_wp2;rw[<-hw7];refine bodyPost_ret (v:=.tuple #[.pointer none,.agg #[.slice none 0 0,.slice none 0 0,.slice none 0 0,.int .i64 0,.bool false,.int .i64 ((n:Int))],.int .i64 (k:Int)]) (by simp[results,results30,go_sem,z0,z1,z2,z3,z4,z5]) rfl ?_;exact⟨HZ.out.1,rfl⟩
theorem SpecIs.grown {w w2:World}{D:Nat}{mv av pv:Value}{sh:Sh}(h:SpecIs w D mv av pv sh)(hk:Grew w w2):SpecIs w2 D mv av pv sh:=by
 obtain⟨X,S,dv,qv,rv,ps,dp,hS⟩:=h.sheet;exact⟨⟨X,S,dv,qv,rv,ps,dp,hS.grown hk⟩,(h.pushes.keep fun b hb=>hk.block b hb (kJ hb)).mono fun b hb=>lZ hb hk.size,h.ok,h.few,h.there,h.have_,h.fit⟩
theorem SpecIs.forms {w:World}{D:Nat}{mv av pv:Value}{sh:Sh}(h:SpecIs w D mv av pv sh):(∃a c,mv=.slice a sh.modes.length c)∧(∃a c,av=.slice a sh.acts.length c)∧∃a c,pv=.slice a sh.pushed.length c:=by
 obtain⟨X,S,dv,qv,rv,ps,dp,hS⟩:=h.sheet;obtain⟨ap,cp,hpv,-⟩:=h.pushes;rw[yX] at hpv;exact⟨zE hS.mOwn,zE hS.aOwn,ap,cp,hpv⟩
theorem SpecIs.acts {w:World}{D:Nat}{mv av pv:Value}{sh:Sh}(h:SpecIs w D mv av pv sh):Ints w (In w) av (ints sh.acts):=by
 obtain⟨X,S,dv,qv,rv,ps,dp,hS⟩:=h.sheet;have h1:w.ownsRow (S+1) 3 1 av (ints sh.acts).length ((ints sh.acts).map fun x=>.int .i64 x):=by
  rw[zM];unfold ints;rw[List.map_map];exact hS.aOwn
 exact zBT h1 fun g hg=>(h1.lt g hg).2
theorem zJj (w:World)(s:ByteArray)(fo:Bool)(hs:s.size<=1048576)(m h:Nat)(h1:1<=m)(h2:m<=200)(h3:1<=h)(h4:h<=64)(sh:Sh)(hsp:jO s=.inl sh)(hmo:xZ (1+6*s.size) sh sh.modes.length 0 m=none):Calls prog 30 #[.string s,.agg #[.int .i64 (m:Int),.int .i64 (h:Int),.bool fo]] w (zIE w 0 5):=by
 obtain⟨w2,hw2,HK1⟩:∃w2,w2=(w.alloc (.cells #[.int .i64 (m:Int),.int .i64 (h:Int),.bool fo] 58)).alloc (.cells #[.slice none 0 0,.slice none 0 0,.slice none 0 0,.int .i64 0,.bool false,.int .i64 0] 30)∧Hid (∀w3,Keep (w.heap.size+2) (w.heap.size+2) w2 w3->w3.heap[w.heap.size+1]? =some (.cells #[.slice none 0 0,.slice none 0 0,.slice none 0 0,.int .i64 0,.bool false,.int .i64 0] 30)∧w3.cell? ⟨w.heap.size,0,none⟩=some (.int .i64 (m:Int))∧w3.cell? ⟨w.heap.size,1,none⟩=some (.int .i64 (h:Int))∧w3.cell? ⟨w.heap.size,2,none⟩=some (.bool fo)∧Grew w w3):=⟨_,rfl,fun w3 hk=>zGJ hk⟩
 have HZ2:Hid (w2.heap.size=w.heap.size+2):=by show _=_;rw[hw2];simp
 have HRD:Hid (Calls prog 43 #[.string s] w2 (zEE w2 (1+6*s.size) (.inl sh))):=by have:=zAA w2 s hs;rw[hsp] at this;exact this
 have k1:(1:Int)<=(m:Int):=by omega
 have k2:(m:Int)<=200:=by omega
 have k3:(1:Int)<=(h:Int):=by omega
 have k4:(h:Int)<=64:=by omega
 have HMO:Hid (∀w4 mv av pv,SpecIs w4 (1+6*s.size) mv av pv sh->Calls prog 44 #[.agg #[mv,av,pv],.int .i64 (m:Int)] w4 (zL9 w4 (none))):=fun w4 mv av pv h=>by have:=zCu w4 (1+6*s.size) mv av pv sh h m h2;rw[hmo] at this;exact this
 clear hsp hmo;go_in;apply wp_cut;intro K0 J;go_wp2;apply J.out;clear J;rw[<-hw2];clear hw2;obtain⟨-,p0,p1,p2,-⟩:=HK1.out w2 (Keep.refl _ _ _);apply wp_cut;intro K0 J;go_wp2;apply J.out;clear J;clear p0 p1 p2;apply wp_cut;intro K0 J;go_wp2_with (first|(go_at_call 43;refine HRD.out.mono ?_;rintro e w3 ⟨hk3,mv,av,pv,rfl,hsi⟩;obtain⟨⟨am,cm,e1⟩,⟨aa,ca,e2⟩,⟨ap,cp,e3⟩⟩:=hsi.forms;subst e1 e2 e3))
 apply J.out;clear J;obtain⟨w4,hw4,y0,y1,y2,K4⟩:∃w4,w4=w3.alloc (.cells #[.slice am sh.modes.length cm,.slice aa sh.acts.length ca,.slice ap sh.pushed.length cp] 79)∧w4.cell? ⟨w3.heap.size,0,none⟩=some (.slice am sh.modes.length cm)∧w4.cell? ⟨w3.heap.size,1,none⟩=some (.slice aa sh.acts.length ca)∧w4.cell? ⟨w3.heap.size,2,none⟩=some (.slice ap sh.pushed.length cp)∧Hid (Keep (w.heap.size+2) (w.heap.size+2) w2 w4∧SpecIs w4 (1+6*s.size) (.slice am sh.modes.length cm) (.slice aa sh.acts.length ca) (.slice ap sh.pushed.length cp) sh∧w3.heap.size<w4.heap.size∧w.heap.size+2<=w4.heap.size):=by
  have h5:Keep (w.heap.size+2) (w.heap.size+2) w2 w3:=by rw[<-HZ2.out];exact hk3
  have h6:w.heap.size+2<=w3.heap.size:=by have:=hk3.size;rw[HZ2.out] at this;exact this
  have hn:=gG w3 (.cells #[.slice am sh.modes.length cm,.slice aa sh.acts.length ca,.slice ap sh.pushed.length cp] 79);refine⟨_,rfl,?_,?_,?_,h5.trans (kZ _ _ h6),hsi.grown (kZ _ _ lQ),by simp,by simp;omega⟩
  all_goals (unfold cell?;rw[hn];rfl)
 rw[<-hw4];clear hw4 hk3 hsi HRD;apply wp_cut;intro K0 J;go_wp2;apply J.out;clear J;obtain⟨-,l0,-,-,-⟩:=HK1.out w4 K4.out.1;obtain⟨B,hB⟩:∃B,B=w3.heap.size:=⟨_,rfl⟩
 have HBL:Hid (B<w4.heap.size):=by show B<_;rw[hB];exact K4.out.2.2.1
 rw[<-hB] at y0 y1 y2 ⊢;clear hB;go_wp2_with (first|(go_at_call 44;refine(HMO.out w4 _ _ _ K4.out.2.1).mono ?_;rintro e w5 ⟨hk5,rfl⟩;obtain⟨hB,l0,l1,l2,hkk⟩:=HK1.out w5 (K4.out.1.trans (hk5.lower K4.out.2.2.2 K4.out.2.2.2));obtain⟨r0,r1,r2,r3,r4,r5,g0,g1,g2,g3,g4,g5⟩:=vZ hB;obtain⟨w7,hw7,z0,z1,z2,z3,z4,z5,HZ⟩:=zDC w w5 (.slice none 0 0) (.slice none 0 0) (.slice none 0 0) (.int .i64 0) (.bool false) (.int .i64 (0)) hB hkk;clear hB hkk))
 rw[<-hw7];refine bodyPost_ret (v:=.tuple #[.pointer none,.agg #[.slice none 0 0,.slice none 0 0,.slice none 0 0,.int .i64 0,.bool false,.int .i64 (0)],.int .i64 5]) (by simp[results,results30,go_sem,z0,z1,z2,z3,z4,z5]) rfl ?_;exact⟨HZ.out.1,rfl⟩
theorem zEy (w2:World)(q:Nat)(a0 a1 a2 a3 a4 a5:Value)(hB:w2.heap[q]? =some (.cells #[.slice none 0 0,.slice none 0 0,.slice none 0 0,.int .i64 0,.bool false,.int .i64 0] 30)):
  ∃w3:World,w3=((((((w2.setCell ⟨q,0,none⟩ a0).setCell ⟨q,1,none⟩ a1).setCell ⟨q,2,none⟩ a2).setCell ⟨q,3,none⟩ a3).setCell ⟨q,4,none⟩ a4).setCell ⟨q,5,none⟩ a5)∧w3.heap[q]? =some (.cells #[a0,a1,a2,a3,a4,a5] 30)∧w3.heap.size=w2.heap.size∧w3.os=w2.os∧w3.output=w2.output∧∀k,k≠q->w3.heap[k]? =w2.heap[k]? :=by
 obtain⟨x1,e1,c1,z1,o1,u1,n1⟩:=qN w2 q 0 a0 _ _ hB;have b1:=c1;obtain⟨x2,e2,c2,z2,o2,u2,n2⟩:=qN x1 q 1 a1 _ _ b1;have b2:=c2;obtain⟨x3,e3,c3,z3,o3,u3,n3⟩:=qN x2 q 2 a2 _ _ b2;have b3:=c3;obtain⟨x4,e4,c4,z4,o4,u4,n4⟩:=qN x3 q 3 a3 _ _ b3;have b4:=c4;obtain⟨x5,e5,c5,z5,o5,u5,n5⟩:=qN x4 q 4 a4 _ _ b4;have b5:=c5;obtain⟨x6,e6,c6,z6,o6,u6,n6⟩:=qN x5 q 5 a5 _ _ b5;have b6:=c6;exact⟨x6,by rw[e6,e5,e4,e3,e2,e1],b6,by omega,o6.trans (o5.trans (o4.trans (o3.trans (o2.trans o1)))),u6.trans (u5.trans (u4.trans (u3.trans (u2.trans u1)))),fun i hi=>(n6 i hi).trans ((n5 i hi).trans ((n4 i hi).trans ((n3 i hi).trans ((n2 i hi).trans (n1 i hi)))))⟩
theorem zLN (w w9:World)(post:Ending->World->Prop)(p R:Nat)(m0 s0 v0:Option Addr)(m1 m2 s1 s2 v1 v2:Nat)(AH:Int)(ST:Bool)(hB:w9.heap[w.heap.size+1]? =some (.cells #[.slice none 0 0,.slice none 0 0,.slice none 0 0,.int .i64 0,.bool false,.int .i64 0] 30))(hR:R≠w.heap.size+1)(hRl:R<w9.heap.size)
  (x0:w9.cell? ⟨R,0,none⟩=some (.slice m0 m1 m2)) (x1:w9.cell? ⟨R,1,none⟩=some (.slice s0 s1 s2)) (x2:w9.cell? ⟨R,2,none⟩=some (.slice v0 v1 v2)) (x3:w9.cell? ⟨R,3,none⟩=some (.int .i64 AH)) (x4:w9.cell? ⟨R,4,none⟩=some (.bool ST)) (x5:w9.cell? ⟨R,5,none⟩=some (.int .i64 0))
  (hfin:∀wz L,wz.os=w9.os->wz.output=w9.output->w9.heap.size<=L->L<wz.heap.size->(∀k,k<w9.heap.size->k≠w.heap.size+1->wz.heap[k]? =w9.heap[k]?)->wz.cell? ⟨L,0,none⟩=some (.pointer (some ⟨p,0,none⟩))->post (.returned (.tuple #[.pointer (some ⟨L,0,none⟩),.agg #[.slice m0 m1 m2,.slice s0 s1 s2,.slice v0 v1 v2,.int .i64 AH,.bool ST,.int .i64 0],.int .i64 0])) wz)
  {u0 u1 u2 u3 u4 u6 u7 u8 u9 u10 u11 u14 u15 u16 u17 u18 u19 u20 u21 u22 u23 u24 u25 u26 u27 u28 u29 u30 u31 u32 u33 u34 u35 u36 u37 u38 u39 u40 u41 u42 u43 u44 u45 u46 u47 u48 u49 u50 u51 u52 u53 u54 u55 u56 u57 u58 u59 u60 u61 u62 u63 u64 u65 u66 u67 u68 u69 u70 u71 u72 u73 u74 u75 u76 u77 u78 u79:Value}:
  Code.wp prog (yQ 9 ((f30.body).getD .skip)) (bodyPost prog f30 post) ⟨(u0::u1::u2::u3::u4:: .pointer (some ⟨w.heap.size+1,0,none⟩)::u6::u7::u8::u9::u10::u11:: .pointer (some ⟨p,0,none⟩):: .pointer (some ⟨R,0,none⟩)::u14::u15::u16::u17::u18::u19::u20::u21::u22::u23::u24::u25::u26::u27::u28::u29::u30::u31::u32::u33::u34::u35::u36::u37::u38::u39::u40::u41::u42::u43::u44::u45::u46::u47::u48::u49::u50::u51::u52::u53::u54::u55::u56::u57::u58::u59::u60::u61::u62::u63::u64::u65::u66::u67::u68::u69::u70::u71::u72::u73::u74::u75::u76::u77::u78::u79::[]).toArray,[]⟩ w9:=by
 conv=>arg 2;whnf
 obtain⟨r0,r1,r2,r3,r4,r5,g0,g1,g2,g3,g4,g5⟩:=vZ hB;have hbl:w.heap.size+1<w9.heap.size:=(kQ.1 hB).1;have HB:=vl hB;have HFI:=vl hfin;generalize w.heap.size+1=Q at *;have q0:(w9.alloc (Obj.cells #[.pointer (some ⟨p,0,none⟩)] 93)).cell? ⟨Q,0,none⟩=some (.slice none 0 0):=(cell?_alloc_past _ _ _ hbl).trans r0;have f0:(w9.alloc (Obj.cells #[.pointer (some ⟨p,0,none⟩)] 93)).frozen? ⟨Q,0,none⟩=false:=(frozen?_alloc_past _ _ _ hbl).trans g0;have q1:(w9.alloc (Obj.cells #[.pointer (some ⟨p,0,none⟩)] 93)).cell? ⟨Q,1,none⟩=some (.slice none 0 0):=(cell?_alloc_past _ _ _ hbl).trans r1;have f1:(w9.alloc (Obj.cells #[.pointer (some ⟨p,0,none⟩)] 93)).frozen? ⟨Q,1,none⟩=false:=(frozen?_alloc_past _ _ _ hbl).trans g1;have q2:(w9.alloc (Obj.cells #[.pointer (some ⟨p,0,none⟩)] 93)).cell? ⟨Q,2,none⟩=some (.slice none 0 0):=(cell?_alloc_past _ _ _ hbl).trans r2;have f2:(w9.alloc (Obj.cells #[.pointer (some ⟨p,0,none⟩)] 93)).frozen? ⟨Q,2,none⟩=false:=(frozen?_alloc_past _ _ _ hbl).trans g2;have q3:(w9.alloc (Obj.cells #[.pointer (some ⟨p,0,none⟩)] 93)).cell? ⟨Q,3,none⟩=some (.int .i64 0):=(cell?_alloc_past _ _ _ hbl).trans r3;have f3:(w9.alloc (Obj.cells #[.pointer (some ⟨p,0,none⟩)] 93)).frozen? ⟨Q,3,none⟩=false:=(frozen?_alloc_past _ _ _ hbl).trans g3;have q4:(w9.alloc (Obj.cells #[.pointer (some ⟨p,0,none⟩)] 93)).cell? ⟨Q,4,none⟩=some (.bool false):=(cell?_alloc_past _ _ _ hbl).trans r4;have f4:(w9.alloc (Obj.cells #[.pointer (some ⟨p,0,none⟩)] 93)).frozen? ⟨Q,4,none⟩=false:=(frozen?_alloc_past _ _ _ hbl).trans g4;have q5:(w9.alloc (Obj.cells #[.pointer (some ⟨p,0,none⟩)] 93)).cell? ⟨Q,5,none⟩=some (.int .i64 0):=(cell?_alloc_past _ _ _ hbl).trans r5;have f5:(w9.alloc (Obj.cells #[.pointer (some ⟨p,0,none⟩)] 93)).frozen? ⟨Q,5,none⟩=false:=(frozen?_alloc_past _ _ _ hbl).trans g5;have y0:(w9.alloc (Obj.cells #[.pointer (some ⟨p,0,none⟩)] 93)).cell? ⟨R,0,none⟩=some (.slice m0 m1 m2):=(cell?_alloc_past _ _ _ hRl).trans x0;have y1:(w9.alloc (Obj.cells #[.pointer (some ⟨p,0,none⟩)] 93)).cell? ⟨R,1,none⟩=some (.slice s0 s1 s2):=(cell?_alloc_past _ _ _ hRl).trans x1;have y2:(w9.alloc (Obj.cells #[.pointer (some ⟨p,0,none⟩)] 93)).cell? ⟨R,2,none⟩=some (.slice v0 v1 v2):=(cell?_alloc_past _ _ _ hRl).trans x2;have y3:(w9.alloc (Obj.cells #[.pointer (some ⟨p,0,none⟩)] 93)).cell? ⟨R,3,none⟩=some (.int .i64 AH):=(cell?_alloc_past _ _ _ hRl).trans x3;have y4:(w9.alloc (Obj.cells #[.pointer (some ⟨p,0,none⟩)] 93)).cell? ⟨R,4,none⟩=some (.bool ST):=(cell?_alloc_past _ _ _ hRl).trans x4;have y5:(w9.alloc (Obj.cells #[.pointer (some ⟨p,0,none⟩)] 93)).cell? ⟨R,5,none⟩=some (.int .i64 0):=(cell?_alloc_past _ _ _ hRl).trans x5;apply wp_cut;intro K0 J;go_region
 all_goals
  obtain⟨wa,hwa,hblk,hz,ho,hu,hne⟩:=zEy w9 Q (.slice m0 m1 m2) (.slice s0 s1 s2) (.slice v0 v1 v2) (.int .i64 AH) (.bool ST) (.int .i64 0) HB.out;rw[<-hwa];obtain⟨wz,hwz,d0,d1,d2,d3,d4,d5,HW⟩:∃wz,wz=(wa.alloc (Obj.cells #[.pointer (some ⟨p,0,none⟩)] 93)).drew∧wz.cell? ⟨Q,0,none⟩=some (.slice m0 m1 m2)∧wz.cell? ⟨Q,1,none⟩=some (.slice s0 s1 s2)∧wz.cell? ⟨Q,2,none⟩=some (.slice v0 v1 v2)∧wz.cell? ⟨Q,3,none⟩=some (.int .i64 AH)∧wz.cell? ⟨Q,4,none⟩=some (.bool ST)∧wz.cell? ⟨Q,5,none⟩=some (.int .i64 0)∧Hid (wz.os=w9.os∧wz.output=w9.output∧w9.heap.size<wz.heap.size∧(∀k,k<w9.heap.size->k≠Q->wz.heap[k]? =w9.heap[k]?)∧wz.cell? ⟨w9.heap.size,0,none⟩=some (.pointer (some ⟨p,0,none⟩))):=by
   have hn:=gG wa (Obj.cells #[.pointer (some ⟨p,0,none⟩)] 93);rw[hz] at hn;have hb2:(wa.alloc (Obj.cells #[.pointer (some ⟨p,0,none⟩)] 93)).drew.heap[Q]? =some (.cells #[.slice m0 m1 m2,.slice s0 s1 s2,.slice v0 v1 v2,.int .i64 AH,.bool ST,.int .i64 0] 30):=(lG _ _ _ (by omega)).trans hblk;have hn2:(wa.alloc (Obj.cells #[.pointer (some ⟨p,0,none⟩)] 93)).drew.heap[w9.heap.size]? =some (Obj.cells #[.pointer (some ⟨p,0,none⟩)] 93):=hn;refine⟨_,rfl,?_,?_,?_,?_,?_,?_,ho,hu,?_,fun k k1 k2=>(lG _ _ _ (by omega)).trans (hne k k2),?_⟩
   ·unfold cell?;rw[hb2];rfl
   ·unfold cell?;rw[hb2];rfl
   ·unfold cell?;rw[hb2];rfl
   ·unfold cell?;rw[hb2];rfl
   ·unfold cell?;rw[hb2];rfl
   ·unfold cell?;rw[hb2];rfl
   ·show w9.heap.size<(wa.alloc _).heap.size
    simp;omega
   ·unfold cell?;rw[hn2];rfl
  rw[<-hwz];show K0 _ _;apply J.out;go_wp2;refine bodyPost_ret (v:=.tuple #[.pointer (some ⟨w9.heap.size,0,none⟩),.agg #[.slice m0 m1 m2,.slice s0 s1 s2,.slice v0 v1 v2,.int .i64 AH,.bool ST,.int .i64 0],.int .i64 0]) (by simp[results,results30,go_sem,d0,d1,d2,d3,d4,d5]) rfl ?_;exact HFI.out wz w9.heap.size HW.out.1 HW.out.2.1 lQ HW.out.2.2.1 HW.out.2.2.2.1 HW.out.2.2.2.2
theorem zNp (w w8:World)(post:Ending->World->Prop)(Q:World->Prop)(p R:Nat)(m0 s0 v0:Option Addr)(m1 m2 s1 s2 v1 v2:Nat)(AH:Int)(ST:Bool)(hB:w8.heap[w.heap.size+1]? =some (.cells #[.slice none 0 0,.slice none 0 0,.slice none 0 0,.int .i64 0,.bool false,.int .i64 0] 30))(hR:R≠w.heap.size+1)(hRl:R<w8.heap.size)(hRp:R≠p)(hpp:w.heap.size+1≠p)
  (x0:w8.cell? ⟨R,0,none⟩=some (.slice m0 m1 m2)) (x1:w8.cell? ⟨R,1,none⟩=some (.slice s0 s1 s2)) (x2:w8.cell? ⟨R,2,none⟩=some (.slice v0 v1 v2)) (x3:w8.cell? ⟨R,3,none⟩=some (.int .i64 AH)) (x4:w8.cell? ⟨R,4,none⟩=some (.bool ST)) (x5:w8.cell? ⟨R,5,none⟩=some (.int .i64 0))
  (hMS:ST=true->Calls prog 47 #[.pointer (some ⟨p,0,none⟩),.int .i64 AH] w8 (fun e w9=>e=.returned (.tuple #[])∧Q w9∧Keep w8.heap.size p w8 w9)) (hQ:ST=false->Q w8)
  (hfin:∀w9 wz L,Keep w8.heap.size p w8 w9->Q w9->wz.os=w9.os->wz.output=w9.output->w9.heap.size<=L->L<wz.heap.size->(∀k,k<w9.heap.size->k≠w.heap.size+1->wz.heap[k]? =w9.heap[k]?)->wz.cell? ⟨L,0,none⟩=some (.pointer (some ⟨p,0,none⟩))->post (.returned (.tuple #[.pointer (some ⟨L,0,none⟩),.agg #[.slice m0 m1 m2,.slice s0 s1 s2,.slice v0 v1 v2,.int .i64 AH,.bool ST,.int .i64 0],.int .i64 0])) wz)
  {u0 u1 u2 u3 u4 u6 u7 u8 u9 u10 u11 u14 u15 u16 u17 u18 u19 u20 u21 u22 u23 u24 u25 u26 u27 u28 u29 u30 u31 u32 u33 u34 u35 u36 u37 u38 u39 u40 u41 u42 u43 u44 u45 u46 u47 u48 u49 u50 u51 u52 u53 u54 u55 u56 u57 u58 u59 u60 u61 u62 u63 u64 u65 u66 u67 u68 u69 u70 u71 u72 u73 u74 u75 u76 u77 u78 u79:Value}:
  Code.wp prog (yQ 8 ((f30.body).getD .skip)) (bodyPost prog f30 post) ⟨(u0::u1::u2::u3::u4:: .pointer (some ⟨w.heap.size+1,0,none⟩)::u6::u7::u8::u9::u10::u11:: .pointer (some ⟨p,0,none⟩):: .pointer (some ⟨R,0,none⟩)::u14::u15::u16::u17::u18::u19::u20::u21::u22::u23::u24::u25::u26::u27::u28::u29::u30::u31::u32::u33::u34::u35::u36::u37::u38::u39::u40::u41::u42::u43::u44::u45::u46::u47::u48::u49::u50::u51::u52::u53::u54::u55::u56::u57::u58::u59::u60::u61::u62::u63::u64::u65::u66::u67::u68::u69::u70::u71::u72::u73::u74::u75::u76::u77::u78::u79::[]).toArray,[]⟩ w8:=by
 conv=>arg 2;whnf
 have HFI:=vl hfin;have HBB:Hid (w8.heap[w.heap.size+1]? =some (.cells #[.slice none 0 0,.slice none 0 0,.slice none 0 0,.int .i64 0,.bool false,.int .i64 0] 30)∧R≠w.heap.size+1∧R<w8.heap.size∧R≠p∧w.heap.size+1≠p∧w.heap.size+1<w8.heap.size):=⟨hB,hR,hRl,hRp,hpp,(kQ.1 hB).1⟩
 apply wp_cut;intro K0 J;cases ST with
 |false=>
  have hq:=hQ rfl;go_wp2;apply J.out;exact zLN w w8 post p R m0 s0 v0 m1 m2 s1 s2 v1 v2 AH false HBB.out.1 HBB.out.2.1 HBB.out.2.2.1 x0 x1 x2 x3 x4 x5 (fun wz L=>HFI.out w8 wz L (Keep.refl _ _ _) hq)
 |true=>
  have HC:=vl <| hMS rfl;go_wp2_with (first|(go_at_call 47;refine HC.out.mono ?_;rintro e w9 ⟨rfl,hq,hk9⟩))
  apply J.out;have hb:=hk9.block (w.heap.size+1) HBB.out.2.2.2.2.2 HBB.out.2.2.2.2.1;have hr:=hk9.block R HBB.out.2.2.1 HBB.out.2.2.2.1;have hc:∀i,w9.cell? ⟨R,i,none⟩=w8.cell? ⟨R,i,none⟩:=fun i=>cell?_of_block hr;exact zLN w w9 post p R m0 s0 v0 m1 m2 s1 s2 v1 v2 AH true (hb.trans HBB.out.1) HBB.out.2.1 (lZ HBB.out.2.2.1 hk9.size) ((hc 0).trans x0) ((hc 1).trans x1) ((hc 2).trans x2) ((hc 3).trans x3) ((hc 4).trans x4) ((hc 5).trans x5) (fun wz L=>HFI.out w9 wz L hk9 hq)
theorem zNq (w w6:World)(post:Ending->World->Prop)(Q:World->Prop)(p:Nat)(a5:Option Addr)(l5 c5 CN:Nat)(AH:Int)(ST fo:Bool)(hB:w6.heap[w.heap.size+1]? =some (.cells #[.slice none 0 0,.slice none 0 0,.slice none 0 0,.int .i64 0,.bool false,.int .i64 0] 30))(hl:w.heap.size+2<=w6.heap.size)(hp:p<w6.heap.size)(hpp:w.heap.size+1≠p)
  (y7:w6.cell? ⟨p,7,none⟩=some (.int .i64 (CN:Nat))) (l2:w6.cell? ⟨w.heap.size,2,none⟩=some (.bool fo))
  (HRP:∀wq,Grew w6 wq->Calls prog 46 #[.slice a5 l5 c5,.int .i64 (CN:Nat),.bool fo] (wq) (fun e w'=>∃m0 m1 m2 s0 s1 s2 v0 v1 v2,e=.returned (.agg #[.slice m0 m1 m2,.slice s0 s1 s2,.slice v0 v1 v2,.int .i64 AH,.bool ST,.int .i64 0])∧Keep (wq).heap.size (wq).heap.size (wq) w'))
  (hMS:∀w8,Grew w6 w8->(ST=true->Calls prog 47 #[.pointer (some ⟨p,0,none⟩),.int .i64 AH] w8 (fun e w9=>e=.returned (.tuple #[])∧Q w9∧Keep w8.heap.size p w8 w9))∧(ST=false->Q w8))
  (hfin:∀m0 m1 m2 s0 s1 s2 v0 v1 v2 w8 w9 wz L,Grew w6 w8->Keep w8.heap.size p w8 w9->Q w9->wz.os=w9.os->wz.output=w9.output->w9.heap.size<=L->L<wz.heap.size->(∀k,k<w9.heap.size->k≠w.heap.size+1->wz.heap[k]? =w9.heap[k]?)->wz.cell? ⟨L,0,none⟩=some (.pointer (some ⟨p,0,none⟩))->post (.returned (.tuple #[.pointer (some ⟨L,0,none⟩),.agg #[.slice m0 m1 m2,.slice s0 s1 s2,.slice v0 v1 v2,.int .i64 AH,.bool ST,.int .i64 0],.int .i64 0])) wz)
  {u0 u1 u2 u4 u6 u7 u8 u9 u11 u13 u14 u15 u16 u17 u18 u19 u20 u21 u22 u23 u24 u25 u26 u27 u28 u29 u30 u31 u32 u33 u34 u35 u36 u37 u38 u39 u40 u41 u42 u43 u44 u45 u46 u47 u48 u49 u50 u51 u52 u53 u54 u55 u56 u57 u58 u59 u60 u61 u62 u63 u64 u65 u66 u67 u68 u69 u70 u71 u72 u73 u74 u75 u76 u77 u78 u79:Value}:
  Code.wp prog (yQ 7 ((f30.body).getD .skip)) (bodyPost prog f30 post) ⟨(u0::u1::u2:: .pointer (some ⟨w.heap.size,0,none⟩)::u4:: .pointer (some ⟨w.heap.size+1,0,none⟩)::u6::u7::u8::u9:: .slice a5 l5 c5::u11:: .pointer (some ⟨p,0,none⟩)::u13::u14::u15::u16::u17::u18::u19::u20::u21::u22::u23::u24::u25::u26::u27::u28::u29::u30::u31::u32::u33::u34::u35::u36::u37::u38::u39::u40::u41::u42::u43::u44::u45::u46::u47::u48::u49::u50::u51::u52::u53::u54::u55::u56::u57::u58::u59::u60::u61::u62::u63::u64::u65::u66::u67::u68::u69::u70::u71::u72::u73::u74::u75::u76::u77::u78::u79::[]).toArray,[]⟩ w6:=by
 conv=>arg 2;whnf
 have ka6:Grew w6 (w6.alloc (.cells #[.slice none 0 0,.slice none 0 0,.slice none 0 0,.int .i64 0,.bool false,.int .i64 0] 30)):=kZ _ _ lQ;have HR1:=vl HRP;have KA1:Hid (Grew w6 w6.drew):=Keep.drew _;have KA2:Hid (Grew w6 (w6.alloc (.cells #[.slice none 0 0,.slice none 0 0,.slice none 0 0,.int .i64 0,.bool false,.int .i64 0] 30)).drew):=⟨ka6.os,ka6.output,ka6.size,ka6.block⟩
 have KU1:Hid (∀w7,Grew w6.drew w7->Grew w6 w7):=fun w7 hk=>Keep.undrew hk;have HPB:Hid (∀w7,Keep ((w6.alloc (.cells #[.slice none 0 0,.slice none 0 0,.slice none 0 0,.int .i64 0,.bool false,.int .i64 0] 30)).drew).heap.size ((w6.alloc (.cells #[.slice none 0 0,.slice none 0 0,.slice none 0 0,.int .i64 0,.bool false,.int .i64 0] 30)).drew).heap.size ((w6.alloc (.cells #[.slice none 0 0,.slice none 0 0,.slice none 0 0,.int .i64 0,.bool false,.int .i64 0] 30)).drew) w7->w7.heap[w6.heap.size]? =some (.cells #[.slice none 0 0,.slice none 0 0,.slice none 0 0,.int .i64 0,.bool false,.int .i64 0] 30)):=fun w7 hk=>(hk.block w6.heap.size (by show w6.heap.size<(w6.alloc _).heap.size;simp) (by show w6.heap.size≠(w6.alloc _).heap.size;simp)).trans (gG w6 _);have HUP:Hid (∀w7,Keep ((w6.alloc (.cells #[.slice none 0 0,.slice none 0 0,.slice none 0 0,.int .i64 0,.bool false,.int .i64 0] 30)).drew).heap.size ((w6.alloc (.cells #[.slice none 0 0,.slice none 0 0,.slice none 0 0,.int .i64 0,.bool false,.int .i64 0] 30)).drew).heap.size ((w6.alloc (.cells #[.slice none 0 0,.slice none 0 0,.slice none 0 0,.int .i64 0,.bool false,.int .i64 0] 30)).drew) w7->Grew w6 w7):=fun w7 hk=>ka6.trans ⟨hk.os,hk.output,hk.size,fun k k1 k2=>hk.block k (by show k<(w6.alloc _).heap.size;simp;omega) (by show k≠(w6.alloc _).heap.size;simp;omega)⟩;have HZF:Hid (∀w7,Grew w6 w7->w7.cell? ⟨p,7,none⟩=some (.int .i64 (CN:Nat))∧w7.cell? ⟨w.heap.size,2,none⟩=some (.bool fo)):=fun w7 hk=>⟨zA y7 hp hk,zA l2 (show w.heap.size<w6.heap.size by omega) hk⟩
 have HGO:Hid (∀R w8 m0 m1 m2 s0 s1 s2 v0 v1 v2,Grew w6 w8->w6.heap.size<=R->R<w8.heap.size->w8.cell? ⟨R,0,none⟩=some (.slice m0 m1 m2)->w8.cell? ⟨R,1,none⟩=some (.slice s0 s1 s2)->w8.cell? ⟨R,2,none⟩=some (.slice v0 v1 v2)->w8.cell? ⟨R,3,none⟩=some (.int .i64 AH)->w8.cell? ⟨R,4,none⟩=some (.bool ST)->w8.cell? ⟨R,5,none⟩=some (.int .i64 0)->∀(b0 b1 b2 b3 b4 b6 b7 b8 b9 b10 b11 b14 b15 b16 b17 b18 b19 b20 b21 b22 b23 b24 b25 b26 b27 b28 b29 b30 b31 b32 b33 b34 b35 b36 b37 b38 b39 b40 b41 b42 b43 b44 b45 b46 b47 b48 b49 b50 b51 b52 b53 b54 b55 b56 b57 b58 b59 b60 b61 b62 b63 b64 b65 b66 b67 b68 b69 b70 b71 b72 b73 b74 b75 b76 b77 b78 b79:Value),Code.wp prog (yQ 8 ((f30.body).getD .skip)) (bodyPost prog f30 post) ⟨(b0::b1::b2::b3::b4:: .pointer (some ⟨w.heap.size+1,0,none⟩)::b6::b7::b8::b9::b10::b11:: .pointer (some ⟨p,0,none⟩):: .pointer (some ⟨R,0,none⟩)::b14::b15::b16::b17::b18::b19::b20::b21::b22::b23::b24::b25::b26::b27::b28::b29::b30::b31::b32::b33::b34::b35::b36::b37::b38::b39::b40::b41::b42::b43::b44::b45::b46::b47::b48::b49::b50::b51::b52::b53::b54::b55::b56::b57::b58::b59::b60::b61::b62::b63::b64::b65::b66::b67::b68::b69::b70::b71::b72::b73::b74::b75::b76::b77::b78::b79::[]).toArray,[]⟩ w8):=fun R w8 m0 m1 m2 s0 s1 s2 v0 v1 v2 hk hR1 hR2 x0 x1 x2 x3 x4 x5 _ _ _ _ _ _ _ _ _ _ _ _ _ _ _ _ _ _ _ _ _ _ _ _ _ _ _ _ _ _ _ _ _ _ _ _ _ _ _ _ _ _ _ _ _ _ _ _ _ _ _ _ _ _ _ _ _ _ _ _ _ _ _ _ _ _ _ _ _ _ _ _ _ _ _ _ _=>zNp w w8 post Q p R m0 s0 v0 m1 m2 s1 s2 v1 v2 AH ST ((hk.block _ (by omega) (by omega)).trans hB) (by omega) hR2 (by omega) hpp x0 x1 x2 x3 x4 x5 (hMS w8 hk).1 (hMS w8 hk).2 (fun w9 wz L hk9 hq=>hfin m0 m1 m2 s0 s1 s2 v0 v1 v2 w8 w9 wz L hk hk9 hq);obtain⟨y7a,l2a⟩:=HZF.out (w6.alloc (.cells #[.slice none 0 0,.slice none 0 0,.slice none 0 0,.int .i64 0,.bool false,.int .i64 0] 30)) ka6;refine wp_seq_k ?_;intro K0 hK0;have J:=vl hK0;go_region_with ((go_at_call 46;go_must ((refine (HR1.out _ (by first|exact KA1.out|exact KA2.out)).mono ?_;rintro e w7 ⟨m0,m1,m2,s0,s1,s2,v0,v1,v2,rfl,hk7⟩;first|(have hk8:=KU1.out w7 hk7;obtain⟨z0,z1⟩:=HZF.out w7 hk8;obtain⟨r0,r1,r2,r3,r4,r5,g0,g1,g2,g3,g4,g5⟩:=vZ (gG w7 (.cells #[.slice none 0 0,.slice none 0 0,.slice none 0 0,.int .i64 0,.bool false,.int .i64 0] 30));obtain⟨z2,z3⟩:=HZF.out (w7.alloc (.cells #[.slice none 0 0,.slice none 0 0,.slice none 0 0,.int .i64 0,.bool false,.int .i64 0] 30)) (hk8.trans (kZ _ _ hk8.size)))|(have hk8:=HUP.out w7 hk7;obtain⟨r0,r1,r2,r3,r4,r5,g0,g1,g2,g3,g4,g5⟩:=vZ (HPB.out w7 hk7);obtain⟨z0,z1⟩:=HZF.out w7 hk8)))))
 all_goals
  show K0 _ _;apply J.out
  first
  |(obtain ⟨wa,hwa,hblk,hz,ho,hu,hne⟩:=zEy w7 w6.heap.size (.slice m0 m1 m2) (.slice s0 s1 s2) (.slice v0 v1 v2) (.int .i64 AH) (.bool ST) (.int .i64 0) (HPB.out w7 hk7);rw[<-hwa];refine HGO.out w6.heap.size wa m0 m1 m2 s0 s1 s2 v0 v1 v2 (hk8.trans ⟨ho,hu,by omega,fun k k1 _=>hne k (by omega)⟩) lQ (kQ.1 hblk).1 ?_ ?_ ?_ ?_ ?_ ?_ _ _ _ _ _ _ _ _ _ _ _ _ _ _ _ _ _ _ _ _ _ _ _ _ _ _ _ _ _ _ _ _ _ _ _ _ _ _ _ _ _ _ _ _ _ _ _ _ _ _ _ _ _ _ _ _ _ _ _ _ _ _ _ _ _ _ _ _ _ _ _ _ _ _ _ _ _;all_goals (unfold cell?;rw[hblk];rfl))
  |(have hn:=gG w7 (.cells #[.slice m0 m1 m2,.slice s0 s1 s2,.slice v0 v1 v2,.int .i64 AH,.bool ST,.int .i64 0] 30);refine HGO.out w7.heap.size _ m0 m1 m2 s0 s1 s2 v0 v1 v2 (hk8.trans (kZ _ _ hk8.size)) hk8.size (kQ.1 hn).1 ?_ ?_ ?_ ?_ ?_ ?_ _ _ _ _ _ _ _ _ _ _ _ _ _ _ _ _ _ _ _ _ _ _ _ _ _ _ _ _ _ _ _ _ _ _ _ _ _ _ _ _ _ _ _ _ _ _ _ _ _ _ _ _ _ _ _ _ _ _ _ _ _ _ _ _ _ _ _ _ _ _ _ _ _ _ _ _ _;all_goals (unfold cell?;rw[hn];rfl))
end Go.Proofs.YtbjcfkdnjaiclaaGreat
