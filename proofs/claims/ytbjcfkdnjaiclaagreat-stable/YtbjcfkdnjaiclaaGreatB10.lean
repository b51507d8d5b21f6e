import Derived.Test.YtbjcfkdnjaiclaaGreatB0
import Derived.Test.YtbjcfkdnjaiclaaGreatB9
/- Parts of the proof, in order. -/
set_option linter.unusedVariables false
set_option linter.unusedSimpArgs false
set_option maxHeartbeats 4000000
set_option maxRecDepth 100000
namespace Go.Proofs.YtbjcfkdnjaiclaaGreat
open Go.RowKit Go.Proofs.Tryz Go.World
structure So (w:World)(p q:Nat)(rv:Value)(rules:List Nat):Prop where
 net:w.cell? ⟨p,0,none⟩=some (.pointer (some ⟨q,0,none⟩))
 rcell:w.cell? ⟨q,4,none⟩=some rv
 at_:Ints w (In w) rv (rules.map fun(x:Nat)=>(x:Int))
 eight:rules.length<=8
 small:∀r∈rules,r<16777216
 lp:p<w.heap.size
 lq:q<w.heap.size
theorem So.grown {w w':World}{p q:Nat}{rv:Value}{rules:List Nat}(h:So w p q rv rules)(hk:Grew w w'):So w' p q rv rules:=
 ⟨zA h.net h.lp hk,zA h.rcell h.lq hk,h.at_.grown hk,h.eight,h.small,Nat.lt_of_lt_of_le h.lp hk.size,Nat.lt_of_lt_of_le h.lq hk.size⟩
theorem So.differ {w:World}{p q:Nat}{rv:Value}{rules:List Nat}(h:So w p q rv rules)(a b tail:Nat)(ha:a<16777216)(hb:b<16777216)(ht:tail<16777216):
  Calls prog 174 #[.pointer (some ⟨p,0,none⟩),.int .i64 a,.int .i64 b,.int .i64 tail] w fun e w'=>e=.returned (.bool (xH rules a b tail))∧Grew w w':=zGW w p q rv rules h.net h.rcell h.at_ h.eight h.small a b tail ha hb ht
def jI (rules marks:List Nat)(a b:Nat):Bool:=!(marks.any fun t=>xH rules a b t)
theorem zDz (w:World)(p q:Nat)(rv mv:Value)(rules marks:List Nat)(hS:So w p q rv rules)(hm:w.cell? ⟨p,7,none⟩=some mv)(hM:Ints w (In w) mv (marks.map fun(x:Nat)=>(x:Int)))(hl:marks.length<=1000000000000)(hr:∀r∈marks,r<16777216)(a b:Nat)(ha:a<16777216)(hb:b<16777216):
  Calls prog 173 #[.pointer (some ⟨p,0,none⟩),.int .i64 a,.int .i64 b] w fun e w'=>e=.returned (.bool (jI rules marks a b))∧Grew w w':=by
 obtain⟨ar,cr,hrv,_,_,hrc⟩:=hM;rw[List.length_map] at hrv;subst hrv;have HRC:Hid (∀i,i<marks.length->∃b o,ar=some ⟨b,o,none⟩∧In w b∧w.cell? ⟨b,o+i,none⟩=some (.int .i64 ((marks.getD i 0:Nat):Int))∧marks.getD i 0<16777216):=by
  intro i hi;obtain⟨b,o,h1,h0,h2⟩:=hrc i (by rw[List.length_map];exact hi);refine⟨b,o,h1,h0,?_,hr _ (zR _ i 0 hi)⟩;rw[List.getD_eq_getElem?_getD,List.getElem?_map,List.getElem?_eq_getElem hi] at h2;rw[List.getD_eq_getElem?_getD,List.getElem?_eq_getElem hi];exact h2
 have HS:=vl hS;have H1:Hid (∀j,j<marks.length->xH rules a b (marks.getD j 0)=true->jI rules marks a b=false):=fun j hj h=>by
  show(!_)=false;rw[zLG marks _ 0 j hj h];rfl
 have H2:Hid ((∀i,i<marks.length->xH rules a b (marks.getD i 0)=false)->jI rules marks a b=true):=fun h=>by
  show(!_)=true;rw[zIf marks _ 0 h];rfl
 go_in;go_wp2;go_loopg [14] marks.length (fun k i wr=>∃j:Nat,k=marks.length-j∧j<=marks.length∧i=.int .i64 (j:Int)∧(∀i,i<j->xH rules a b (marks.getD i 0)=false)∧Grew w wr)
 case atStart=>exact⟨0,rfl,Nat.zero_le _,rfl,fun i hi=>by omega,⟨rfl,rfl,Nat.le_refl _,fun _ _ _=>rfl⟩⟩
 case round=>
  obtain⟨j,hgk,hj,rfl,hno,hkp⟩:=hrel;have HB:Hid (gk=marks.length-j∧(∀i,i<j->xH rules a b (marks.getD i 0)=false)∧Grew w wr):=⟨hgk,hno,hkp⟩
  by_cases hj2:j<marks.length
  ·have i1:(j:Int)<(marks.length:Int):=by omega
   obtain⟨b1,o1,rfl,hb1,hc,hlt⟩:=HRC.out j hj2;have y1:=zA hc hb1 hkp;have HL3:=vl <| H1.out j hj2;have HN3:Hid (xH rules a b (marks.getD j 0)=false->∀i,i<j+1->xH rules a b (marks.getD i 0)=false):=fun h i hi=>by
    by_cases e:i=j
    ·rw[e];exact h
    ·exact HB.out.2.1 i (by omega)
   have HD:Hid (∀t:Nat,t<16777216->Calls prog 174 #[.pointer (some ⟨p,0,none⟩),.int .i64 a,.int .i64 b,.int .i64 t] wr fun e w'=>e=.returned (.bool (xH rules a b t))∧Grew w w'):=fun t ht=>by
    refine((HS.out.grown HB.out.2.2).differ a b t ha hb ht).mono ?_;rintro e w2 ⟨rfl,hk2⟩;exact⟨rfl,HB.out.2.2.trans (hk2.lower HB.out.2.2.size HB.out.2.2.size)⟩
   generalize marks.getD j 0=r at *;have HD2:=HD.out r hlt;cases hd:xH rules a b r with
   |false=>
    rw[hd] at HD2;have HR:=vl <| HN3.out hd;have HD3:=vl HD2;go_wp2_with (first|(go_at_call 174;refine HD3.out.mono ?_;rintro e w5 ⟨rfl,hk5⟩))
    go_roundg (marks.length-(j+1))
    case measure=>rw[HB.out.1];omega
    case rel=>exact⟨j+1,rfl,by omega,by go_num,HR.out,hk5⟩
   |true=>
    rw[hd] at HD2;have HR:=vl <| HL3.out hd;have HD3:=vl HD2;go_wp2_with (first|(go_at_call 174;refine HD3.out.mono ?_;rintro e w5 ⟨rfl,hk5⟩))
    go_ret;exact⟨by rw[HR.out];rfl,hk5⟩
  ·have i1:(marks.length:Int)<=(j:Int):=by omega
   have HR:=vl <| H2.out fun i hi=>hno i (by omega);go_wp2;go_ret;exact⟨by rw[HR.out];rfl,HB.out.2.2⟩
def I32s (w:World)(S:Nat->Prop)(v:Value)(l:List Nat):Prop:=
 ∃ao cap,v=.slice ao l.length cap∧l.length<=cap∧cap<=maxLen∧∀i,i<l.length->∃b o,ao=some ⟨b,o,none⟩∧S b∧w.cell? ⟨b,o+i,none⟩=some (.int .i32 ((l.getD i 0:Nat):Int))
theorem I32s.keep {w w':World}{S:Nat->Prop}{v:Value}{l:List Nat}(h:I32s w S v l)(e:∀b,S b->w'.heap[b]? =w.heap[b]?):I32s w' S v l:=by
 obtain⟨ao,cap,hv,h1,h2,h3⟩:=h;refine⟨ao,cap,hv,h1,h2,fun i hi=>?_⟩;obtain⟨b,o,ha,hb,hc⟩:=h3 i hi;exact⟨b,o,ha,hb,(cell?_of_block (e b hb)).trans hc⟩
theorem I32s.mono {w:World}{S S':Nat->Prop}{v:Value}{l:List Nat}(h:I32s w S v l)(e:∀b,S b->S' b):I32s w S' v l:=by
 obtain⟨ao,cap,hv,h1,h2,h3⟩:=h;refine⟨ao,cap,hv,h1,h2,fun i hi=>?_⟩;obtain⟨b,o,ha,hb,hc⟩:=h3 i hi;exact⟨b,o,ha,e b hb,hc⟩
def zAw (rules tails:List Nat)(a b:Nat):Int:=if a=b then -1 else if tails.findIdx (fun t=>xH rules a b t)<tails.length then(tails.getD (tails.findIdx fun t=>xH rules a b t) 0:Int) else -1
theorem zDd (l:List Nat)(p:Nat->Bool)(j:Nat)(hj:j<l.length)(h:p (l.getD j 0)=true)(hn:∀i,i<j->p (l.getD i 0)=false):l.findIdx p=j:=by
 rw[List.findIdx_eq hj];rw[List.getD_eq_getElem?_getD,List.getElem?_eq_getElem hj] at h;refine⟨by simpa using h,fun i hi=>?_⟩;have:=hn i hi;rw[List.getD_eq_getElem?_getD,List.getElem?_eq_getElem (by omega)] at this;simpa using this
theorem zA6 (l:List Nat)(p:Nat->Bool)(hn:∀i,i<l.length->p (l.getD i 0)=false):l.findIdx p=l.length:=by
 rw[List.findIdx_eq_length];intro y hy;obtain⟨i,hi,rfl⟩:=List.getElem_of_mem hy;have:=hn i hi;rw[List.getD_eq_getElem?_getD,List.getElem?_eq_getElem hi] at this;simpa using this
theorem zLR (rules tails:List Nat)(a b j:Nat)(hab:a≠b)(hj:j<tails.length)(h:xH rules a b (tails.getD j 0)=true)(hn:∀i,i<j->xH rules a b (tails.getD i 0)=false):zAw rules tails a b=(tails.getD j 0:Nat):=by
 unfold zAw;rw[if_neg hab,zDd tails _ j hj h hn,if_pos hj]
theorem zJZ (rules tails:List Nat)(a b:Nat)(hn:∀i,i<tails.length->xH rules a b (tails.getD i 0)=false):zAw rules tails a b=-1:=by
 unfold zAw;rw[zA6 tails _ hn,if_neg (Nat.lt_irrefl _)];split <;> rfl
theorem zIu (rules tails:List Nat)(a b:Nat)(ht:∀t∈tails,t<16777216):zAw rules tails a b=-1∨∃t:Nat,zAw rules tails a b=t∧t<16777216:=by
 unfold zAw;by_cases h:a=b
 ·rw[if_pos h];exact .inl rfl
 ·rw[if_neg h]
  by_cases h2:tails.findIdx (fun t=>xH rules a b t)<tails.length
  ·rw[if_pos h2]
   exact .inr ⟨_,rfl,ht _ (zR _ _ 0 h2)⟩
  ·rw[if_neg h2];exact .inl rfl
theorem zCU (w:World)(p q:Nat)(rv mv:Value)(rules marks:List Nat)(hS:So w p q rv rules)(hm:w.cell? ⟨p,5,none⟩=some mv)(hM:I32s w (In w) mv marks)(hl:marks.length<=1000000000000)(hr:∀r∈marks,r<16777216)(a b:Nat)(ha:a<16777216)(hb:b<16777216):
  Calls prog 131 #[.pointer (some ⟨p,0,none⟩),.int .i64 a,.int .i64 b] w fun e w'=>e=.returned (.int .i64 (zAw rules marks a b))∧Grew w w':=by
 by_cases hab:a=b
 ·have HZ:Hid (zAw rules marks a b=-1):=by unfold zAw;rw[if_pos hab];exact rfl
  have hc:((a:Int)==(b:Int))=true:=by simp[hab]
  go_in;go_wp2;go_ret;exact⟨by rw[HZ.out];rfl,⟨rfl,rfl,Nat.le_refl _,fun _ _ _=>rfl⟩⟩
 have hc0:((a:Int)==(b:Int))=false:=by simp;omega
 obtain⟨ar,cr,rfl,_,_,hrc⟩:=hM;have HRC:Hid (∀i,i<marks.length->∃b o,ar=some ⟨b,o,none⟩∧In w b∧w.cell? ⟨b,o+i,none⟩=some (.int .i32 ((marks.getD i 0:Nat):Int))∧marks.getD i 0<16777216):=by
  intro i hi;obtain⟨b,o,h1,h0,h2⟩:=hrc i hi;exact⟨b,o,h1,h0,h2,hr _ (zR _ i 0 hi)⟩
 have HS:=vl hS;have H1:Hid (∀j,j<marks.length->xH rules a b (marks.getD j 0)=true->(∀i,i<j->xH rules a b (marks.getD i 0)=false)->zAw rules marks a b=(marks.getD j 0:Nat)):=fun j hj h hn=>zLR rules marks a b j hab hj h hn;have H2:Hid ((∀i,i<marks.length->xH rules a b (marks.getD i 0)=false)->zAw rules marks a b=-1):=fun h=>zJZ rules marks a b h;go_in;go_wp2;go_loopg [17] marks.length (fun k i wr=>∃j:Nat,k=marks.length-j∧j<=marks.length∧i=.int .i64 (j:Int)∧(∀i,i<j->xH rules a b (marks.getD i 0)=false)∧Grew w wr)
 case atStart=>exact⟨0,rfl,Nat.zero_le _,rfl,fun i hi=>by omega,⟨rfl,rfl,Nat.le_refl _,fun _ _ _=>rfl⟩⟩
 case round=>
  obtain⟨j,hgk,hj,rfl,hno,hkp⟩:=hrel;have HB:Hid (gk=marks.length-j∧(∀i,i<j->xH rules a b (marks.getD i 0)=false)∧Grew w wr):=⟨hgk,hno,hkp⟩
  by_cases hj2:j<marks.length
  ·have i1:(j:Int)<(marks.length:Int):=by omega
   obtain⟨b1,o1,rfl,hb1,hc,hlt⟩:=HRC.out j hj2;have y1:=zA hc hb1 hkp;have HL3:Hid (xH rules a b (marks.getD j 0)=true->zAw rules marks a b=(marks.getD j 0:Nat)):=fun h=>H1.out j hj2 h HB.out.2.1;have HN3:Hid (xH rules a b (marks.getD j 0)=false->∀i,i<j+1->xH rules a b (marks.getD i 0)=false):=fun h i hi=>by
    by_cases e:i=j
    ·rw[e];exact h
    ·exact HB.out.2.1 i (by omega)
   have HD:Hid (∀t:Nat,t<16777216->Calls prog 174 #[.pointer (some ⟨p,0,none⟩),.int .i64 a,.int .i64 b,.int .i64 t] wr fun e w'=>e=.returned (.bool (xH rules a b t))∧Grew w w'):=fun t ht=>by
    refine((HS.out.grown HB.out.2.2).differ a b t ha hb ht).mono ?_;rintro e w2 ⟨rfl,hk2⟩;exact⟨rfl,HB.out.2.2.trans (hk2.lower HB.out.2.2.size HB.out.2.2.size)⟩
   generalize marks.getD j 0=r at *;have HD2:=HD.out r hlt;cases hd:xH rules a b r with
   |false=>
    rw[hd] at HD2;have HR:=vl <| HN3.out hd;have HD3:=vl HD2;go_wp2_with (first|(go_at_call 174;refine HD3.out.mono ?_;rintro e w5 ⟨rfl,hk5⟩))
    go_roundg (marks.length-(j+1))
    case measure=>rw[HB.out.1];omega
    case rel=>exact⟨j+1,rfl,by omega,by go_num,HR.out,hk5⟩
   |true=>
    rw[hd] at HD2;have HR:=vl <| HL3.out hd;have HD3:=vl HD2;go_wp2_with (first|(go_at_call 174;refine HD3.out.mono ?_;rintro e w5 ⟨rfl,hk5⟩))
    go_ret;exact⟨by rw[HR.out];rfl,hk5⟩
  ·have i1:(marks.length:Int)<=(j:Int):=by omega
   have HR:=vl <| H2.out fun i hi=>hno i (by omega);go_wp2;go_ret;exact⟨by rw[HR.out];rfl,HB.out.2.2⟩
def zAq (rules marks found:List Nat)(set:Nat):Nat:=found.findIdx fun o=>jI rules marks set o
theorem zHd (rules marks found:List Nat)(set:Nat):zAq rules marks found set<=found.length:=List.findIdx_le_length
theorem zEz (w:World)(p q:Nat)(rv mv fv:Value)(rules marks found:List Nat)(hS:So w p q rv rules)(hm:w.cell? ⟨p,7,none⟩=some mv)(hM:Ints w (In w) mv (marks.map fun(x:Nat)=>(x:Int)))(hl:marks.length<=1000000000000)(hr:∀r∈marks,r<16777216)(hf:w.cell? ⟨p,6,none⟩=some fv)(hF:Ints w (In w) fv (found.map fun(x:Nat)=>(x:Int)))(hl2:found.length<=1000000000000)(hr2:∀r∈found,r<16777216)(a:Nat)(ha:a<16777216):
  Calls prog 130 #[.pointer (some ⟨p,0,none⟩),.int .i64 a] w fun e w'=>e=.returned (.int .i64 (zAq rules marks found a))∧Grew w w':=by
 have hF':=hF;obtain⟨ar,cr,hrv,_,_,hrc⟩:=hF;rw[List.length_map] at hrv;subst hrv;have HRC:Hid (∀i,i<found.length->∃b o,ar=some ⟨b,o,none⟩∧In w b∧w.cell? ⟨b,o+i,none⟩=some (.int .i64 ((found.getD i 0:Nat):Int))∧found.getD i 0<16777216):=by
  intro i hi;obtain⟨b,o,h1,h0,h2⟩:=hrc i (by rw[List.length_map];exact hi);refine⟨b,o,h1,h0,?_,hr2 _ (zR _ i 0 hi)⟩;rw[List.getD_eq_getElem?_getD,List.getElem?_map,List.getElem?_eq_getElem hi] at h2;rw[List.getD_eq_getElem?_getD,List.getElem?_eq_getElem hi];exact h2
 have hpl:=hS.lp;have HAC:Hid (∀wr,Grew w wr->∀b:Nat,b<16777216->Calls prog 173 #[.pointer (some ⟨p,0,none⟩),.int .i64 a,.int .i64 b] wr fun e w'=>e=.returned (.bool (jI rules marks a b))∧Grew w w'):=fun wr hk b hb=>by
  refine(zDz wr p q rv mv rules marks (hS.grown hk) (zA hm hpl hk) (hM.grown hk) hl hr a b ha hb).mono ?_;rintro e w2 ⟨rfl,hk2⟩;exact⟨rfl,hk.trans (hk2.lower hk.size hk.size)⟩
 have H1:Hid (∀j,j<found.length->jI rules marks a (found.getD j 0)=true->(∀i,i<j->jI rules marks a (found.getD i 0)=false)->zAq rules marks found a=j):=fun j hj h hn=>zDd found _ j hj h hn;have H2:Hid ((∀i,i<found.length->jI rules marks a (found.getD i 0)=false)->zAq rules marks found a=found.length):=fun h=>zA6 found _ h;go_in;go_wp2;go_loopg [12] found.length (fun k i wr=>∃j:Nat,k=found.length-j∧j<=found.length∧i=.int .i64 (j:Int)∧(∀i,i<j->jI rules marks a (found.getD i 0)=false)∧Grew w wr)
 case atStart=>exact⟨0,rfl,Nat.zero_le _,rfl,fun i hi=>by omega,⟨rfl,rfl,Nat.le_refl _,fun _ _ _=>rfl⟩⟩
 case round=>
  obtain⟨j,hgk,hj,rfl,hno,hkp⟩:=hrel;have HB:Hid (gk=found.length-j∧(∀i,i<j->jI rules marks a (found.getD i 0)=false)∧Grew w wr):=⟨hgk,hno,hkp⟩
  by_cases hj2:j<found.length
  ·have i1:(j:Int)<(found.length:Int):=by omega
   obtain⟨b1,o1,rfl,hb1,hc,hlt⟩:=HRC.out j hj2;have y1:=zA hc hb1 hkp;have HL3:Hid (jI rules marks a (found.getD j 0)=true->zAq rules marks found a=j):=fun h=>H1.out j hj2 h HB.out.2.1;have HN3:Hid (jI rules marks a (found.getD j 0)=false->∀i,i<j+1->jI rules marks a (found.getD i 0)=false):=fun h i hi=>by
    by_cases e:i=j
    ·rw[e];exact h
    ·exact HB.out.2.1 i (by omega)
   have HD:=vl <| HAC.out wr hkp;generalize found.getD j 0=r at *;have HD2:=HD.out r hlt;cases hd:jI rules marks a r with
   |false=>
    rw[hd] at HD2;have HR:=vl <| HN3.out hd;have HD3:=vl HD2;go_wp2_with (first|(go_at_call 173;refine HD3.out.mono ?_;rintro e w5 ⟨rfl,hk5⟩))
    go_roundg (found.length-(j+1))
    case measure=>rw[HB.out.1];omega
    case rel=>exact⟨j+1,rfl,by omega,by go_num,HR.out,hk5⟩
   |true=>
    rw[hd] at HD2;have HR:=vl <| HL3.out hd;have HD3:=vl HD2;go_wp2_with (first|(go_at_call 173;refine HD3.out.mono ?_;rintro e w5 ⟨rfl,hk5⟩))
    go_ret;exact⟨by rw[HR.out];rfl,hk5⟩
  ·have i1:(found.length:Int)<=(j:Int):=by omega
   have y9:=zA hf hpl hkp;have HR:=vl <| H2.out fun i hi=>hno i (by omega);go_wp2;go_ret;exact⟨by rw[HR.out];rfl,HB.out.2.2⟩
section
structure KeepX (X:Nat->Prop)(w w':World):Prop where
 os:w'.os=w.os
 output:w'.output=w.output
 size:w.heap.size<=w'.heap.size
 block:∀k,X k->w'.heap[k]? =w.heap[k]?
theorem KeepX.refl (X:Nat->Prop)(w:World):KeepX X w w:=⟨rfl,rfl,Nat.le_refl _,fun _ _=>rfl⟩
theorem KeepX.trans {X:Nat->Prop}{w w' w'':World}(h:KeepX X w w')(h':KeepX X w' w''):KeepX X w w'':=⟨h'.os.trans h.os,h'.output.trans h.output,Nat.le_trans h.size h'.size,fun k hk=>(h'.block k hk).trans (h.block k hk)⟩
theorem KeepX.mono {X Y:Nat->Prop}{w w':World}(h:KeepX X w w')(e:∀k,Y k->X k):KeepX Y w w':=⟨h.os,h.output,h.size,fun k hk=>h.block k (e k hk)⟩
theorem Keep.kx {X:Nat->Prop}{H b:Nat}{w w':World}(h:Keep H b w w')(e:∀k,X k->k<H∧k≠b):KeepX X w w':=⟨h.os,h.output,h.size,fun k hk=>h.block k (e k hk).1 (e k hk).2⟩
def ints (l:List Nat):List Int:=l.map fun(x:Nat)=>(x:Int)
theorem zM (l:List Nat):(ints l).length=l.length:=List.length_map ..
theorem zA4 (l:List Nat)(x:Nat):ints (l++[x])=ints l++[(x:Int)]:=by simp[ints]
theorem vA (l:List Nat)(i:Nat):(ints l).getD i 0=(l.getD i 0:Nat):=by
 unfold ints;rw[List.getD_eq_getElem?_getD,List.getD_eq_getElem?_getD,List.getElem?_map];cases l[i]? <;> rfl
structure Sq where
 rules:List Nat
 tails:List Nat
 sets:List Nat
 q:Nat
 f:Nat
 lv:Value
 tv:Value
 sv:Value
 tl:Value
 rv:Value
structure Sf where
 found:List Nat
 marks:List Nat
structure SoAt (w:World)(X:Nat->Prop)(p:Nat)(s:Sq)(d:Sf)(fv mv:Value):Prop where
 blk:w.heap[p]? =some (.cells #[.pointer (some ⟨s.q,0,none⟩),s.lv,s.tv,s.sv,.pointer (some ⟨s.f,0,none⟩),s.tl,fv,mv] 176)
 own1:OwnI w 0 fv (ints d.found)
 own2:OwnI w 0 mv (ints d.marks)
 ne:∀g,fv.ownBlock=some g->some g≠mv.ownBlock
 xf:∀g,X g->some g≠fv.ownBlock
 xm:∀g,X g->some g≠mv.ownBlock
 xp:¬X p
 xl:∀g,X g->g<w.heap.size
 lp:p<w.heap.size
 net:w.cell? ⟨s.q,4,none⟩=some s.rv
 xq:X s.q
 rls:Ints w X s.rv (ints s.rules)
 eight:s.rules.length<=8
 rsm:∀r∈s.rules,r<16777216
 tls:I32s w X s.tl s.tails
 tsm:∀t∈s.tails,t<16777216
 tlen:s.tails.length<=16777216
 sts:Ints w X s.sv (ints s.sets)
 ssm:∀t∈s.sets,t<16777216
 fsm:∀t∈d.found,t<16777216
 msm:∀t∈d.marks,t<16777216
def zM3 (w:World)(X:Nat->Prop)(p:Nat)(s:Sq)(d:Sf):Prop:=∃fv mv,SoAt w X p s d fv mv
section
variable {w w2:World} {X:Nat->Prop} {p:Nat} {s:Sq} {d:Sf} {fv mv:Value}
theorem SoAt.grown (h:SoAt w X p s d fv mv)(hk:Grew w w2):SoAt w2 X p s d fv mv:=by
 have e:∀b,X b->w2.heap[b]? =w.heap[b]? :=fun b hb=>hk.block b (h.xl b hb) (Nat.ne_of_lt (h.xl b hb));exact⟨(hk.block _ h.lp (Nat.ne_of_lt h.lp)).trans h.blk,zJ h.own1 hk,zJ h.own2 hk,h.ne,h.xf,h.xm,h.xp,fun g hg=>Nat.lt_of_lt_of_le (h.xl g hg) hk.size,Nat.lt_of_lt_of_le h.lp hk.size,(cell?_of_block (e _ h.xq)).trans h.net,h.xq,h.rls.keep e,h.eight,h.rsm,h.tls.keep e,h.tsm,h.tlen,h.sts.keep e,h.ssm,h.fsm,h.msm⟩
theorem SoAt.cells (h:SoAt w X p s d fv mv):w.cell? ⟨p,0,none⟩=some (.pointer (some ⟨s.q,0,none⟩))∧w.cell? ⟨p,3,none⟩=some s.sv∧w.cell? ⟨p,4,none⟩=some (.pointer (some ⟨s.f,0,none⟩))∧w.cell? ⟨p,5,none⟩=some s.tl∧w.cell? ⟨p,6,none⟩=some fv∧w.cell? ⟨p,7,none⟩=some mv∧∀i,w.frozen? ⟨p,i,none⟩=false:=by
 refine⟨?_,?_,?_,?_,?_,?_,fun i=>?_⟩
 all_goals first|(unfold cell?;rw[h.blk];rfl)|(unfold frozen?;rw[h.blk];simp)
theorem SoAt.so (h:SoAt w X p s d fv mv):So w p s.q s.rv s.rules:=⟨h.cells.1,h.net,h.rls.mono h.xl,h.eight,h.rsm,h.lp,h.xl _ h.xq⟩
theorem SoAt.fewer {Y:Nat->Prop}(h:SoAt w X p s d fv mv)(hp:¬Y p)(hl:∀g,Y g->g<w.heap.size)(hf:∀g,Y g->some g≠fv.ownBlock)(hm:∀g,Y g->some g≠mv.ownBlock)(e:∀g,X g->Y g):SoAt w Y p s d fv mv:=
 ⟨h.blk,h.own1,h.own2,h.ne,hf,hm,hp,hl,h.lp,h.net,e _ h.xq,h.rls.mono e,h.eight,h.rsm,h.tls.mono e,h.tsm,h.tlen,h.sts.mono e,h.ssm,h.fsm,h.msm⟩
theorem zB7 {w:World}{b i e':Nat}{v x:Value}{l:List Int}{c:Array Value}(h:OwnI w 0 v l)(hb:w.heap[b]? =some (.cells c e'))(he:3≠e'):OwnI (w.setCell ⟨b,i,none⟩ x) 0 v l:=
 zD h fun k _ _ hk=>Below.heap_setCell _ _ _ _ fun e=>zL h hb he (by rw[hk];exact congrArg some (Eq.symm e))
theorem SoAt.found_app {o:Obj}{g cap n x:Nat}(h:SoAt w X p s d fv mv)(hx:x<16777216)(hn:n=d.found.length)(hown:w2.ownsRow 0 3 1 (.slice (some ⟨g,0,none⟩) (n+1) cap) (n+1) (((ints d.found).map fun x=>.int .i64 x)++[.int .i64 (x:Int)]))(hg:(w.alloc o).grownBy w2 fv.ownBlock)(hat:fv.ownBlock=some g∨w.heap.size<=g):
  SoAt (w2.setCell ⟨p,6,none⟩ (.slice (some ⟨g,0,none⟩) (n+1) cap)) X p s {d with found:=d.found++[x]} (.slice (some ⟨g,0,none⟩) (n+1) cap) mv∧KeepX X w (w2.setCell ⟨p,6,none⟩ (.slice (some ⟨g,0,none⟩) (n+1) cap)):=by
 subst hn;have hlp:=h.lp;have hpf:=zL h.own1 h.blk (by decide);have hbl:∀j,j<w.heap.size->some j≠fv.ownBlock->w2.heap[j]? =w.heap[j]? :=fun j hj hf=>(hg.block j (by simp;omega) hf).trans (Below.heap_alloc _ _ _ (by omega));have hb:=(hbl p hlp hpf).trans h.blk;have hsz:w.heap.size<=w2.heap.size:=Nat.le_trans (by simp) hg.size;have hxp:∀k,X k->k≠p:=fun k hk e=>h.xp (e ▸ hk);have e:∀k,X k->(w2.setCell ⟨p,6,none⟩ (.slice (some ⟨g,0,none⟩) (d.found.length+1) cap)).heap[k]? =w.heap[k]? :=fun k hk=>(Below.heap_setCell _ _ _ _ (hxp k hk)).trans (hbl k (h.xl k hk) (h.xf k hk));have hO1:OwnI w2 0 (.slice (some ⟨g,0,none⟩) (d.found.length+1) cap) (ints (d.found++[x])):=by
  rw[zA4];have:=zM d.found;have h2:=OwnI.snoc (l:=ints d.found) (x:=(x:Int)) (by rw[this];exact hown);rw[this] at h2;exact h2
 have hO2:=zP hg h.own2 (fun g hg e=>h.ne g e.symm hg.symm);refine⟨⟨?_,zB7 hO1 hb (by decide),zB7 hO2 hb (by decide),yU h.own2 h.ne hat,?_,h.xm,h.xp,fun k hk=>by rw[zC];exact Nat.lt_of_lt_of_le (h.xl k hk) hsz,by rw[zC];omega,(cell?_of_block (e _ h.xq)).trans h.net,h.xq,h.rls.keep e,h.eight,h.rsm,h.tls.keep e,h.tsm,h.tlen,h.sts.keep e,h.ssm,?_,h.msm⟩,⟨hg.os,hg.output,by rw[zC];exact hsz,e⟩⟩
 ·simp[setCell,Array.getElem?_modify,hb]
 ·intro k hk e
  have e1:k=g:=by simpa[Value.ownBlock] using e
  subst e1;rcases hat with ha|ha
  ·exact h.xf k hk ha.symm
  ·have:=h.xl k hk
   omega
 ·intro t ht
  rcases List.mem_append.1 ht with h1|h1
  ·exact h.fsm t h1
  ·rw[List.mem_singleton.1 h1];exact hx
theorem SoAt.marks_app {o:Obj}{g cap n x:Nat}(h:SoAt w X p s d fv mv)(hx:x<16777216)(hn:n=d.marks.length)(hown:w2.ownsRow 0 3 1 (.slice (some ⟨g,0,none⟩) (n+1) cap) (n+1) (((ints d.marks).map fun x=>.int .i64 x)++[.int .i64 (x:Int)]))(hg:(w.alloc o).grownBy w2 mv.ownBlock)(hat:mv.ownBlock=some g∨w.heap.size<=g):
  SoAt (w2.setCell ⟨p,7,none⟩ (.slice (some ⟨g,0,none⟩) (n+1) cap)) X p s {d with marks:=d.marks++[x]} fv (.slice (some ⟨g,0,none⟩) (n+1) cap)∧KeepX X w (w2.setCell ⟨p,7,none⟩ (.slice (some ⟨g,0,none⟩) (n+1) cap)):=by
 subst hn;have hlp:=h.lp;have hpf:=zL h.own2 h.blk (by decide);have hbl:∀j,j<w.heap.size->some j≠mv.ownBlock->w2.heap[j]? =w.heap[j]? :=fun j hj hf=>(hg.block j (by simp;omega) hf).trans (Below.heap_alloc _ _ _ (by omega));have hb:=(hbl p hlp hpf).trans h.blk;have hsz:w.heap.size<=w2.heap.size:=Nat.le_trans (by simp) hg.size;have hxp:∀k,X k->k≠p:=fun k hk e=>h.xp (e ▸ hk);have e:∀k,X k->(w2.setCell ⟨p,7,none⟩ (.slice (some ⟨g,0,none⟩) (d.marks.length+1) cap)).heap[k]? =w.heap[k]? :=fun k hk=>(Below.heap_setCell _ _ _ _ (hxp k hk)).trans (hbl k (h.xl k hk) (h.xm k hk));have hO1:OwnI w2 0 (.slice (some ⟨g,0,none⟩) (d.marks.length+1) cap) (ints (d.marks++[x])):=by
  rw[zA4];have:=zM d.marks;have h2:=OwnI.snoc (l:=ints d.marks) (x:=(x:Int)) (by rw[this];exact hown);rw[this] at h2;exact h2
 have hO2:=zP hg h.own1 h.ne;refine⟨⟨?_,zB7 hO2 hb (by decide),zB7 hO1 hb (by decide),zCc (yU h.own1 (fun g hg e=>h.ne g e.symm hg.symm) hat),h.xf,?_,h.xp,fun k hk=>by rw[zC];exact Nat.lt_of_lt_of_le (h.xl k hk) hsz,by rw[zC];omega,(cell?_of_block (e _ h.xq)).trans h.net,h.xq,h.rls.keep e,h.eight,h.rsm,h.tls.keep e,h.tsm,h.tlen,h.sts.keep e,h.ssm,h.fsm,?_⟩,⟨hg.os,hg.output,by rw[zC];exact hsz,e⟩⟩
 ·simp[setCell,Array.getElem?_modify,hb]
 ·intro k hk e
  have e1:k=g:=by simpa[Value.ownBlock] using e
  subst e1;rcases hat with ha|ha
  ·exact h.xm k hk ha.symm
  ·have:=h.xl k hk
   omega
 ·intro t ht
  rcases List.mem_append.1 ht with h1|h1
  ·exact h.msm t h1
  ·rw[List.mem_singleton.1 h1];exact hx
end
end
section
def Sq.look (s:Sq)(d:Sf)(x:Nat):Nat:=zAq s.rules d.marks d.found x
def Sq.tail (s:Sq)(d:Sf)(x:Nat):Int:=zAw s.rules s.tails x (d.found.getD (s.look d x) 0)
def Sq.kind (s:Sq)(d:Sf)(x:Nat):Nat:=if s.look d x<d.found.length then(if s.tail d x<0 then s.look d x else d.found.length) else d.found.length
def Sq.kindS (s:Sq)(d:Sf)(x:Nat):Sf:=if s.look d x<d.found.length then(if s.tail d x<0 then d else⟨d.found++[x],d.marks++[(s.tail d x).toNat]⟩) else⟨d.found++[x],d.marks⟩
theorem Sq.look_le (s:Sq)(d:Sf)(x:Nat):s.look d x<=d.found.length:=zHd _ _ _ _
section
variable {w:World} {X:Nat->Prop} {p:Nat} {s:Sq} {d:Sf} {fv mv:Value}
theorem SoAt.unmarked (h:SoAt w X p s d fv mv)(hl:d.marks.length<=1000000000000)(hl2:d.found.length<=1000000000000)(x:Nat)(hx:x<16777216):
  Calls prog 130 #[.pointer (some ⟨p,0,none⟩),.int .i64 x] w fun e w'=>e=.returned (.int .i64 (s.look d x))∧Grew w w':=
 zEz w p s.q s.rv mv fv s.rules d.marks d.found h.so h.cells.2.2.2.2.2.1 (zAB h.own2) hl h.msm h.cells.2.2.2.2.1 (zAB h.own1) hl2 h.fsm x hx
theorem SoAt.between (h:SoAt w X p s d fv mv)(a b:Nat)(ha:a<16777216)(hb:b<16777216):
  Calls prog 131 #[.pointer (some ⟨p,0,none⟩),.int .i64 a,.int .i64 b] w fun e w'=>e=.returned (.int .i64 (zAw s.rules s.tails a b))∧Grew w w':=
 zCU w p s.q s.rv s.tl s.rules s.tails h.so h.cells.2.2.2.1 (h.tls.mono h.xl) (Nat.le_trans h.tlen (by omega)) h.tsm a b ha hb
end
theorem zGN (w:World)(X:Nat->Prop)(p:Nat)(s:Sq)(d:Sf)(h:zM3 w X p s d)(hl:d.marks.length<=100000000000)(hl2:d.found.length<=100000000000)(x:Nat)(hx:x<16777216):
  Calls prog 94 #[.pointer (some ⟨p,0,none⟩),.int .i64 x] w fun e w'=>e=.returned (.int .i64 (s.kind d x))∧zM3 w' X p s (s.kindS d x)∧KeepX X w w':=by
 obtain⟨i0,hi0,hz0,hz1,hz2⟩:=info_parts yH;obtain⟨fv,mv,h⟩:=h;have HU:=vl <| h.unmarked (by omega) (by omega) x hx;obtain⟨af,cf,hfv⟩:=h.own1.form;rw[zM] at hfv;obtain⟨am,cm,hmv⟩:=h.own2.form;rw[zM] at hmv;subst hfv hmv;have HG:Hid (∀w2,Grew w w2->SoAt w2 X p s d (.slice af d.found.length cf) (.slice am d.marks.length cm)):=fun w2 hk=>h.grown hk;have HX:Hid (∀w2,Grew w w2->KeepX X w w2):=fun w2 hk=>hk.kx fun k hk2=>⟨h.xl k hk2,Nat.ne_of_lt (h.xl k hk2)⟩
 have HOf:Hid (∀w2,SoAt w2 X p s d (.slice af d.found.length cf) (.slice am d.marks.length cm)->w2.ownsRow 0 3 1 (.slice af d.found.length cf) d.found.length ((ints d.found).map fun x=>.int .i64 x)):=fun w2 h2=>by
  have:=h2.own1;unfold OwnI at this;rw[zM] at this;exact this
 have HOm:Hid (∀w2,SoAt w2 X p s d (.slice af d.found.length cf) (.slice am d.marks.length cm)->w2.ownsRow 0 3 1 (.slice am d.marks.length cm) d.marks.length ((ints d.marks).map fun x=>.int .i64 x)):=fun w2 h2=>by
  have:=h2.own2;unfold OwnI at this;rw[zM] at this;exact this
 have hle:=s.look_le d x;by_cases hk:s.look d x<d.found.length
 ·have hk2:((s.look d x:Nat):Int)<(d.found.length:Int):=by omega
  have hfl:d.found.getD (s.look d x) 0<16777216:=h.fsm _ (zR _ _ 0 hk);obtain⟨gf,rfl⟩:=h.own1.some (by rw[zM];omega);have HC:Hid (∀w2,Grew w w2->w2.cell? ⟨gf,s.look d x,none⟩=some (.int .i64 ((d.found.getD (s.look d x) 0:Nat):Int))):=fun w2 hk2=>by
   have:=(HG.out w2 hk2).own1.cell (s.look d x) (by rw[zM];exact hk);rw[vA] at this;exact this
  have HT:Hid (∀w2,Grew w w2->Calls prog 131 #[.pointer (some ⟨p,0,none⟩),.int .i64 (x:Int),.int .i64 ((d.found.getD (s.look d x) 0:Nat):Int)] w2 fun e w'=>e=.returned (.int .i64 (s.tail d x))∧Grew w w'):=fun w2 hk2=>by
   refine((HG.out w2 hk2).between x _ hx hfl).mono ?_;rintro e w3 ⟨rfl,hk3⟩;exact⟨rfl,hk2.trans (hk3.lower hk2.size hk2.size)⟩
  have hrange:Hid (s.tail d x=-1∨∃t:Nat,s.tail d x=t∧t<16777216):=zIu s.rules s.tails x _ h.tsm;by_cases ht:s.tail d x<0
  ·have HZ:Hid (s.kind d x=s.look d x∧s.kindS d x=d):=⟨by unfold Sq.kind;rw[if_pos hk,if_pos ht],by unfold Sq.kindS;rw[if_pos hk,if_pos ht]⟩
   generalize s.look d x=k at *;generalize d.found.getD k 0=y at *;generalize s.tail d x=t at *;go_in;go_wp2_with (first|(go_at_call 130;refine HU.out.mono ?_;rintro e w2 ⟨rfl,hk2⟩;have y6:=(HG.out w2 hk2).cells.2.2.2.2.1;have y8:=HC.out w2 hk2)|(go_at_call 131;refine(HT.out w2 hk2).mono ?_;rintro e w3 ⟨rfl,hk3⟩))
   go_ret;exact⟨by rw[HZ.out.1];rfl,by rw[HZ.out.2];exact⟨_,_,HG.out _ hk3⟩,HX.out _ hk3⟩
  ·obtain⟨t,hte,htl⟩:=hrange.out.resolve_left (by omega)
   have HZ:Hid (s.kind d x=d.found.length∧s.kindS d x=⟨d.found++[x],d.marks++[t]⟩):=⟨by unfold Sq.kind;rw[if_pos hk,if_neg ht],by unfold Sq.kindS;rw[if_pos hk,if_neg ht,hte];rfl⟩
   rw[hte] at HT;have ht2:¬((t:Int)<0):=by omega
   generalize s.look d x=k at *;generalize d.found.getD k 0=y at *;go_in;go_wp2_with (first|(go_at_call 130;refine HU.out.mono ?_;rintro e w2 ⟨rfl,hk2⟩;have y6:=(HG.out w2 hk2).cells.2.2.2.2.1;have y8:=HC.out w2 hk2)|(go_at_call 131;refine(HT.out w2 hk2).mono ?_;rintro e w3 ⟨rfl,hk3⟩;have HS3:=vl <| HG.out w3 hk3;have y7:=(HG.out w3 hk3).cells.2.2.2.2.2.1;have OM3:=HOm.out w3 (HG.out w3 hk3);have hp3:=(HG.out w3 hk3).lp)|(have m2:=mark1;at_builtin;refine wpList_append_lies _ rfl _ _ 45 rfl 0 3 i0 (.int .i64 0) 1 8 underlying45 hi0 hz0 hz1 hz2 rfl (by decide) _ _ _ rfl (OF5.alloc _) ⟨w4.heap.size,0,none⟩ 1 1 [.int .i64 (x:Int)] rfl rfl (zBb _ [.int .i64 (x:Int)] _ _ (zC _ _ _)) (by intro u hu;simp at hu;subst hu;rfl) (by decide) (by unfold maxLen;omega) (by omega) (by simp[zC]) _ rfl ?_;intro g2 cap2 w6 hown2 hgrow2 hat2 hlt3;have A7:=A5.1.found_app hx rfl hown2 hgrow2 (by rcases hat2 with ha|ha;exact .inl ha;right;rw[ha];simp[zC]);have hPB2:w6.heap[p]? =(w4.setCell ⟨p,7,none⟩ (.slice (some ⟨gg,0,none⟩) (d.marks.length+1) cap)).heap[p]? :=(hgrow2.block _ (by simp[zC];omega) (zL A5.1.own1 A5.1.blk (by decide))).trans (Below.heap_alloc _ _ _ (by rw[zC];omega));have t6:w6.cell? ⟨p,6,none⟩=some (.slice (some ⟨gf,0,none⟩) d.found.length cf):=(cell?_of_block hPB2).trans y9;have g6:w6.frozen? ⟨p,6,none⟩=false:=(frozen?_of_block hPB2).trans (A5.1.cells.2.2.2.2.2.2 6);have y10:(w6.setCell ⟨p,6,none⟩ (.slice (some ⟨g2,0,none⟩) (d.found.length+1) cap2)).cell? ⟨p,6,none⟩=some (.slice (some ⟨g2,0,none⟩) (d.found.length+1) cap2):=A7.1.cells.2.2.2.2.1)|(at_builtin;refine wpList_append_lies _ rfl _ _ 45 rfl 0 3 i0 (.int .i64 0) 1 8 underlying45 hi0 hz0 hz1 hz2 rfl (by decide) _ _ _ rfl (OM3.alloc _) ⟨w3.heap.size,0,none⟩ 1 1 [.int .i64 (t:Int)] rfl rfl (cell_one_new _ _ _) (by intro u hu;simp at hu;subst hu;rfl) (by decide) (by unfold maxLen;omega) (by omega) (by simp) _ rfl ?_;intro gg cap w4 hown hgrow hat hlt2;have mark1:True:=trivial;have A5:=HS3.out.marks_app htl rfl hown hgrow (by rcases hat with ha|ha;exact .inl ha;right;rw[ha];simp);have hPB:w4.heap[p]? =w3.heap[p]? :=(hgrow.block _ (by simp;omega) (zL HS3.out.own2 HS3.out.blk (by decide))).trans (Below.heap_alloc _ _ _ (by omega));have t7:w4.cell? ⟨p,7,none⟩=some (.slice am d.marks.length cm):=(cell?_of_block hPB).trans y7;have g7:w4.frozen? ⟨p,7,none⟩=false:=(frozen?_of_block hPB).trans (HS3.out.cells.2.2.2.2.2.2 7);have y9:(w4.setCell ⟨p,7,none⟩ (.slice (some ⟨gg,0,none⟩) (d.marks.length+1) cap)).cell? ⟨p,6,none⟩=some (.slice (some ⟨gf,0,none⟩) d.found.length cf):=A5.1.cells.2.2.2.2.1;have hp4:p<w4.heap.size:=Nat.lt_of_lt_of_le hp3 (Nat.le_trans (by simp) hgrow.size);have OF5:(w4.setCell ⟨p,7,none⟩ (.slice (some ⟨gg,0,none⟩) (d.marks.length+1) cap)).ownsRow 0 3 1 (.slice (some ⟨gf,0,none⟩) d.found.length cf) d.found.length ((ints d.found).map fun x=>.int .i64 x):=(by have:=A5.1.own1;unfold OwnI at this;rw[zM] at this;exact this)))
   go_ret;refine⟨?_,by rw[HZ.out.2];exact⟨_,_,A7.1⟩,((HX.out _ hk3).trans A5.2).trans A7.2⟩;rw[HZ.out.1]
   first|rfl|(simp;done)|(show _=_;congr 2;omega)
 ·have HZ:Hid (s.kind d x=d.found.length∧s.kindS d x=⟨d.found++[x],d.marks⟩):=⟨by unfold Sq.kind;rw[if_neg hk],by unfold Sq.kindS;rw[if_neg hk]⟩
  have hk2:¬(((s.look d x:Nat):Int)<(d.found.length:Int)):=by omega
  generalize s.look d x=k at *;go_in;go_wp2_with (first|(go_at_call 130;refine HU.out.mono ?_;rintro e w3 ⟨rfl,hk3⟩;have HS3:=vl <| HG.out w3 hk3;have y6:=(HG.out w3 hk3).cells.2.2.2.2.1;have OM3:=HOf.out w3 (HG.out w3 hk3);have hp3:=(HG.out w3 hk3).lp)|(at_builtin;refine wpList_append_lies _ rfl _ _ 45 rfl 0 3 i0 (.int .i64 0) 1 8 underlying45 hi0 hz0 hz1 hz2 rfl (by decide) _ _ _ rfl (OM3.alloc _) ⟨w3.heap.size,0,none⟩ 1 1 [.int .i64 (x:Int)] rfl rfl (cell_one_new _ _ _) (by intro u hu;simp at hu;subst hu;rfl) (by decide) (by unfold maxLen;omega) (by omega) (by simp) _ rfl ?_;intro gg cap w4 hown hgrow hat hlt2;have A5:=HS3.out.found_app hx rfl hown hgrow (by rcases hat with ha|ha;exact .inl ha;right;rw[ha];simp);have hPB:w4.heap[p]? =w3.heap[p]? :=(hgrow.block _ (by simp;omega) (zL HS3.out.own1 HS3.out.blk (by decide))).trans (Below.heap_alloc _ _ _ (by omega));have t7:w4.cell? ⟨p,6,none⟩=some (.slice af d.found.length cf):=(cell?_of_block hPB).trans y6;have g7:w4.frozen? ⟨p,6,none⟩=false:=(frozen?_of_block hPB).trans (HS3.out.cells.2.2.2.2.2.2 6);have y9:(w4.setCell ⟨p,6,none⟩ (.slice (some ⟨gg,0,none⟩) (d.found.length+1) cap)).cell? ⟨p,6,none⟩=some (.slice (some ⟨gg,0,none⟩) (d.found.length+1) cap):=A5.1.cells.2.2.2.2.1))
  go_ret;refine⟨?_,by rw[HZ.out.2];exact⟨_,_,A5.1⟩,(HX.out _ hk3).trans A5.2⟩;rw[HZ.out.1]
  first|rfl|(simp;done)|(show _=_;congr 2;omega)
end
section
def SoY (w:World)(X Y:Nat->Prop)(p:Nat)(s:Sq)(d:Sf):Prop:=∃fv mv,SoAt w X p s d fv mv∧∀g,Y g->g<w.heap.size∧g≠p∧some g≠fv.ownBlock∧some g≠mv.ownBlock
section
variable {w w2:World} {X Y:Nat->Prop} {p:Nat} {s:Sq} {d:Sf} {fv mv:Value}
theorem SoAt.both (h:SoAt w X p s d fv mv)(hY:∀g,Y g->g<w.heap.size∧g≠p∧some g≠fv.ownBlock∧some g≠mv.ownBlock):SoAt w (fun g=>X g∨Y g) p s d fv mv:=
 h.fewer (fun e=>e.elim h.xp fun e=>(hY p e).2.1 rfl) (fun g e=>e.elim (h.xl g) fun e=>(hY g e).1) (fun g e=>e.elim (h.xf g) fun e=>(hY g e).2.2.1) (fun g e=>e.elim (h.xm g) fun e=>(hY g e).2.2.2) (fun g e=>.inl e)
theorem SoY.call {d':Sf}(h:SoY w X Y p s d)(h':zM3 w2 (fun g=>X g∨Y g) p s d')(hk:KeepX (fun g=>X g∨Y g) w w2):SoY w2 X Y p s d':=by
 obtain⟨fv,mv,h,hY⟩:=h;obtain⟨fv',mv',h'⟩:=h';have e:∀b,X b->w2.heap[b]? =w.heap[b]? :=fun b hb=>hk.block b (.inl hb);refine⟨fv',mv',⟨h'.blk,h'.own1,h'.own2,h'.ne,fun g hg=>h'.xf g (.inl hg),fun g hg=>h'.xm g (.inl hg),h.xp,fun g hg=>h'.xl g (.inl hg),h'.lp,(cell?_of_block (e _ h.xq)).trans h.net,h.xq,h.rls.keep e,h.eight,h.rsm,h.tls.keep e,h.tsm,h.tlen,h.sts.keep e,h.ssm,h'.fsm,h'.msm⟩,fun g hg=>⟨h'.xl g (.inr hg),(hY g hg).2.1,h'.xf g (.inr hg),h'.xm g (.inr hg)⟩⟩
theorem SoY.mono {Z:Nat->Prop}(h:SoY w X Y p s d)(e:∀g,Z g->Y g):SoY w X Z p s d:=by
 obtain⟨fv,mv,h,hY⟩:=h;exact⟨fv,mv,h,fun g hg=>hY g (e g hg)⟩
theorem SoY.grown {Z:Nat->Prop}(h:SoY w X Y p s d)(hk:Grew w w2)(e:∀g,Z g->g<w2.heap.size∧(Y g∨w.heap.size<=g)):SoY w2 X Z p s d:=by
 obtain⟨fv,mv,h,hY⟩:=h;refine⟨fv,mv,h.grown hk,fun g hg=>?_⟩;obtain⟨hl,hy|hn⟩:=e g hg
 ·exact⟨hl,(hY g hy).2⟩
 ·refine⟨hl,fun e2=>by have:=h.lp;omega,fun e2=>?_,fun e2=>?_⟩
  ·have:=(h.own1.lt g e2.symm).2;omega
  ·have:=(h.own2.lt g e2.symm).2;omega
theorem SoY.app {Z:Nat->Prop}{o:Obj}{g:Nat}{v:Value}(h:SoY w X Y p s d)(hv:∀k,some k=v.ownBlock->Y k∧¬X k)(hg:(w.alloc o).grownBy w2 v.ownBlock)(hat:v.ownBlock=some g∨w.heap.size<=g)(hl:g<w2.heap.size)(hZ:∀k,Z k->Y k∨k=g):SoY w2 X Z p s d:=by
 obtain⟨fv,mv,h,hY⟩:=h;have hsz:w.heap.size<=w2.heap.size:=Nat.le_trans (by simp) hg.size;have hbl:∀j,j<w.heap.size->some j≠v.ownBlock->w2.heap[j]? =w.heap[j]? :=fun j hj hf=>(hg.block j (by simp;omega) hf).trans (Below.heap_alloc _ _ _ (by omega));have e:∀b,X b->w2.heap[b]? =w.heap[b]? :=fun b hb=>hbl b (h.xl b hb) fun e2=>(hv b e2).2 hb;have hp:=hbl p h.lp fun e2=>(hY p (hv p e2).1).2.1 rfl;have hgY:g<w.heap.size->Y g:=fun hlt=>(hv g (hat.elim (fun e=>e.symm) fun e=>by omega)).1;refine⟨fv,mv,⟨hp.trans h.blk,zD h.own1 fun k _ h2 hk=>hbl k h2 fun e2=>(hY k (hv k e2).1).2.2.1 hk.symm,zD h.own2 fun k _ h2 hk=>hbl k h2 fun e2=>(hY k (hv k e2).1).2.2.2 hk.symm,h.ne,h.xf,h.xm,h.xp,fun g hg=>Nat.lt_of_lt_of_le (h.xl g hg) hsz,Nat.lt_of_lt_of_le h.lp hsz,(cell?_of_block (e _ h.xq)).trans h.net,h.xq,h.rls.keep e,h.eight,h.rsm,h.tls.keep e,h.tsm,h.tlen,h.sts.keep e,h.ssm,h.fsm,h.msm⟩,fun k hk=>?_⟩;rcases hZ k hk with hy|rfl
 ·exact⟨Nat.lt_of_lt_of_le (hY k hy).1 hsz,(hY k hy).2⟩
 ·by_cases hlt:k<w.heap.size
  ·exact⟨hl,(hY k (hgY hlt)).2⟩
  ·refine⟨hl,fun e2=>by have:=h.lp;omega,fun e2=>?_,fun e2=>?_⟩
   ·have:=(h.own1.lt k e2.symm).2;omega
   ·have:=(h.own2.lt k e2.symm).2;omega
theorem zHW (h:SoY w X Y p s d)(hl:d.marks.length<=100000000000)(hl2:d.found.length<=100000000000)(x:Nat)(hx:x<16777216):
  Calls prog 94 #[.pointer (some ⟨p,0,none⟩),.int .i64 x] w fun e w'=>e=.returned (.int .i64 (s.kind d x))∧SoY w' X Y p s (s.kindS d x)∧KeepX (fun g=>X g∨Y g) w w':=by
 have h0:=h;obtain⟨fv,mv,h,hY⟩:=h;refine(zGN w _ p s d ⟨fv,mv,h.both hY⟩ hl hl2 x hx).mono ?_;rintro e w' ⟨rfl,h1,h2⟩;exact⟨rfl,h0.call h1 h2,h2⟩
end
def Sq.rowTo (s:Sq)(next:Nat)(d:Sf):Nat->List Nat×Sf
 |0=>([],d)
 |j+1=>((s.rowTo next d j).1++[s.kind (s.rowTo next d j).2 (next&&&s.sets.getD j 0)],s.kindS (s.rowTo next d j).2 (next&&&s.sets.getD j 0))
theorem Sq.kindS_len (s:Sq)(d:Sf)(x:Nat):(s.kindS d x).found.length<=d.found.length+1∧(s.kindS d x).marks.length<=d.marks.length+1∧d.found.length<=(s.kindS d x).found.length:=by
 unfold Sq.kindS;split
 ·split <;> simp
 ·simp
theorem Sq.rowTo_len (s:Sq)(next:Nat)(d:Sf)(j:Nat):(s.rowTo next d j).1.length=j∧(s.rowTo next d j).2.found.length<=d.found.length+j∧(s.rowTo next d j).2.marks.length<=d.marks.length+j∧d.found.length<=(s.rowTo next d j).2.found.length:=by
 induction j with
 |zero=>exact⟨rfl,Nat.le_refl _,Nat.le_refl _,Nat.le_refl _⟩
 |succ j ih=>
  have h:=s.kindS_len (s.rowTo next d j).2 (next&&&s.sets.getD j 0);unfold Sq.rowTo;simp only[List.length_append,List.length_singleton];omega
end
end Go.Proofs.YtbjcfkdnjaiclaaGreat
