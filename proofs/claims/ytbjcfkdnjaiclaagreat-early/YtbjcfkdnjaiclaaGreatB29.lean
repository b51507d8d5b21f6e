import Derived.Deep.AppendLies
import Derived.Deep.DrawnRows
import Derived.Deep.RegionHeld3
import Derived.Deep.RegionLaw
import Derived.KernelRfl
import Derived.Laws.Pointers
import Derived.OwnWalk
import Derived.StillTactics
import Derived.Test.YtbjcfkdnjaiclaaGreatProg
import Derived.WalkKit
import Derived.WalkLawsBesides
import Derived.WalkSpells
import Derived.Test.YtbjcfkdnjaiclaaGreatB0
import Derived.Test.YtbjcfkdnjaiclaaGreatB2
import Derived.Test.YtbjcfkdnjaiclaaGreatB28
/- Parts of the proof. -/
set_option linter.unusedVariables false
set_option linter.unusedSimpArgs false
set_option maxHeartbeats 4000000
set_option maxRecDepth 100000
namespace Go.Proofs.YtbjcfkdnjaiclaaGreat
open Go.RowKit Go.Proofs.Tryz Go.World
def zBs (ms:List Sm)(acts pushed:List Int)(hold n:Nat)(fo:Bool):Tb:=if !fo&&xO (aheadTo ms ms.length) (zB ms 256).2 then{zAy ms acts pushed hold n with stream:=true}.looking (aheadTo ms ms.length).toNat else zAy ms acts pushed hold n
def zMa (w:World)(ms:List Sm)(acts pushed:List Int)(hold:Nat)(fo:Bool)(e:Ending)(w':World):Prop:=
 Grew w w'∧∃L p H c n m0 m1 m2 s0 s1 s2 v0 v1 v2,e=.returned (.tuple #[.pointer (some ⟨L,0,none⟩),.agg #[.slice m0 m1 m2,.slice s0 s1 s2,.slice v0 v1 v2,.int .i64 (aheadTo ms ms.length),.bool (!fo&&xO (aheadTo ms ms.length) (zB ms 256).2),.int .i64 0],.int .i64 0])∧w'.cell? ⟨L,0,none⟩=some (.pointer (some ⟨p,0,none⟩))∧L<w'.heap.size∧w.heap.size<=L∧w.heap.size<=H∧w.heap.size<=p∧Mem w' H p c (zBs ms acts pushed hold n fo)∧(((xL ms acts pushed hold).first.itr n).spreadTo (zO ms ms.length)).2=false∧ModesOk ms∧acts.length=zQ ms ms.length∧pushed.length=acts.length
theorem ModesAt.grown {w w2:World}{v:Value}{ms:List Sm}(h:ModesAt w (In w) v ms)(hk:Grew w w2):ModesAt w2 (In w2) v ms:=by
 have h2:=h.keep (w':=w2) fun b hb=>hk.block b hb (kJ hb);obtain⟨ao,cap,hv,h3,h4,h5⟩:=h2;refine⟨ao,cap,hv,h3,h4,fun i hi=>?_⟩;obtain⟨b,o,u0,u1,u3,e1,e2,e3,e4,e5,e6,e7,e8,e9⟩:=h5 i hi;have m:∀g,In w g->In w2 g:=fun g hg=>lZ hg hk.size;exact⟨b,o,u0,u1,u3,e1,m _ e2,e3,e4,e5,e6,e7.mono m,e8.mono m,e9.mono m⟩
theorem zID (l:List Nat):∀i,i<(ints l).length->0<=(ints l).getD i 0:=fun i hi=>by
 unfold ints at hi ⊢;rw[lW,lV hi,List.getElem_map];show(0:Int)<=((l[i]'(by simpa using hi):Nat):Int);omega
theorem zHT {sh:Sh}(h:sh.there=true):∀i,i<(sh.pushesTo sh.pushed.length).length->0<=(sh.pushesTo sh.pushed.length).getD i 0:=fun i hi=>by
 have h2:=hi;rw[yX] at h2;unfold Sh.there at h;have h3:=(of_decide_eq_true h) i h2;unfold Sh.pushesTo at hi ⊢;rw[lW,lV hi,List.getElem_map,List.getElem_range];exact h3
theorem zNo (w:World)(s:ByteArray)(fo:Bool)(hs:s.size<=1048576)(m h:Nat)(h1:1<=m)(h2:m<=200)(h3:1<=h)(h4:h<=64)(sh:Sh)(hsp:jO s=.inl sh)(ms:List Sm)(hmo:xZ (1+6*s.size) sh sh.modes.length 0 m=some ms):Calls prog 30 #[.string s,.agg #[.int .i64 (m:Int),.int .i64 (h:Int),.bool fo]] w (zMa w ms (ints sh.acts) (sh.pushesTo sh.pushed.length) h fo):=by
 obtain⟨w2,hw2,HK1⟩:∃w2,w2=(w.alloc (.cells #[.int .i64 (m:Int),.int .i64 (h:Int),.bool fo] 58)).alloc (.cells #[.slice none 0 0,.slice none 0 0,.slice none 0 0,.int .i64 0,.bool false,.int .i64 0] 30)∧Hid (∀w3,Keep (w.heap.size+2) (w.heap.size+2) w2 w3->w3.heap[w.heap.size+1]? =some (.cells #[.slice none 0 0,.slice none 0 0,.slice none 0 0,.int .i64 0,.bool false,.int .i64 0] 30)∧w3.cell? ⟨w.heap.size,0,none⟩=some (.int .i64 (m:Int))∧w3.cell? ⟨w.heap.size,1,none⟩=some (.int .i64 (h:Int))∧w3.cell? ⟨w.heap.size,2,none⟩=some (.bool fo)∧Grew w w3):=⟨_,rfl,fun w3 hk=>zGJ hk⟩
 have HZ2:Hid (w2.heap.size=w.heap.size+2):=by show _=_;rw[hw2];simp
 have HRD:Hid (Calls prog 43 #[.string s] w2 (zEE w2 (1+6*s.size) (.inl sh))):=by have:=zAA w2 s hs;rw[hsp] at this;exact this
 have k1:(1:Int)<=(m:Int):=by omega
 have k2:(m:Int)<=200:=by omega
 have k3:(1:Int)<=(h:Int):=by omega
 have k4:(h:Int)<=64:=by omega
 have HMO:Hid (∀w4 mv av pv,SpecIs w4 (1+6*s.size) mv av pv sh->Calls prog 44 #[.agg #[mv,av,pv],.int .i64 (m:Int)] w4 (zL9 w4 (some ms))):=fun w4 mv av pv h=>by have:=zCu w4 (1+6*s.size) mv av pv sh h m h2;rw[hmo] at this;exact this
 have hsum:=zHC hsp;have HMK:Hid (∀w5 v mv av pv,SpecIs w5 (1+6*s.size) mv av pv sh->ModesAt w5 (In w5) v ms->Calls prog 45 #[v,av,pv,.int .i64 (h:Int)] w5 (fun e w'=>Made w5 w' e ms (ints sh.acts) (sh.pushesTo sh.pushed.length) h)∧ModesOk ms∧(ints sh.acts).length=zQ ms ms.length∧(sh.pushesTo sh.pushed.length).length=(ints sh.acts).length):=fun w5 v mv av pv hsi hM=>by
  obtain⟨hok,hrt⟩:=zLz hsi hsum h2 hmo;exact⟨zI9 w5 (In w5) v av pv ms (ints sh.acts) (sh.pushesTo sh.pushed.length) h hM hsi.acts hsi.pushes (fun k hk=>hk) hok (by rw[zM,hrt]) (by rw[zM,yX];exact hsi.ok.same) (zID _) (zHT hsi.there),hok,by rw[zM,hrt],by rw[zM,yX];exact hsi.ok.same⟩
 clear hsp hmo hsum;go_in;apply wp_cut;intro K0 J;go_wp2;apply J.out;clear J;rw[<-hw2];clear hw2;obtain⟨-,p0,p1,p2,-⟩:=HK1.out w2 (Keep.refl _ _ _);apply wp_cut;intro K0 J;go_wp2;apply J.out;clear J;clear p0 p1 p2;apply wp_cut;intro K0 J;go_wp2_with (first|(go_at_call 43;refine HRD.out.mono ?_;rintro e w3 ⟨hk3,mv,av,pv,rfl,hsi⟩;obtain⟨⟨am,cm,e1⟩,⟨aa,ca,e2⟩,⟨ap,cp,e3⟩⟩:=hsi.forms;subst e1 e2 e3))
 apply J.out;clear J;obtain⟨w4,hw4,y0,y1,y2,K4⟩:∃w4,w4=w3.alloc (.cells #[.slice am sh.modes.length cm,.slice aa sh.acts.length ca,.slice ap sh.pushed.length cp] 79)∧w4.cell? ⟨w3.heap.size,0,none⟩=some (.slice am sh.modes.length cm)∧w4.cell? ⟨w3.heap.size,1,none⟩=some (.slice aa sh.acts.length ca)∧w4.cell? ⟨w3.heap.size,2,none⟩=some (.slice ap sh.pushed.length cp)∧Hid (Keep (w.heap.size+2) (w.heap.size+2) w2 w4∧SpecIs w4 (1+6*s.size) (.slice am sh.modes.length cm) (.slice aa sh.acts.length ca) (.slice ap sh.pushed.length cp) sh∧w3.heap.size<w4.heap.size∧w.heap.size+2<=w4.heap.size):=by
  have h5:Keep (w.heap.size+2) (w.heap.size+2) w2 w3:=by rw[<-HZ2.out];exact hk3
  have h6:w.heap.size+2<=w3.heap.size:=by have:=hk3.size;rw[HZ2.out] at this;exact this
  have hn:=gG w3 (.cells #[.slice am sh.modes.length cm,.slice aa sh.acts.length ca,.slice ap sh.pushed.length cp] 79);refine⟨_,rfl,?_,?_,?_,h5.trans (kZ _ _ h6),hsi.grown (kZ _ _ lQ),by simp,by simp;omega⟩
  all_goals (unfold cell?;rw[hn];rfl)
 rw[<-hw4];clear hw4 hk3 hsi HRD;apply wp_cut;intro K0 J;go_wp2;apply J.out;clear J;obtain⟨-,l0,-,-,-⟩:=HK1.out w4 K4.out.1;obtain⟨B,hB⟩:∃B,B=w3.heap.size:=⟨_,rfl⟩
 have HBL:Hid (B<w4.heap.size):=by show B<_;rw[hB];exact K4.out.2.2.1
 rw[<-hB] at y0 y1 y2 ⊢;clear hB;apply wp_cut;intro K0 J;go_wp2_with (first|(go_at_call 44;refine(HMO.out w4 _ _ _ K4.out.2.1).mono ?_;rintro e w5 ⟨hk5,v5,rfl,hM5⟩;obtain⟨a5,c5,e5,-⟩:=id hM5;subst e5))
 apply J.out;clear J;apply wp_cut;intro K0 J;go_wp2;apply J.out;clear J;have K5:Hid (Keep (w.heap.size+2) (w.heap.size+2) w2 w5∧SpecIs w5 (1+6*s.size) (.slice am sh.modes.length cm) (.slice aa sh.acts.length ca) (.slice ap sh.pushed.length cp) sh∧w.heap.size+2<=w5.heap.size∧ModesAt w5 (In w5) (.slice a5 ms.length c5) ms):=⟨K4.out.1.trans (hk5.lower K4.out.2.2.2 K4.out.2.2.2),K4.out.2.1.grown hk5,lY K4.out.2.2.2 hk5.size,hM5⟩
 have x1:=zA y1 HBL.out hk5;have x2:=zA y2 HBL.out hk5;obtain⟨-,-,l1,-,-⟩:=HK1.out w5 K5.out.1;obtain⟨hmk,hok,hal⟩:=HMK.out w5 _ _ _ _ K5.out.2.1 hM5;have HMK2:=vl hmk;have HOK:Hid (ModesOk ms∧(ints sh.acts).length=zQ ms ms.length∧(sh.pushesTo sh.pushed.length).length=(ints sh.acts).length):=⟨hok,hal⟩
 clear l0 y0 y1 y2 hk5 hM5 HMO HMK hmk hok hal K4 HBL;apply wp_cut;intro K0 J;go_wp2_with (first|(go_at_call 45;refine HMK2.out.mono ?_;rintro e w6 ⟨p,H,cc,n,rfl,hp6,hH6,hMem,hsp6,hk6⟩))
 apply J.out;clear J;have K6:Hid (Keep (w.heap.size+2) (w.heap.size+2) w2 w6∧w.heap.size+2<=w6.heap.size∧ModesAt w6 (In w6) (.slice a5 ms.length c5) ms∧w.heap.size+2<=p∧w.heap.size+2<=H∧Mem w6 H p cc (zAy ms (ints sh.acts) (sh.pushesTo sh.pushed.length) h n)∧(((xL ms (ints sh.acts) (sh.pushesTo sh.pushed.length) h).first.itr n).spreadTo (zO ms ms.length)).2=false):=⟨K5.out.1.trans (hk6.lower K5.out.2.2.1 K5.out.2.2.1),lY K5.out.2.2.1 hk6.size,K5.out.2.2.2.grown hk6,lY K5.out.2.2.1 hp6,lY K5.out.2.2.1 hH6,hMem,hsp6⟩
 have y7:w6.cell? ⟨p,7,none⟩=some (.int .i64 ((zB ms 256).2:Nat)):=by
  have e7:=hMem.tp.get_count;rw[hMem.count] at e7;have ec:(zAy ms (ints sh.acts) (sh.pushesTo sh.pushed.length) h n).count=(zB ms 256).2:=by
   show((xL ms (ints sh.acts) (sh.pushesTo sh.pushed.length) h).first.itr n).count=_;rw[zA8];rfl
  rw[ec] at e7;exact e7
 obtain⟨-,-,-,l2,-⟩:=HK1.out w6 K6.out.1;have HRP:Hid (∀wq,Grew w6 wq->Calls prog 46 #[.slice a5 ms.length c5,.int .i64 ((zB ms 256).2:Nat),.bool fo] wq fun e w'=>∃m0 m1 m2 s0 s1 s2 v0 v1 v2,e=.returned (.agg #[.slice m0 m1 m2,.slice s0 s1 s2,.slice v0 v1 v2,.int .i64 (aheadTo ms ms.length),.bool (!fo&&xO (aheadTo ms ms.length) (zB ms 256).2),.int .i64 0])∧Grew wq w'):=fun wq hq=>(zGI wq _ ms (K6.out.2.2.1.grown hq) HOK.out.1 (zB ms 256).2 (vA ms 256).2 fo).mono (by rintro e w7 ⟨mo,sv,ev,rfl,hsv,hev,hk7,a,n,c,rfl⟩;obtain⟨s0,s1,rfl⟩:=OwnB.form hsv;obtain⟨v0,v1,rfl⟩:=OwnB.form hev;exact⟨a,n,c,s0,_,s1,v0,_,v1,rfl,hk7⟩);have HQ:Hid (∀w8,Grew w6 w8->((!fo&&xO (aheadTo ms ms.length) (zB ms 256).2)=true->Calls prog 47 #[.pointer (some ⟨p,0,none⟩),.int .i64 (aheadTo ms ms.length)] w8 (fun e w9=>e=.returned (.tuple #[])∧(fun w9=>∃c,Mem w9 H p c (zBs ms (ints sh.acts) (sh.pushesTo sh.pushed.length) h n fo)) w9∧Keep w8.heap.size p w8 w9))∧((!fo&&xO (aheadTo ms ms.length) (zB ms 256).2)=false->(fun w9=>∃c,Mem w9 H p c (zBs ms (ints sh.acts) (sh.pushesTo sh.pushed.length) h n fo)) w8)):=fun w8 hk8=>by
  refine⟨fun hst=>?_,fun hst=>?_⟩
  ·have hgt:zBs ms (ints sh.acts) (sh.pushesTo sh.pushed.length) h n fo={zAy ms (ints sh.acts) (sh.pushesTo sh.pushed.length) h n with stream:=true}.looking (aheadTo ms ms.length).toNat:=by unfold zBs;rw[if_pos hst]
   have h5:=hst;rw[Bool.and_eq_true] at h5;have h6:=h5.2;unfold xO at h6;rw[Bool.and_eq_true] at h6;have h7:0<=aheadTo ms ms.length:=of_decide_eq_true h6.1;have h8:zG (zB ms 256).2 (aheadTo ms ms.length).toNat<=3000:=of_decide_eq_true h6.2;have h9:=(zFG ms HOK.out.1 ms.length lQ).2;have hok:=zJf (t:=(xL ms (ints sh.acts) (sh.pushesTo sh.pushed.length) h).first) ((zCE ms (ints sh.acts) (sh.pushesTo sh.pushed.length) h HOK.out.1 HOK.out.2.1).withLive _) n;have hcn:(zAy ms (ints sh.acts) (sh.pushesTo sh.pushed.length) h n).count=(zB ms 256).2:=by
    show((xL ms (ints sh.acts) (sh.pushesTo sh.pushed.length) h).first.itr n).count=_;rw[zA8];rfl
   have hst1:1<=(zAy ms (ints sh.acts) (sh.pushesTo sh.pushed.length) h n).nst:=by
    show 1<=((xL ms (ints sh.acts) (sh.pushesTo sh.pushed.length) h).first.itr n).nst;rw[zG2];exact lY (HOK.out.1.states1 0 HOK.out.1.one) (by have:=qJ ms 1 ms.length HOK.out.1.one;have e:zO ms 1=(ms[0]'HOK.out.1.one).next.length:=(by simp[zO,lW,lV HOK.out.1.one]);rw[e] at this;exact this)
   have:=zDL w8 H p cc _ (K6.out.2.2.2.2.2.1.grown hk8) ⟨hok.1,hok.2,hok.3,hok.4⟩ hst1 (by rw[hcn];exact zCN ms 256 (by decide)) (aheadTo ms ms.length).toNat (by omega) (by rw[hcn];exact h8)
   rw[Int.toNat_of_nonneg h7] at this;refine this.mono ?_;rintro e w9 ⟨rfl,c',hM,hk⟩;exact⟨rfl,⟨c',by rw[hgt];exact hM⟩,hk⟩
  ·have hgt:zBs ms (ints sh.acts) (sh.pushesTo sh.pushed.length) h n fo=zAy ms (ints sh.acts) (sh.pushesTo sh.pushed.length) h n:=by unfold zBs;rw[if_neg (by rw[hst];decide)]
   exact⟨cc,by rw[hgt];exact K6.out.2.2.2.2.2.1.grown hk8⟩
 obtain⟨hB6,-⟩:=HK1.out w6 K6.out.1;refine zNq w w6 _ (fun w9=>∃c,Mem w9 H p c (zBs ms (ints sh.acts) (sh.pushesTo sh.pushed.length) h n fo)) p a5 ms.length c5 (zB ms 256).2 (aheadTo ms ms.length) (!fo&&xO (aheadTo ms ms.length) (zB ms 256).2) fo hB6 K6.out.2.1 K6.out.2.2.2.2.2.1.tp.lt (by have:=K6.out.2.2.2.1;omega) y7 l2 HRP.out HQ.out ?_;intro m0 m1 m2 s0 s1 s2 v0 v1 v2 w8 w9 wz L hk8 hk9 hq ho hu hL1 hL2 hblk hcell;obtain⟨c9,hM9⟩:=hq;obtain⟨-,-,-,-,hkw⟩:=HK1.out w6 K6.out.1;have hp2:=K6.out.2.2.2.1;have hH2:=K6.out.2.2.2.2.1;have hs6:=K6.out.2.1;have hs8:=hk8.size;have hs9:=hk9.size;refine⟨hkw.trans ⟨ho.trans (hk9.os.trans hk8.os),hu.trans (hk9.output.trans hk8.output),by omega,fun k k1 _=>(hblk k (by omega) (by omega)).trans ((hk9.block k (by omega) (by omega)).trans (hk8.block k (by omega) (by omega)))⟩,L,p,H,c9,n,m0,m1,m2,s0,s1,s2,v0,v1,v2,rfl,hcell,hL2,by omega,by omega,by omega,?_,K6.out.2.2.2.2.2.2,HOK.out.1,HOK.out.2.1,HOK.out.2.2⟩;exact hM9.keep (hblk p hM9.tp.lt (by omega)) (fun k k1 k2=>hblk k k2 (by omega)) (by omega)
theorem zEP {s:ByteArray}{n k:Nat}(h:jO s=.inr (n,k)):k≠0:=by
 unfold jO at h;split at h
 ·cases h;decide
 split at h
 ·cases h;decide
 split at h
 ·split at h
  ·cases h
  ·cases h;decide
 ·cases h;decide
def zMb (w:World)(G:(List Sm×Sh) ⊕ (Nat×Nat))(hold:Nat)(fo:Bool)(e:Ending)(w':World):Prop:=match G with
 | .inr (n,k)=>k≠0∧zIE w n k e w'
 | .inl (ms,sh)=>zMa w ms (ints sh.acts) (sh.pushesTo sh.pushed.length) hold fo e w'
theorem zB2 (w:World)(s:ByteArray)(hs:s.size<=1048576)(st ho:Int)(fo:Bool):Calls prog 30 #[.string s,.agg #[.int .i64 st,.int .i64 ho,.bool fo]] w (zMb w (zAP s st ho) ho.toNat fo):=by
 have hno:∀{n k:Nat},k≠0->zAP s st ho=.inr (n,k)->Calls prog 30 #[.string s,.agg #[.int .i64 st,.int .i64 ho,.bool fo]] w (zIE w n k)->Calls prog 30 #[.string s,.agg #[.int .i64 st,.int .i64 ho,.bool fo]] w (zMb w (zAP s st ho) ho.toNat fo):=by
  intro n k hk hg hc;rw[hg];exact hc.mono fun e w' h=>⟨hk,h⟩
 by_cases h1:st<1
 ·exact hno (by decide) (by unfold zAP yJ;rw[if_pos (by simp[h1])]) (zEC w s st ho fo (.inl h1))
 have h1':1<=st:=by omega
 by_cases h2:200<st
 ·exact hno (by decide) (by unfold zAP yJ;rw[if_pos (by simp[h2])]) (zEC w s st ho fo (.inr (.inl ⟨h1',h2⟩)))
 have h2':st<=200:=by omega
 by_cases h3:ho<1
 ·exact hno (by decide) (by unfold zAP yJ;rw[if_pos (by simp[h3])]) (zEC w s st ho fo (.inr (.inr (.inl ⟨h1',h2',h3⟩))))
 have h3':1<=ho:=by omega
 by_cases h4:64<ho
 ·exact hno (by decide) (by unfold zAP yJ;rw[if_pos (by simp[h4])]) (zEC w s st ho fo (.inr (.inr (.inr ⟨h1',h2',h3',h4⟩))))
 have h4':ho<=64:=by omega
 have hb:yJ st ho=false:=by unfold yJ;simp[h1,h2,h3,h4]
 have hg:zAP s st ho=match jO s with
   | .inr e=>.inr e
   | .inl sh=>match xZ (1+6*s.size) sh sh.modes.length 0 st.toNat with
    |none=>.inr (0,5)
    |some ms=>.inl (ms,sh):=by
  unfold zAP;rw[hb];rfl
 obtain⟨m,rfl⟩:∃m:Nat,st=m:=⟨st.toNat,by omega⟩
 obtain⟨h,rfl⟩:∃h:Nat,ho=h:=⟨ho.toNat,by omega⟩
 cases hsp:jO s with
 |inr e=>
  obtain⟨n,k⟩:=e;rw[hsp] at hg;exact hno (zEP hsp) hg (zLM w s m h fo hs h1' h2' h3' h4' n k (zEP hsp) hsp)
 |inl sh=>
  rw[hsp] at hg;cases hmo:xZ (1+6*s.size) sh sh.modes.length 0 m with
  |none=>
   have hg2:zAP s m h=.inr (0,5):=by rw[hg];show(match xZ (1+6*s.size) sh sh.modes.length 0 m with|none=>_|some ms=>_)=_;rw[hmo]
   exact hno (by decide) hg2 (zJj w s fo hs m h (by omega) (by omega) (by omega) (by omega) sh hsp hmo)
  |some ms=>
   have hg2:zAP s m h=.inl (ms,sh):=by rw[hg];show(match xZ (1+6*s.size) sh sh.modes.length 0 m with|none=>_|some ms=>_)=_;rw[hmo]
   rw[hg2];exact zNo w s fo hs m h (by omega) (by omega) (by omega) (by omega) sh hsp ms hmo
theorem zHr (kinds:Nat)(hk:1<=kinds)(a:Nat)(h:zG kinds a<=3000):2^a<=zG kinds a:=by
 induction a with
 |zero=>exact lQ
 |succ a ih=>
  rw[zG] at h ⊢;split at h
  ·rename_i h1
   rw[if_pos h1];have:=ih h1;rw[Nat.pow_succ];exact Nat.mul_le_mul this (by omega)
  ·exact absurd h (by assumption)
theorem zLh (kinds:Nat)(hk:1<=kinds)(a:Nat)(h:zG kinds a<=3000):a<12:=by
 have h1:=zHr kinds hk a h;by_cases e:a<12
 ·exact e
 ·have h2:2^12<=2^a:=kG (by decide) (by omega)
  have h3:(2:Nat)^12=4096:=by decide
  omega
structure Tb.Made0 (t:Tb):Prop where
 ok:t.OkN
 hold0:1<=t.hold
 hold:t.hold<=64
 nst:1<=t.nst
 count:1<=t.count
 mode1:1<=t.nmode
 mode2:t.nmode<=3
 rule1:1<=t.nrule
 rule2:t.nrule<=8
 act:∀i,i<t.nrule->t.act i<4
 start:∀i,i<t.nmode->t.start i<t.nst
 push:∀i,i<t.nrule->t.push i<t.nmode
 kind:∀c,c<256->t.kind c<t.count
theorem Tb.Made0.fine {t:Tb}(h:t.Made0)(a:Nat)(hw:zG t.count a<=3000):(t.looking a).Fine:=by
 have h1:=zHr t.count h.count a hw;have h2:=zLh t.count h.count a hw;have h3:1<=2^a:=Nat.one_le_two_pow;have h4:=Nat.mul_le_mul hw h.ok.nst;have h5:1*1<=zG t.count a*t.nst:=Nat.mul_le_mul (by omega) h.nst;refine⟨⟨?_,h.hold0,h.hold,h.ok.count,?_,hw,h.ok.nst,h.mode1,?_,h.start,h.push,h.kind,h.ok.next,h.ok.ends,fun i _=>zEd _ _ _⟩,h.nst,h.count,?_,?_,h.rule1,h.rule2,h.mode2,h.act⟩
 ·show a<64
  omega
 ·show 1<=zG t.count a
  omega
 ·show zG t.count a*t.nst<=8*((zG t.count a*t.nst+7)/8)
  omega
 ·show 1<=(zG t.count a*t.nst+7)/8
  omega
 ·show(zG t.count a*t.nst+7)/8<=75000
  omega
theorem zIQ {ms:List Sm}(h:ModesOk ms):1<=zO ms ms.length:=by
 have h1:=qJ ms 1 ms.length h.one;have e:zO ms 1=(ms[0]'h.one).next.length:=by simp[zO,lW,lV h.one]
 have:=h.states1 0 h.one;omega
theorem zK8 {ms:List Sm}{acts pushed:List Int}{hold:Nat}(h:ModesOk ms)(ha:acts.length=zQ ms ms.length)(h1:1<=hold)(h2:hold<=64)(h3:∀i,i<acts.length->(acts.getD i 0).toNat<4)(h4:∀i,i<acts.length->(pushed.getD i 0).toNat<ms.length)(f:Nat->Bool):({xL ms acts pushed hold with live:=f}:Tb).Made0:=by
 have ok:=(zCE ms acts pushed hold h ha).withLive f;obtain⟨b1,-,-⟩:=zB0 ms h ms.length lQ;obtain⟨s1,-⟩:=zAI (zB ms 256).1 ms h ms.length lQ;refine⟨ok,h1,h2,zIQ h,zCN ms 256 (by decide),h.one,h.three,?_,?_,h3,fun i hi=>?_,h4,fun c hc=>?_⟩
 ·show 1<=acts.length
  rw[ha];exact h.rules1
 ·show acts.length<=8
  rw[ha];exact h.rules8
 ·have hi':i<ms.length:=hi
  have:=b1 _ (zR (zS (zB ms 256).1 ms ms.length).starts i 0 (by omega));show((zS (zB ms 256).1 ms ms.length).starts.getD i 0).toNat<zO ms ms.length;omega
 ·have:=zDO ms 256 c hc
  show((zB ms 256).1.getD c 0).toNat<(zB ms 256).2;omega
theorem zKK {ms:List Sm}{acts pushed:List Int}{hold:Nat}(h:ModesOk ms)(ha:acts.length=zQ ms ms.length)(h1:1<=hold)(h2:hold<=64)(h3:∀i,i<acts.length->(acts.getD i 0).toNat<4)(h4:∀i,i<acts.length->(pushed.getD i 0).toNat<ms.length)(n:Nat)(fo:Bool):(zBs ms acts pushed hold n fo).Fine:=by
 have hb:((xL ms acts pushed hold).first.itr n).Made0:=by rw[zDh];exact zK8 h ha h1 h2 h3 h4 _
 have hc:((xL ms acts pushed hold).first.itr n).count=(zB ms 256).2:=by rw[zA8];rfl
 unfold zBs;split
 ·rename_i hs
  rw[Bool.and_eq_true] at hs;have h5:=hs.2;unfold xO at h5;rw[Bool.and_eq_true] at h5;have h6:({zAy ms acts pushed hold n with stream:=true}:Tb).Made0:=⟨⟨hb.ok.1,hb.ok.2,hb.ok.3,hb.ok.4⟩,hb.2,hb.3,hb.4,hb.5,hb.6,hb.7,hb.8,hb.9,hb.10,hb.11,hb.12,hb.13⟩
  exact h6.fine _ (by show zG ((xL ms acts pushed hold).first.itr n).count _<=3000;rw[hc];exact of_decide_eq_true h5.2)
 ·exact hb.fine 0 (by rw[zBK];decide)
theorem zHA (t:Tb)(s:Nat)(h:(t.spreadTo s).2=false):(t.spreadTo s).1=t:=by
 induction s with
 |zero=>rfl
 |succ s ih=>
  rw[Tb.spreadTo] at h ⊢;split at h
  ·cases h
  ·rename_i h1
   rw[if_neg h1];exact ih h
theorem zGm (t:Tb)(n:Nat)(h:((t.itr n).spreadTo t.nst).2=false)(k:Nat):t.itr (n+k)=t.itr n:=by
 induction k with
 |zero=>rfl
 |succ k ih=>
  show((t.itr (n+k)).spreadTo t.nst).1=t.itr n;rw[ih];exact zHA _ _ h
theorem zMz (t:Tb)(n m:Nat)(hn:((t.itr n).spreadTo t.nst).2=false)(hm:((t.itr m).spreadTo t.nst).2=false):t.itr n=t.itr m:=by
 rcases Nat.le_total n m with h|h
 ·have:=zGm t n hn (m-n)
  rw[show n+(m-n)=m by omega] at this;exact this.symm
 ·have:=zGm t m hm (n-m)
  rw[show m+(n-m)=n by omega] at this;exact this
theorem zLO (ms:List Sm)(acts pushed:List Int)(hold:Nat)(fo:Bool)(n m:Nat)(hn:(((xL ms acts pushed hold).first.itr n).spreadTo (zO ms ms.length)).2=false)(hm:(((xL ms acts pushed hold).first.itr m).spreadTo (zO ms ms.length)).2=false):zBs ms acts pushed hold n fo=zBs ms acts pushed hold m fo:=by
 have:=zMz (xL ms acts pushed hold).first n m hn hm
 unfold zBs zAy;rw[this]
theorem zFa (D:Nat)(sh:Sh):∀f j mo ms,xZ D sh f j mo=some ms->ms.length=f
 |0,_,_,ms,h=>by have e:=hU h;subst e;rfl
 |f+1,j,mo,ms,h=>by
  have h2:(match zDe D (sh.mode j).2 mo with|none=>none|some m=>(xZ D sh f (j+1) (mo-m.next.length)).map (m::·))=some ms:=h;split at h2
  ·cases h2
  ·obtain⟨l,h3,h4⟩:=Option.map_eq_some_iff.1 h2
   subst h4;exact congrArg (·+1) (zFa D sh f _ _ l h3)
theorem zKJ {s:ByteArray}{st ho:Int}{ms:List Sm}{sh:Sh}(h:zAP s st ho=.inl (ms,sh)):(∀i,i<(ints sh.acts).length->((ints sh.acts).getD i 0).toNat<4)∧(∀i,i<sh.pushed.length->((sh.pushesTo sh.pushed.length).getD i 0).toNat<ms.length)∧yJ st ho=false:=by
 unfold zAP at h;split at h
 ·cases h
 rename_i hb
 have hb':yJ st ho=false:=by cases e:yJ st ho;rfl;exact absurd e hb
 cases hsp:jO s with
 |inr e=>rw[hsp] at h;cases h
 |inl sh1=>
  rw[hsp] at h;have h2:(match xZ (1+6*s.size) sh1 sh1.modes.length 0 st.toNat with|none=>.inr (0,5)|some ms=>.inl (ms,sh1))=(.inl (ms,sh):(List Sm×Sh) ⊕ (Nat×Nat)):=h;split at h2
  ·cases h2
  rename_i ms1 hm
  cases h2
  have hl:=zFa _ _ _ _ _ _ hm;have hsum:=zHC hsp;unfold jO at hsp;split at hsp
  ·cases hsp
  split at hsp
  ·cases hsp
  split at hsp
  ·rename_i h3
   rw[Bool.and_eq_true] at h3;split at hsp
   ·have hsp2:=Sum.inl.inj hsp
    rw[hsp2] at h3;refine⟨fun i hi=>?_,fun i hi=>?_,hb'⟩
    ·rw[zM] at hi
     have:(ints sh.acts).getD i 0=((sh.acts[i]:Nat):Int):=by unfold ints;rw[lW,lV (by rw[kV];exact hi),List.getElem_map];rfl
     rw[this];exact hsum.2 _ (List.getElem_mem hi)
    ·have hp:=h3.2
     unfold Sh.haveB at hp;have hp:=(of_decide_eq_true hp).1;have:(sh.pushesTo sh.pushed.length).getD i 0=sh.pushI (sh.push i):=by unfold Sh.pushesTo;rw[lW,lV (by rw[kV,List.length_range];exact hi),List.getElem_map,List.getElem_range];rfl
     rw[this,hl];unfold Sh.pushI;split
     ·exact hp
     ·unfold Sh.modeI
      split
      ·rename_i h5;exact h5
      ·exact hp
   ·cases hsp
  ·cases hsp
def zEc (c:Int)(n:Nat):Nat:=(if c<0 then -(c+1) else c).toNat%n
theorem zE6 (c:Int)(n:Nat)(h:1<=n):zEc c n<n:=gW _ h
theorem zCL (w:World)(c:Int)(hc1:-9223372036854775808<=c)(hc2:c<=9223372036854775807)(n:Nat)(h1:1<=n)(h2:n<=1073741824):Calls prog 15 #[.int .i64 c,.int .i64 (n:Int)] w fun e w'=>e=.returned (.int .i64 (zEc c n:Nat))∧w'=w:=by
 by_cases h0:c<0
 ·have hp:Hid ((zEc c n:Int)=-((c+1).tmod n)):=by
   show _=_;unfold zEc;rw[if_pos h0,<-Int.neg_tmod,Int.tmod_eq_emod_of_nonneg (by omega),Int.natCast_emod,Int.toNat_of_nonneg (by omega)]
  go_in;go_wp2;refine bodyPost_ret (results_tmp rfl _ _ _) rfl ?_;exact⟨by rw[hp.out];rfl,rfl⟩
 ·have hp:Hid ((zEc c n:Int)=c%n):=by
   show _=_;unfold zEc;rw[if_neg h0,Int.natCast_emod,Int.toNat_of_nonneg (by omega)]
  go_in;go_wp2;refine bodyPost_ret (results_tmp rfl _ _ _) rfl ?_;exact⟨by rw[hp.out];rfl,rfl⟩
def zAq (s:ByteArray):Option (List Sm×Sh):=match zAP s 200 64 with
 | .inl x=>some x
 | .inr _=>none
theorem zKL (s:ByteArray)(h:Int)(h1:1<=h)(h2:h<=64):zAP s 200 h=zAP s 200 64:=by
 have hb:yJ 200 h=yJ 200 64:=by
  unfold yJ;rw[decide_eq_false (show¬h<1 by omega),decide_eq_false (show¬64<h by omega)];rfl
 unfold zAP;rw[hb]
structure LexIn (w:World)(B L:Nat)(x:List Sm×Sh)(hold:Nat)(fo:Bool)(t:Tb):Prop where
 fine:t.Fine
 made:∃n,t=zBs x.1 (ints x.2.acts) (x.2.pushesTo x.2.pushed.length) hold n fo∧(((xL x.1 (ints x.2.acts) (x.2.pushesTo x.2.pushed.length) hold).first.itr n).spreadTo (zO x.1 x.1.length)).2=false
 from_:B<=L
 at_:∃S p,LexAt w S L p t∧∀k,S k->B<=k
theorem LexIn.keep {w w':World}{B L:Nat}{x:List Sm×Sh}{hold:Nat}{fo:Bool}{t:Tb}(h:LexIn w B L x hold fo t)(e:∀k,B<=k->k<w.heap.size->w'.heap[k]? =w.heap[k]?)(hs:w.heap.size<=w'.heap.size):LexIn w' B L x hold fo t:=by
 obtain⟨S,p,hL,hS⟩:=h.at_;exact⟨h.fine,h.made,h.from_,S,p,⟨(cell?_of_block (e L h.from_ hL.lt)).trans hL.cell,lZ hL.lt hs,hL.tab.keep fun k hk=>e k (hS k hk) (hL.safe k hk),fun k hk=>lZ (hL.safe k hk) hs⟩,hS⟩
theorem LexIn.grown {w w':World}{B L:Nat}{x:List Sm×Sh}{hold:Nat}{fo:Bool}{t:Tb}(h:LexIn w B L x hold fo t)(e:Grew w w'):LexIn w' B L x hold fo t:=h.keep (fun k _ hk=>e.block k hk (by omega)) e.size
theorem LexIn.less {w:World}{B C L:Nat}{x:List Sm×Sh}{hold:Nat}{fo:Bool}{t:Tb}(h:LexIn w B L x hold fo t)(hc:C<=B):LexIn w C L x hold fo t:=by
 obtain⟨S,p,hL,hS⟩:=h.at_;exact⟨h.fine,h.made,lY hc h.from_,S,p,hL,fun k hk=>lY hc (hS k hk)⟩
theorem LexIn.of {w w':World}{s:ByteArray}{st:Int}{ms:List Sm}{sh:Sh}{hold:Nat}{fo:Bool}(hg:zAP s st hold=.inl (ms,sh)){L p H n:Nat}{c:Tc}(h1:w'.cell? ⟨L,0,none⟩=some (.pointer (some ⟨p,0,none⟩)))(h2:L<w'.heap.size)(h3:w.heap.size<=L)(h4:w.heap.size<=H)(h5:w.heap.size<=p)(h6:Mem w' H p c (zBs ms (ints sh.acts) (sh.pushesTo sh.pushed.length) hold n fo))(h7:(((xL ms (ints sh.acts) (sh.pushesTo sh.pushed.length) hold).first.itr n).spreadTo (zO ms ms.length)).2=false)(h8:ModesOk ms)(h9:(ints sh.acts).length=zQ ms ms.length)(h10:(sh.pushesTo sh.pushed.length).length=(ints sh.acts).length):LexIn w' w.heap.size L (ms,sh) hold fo (zBs ms (ints sh.acts) (sh.pushesTo sh.pushed.length) hold n fo):=by
 obtain⟨f1,f2,f3⟩:=zKJ hg;have hb:1<=hold∧hold<=64:=by
  unfold yJ at f3;simp only[Bool.or_eq_false_iff,decide_eq_false_iff_not] at f3;omega
 have hf:=zKK h8 h9 hb.1 hb.2 f1 (fun i hi=>f2 i (by rw[<-h10,yX] at hi;exact hi)) n fo;refine⟨hf,⟨n,rfl,h7⟩,h3,Mem.blocks w' H p,p,⟨h1,h2,h6.tabAt hf.ok.nmode hf.rule1 hf.nst hf.count hf.long1,fun k hk=>?_⟩,fun k hk=>?_⟩
 ·rcases hk with rfl|hk
  ·exact h6.tp.lt
  ·exact hk.2
 ·rcases hk with rfl|hk
  ·exact h5
  ·exact lY h4 hk.1
def zEx (x:List Sm×Sh)(fo:Bool):Bool:=!fo&&xO (aheadTo x.1 x.1.length) (zB x.1 256).2
def zM1 (w:World)(s:ByteArray)(h:Nat)(fo:Bool)(k:Int)(Q:Option Addr->Int->Bool->World->Prop):Prop:=
 Calls prog 30 #[.string s,.agg #[.int .i64 200,.int .i64 (h:Int),.bool fo]] w fun e w'=>Grew w w'∧∃x m0 m1 m2 s0 s1 s2 v0 v1 v2 AH ST LN,e=.returned (.tuple #[.pointer x,.agg #[.slice m0 m1 m2,.slice s0 s1 s2,.slice v0 v1 v2,.int .i64 AH,.bool ST,.int .i64 LN],.int .i64 k])∧Q x AH ST w'
theorem zMX (w:World):∃w0,w0=w.alloc (Obj.cells #[.slice none 0 0,.slice none 0 0,.slice none 0 0,.int .i64 0,.bool false,.int .i64 0] 30)∧Hid (∀w3,Grew w0 w3->w3.heap[w.heap.size]? =some (Obj.cells #[.slice none 0 0,.slice none 0 0,.slice none 0 0,.int .i64 0,.bool false,.int .i64 0] 30))∧Hid (w0.heap.size=w.heap.size+1∧Grew w w0):=⟨_,rfl,fun w3 hk=>(hk.block w.heap.size (by simp) (by simp)).trans (gG w _),by simp,kZ _ _ lQ⟩
theorem zMW {w w0 w1:World}{m0 s0 v0:Option Addr}{m1 m2 s1 s2 v1 v2:Nat}{AH LN:Int}{ST:Bool}(hk1:Grew w0 w1)(HZ0:Hid (w0.heap.size=w.heap.size+1∧Grew w w0)):∃w2,w2=w1.alloc (.cells #[.slice m0 m1 m2,.slice s0 s1 s2,.slice v0 v1 v2,.int .i64 AH,.bool ST,.int .i64 LN] 30)∧w2.cell? ⟨w1.heap.size,0,none⟩=some (.slice m0 m1 m2)∧w2.cell? ⟨w1.heap.size,1,none⟩=some (.slice s0 s1 s2)∧w2.cell? ⟨w1.heap.size,2,none⟩=some (.slice v0 v1 v2)∧w2.cell? ⟨w1.heap.size,3,none⟩=some (.int .i64 AH)∧w2.cell? ⟨w1.heap.size,4,none⟩=some (.bool ST)∧w2.cell? ⟨w1.heap.size,5,none⟩=some (.int .i64 LN)∧Hid (Grew w0 w2∧Grew w1 w2∧w.heap.size<w1.heap.size):=by
 have hn:=gG w1 (.cells #[.slice m0 m1 m2,.slice s0 s1 s2,.slice v0 v1 v2,.int .i64 AH,.bool ST,.int .i64 LN] 30);have ha:Grew w1 (w1.alloc (.cells #[.slice m0 m1 m2,.slice s0 s1 s2,.slice v0 v1 v2,.int .i64 AH,.bool ST,.int .i64 LN] 30)):=kZ _ _ lQ;have hz:=hk1.size;rw[HZ0.out.1] at hz;refine⟨_,rfl,?_,?_,?_,?_,?_,?_,hk1.trans (ha.lower hk1.size hk1.size),ha,by omega⟩
 all_goals (unfold cell?;rw[hn];rfl)
theorem zMV {w w2 wa:World}{m0 s0 v0:Option Addr}{m1 m2 s1 s2 v1 v2:Nat}{AH LN:Int}{ST:Bool}(hblk:wa.heap[w.heap.size]? =some (.cells #[.slice m0 m1 m2,.slice s0 s1 s2,.slice v0 v1 v2,.int .i64 AH,.bool ST,.int .i64 LN] 30))(hz:wa.heap.size=w2.heap.size)(ho:wa.os=w2.os)(hu:wa.output=w2.output)(hne:∀k,k≠w.heap.size->wa.heap[k]? =w2.heap[k]?):∃wz,wz=wa.drew∧wz.cell? ⟨w.heap.size,0,none⟩=some (.slice m0 m1 m2)∧wz.cell? ⟨w.heap.size,1,none⟩=some (.slice s0 s1 s2)∧wz.cell? ⟨w.heap.size,2,none⟩=some (.slice v0 v1 v2)∧wz.cell? ⟨w.heap.size,3,none⟩=some (.int .i64 AH)∧wz.cell? ⟨w.heap.size,4,none⟩=some (.bool ST)∧wz.cell? ⟨w.heap.size,5,none⟩=some (.int .i64 LN)∧Hid (wz.os=w2.os∧wz.output=w2.output∧wz.heap.size=w2.heap.size∧(∀k,k≠w.heap.size->wz.heap[k]? =w2.heap[k]?)):=by
 have hb2:wa.drew.heap[w.heap.size]? =some (.cells #[.slice m0 m1 m2,.slice s0 s1 s2,.slice v0 v1 v2,.int .i64 AH,.bool ST,.int .i64 LN] 30):=hblk;refine⟨_,rfl,?_,?_,?_,?_,?_,?_,ho,hu,hz,hne⟩
 all_goals (unfold cell?;rw[hb2];rfl)
theorem zNi (w:World)(s:ByteArray)(h:Nat)(fo:Bool)(Q:Option Addr->Int->Bool->World->Prop)(HG:zM1 (w.alloc (Obj.cells #[.slice none 0 0,.slice none 0 0,.slice none 0 0,.int .i64 0,.bool false,.int .i64 0] 30)) s h fo 0 Q)
  (hQ:∀x AH ST w1 w',Q x AH ST w1->(∀k,w.heap.size<k->k<w1.heap.size->w'.heap[k]? =w1.heap[k]?)->w1.heap.size<=w'.heap.size->Q x AH ST w'):
  Calls prog 16 #[.string s,.int .i64 (h:Int),.bool fo] w fun e w'=>Grew w w'∧∃x m0 m1 m2 s0 s1 s2 v0 v1 v2 AH ST LN,e=.returned (.tuple #[.pointer x,.agg #[.slice m0 m1 m2,.slice s0 s1 s2,.slice v0 v1 v2,.int .i64 AH,.bool ST,.int .i64 LN]])∧Q x AH ST w':=by
 obtain⟨w0,hw0,HB0,HZ0⟩:=zMX w;rw[<-hw0] at HG;have HGH:=vl HG;clear HG;go_in;apply wp_cut;intro K0 J;go_wp2;rw[<-hw0];apply J.out;clear J hw0;apply wp_cut;intro K0 J;go_wp2_with (first|(go_at_call 30;refine HGH.out.mono ?_;rintro e w1 ⟨hk1,x,m0,m1,m2,s0,s1,s2,v0,v1,v2,AH,ST,LN,rfl,hq⟩))
 obtain⟨w2,hw2,x0,x1,x2,x3,x4,x5,HW2⟩:=zMW (m0:=m0) (s0:=s0) (v0:=v0) (m1:=m1) (m2:=m2) (s1:=s1) (s2:=s2) (v1:=v1) (v2:=v2) (AH:=AH) (LN:=LN) (ST:=ST) hk1 HZ0;rw[<-hw2];apply J.out;clear J hw2 HGH;have HQ:=vl hq;clear hq;apply wp_cut;intro K0 J;go_wp2;apply J.out;clear J;obtain⟨r0,r1,r2,r3,r4,r5,g0,g1,g2,g3,g4,g5⟩:=vZ (HB0.out w2 HW2.out.1);have HNE:Hid (w1.heap.size≠w.heap.size):=by have:=HW2.out.2.2;show _≠_;omega
 have HQQ:=vl hQ;clear hQ;apply wp_cut;intro K0 J;go_region
 all_goals
  obtain⟨wa,hwa,hblk,hz,ho,hu,hne⟩:=zEy w2 w.heap.size (.slice m0 m1 m2) (.slice s0 s1 s2) (.slice v0 v1 v2) (.int .i64 AH) (.bool ST) (.int .i64 LN) (HB0.out w2 HW2.out.1);rw[<-hwa];obtain⟨wz,hwz,d0,d1,d2,d3,d4,d5,HW⟩:=zMV hblk hz ho hu hne;rw[<-hwz];clear hwa hwz hblk hz ho hu hne;show K0 _ _;apply J.out;clear J;go_wp2;refine bodyPost_ret (v:=.tuple #[.pointer x,.agg #[.slice m0 m1 m2,.slice s0 s1 s2,.slice v0 v1 v2,.int .i64 AH,.bool ST,.int .i64 LN]]) (by simp[results,results16,go_sem,d0,d1,d2,d3,d4,d5]) rfl ?_;have hs1:=HW2.out.1.size;have hs2:=HW2.out.2.1.size;refine⟨HZ0.out.2.trans ⟨HW.out.1.trans HW2.out.1.os,HW.out.2.1.trans HW2.out.1.output,by rw[HW.out.2.2.1];exact hs1,fun k k1 k2=>(HW.out.2.2.2 k (by omega)).trans (HW2.out.1.block k (by rw[HZ0.out.1];omega) (by rw[HZ0.out.1];omega))⟩,x,m0,m1,m2,s0,s1,s2,v0,v1,v2,AH,ST,LN,rfl,?_⟩;exact HQQ.out _ _ _ w1 wz HQ.out (fun k k1 k2=>(HW.out.2.2.2 k (by omega)).trans (HW2.out.2.1.block k k2 (by omega))) (by rw[HW.out.2.2.1];exact hs2)
theorem zNH (w:World)(s:ByteArray)(h:Nat)(fo:Bool)(k:Nat)(hk0:(k:Int)≠0)(Q:Option Addr->Int->Bool->World->Prop)(HG:zM1 (w.alloc (Obj.cells #[.slice none 0 0,.slice none 0 0,.slice none 0 0,.int .i64 0,.bool false,.int .i64 0] 30)) s h fo (k:Int) (fun _ AH ST w'=>Q none AH ST w'))
  (hQ:∀x AH ST w1 w',Q x AH ST w1->(∀k,w.heap.size<k->k<w1.heap.size->w'.heap[k]? =w1.heap[k]?)->w1.heap.size<=w'.heap.size->Q x AH ST w'):
  Calls prog 16 #[.string s,.int .i64 (h:Int),.bool fo] w fun e w'=>Grew w w'∧∃x m0 m1 m2 s0 s1 s2 v0 v1 v2 AH ST LN,e=.returned (.tuple #[.pointer x,.agg #[.slice m0 m1 m2,.slice s0 s1 s2,.slice v0 v1 v2,.int .i64 AH,.bool ST,.int .i64 LN]])∧Q x AH ST w':=by
 obtain⟨w0,hw0,HB0,HZ0⟩:=zMX w;rw[<-hw0] at HG;have HGH:=vl HG;clear HG;go_in;apply wp_cut;intro K0 J;go_wp2;rw[<-hw0];apply J.out;clear J hw0;apply wp_cut;intro K0 J;go_wp2_with (first|(go_at_call 30;refine HGH.out.mono ?_;rintro e w1 ⟨hk1,x,m0,m1,m2,s0,s1,s2,v0,v1,v2,AH,ST,LN,rfl,hq⟩))
 obtain⟨w2,hw2,x0,x1,x2,x3,x4,x5,HW2⟩:=zMW (m0:=m0) (s0:=s0) (v0:=v0) (m1:=m1) (m2:=m2) (s1:=s1) (s2:=s2) (v1:=v1) (v2:=v2) (AH:=AH) (LN:=LN) (ST:=ST) hk1 HZ0;rw[<-hw2];apply J.out;clear J hw2 HGH;have HQ:=vl hq;clear hq;apply wp_cut;intro K0 J;obtain⟨r0,r1,r2,r3,r4,r5,g0,g1,g2,g3,g4,g5⟩:=vZ (HB0.out w2 HW2.out.1);have HNE:Hid (w1.heap.size≠w.heap.size):=by have:=HW2.out.2.2;show _≠_;omega
 have HQQ:=vl hQ;clear hQ;go_wp2;go_region
 all_goals
  obtain⟨wa,hwa,hblk,hz,ho,hu,hne⟩:=zEy w2 w.heap.size (.slice m0 m1 m2) (.slice s0 s1 s2) (.slice v0 v1 v2) (.int .i64 AH) (.bool ST) (.int .i64 LN) (HB0.out w2 HW2.out.1);rw[<-hwa];obtain⟨wz,hwz,d0,d1,d2,d3,d4,d5,HW⟩:=zMV hblk hz ho hu hne;rw[<-hwz];clear hwa hwz hblk hz ho hu hne;go_wp2;refine bodyPost_ret (v:=.tuple #[.pointer none,.agg #[.slice m0 m1 m2,.slice s0 s1 s2,.slice v0 v1 v2,.int .i64 AH,.bool ST,.int .i64 LN]]) (by simp[results,results16,go_sem,d0,d1,d2,d3,d4,d5]) rfl ?_;have hs1:=HW2.out.1.size;have hs2:=HW2.out.2.1.size;refine⟨HZ0.out.2.trans ⟨HW.out.1.trans HW2.out.1.os,HW.out.2.1.trans HW2.out.1.output,by rw[HW.out.2.2.1];exact hs1,fun k k1 k2=>(HW.out.2.2.2 k (by omega)).trans (HW2.out.1.block k (by rw[HZ0.out.1];omega) (by rw[HZ0.out.1];omega))⟩,none,m0,m1,m2,s0,s1,s2,v0,v1,v2,AH,ST,LN,rfl,?_⟩;exact HQQ.out _ _ _ w1 wz HQ.out (fun k k1 k2=>(HW.out.2.2.2 k (by omega)).trans (HW2.out.2.1.block k k2 (by omega))) (by rw[HW.out.2.2.1];exact hs2)
theorem zMJ {s:ByteArray}{st ho:Int}{n k:Nat}(h:zAP s st ho=.inr (n,k)):k≠0:=by
 unfold zAP at h;split at h
 ·cases h;decide
 cases hsp:jO s with
 |inr e=>rw[hsp] at h;have h:=Sum.inr.inj h;subst h;exact zEP hsp
 |inl sh=>
  rw[hsp] at h;have h2:(match xZ (1+6*s.size) sh sh.modes.length 0 st.toNat with|none=>.inr (0,5)|some ms=>.inl (ms,sh))=(.inr (n,k):(List Sm×Sh) ⊕ (Nat×Nat)):=h;split at h2
  ·cases h2;decide
  ·cases h2
def OfQ (s:ByteArray)(h:Nat)(fo:Bool)(B:Nat)(x:Option Addr)(AH:Int)(ST:Bool)(w':World):Prop:=match zAq s with
 |none=>x=none
 |some y=>∃L t,x=some ⟨L,0,none⟩∧AH=aheadTo y.1 y.1.length∧ST=zEx y fo∧LexIn w' B L y h fo t
theorem OfQ.keep {s:ByteArray}{h:Nat}{fo:Bool}{B C:Nat}{x:Option Addr}{AH:Int}{ST:Bool}{w w':World}(q:OfQ s h fo B x AH ST w)(e:∀k,B<=k->k<w.heap.size->w'.heap[k]? =w.heap[k]?)(hs:w.heap.size<=w'.heap.size)(hc:C<=B):OfQ s h fo C x AH ST w':=by
 unfold OfQ at q ⊢;cases hl:zAq s with
 |none=>rw[hl] at q;exact q
 |some y=>
  rw[hl] at q;obtain⟨L,t,h1,h2,h3,h4⟩:=q;exact⟨L,t,h1,h2,h3,(h4.keep e hs).less hc⟩
def zNK (w:World)(s:ByteArray)(h:Nat)(fo:Bool)(e:Ending)(w':World):Prop:=Grew w w'∧∃x m0 m1 m2 s0 s1 s2 v0 v1 v2 AH ST LN,e=.returned (.tuple #[.pointer x,.agg #[.slice m0 m1 m2,.slice s0 s1 s2,.slice v0 v1 v2,.int .i64 AH,.bool ST,.int .i64 LN]])∧OfQ s h fo w.heap.size x AH ST w'
theorem zDb (w:World)(s:ByteArray)(hs:s.size<=1048576)(h:Nat)(h1:1<=h)(h2:h<=64)(fo:Bool):Calls prog 16 #[.string s,.int .i64 (h:Int),.bool fo] w (zNK w s h fo):=by
 have hg:=zB2 (w.alloc (Obj.cells #[.slice none 0 0,.slice none 0 0,.slice none 0 0,.int .i64 0,.bool false,.int .i64 0] 30)) s hs 200 (h:Int) fo;have e1:=zKL s (h:Int) (by omega) (by omega);have hz:(w.alloc (Obj.cells #[.slice none 0 0,.slice none 0 0,.slice none 0 0,.int .i64 0,.bool false,.int .i64 0] 30)).heap.size=w.heap.size+1:=by simp
 have hQ:∀x AH ST w1 w',OfQ s h fo (w.heap.size+1) x AH ST w1->(∀k,w.heap.size<k->k<w1.heap.size->w'.heap[k]? =w1.heap[k]?)->w1.heap.size<=w'.heap.size->OfQ s h fo (w.heap.size+1) x AH ST w':=fun x AH ST w1 w' q e hs=>q.keep (fun k k1 k2=>e k (by omega) k2) hs lQ;cases hm:zAP s 200 64 with
 |inr er=>
  obtain⟨n,k⟩:=er;rw[e1,hm] at hg;have hl:zAq s=none:=by unfold zAq;rw[hm]
  ·have hk:=zMJ hm
   refine(zNH w s h fo k (by omega) (OfQ s h fo (w.heap.size+1)) (hg.mono ?_) hQ).mono ?_
   ·rintro e w' ⟨-,hk',rfl⟩
    exact⟨hk',none,none,0,0,none,0,0,none,0,0,0,false,(n:Int),rfl,by unfold OfQ;rw[hl]⟩
   ·rintro e w' ⟨hk',x,m0,m1,m2,s0,s1,s2,v0,v1,v2,AH,ST,LN,rfl,hq⟩
    exact⟨hk',x,m0,m1,m2,s0,s1,s2,v0,v1,v2,AH,ST,LN,rfl,hq.keep (fun _ _ _=>rfl) lQ (by omega)⟩
 |inl y=>
  obtain⟨ms,sh⟩:=y;rw[e1,hm] at hg;have hl:zAq s=some (ms,sh):=by unfold zAq;rw[hm]
  refine(zNi w s h fo (OfQ s h fo (w.heap.size+1)) (hg.mono ?_) hQ).mono ?_
  ·rintro e w' ⟨hk',L,p,H,c,n,m0,m1,m2,s0,s1,s2,v0,v1,v2,rfl,c1,c2,c3,c4,c5,c6,c7,c8,c9,c10⟩
   refine⟨hk',_,m0,m1,m2,s0,s1,s2,v0,v1,v2,_,_,_,rfl,?_⟩;unfold OfQ;rw[hl];have hi:=LexIn.of (w:=w.alloc (Obj.cells #[.slice none 0 0,.slice none 0 0,.slice none 0 0,.int .i64 0,.bool false,.int .i64 0] 30)) (e1.trans hm) c1 c2 c3 c4 c5 c6 c7 c8 c9 c10;rw[hz] at hi;exact⟨L,_,rfl,rfl,rfl,hi⟩
  ·rintro e w' ⟨hk',x,m0,m1,m2,s0,s1,s2,v0,v1,v2,AH,ST,LN,rfl,hq⟩
   exact⟨hk',x,m0,m1,m2,s0,s1,s2,v0,v1,v2,AH,ST,LN,rfl,hq.keep (fun _ _ _=>rfl) lQ (by omega)⟩
theorem zI3 (w:World)(s:ByteArray)(hs:s.size<=1048576):Calls prog 29 #[.string s] w fun e w'=>e=.returned (.tuple #[.bool (zAq s).isNone,.bool true])∧Grew w w':=by
 have hg:=zB2 w s hs 200 64 false;cases hm:zAP s 200 64 with
 |inr er=>
  obtain⟨n,k⟩:=er;rw[hm] at hg;have HG:=vl hg;have hl:zAq s=none:=by unfold zAq;rw[hm]
  rw[hl];go_in;go_wp2_with (first|(go_at_call 30;refine HG.out.mono ?_;rintro e w1 ⟨hk0,hk1,rfl⟩;have hkb:((k:Int) != 0)=true:=by simpa using hk0))
  refine bodyPost_ret (results_tmp2 rfl _ _ _) rfl ?_;exact⟨by simp only[hkb];rfl,hk1.trans (kZ _ _ hk1.size)⟩
 |inl y=>
  obtain⟨ms,sh⟩:=y;rw[hm] at hg;have HG:=vl hg;have hl:zAq s=some (ms,sh):=by unfold zAq;rw[hm]
  rw[hl];go_in;go_wp2_with (first|(go_at_call 30;refine HG.out.mono ?_;rintro e w1 ⟨hk1,L,p,H,c,n,m0,m1,m2,s0,s1,s2,v0,v1,v2,rfl,-⟩))
  refine bodyPost_ret (results_tmp2 rfl _ _ _) rfl ?_;exact⟨rfl,hk1.trans (kZ _ _ hk1.size)⟩
section
attribute [local go_sem ↓] Go.wp_at_zero Go.wp_at_succ
theorem zJi:(prog.info? 51).map (fun i=>(i.zero,i.size,i.bytes))=some (some (.agg #[.int .i64 0,.int .i64 0,.int .i64 0,.int .i64 0,.int .i64 0,.int .i64 0]),6,48):=by kernel_rfl
theorem zDU {w w1:World}{o:Obj}{row:Option Nat}(h:(w.alloc o).drew.grownBy w1 row):w.grownBy w1 row:=
 ⟨h.os,h.tape,h.output,lY (by simp) h.size,fun k hk hne=>(h.block k (by simp;omega) hne).trans (lG w o k hk)⟩
def vG (k r f t l c:Int):List Value:=[.int .i64 k,.int .i64 r,.int .i64 f,.int .i64 t,.int .i64 l,.int .i64 c]
theorem zLl (b:Nat)(kind rule to at_ line col:Int)(ov:Value)(n base:Nat)(xs:List Value)(w:World)
  (h2:w.cell? ⟨b,2,none⟩=some ov)
  (h8:w.cell? ⟨b,8,none⟩=some (.int .i64 at_)) (h9:w.cell? ⟨b,9,none⟩=some (.int .i64 line)) (h10:w.cell? ⟨b,10,none⟩=some (.int .i64 col))
  (f2:w.frozen? ⟨b,2,none⟩=false)
  (hown:w.ownsRow base 51 6 ov n xs) (hbase:base<=w.heap.size) (hn:n+1<=maxLen) (hb:(n+1)*48<=140737488355328)
  (ag:ov.ownBlock≠some b):
  Calls prog 157 #[.pointer (some ⟨b,0,none⟩),.int .i64 kind,.int .i64 rule,.int .i64 to] w fun e w'=>
   e=.returned (.tuple #[])∧∃g cap w1,w1.ownsRow base 51 6 (.slice (some ⟨g,0,none⟩) (n+1) cap) (n+1) (xs++vG kind rule at_ to line col)∧
    w.grownBy w1 ov.ownBlock∧(ov.ownBlock=some g∨g=w.heap.size+1)∧g<w1.heap.size∧w'=w1.setCell ⟨b,2,none⟩ (.slice (some ⟨g,0,none⟩) (n+1) cap):=by
 obtain⟨i0,hi0,hz0,hz1,hz2⟩:=info_parts zJi;have lb:=World.block_lt_of_cell? w _ h2;go_enter func157,ntmps157
 go_wp2_with fail;go_region_law ((refine step_append_lies _ (by rfl) (.tmp 12) (.tmp 32) 48 (by rfl) base 51 i0 _ 6 48 underlying48 hi0 hz0 hz1 hz2 rfl (by omega) ov n xs (by simp[Act.eval,Act.put]) ((hown.alloc _).drew) ⟨w.heap.size,0,none⟩ 1 1 (vG kind rule at_ to line col) (by simp[Act.eval,Act.put]) (by rfl) (news_of_block (cs:=#[.int .i64 kind,.int .i64 rule,.int .i64 at_,.int .i64 to,.int .i64 line,.int .i64 col]) (t:=51) (fr:=(0,0)) (gG w _)) (by simp[Value.oneCell',vG]) (by omega) hn hb (by simp;omega) (w.heap.size+1) (by simp) ?_;intro gg cap w1 hown1 hgrow hat hlt;have hc1:w1.cell? ⟨b,2,none⟩=some ov:=(hgrow.cell_far ⟨b,2,none⟩ (by simp;omega) (Ne.symm ag)).trans ((cell?_alloc_past _ _ _ lb).trans h2);have hfz1:w1.frozen? ⟨b,2,none⟩=false:=(hgrow.frozen_far ⟨b,2,none⟩ (by simp;omega) (Ne.symm ag)).trans ((frozen?_alloc_past _ _ _ lb).trans f2)))
 all_goals (go_end0;exact⟨rfl,gg,cap,w1,hown1,zDU hgrow,hat,hlt,rfl⟩)
end
theorem zIx (b i:Nat)(w:World)(r:Rs){v0:Value}(hR:zK w b r v0)(hf:r.first<64)(hi:i<64):
  Calls prog 151 #[.pointer (some ⟨b,12,none⟩),.int .i64 i] w fun e w'=>e=.returned (.int .u8 (r.byte ((r.first+i)%64)))∧w'.Alike w:=by
 have h1:=hR.get_first;have hx:=hR.get_byte ((r.first+i)%64) (gW _ (by decide));generalize r.first=f at *
 go_in;go_wp2;go_quiet (fail);go_wp2;go_ret;exact⟨rfl,rfl,rfl,rfl⟩
theorem zFw (b n:Nat)(w:World)(r:Rs){v0:Value}(hR:zK w b r v0)(hf:r.first<64)(hn:n<=r.count)(hc:r.count<=64):
  Calls prog 152 #[.pointer (some ⟨b,12,none⟩),.int .i64 n] w fun e w'=>e=.returned (.tuple #[])∧
   zK w' b {r with first:=(r.first+n)%64,count:=r.count-n} v0∧∀H,Keep H b w w':=by
 have h1:=hR.get_first;have h2:=hR.get_count;have f1:=hR.frozen 76;have f2:=hR.frozen 77;have HF:=vl hR;generalize hf0:r.first=f at *
 generalize hc0:r.count=c at *;have HE:Hid (r.first=f∧r.count=c):=⟨hf0,hc0⟩
 go_in;go_wp2;go_end0;refine⟨rfl,?_,fun H=>(Keep.set w _ _).trans (Keep.set _ _ _)⟩;have e1:((f:Int)+(n:Int))%64=(((f+n)%64:Nat):Int):=by omega
 have e2:((c:Int)-(n:Int))=((c-n:Nat):Int):=by omega
 rw[e1,e2];exact(HF.out.set_first _).set_count _
theorem zGv (b v:Nat)(w:World)(r:Rs){v0:Value}(hR:zK w b r v0)(hf:r.first<64)(hc:r.count<64):
  Calls prog 107 #[.pointer (some ⟨b,12,none⟩),.int .u8 v] w fun e w'=>e=.returned (.tuple #[])∧
   zK w' b {r with byte:=fun j=>if j=(r.first+r.count)%64 then v else r.byte j,count:=r.count+1} v0∧∀H,Keep H b w w':=by
 have h1:=hR.get_first;have h2:=hR.get_count;have h3:=hR.get_byte ((r.first+r.count)%64) (gW _ (by decide));have f1:=hR.frozen 77;have f2:=hR.frozen (12+(r.first+r.count)%64);have HF:=vl hR;generalize hf0:r.first=f at *
 generalize hc0:r.count=c at *;have hm:(f+c)%64<64:=gW _ (by decide);have hne:¬(12+(f+c)%64=77):=by omega
 go_in;go_wp2;go_region
 all_goals go_wp2
 all_goals go_end0
 all_goals
  refine⟨rfl,?_,fun H=>((Keep.set w _ _).trans (Keep.set _ _ _)).trans (Keep.drew _)⟩;rw[show ((c:Int)+1)=((c+1:Nat):Int) by omega];subst hf0 hc0;exact((HF.out.set_byte _ v hm).set_count _).drew
theorem zE3 (b m:Nat)(w:World)(r:Rs){v0:Value}(hR:zK w b r v0)(hd:r.depth<4):
  Calls prog 71 #[.pointer (some ⟨b,0,none⟩),.int .i64 m] w fun e w'=>e=.returned (.tuple #[])∧
   zK w' b {r with stack:=fun j=>if j=r.depth then m else r.stack j,depth:=r.depth+1} v0∧∀H,Keep H b w w':=by
 have h1:=hR.get_depth;have h3:=hR.get_stack r.depth hd;have f1:=hR.frozen 7;have f2:=hR.frozen (3+r.depth);have HF:=vl hR;generalize hd0:r.depth=d at *;have hne:¬(3+d=7):=by omega
 go_in;go_wp2;go_region
 all_goals go_wp2
 all_goals go_end0
 all_goals
  refine⟨rfl,?_,fun H=>((Keep.set w _ _).trans (Keep.set _ _ _)).trans (Keep.drew _)⟩;rw[show ((d:Int)+1)=((d+1:Nat):Int) by omega];subst hd0;exact((HF.out.set_stack _ m hd).set_depth _).drew
theorem zDt (b:Nat)(w:World)(r:Rs)(ao:Option Addr)(n cap:Nat)(hR:zK w b r (.slice ao n cap)):
  Calls prog 75 #[.pointer (some ⟨b,0,none⟩)] w fun e w'=>e=.returned (.slice ao n cap)∧
   zK w' b r (.slice none 0 0)∧∀H,Keep H b w w':=by
 have h1:=hR.get_told;have f1:=hR.frozen 2;have HF:=vl hR;go_in;go_wp2;go_ret;exact⟨rfl,HF.out.set_told _,fun H=>Keep.set w _ _⟩
def vI (v l:Nat):Nat:=if v=10 then l+1 else l
def zAN (v c:Nat):Nat:=if v=10 then 1 else c+1
theorem zJx (a l c v:Nat)(w:World)(ha:a<2147483648)(hl:l<2147483648)(hc:c<2147483648)(hv:v<256):
  Calls prog 153 #[.agg #[.int .i64 a,.int .i64 l,.int .i64 c],.int .u8 v] w fun e w'=>
   e=.returned (.agg #[.int .i64 ((a+1:Nat):Int),.int .i64 ((if v=10 then l+1 else l:Nat):Int),.int .i64 ((if v=10 then 1 else c+1:Nat):Int)])∧Below w.heap.size w w':=by
 by_cases hv10:v=10
 ·have ht:((v:Int)==10)=true:=by rw[beq_iff_eq];omega
  have HV:=vl hv10;go_in;go_wp2;refine bodyPost_ret (v:=.agg #[.int .i64 ((a:Int)+1),.int .i64 ((l:Int)+1),.int .i64 1]) (by simp[results,results153,go_sem]) rfl ⟨?_,?_⟩
  ·rfl
  ·exact((Below.refl _ _).alloc lQ _).alloc (by simp) _
 ·have ht:((v:Int)==10)=false:=by rw[gQ];omega
  have HV:=vl hv10;go_in;go_wp2;refine bodyPost_ret (v:=.agg #[.int .i64 ((a:Int)+1),.int .i64 (l:Int),.int .i64 ((c:Int)+1)]) (by simp[results,results153,go_sem]) rfl ⟨?_,?_⟩
  ·rfl
  ·exact((Below.refl _ _).alloc lQ _).alloc (by simp) _
theorem zDq (a l c v:Nat)(w:World)(ha:a<2147483648)(hl:l<2147483648)(hc:c<2147483648)(hv:v<256):
  Calls prog 153 #[.agg #[.int .i64 a,.int .i64 l,.int .i64 c],.int .u8 v] w fun e w'=>
   e=.returned (.agg #[.int .i64 ((a+1:Nat):Int),.int .i64 (vI v l:Nat),.int .i64 (zAN v c:Nat)])∧Below w.heap.size w w':=zJx a l c v w ha hl hc hv
theorem zAb (b:Nat)(w:World)(r:Rs){v0:Value}(hR:zK w b r v0)(S:Nat->Prop)(t:Tb)(hT:TabAt w S r.tp t)(hd0:1<=r.depth)(hd:r.depth<=4)(hm:r.stack (r.depth-1)<t.nmode):
  Calls prog 72 #[.pointer (some ⟨b,0,none⟩)] w fun e w'=>e=.returned (.int .i64 (t.start (r.stack (r.depth-1))))∧w'.Alike w:=by
 have h0:=hR.get_tp;have h1:=hR.get_depth;have h2:=hR.get_stack (r.depth-1) (by omega);obtain⟨_,h3,b3,o3,cap3,hb3,rfl,hcap3,hml3,hL⟩:=hT.c3;have hx:w.cell? ⟨b3,o3+r.stack (r.depth-1),none⟩=some (.int .i64 (t.start (r.stack (r.depth-1)):Nat)):=hL _ hm;generalize r.tp=p at *;generalize t.start (r.stack (r.depth-1))=x at *;generalize r.stack (r.depth-1)=m at *;generalize r.depth=d at *;generalize t.nmode=n at *;have i1:(m:Int)<(n:Int):=by omega
 have i2:(1:Int)<=(d:Int):=by omega
 have i3:(d:Int)<=4:=by omega
 have h2':=h2;go_in;go_wp2;go_quiet (fail);go_wp2;go_ret;exact⟨rfl,rfl,rfl,rfl⟩
end Go.Proofs.YtbjcfkdnjaiclaaGreat
