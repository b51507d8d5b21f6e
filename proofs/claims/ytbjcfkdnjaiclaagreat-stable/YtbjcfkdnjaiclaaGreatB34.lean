import Derived.Deep.DrawnRows
import Derived.Deep.RegionHeld3
import Derived.Deep.RegionLaw
import Derived.Test.YtbjcfkdnjaiclaaGreatB0
import Derived.Test.YtbjcfkdnjaiclaaGreatB3
import Derived.Test.YtbjcfkdnjaiclaaGreatB33
/- Parts of the proof, in order. -/
set_option linter.unusedVariables false
set_option linter.unusedSimpArgs false
set_option maxHeartbeats 4000000
set_option maxRecDepth 100000
namespace Go.Proofs.YtbjcfkdnjaiclaaGreat
open Go.RowKit Go.Proofs.Tryz Go.World
theorem zMW (w w6:World)(post:Ending->World->Prop)(Q:World->Prop)(p:Nat)(a5:Option Addr)(l5 c5 CN:Nat)(AH:Int)(ST fo:Bool)(hB:w6.heap[w.heap.size+1]? =some (.cells #[.slice none 0 0,.slice none 0 0,.slice none 0 0,.int .i64 0,.bool false,.int .i64 0] 30))(hl:w.heap.size+2<=w6.heap.size)(hp:p<w6.heap.size)(hpp:w.heap.size+1≠p)
  (y7:w6.cell? ⟨p,7,none⟩=some (.int .i64 (CN:Nat))) (l2:w6.cell? ⟨w.heap.size,2,none⟩=some (.bool fo))
  (HRP:∀wq,Grew w6 wq->Calls prog 46 #[.slice a5 l5 c5,.int .i64 (CN:Nat),.bool fo] (wq) (fun e w'=>∃m0 m1 m2 s0 s1 s2 v0 v1 v2,e=.returned (.agg #[.slice m0 m1 m2,.slice s0 s1 s2,.slice v0 v1 v2,.int .i64 AH,.bool ST,.int .i64 0])∧Keep (wq).heap.size (wq).heap.size (wq) w'))
  (hMS:∀w8,Grew w6 w8->(ST=true->Calls prog 47 #[.pointer (some ⟨p,0,none⟩),.int .i64 AH] w8 (fun e w9=>e=.returned (.tuple #[])∧Q w9∧Keep w8.heap.size p w8 w9))∧(ST=false->Q w8))
  (hfin:∀m0 m1 m2 s0 s1 s2 v0 v1 v2 w8 w9 wz L,Grew w6 w8->Keep w8.heap.size p w8 w9->Q w9->wz.os=w9.os->wz.output=w9.output->w9.heap.size<=L->L<wz.heap.size->(∀k,k<w9.heap.size->k≠w.heap.size+1->wz.heap[k]? =w9.heap[k]?)->wz.cell? ⟨L,0,none⟩=some (.pointer (some ⟨p,0,none⟩))->post (.returned (.tuple #[.pointer (some ⟨L,0,none⟩),.agg #[.slice m0 m1 m2,.slice s0 s1 s2,.slice v0 v1 v2,.int .i64 AH,.bool ST,.int .i64 0],.int .i64 0])) wz)
  {u0 u1 u2 u4 u6 u7 u8 u9 u11 u13 u14 u15 u16 u17 u18 u19 u20 u21 u22 u23 u24 u25 u26 u27 u28 u29 u30 u31 u32 u33 u34 u35 u36 u37 u38 u39 u40 u41 u42 u43 u44 u45 u46 u47 u48 u49 u50 u51 u52 u53 u54 u55 u56 u57 u58 u59 u60 u61 u62 u63 u64 u65 u66 u67 u68 u69 u70 u71 u72 u73 u74 u75 u76 u77 u78 u79:Value}:
  Code.wp prog (yQ 7 ((f30.body).getD .skip)) (bodyPost prog f30 post) ⟨(u0::u1::u2:: .pointer (some ⟨w.heap.size,0,none⟩)::u4:: .pointer (some ⟨w.heap.size+1,0,none⟩)::u6::u7::u8::u9:: .slice a5 l5 c5::u11:: .pointer (some ⟨p,0,none⟩)::u13::u14::u15::u16::u17::u18::u19::u20::u21::u22::u23::u24::u25::u26::u27::u28::u29::u30::u31::u32::u33::u34::u35::u36::u37::u38::u39::u40::u41::u42::u43::u44::u45::u46::u47::u48::u49::u50::u51::u52::u53::u54::u55::u56::u57::u58::u59::u60::u61::u62::u63::u64::u65::u66::u67::u68::u69::u70::u71::u72::u73::u74::u75::u76::u77::u78::u79::[]).toArray,[]⟩ w6:=by
 conv=>arg 2;whnf
 have ka6:Grew w6 (w6.alloc (.cells #[.slice none 0 0,.slice none 0 0,.slice none 0 0,.int .i64 0,.bool false,.int .i64 0] 30)):=Keep.alloc _ _ (Nat.le_refl _);have HR1:=vl HRP;have KA1:Hid (Grew w6 w6.drew):=Keep.drew _;have KA2:Hid (Grew w6 (w6.alloc (.cells #[.slice none 0 0,.slice none 0 0,.slice none 0 0,.int .i64 0,.bool false,.int .i64 0] 30)).drew):=⟨ka6.os,ka6.output,ka6.size,ka6.block⟩
 have KU1:Hid (∀w7,Grew w6.drew w7->Grew w6 w7):=fun w7 hk=>Keep.undrew hk;have HPB:Hid (∀w7,Keep ((w6.alloc (.cells #[.slice none 0 0,.slice none 0 0,.slice none 0 0,.int .i64 0,.bool false,.int .i64 0] 30)).drew).heap.size ((w6.alloc (.cells #[.slice none 0 0,.slice none 0 0,.slice none 0 0,.int .i64 0,.bool false,.int .i64 0] 30)).drew).heap.size ((w6.alloc (.cells #[.slice none 0 0,.slice none 0 0,.slice none 0 0,.int .i64 0,.bool false,.int .i64 0] 30)).drew) w7->w7.heap[w6.heap.size]? =some (.cells #[.slice none 0 0,.slice none 0 0,.slice none 0 0,.int .i64 0,.bool false,.int .i64 0] 30)):=fun w7 hk=>(hk.block w6.heap.size (by show w6.heap.size<(w6.alloc _).heap.size;simp) (by show w6.heap.size≠(w6.alloc _).heap.size;simp)).trans (heap_alloc_new w6 _);have HUP:Hid (∀w7,Keep ((w6.alloc (.cells #[.slice none 0 0,.slice none 0 0,.slice none 0 0,.int .i64 0,.bool false,.int .i64 0] 30)).drew).heap.size ((w6.alloc (.cells #[.slice none 0 0,.slice none 0 0,.slice none 0 0,.int .i64 0,.bool false,.int .i64 0] 30)).drew).heap.size ((w6.alloc (.cells #[.slice none 0 0,.slice none 0 0,.slice none 0 0,.int .i64 0,.bool false,.int .i64 0] 30)).drew) w7->Grew w6 w7):=fun w7 hk=>ka6.trans ⟨hk.os,hk.output,hk.size,fun k k1 k2=>hk.block k (by show k<(w6.alloc _).heap.size;simp;omega) (by show k≠(w6.alloc _).heap.size;simp;omega)⟩;have HZF:Hid (∀w7,Grew w6 w7->w7.cell? ⟨p,7,none⟩=some (.int .i64 (CN:Nat))∧w7.cell? ⟨w.heap.size,2,none⟩=some (.bool fo)):=fun w7 hk=>⟨zA y7 hp hk,zA l2 (show w.heap.size<w6.heap.size by omega) hk⟩
 have HGO:Hid (∀R w8 m0 m1 m2 s0 s1 s2 v0 v1 v2,Grew w6 w8->w6.heap.size<=R->R<w8.heap.size->w8.cell? ⟨R,0,none⟩=some (.slice m0 m1 m2)->w8.cell? ⟨R,1,none⟩=some (.slice s0 s1 s2)->w8.cell? ⟨R,2,none⟩=some (.slice v0 v1 v2)->w8.cell? ⟨R,3,none⟩=some (.int .i64 AH)->w8.cell? ⟨R,4,none⟩=some (.bool ST)->w8.cell? ⟨R,5,none⟩=some (.int .i64 0)->∀(b0 b1 b2 b3 b4 b6 b7 b8 b9 b10 b11 b14 b15 b16 b17 b18 b19 b20 b21 b22 b23 b24 b25 b26 b27 b28 b29 b30 b31 b32 b33 b34 b35 b36 b37 b38 b39 b40 b41 b42 b43 b44 b45 b46 b47 b48 b49 b50 b51 b52 b53 b54 b55 b56 b57 b58 b59 b60 b61 b62 b63 b64 b65 b66 b67 b68 b69 b70 b71 b72 b73 b74 b75 b76 b77 b78 b79:Value),Code.wp prog (yQ 8 ((f30.body).getD .skip)) (bodyPost prog f30 post) ⟨(b0::b1::b2::b3::b4:: .pointer (some ⟨w.heap.size+1,0,none⟩)::b6::b7::b8::b9::b10::b11:: .pointer (some ⟨p,0,none⟩):: .pointer (some ⟨R,0,none⟩)::b14::b15::b16::b17::b18::b19::b20::b21::b22::b23::b24::b25::b26::b27::b28::b29::b30::b31::b32::b33::b34::b35::b36::b37::b38::b39::b40::b41::b42::b43::b44::b45::b46::b47::b48::b49::b50::b51::b52::b53::b54::b55::b56::b57::b58::b59::b60::b61::b62::b63::b64::b65::b66::b67::b68::b69::b70::b71::b72::b73::b74::b75::b76::b77::b78::b79::[]).toArray,[]⟩ w8):=fun R w8 m0 m1 m2 s0 s1 s2 v0 v1 v2 hk hR1 hR2 x0 x1 x2 x3 x4 x5 _ _ _ _ _ _ _ _ _ _ _ _ _ _ _ _ _ _ _ _ _ _ _ _ _ _ _ _ _ _ _ _ _ _ _ _ _ _ _ _ _ _ _ _ _ _ _ _ _ _ _ _ _ _ _ _ _ _ _ _ _ _ _ _ _ _ _ _ _ _ _ _ _ _ _ _ _=>zMV w w8 post Q p R m0 s0 v0 m1 m2 s1 s2 v1 v2 AH ST ((hk.block _ (by omega) (by omega)).trans hB) (by omega) hR2 (by omega) hpp x0 x1 x2 x3 x4 x5 (hMS w8 hk).1 (hMS w8 hk).2 (fun w9 wz L hk9 hq=>hfin m0 m1 m2 s0 s1 s2 v0 v1 v2 w8 w9 wz L hk hk9 hq);obtain⟨y7a,l2a⟩:=HZF.out (w6.alloc (.cells #[.slice none 0 0,.slice none 0 0,.slice none 0 0,.int .i64 0,.bool false,.int .i64 0] 30)) ka6;refine wp_seq_k ?_;intro K0 hK0;have HK0:=vl hK0;go_region_with ((go_at_call 46;go_must ((refine (HR1.out _ (by first|exact KA1.out|exact KA2.out)).mono ?_;rintro e w7 ⟨m0,m1,m2,s0,s1,s2,v0,v1,v2,rfl,hk7⟩;first|(have hk8:=KU1.out w7 hk7;obtain⟨z0,z1⟩:=HZF.out w7 hk8;obtain⟨r0,r1,r2,r3,r4,r5,g0,g1,g2,g3,g4,g5⟩:=vW (heap_alloc_new w7 (.cells #[.slice none 0 0,.slice none 0 0,.slice none 0 0,.int .i64 0,.bool false,.int .i64 0] 30));obtain⟨z2,z3⟩:=HZF.out (w7.alloc (.cells #[.slice none 0 0,.slice none 0 0,.slice none 0 0,.int .i64 0,.bool false,.int .i64 0] 30)) (hk8.trans (Keep.alloc _ _ hk8.size)))|(have hk8:=HUP.out w7 hk7;obtain⟨r0,r1,r2,r3,r4,r5,g0,g1,g2,g3,g4,g5⟩:=vW (HPB.out w7 hk7);obtain⟨z0,z1⟩:=HZF.out w7 hk8)))))
 all_goals
  show K0 _ _;refine HK0.out _ _ ?_
  first
  |(obtain ⟨wa,hwa,hblk,hz,ho,hu,hne⟩:=zEo w7 w6.heap.size (.slice m0 m1 m2) (.slice s0 s1 s2) (.slice v0 v1 v2) (.int .i64 AH) (.bool ST) (.int .i64 0) (HPB.out w7 hk7);rw[<-hwa];refine HGO.out w6.heap.size wa m0 m1 m2 s0 s1 s2 v0 v1 v2 (hk8.trans ⟨ho,hu,by omega,fun k k1 _=>hne k (by omega)⟩) (Nat.le_refl _) (Array.getElem?_eq_some_iff.1 hblk).1 ?_ ?_ ?_ ?_ ?_ ?_ _ _ _ _ _ _ _ _ _ _ _ _ _ _ _ _ _ _ _ _ _ _ _ _ _ _ _ _ _ _ _ _ _ _ _ _ _ _ _ _ _ _ _ _ _ _ _ _ _ _ _ _ _ _ _ _ _ _ _ _ _ _ _ _ _ _ _ _ _ _ _ _ _ _ _ _ _;all_goals (unfold cell?;rw[hblk];rfl))
  |(have hn:=heap_alloc_new w7 (.cells #[.slice m0 m1 m2,.slice s0 s1 s2,.slice v0 v1 v2,.int .i64 AH,.bool ST,.int .i64 0] 30);refine HGO.out w7.heap.size _ m0 m1 m2 s0 s1 s2 v0 v1 v2 (hk8.trans (Keep.alloc _ _ hk8.size)) hk8.size (Array.getElem?_eq_some_iff.1 hn).1 ?_ ?_ ?_ ?_ ?_ ?_ _ _ _ _ _ _ _ _ _ _ _ _ _ _ _ _ _ _ _ _ _ _ _ _ _ _ _ _ _ _ _ _ _ _ _ _ _ _ _ _ _ _ _ _ _ _ _ _ _ _ _ _ _ _ _ _ _ _ _ _ _ _ _ _ _ _ _ _ _ _ _ _ _ _ _ _ _;all_goals (unfold cell?;rw[hn];rfl))
def zBB (ms:List Sm)(acts pushed:List Int)(hold n:Nat)(fo:Bool):Tb:=if !fo&&xR (aheadTo ms ms.length) (zB ms 256).2 then{zAv ms acts pushed hold n with stream:=true}.looking (aheadTo ms ms.length).toNat else zAv ms acts pushed hold n
def zLL (w:World)(ms:List Sm)(acts pushed:List Int)(hold:Nat)(fo:Bool)(e:Ending)(w':World):Prop:=
 Grew w w'∧∃L p H c n m0 m1 m2 s0 s1 s2 v0 v1 v2,e=.returned (.tuple #[.pointer (some ⟨L,0,none⟩),.agg #[.slice m0 m1 m2,.slice s0 s1 s2,.slice v0 v1 v2,.int .i64 (aheadTo ms ms.length),.bool (!fo&&xR (aheadTo ms ms.length) (zB ms 256).2),.int .i64 0],.int .i64 0])∧w'.cell? ⟨L,0,none⟩=some (.pointer (some ⟨p,0,none⟩))∧L<w'.heap.size∧w.heap.size<=L∧w.heap.size<=H∧w.heap.size<=p∧Mem w' H p c (zBB ms acts pushed hold n fo)∧(((xL ms acts pushed hold).first.itr n).spreadTo (zO ms ms.length)).2=false∧ModesOk ms∧acts.length=zQ ms ms.length∧pushed.length=acts.length
theorem ModesAt.grown {w w2:World}{v:Value}{ms:List Sm}(h:ModesAt w (In w) v ms)(hk:Grew w w2):ModesAt w2 (In w2) v ms:=by
 have h2:=h.keep (w':=w2) fun b hb=>hk.block b hb (Nat.ne_of_lt hb);obtain⟨ao,cap,hv,h3,h4,h5⟩:=h2;refine⟨ao,cap,hv,h3,h4,fun i hi=>?_⟩;obtain⟨b,o,u0,u1,u3,e1,e2,e3,e4,e5,e6,e7,e8,e9⟩:=h5 i hi;have m:∀g,In w g->In w2 g:=fun g hg=>Nat.lt_of_lt_of_le hg hk.size;exact⟨b,o,u0,u1,u3,e1,m _ e2,e3,e4,e5,e6,e7.mono m,e8.mono m,e9.mono m⟩
theorem zIj (l:List Nat):∀i,i<(ints l).length->0<=(ints l).getD i 0:=fun i hi=>by
 unfold ints at hi ⊢;rw[List.getD_eq_getElem?_getD,List.getElem?_eq_getElem hi,List.getElem_map];show(0:Int)<=((l[i]'(by simpa using hi):Nat):Int);omega
theorem zHF {sh:Sh}(h:sh.there=true):∀i,i<(sh.pushesTo sh.pushed.length).length->0<=(sh.pushesTo sh.pushed.length).getD i 0:=fun i hi=>by
 have h2:=hi;rw[yW] at h2;unfold Sh.there at h;have h3:=(of_decide_eq_true h) i h2;unfold Sh.pushesTo at hi ⊢;rw[List.getD_eq_getElem?_getD,List.getElem?_eq_getElem hi,List.getElem_map,List.getElem_range];exact h3
theorem zMU (w:World)(s:ByteArray)(fo:Bool)(hs:s.size<=1048576)(m h:Nat)(h1:1<=m)(h2:m<=200)(h3:1<=h)(h4:h<=64)(sh:Sh)(hsp:jK s=.inl sh)(ms:List Sm)(hmo:xZ (1+6*s.size) sh sh.modes.length 0 m=some ms):Calls prog 30 #[.string s,.agg #[.int .i64 (m:Int),.int .i64 (h:Int),.bool fo]] w (zLL w ms (ints sh.acts) (sh.pushesTo sh.pushed.length) h fo):=by
 obtain⟨w2,hw2,HK1⟩:∃w2,w2=(w.alloc (.cells #[.int .i64 (m:Int),.int .i64 (h:Int),.bool fo] 58)).alloc (.cells #[.slice none 0 0,.slice none 0 0,.slice none 0 0,.int .i64 0,.bool false,.int .i64 0] 30)∧Hid (∀w3,Keep (w.heap.size+2) (w.heap.size+2) w2 w3->w3.heap[w.heap.size+1]? =some (.cells #[.slice none 0 0,.slice none 0 0,.slice none 0 0,.int .i64 0,.bool false,.int .i64 0] 30)∧w3.cell? ⟨w.heap.size,0,none⟩=some (.int .i64 (m:Int))∧w3.cell? ⟨w.heap.size,1,none⟩=some (.int .i64 (h:Int))∧w3.cell? ⟨w.heap.size,2,none⟩=some (.bool fo)∧Grew w w3):=⟨_,rfl,fun w3 hk=>zGx hk⟩
 have HZ2:Hid (w2.heap.size=w.heap.size+2):=by show _=_;rw[hw2];simp
 have HRD:Hid (Calls prog 43 #[.string s] w2 (zEu w2 (1+6*s.size) (.inl sh))):=by have:=zAx w2 s hs;rw[hsp] at this;exact this
 have k1:(1:Int)<=(m:Int):=by omega
 have k2:(m:Int)<=200:=by omega
 have k3:(1:Int)<=(h:Int):=by omega
 have k4:(h:Int)<=64:=by omega
 have HMO:Hid (∀w4 mv av pv,SpecIs w4 (1+6*s.size) mv av pv sh->Calls prog 44 #[.agg #[mv,av,pv],.int .i64 (m:Int)] w4 (zLK w4 (some ms))):=fun w4 mv av pv h=>by have:=zCn w4 (1+6*s.size) mv av pv sh h m h2;rw[hmo] at this;exact this
 have hsum:=zHn hsp;have HMK:Hid (∀w5 v mv av pv,SpecIs w5 (1+6*s.size) mv av pv sh->ModesAt w5 (In w5) v ms->Calls prog 45 #[v,av,pv,.int .i64 (h:Int)] w5 (fun e w'=>Made w5 w' e ms (ints sh.acts) (sh.pushesTo sh.pushed.length) h)∧ModesOk ms∧(ints sh.acts).length=zQ ms ms.length∧(sh.pushesTo sh.pushed.length).length=(ints sh.acts).length):=fun w5 v mv av pv hsi hM=>by
  obtain⟨hok,hrt⟩:=zLd hsi hsum h2 hmo;exact⟨zIQ w5 (In w5) v av pv ms (ints sh.acts) (sh.pushesTo sh.pushed.length) h hM hsi.acts hsi.pushes (fun k hk=>hk) hok (by rw[zM,hrt]) (by rw[zM,yW];exact hsi.ok.same) (zIj _) (zHF hsi.there),hok,by rw[zM,hrt],by rw[zM,yW];exact hsi.ok.same⟩
 clear hsp hmo hsum;go_in;refine wp_cut ?_;intro K0 HK0;go_wp2;refine HK0.out _ _ ?_;clear HK0;rw[<-hw2];clear hw2;obtain⟨-,p0,p1,p2,-⟩:=HK1.out w2 (Keep.refl _ _ _);refine wp_cut ?_;intro K0 HK0;go_wp2;refine HK0.out _ _ ?_;clear HK0;clear p0 p1 p2;refine wp_cut ?_;intro K0 HK0;go_wp2_with (first|(go_at_call 43;refine HRD.out.mono ?_;rintro e w3 ⟨hk3,mv,av,pv,rfl,hsi⟩;obtain⟨⟨am,cm,e1⟩,⟨aa,ca,e2⟩,⟨ap,cp,e3⟩⟩:=hsi.forms;subst e1 e2 e3))
 refine HK0.out _ _ ?_;clear HK0;obtain⟨w4,hw4,y0,y1,y2,K4⟩:∃w4,w4=w3.alloc (.cells #[.slice am sh.modes.length cm,.slice aa sh.acts.length ca,.slice ap sh.pushed.length cp] 79)∧w4.cell? ⟨w3.heap.size,0,none⟩=some (.slice am sh.modes.length cm)∧w4.cell? ⟨w3.heap.size,1,none⟩=some (.slice aa sh.acts.length ca)∧w4.cell? ⟨w3.heap.size,2,none⟩=some (.slice ap sh.pushed.length cp)∧Hid (Keep (w.heap.size+2) (w.heap.size+2) w2 w4∧SpecIs w4 (1+6*s.size) (.slice am sh.modes.length cm) (.slice aa sh.acts.length ca) (.slice ap sh.pushed.length cp) sh∧w3.heap.size<w4.heap.size∧w.heap.size+2<=w4.heap.size):=by
  have h5:Keep (w.heap.size+2) (w.heap.size+2) w2 w3:=by rw[<-HZ2.out];exact hk3
  have h6:w.heap.size+2<=w3.heap.size:=by have:=hk3.size;rw[HZ2.out] at this;exact this
  have hn:=heap_alloc_new w3 (.cells #[.slice am sh.modes.length cm,.slice aa sh.acts.length ca,.slice ap sh.pushed.length cp] 79);refine⟨_,rfl,?_,?_,?_,h5.trans (Keep.alloc _ _ h6),hsi.grown (Keep.alloc _ _ (Nat.le_refl _)),by simp,by simp;omega⟩
  all_goals (unfold cell?;rw[hn];rfl)
 rw[<-hw4];clear hw4 hk3 hsi HRD;refine wp_cut ?_;intro K0 HK0;go_wp2;refine HK0.out _ _ ?_;clear HK0;obtain⟨-,l0,-,-,-⟩:=HK1.out w4 K4.out.1;obtain⟨B,hB⟩:∃B,B=w3.heap.size:=⟨_,rfl⟩
 have HBL:Hid (B<w4.heap.size):=by show B<_;rw[hB];exact K4.out.2.2.1
 rw[<-hB] at y0 y1 y2 ⊢;clear hB;refine wp_cut ?_;intro K0 HK0;go_wp2_with (first|(go_at_call 44;refine(HMO.out w4 _ _ _ K4.out.2.1).mono ?_;rintro e w5 ⟨hk5,v5,rfl,hM5⟩;obtain⟨a5,c5,e5,-⟩:=id hM5;subst e5))
 refine HK0.out _ _ ?_;clear HK0;refine wp_cut ?_;intro K0 HK0;go_wp2;refine HK0.out _ _ ?_;clear HK0;have K5:Hid (Keep (w.heap.size+2) (w.heap.size+2) w2 w5∧SpecIs w5 (1+6*s.size) (.slice am sh.modes.length cm) (.slice aa sh.acts.length ca) (.slice ap sh.pushed.length cp) sh∧w.heap.size+2<=w5.heap.size∧ModesAt w5 (In w5) (.slice a5 ms.length c5) ms):=⟨K4.out.1.trans (hk5.lower K4.out.2.2.2 K4.out.2.2.2),K4.out.2.1.grown hk5,Nat.le_trans K4.out.2.2.2 hk5.size,hM5⟩
 have x1:=zA y1 HBL.out hk5;have x2:=zA y2 HBL.out hk5;obtain⟨-,-,l1,-,-⟩:=HK1.out w5 K5.out.1;obtain⟨hmk,hok,hal⟩:=HMK.out w5 _ _ _ _ K5.out.2.1 hM5;have HMK2:=vl hmk;have HOK:Hid (ModesOk ms∧(ints sh.acts).length=zQ ms ms.length∧(sh.pushesTo sh.pushed.length).length=(ints sh.acts).length):=⟨hok,hal⟩
 clear l0 y0 y1 y2 hk5 hM5 HMO HMK hmk hok hal K4 HBL;refine wp_cut ?_;intro K0 HK0;go_wp2_with (first|(go_at_call 45;refine HMK2.out.mono ?_;rintro e w6 ⟨p,H,cc,n,rfl,hp6,hH6,hMem,hsp6,hk6⟩))
 refine HK0.out _ _ ?_;clear HK0;have K6:Hid (Keep (w.heap.size+2) (w.heap.size+2) w2 w6∧w.heap.size+2<=w6.heap.size∧ModesAt w6 (In w6) (.slice a5 ms.length c5) ms∧w.heap.size+2<=p∧w.heap.size+2<=H∧Mem w6 H p cc (zAv ms (ints sh.acts) (sh.pushesTo sh.pushed.length) h n)∧(((xL ms (ints sh.acts) (sh.pushesTo sh.pushed.length) h).first.itr n).spreadTo (zO ms ms.length)).2=false):=⟨K5.out.1.trans (hk6.lower K5.out.2.2.1 K5.out.2.2.1),Nat.le_trans K5.out.2.2.1 hk6.size,K5.out.2.2.2.grown hk6,Nat.le_trans K5.out.2.2.1 hp6,Nat.le_trans K5.out.2.2.1 hH6,hMem,hsp6⟩
 have y7:w6.cell? ⟨p,7,none⟩=some (.int .i64 ((zB ms 256).2:Nat)):=by
  have e7:=hMem.tp.get_count;rw[hMem.count] at e7;have ec:(zAv ms (ints sh.acts) (sh.pushesTo sh.pushed.length) h n).count=(zB ms 256).2:=by
   show((xL ms (ints sh.acts) (sh.pushesTo sh.pushed.length) h).first.itr n).count=_;rw[zA3];rfl
  rw[ec] at e7;exact e7
 obtain⟨-,-,-,l2,-⟩:=HK1.out w6 K6.out.1;have HRP:Hid (∀wq,Grew w6 wq->Calls prog 46 #[.slice a5 ms.length c5,.int .i64 ((zB ms 256).2:Nat),.bool fo] wq fun e w'=>∃m0 m1 m2 s0 s1 s2 v0 v1 v2,e=.returned (.agg #[.slice m0 m1 m2,.slice s0 s1 s2,.slice v0 v1 v2,.int .i64 (aheadTo ms ms.length),.bool (!fo&&xR (aheadTo ms ms.length) (zB ms 256).2),.int .i64 0])∧Grew wq w'):=fun wq hq=>(zGw wq _ ms (K6.out.2.2.1.grown hq) HOK.out.1 (zB ms 256).2 (qZ ms 256).2 fo).mono (by rintro e w7 ⟨mo,sv,ev,rfl,hsv,hev,hk7,a,n,c,rfl⟩;obtain⟨s0,s1,rfl⟩:=OwnB.form hsv;obtain⟨v0,v1,rfl⟩:=OwnB.form hev;exact⟨a,n,c,s0,_,s1,v0,_,v1,rfl,hk7⟩);have HQ:Hid (∀w8,Grew w6 w8->((!fo&&xR (aheadTo ms ms.length) (zB ms 256).2)=true->Calls prog 47 #[.pointer (some ⟨p,0,none⟩),.int .i64 (aheadTo ms ms.length)] w8 (fun e w9=>e=.returned (.tuple #[])∧(fun w9=>∃c,Mem w9 H p c (zBB ms (ints sh.acts) (sh.pushesTo sh.pushed.length) h n fo)) w9∧Keep w8.heap.size p w8 w9))∧((!fo&&xR (aheadTo ms ms.length) (zB ms 256).2)=false->(fun w9=>∃c,Mem w9 H p c (zBB ms (ints sh.acts) (sh.pushesTo sh.pushed.length) h n fo)) w8)):=fun w8 hk8=>by
  refine⟨fun hst=>?_,fun hst=>?_⟩
  ·have hgt:zBB ms (ints sh.acts) (sh.pushesTo sh.pushed.length) h n fo={zAv ms (ints sh.acts) (sh.pushesTo sh.pushed.length) h n with stream:=true}.looking (aheadTo ms ms.length).toNat:=by unfold zBB;rw[if_pos hst]
   have h5:=hst;rw[Bool.and_eq_true] at h5;have h6:=h5.2;unfold xR at h6;rw[Bool.and_eq_true] at h6;have h7:0<=aheadTo ms ms.length:=of_decide_eq_true h6.1;have h8:zG (zB ms 256).2 (aheadTo ms ms.length).toNat<=3000:=of_decide_eq_true h6.2;have h9:=(zFt ms HOK.out.1 ms.length (Nat.le_refl _)).2;have hok:=zIW (t:=(xL ms (ints sh.acts) (sh.pushesTo sh.pushed.length) h).first) ((zCx ms (ints sh.acts) (sh.pushesTo sh.pushed.length) h HOK.out.1 HOK.out.2.1).withLive _) n;have hcn:(zAv ms (ints sh.acts) (sh.pushesTo sh.pushed.length) h n).count=(zB ms 256).2:=by
    show((xL ms (ints sh.acts) (sh.pushesTo sh.pushed.length) h).first.itr n).count=_;rw[zA3];rfl
   have hst1:1<=(zAv ms (ints sh.acts) (sh.pushesTo sh.pushed.length) h n).nst:=by
    show 1<=((xL ms (ints sh.acts) (sh.pushesTo sh.pushed.length) h).first.itr n).nst;rw[zGO];exact Nat.le_trans (HOK.out.1.states1 0 HOK.out.1.one) (by have:=qI ms 1 ms.length HOK.out.1.one;have e:zO ms 1=(ms[0]'HOK.out.1.one).next.length:=(by simp[zO,List.getD_eq_getElem?_getD,List.getElem?_eq_getElem HOK.out.1.one]);rw[e] at this;exact this)
   have:=zDB w8 H p cc _ (K6.out.2.2.2.2.2.1.grown hk8) ⟨hok.1,hok.2,hok.3,hok.4⟩ hst1 (by rw[hcn];exact zCG ms 256 (by decide)) (aheadTo ms ms.length).toNat (by omega) (by rw[hcn];exact h8)
   rw[Int.toNat_of_nonneg h7] at this;refine this.mono ?_;rintro e w9 ⟨rfl,c',hM,hk⟩;exact⟨rfl,⟨c',by rw[hgt];exact hM⟩,hk⟩
  ·have hgt:zBB ms (ints sh.acts) (sh.pushesTo sh.pushed.length) h n fo=zAv ms (ints sh.acts) (sh.pushesTo sh.pushed.length) h n:=by unfold zBB;rw[if_neg (by rw[hst];decide)]
   exact⟨cc,by rw[hgt];exact K6.out.2.2.2.2.2.1.grown hk8⟩
 obtain⟨hB6,-⟩:=HK1.out w6 K6.out.1;refine zMW w w6 _ (fun w9=>∃c,Mem w9 H p c (zBB ms (ints sh.acts) (sh.pushesTo sh.pushed.length) h n fo)) p a5 ms.length c5 (zB ms 256).2 (aheadTo ms ms.length) (!fo&&xR (aheadTo ms ms.length) (zB ms 256).2) fo hB6 K6.out.2.1 K6.out.2.2.2.2.2.1.tp.lt (by have:=K6.out.2.2.2.1;omega) y7 l2 HRP.out HQ.out ?_;intro m0 m1 m2 s0 s1 s2 v0 v1 v2 w8 w9 wz L hk8 hk9 hq ho hu hL1 hL2 hblk hcell;obtain⟨c9,hM9⟩:=hq;obtain⟨-,-,-,-,hkw⟩:=HK1.out w6 K6.out.1;have hp2:=K6.out.2.2.2.1;have hH2:=K6.out.2.2.2.2.1;have hs6:=K6.out.2.1;have hs8:=hk8.size;have hs9:=hk9.size;refine⟨hkw.trans ⟨ho.trans (hk9.os.trans hk8.os),hu.trans (hk9.output.trans hk8.output),by omega,fun k k1 _=>(hblk k (by omega) (by omega)).trans ((hk9.block k (by omega) (by omega)).trans (hk8.block k (by omega) (by omega)))⟩,L,p,H,c9,n,m0,m1,m2,s0,s1,s2,v0,v1,v2,rfl,hcell,hL2,by omega,by omega,by omega,?_,K6.out.2.2.2.2.2.2,HOK.out.1,HOK.out.2.1,HOK.out.2.2⟩;exact hM9.keep (hblk p hM9.tp.lt (by omega)) (fun k k1 k2=>hblk k k2 (by omega)) (by omega)
theorem zEG {s:ByteArray}{n k:Nat}(h:jK s=.inr (n,k)):k≠0:=by
 unfold jK at h;split at h
 ·cases h;decide
 split at h
 ·cases h;decide
 split at h
 ·split at h
  ·cases h
  ·cases h;decide
 ·cases h;decide
def zLM (w:World)(G:(List Sm×Sh) ⊕ (Nat×Nat))(hold:Nat)(fo:Bool)(e:Ending)(w':World):Prop:=match G with
 | .inr (n,k)=>k≠0∧zIk w n k e w'
 | .inl (ms,sh)=>zLL w ms (ints sh.acts) (sh.pushesTo sh.pushed.length) hold fo e w'
theorem zBU (w:World)(s:ByteArray)(hs:s.size<=1048576)(st ho:Int)(fo:Bool):Calls prog 30 #[.string s,.agg #[.int .i64 st,.int .i64 ho,.bool fo]] w (zLM w (zAL s st ho) ho.toNat fo):=by
 have hno:∀{n k:Nat},k≠0->zAL s st ho=.inr (n,k)->Calls prog 30 #[.string s,.agg #[.int .i64 st,.int .i64 ho,.bool fo]] w (zIk w n k)->Calls prog 30 #[.string s,.agg #[.int .i64 st,.int .i64 ho,.bool fo]] w (zLM w (zAL s st ho) ho.toNat fo):=by
  intro n k hk hg hc;rw[hg];exact hc.mono fun e w' h=>⟨hk,h⟩
 by_cases h1:st<1
 ·exact hno (by decide) (by unfold zAL yJ;rw[if_pos (by simp[h1])]) (zEs w s st ho fo (.inl h1))
 have h1':1<=st:=by omega
 by_cases h2:200<st
 ·exact hno (by decide) (by unfold zAL yJ;rw[if_pos (by simp[h2])]) (zEs w s st ho fo (.inr (.inl ⟨h1',h2⟩)))
 have h2':st<=200:=by omega
 by_cases h3:ho<1
 ·exact hno (by decide) (by unfold zAL yJ;rw[if_pos (by simp[h3])]) (zEs w s st ho fo (.inr (.inr (.inl ⟨h1',h2',h3⟩))))
 have h3':1<=ho:=by omega
 by_cases h4:64<ho
 ·exact hno (by decide) (by unfold zAL yJ;rw[if_pos (by simp[h4])]) (zEs w s st ho fo (.inr (.inr (.inr ⟨h1',h2',h3',h4⟩))))
 have h4':ho<=64:=by omega
 have hb:yJ st ho=false:=by unfold yJ;simp[h1,h2,h3,h4]
 have hg:zAL s st ho=match jK s with
   | .inr e=>.inr e
   | .inl sh=>match xZ (1+6*s.size) sh sh.modes.length 0 st.toNat with
    |none=>.inr (0,5)
    |some ms=>.inl (ms,sh):=by
  unfold zAL;rw[hb];rfl
 obtain⟨m,rfl⟩:∃m:Nat,st=m:=⟨st.toNat,by omega⟩
 obtain⟨h,rfl⟩:∃h:Nat,ho=h:=⟨ho.toNat,by omega⟩
 cases hsp:jK s with
 |inr e=>
  obtain⟨n,k⟩:=e;rw[hsp] at hg;exact hno (zEG hsp) hg (zLp w s m h fo hs h1' h2' h3' h4' n k (zEG hsp) hsp)
 |inl sh=>
  rw[hsp] at hg;cases hmo:xZ (1+6*s.size) sh sh.modes.length 0 m with
  |none=>
   have hg2:zAL s m h=.inr (0,5):=by rw[hg];show(match xZ (1+6*s.size) sh sh.modes.length 0 m with|none=>_|some ms=>_)=_;rw[hmo]
   exact hno (by decide) hg2 (zI0 w s fo hs m h (by omega) (by omega) (by omega) (by omega) sh hsp hmo)
  |some ms=>
   have hg2:zAL s m h=.inl (ms,sh):=by rw[hg];show(match xZ (1+6*s.size) sh sh.modes.length 0 m with|none=>_|some ms=>_)=_;rw[hmo]
   rw[hg2];exact zMU w s fo hs m h (by omega) (by omega) (by omega) (by omega) sh hsp ms hmo
theorem zHc (kinds:Nat)(hk:1<=kinds)(a:Nat)(h:zG kinds a<=3000):2^a<=zG kinds a:=by
 induction a with
 |zero=>exact Nat.le_refl _
 |succ a ih=>
  rw[zG] at h ⊢;split at h
  ·rename_i h1
   rw[if_pos h1];have:=ih h1;rw[Nat.pow_succ];exact Nat.mul_le_mul this (by omega)
  ·exact absurd h (by assumption)
theorem zKW (kinds:Nat)(hk:1<=kinds)(a:Nat)(h:zG kinds a<=3000):a<12:=by
 have h1:=zHc kinds hk a h;by_cases e:a<12
 ·exact e
 ·have h2:2^12<=2^a:=Nat.pow_le_pow_right (by decide) (by omega)
  have h3:(2:Nat)^12=4096:=by decide
  omega
structure Tb.Made0 (t:Tb):Prop where
 ok:t.OkN
 hold0:1<=t.hold
 hold:t.hold<=64
 nst:1<=t.nst
 count:1<=t.count
 mode1:1<=t.nmode
 mode2:t.nmode<=3
 rule1:1<=t.nrule
 rule2:t.nrule<=8
 act:∀i,i<t.nrule->t.act i<4
 start:∀i,i<t.nmode->t.start i<t.nst
 push:∀i,i<t.nrule->t.push i<t.nmode
 kind:∀c,c<256->t.kind c<t.count
theorem Tb.Made0.fine {t:Tb}(h:t.Made0)(a:Nat)(hw:zG t.count a<=3000):(t.looking a).Fine:=by
 have h1:=zHc t.count h.count a hw;have h2:=zKW t.count h.count a hw;have h3:1<=2^a:=Nat.one_le_two_pow;have h4:=Nat.mul_le_mul hw h.ok.nst;have h5:1*1<=zG t.count a*t.nst:=Nat.mul_le_mul (by omega) h.nst;refine⟨⟨?_,h.hold0,h.hold,h.ok.count,?_,hw,h.ok.nst,h.mode1,?_,h.start,h.push,h.kind,h.ok.next,h.ok.ends,fun i _=>zDZ _ _ _⟩,h.nst,h.count,?_,?_,h.rule1,h.rule2,h.mode2,h.act⟩
 ·show a<64
  omega
 ·show 1<=zG t.count a
  omega
 ·show zG t.count a*t.nst<=8*((zG t.count a*t.nst+7)/8)
  omega
 ·show 1<=(zG t.count a*t.nst+7)/8
  omega
 ·show(zG t.count a*t.nst+7)/8<=75000
  omega
theorem zIw {ms:List Sm}(h:ModesOk ms):1<=zO ms ms.length:=by
 have h1:=qI ms 1 ms.length h.one;have e:zO ms 1=(ms[0]'h.one).next.length:=by simp[zO,List.getD_eq_getElem?_getD,List.getElem?_eq_getElem h.one]
 have:=h.states1 0 h.one;omega
theorem zKN {ms:List Sm}{acts pushed:List Int}{hold:Nat}(h:ModesOk ms)(ha:acts.length=zQ ms ms.length)(h1:1<=hold)(h2:hold<=64)(h3:∀i,i<acts.length->(acts.getD i 0).toNat<4)(h4:∀i,i<acts.length->(pushed.getD i 0).toNat<ms.length)(f:Nat->Bool):({xL ms acts pushed hold with live:=f}:Tb).Made0:=by
 have ok:=(zCx ms acts pushed hold h ha).withLive f;obtain⟨b1,-,-⟩:=zBS ms h ms.length (Nat.le_refl _);obtain⟨s1,-⟩:=zAF (zB ms 256).1 ms h ms.length (Nat.le_refl _);refine⟨ok,h1,h2,zIw h,zCG ms 256 (by decide),h.one,h.three,?_,?_,h3,fun i hi=>?_,h4,fun c hc=>?_⟩
 ·show 1<=acts.length
  rw[ha];exact h.rules1
 ·show acts.length<=8
  rw[ha];exact h.rules8
 ·have hi':i<ms.length:=hi
  have:=b1 _ (zR (zS (zB ms 256).1 ms ms.length).starts i 0 (by omega));show((zS (zB ms 256).1 ms ms.length).starts.getD i 0).toNat<zO ms ms.length;omega
 ·have:=zDE ms 256 c hc
  show((zB ms 256).1.getD c 0).toNat<(zB ms 256).2;omega
theorem zKs {ms:List Sm}{acts pushed:List Int}{hold:Nat}(h:ModesOk ms)(ha:acts.length=zQ ms ms.length)(h1:1<=hold)(h2:hold<=64)(h3:∀i,i<acts.length->(acts.getD i 0).toNat<4)(h4:∀i,i<acts.length->(pushed.getD i 0).toNat<ms.length)(n:Nat)(fo:Bool):(zBB ms acts pushed hold n fo).Fine:=by
 have hb:((xL ms acts pushed hold).first.itr n).Made0:=by rw[zDa];exact zKN h ha h1 h2 h3 h4 _
 have hc:((xL ms acts pushed hold).first.itr n).count=(zB ms 256).2:=by rw[zA3];rfl
 unfold zBB;split
 ·rename_i hs
  rw[Bool.and_eq_true] at hs;have h5:=hs.2;unfold xR at h5;rw[Bool.and_eq_true] at h5;have h6:({zAv ms acts pushed hold n with stream:=true}:Tb).Made0:=⟨⟨hb.ok.1,hb.ok.2,hb.ok.3,hb.ok.4⟩,hb.2,hb.3,hb.4,hb.5,hb.6,hb.7,hb.8,hb.9,hb.10,hb.11,hb.12,hb.13⟩
  exact h6.fine _ (by show zG ((xL ms acts pushed hold).first.itr n).count _<=3000;rw[hc];exact of_decide_eq_true h5.2)
 ·exact hb.fine 0 (by rw[zBC];decide)
theorem zHl (t:Tb)(s:Nat)(h:(t.spreadTo s).2=false):(t.spreadTo s).1=t:=by
 induction s with
 |zero=>rfl
 |succ s ih=>
  rw[Tb.spreadTo] at h ⊢;split at h
  ·cases h
  ·rename_i h1
   rw[if_neg h1];exact ih h
theorem zGa (t:Tb)(n:Nat)(h:((t.itr n).spreadTo t.nst).2=false)(k:Nat):t.itr (n+k)=t.itr n:=by
 induction k with
 |zero=>rfl
 |succ k ih=>
  show((t.itr (n+k)).spreadTo t.nst).1=t.itr n;rw[ih];exact zHl _ _ h
theorem zL8 (t:Tb)(n m:Nat)(hn:((t.itr n).spreadTo t.nst).2=false)(hm:((t.itr m).spreadTo t.nst).2=false):t.itr n=t.itr m:=by
 rcases Nat.le_total n m with h|h
 ·have:=zGa t n hn (m-n)
  rw[show n+(m-n)=m by omega] at this;exact this.symm
 ·have:=zGa t m hm (n-m)
  rw[show m+(n-m)=n by omega] at this;exact this
theorem zLr (ms:List Sm)(acts pushed:List Int)(hold:Nat)(fo:Bool)(n m:Nat)(hn:(((xL ms acts pushed hold).first.itr n).spreadTo (zO ms ms.length)).2=false)(hm:(((xL ms acts pushed hold).first.itr m).spreadTo (zO ms ms.length)).2=false):zBB ms acts pushed hold n fo=zBB ms acts pushed hold m fo:=by
 have:=zL8 (xL ms acts pushed hold).first n m hn hm
 unfold zBB zAv;rw[this]
theorem zEZ (D:Nat)(sh:Sh):∀f j mo ms,xZ D sh f j mo=some ms->ms.length=f
 |0,_,_,ms,h=>by have e:=Option.some.inj h;subst e;rfl
 |f+1,j,mo,ms,h=>by
  have h2:(match zC7 D (sh.mode j).2 mo with|none=>none|some m=>(xZ D sh f (j+1) (mo-m.next.length)).map (m::·))=some ms:=h;split at h2
  ·cases h2
  ·obtain⟨l,h3,h4⟩:=Option.map_eq_some_iff.1 h2
   subst h4;exact congrArg (·+1) (zEZ D sh f _ _ l h3)
theorem zKr {s:ByteArray}{st ho:Int}{ms:List Sm}{sh:Sh}(h:zAL s st ho=.inl (ms,sh)):(∀i,i<(ints sh.acts).length->((ints sh.acts).getD i 0).toNat<4)∧(∀i,i<sh.pushed.length->((sh.pushesTo sh.pushed.length).getD i 0).toNat<ms.length)∧yJ st ho=false:=by
 unfold zAL at h;split at h
 ·cases h
 rename_i hb
 have hb':yJ st ho=false:=by cases e:yJ st ho;rfl;exact absurd e hb
 cases hsp:jK s with
 |inr e=>rw[hsp] at h;cases h
 |inl sh1=>
  rw[hsp] at h;have h2:(match xZ (1+6*s.size) sh1 sh1.modes.length 0 st.toNat with|none=>.inr (0,5)|some ms=>.inl (ms,sh1))=(.inl (ms,sh):(List Sm×Sh) ⊕ (Nat×Nat)):=h;split at h2
  ·cases h2
  rename_i ms1 hm
  cases h2
  have hl:=zEZ _ _ _ _ _ _ hm;have hsum:=zHn hsp;unfold jK at hsp;split at hsp
  ·cases hsp
  split at hsp
  ·cases hsp
  split at hsp
  ·rename_i h3
   rw[Bool.and_eq_true] at h3;split at hsp
   ·have hsp2:=Sum.inl.inj hsp
    rw[hsp2] at h3;refine⟨fun i hi=>?_,fun i hi=>?_,hb'⟩
    ·rw[zM] at hi
     have:(ints sh.acts).getD i 0=((sh.acts[i]:Nat):Int):=by unfold ints;rw[List.getD_eq_getElem?_getD,List.getElem?_eq_getElem (by rw[List.length_map];exact hi),List.getElem_map];rfl
     rw[this];exact hsum.2 _ (List.getElem_mem hi)
    ·have hp:=h3.2
     unfold Sh.haveB at hp;have hp:=(of_decide_eq_true hp).1;have:(sh.pushesTo sh.pushed.length).getD i 0=sh.pushI (sh.push i):=by unfold Sh.pushesTo;rw[List.getD_eq_getElem?_getD,List.getElem?_eq_getElem (by rw[List.length_map,List.length_range];exact hi),List.getElem_map,List.getElem_range];rfl
     rw[this,hl];unfold Sh.pushI;split
     ·exact hp
     ·unfold Sh.modeI
      split
      ·rename_i h5;exact h5
      ·exact hp
   ·cases hsp
  ·cases hsp
def zC2 (c:Int)(n:Nat):Nat:=(if c<0 then -(c+1) else c).toNat%n
theorem zEW (c:Int)(n:Nat)(h:1<=n):zC2 c n<n:=Nat.mod_lt _ h
theorem zCE (w:World)(c:Int)(hc1:-9223372036854775808<=c)(hc2:c<=9223372036854775807)(n:Nat)(h1:1<=n)(h2:n<=1073741824):Calls prog 15 #[.int .i64 c,.int .i64 (n:Int)] w fun e w'=>e=.returned (.int .i64 (zC2 c n:Nat))∧w'=w:=by
 by_cases h0:c<0
 ·have hp:Hid ((zC2 c n:Int)=-((c+1).tmod n)):=by
   show _=_;unfold zC2;rw[if_pos h0,<-Int.neg_tmod,Int.tmod_eq_emod_of_nonneg (by omega),Int.natCast_emod,Int.toNat_of_nonneg (by omega)]
  go_in;go_wp2;refine bodyPost_ret (results_tmp rfl _ _ _) rfl ?_;exact⟨by rw[hp.out];rfl,rfl⟩
 ·have hp:Hid ((zC2 c n:Int)=c%n):=by
   show _=_;unfold zC2;rw[if_neg h0,Int.natCast_emod,Int.toNat_of_nonneg (by omega)]
  go_in;go_wp2;refine bodyPost_ret (results_tmp rfl _ _ _) rfl ?_;exact⟨by rw[hp.out];rfl,rfl⟩
def zAC (s:ByteArray):Option (List Sm×Sh):=match zAL s 200 64 with
 | .inl x=>some x
 | .inr _=>none
theorem zKt (s:ByteArray)(h:Int)(h1:1<=h)(h2:h<=64):zAL s 200 h=zAL s 200 64:=by
 have hb:yJ 200 h=yJ 200 64:=by
  unfold yJ;rw[decide_eq_false (show¬h<1 by omega),decide_eq_false (show¬64<h by omega)];rfl
 unfold zAL;rw[hb]
structure LexIn (w:World)(B L:Nat)(x:List Sm×Sh)(hold:Nat)(fo:Bool)(t:Tb):Prop where
 fine:t.Fine
 made:∃n,t=zBB x.1 (ints x.2.acts) (x.2.pushesTo x.2.pushed.length) hold n fo∧(((xL x.1 (ints x.2.acts) (x.2.pushesTo x.2.pushed.length) hold).first.itr n).spreadTo (zO x.1 x.1.length)).2=false
 from_:B<=L
 at_:∃S p,LexAt w S L p t∧∀k,S k->B<=k
theorem LexIn.keep {w w':World}{B L:Nat}{x:List Sm×Sh}{hold:Nat}{fo:Bool}{t:Tb}(h:LexIn w B L x hold fo t)(e:∀k,B<=k->k<w.heap.size->w'.heap[k]? =w.heap[k]?)(hs:w.heap.size<=w'.heap.size):LexIn w' B L x hold fo t:=by
 obtain⟨S,p,hL,hS⟩:=h.at_;exact⟨h.fine,h.made,h.from_,S,p,⟨(cell?_of_block (e L h.from_ hL.lt)).trans hL.cell,Nat.lt_of_lt_of_le hL.lt hs,hL.tab.keep fun k hk=>e k (hS k hk) (hL.safe k hk),fun k hk=>Nat.lt_of_lt_of_le (hL.safe k hk) hs⟩,hS⟩
theorem LexIn.grown {w w':World}{B L:Nat}{x:List Sm×Sh}{hold:Nat}{fo:Bool}{t:Tb}(h:LexIn w B L x hold fo t)(e:Grew w w'):LexIn w' B L x hold fo t:=h.keep (fun k _ hk=>e.block k hk (by omega)) e.size
theorem LexIn.less {w:World}{B C L:Nat}{x:List Sm×Sh}{hold:Nat}{fo:Bool}{t:Tb}(h:LexIn w B L x hold fo t)(hc:C<=B):LexIn w C L x hold fo t:=by
 obtain⟨S,p,hL,hS⟩:=h.at_;exact⟨h.fine,h.made,Nat.le_trans hc h.from_,S,p,hL,fun k hk=>Nat.le_trans hc (hS k hk)⟩
theorem LexIn.of {w w':World}{s:ByteArray}{st:Int}{ms:List Sm}{sh:Sh}{hold:Nat}{fo:Bool}(hg:zAL s st hold=.inl (ms,sh)){L p H n:Nat}{c:Tc}(h1:w'.cell? ⟨L,0,none⟩=some (.pointer (some ⟨p,0,none⟩)))(h2:L<w'.heap.size)(h3:w.heap.size<=L)(h4:w.heap.size<=H)(h5:w.heap.size<=p)(h6:Mem w' H p c (zBB ms (ints sh.acts) (sh.pushesTo sh.pushed.length) hold n fo))(h7:(((xL ms (ints sh.acts) (sh.pushesTo sh.pushed.length) hold).first.itr n).spreadTo (zO ms ms.length)).2=false)(h8:ModesOk ms)(h9:(ints sh.acts).length=zQ ms ms.length)(h10:(sh.pushesTo sh.pushed.length).length=(ints sh.acts).length):LexIn w' w.heap.size L (ms,sh) hold fo (zBB ms (ints sh.acts) (sh.pushesTo sh.pushed.length) hold n fo):=by
 obtain⟨f1,f2,f3⟩:=zKr hg;have hb:1<=hold∧hold<=64:=by
  unfold yJ at f3;simp only[Bool.or_eq_false_iff,decide_eq_false_iff_not] at f3;omega
 have hf:=zKs h8 h9 hb.1 hb.2 f1 (fun i hi=>f2 i (by rw[<-h10,yW] at hi;exact hi)) n fo;refine⟨hf,⟨n,rfl,h7⟩,h3,Mem.blocks w' H p,p,⟨h1,h2,h6.tabAt hf.ok.nmode hf.rule1 hf.nst hf.count hf.long1,fun k hk=>?_⟩,fun k hk=>?_⟩
 ·rcases hk with rfl|hk
  ·exact h6.tp.lt
  ·exact hk.2
 ·rcases hk with rfl|hk
  ·exact h5
  ·exact Nat.le_trans h4 hk.1
def zJk (x:List Sm×Sh)(fo:Bool):Bool:=!fo&&xR (aheadTo x.1 x.1.length) (zB x.1 256).2
end Go.Proofs.YtbjcfkdnjaiclaaGreat
