import Derived.Deep.AppendLies
import Derived.Deep.DrawnRows
import Derived.Deep.LoopGhost
import Derived.Deep.RegionHeld3
import Derived.Deep.RegionLaw
import Derived.Deep.RegionWith
import Derived.KernelRfl
import Derived.Laws.Pointers
import Derived.OwnWalk
import Derived.StillTactics
import Derived.Test.YtbjcfkdnjaiclaaGreatProg
import Derived.WalkKit
import Derived.WalkLawsBesides
import Derived.WalkSpells
import Derived.Test.YtbjcfkdnjaiclaaGreatA0
import Derived.Test.YtbjcfkdnjaiclaaGreatA1
import Derived.Test.YtbjcfkdnjaiclaaGreatA10
/- Parts of the proof. -/
set_option linter.unusedVariables false
set_option linter.unusedSimpArgs false
set_option maxHeartbeats 4000000
set_option maxRecDepth 100000
namespace Go.Proofs.YtbjcfkdnjaiclaaGreat
open Go.RowKit Go.Proofs.Tryz Go.World
open Go.Value (int slice bool pointer string agg tuple)
open Go.IntKind (i64)
open Go.Ending (returned)
theorem zOe (w w8:World)(post:Ending->World->Prop)(Q:World->Prop)(p R:Nat)(m0 s0 v0:Option Addr)(m1 m2 s1 s2 v1 v2:Nat)(AH:Int)(ST:Bool)(hB:w8.heap[w.heap.size+1]? =some (.cells #[slice none 0 0,slice none 0 0,slice none 0 0,int i64 0,bool false,int i64 0] 30))(hR:R≠w.heap.size+1)(hRl:R<w8.heap.size)(hRp:R≠p)(hpp:w.heap.size+1≠p)
  (x0:w8.cell? ⟨R,0,none⟩=some (slice m0 m1 m2)) (x1:w8.cell? ⟨R,1,none⟩=some (slice s0 s1 s2)) (x2:w8.cell? ⟨R,2,none⟩=some (slice v0 v1 v2)) (x3:w8.cell? ⟨R,3,none⟩=some (int i64 AH)) (x4:w8.cell? ⟨R,4,none⟩=some (bool ST)) (x5:w8.cell? ⟨R,5,none⟩=some (int i64 0))
  (hMS:ST=true->Calls prog 47 #[pointer (some ⟨p,0,none⟩),int i64 AH] w8 (fun e w9=>e=returned (tuple #[])∧Q w9∧Keep w8.heap.size p w8 w9)) (hQ:ST=false->Q w8)
  (hfin:∀w9 wz L,Keep w8.heap.size p w8 w9->Q w9->wz.os=w9.os->wz.output=w9.output->w9.heap.size<=L->L<wz.heap.size->(∀k,k<w9.heap.size->k≠w.heap.size+1->wz.heap[k]? =w9.heap[k]?)->wz.cell? ⟨L,0,none⟩=some (pointer (some ⟨p,0,none⟩))->post (returned (tuple #[pointer (some ⟨L,0,none⟩),agg #[slice m0 m1 m2,slice s0 s1 s2,slice v0 v1 v2,int i64 AH,bool ST,int i64 0],int i64 0])) wz)
  {u0 u1 u2 u3 u4 u6 u7 u8 u9 u10 u11 u14 u15 u16 u17 u18 u19 u20 u21 u22 u23 u24 u25 u26 u27 u28 u29 u30 u31 u32 u33 u34 u35 u36 u37 u38 u39 u40 u41 u42 u43 u44 u45 u46 u47 u48 u49 u50 u51 u52 u53 u54 u55 u56 u57 u58 u59 u60 u61 u62 u63 u64 u65 u66 u67 u68 u69 u70 u71 u72 u73 u74 u75 u76 u77 u78 u79:Value}:
  Code.wp prog (yS 8 ((f30.body).getD .skip)) (bodyPost prog f30 post) ⟨(u0::u1::u2::u3::u4::pointer (some ⟨w.heap.size+1,0,none⟩)::u6::u7::u8::u9::u10::u11::pointer (some ⟨p,0,none⟩)::pointer (some ⟨R,0,none⟩)::u14::u15::u16::u17::u18::u19::u20::u21::u22::u23::u24::u25::u26::u27::u28::u29::u30::u31::u32::u33::u34::u35::u36::u37::u38::u39::u40::u41::u42::u43::u44::u45::u46::u47::u48::u49::u50::u51::u52::u53::u54::u55::u56::u57::u58::u59::u60::u61::u62::u63::u64::u65::u66::u67::u68::u69::u70::u71::u72::u73::u74::u75::u76::u77::u78::u79::[]).toArray,[]⟩ w8:=by
 conv=>arg 2;whnf
 have HFI:=vl hfin;have HBB:Hid (w8.heap[w.heap.size+1]? =some (.cells #[slice none 0 0,slice none 0 0,slice none 0 0,int i64 0,bool false,int i64 0] 30)∧R≠w.heap.size+1∧R<w8.heap.size∧R≠p∧w.heap.size+1≠p∧w.heap.size+1<w8.heap.size):=⟨hB,hR,hRl,hRp,hpp,(kQ.1 hB).1⟩
 apply wp_cut;intro K0 J;cases ST with
 |false=>
  have hq:=hQ rfl;go_wp2;apply J.out;exact zMv w w8 post p R m0 s0 v0 m1 m2 s1 s2 v1 v2 AH false HBB.out.1 HBB.out.2.1 HBB.out.2.2.1 x0 x1 x2 x3 x4 x5 (fun wz L=>HFI.out w8 wz L (Keep.refl _ _ _) hq)
 |true=>
  have HC:=vl <| hMS rfl;go_wp2_with (first|(go_at_call 47;refine HC.out.mono ?_;rintro e w9 ⟨rfl,hq,hk9⟩))
  apply J.out;have hb:=hk9.block (w.heap.size+1) HBB.out.2.2.2.2.2 HBB.out.2.2.2.2.1;have hr:=hk9.block R HBB.out.2.2.1 HBB.out.2.2.2.1;have hc:∀i,w9.cell? ⟨R,i,none⟩=w8.cell? ⟨R,i,none⟩:=fun i=>gG hr;exact zMv w w9 post p R m0 s0 v0 m1 m2 s1 s2 v1 v2 AH true (hb.trans HBB.out.1) HBB.out.2.1 (lZ HBB.out.2.2.1 hk9.size) ((hc 0).trans x0) ((hc 1).trans x1) ((hc 2).trans x2) ((hc 3).trans x3) ((hc 4).trans x4) ((hc 5).trans x5) (fun wz L=>HFI.out w9 wz L hk9 hq)
theorem zOf (w w6:World)(post:Ending->World->Prop)(Q:World->Prop)(p:Nat)(a5:Option Addr)(l5 c5 CN:Nat)(AH:Int)(ST fo:Bool)(hB:w6.heap[w.heap.size+1]? =some (.cells #[slice none 0 0,slice none 0 0,slice none 0 0,int i64 0,bool false,int i64 0] 30))(hl:w.heap.size+2<=w6.heap.size)(hp:p<w6.heap.size)(hpp:w.heap.size+1≠p)
  (y7:w6.cell? ⟨p,7,none⟩=some (int i64 (CN:Nat))) (l2:w6.cell? ⟨w.heap.size,2,none⟩=some (bool fo))
  (HRP:∀wq,Grew w6 wq->Calls prog 46 #[slice a5 l5 c5,int i64 (CN:Nat),bool fo] (wq) (fun e w'=>∃m0 m1 m2 s0 s1 s2 v0 v1 v2,e=returned (agg #[slice m0 m1 m2,slice s0 s1 s2,slice v0 v1 v2,int i64 AH,bool ST,int i64 0])∧Keep (wq).heap.size (wq).heap.size (wq) w'))
  (hMS:∀w8,Grew w6 w8->(ST=true->Calls prog 47 #[pointer (some ⟨p,0,none⟩),int i64 AH] w8 (fun e w9=>e=returned (tuple #[])∧Q w9∧Keep w8.heap.size p w8 w9))∧(ST=false->Q w8))
  (hfin:∀m0 m1 m2 s0 s1 s2 v0 v1 v2 w8 w9 wz L,Grew w6 w8->Keep w8.heap.size p w8 w9->Q w9->wz.os=w9.os->wz.output=w9.output->w9.heap.size<=L->L<wz.heap.size->(∀k,k<w9.heap.size->k≠w.heap.size+1->wz.heap[k]? =w9.heap[k]?)->wz.cell? ⟨L,0,none⟩=some (pointer (some ⟨p,0,none⟩))->post (returned (tuple #[pointer (some ⟨L,0,none⟩),agg #[slice m0 m1 m2,slice s0 s1 s2,slice v0 v1 v2,int i64 AH,bool ST,int i64 0],int i64 0])) wz)
  {u0 u1 u2 u4 u6 u7 u8 u9 u11 u13 u14 u15 u16 u17 u18 u19 u20 u21 u22 u23 u24 u25 u26 u27 u28 u29 u30 u31 u32 u33 u34 u35 u36 u37 u38 u39 u40 u41 u42 u43 u44 u45 u46 u47 u48 u49 u50 u51 u52 u53 u54 u55 u56 u57 u58 u59 u60 u61 u62 u63 u64 u65 u66 u67 u68 u69 u70 u71 u72 u73 u74 u75 u76 u77 u78 u79:Value}:
  Code.wp prog (yS 7 ((f30.body).getD .skip)) (bodyPost prog f30 post) ⟨(u0::u1::u2::pointer (some ⟨w.heap.size,0,none⟩)::u4::pointer (some ⟨w.heap.size+1,0,none⟩)::u6::u7::u8::u9::slice a5 l5 c5::u11::pointer (some ⟨p,0,none⟩)::u13::u14::u15::u16::u17::u18::u19::u20::u21::u22::u23::u24::u25::u26::u27::u28::u29::u30::u31::u32::u33::u34::u35::u36::u37::u38::u39::u40::u41::u42::u43::u44::u45::u46::u47::u48::u49::u50::u51::u52::u53::u54::u55::u56::u57::u58::u59::u60::u61::u62::u63::u64::u65::u66::u67::u68::u69::u70::u71::u72::u73::u74::u75::u76::u77::u78::u79::[]).toArray,[]⟩ w6:=by
 conv=>arg 2;whnf
 have ka6:Grew w6 (w6.alloc (.cells #[slice none 0 0,slice none 0 0,slice none 0 0,int i64 0,bool false,int i64 0] 30)):=kZ _ _ lQ;have HR1:=vl HRP;have KA1:Hid (Grew w6 w6.drew):=Keep.drew _;have KA2:Hid (Grew w6 (w6.alloc (.cells #[slice none 0 0,slice none 0 0,slice none 0 0,int i64 0,bool false,int i64 0] 30)).drew):=⟨ka6.os,ka6.output,ka6.size,ka6.block⟩
 have KU1:Hid (∀w7,Grew w6.drew w7->Grew w6 w7):=fun w7 hk=>Keep.undrew hk;have HPB:Hid (∀w7,Keep ((w6.alloc (.cells #[slice none 0 0,slice none 0 0,slice none 0 0,int i64 0,bool false,int i64 0] 30)).drew).heap.size ((w6.alloc (.cells #[slice none 0 0,slice none 0 0,slice none 0 0,int i64 0,bool false,int i64 0] 30)).drew).heap.size ((w6.alloc (.cells #[slice none 0 0,slice none 0 0,slice none 0 0,int i64 0,bool false,int i64 0] 30)).drew) w7->w7.heap[w6.heap.size]? =some (.cells #[slice none 0 0,slice none 0 0,slice none 0 0,int i64 0,bool false,int i64 0] 30)):=fun w7 hk=>(hk.block w6.heap.size (by show w6.heap.size<(w6.alloc _).heap.size;simp) (by show w6.heap.size≠(w6.alloc _).heap.size;simp)).trans (gJ w6 _);have HUP:Hid (∀w7,Keep ((w6.alloc (.cells #[slice none 0 0,slice none 0 0,slice none 0 0,int i64 0,bool false,int i64 0] 30)).drew).heap.size ((w6.alloc (.cells #[slice none 0 0,slice none 0 0,slice none 0 0,int i64 0,bool false,int i64 0] 30)).drew).heap.size ((w6.alloc (.cells #[slice none 0 0,slice none 0 0,slice none 0 0,int i64 0,bool false,int i64 0] 30)).drew) w7->Grew w6 w7):=fun w7 hk=>ka6.trans ⟨hk.os,hk.output,hk.size,fun k k1 k2=>hk.block k (by show k<(w6.alloc _).heap.size;simp;omega) (by show k≠(w6.alloc _).heap.size;simp;omega)⟩;have HZF:Hid (∀w7,Grew w6 w7->w7.cell? ⟨p,7,none⟩=some (int i64 (CN:Nat))∧w7.cell? ⟨w.heap.size,2,none⟩=some (bool fo)):=fun w7 hk=>⟨zA y7 hp hk,zA l2 (show w.heap.size<w6.heap.size by omega) hk⟩
 have HGO:Hid (∀R w8 m0 m1 m2 s0 s1 s2 v0 v1 v2,Grew w6 w8->w6.heap.size<=R->R<w8.heap.size->w8.cell? ⟨R,0,none⟩=some (slice m0 m1 m2)->w8.cell? ⟨R,1,none⟩=some (slice s0 s1 s2)->w8.cell? ⟨R,2,none⟩=some (slice v0 v1 v2)->w8.cell? ⟨R,3,none⟩=some (int i64 AH)->w8.cell? ⟨R,4,none⟩=some (bool ST)->w8.cell? ⟨R,5,none⟩=some (int i64 0)->∀(b0 b1 b2 b3 b4 b6 b7 b8 b9 b10 b11 b14 b15 b16 b17 b18 b19 b20 b21 b22 b23 b24 b25 b26 b27 b28 b29 b30 b31 b32 b33 b34 b35 b36 b37 b38 b39 b40 b41 b42 b43 b44 b45 b46 b47 b48 b49 b50 b51 b52 b53 b54 b55 b56 b57 b58 b59 b60 b61 b62 b63 b64 b65 b66 b67 b68 b69 b70 b71 b72 b73 b74 b75 b76 b77 b78 b79:Value),Code.wp prog (yS 8 ((f30.body).getD .skip)) (bodyPost prog f30 post) ⟨(b0::b1::b2::b3::b4::pointer (some ⟨w.heap.size+1,0,none⟩)::b6::b7::b8::b9::b10::b11::pointer (some ⟨p,0,none⟩)::pointer (some ⟨R,0,none⟩)::b14::b15::b16::b17::b18::b19::b20::b21::b22::b23::b24::b25::b26::b27::b28::b29::b30::b31::b32::b33::b34::b35::b36::b37::b38::b39::b40::b41::b42::b43::b44::b45::b46::b47::b48::b49::b50::b51::b52::b53::b54::b55::b56::b57::b58::b59::b60::b61::b62::b63::b64::b65::b66::b67::b68::b69::b70::b71::b72::b73::b74::b75::b76::b77::b78::b79::[]).toArray,[]⟩ w8):=fun R w8 m0 m1 m2 s0 s1 s2 v0 v1 v2 hk hR1 hR2 x0 x1 x2 x3 x4 x5 _ _ _ _ _ _ _ _ _ _ _ _ _ _ _ _ _ _ _ _ _ _ _ _ _ _ _ _ _ _ _ _ _ _ _ _ _ _ _ _ _ _ _ _ _ _ _ _ _ _ _ _ _ _ _ _ _ _ _ _ _ _ _ _ _ _ _ _ _ _ _ _ _ _ _ _ _=>zOe w w8 post Q p R m0 s0 v0 m1 m2 s1 s2 v1 v2 AH ST ((hk.block _ (by omega) (by omega)).trans hB) (by omega) hR2 (by omega) hpp x0 x1 x2 x3 x4 x5 (hMS w8 hk).1 (hMS w8 hk).2 (fun w9 wz L hk9 hq=>hfin m0 m1 m2 s0 s1 s2 v0 v1 v2 w8 w9 wz L hk hk9 hq);obtain⟨y7a,l2a⟩:=HZF.out (w6.alloc (.cells #[slice none 0 0,slice none 0 0,slice none 0 0,int i64 0,bool false,int i64 0] 30)) ka6;refine wp_seq_k ?_;intro K0 hK0;have J:=vl hK0;go_region_with ((go_at_call 46;go_must ((refine (HR1.out _ (by first|exact KA1.out|exact KA2.out)).mono ?_;rintro e w7 ⟨m0,m1,m2,s0,s1,s2,v0,v1,v2,rfl,hk7⟩;first|(have hk8:=KU1.out w7 hk7;obtain⟨z0,z1⟩:=HZF.out w7 hk8;obtain⟨r0,r1,r2,r3,r4,r5,g0,g1,g2,g3,g4,g5⟩:=jC (gJ w7 (.cells #[slice none 0 0,slice none 0 0,slice none 0 0,int i64 0,bool false,int i64 0] 30));obtain⟨z2,z3⟩:=HZF.out (w7.alloc (.cells #[slice none 0 0,slice none 0 0,slice none 0 0,int i64 0,bool false,int i64 0] 30)) (hk8.trans (kZ _ _ hk8.size)))|(have hk8:=HUP.out w7 hk7;obtain⟨r0,r1,r2,r3,r4,r5,g0,g1,g2,g3,g4,g5⟩:=jC (HPB.out w7 hk7);obtain⟨z0,z1⟩:=HZF.out w7 hk8)))))
 all_goals
  show K0 _ _;apply J.out
  first
  |(obtain ⟨wa,hwa,hblk,hz,ho,hu,hne⟩:=zEr w7 w6.heap.size (slice m0 m1 m2) (slice s0 s1 s2) (slice v0 v1 v2) (int i64 AH) (bool ST) (int i64 0) (HPB.out w7 hk7);rw[<-hwa];refine HGO.out w6.heap.size wa m0 m1 m2 s0 s1 s2 v0 v1 v2 (hk8.trans ⟨ho,hu,by omega,fun k k1 _=>hne k (by omega)⟩) lQ (kQ.1 hblk).1 ?_ ?_ ?_ ?_ ?_ ?_ _ _ _ _ _ _ _ _ _ _ _ _ _ _ _ _ _ _ _ _ _ _ _ _ _ _ _ _ _ _ _ _ _ _ _ _ _ _ _ _ _ _ _ _ _ _ _ _ _ _ _ _ _ _ _ _ _ _ _ _ _ _ _ _ _ _ _ _ _ _ _ _ _ _ _ _ _;all_goals (unfold cell?;rw[hblk];rfl))
  |(have hn:=gJ w7 (.cells #[slice m0 m1 m2,slice s0 s1 s2,slice v0 v1 v2,int i64 AH,bool ST,int i64 0] 30);refine HGO.out w7.heap.size _ m0 m1 m2 s0 s1 s2 v0 v1 v2 (hk8.trans (kZ _ _ hk8.size)) hk8.size (kQ.1 hn).1 ?_ ?_ ?_ ?_ ?_ ?_ _ _ _ _ _ _ _ _ _ _ _ _ _ _ _ _ _ _ _ _ _ _ _ _ _ _ _ _ _ _ _ _ _ _ _ _ _ _ _ _ _ _ _ _ _ _ _ _ _ _ _ _ _ _ _ _ _ _ _ _ _ _ _ _ _ _ _ _ _ _ _ _ _ _ _ _ _;all_goals (unfold cell?;rw[hn];rfl))
def qV (ms:List Sm)(acts pushed:List Int)(hold n:Nat)(fo:Bool):Tb:=if !fo&&xP (aheadTo ms ms.length) (zB ms 256).2 then{vB ms acts pushed hold n with stream:=true}.looking (aheadTo ms ms.length).toNat else vB ms acts pushed hold n
def zMT (w:World)(ms:List Sm)(acts pushed:List Int)(hold:Nat)(fo:Bool)(e:Ending)(w':World):Prop:=
 Grew w w'∧∃L p H c n m0 m1 m2 s0 s1 s2 v0 v1 v2,e=returned (tuple #[pointer (some ⟨L,0,none⟩),agg #[slice m0 m1 m2,slice s0 s1 s2,slice v0 v1 v2,int i64 (aheadTo ms ms.length),bool (!fo&&xP (aheadTo ms ms.length) (zB ms 256).2),int i64 0],int i64 0])∧w'.cell? ⟨L,0,none⟩=some (pointer (some ⟨p,0,none⟩))∧L<w'.heap.size∧w.heap.size<=L∧w.heap.size<=H∧w.heap.size<=p∧Mem w' H p c (qV ms acts pushed hold n fo)∧(((zV ms acts pushed hold).first.itr n).spreadTo (zE ms ms.length)).2=false∧ModesOk ms∧acts.length=zT ms ms.length∧pushed.length=acts.length
theorem ModesAt.grown {w w2:World}{v:Value}{ms:List Sm}(h:ModesAt w (In w) v ms)(hk:Grew w w2):ModesAt w2 (In w2) v ms:=by
 have h2:=h.keep (w':=w2) fun b hb=>hk.block b hb (kJ hb);obtain⟨ao,cap,hv,h3,h4,h5⟩:=h2;refine⟨ao,cap,hv,h3,h4,fun i hi=>?_⟩;obtain⟨b,o,u0,u1,u3,e1,e2,e3,e4,e5,e6,e7,e8,e9⟩:=h5 i hi;have m:∀g,In w g->In w2 g:=fun g hg=>lZ hg hk.size;exact⟨b,o,u0,u1,u3,e1,m _ e2,e3,e4,e5,e6,e7.mono m,e8.mono m,e9.mono m⟩
theorem zIL (l:List Nat):∀i,i<(ints l).length->0<=(ints l).getD i 0:=fun i hi=>by
 unfold ints at hi ⊢;rw[lW,lV hi,List.getElem_map];show(0:Int)<=((l[i]'(by simpa using hi):Nat):Int);omega
theorem zH1 {sh:Sh}(h:sh.there=true):∀i,i<(sh.pushesTo sh.pushed.length).length->0<=(sh.pushesTo sh.pushed.length).getD i 0:=fun i hi=>by
 have h2:=hi;rw[yR] at h2;unfold Sh.there at h;have h3:=(of_decide_eq_true h) i h2;unfold Sh.pushesTo at hi ⊢;rw[lW,lV hi,List.getElem_map,List.getElem_range];exact h3
theorem zOd (w:World)(s:ByteArray)(fo:Bool)(hs:s.size<=1048576)(m h:Nat)(h1:1<=m)(h2:m<=200)(h3:1<=h)(h4:h<=64)(sh:Sh)(hsp:vR s=.inl sh)(ms:List Sm)(hmo:xR (1+6*s.size) sh sh.modes.length 0 m=some ms):Calls prog 30 #[string s,agg #[int i64 (m:Int),int i64 (h:Int),bool fo]] w (zMT w ms (ints sh.acts) (sh.pushesTo sh.pushed.length) h fo):=by
 obtain⟨w2,hw2,HK1⟩:∃w2,w2=(w.alloc (.cells #[int i64 (m:Int),int i64 (h:Int),bool fo] 58)).alloc (.cells #[slice none 0 0,slice none 0 0,slice none 0 0,int i64 0,bool false,int i64 0] 30)∧Hid (∀w3,Keep (w.heap.size+2) (w.heap.size+2) w2 w3->w3.heap[w.heap.size+1]? =some (.cells #[slice none 0 0,slice none 0 0,slice none 0 0,int i64 0,bool false,int i64 0] 30)∧w3.cell? ⟨w.heap.size,0,none⟩=some (int i64 (m:Int))∧w3.cell? ⟨w.heap.size,1,none⟩=some (int i64 (h:Int))∧w3.cell? ⟨w.heap.size,2,none⟩=some (bool fo)∧Grew w w3):=⟨_,rfl,fun w3 hk=>zGP hk⟩
 have HZ2:Hid (w2.heap.size=w.heap.size+2):=by show _=_;rw[hw2];simp
 have HRD:Hid (Ca 43 #[string s] w2 (zEz w2 (1+6*s.size) (.inl sh))):=by have:=zAA w2 s hs;rw[hsp] at this;exact this
 have k1:(1:Int)<=(m:Int):=by omega
 have k2:(m:Int)<=200:=by omega
 have k3:(1:Int)<=(h:Int):=by omega
 have k4:(h:Int)<=64:=by omega
 have HMO:Hid (∀w4 mv av pv,SpecIs w4 (1+6*s.size) mv av pv sh->Ca 44 #[agg #[mv,av,pv],int i64 (m:Int)] w4 (zMS w4 (some ms))):=fun w4 mv av pv h=>by have:=zCq w4 (1+6*s.size) mv av pv sh h m h2;rw[hmo] at this;exact this
 have hsum:=zHH hsp;have HMK:Hid (∀w5 v mv av pv,SpecIs w5 (1+6*s.size) mv av pv sh->ModesAt w5 (In w5) v ms->Ca 45 #[v,av,pv,int i64 (h:Int)] w5 (fun e w'=>Made w5 w' e ms (ints sh.acts) (sh.pushesTo sh.pushed.length) h)∧ModesOk ms∧(ints sh.acts).length=zT ms ms.length∧(sh.pushesTo sh.pushed.length).length=(ints sh.acts).length):=fun w5 v mv av pv hsi hM=>by
  obtain⟨hok,hrt⟩:=zMe hsi hsum h2 hmo;exact⟨zJk w5 (In w5) v av pv ms (ints sh.acts) (sh.pushesTo sh.pushed.length) h hM hsi.acts hsi.pushes (fun k hk=>hk) hok (by rw[zN,hrt]) (by rw[zN,yR];exact hsi.ok.same) (zIL _) (zH1 hsi.there),hok,by rw[zN,hrt],by rw[zN,yR];exact hsi.ok.same⟩
 clear hsp hmo hsum;go_in;apply wp_cut;intro K0 J;go_wp2;apply J.out;clear J;rw[<-hw2];clear hw2;obtain⟨-,p0,p1,p2,-⟩:=HK1.out w2 (Keep.refl _ _ _);apply wp_cut;intro K0 J;go_wp2;apply J.out;clear J;clear p0 p1 p2;apply wp_cut;intro K0 J;go_wp2_with (first|(go_at_call 43;refine HRD.out.mono ?_;rintro e w3 ⟨hk3,mv,av,pv,rfl,hsi⟩;obtain⟨⟨am,cm,e1⟩,⟨aa,ca,e2⟩,⟨ap,cp,e3⟩⟩:=hsi.forms;subst e1 e2 e3))
 apply J.out;clear J;obtain⟨w4,hw4,y0,y1,y2,K4⟩:∃w4,w4=w3.alloc (.cells #[slice am sh.modes.length cm,slice aa sh.acts.length ca,slice ap sh.pushed.length cp] 79)∧w4.cell? ⟨w3.heap.size,0,none⟩=some (slice am sh.modes.length cm)∧w4.cell? ⟨w3.heap.size,1,none⟩=some (slice aa sh.acts.length ca)∧w4.cell? ⟨w3.heap.size,2,none⟩=some (slice ap sh.pushed.length cp)∧Hid (Keep (w.heap.size+2) (w.heap.size+2) w2 w4∧SpecIs w4 (1+6*s.size) (slice am sh.modes.length cm) (slice aa sh.acts.length ca) (slice ap sh.pushed.length cp) sh∧w3.heap.size<w4.heap.size∧w.heap.size+2<=w4.heap.size):=by
  have h5:Keep (w.heap.size+2) (w.heap.size+2) w2 w3:=by rw[<-HZ2.out];exact hk3
  have h6:w.heap.size+2<=w3.heap.size:=by have:=hk3.size;rw[HZ2.out] at this;exact this
  have hn:=gJ w3 (.cells #[slice am sh.modes.length cm,slice aa sh.acts.length ca,slice ap sh.pushed.length cp] 79);refine⟨_,rfl,?_,?_,?_,h5.trans (kZ _ _ h6),hsi.grown (kZ _ _ lQ),by simp,by simp;omega⟩
  all_goals (unfold cell?;rw[hn];rfl)
 rw[<-hw4];clear hw4 hk3 hsi HRD;apply wp_cut;intro K0 J;go_wp2;apply J.out;clear J;obtain⟨-,l0,-,-,-⟩:=HK1.out w4 K4.out.1;obtain⟨B,hB⟩:∃B,B=w3.heap.size:=⟨_,rfl⟩
 have HBL:Hid (B<w4.heap.size):=by show B<_;rw[hB];exact K4.out.2.2.1
 rw[<-hB] at y0 y1 y2 ⊢;clear hB;apply wp_cut;intro K0 J;go_wp2_with (first|(go_at_call 44;refine(HMO.out w4 _ _ _ K4.out.2.1).mono ?_;rintro e w5 ⟨hk5,v5,rfl,hM5⟩;obtain⟨a5,c5,e5,-⟩:=id hM5;subst e5))
 apply J.out;clear J;apply wp_cut;intro K0 J;go_wp2;apply J.out;clear J;have K5:Hid (Keep (w.heap.size+2) (w.heap.size+2) w2 w5∧SpecIs w5 (1+6*s.size) (slice am sh.modes.length cm) (slice aa sh.acts.length ca) (slice ap sh.pushed.length cp) sh∧w.heap.size+2<=w5.heap.size∧ModesAt w5 (In w5) (slice a5 ms.length c5) ms):=⟨K4.out.1.trans (hk5.lower K4.out.2.2.2 K4.out.2.2.2),K4.out.2.1.grown hk5,lY K4.out.2.2.2 hk5.size,hM5⟩
 have x1:=zA y1 HBL.out hk5;have x2:=zA y2 HBL.out hk5;obtain⟨-,-,l1,-,-⟩:=HK1.out w5 K5.out.1;obtain⟨hmk,hok,hal⟩:=HMK.out w5 _ _ _ _ K5.out.2.1 hM5;have HMK2:=vl hmk;have HOK:Hid (ModesOk ms∧(ints sh.acts).length=zT ms ms.length∧(sh.pushesTo sh.pushed.length).length=(ints sh.acts).length):=⟨hok,hal⟩
 clear l0 y0 y1 y2 hk5 hM5 HMO HMK hmk hok hal K4 HBL;apply wp_cut;intro K0 J;go_wp2_with (first|(go_at_call 45;refine HMK2.out.mono ?_;rintro e w6 ⟨p,H,cc,n,rfl,hp6,hH6,hMem,hsp6,hk6⟩))
 apply J.out;clear J;have K6:Hid (Keep (w.heap.size+2) (w.heap.size+2) w2 w6∧w.heap.size+2<=w6.heap.size∧ModesAt w6 (In w6) (slice a5 ms.length c5) ms∧w.heap.size+2<=p∧w.heap.size+2<=H∧Mem w6 H p cc (vB ms (ints sh.acts) (sh.pushesTo sh.pushed.length) h n)∧(((zV ms (ints sh.acts) (sh.pushesTo sh.pushed.length) h).first.itr n).spreadTo (zE ms ms.length)).2=false):=⟨K5.out.1.trans (hk6.lower K5.out.2.2.1 K5.out.2.2.1),lY K5.out.2.2.1 hk6.size,K5.out.2.2.2.grown hk6,lY K5.out.2.2.1 hp6,lY K5.out.2.2.1 hH6,hMem,hsp6⟩
 have y7:w6.cell? ⟨p,7,none⟩=some (int i64 ((zB ms 256).2:Nat)):=by
  have e7:=hMem.tp.get_count;rw[hMem.count] at e7;have ec:(vB ms (ints sh.acts) (sh.pushesTo sh.pushed.length) h n).count=(zB ms 256).2:=by
   show((zV ms (ints sh.acts) (sh.pushesTo sh.pushed.length) h).first.itr n).count=_;rw[zA5];rfl
  rw[ec] at e7;exact e7
 obtain⟨-,-,-,l2,-⟩:=HK1.out w6 K6.out.1;have HRP:Hid (∀wq,Grew w6 wq->Ca 46 #[slice a5 ms.length c5,int i64 ((zB ms 256).2:Nat),bool fo] wq fun e w'=>∃m0 m1 m2 s0 s1 s2 v0 v1 v2,e=returned (agg #[slice m0 m1 m2,slice s0 s1 s2,slice v0 v1 v2,int i64 (aheadTo ms ms.length),bool (!fo&&xP (aheadTo ms ms.length) (zB ms 256).2),int i64 0])∧Grew wq w'):=fun wq hq=>(zGO wq _ ms (K6.out.2.2.1.grown hq) HOK.out.1 (zB ms 256).2 (qG ms 256).2 fo).mono (by rintro e w7 ⟨mo,sv,ev,rfl,hsv,hev,hk7,a,n,c,rfl⟩;obtain⟨s0,s1,rfl⟩:=OwnB.form hsv;obtain⟨v0,v1,rfl⟩:=OwnB.form hev;exact⟨a,n,c,s0,_,s1,v0,_,v1,rfl,hk7⟩);have HQ:Hid (∀w8,Grew w6 w8->((!fo&&xP (aheadTo ms ms.length) (zB ms 256).2)=true->Ca 47 #[pointer (some ⟨p,0,none⟩),int i64 (aheadTo ms ms.length)] w8 (fun e w9=>e=returned (tuple #[])∧(fun w9=>∃c,Mem w9 H p c (qV ms (ints sh.acts) (sh.pushesTo sh.pushed.length) h n fo)) w9∧Keep w8.heap.size p w8 w9))∧((!fo&&xP (aheadTo ms ms.length) (zB ms 256).2)=false->(fun w9=>∃c,Mem w9 H p c (qV ms (ints sh.acts) (sh.pushesTo sh.pushed.length) h n fo)) w8)):=fun w8 hk8=>by
  refine⟨fun hst=>?_,fun hst=>?_⟩
  ·have hgt:qV ms (ints sh.acts) (sh.pushesTo sh.pushed.length) h n fo={vB ms (ints sh.acts) (sh.pushesTo sh.pushed.length) h n with stream:=true}.looking (aheadTo ms ms.length).toNat:=by unfold qV;rw[if_pos hst]
   have h5:=hst;rw[Bool.and_eq_true] at h5;have h6:=h5.2;unfold xP at h6;rw[Bool.and_eq_true] at h6;have h7:0<=aheadTo ms ms.length:=of_decide_eq_true h6.1;have h8:zF (zB ms 256).2 (aheadTo ms ms.length).toNat<=3000:=of_decide_eq_true h6.2;have h9:=(zFD ms HOK.out.1 ms.length lQ).2;have hok:=zJs (t:=(zV ms (ints sh.acts) (sh.pushesTo sh.pushed.length) h).first) ((zCA ms (ints sh.acts) (sh.pushesTo sh.pushed.length) h HOK.out.1 HOK.out.2.1).withLive _) n;have hcn:(vB ms (ints sh.acts) (sh.pushesTo sh.pushed.length) h n).count=(zB ms 256).2:=by
    show((zV ms (ints sh.acts) (sh.pushesTo sh.pushed.length) h).first.itr n).count=_;rw[zA5];rfl
   have hst1:1<=(vB ms (ints sh.acts) (sh.pushesTo sh.pushed.length) h n).nst:=by
    show 1<=((zV ms (ints sh.acts) (sh.pushesTo sh.pushed.length) h).first.itr n).nst;rw[zG6];exact lY (HOK.out.1.states1 0 HOK.out.1.one) (by have:=yZ ms 1 ms.length HOK.out.1.one;have e:zE ms 1=(ms[0]'HOK.out.1.one).next.length:=(by simp[zE,lW,lV HOK.out.1.one]);rw[e] at this;exact this)
   have:=zDB w8 H p cc _ (K6.out.2.2.2.2.2.1.grown hk8) ⟨hok.1,hok.2,hok.3,hok.4⟩ hst1 (by rw[hcn];exact zCF ms 256 (by decide)) (aheadTo ms ms.length).toNat (by omega) (by rw[hcn];exact h8)
   rw[Int.toNat_of_nonneg h7] at this;refine this.mono ?_;rintro e w9 ⟨rfl,c',hM,hk⟩;exact⟨rfl,⟨c',by rw[hgt];exact hM⟩,hk⟩
  ·have hgt:qV ms (ints sh.acts) (sh.pushesTo sh.pushed.length) h n fo=vB ms (ints sh.acts) (sh.pushesTo sh.pushed.length) h n:=by unfold qV;rw[if_neg (by rw[hst];decide)]
   exact⟨cc,by rw[hgt];exact K6.out.2.2.2.2.2.1.grown hk8⟩
 obtain⟨hB6,-⟩:=HK1.out w6 K6.out.1;refine zOf w w6 _ (fun w9=>∃c,Mem w9 H p c (qV ms (ints sh.acts) (sh.pushesTo sh.pushed.length) h n fo)) p a5 ms.length c5 (zB ms 256).2 (aheadTo ms ms.length) (!fo&&xP (aheadTo ms ms.length) (zB ms 256).2) fo hB6 K6.out.2.1 K6.out.2.2.2.2.2.1.tp.lt (by have:=K6.out.2.2.2.1;omega) y7 l2 HRP.out HQ.out ?_;intro m0 m1 m2 s0 s1 s2 v0 v1 v2 w8 w9 wz L hk8 hk9 hq ho hu hL1 hL2 hblk hcell;obtain⟨c9,hM9⟩:=hq;obtain⟨-,-,-,-,hkw⟩:=HK1.out w6 K6.out.1;have hp2:=K6.out.2.2.2.1;have hH2:=K6.out.2.2.2.2.1;have hs6:=K6.out.2.1;have hs8:=hk8.size;have hs9:=hk9.size;refine⟨hkw.trans ⟨ho.trans (hk9.os.trans hk8.os),hu.trans (hk9.output.trans hk8.output),by omega,fun k k1 _=>(hblk k (by omega) (by omega)).trans ((hk9.block k (by omega) (by omega)).trans (hk8.block k (by omega) (by omega)))⟩,L,p,H,c9,n,m0,m1,m2,s0,s1,s2,v0,v1,v2,rfl,hcell,hL2,by omega,by omega,by omega,?_,K6.out.2.2.2.2.2.2,HOK.out.1,HOK.out.2.1,HOK.out.2.2⟩;exact hM9.keep (hblk p hM9.tp.lt (by omega)) (fun k k1 k2=>hblk k k2 (by omega)) (by omega)
theorem zEN {s:ByteArray}{n k:Nat}(h:vR s=.inr (n,k)):k≠0:=by
 unfold vR at h;split at h
 ·cases h;decide
 split at h
 ·cases h;decide
 split at h
 ·split at h
  ·cases h
  ·cases h;decide
 ·cases h;decide
def zMU (w:World)(G:(List Sm×Sh) ⊕ (Nat×Nat))(hold:Nat)(fo:Bool)(e:Ending)(w':World):Prop:=match G with
 | .inr (n,k)=>k≠0∧zIN w n k e w'
 | .inl (ms,sh)=>zMT w ms (ints sh.acts) (sh.pushesTo sh.pushed.length) hold fo e w'
theorem zBT (w:World)(s:ByteArray)(hs:s.size<=1048576)(st ho:Int)(fo:Bool):Calls prog 30 #[string s,agg #[int i64 st,int i64 ho,bool fo]] w (zMU w (jY s st ho) ho.toNat fo):=by
 have hno:∀{n k:Nat},k≠0->jY s st ho=.inr (n,k)->Calls prog 30 #[string s,agg #[int i64 st,int i64 ho,bool fo]] w (zIN w n k)->Calls prog 30 #[string s,agg #[int i64 st,int i64 ho,bool fo]] w (zMU w (jY s st ho) ho.toNat fo):=by
  intro n k hk hg hc;rw[hg];exact hc.mono fun e w' h=>⟨hk,h⟩
 by_cases h1:st<1
 ·exact hno (by decide) (by unfold jY yN;rw[if_pos (by simp[h1])]) (zEw w s st ho fo (.inl h1))
 have h1':1<=st:=by omega
 by_cases h2:200<st
 ·exact hno (by decide) (by unfold jY yN;rw[if_pos (by simp[h2])]) (zEw w s st ho fo (.inr (.inl ⟨h1',h2⟩)))
 have h2':st<=200:=by omega
 by_cases h3:ho<1
 ·exact hno (by decide) (by unfold jY yN;rw[if_pos (by simp[h3])]) (zEw w s st ho fo (.inr (.inr (.inl ⟨h1',h2',h3⟩))))
 have h3':1<=ho:=by omega
 by_cases h4:64<ho
 ·exact hno (by decide) (by unfold jY yN;rw[if_pos (by simp[h4])]) (zEw w s st ho fo (.inr (.inr (.inr ⟨h1',h2',h3',h4⟩))))
 have h4':ho<=64:=by omega
 have hb:yN st ho=false:=by unfold yN;simp[h1,h2,h3,h4]
 have hg:jY s st ho=match vR s with
   | .inr e=>.inr e
   | .inl sh=>match xR (1+6*s.size) sh sh.modes.length 0 st.toNat with
    |none=>.inr (0,5)
    |some ms=>.inl (ms,sh):=by
  unfold jY;rw[hb];rfl
 obtain⟨m,rfl⟩:∃m:Nat,st=m:=⟨st.toNat,by omega⟩
 obtain⟨h,rfl⟩:∃h:Nat,ho=h:=⟨ho.toNat,by omega⟩
 cases hsp:vR s with
 |inr e=>
  obtain⟨n,k⟩:=e;rw[hsp] at hg;exact hno (zEN hsp) hg (zMu w s m h fo hs h1' h2' h3' h4' n k (zEN hsp) hsp)
 |inl sh=>
  rw[hsp] at hg;cases hmo:xR (1+6*s.size) sh sh.modes.length 0 m with
  |none=>
   have hg2:jY s m h=.inr (0,5):=by rw[hg];show(match xR (1+6*s.size) sh sh.modes.length 0 m with|none=>_|some ms=>_)=_;rw[hmo]
   exact hno (by decide) hg2 (zJv w s fo hs m h (by omega) (by omega) (by omega) (by omega) sh hsp hmo)
  |some ms=>
   have hg2:jY s m h=.inl (ms,sh):=by rw[hg];show(match xR (1+6*s.size) sh sh.modes.length 0 m with|none=>_|some ms=>_)=_;rw[hmo]
   rw[hg2];exact zOd w s fo hs m h (by omega) (by omega) (by omega) (by omega) sh hsp ms hmo
theorem zHu (kinds:Nat)(hk:1<=kinds)(a:Nat)(h:zF kinds a<=3000):2^a<=zF kinds a:=by
 induction a with
 |zero=>exact lQ
 |succ a ih=>
  rw[zF] at h ⊢;split at h
  ·rename_i h1
   rw[if_pos h1];have:=ih h1;rw[Nat.pow_succ];exact Nat.mul_le_mul this (by omega)
  ·exact absurd h (by assumption)
theorem zLR (kinds:Nat)(hk:1<=kinds)(a:Nat)(h:zF kinds a<=3000):a<12:=by
 have h1:=zHu kinds hk a h;by_cases e:a<12
 ·exact e
 ·have h2:2^12<=2^a:=kG (by decide) (by omega)
  have h3:(2:Nat)^12=4096:=by decide
  omega
structure Tb.Made0 (t:Tb):Prop where
 ok:t.OkN
 hold0:1<=t.hold
 hold:t.hold<=64
 nst:1<=t.nst
 count:1<=t.count
 mode1:1<=t.nmode
 mode2:t.nmode<=3
 rule1:1<=t.nrule
 rule2:t.nrule<=8
 act:∀i,i<t.nrule->t.act i<4
 start:∀i,i<t.nmode->t.start i<t.nst
 push:∀i,i<t.nrule->t.push i<t.nmode
 kind:∀c,c<256->t.kind c<t.count
theorem Tb.Made0.fine {t:Tb}(h:t.Made0)(a:Nat)(hw:zF t.count a<=3000):(t.looking a).Fine:=by
 have h1:=zHu t.count h.count a hw;have h2:=zLR t.count h.count a hw;have h3:1<=2^a:=Nat.one_le_two_pow;have h4:=Nat.mul_le_mul hw h.ok.nst;have h5:1*1<=zF t.count a*t.nst:=Nat.mul_le_mul (by omega) h.nst;refine⟨⟨?_,h.hold0,h.hold,h.ok.count,?_,hw,h.ok.nst,h.mode1,?_,h.start,h.push,h.kind,h.ok.next,h.ok.ends,fun i _=>zD3 _ _ _⟩,h.nst,h.count,?_,?_,h.rule1,h.rule2,h.mode2,h.act⟩
 ·show a<64
  omega
 ·show 1<=zF t.count a
  omega
 ·show zF t.count a*t.nst<=8*((zF t.count a*t.nst+7)/8)
  omega
 ·show 1<=(zF t.count a*t.nst+7)/8
  omega
 ·show(zF t.count a*t.nst+7)/8<=75000
  omega
theorem zI0 {ms:List Sm}(h:ModesOk ms):1<=zE ms ms.length:=by
 have h1:=yZ ms 1 ms.length h.one;have e:zE ms 1=(ms[0]'h.one).next.length:=by simp[zE,lW,lV h.one]
 have:=h.states1 0 h.one;omega
theorem zLE {ms:List Sm}{acts pushed:List Int}{hold:Nat}(h:ModesOk ms)(ha:acts.length=zT ms ms.length)(h1:1<=hold)(h2:hold<=64)(h3:∀i,i<acts.length->(acts.getD i 0).toNat<4)(h4:∀i,i<acts.length->(pushed.getD i 0).toNat<ms.length)(f:Nat->Bool):({zV ms acts pushed hold with live:=f}:Tb).Made0:=by
 have ok:=(zCA ms acts pushed hold h ha).withLive f;obtain⟨b1,-,-⟩:=zBR ms h ms.length lQ;obtain⟨s1,-⟩:=jX (zB ms 256).1 ms h ms.length lQ;refine⟨ok,h1,h2,zI0 h,zCF ms 256 (by decide),h.one,h.three,?_,?_,h3,fun i hi=>?_,h4,fun c hc=>?_⟩
 ·show 1<=acts.length
  rw[ha];exact h.rules1
 ·show acts.length<=8
  rw[ha];exact h.rules8
 ·have hi':i<ms.length:=hi
  have:=b1 _ (zS (zQ (zB ms 256).1 ms ms.length).starts i 0 (by omega));show((zQ (zB ms 256).1 ms ms.length).starts.getD i 0).toNat<zE ms ms.length;omega
 ·have:=zDF ms 256 c hc
  show((zB ms 256).1.getD c 0).toNat<(zB ms 256).2;omega
theorem zLd {ms:List Sm}{acts pushed:List Int}{hold:Nat}(h:ModesOk ms)(ha:acts.length=zT ms ms.length)(h1:1<=hold)(h2:hold<=64)(h3:∀i,i<acts.length->(acts.getD i 0).toNat<4)(h4:∀i,i<acts.length->(pushed.getD i 0).toNat<ms.length)(n:Nat)(fo:Bool):(qV ms acts pushed hold n fo).Fine:=by
 have hb:((zV ms acts pushed hold).first.itr n).Made0:=by rw[vU];exact zLE h ha h1 h2 h3 h4 _
 have hc:((zV ms acts pushed hold).first.itr n).count=(zB ms 256).2:=by rw[zA5];rfl
 unfold qV;split
 ·rename_i hs
  rw[Bool.and_eq_true] at hs;have h5:=hs.2;unfold xP at h5;rw[Bool.and_eq_true] at h5;have h6:({vB ms acts pushed hold n with stream:=true}:Tb).Made0:=⟨⟨hb.ok.1,hb.ok.2,hb.ok.3,hb.ok.4⟩,hb.2,hb.3,hb.4,hb.5,hb.6,hb.7,hb.8,hb.9,hb.10,hb.11,hb.12,hb.13⟩
  exact h6.fine _ (by show zF ((zV ms acts pushed hold).first.itr n).count _<=3000;rw[hc];exact of_decide_eq_true h5.2)
 ·exact hb.fine 0 (by rw[zBF];decide)
theorem zHE (t:Tb)(s:Nat)(h:(t.spreadTo s).2=false):(t.spreadTo s).1=t:=by
 induction s with
 |zero=>rfl
 |succ s ih=>
  rw[Tb.spreadTo] at h ⊢;split at h
  ·cases h
  ·rename_i h1
   rw[if_neg h1];exact ih h
theorem zGl (t:Tb)(n:Nat)(h:((t.itr n).spreadTo t.nst).2=false)(k:Nat):t.itr (n+k)=t.itr n:=by
 induction k with
 |zero=>rfl
 |succ k ih=>
  show((t.itr (n+k)).spreadTo t.nst).1=t.itr n;rw[ih];exact zHE _ _ h
theorem zNl (t:Tb)(n m:Nat)(hn:((t.itr n).spreadTo t.nst).2=false)(hm:((t.itr m).spreadTo t.nst).2=false):t.itr n=t.itr m:=by
 rcases Nat.le_total n m with h|h
 ·have:=zGl t n hn (m-n)
  rw[show n+(m-n)=m by omega] at this;exact this.symm
 ·have:=zGl t m hm (n-m)
  rw[show m+(n-m)=n by omega] at this;exact this
theorem zMw (ms:List Sm)(acts pushed:List Int)(hold:Nat)(fo:Bool)(n m:Nat)(hn:(((zV ms acts pushed hold).first.itr n).spreadTo (zE ms ms.length)).2=false)(hm:(((zV ms acts pushed hold).first.itr m).spreadTo (zE ms ms.length)).2=false):qV ms acts pushed hold n fo=qV ms acts pushed hold m fo:=by
 have:=zNl (zV ms acts pushed hold).first n m hn hm
 unfold qV vB;rw[this]
theorem zCD (D:Nat)(sh:Sh):∀f j mo ms,xR D sh f j mo=some ms->ms.length=f
 |0,_,_,ms,h=>by have e:=hU h;subst e;rfl
 |f+1,j,mo,ms,h=>by
  have h2:(match zBO D (sh.mode j).2 mo with|none=>none|some m=>(xR D sh f (j+1) (mo-m.next.length)).map (m::·))=some ms:=h;split at h2
  ·cases h2
  ·obtain⟨l,h3,h4⟩:=Option.map_eq_some_iff.1 h2
   subst h4;exact congrArg (·+1) (zCD D sh f _ _ l h3)
theorem zLc {s:ByteArray}{st ho:Int}{ms:List Sm}{sh:Sh}(h:jY s st ho=.inl (ms,sh)):(∀i,i<(ints sh.acts).length->((ints sh.acts).getD i 0).toNat<4)∧(∀i,i<sh.pushed.length->((sh.pushesTo sh.pushed.length).getD i 0).toNat<ms.length)∧yN st ho=false:=by
 unfold jY at h;split at h
 ·cases h
 rename_i hb
 have hb':yN st ho=false:=by cases e:yN st ho;rfl;exact absurd e hb
 cases hsp:vR s with
 |inr e=>rw[hsp] at h;cases h
 |inl sh1=>
  rw[hsp] at h;have h2:(match xR (1+6*s.size) sh1 sh1.modes.length 0 st.toNat with|none=>.inr (0,5)|some ms=>.inl (ms,sh1))=(.inl (ms,sh):(List Sm×Sh) ⊕ (Nat×Nat)):=h;split at h2
  ·cases h2
  rename_i ms1 hm
  cases h2
  have hl:=zCD _ _ _ _ _ _ hm;have hsum:=zHH hsp;unfold vR at hsp;split at hsp
  ·cases hsp
  split at hsp
  ·cases hsp
  split at hsp
  ·rename_i h3
   rw[Bool.and_eq_true] at h3;split at hsp
   ·have hsp2:=Sum.inl.inj hsp
    rw[hsp2] at h3;refine⟨fun i hi=>?_,fun i hi=>?_,hb'⟩
    ·rw[zN] at hi
     have:(ints sh.acts).getD i 0=((sh.acts[i]:Nat):Int):=by unfold ints;rw[lW,lV (by rw[kV];exact hi),List.getElem_map];rfl
     rw[this];exact hsum.2 _ (List.getElem_mem hi)
    ·have hp:=h3.2
     unfold Sh.haveB at hp;have hp:=(of_decide_eq_true hp).1;have:(sh.pushesTo sh.pushed.length).getD i 0=sh.pushI (sh.push i):=by unfold Sh.pushesTo;rw[lW,lV (by rw[kV,List.length_range];exact hi),List.getElem_map,List.getElem_range];rfl
     rw[this,hl];unfold Sh.pushI;split
     ·exact hp
     ·unfold Sh.modeI
      split
      ·rename_i h5;exact h5
      ·exact hp
   ·cases hsp
  ·cases hsp
def jR (s:ByteArray):Option (List Sm×Sh):=match jY s 200 64 with
 | .inl x=>some x
 | .inr _=>none
theorem zLe (s:ByteArray)(h:Int)(h1:1<=h)(h2:h<=64):jY s 200 h=jY s 200 64:=by
 have hb:yN 200 h=yN 200 64:=by
  unfold yN;rw[dY (show¬h<1 by omega),dY (show¬64<h by omega)];rfl
 unfold jY;rw[hb]
structure LexIn (w:World)(B L:Nat)(x:List Sm×Sh)(hold:Nat)(fo:Bool)(t:Tb):Prop where
 fine:t.Fine
 made:∃n,t=qV x.1 (ints x.2.acts) (x.2.pushesTo x.2.pushed.length) hold n fo∧(((zV x.1 (ints x.2.acts) (x.2.pushesTo x.2.pushed.length) hold).first.itr n).spreadTo (zE x.1 x.1.length)).2=false
 modes:ModesOk x.1
 from_:B<=L
 at_:∃S p,LexAt w S L p t∧∀k,S k->B<=k
theorem LexIn.keep {w w':World}{B L:Nat}{x:List Sm×Sh}{hold:Nat}{fo:Bool}{t:Tb}(h:LexIn w B L x hold fo t)(e:∀k,B<=k->k<w.heap.size->w'.heap[k]? =w.heap[k]?)(hs:w.heap.size<=w'.heap.size):LexIn w' B L x hold fo t:=by
 obtain⟨S,p,hL,hS⟩:=h.at_;exact⟨h.fine,h.made,h.modes,h.from_,S,p,⟨(gG (e L h.from_ hL.lt)).trans hL.cell,lZ hL.lt hs,hL.tab.keep fun k hk=>e k (hS k hk) (hL.safe k hk),fun k hk=>lZ (hL.safe k hk) hs⟩,hS⟩
theorem LexIn.grown {w w':World}{B L:Nat}{x:List Sm×Sh}{hold:Nat}{fo:Bool}{t:Tb}(h:LexIn w B L x hold fo t)(e:Grew w w'):LexIn w' B L x hold fo t:=h.keep (fun k _ hk=>e.block k hk (by omega)) e.size
theorem LexIn.less {w:World}{B C L:Nat}{x:List Sm×Sh}{hold:Nat}{fo:Bool}{t:Tb}(h:LexIn w B L x hold fo t)(hc:C<=B):LexIn w C L x hold fo t:=by
 obtain⟨S,p,hL,hS⟩:=h.at_;exact⟨h.fine,h.made,h.modes,lY hc h.from_,S,p,hL,fun k hk=>lY hc (hS k hk)⟩
theorem LexIn.of {w w':World}{s:ByteArray}{st:Int}{ms:List Sm}{sh:Sh}{hold:Nat}{fo:Bool}(hg:jY s st hold=.inl (ms,sh)){L p H n:Nat}{c:Tc}(h1:w'.cell? ⟨L,0,none⟩=some (pointer (some ⟨p,0,none⟩)))(h2:L<w'.heap.size)(h3:w.heap.size<=L)(h4:w.heap.size<=H)(h5:w.heap.size<=p)(h6:Mem w' H p c (qV ms (ints sh.acts) (sh.pushesTo sh.pushed.length) hold n fo))(h7:(((zV ms (ints sh.acts) (sh.pushesTo sh.pushed.length) hold).first.itr n).spreadTo (zE ms ms.length)).2=false)(h8:ModesOk ms)(h9:(ints sh.acts).length=zT ms ms.length)(h10:(sh.pushesTo sh.pushed.length).length=(ints sh.acts).length):LexIn w' w.heap.size L (ms,sh) hold fo (qV ms (ints sh.acts) (sh.pushesTo sh.pushed.length) hold n fo):=by
 obtain⟨f1,f2,f3⟩:=zLc hg;have hb:1<=hold∧hold<=64:=by
  unfold yN at f3;simp only[Bool.or_eq_false_iff,decide_eq_false_iff_not] at f3;omega
 have hf:=zLd h8 h9 hb.1 hb.2 f1 (fun i hi=>f2 i (by rw[<-h10,yR] at hi;exact hi)) n fo;refine⟨hf,⟨n,rfl,h7⟩,h8,h3,Mem.blocks w' H p,p,⟨h1,h2,h6.tabAt hf.ok.nmode hf.rule1 hf.nst hf.count hf.long1,fun k hk=>?_⟩,fun k hk=>?_⟩
 ·rcases hk with rfl|hk
  ·exact h6.tp.lt
  ·exact hk.2
 ·rcases hk with rfl|hk
  ·exact h5
  ·exact lY h4 hk.1
def zBg (x:List Sm×Sh)(fo:Bool):Bool:=!fo&&xP (aheadTo x.1 x.1.length) (zB x.1 256).2
def zNP (w:World)(s:ByteArray)(h:Nat)(fo:Bool)(k:Int)(Q:Option Addr->Int->Bool->World->Prop):Prop:=
 Calls prog 30 #[string s,agg #[int i64 200,int i64 (h:Int),bool fo]] w fun e w'=>Grew w w'∧∃x m0 m1 m2 s0 s1 s2 v0 v1 v2 AH ST LN,e=returned (tuple #[pointer x,agg #[slice m0 m1 m2,slice s0 s1 s2,slice v0 v1 v2,int i64 AH,bool ST,int i64 LN],int i64 k])∧Q x AH ST w'
theorem zNL (w:World):∃w0,w0=w.alloc (Obj.cells #[slice none 0 0,slice none 0 0,slice none 0 0,int i64 0,bool false,int i64 0] 30)∧Hid (∀w3,Grew w0 w3->w3.heap[w.heap.size]? =some (Obj.cells #[slice none 0 0,slice none 0 0,slice none 0 0,int i64 0,bool false,int i64 0] 30))∧Hid (w0.heap.size=w.heap.size+1∧Grew w w0):=⟨_,rfl,fun w3 hk=>(hk.block w.heap.size (by simp) (by simp)).trans (gJ w _),by simp,kZ _ _ lQ⟩
theorem zNK {w w0 w1:World}{m0 s0 v0:Option Addr}{m1 m2 s1 s2 v1 v2:Nat}{AH LN:Int}{ST:Bool}(hk1:Grew w0 w1)(HZ0:Hid (w0.heap.size=w.heap.size+1∧Grew w w0)):∃w2,w2=w1.alloc (.cells #[slice m0 m1 m2,slice s0 s1 s2,slice v0 v1 v2,int i64 AH,bool ST,int i64 LN] 30)∧w2.cell? ⟨w1.heap.size,0,none⟩=some (slice m0 m1 m2)∧w2.cell? ⟨w1.heap.size,1,none⟩=some (slice s0 s1 s2)∧w2.cell? ⟨w1.heap.size,2,none⟩=some (slice v0 v1 v2)∧w2.cell? ⟨w1.heap.size,3,none⟩=some (int i64 AH)∧w2.cell? ⟨w1.heap.size,4,none⟩=some (bool ST)∧w2.cell? ⟨w1.heap.size,5,none⟩=some (int i64 LN)∧Hid (Grew w0 w2∧Grew w1 w2∧w.heap.size<w1.heap.size):=by
 have hn:=gJ w1 (.cells #[slice m0 m1 m2,slice s0 s1 s2,slice v0 v1 v2,int i64 AH,bool ST,int i64 LN] 30);have ha:Grew w1 (w1.alloc (.cells #[slice m0 m1 m2,slice s0 s1 s2,slice v0 v1 v2,int i64 AH,bool ST,int i64 LN] 30)):=kZ _ _ lQ;have hz:=hk1.size;rw[HZ0.out.1] at hz;refine⟨_,rfl,?_,?_,?_,?_,?_,?_,hk1.trans (ha.lower hk1.size hk1.size),ha,by omega⟩
 all_goals (unfold cell?;rw[hn];rfl)
theorem zNJ {w w2 wa:World}{m0 s0 v0:Option Addr}{m1 m2 s1 s2 v1 v2:Nat}{AH LN:Int}{ST:Bool}(hblk:wa.heap[w.heap.size]? =some (.cells #[slice m0 m1 m2,slice s0 s1 s2,slice v0 v1 v2,int i64 AH,bool ST,int i64 LN] 30))(hz:wa.heap.size=w2.heap.size)(ho:wa.os=w2.os)(hu:wa.output=w2.output)(hne:∀k,k≠w.heap.size->wa.heap[k]? =w2.heap[k]?):∃wz,wz=wa.drew∧wz.cell? ⟨w.heap.size,0,none⟩=some (slice m0 m1 m2)∧wz.cell? ⟨w.heap.size,1,none⟩=some (slice s0 s1 s2)∧wz.cell? ⟨w.heap.size,2,none⟩=some (slice v0 v1 v2)∧wz.cell? ⟨w.heap.size,3,none⟩=some (int i64 AH)∧wz.cell? ⟨w.heap.size,4,none⟩=some (bool ST)∧wz.cell? ⟨w.heap.size,5,none⟩=some (int i64 LN)∧Hid (wz.os=w2.os∧wz.output=w2.output∧wz.heap.size=w2.heap.size∧(∀k,k≠w.heap.size->wz.heap[k]? =w2.heap[k]?)):=by
 have hb2:wa.drew.heap[w.heap.size]? =some (.cells #[slice m0 m1 m2,slice s0 s1 s2,slice v0 v1 v2,int i64 AH,bool ST,int i64 LN] 30):=hblk;refine⟨_,rfl,?_,?_,?_,?_,?_,?_,ho,hu,hz,hne⟩
 all_goals (unfold cell?;rw[hb2];rfl)
theorem zN6 (w:World)(s:ByteArray)(h:Nat)(fo:Bool)(Q:Option Addr->Int->Bool->World->Prop)(HG:zNP (w.alloc (Obj.cells #[slice none 0 0,slice none 0 0,slice none 0 0,int i64 0,bool false,int i64 0] 30)) s h fo 0 Q)
  (hQ:∀x AH ST w1 w',Q x AH ST w1->(∀k,w.heap.size<k->k<w1.heap.size->w'.heap[k]? =w1.heap[k]?)->w1.heap.size<=w'.heap.size->Q x AH ST w'):
  Calls prog 16 #[string s,int i64 (h:Int),bool fo] w fun e w'=>Grew w w'∧∃x m0 m1 m2 s0 s1 s2 v0 v1 v2 AH ST LN,e=returned (tuple #[pointer x,agg #[slice m0 m1 m2,slice s0 s1 s2,slice v0 v1 v2,int i64 AH,bool ST,int i64 LN]])∧Q x AH ST w':=by
 obtain⟨w0,hw0,HB0,HZ0⟩:=zNL w;rw[<-hw0] at HG;have HGH:=vl HG;clear HG;go_in;apply wp_cut;intro K0 J;go_wp2;rw[<-hw0];apply J.out;clear J hw0;apply wp_cut;intro K0 J;go_wp2_with (first|(go_at_call 30;refine HGH.out.mono ?_;rintro e w1 ⟨hk1,x,m0,m1,m2,s0,s1,s2,v0,v1,v2,AH,ST,LN,rfl,hq⟩))
 obtain⟨w2,hw2,x0,x1,x2,x3,x4,x5,HW2⟩:=zNK (m0:=m0) (s0:=s0) (v0:=v0) (m1:=m1) (m2:=m2) (s1:=s1) (s2:=s2) (v1:=v1) (v2:=v2) (AH:=AH) (LN:=LN) (ST:=ST) hk1 HZ0;rw[<-hw2];apply J.out;clear J hw2 HGH;have HQ:=vl hq;clear hq;apply wp_cut;intro K0 J;go_wp2;apply J.out;clear J;obtain⟨r0,r1,r2,r3,r4,r5,g0,g1,g2,g3,g4,g5⟩:=jC (HB0.out w2 HW2.out.1);have HNE:Hid (w1.heap.size≠w.heap.size):=by have:=HW2.out.2.2;show _≠_;omega
 have HQQ:=vl hQ;clear hQ;apply wp_cut;intro K0 J;go_region
 all_goals
  obtain⟨wa,hwa,hblk,hz,ho,hu,hne⟩:=zEr w2 w.heap.size (slice m0 m1 m2) (slice s0 s1 s2) (slice v0 v1 v2) (int i64 AH) (bool ST) (int i64 LN) (HB0.out w2 HW2.out.1);rw[<-hwa];obtain⟨wz,hwz,d0,d1,d2,d3,d4,d5,HW⟩:=zNJ hblk hz ho hu hne;rw[<-hwz];clear hwa hwz hblk hz ho hu hne;show K0 _ _;apply J.out;clear J;go_wp2;refine dZ (v:=tuple #[pointer x,agg #[slice m0 m1 m2,slice s0 s1 s2,slice v0 v1 v2,int i64 AH,bool ST,int i64 LN]]) (by simp[results,results16,go_sem,d0,d1,d2,d3,d4,d5]) rfl ?_;have hs1:=HW2.out.1.size;have hs2:=HW2.out.2.1.size;refine⟨HZ0.out.2.trans ⟨HW.out.1.trans HW2.out.1.os,HW.out.2.1.trans HW2.out.1.output,by rw[HW.out.2.2.1];exact hs1,fun k k1 k2=>(HW.out.2.2.2 k (by omega)).trans (HW2.out.1.block k (by rw[HZ0.out.1];omega) (by rw[HZ0.out.1];omega))⟩,x,m0,m1,m2,s0,s1,s2,v0,v1,v2,AH,ST,LN,rfl,?_⟩;exact HQQ.out _ _ _ w1 wz HQ.out (fun k k1 k2=>(HW.out.2.2.2 k (by omega)).trans (HW2.out.2.1.block k k2 (by omega))) (by rw[HW.out.2.2.1];exact hs2)
theorem zOy (w:World)(s:ByteArray)(h:Nat)(fo:Bool)(k:Nat)(hk0:(k:Int)≠0)(Q:Option Addr->Int->Bool->World->Prop)(HG:zNP (w.alloc (Obj.cells #[slice none 0 0,slice none 0 0,slice none 0 0,int i64 0,bool false,int i64 0] 30)) s h fo (k:Int) (fun _ AH ST w'=>Q none AH ST w'))
  (hQ:∀x AH ST w1 w',Q x AH ST w1->(∀k,w.heap.size<k->k<w1.heap.size->w'.heap[k]? =w1.heap[k]?)->w1.heap.size<=w'.heap.size->Q x AH ST w'):
  Calls prog 16 #[string s,int i64 (h:Int),bool fo] w fun e w'=>Grew w w'∧∃x m0 m1 m2 s0 s1 s2 v0 v1 v2 AH ST LN,e=returned (tuple #[pointer x,agg #[slice m0 m1 m2,slice s0 s1 s2,slice v0 v1 v2,int i64 AH,bool ST,int i64 LN]])∧Q x AH ST w':=by
 obtain⟨w0,hw0,HB0,HZ0⟩:=zNL w;rw[<-hw0] at HG;have HGH:=vl HG;clear HG;go_in;apply wp_cut;intro K0 J;go_wp2;rw[<-hw0];apply J.out;clear J hw0;apply wp_cut;intro K0 J;go_wp2_with (first|(go_at_call 30;refine HGH.out.mono ?_;rintro e w1 ⟨hk1,x,m0,m1,m2,s0,s1,s2,v0,v1,v2,AH,ST,LN,rfl,hq⟩))
 obtain⟨w2,hw2,x0,x1,x2,x3,x4,x5,HW2⟩:=zNK (m0:=m0) (s0:=s0) (v0:=v0) (m1:=m1) (m2:=m2) (s1:=s1) (s2:=s2) (v1:=v1) (v2:=v2) (AH:=AH) (LN:=LN) (ST:=ST) hk1 HZ0;rw[<-hw2];apply J.out;clear J hw2 HGH;have HQ:=vl hq;clear hq;apply wp_cut;intro K0 J;obtain⟨r0,r1,r2,r3,r4,r5,g0,g1,g2,g3,g4,g5⟩:=jC (HB0.out w2 HW2.out.1);have HNE:Hid (w1.heap.size≠w.heap.size):=by have:=HW2.out.2.2;show _≠_;omega
 have HQQ:=vl hQ;clear hQ;go_wp2;go_region
 all_goals
  obtain⟨wa,hwa,hblk,hz,ho,hu,hne⟩:=zEr w2 w.heap.size (slice m0 m1 m2) (slice s0 s1 s2) (slice v0 v1 v2) (int i64 AH) (bool ST) (int i64 LN) (HB0.out w2 HW2.out.1);rw[<-hwa];obtain⟨wz,hwz,d0,d1,d2,d3,d4,d5,HW⟩:=zNJ hblk hz ho hu hne;rw[<-hwz];clear hwa hwz hblk hz ho hu hne;go_wp2;refine dZ (v:=tuple #[pointer none,agg #[slice m0 m1 m2,slice s0 s1 s2,slice v0 v1 v2,int i64 AH,bool ST,int i64 LN]]) (by simp[results,results16,go_sem,d0,d1,d2,d3,d4,d5]) rfl ?_;have hs1:=HW2.out.1.size;have hs2:=HW2.out.2.1.size;refine⟨HZ0.out.2.trans ⟨HW.out.1.trans HW2.out.1.os,HW.out.2.1.trans HW2.out.1.output,by rw[HW.out.2.2.1];exact hs1,fun k k1 k2=>(HW.out.2.2.2 k (by omega)).trans (HW2.out.1.block k (by rw[HZ0.out.1];omega) (by rw[HZ0.out.1];omega))⟩,none,m0,m1,m2,s0,s1,s2,v0,v1,v2,AH,ST,LN,rfl,?_⟩;exact HQQ.out _ _ _ w1 wz HQ.out (fun k k1 k2=>(HW.out.2.2.2 k (by omega)).trans (HW2.out.2.1.block k k2 (by omega))) (by rw[HW.out.2.2.1];exact hs2)
theorem zNt {s:ByteArray}{st ho:Int}{n k:Nat}(h:jY s st ho=.inr (n,k)):k≠0:=by
 unfold jY at h;split at h
 ·cases h;decide
 cases hsp:vR s with
 |inr e=>rw[hsp] at h;have h:=Sum.inr.inj h;subst h;exact zEN hsp
 |inl sh=>
  rw[hsp] at h;have h2:(match xR (1+6*s.size) sh sh.modes.length 0 st.toNat with|none=>.inr (0,5)|some ms=>.inl (ms,sh))=(.inr (n,k):(List Sm×Sh) ⊕ (Nat×Nat)):=h;split at h2
  ·cases h2;decide
  ·cases h2
def OfQ (s:ByteArray)(h:Nat)(fo:Bool)(B:Nat)(x:Option Addr)(AH:Int)(ST:Bool)(w':World):Prop:=match jR s with
 |none=>x=none
 |some y=>∃L t,x=some ⟨L,0,none⟩∧AH=aheadTo y.1 y.1.length∧ST=zBg y fo∧LexIn w' B L y h fo t
theorem OfQ.keep {s:ByteArray}{h:Nat}{fo:Bool}{B C:Nat}{x:Option Addr}{AH:Int}{ST:Bool}{w w':World}(q:OfQ s h fo B x AH ST w)(e:∀k,B<=k->k<w.heap.size->w'.heap[k]? =w.heap[k]?)(hs:w.heap.size<=w'.heap.size)(hc:C<=B):OfQ s h fo C x AH ST w':=by
 unfold OfQ at q ⊢;cases hl:jR s with
 |none=>rw[hl] at q;exact q
 |some y=>
  rw[hl] at q;obtain⟨L,t,h1,h2,h3,h4⟩:=q;exact⟨L,t,h1,h2,h3,(h4.keep e hs).less hc⟩
def zOC (w:World)(s:ByteArray)(h:Nat)(fo:Bool)(e:Ending)(w':World):Prop:=Grew w w'∧∃x m0 m1 m2 s0 s1 s2 v0 v1 v2 AH ST LN,e=returned (tuple #[pointer x,agg #[slice m0 m1 m2,slice s0 s1 s2,slice v0 v1 v2,int i64 AH,bool ST,int i64 LN]])∧OfQ s h fo w.heap.size x AH ST w'
theorem zH9 (w:World)(s:ByteArray)(hs:s.size<=1048576)(h:Nat)(h1:1<=h)(h2:h<=64)(fo:Bool):Calls prog 16 #[string s,int i64 (h:Int),bool fo] w (zOC w s h fo):=by
 have hg:=zBT (w.alloc (Obj.cells #[slice none 0 0,slice none 0 0,slice none 0 0,int i64 0,bool false,int i64 0] 30)) s hs 200 (h:Int) fo;have e1:=zLe s (h:Int) (by omega) (by omega);have hz:(w.alloc (Obj.cells #[slice none 0 0,slice none 0 0,slice none 0 0,int i64 0,bool false,int i64 0] 30)).heap.size=w.heap.size+1:=by simp
 have hQ:∀x AH ST w1 w',OfQ s h fo (w.heap.size+1) x AH ST w1->(∀k,w.heap.size<k->k<w1.heap.size->w'.heap[k]? =w1.heap[k]?)->w1.heap.size<=w'.heap.size->OfQ s h fo (w.heap.size+1) x AH ST w':=fun x AH ST w1 w' q e hs=>q.keep (fun k k1 k2=>e k (by omega) k2) hs lQ;cases hm:jY s 200 64 with
 |inr er=>
  obtain⟨n,k⟩:=er;rw[e1,hm] at hg;have hl:jR s=none:=by unfold jR;rw[hm]
  ·have hk:=zNt hm
   refine(zOy w s h fo k (by omega) (OfQ s h fo (w.heap.size+1)) (hg.mono ?_) hQ).mono ?_
   ·rintro e w' ⟨-,hk',rfl⟩
    exact⟨hk',none,none,0,0,none,0,0,none,0,0,0,false,(n:Int),rfl,by unfold OfQ;rw[hl]⟩
   ·rintro e w' ⟨hk',x,m0,m1,m2,s0,s1,s2,v0,v1,v2,AH,ST,LN,rfl,hq⟩
    exact⟨hk',x,m0,m1,m2,s0,s1,s2,v0,v1,v2,AH,ST,LN,rfl,hq.keep (fun _ _ _=>rfl) lQ (by omega)⟩
 |inl y=>
  obtain⟨ms,sh⟩:=y;rw[e1,hm] at hg;have hl:jR s=some (ms,sh):=by unfold jR;rw[hm]
  refine(zN6 w s h fo (OfQ s h fo (w.heap.size+1)) (hg.mono ?_) hQ).mono ?_
  ·rintro e w' ⟨hk',L,p,H,c,n,m0,m1,m2,s0,s1,s2,v0,v1,v2,rfl,c1,c2,c3,c4,c5,c6,c7,c8,c9,c10⟩
   refine⟨hk',_,m0,m1,m2,s0,s1,s2,v0,v1,v2,_,_,_,rfl,?_⟩;unfold OfQ;rw[hl];have hi:=LexIn.of (w:=w.alloc (Obj.cells #[slice none 0 0,slice none 0 0,slice none 0 0,int i64 0,bool false,int i64 0] 30)) (e1.trans hm) c1 c2 c3 c4 c5 c6 c7 c8 c9 c10;rw[hz] at hi;exact⟨L,_,rfl,rfl,rfl,hi⟩
  ·rintro e w' ⟨hk',x,m0,m1,m2,s0,s1,s2,v0,v1,v2,AH,ST,LN,rfl,hq⟩
   exact⟨hk',x,m0,m1,m2,s0,s1,s2,v0,v1,v2,AH,ST,LN,rfl,hq.keep (fun _ _ _=>rfl) lQ (by omega)⟩
theorem zJe (w:World)(s:ByteArray)(hs:s.size<=1048576):Calls prog 29 #[string s] w fun e w'=>e=returned (tuple #[bool (jR s).isNone,bool true])∧Grew w w':=by
 have hg:=zBT w s hs 200 64 false;cases hm:jY s 200 64 with
 |inr er=>
  obtain⟨n,k⟩:=er;rw[hm] at hg;have HG:=vl hg;have hl:jR s=none:=by unfold jR;rw[hm]
  rw[hl];go_in;go_wp2_with (first|(go_at_call 30;refine HG.out.mono ?_;rintro e w1 ⟨hk0,hk1,rfl⟩;have hkb:((k:Int) != 0)=true:=by simpa using hk0))
  refine dZ (results_tmp2 rfl _ _ _) rfl ?_;exact⟨by simp only[hkb];rfl,hk1.trans (kZ _ _ hk1.size)⟩
 |inl y=>
  obtain⟨ms,sh⟩:=y;rw[hm] at hg;have HG:=vl hg;have hl:jR s=some (ms,sh):=by unfold jR;rw[hm]
  rw[hl];go_in;go_wp2_with (first|(go_at_call 30;refine HG.out.mono ?_;rintro e w1 ⟨hk1,L,p,H,c,n,m0,m1,m2,s0,s1,s2,v0,v1,v2,rfl,-⟩))
  refine dZ (results_tmp2 rfl _ _ _) rfl ?_;exact⟨rfl,hk1.trans (kZ _ _ hk1.size)⟩
section
attribute [local go_sem ↓] Go.wp_at_zero Go.wp_at_succ
theorem zMq:(prog.info? 51).map (fun i=>(i.zero,i.size,i.bytes))=some (some (agg #[int i64 0,int i64 0,int i64 0,int i64 0,int i64 0,int i64 0]),6,48):=by kernel_rfl
theorem zDL {w w1:World}{o:Obj}{row:Option Nat}(h:(w.alloc o).drew.grownBy w1 row):w.grownBy w1 row:=
 ⟨h.os,h.tape,h.output,lY (by simp) h.size,fun k hk hne=>(h.block k (by simp;omega) hne).trans (lG w o k hk)⟩
def vN (k r f t l c:Int):List Value:=[int i64 k,int i64 r,int i64 f,int i64 t,int i64 l,int i64 c]
theorem zLZ (b:Nat)(kind rule to at_ line col:Int)(ov:Value)(n base:Nat)(xs:List Value)(w:World)
  (h2:w.cell? ⟨b,2,none⟩=some ov)
  (h8:w.cell? ⟨b,8,none⟩=some (int i64 at_)) (h9:w.cell? ⟨b,9,none⟩=some (int i64 line)) (h10:w.cell? ⟨b,10,none⟩=some (int i64 col))
  (f2:w.frozen? ⟨b,2,none⟩=false)
  (hown:w.ownsRow base 51 6 ov n xs) (hbase:base<=w.heap.size) (hn:n+1<=maxLen) (hb:(n+1)*48<=140737488355328)
  (ag:ov.ownBlock≠some b):
  Calls prog 157 #[pointer (some ⟨b,0,none⟩),int i64 kind,int i64 rule,int i64 to] w fun e w'=>
   e=returned (tuple #[])∧∃g cap w1,w1.ownsRow base 51 6 (slice (some ⟨g,0,none⟩) (n+1) cap) (n+1) (xs++vN kind rule at_ to line col)∧
    w.grownBy w1 ov.ownBlock∧(ov.ownBlock=some g∨g=w.heap.size+1)∧g<w1.heap.size∧w'=w1.setCell ⟨b,2,none⟩ (slice (some ⟨g,0,none⟩) (n+1) cap):=by
 obtain⟨i0,hi0,hz0,hz1,hz2⟩:=info_parts zMq;have lb:=World.block_lt_of_cell? w _ h2;go_enter func157,ntmps157
 go_wp2_with fail;go_region_law ((refine step_append_lies _ (by rfl) (.tmp 12) (.tmp 32) 48 (by rfl) base 51 i0 _ 6 48 underlying48 hi0 hz0 hz1 hz2 rfl (by omega) ov n xs (by simp[Act.eval,Act.put]) ((hown.alloc _).drew) ⟨w.heap.size,0,none⟩ 1 1 (vN kind rule at_ to line col) (by simp[Act.eval,Act.put]) (by rfl) (news_of_block (cs:=#[int i64 kind,int i64 rule,int i64 at_,int i64 to,int i64 line,int i64 col]) (t:=51) (fr:=(0,0)) (gJ w _)) (by simp[Value.oneCell',vN]) (by omega) hn hb (by simp;omega) (w.heap.size+1) (by simp) ?_;intro gg cap w1 hown1 hgrow hat hlt;have hc1:w1.cell? ⟨b,2,none⟩=some ov:=(hgrow.cell_far ⟨b,2,none⟩ (by simp;omega) (Ne.symm ag)).trans ((dX _ _ _ lb).trans h2);have hfz1:w1.frozen? ⟨b,2,none⟩=false:=(hgrow.frozen_far ⟨b,2,none⟩ (by simp;omega) (Ne.symm ag)).trans ((frozen?_alloc_past _ _ _ lb).trans f2)))
 all_goals (go_end0;exact⟨rfl,gg,cap,w1,hown1,zDL hgrow,hat,hlt,rfl⟩)
end
theorem zID (b i:Nat)(w:World)(r:Rs){v0:Value}(hR:zL w b r v0)(hf:r.first<64)(hi:i<64):
  Calls prog 151 #[pointer (some ⟨b,12,none⟩),int i64 i] w fun e w'=>e=returned (int .u8 (r.byte ((r.first+i)%64)))∧w'.Alike w:=by
 have h1:=hR.get_first;have hx:=hR.get_byte ((r.first+i)%64) (gY _ (by decide));generalize r.first=f at *
 go_in;go_wp2;go_quiet (fail);go_wp2;go_ret;exact⟨rfl,rfl,rfl,rfl⟩
theorem zFs (b n:Nat)(w:World)(r:Rs){v0:Value}(hR:zL w b r v0)(hf:r.first<64)(hn:n<=r.count)(hc:r.count<=64):
  Calls prog 152 #[pointer (some ⟨b,12,none⟩),int i64 n] w fun e w'=>e=returned (tuple #[])∧
   zL w' b {r with first:=(r.first+n)%64,count:=r.count-n} v0∧∀H,Keep H b w w':=by
 have h1:=hR.get_first;have h2:=hR.get_count;have f1:=hR.frozen 76;have f2:=hR.frozen 77;have HF:=vl hR;generalize hf0:r.first=f at *
 generalize hc0:r.count=c at *;have HE:Hid (r.first=f∧r.count=c):=⟨hf0,hc0⟩
 go_in;go_wp2;go_end0;refine⟨rfl,?_,fun H=>(Keep.set w _ _).trans (Keep.set _ _ _)⟩;have e1:((f:Int)+(n:Int))%64=(((f+n)%64:Nat):Int):=by omega
 have e2:((c:Int)-(n:Int))=((c-n:Nat):Int):=by omega
 rw[e1,e2];exact(HF.out.set_first _).set_count _
theorem zGy (b v:Nat)(w:World)(r:Rs){v0:Value}(hR:zL w b r v0)(hf:r.first<64)(hc:r.count<64):
  Calls prog 107 #[pointer (some ⟨b,12,none⟩),int .u8 v] w fun e w'=>e=returned (tuple #[])∧
   zL w' b {r with byte:=fun j=>if j=(r.first+r.count)%64 then v else r.byte j,count:=r.count+1} v0∧∀H,Keep H b w w':=by
 have h1:=hR.get_first;have h2:=hR.get_count;have h3:=hR.get_byte ((r.first+r.count)%64) (gY _ (by decide));have f1:=hR.frozen 77;have f2:=hR.frozen (12+(r.first+r.count)%64);have HF:=vl hR;generalize hf0:r.first=f at *
 generalize hc0:r.count=c at *;have hm:(f+c)%64<64:=gY _ (by decide);have hne:¬(12+(f+c)%64=77):=by omega
 go_in;go_wp2;go_region
 all_goals go_wp2
 all_goals go_end0
 all_goals
  refine⟨rfl,?_,fun H=>((Keep.set w _ _).trans (Keep.set _ _ _)).trans (Keep.drew _)⟩;rw[show ((c:Int)+1)=((c+1:Nat):Int) by omega];subst hf0 hc0;exact((HF.out.set_byte _ v hm).set_count _).drew
theorem zE1 (b m:Nat)(w:World)(r:Rs){v0:Value}(hR:zL w b r v0)(hd:r.depth<4):
  Calls prog 71 #[pointer (some ⟨b,0,none⟩),int i64 m] w fun e w'=>e=returned (tuple #[])∧
   zL w' b {r with stack:=fun j=>if j=r.depth then m else r.stack j,depth:=r.depth+1} v0∧∀H,Keep H b w w':=by
 have h1:=hR.get_depth;have h3:=hR.get_stack r.depth hd;have f1:=hR.frozen 7;have f2:=hR.frozen (3+r.depth);have HF:=vl hR;generalize hd0:r.depth=d at *;have hne:¬(3+d=7):=by omega
 go_in;go_wp2;go_region
 all_goals go_wp2
 all_goals go_end0
 all_goals
  refine⟨rfl,?_,fun H=>((Keep.set w _ _).trans (Keep.set _ _ _)).trans (Keep.drew _)⟩;rw[show ((d:Int)+1)=((d+1:Nat):Int) by omega];subst hd0;exact((HF.out.set_stack _ m hd).set_depth _).drew
theorem zDm (b:Nat)(w:World)(r:Rs)(ao:Option Addr)(n cap:Nat)(hR:zL w b r (slice ao n cap)):
  Calls prog 75 #[pointer (some ⟨b,0,none⟩)] w fun e w'=>e=returned (slice ao n cap)∧
   zL w' b r (slice none 0 0)∧∀H,Keep H b w w':=by
 have h1:=hR.get_told;have f1:=hR.frozen 2;have HF:=vl hR;go_in;go_wp2;go_ret;exact⟨rfl,HF.out.set_told _,fun H=>Keep.set w _ _⟩
def jL (v l:Nat):Nat:=if v=10 then l+1 else l
def zBb (v c:Nat):Nat:=if v=10 then 1 else c+1
theorem zJQ (a l c v:Nat)(w:World)(ha:a<2147483648)(hl:l<2147483648)(hc:c<2147483648)(hv:v<256):
  Calls prog 153 #[agg #[int i64 a,int i64 l,int i64 c],int .u8 v] w fun e w'=>
   e=returned (agg #[int i64 ((a+1:Nat):Int),int i64 ((if v=10 then l+1 else l:Nat):Int),int i64 ((if v=10 then 1 else c+1:Nat):Int)])∧Below w.heap.size w w':=by
 by_cases hv10:v=10
 ·have ht:((v:Int)==10)=true:=by rw[beq_iff_eq];omega
  have HV:=vl hv10;go_in;go_wp2;refine dZ (v:=agg #[int i64 ((a:Int)+1),int i64 ((l:Int)+1),int i64 1]) (by simp[results,results153,go_sem]) rfl ⟨?_,?_⟩
  ·rfl
  ·exact((Below.refl _ _).alloc lQ _).alloc (by simp) _
 ·have ht:((v:Int)==10)=false:=by rw[hJ];omega
  have HV:=vl hv10;go_in;go_wp2;refine dZ (v:=agg #[int i64 ((a:Int)+1),int i64 (l:Int),int i64 ((c:Int)+1)]) (by simp[results,results153,go_sem]) rfl ⟨?_,?_⟩
  ·rfl
  ·exact((Below.refl _ _).alloc lQ _).alloc (by simp) _
theorem zDj (a l c v:Nat)(w:World)(ha:a<2147483648)(hl:l<2147483648)(hc:c<2147483648)(hv:v<256):
  Calls prog 153 #[agg #[int i64 a,int i64 l,int i64 c],int .u8 v] w fun e w'=>
   e=returned (agg #[int i64 ((a+1:Nat):Int),int i64 (jL v l:Nat),int i64 (zBb v c:Nat)])∧Below w.heap.size w w':=zJQ a l c v w ha hl hc hv
theorem zAf (b:Nat)(w:World)(r:Rs){v0:Value}(hR:zL w b r v0)(S:Nat->Prop)(t:Tb)(hT:TabAt w S r.tp t)(hd0:1<=r.depth)(hd:r.depth<=4)(hm:r.stack (r.depth-1)<t.nmode):
  Calls prog 72 #[pointer (some ⟨b,0,none⟩)] w fun e w'=>e=returned (int i64 (t.start (r.stack (r.depth-1))))∧w'.Alike w:=by
 have h0:=hR.get_tp;have h1:=hR.get_depth;have h2:=hR.get_stack (r.depth-1) (by omega);obtain⟨_,h3,b3,o3,cap3,hb3,rfl,hcap3,hml3,hL⟩:=hT.c3;have hx:w.cell? ⟨b3,o3+r.stack (r.depth-1),none⟩=some (int i64 (t.start (r.stack (r.depth-1)):Nat)):=hL _ hm;generalize r.tp=p at *;generalize t.start (r.stack (r.depth-1))=x at *;generalize r.stack (r.depth-1)=m at *;generalize r.depth=d at *;generalize t.nmode=n at *;have i1:(m:Int)<(n:Int):=by omega
 have i2:(1:Int)<=(d:Int):=by omega
 have i3:(d:Int)<=4:=by omega
 have h2':=h2;go_in;go_wp2;go_quiet (fail);go_wp2;go_ret;exact⟨rfl,rfl,rfl,rfl⟩
section
structure Cx (H b:Nat)(S:Nat->Prop)(t:Tb)(w:World)(r:Rs)(v0:Value)(n:Nat)(xs:List Value):Prop where
 run:zL w b r v0
 own:w.ownsRow H 51 6 v0 n xs
 tab:TabAt w S r.tp t
 bH:b<H
 HH:H<=w.heap.size
 safe:∀k,S k->k<H∧k≠b
namespace Cx
variable {H b:Nat} {S:Nat->Prop} {t:Tb} {w w':World} {r r':Rs} {v0 v1:Value} {n n':Nat} {xs xs':List Value}
theorem below (h:Cx H b S t w r v0 n xs)(e:Below w.heap.size w w'):Cx H b S t w' r v0 n xs:=
 ⟨h.run.below e,h.own.kept ⟨e.os,e.tape,e.output,e.size,fun k hk _=>e.block k hk⟩ (row:=none) (by cases hv:v0.ownBlock <;> simp),h.tab.keep fun k hk=>e.block k (lZ (h.safe k hk).1 h.HH),h.bH,lY h.HH e.size,h.safe⟩
theorem alloc (h:Cx H b S t w r v0 n xs)(o:Obj):Cx H b S t (w.alloc o) r v0 n xs:=h.below ((Below.refl _ _).alloc lQ _)
theorem alike (h:Cx H b S t w r v0 n xs)(e:w'.Alike w):Cx H b S t w' r v0 n xs:=
 ⟨h.run.alike e,by unfold World.ownsRow;rw[e.1];exact h.own,h.tab.keep fun k _=>by rw[e.1],h.bH,by rw[e.1];exact h.HH,h.safe⟩
theorem next (h:Cx H b S t w r v0 n xs)(hk:Keep H b w w')(hr:zL w' b r' v1)(htp:r'.tp=r.tp)(ho:w'.ownsRow H 51 6 v1 n' xs'):Cx H b S t w' r' v1 n' xs':=
 ⟨hr,ho,by rw[htp];exact h.tab.keep fun k hs=>hk.block k (h.safe k hs).1 (h.safe k hs).2,h.bH,lY h.HH hk.size,h.safe⟩
theorem stored (h:Cx H b S t w r v0 n xs)(i:Nat)(v:Value)(hr:zL (w.setCell ⟨b,i,none⟩ v) b r' v0)(htp:r'.tp=r.tp):Cx H b S t (w.setCell ⟨b,i,none⟩ v) r' v0 n xs:=
 h.next (Keep.set _ _ _) hr htp (ownsRow_setCell_below h.own h.bH _)
theorem kept (h:Cx H b S t w r v0 n xs)(hk:∀H,Keep H b w w')(hr:zL w' b r' v0)(htp:r'.tp=r.tp):Cx H b S t w' r' v0 n xs:=
 h.next (hk H) hr htp (by
  refine⟨h.own.1,h.own.2.imp id ?_⟩;rintro⟨g,cap,cur,hv,hg,hh,rest⟩;have hlt:=(kQ.1 hh).1;have hbH:=h.bH;exact⟨g,cap,cur,hv,hg,((hk w.heap.size).block g hlt (by omega)).trans hh,rest⟩)
end Cx
theorem zAM (b H:Nat)(S:Nat->Prop)(t:Tb)(kind rule to:Int)(w:World)(r:Rs)(v0:Value)(n:Nat)(xs:List Value)(hC:Cx H b S t w r v0 n xs)(hn:n<=4194304):
  Calls prog 157 #[pointer (some ⟨b,0,none⟩),int i64 kind,int i64 rule,int i64 to] w fun e w'=>
   e=returned (tuple #[])∧∃ao cap,Cx H b S t w' r (slice ao (n+1) cap) (n+1) (xs++vN kind rule r.bAt to r.bLine r.bCol)∧Keep H b w w'∧
    ∀k,k<w.heap.size->k≠b->some k≠v0.ownBlock->w'.heap[k]? =w.heap[k]? :=by
 have hR:=hC.run;have hown:=hC.own;have hb:=hC.bH;have hH:=hC.HH;have hlt:=hown.lt;have ag:v0.ownBlock≠some b:=fun e=>by have:=hlt b e;omega
 refine(zLZ b kind rule to r.bAt r.bLine r.bCol v0 n H xs w hR.get_told hR.get_bAt hR.get_bLine hR.get_bCol (hR.frozen 2) hown hH (by unfold maxLen;omega) (by omega) ag).mono ?_;rintro e w' ⟨rfl,g,cap,w1,hown1,hgrow,hat,hlt1,rfl⟩;have hR1:=hR.of_block (hgrow.block b hR.lt (Ne.symm ag));have hk:Keep H b w (w1.setCell ⟨b,2,none⟩ (slice (some ⟨g,0,none⟩) (n+1) cap)):=(Keep.grown hgrow hH fun k hk=>(hlt k hk).1).trans (Keep.set _ _ _);refine⟨rfl,some ⟨g,0,none⟩,cap,hC.next hk (hR1.set_told _) rfl (ownsRow_setCell_below hown1 hb _),hk,fun k h1 h2 h3=>?_⟩;exact(lJ _ _ _ _ h2).trans (hgrow.block k h1 h3)
theorem vH (b H:Nat)(S:Nat->Prop)(t:Tb)(kind:Int)(w:World)(r:Rs)(v0:Value)(n:Nat)(xs:List Value)(hC:Cx H b S t w r v0 n xs)(hn:n<=4194304):
  Calls prog 110 #[pointer (some ⟨b,0,none⟩),int i64 kind] w fun e w'=>
   e=returned (tuple #[])∧∃ao cap,Cx H b S t w' {r with opn:=false} (slice ao (n+1) cap) (n+1) (xs++vN kind 0 r.bAt r.bAt r.bLine r.bCol)∧Keep H b w w':=by
 have h8:=hC.run.get_bAt;have HC:=vl hC;go_in;go_wp2_with fail;refine(zAM b H S t kind 0 r.bAt _ r v0 n xs HC.out hn).mono ?_;rintro e w1 ⟨rfl,ao,cap,cb,hk1,_⟩;have c1:=cb.run.get_opn;have f1:=cb.run.frozen 1;have HC1:=vl cb;have HK:=vl hk1;go_wp2;go_end0;exact⟨rfl,ao,cap,HC1.out.stored 1 _ (HC1.out.run.set_opn false) rfl,HK.out.trans (Keep.set _ _ _)⟩
theorem zIU (b H:Nat)(S:Nat->Prop)(t:Tb)(w:World)(r:Rs)(v0:Value)(n:Nat)(xs:List Value)(hC:Cx H b S t w r v0 n xs)(hn:n<=4194304)
  (rule eAt eLine eCol:Nat) (hr:rule<t.nrule) (ho:t.act rule=2) (hd:r.depth=4):
  Calls prog 156 #[pointer (some ⟨b,0,none⟩),int i64 rule,agg #[int i64 eAt,int i64 eLine,int i64 eCol]] w fun e w'=>
   e=returned (tuple #[])∧∃ao cap,Cx H b S t w' {r with opn:=false} (slice ao (n+1) cap) (n+1) (xs++vN 4 0 r.bAt r.bAt r.bLine r.bCol)∧Keep H b w w':=by
 have h0:=hC.run.get_tp;have h7:=hC.run.get_depth;obtain⟨_,h4,b4,o4,cap4,hb4,rfl,hcap4,hml4,hL⟩:=hC.tab.c4;have hx:w.cell? ⟨b4,o4+rule,none⟩=some (int i64 (t.act rule:Nat)):=hL _ hr;rw[ho] at hx;rw[hd] at h7;have i1:(rule:Int)<(t.nrule:Int):=by omega
 have l0:b<w.heap.size:=hC.run.lt;have l4:b4<w.heap.size:=lZ (hC.safe _ hb4).1 hC.HH;have lp:r.tp<w.heap.size:=lZ (hC.safe _ hC.tab.safe).1 hC.HH;have HC:=vl hC;go_in;go_wp2_with fail;refine(vH b H S t 4 _ r v0 n xs (HC.out.alloc _) hn).mono ?_;rintro e w1 ⟨rfl,ao,cap,hC1,hk1⟩;have HC1:=vl hC1;go_wp2;refine dZ (results_none rfl _ _ _) rfl ?_;exact⟨rfl,ao,cap,HC1.out,(kZ _ _ HC.out.HH).trans hk1⟩
theorem zHy (b H:Nat)(S:Nat->Prop)(t:Tb)(w:World)(r:Rs)(v0:Value)(n:Nat)(xs:List Value)(hC:Cx H b S t w r v0 n xs)(hn:n<=4194304)
  (rule eAt eLine eCol:Nat) (hr:rule<t.nrule) (ho:t.act rule=3) (hd:r.depth=1):
  Calls prog 156 #[pointer (some ⟨b,0,none⟩),int i64 rule,agg #[int i64 eAt,int i64 eLine,int i64 eCol]] w fun e w'=>
   e=returned (tuple #[])∧∃ao cap,Cx H b S t w' {r with opn:=false} (slice ao (n+1) cap) (n+1) (xs++vN 5 0 r.bAt r.bAt r.bLine r.bCol)∧Keep H b w w':=by
 have h0:=hC.run.get_tp;have h7:=hC.run.get_depth;obtain⟨_,h4,b4,o4,cap4,hb4,rfl,hcap4,hml4,hL⟩:=hC.tab.c4;have hx:w.cell? ⟨b4,o4+rule,none⟩=some (int i64 (t.act rule:Nat)):=hL _ hr;rw[ho] at hx;rw[hd] at h7;have i1:(rule:Int)<(t.nrule:Int):=by omega
 have l0:b<w.heap.size:=hC.run.lt;have l4:b4<w.heap.size:=lZ (hC.safe _ hb4).1 hC.HH;have lp:r.tp<w.heap.size:=lZ (hC.safe _ hC.tab.safe).1 hC.HH;have HC:=vl hC;go_in;go_wp2_with fail;refine(vH b H S t 5 _ r v0 n xs (HC.out.alloc _) hn).mono ?_;rintro e w1 ⟨rfl,ao,cap,hC1,hk1⟩;have HC1:=vl hC1;go_wp2;refine dZ (results_none rfl _ _ _) rfl ?_;exact⟨rfl,ao,cap,HC1.out,(kZ _ _ HC.out.HH).trans hk1⟩
theorem zIS (b H:Nat)(S:Nat->Prop)(t:Tb)(w:World)(r:Rs)(v0:Value)(n:Nat)(xs:List Value)(hC:Cx H b S t w r v0 n xs)
  (rule eAt eLine eCol:Nat) (hr:rule<t.nrule) (ho:t.act rule=1) (hd0:1<=r.depth) (hd4:r.depth<=4) (hst:r.stack (r.depth-1)<t.nmode):
  Calls prog 156 #[pointer (some ⟨b,0,none⟩),int i64 rule,agg #[int i64 eAt,int i64 eLine,int i64 eCol]] w fun e w'=>
   e=returned (tuple #[])∧Cx H b S t w' {r with bAt:=eAt,bLine:=eLine,bCol:=eCol,state:=t.start (r.stack (r.depth-1))} v0 n xs∧Keep H b w w':=by
 have h0:=hC.run.get_tp;have h7:=hC.run.get_depth;obtain⟨_,h4,b4,o4,cap4,hb4,rfl,hcap4,hml4,hL⟩:=hC.tab.c4;have hx:w.cell? ⟨b4,o4+rule,none⟩=some (int i64 (t.act rule:Nat)):=hL _ hr;rw[ho] at hx;have i1:(rule:Int)<(t.nrule:Int):=by omega
 have l0:b<w.heap.size:=hC.run.lt;have l4:b4<w.heap.size:=lZ (hC.safe _ hb4).1 hC.HH;have lp:r.tp<w.heap.size:=lZ (hC.safe _ hC.tab.safe).1 hC.HH;have d8:=(hC).run.get_bAt;have d9:=(hC).run.get_bLine;have d10:=(hC).run.get_bCol;have d11:=(hC).run.get_state;have g8:=(hC).run.frozen 8;have g9:=(hC).run.frozen 9;have g10:=(hC).run.frozen 10;have g11:=(hC).run.frozen 11;have HC:=vl hC;go_in;go_wp2_with fail;have c1:=HC.out.stored 8 _ (HC.out.run.set_bAt eAt) rfl;have c2:=c1.stored 9 _ (c1.run.set_bLine eLine) rfl;have c3:=c2.stored 10 _ (c2.run.set_bCol eCol) rfl;have c4:=c3.alloc (.cells #[int i64 eAt,int i64 eLine,int i64 eCol] 97);have k4:=(((Keep.set (H:=H) (b:=b) w 8 (int i64 eAt)).trans (Keep.set _ 9 (int i64 eLine))).trans (Keep.set _ 10 (int i64 eCol))).trans (kZ _ (.cells #[int i64 eAt,int i64 eLine,int i64 eCol] 97) c3.HH);refine(zAf b _ _ c4.run S t c4.tab hd0 hd4 hst).mono ?_;rintro e w9 ⟨rfl,ha9⟩;have c5:=c4.alike ha9;have k5:=vl <| k4.trans (Keep.alike ha9);have e11:=c5.run.get_state;have z11:=c5.run.frozen 11;have C5:=vl c5;go_wp2;go_end0;exact⟨rfl,C5.out.stored 11 _ (C5.out.run.set_state _) rfl,k5.out.trans (Keep.set _ _ _)⟩
theorem zIV (b H:Nat)(S:Nat->Prop)(t:Tb)(w:World)(r:Rs)(v0:Value)(n:Nat)(xs:List Value)(hC:Cx H b S t w r v0 n xs)(hn:n<=4194304)
  (rule eAt eLine eCol:Nat) (hr:rule<t.nrule) (ho:t.act rule=0) (hd0:1<=r.depth) (hd4:r.depth<=4) (hst:r.stack (r.depth-1)<t.nmode):
  Calls prog 156 #[pointer (some ⟨b,0,none⟩),int i64 rule,agg #[int i64 eAt,int i64 eLine,int i64 eCol]] w fun e w'=>
   e=returned (tuple #[])∧∃ao cap,Cx H b S t w' {r with bAt:=eAt,bLine:=eLine,bCol:=eCol,state:=t.start (r.stack (r.depth-1))} (slice ao (n+1) cap) (n+1) (xs++vN 1 rule r.bAt eAt r.bLine r.bCol)∧Keep H b w w':=by
 have h0:=hC.run.get_tp;have h7:=hC.run.get_depth;obtain⟨_,h4,b4,o4,cap4,hb4,rfl,hcap4,hml4,hL⟩:=hC.tab.c4;have hx:w.cell? ⟨b4,o4+rule,none⟩=some (int i64 (t.act rule:Nat)):=hL _ hr;rw[ho] at hx;have i1:(rule:Int)<(t.nrule:Int):=by omega
 have l0:b<w.heap.size:=hC.run.lt;have l4:b4<w.heap.size:=lZ (hC.safe _ hb4).1 hC.HH;have lp:r.tp<w.heap.size:=lZ (hC.safe _ hC.tab.safe).1 hC.HH;have HC:=vl hC;go_in;go_wp2_with fail;have ca:=HC.out.alloc (.cells #[int i64 eAt,int i64 eLine,int i64 eCol] 97);refine(zAM b H S t 1 rule eAt _ r v0 n xs ca hn).mono ?_;rintro e w1 ⟨rfl,ao,cap,cb,hk1,hf1⟩;have hbox:w1.heap[w.heap.size]? =some (.cells #[int i64 eAt,int i64 eLine,int i64 eCol] 97):=by
  rw[hf1 w.heap.size (by simp) (by omega) (fun e=>by have:=(HC.out.own.lt _ e.symm).2;omega)];exact gJ w _
 have x0:w1.cell? ⟨w.heap.size,0,none⟩=some (int i64 eAt):=by simp[World.cell?,hbox]
 have x1:w1.cell? ⟨w.heap.size,1,none⟩=some (int i64 eLine):=by simp[World.cell?,hbox]
 have x2:w1.cell? ⟨w.heap.size,2,none⟩=some (int i64 eCol):=by simp[World.cell?,hbox]
 have d8:=cb.run.get_bAt;have g8:=cb.run.frozen 8;have d9:=cb.run.get_bLine;have g9:=cb.run.frozen 9;have d10:=cb.run.get_bCol;have g10:=cb.run.frozen 10;have d11:=cb.run.get_state;have g11:=cb.run.frozen 11;have CB:=vl cb;have K1:=vl <| (kZ w _ HC.out.HH).trans hk1;go_wp2_with fail;have c1:=CB.out.stored 8 _ (CB.out.run.set_bAt eAt) rfl;have c2:=c1.stored 9 _ (c1.run.set_bLine eLine) rfl;have c4:=c2.stored 10 _ (c2.run.set_bCol eCol) rfl;have k4:=((K1.out.trans (Keep.set w1 8 (int i64 eAt))).trans (Keep.set _ 9 (int i64 eLine))).trans (Keep.set _ 10 (int i64 eCol));refine(zAf b _ _ c4.run S t c4.tab hd0 hd4 hst).mono ?_;rintro e w9 ⟨rfl,ha9⟩;have c5:=c4.alike ha9;have k5:=vl <| k4.trans (Keep.alike ha9);have e11:=c5.run.get_state;have z11:=c5.run.frozen 11;have C5:=vl c5;go_wp2;go_end0;exact⟨rfl,ao,cap,C5.out.stored 11 _ (C5.out.run.set_state _) rfl,k5.out.trans (Keep.set _ _ _)⟩
end
theorem zKA (b H:Nat)(S:Nat->Prop)(t:Tb)(w:World)(r:Rs)(v0:Value)(n:Nat)(xs:List Value)(hC:Cx H b S t w r v0 n xs)(hn:n<=4194304)
  (rule eAt eLine eCol:Nat) (hr:rule<t.nrule) (ho:t.act rule=3) (hd0:2<=r.depth) (hd4:r.depth<=4) (hst:r.stack (r.depth-1-1)<t.nmode):
  Calls prog 156 #[pointer (some ⟨b,0,none⟩),int i64 rule,agg #[int i64 eAt,int i64 eLine,int i64 eCol]] w fun e w'=>
   e=returned (tuple #[])∧∃ao cap,Cx H b S t w' {r with depth:=r.depth-1,bAt:=eAt,bLine:=eLine,bCol:=eCol,state:=t.start (r.stack (r.depth-1-1))} (slice ao (n+1) cap) (n+1) (xs++vN 1 rule r.bAt eAt r.bLine r.bCol)∧Keep H b w w':=by
 have h0:=hC.run.get_tp;have h7:=hC.run.get_depth;have j1:((r.depth:Int)==1)=false:=by rw[hJ];omega
 have j2:(2:Int)<=(r.depth:Int):=by omega
 have j3:(r.depth:Int)<=4:=by omega
 obtain⟨_,h4,b4,o4,cap4,hb4,rfl,hcap4,hml4,hL⟩:=hC.tab.c4;have hx:w.cell? ⟨b4,o4+rule,none⟩=some (int i64 (t.act rule:Nat)):=hL _ hr;rw[ho] at hx;have i1:(rule:Int)<(t.nrule:Int):=by omega
 have l0:b<w.heap.size:=hC.run.lt;have l4:b4<w.heap.size:=lZ (hC.safe _ hb4).1 hC.HH;have lp:r.tp<w.heap.size:=lZ (hC.safe _ hC.tab.safe).1 hC.HH;have HC:=vl hC;go_in;go_wp2_with fail;have ca:=HC.out.alloc (.cells #[int i64 eAt,int i64 eLine,int i64 eCol] 97);refine(zAM b H S t 1 rule eAt _ r v0 n xs ca hn).mono ?_;rintro e w1 ⟨rfl,ao,cap,cb,hk1,hf1⟩;have hbox:w1.heap[w.heap.size]? =some (.cells #[int i64 eAt,int i64 eLine,int i64 eCol] 97):=by
  rw[hf1 w.heap.size (by simp) (by omega) (fun e=>by have:=(HC.out.own.lt _ e.symm).2;omega)];exact gJ w _
 have x0:w1.cell? ⟨w.heap.size,0,none⟩=some (int i64 eAt):=by simp[World.cell?,hbox]
 have x1:w1.cell? ⟨w.heap.size,1,none⟩=some (int i64 eLine):=by simp[World.cell?,hbox]
 have x2:w1.cell? ⟨w.heap.size,2,none⟩=some (int i64 eCol):=by simp[World.cell?,hbox]
 have d7:=cb.run.get_depth;have g7:=cb.run.frozen 7;have d8:=cb.run.get_bAt;have g8:=cb.run.frozen 8;have d9:=cb.run.get_bLine;have g9:=cb.run.frozen 9;have d10:=cb.run.get_bCol;have g10:=cb.run.frozen 10;have d11:=cb.run.get_state;have g11:=cb.run.frozen 11;have CB:=vl cb;have K1:=vl <| (kZ w _ HC.out.HH).trans hk1;go_wp2_with fail;have ed:((r.depth:Int)-1)=((r.depth-1:Nat):Int):=by omega
 rw[ed];have c0:=CB.out.stored 7 _ (CB.out.run.set_depth (r.depth-1)) rfl;have c1:=c0.stored 8 _ (c0.run.set_bAt eAt) rfl;have c2:=c1.stored 9 _ (c1.run.set_bLine eLine) rfl;have c4:=c2.stored 10 _ (c2.run.set_bCol eCol) rfl;have k4:=(((K1.out.trans (Keep.set w1 7 (int i64 (r.depth-1:Nat)))).trans (Keep.set _ 8 (int i64 eAt))).trans (Keep.set _ 9 (int i64 eLine))).trans (Keep.set _ 10 (int i64 eCol));refine(zAf b _ _ c4.run S t c4.tab (by show 1<=r.depth-1;omega) (by show r.depth-1<=4;omega) hst).mono ?_;rintro e w9 ⟨rfl,ha9⟩;have c5:=c4.alike ha9;have k5:=vl <| k4.trans (Keep.alike ha9);have e11:=c5.run.get_state;have z11:=c5.run.frozen 11;have C5:=vl c5;go_wp2;go_end0;exact⟨rfl,ao,cap,C5.out.stored 11 _ (C5.out.run.set_state _) rfl,k5.out.trans (Keep.set _ _ _)⟩
theorem zIT (b H:Nat)(S:Nat->Prop)(t:Tb)(w:World)(r:Rs)(v0:Value)(n:Nat)(xs:List Value)(hC:Cx H b S t w r v0 n xs)(hn:n<=4194304)
  (rule eAt eLine eCol:Nat) (hr:rule<t.nrule) (ho:t.act rule=2) (hd0:1<=r.depth) (hd4:r.depth<4) (hst:t.push rule<t.nmode):
  Calls prog 156 #[pointer (some ⟨b,0,none⟩),int i64 rule,agg #[int i64 eAt,int i64 eLine,int i64 eCol]] w fun e w'=>
   e=returned (tuple #[])∧∃ao cap,Cx H b S t w' {r with stack:=fun j=>if j=r.depth then t.push rule else r.stack j,depth:=r.depth+1,bAt:=eAt,bLine:=eLine,bCol:=eCol,state:=t.start (t.push rule)} (slice ao (n+1) cap) (n+1) (xs++vN 1 rule r.bAt eAt r.bLine r.bCol)∧Keep H b w w':=by
 have h0:=hC.run.get_tp;have h7:=hC.run.get_depth;have j1:((r.depth:Int)==4)=false:=by rw[hJ];omega
 obtain⟨_,h4,b4,o4,cap4,hb4,rfl,hcap4,hml4,hL⟩:=hC.tab.c4;have hx:w.cell? ⟨b4,o4+rule,none⟩=some (int i64 (t.act rule:Nat)):=hL _ hr;rw[ho] at hx;have i1:(rule:Int)<(t.nrule:Int):=by omega
 have l0:b<w.heap.size:=hC.run.lt;have l4:b4<w.heap.size:=lZ (hC.safe _ hb4).1 hC.HH;have lp:r.tp<w.heap.size:=lZ (hC.safe _ hC.tab.safe).1 hC.HH;have HC:=vl hC;clear hC hL;go_in;go_wp2_with fail;have ca:=HC.out.alloc (.cells #[int i64 eAt,int i64 eLine,int i64 eCol] 97);refine(zAM b H S t 1 rule eAt _ r v0 n xs ca hn).mono ?_;rintro e w1 ⟨rfl,ao,cap,cb,hk1,hf1⟩;have hbox:w1.heap[w.heap.size]? =some (.cells #[int i64 eAt,int i64 eLine,int i64 eCol] 97):=by
  rw[hf1 w.heap.size (by simp) (by omega) (fun e=>by have:=(HC.out.own.lt _ e.symm).2;omega)];exact gJ w _
 have x0:w1.cell? ⟨w.heap.size,0,none⟩=some (int i64 eAt):=by simp[World.cell?,hbox]
 have x1:w1.cell? ⟨w.heap.size,1,none⟩=some (int i64 eLine):=by simp[World.cell?,hbox]
 have x2:w1.cell? ⟨w.heap.size,2,none⟩=some (int i64 eCol):=by simp[World.cell?,hbox]
 have dt:=cb.run.get_tp;obtain⟨_,h5,b5,o5,cap5,hb5,rfl,hcap5,hml5,hL5⟩:=cb.tab.c5;have hx5:w1.cell? ⟨b5,o5+rule,none⟩=some (int i64 (t.push rule:Nat)):=hL5 _ hr;have CB:=vl cb;have K1:=vl <| (kZ w _ HC.out.HH).trans hk1;clear cb ca hk1 hf1 hbox hL5;go_wp2_with fail;refine(zE1 b (t.push rule) _ _ CB.out.run (by exact hd4)).mono ?_;rintro e w2 ⟨rfl,hR2,hk2⟩;have cc:=CB.out.kept hk2 hR2 rfl;have y0:w2.cell? ⟨w.heap.size,0,none⟩=some (int i64 eAt):=(gG ((hk2 (w.heap.size+1)).block _ (by show w.heap.size<_;omega) (by show w.heap.size≠b;omega))).trans x0;have y1:w2.cell? ⟨w.heap.size,1,none⟩=some (int i64 eLine):=(gG ((hk2 (w.heap.size+1)).block _ (by show w.heap.size<_;omega) (by show w.heap.size≠b;omega))).trans x1;have y2:w2.cell? ⟨w.heap.size,2,none⟩=some (int i64 eCol):=(gG ((hk2 (w.heap.size+1)).block _ (by show w.heap.size<_;omega) (by show w.heap.size≠b;omega))).trans x2;have d8:=cc.run.get_bAt;have g8:=cc.run.frozen 8;have d9:=cc.run.get_bLine;have g9:=cc.run.frozen 9;have d10:=cc.run.get_bCol;have g10:=cc.run.frozen 10;have K2:=vl <| K1.out.trans (hk2 H);have CC:=vl cc;clear cc hk2 hR2;go_wp2_with fail;have c1:=CC.out.stored 8 _ (CC.out.run.set_bAt eAt) rfl;have c2:=c1.stored 9 _ (c1.run.set_bLine eLine) rfl;have c4:=c2.stored 10 _ (c2.run.set_bCol eCol) rfl;have k4:=((K2.out.trans (Keep.set w2 8 (int i64 eAt))).trans (Keep.set _ 9 (int i64 eLine))).trans (Keep.set _ 10 (int i64 eCol));clear c1 c2;have hs:(fun j=>if j=r.depth then t.push rule else r.stack j) (r.depth+1-1)=t.push rule:=by simp
 refine(zAf b _ _ c4.run S t c4.tab (by show 1<=r.depth+1;omega) (by show r.depth+1<=4;omega) (by show(fun j=>if j=r.depth then t.push rule else r.stack j) (r.depth+1-1)<t.nmode;rw[hs];exact hst)).mono ?_;rintro e w9 ⟨rfl,ha9⟩;have c5:=c4.alike ha9;have k5:=vl <| k4.trans (Keep.alike ha9);have e11:=c5.run.get_state;have z11:=c5.run.frozen 11;have C5:=vl c5;clear c5 c4 k4 ha9;go_wp2;go_end0;refine⟨rfl,ao,cap,?_,k5.out.trans (Keep.set _ 11 _)⟩;have c6:=C5.out.stored 11 _ (C5.out.run.set_state (t.start (t.push rule))) rfl;simpa using c6
structure Ev where
 kind:Int
 rule:Int
 from_:Int
 to:Int
 line:Int
 col:Int
def Ev.cells (e:Ev):List Value:=vN e.kind e.rule e.from_ e.to e.line e.col
def zY (es:List Ev):List Value:=es.flatMap Ev.cells
theorem xS (es:List Ev)(e:Ev):zY (es++[e])=zY es++e.cells:=by simp[zY]
abbrev Cv (H b:Nat)(S:Nat->Prop)(t:Tb)(w:World)(r:Rs)(v0:Value)(es:List Ev):Prop:=Cx H b S t w r v0 es.length (zY es)
structure Rs.Ok (r:Rs)(t:Tb):Prop where
 d1:1<=r.depth
 d4:r.depth<=4
 st:∀j,j<r.depth->r.stack j<t.nmode
 state:r.state<t.nst
 first:r.first<64
 count:r.count<=64
 bytes:∀j,j<64->r.byte j<256
def Rs.lastEv (r:Rs)(kind:Int):Ev:=⟨kind,0,r.bAt,r.bAt,r.bLine,r.bCol⟩
def Rs.moved (r:Rs)(t:Tb)(rule:Nat):Rs:=
 if t.act rule=3 then{r with depth:=r.depth-1}
 else if t.act rule=2 then{r with stack:=fun j=>if j=r.depth then t.push rule else r.stack j,depth:=r.depth+1}
 else r
def Rs.tok (r:Rs)(t:Tb)(rule eAt eLine eCol:Nat):Rs×List Ev:=
 if t.act rule=2∧r.depth=4 then({r with opn:=false},[r.lastEv 4])
 else if t.act rule=3∧r.depth=1 then({r with opn:=false},[r.lastEv 5])
 else({r.moved t rule with bAt:=eAt,bLine:=eLine,bCol:=eCol,state:=t.start ((r.moved t rule).stack ((r.moved t rule).depth-1))},
  if t.act rule=1 then[] else[⟨1,rule,r.bAt,eAt,r.bLine,r.bCol⟩])
theorem zDU (b H:Nat)(S:Nat->Prop)(t:Tb)(w:World)(r:Rs){v0:Value}(es:List Ev)(hC:Cv H b S t w r v0 es)(hn:es.length<=4194304)
  (rule eAt eLine eCol:Nat) (hr:rule<t.nrule) (ha:t.act rule<4) (ok:t.Ok) (hok:r.Ok t):
  Calls prog 156 #[pointer (some ⟨b,0,none⟩),int i64 rule,agg #[int i64 eAt,int i64 eLine,int i64 eCol]] w fun e w'=>
   e=returned (tuple #[])∧∃v,Cv H b S t w' (r.tok t rule eAt eLine eCol).1 v (es++(r.tok t rule eAt eLine eCol).2)∧Keep H b w w':=by
 have d1:=hok.d1;have d4:=hok.d4;by_cases h2:t.act rule=2∧r.depth=4
 ·refine(zIU b H S t w r v0 _ _ hC hn rule eAt eLine eCol hr h2.1 h2.2).mono ?_
  rintro e w' ⟨rfl,ao,cap,hC',hk⟩;refine⟨rfl,slice ao (es.length+1) cap,?_,hk⟩;unfold Rs.tok Cv;rw[if_pos h2,xS,kX];exact hC'
 ·by_cases h3:t.act rule=3∧r.depth=1
  ·refine(zHy b H S t w r v0 _ _ hC hn rule eAt eLine eCol hr h3.1 h3.2).mono ?_
   rintro e w' ⟨rfl,ao,cap,hC',hk⟩;refine⟨rfl,slice ao (es.length+1) cap,?_,hk⟩;unfold Rs.tok Cv;rw[if_neg h2,if_pos h3,xS,kX];exact hC'
  ·by_cases a1:t.act rule=1
   ·refine(zIS b H S t w r v0 _ _ hC rule eAt eLine eCol hr a1 d1 d4 (hok.st _ (by omega))).mono ?_
    rintro e w' ⟨rfl,hC',hk⟩;refine⟨rfl,v0,?_,hk⟩;unfold Rs.tok Cv Rs.moved;rw[if_neg h2,if_neg h3,if_neg (by omega),if_neg (by omega),if_pos a1,dV];exact hC'
   ·by_cases a2:t.act rule=2
    ·refine(zIT b H S t w r v0 _ _ hC hn rule eAt eLine eCol hr a2 d1 (by omega) (ok.push _ hr)).mono ?_
     rintro e w' ⟨rfl,ao,cap,hC',hk⟩;refine⟨rfl,slice ao (es.length+1) cap,?_,hk⟩;unfold Rs.tok Cv Rs.moved;rw[if_neg h2,if_neg h3,if_neg (by omega),if_pos a2,if_neg a1,xS,kX];simpa[Ev.cells] using hC'
    ·by_cases a3:t.act rule=3
     ·refine(zKA b H S t w r v0 _ _ hC hn rule eAt eLine eCol hr a3 (by omega) d4 (hok.st _ (by omega))).mono ?_
      rintro e w' ⟨rfl,ao,cap,hC',hk⟩;refine⟨rfl,slice ao (es.length+1) cap,?_,hk⟩;unfold Rs.tok Cv Rs.moved;rw[if_neg h2,if_neg h3,if_pos a3,if_neg a1,xS,kX];exact hC'
     ·refine(zIV b H S t w r v0 _ _ hC hn rule eAt eLine eCol hr (by omega) d1 d4 (hok.st _ (by omega))).mono ?_
      rintro e w' ⟨rfl,ao,cap,hC',hk⟩;refine⟨rfl,slice ao (es.length+1) cap,?_,hk⟩;unfold Rs.tok Cv Rs.moved;rw[if_neg h2,if_neg h3,if_neg a3,if_neg a2,if_neg a1,xS,kX];exact hC'
section
variable (b H:Nat) (S:Nat->Prop) (t:Tb) (w0 w:World) (r:Rs) {v0:Value} (es:List Ev) (hC:Cv H b S t w r v0 es)
def Rs.fin (r:Rs)(t:Tb):Rs×List Ev:=
 if t.ends r.state≠-1∧t.longer r.ahead r.state=false then r.tok t (t.ends r.state).toNat r.hAt r.hLine r.hCol
 else if t.live r.state=false then({r with opn:=false},[r.lastEv 3])
 else(r,[])
theorem zF5 (hC:Cv H b S t w r v0 es)(hn:es.length<=4194304)(hok:r.Ok t)(hk:Keep H b w0 w)
  (f:Rs×List Ev) (hf:f=if t.live r.state=false then({r with opn:=false},[r.lastEv 3]) else(r,[]))
  {u1 u2 u3 u4 u5 u6 u7 u8 u9 u10 u11 u12 u13 u14 u15 u16 u17 u18 u19 u20 u21 u22 u23 u24 u25 u26 u27 u28 u29 u30 u31 u32 u33 u34 u35 u36 u37 u38 u39 u40 u41 u42 u43 u44 u45 u46 u47 u48 u49 u50 u51 u52 u53 u54 u55 u56 u57 u58 u59 u60 u61 u62 u63 u65 u66 u67 u68 u69 u70 u71 u72 u73 u74 u75 u76 u77 u78 u79 u80 u81 u82 u83 u84 u85 u86 u87:Value}:
  Code.wp prog (yS 6 ((f109.body).getD .skip)) (bodyPost prog f109 fun e w'=>
   e=returned (tuple #[])∧∃v,Cv H b S t w' f.1 v (es++f.2)∧Keep H b w0 w')
   ⟨(pointer (some ⟨b,0,none⟩)::u1::u2::u3::u4::u5::u6::u7::u8::u9::u10::u11::u12::u13::u14::u15::u16::u17::u18::u19::u20::u21::u22::u23::u24::u25::u26::u27::u28::u29::u30::u31::u32::u33::u34::u35::u36::u37::u38::u39::u40::u41::u42::u43::u44::u45::u46::u47::u48::u49::u50::u51::u52::u53::u54::u55::u56::u57::u58::u59::u60::u61::u62::u63::bool false::u65::u66::u67::u68::u69::u70::u71::u72::u73::u74::u75::u76::u77::u78::u79::u80::u81::u82::u83::u84::u85::u86::u87::[]).toArray,[]⟩ w:=by
 conv=>arg 2;whnf
 have HC:=vl hC;have J:=vl hk;have HF:=vl hf;have y0:w.cell? ⟨b,0,none⟩=some (pointer (some ⟨r.tp,0,none⟩)):=HC.out.run.get_tp;have y11:w.cell? ⟨b,11,none⟩=some (int i64 r.state):=HC.out.run.get_state;obtain⟨_,h10,b10,o10,cap10,hb10,rfl,hcap10,hml10,hL10⟩:=HC.out.tab.c10;have hst:=hok.state;have hx10:w.cell? ⟨b10,o10+r.state,none⟩=some (bool (t.live r.state)):=hL10 _ hst;have i1:(r.state:Int)<(t.nst:Int):=by omega
 cases hl:t.live r.state
 ·rw[hl] at hx10
  go_wp2;go_quiet (fail);go_wp2_with fail;refine(vH b H S t 3 _ r v0 _ _ (Cx.alike (w':=w.drewN nq) HC.out ⟨rfl,rfl,rfl⟩) hn).mono ?_;rintro e w2 ⟨rfl,ao,cap,c2,k2⟩;have C2:=vl c2;go_wp2;go_end0;refine⟨rfl,slice ao (es.length+1) cap,?_,(J.out.trans (Keep.alike (w':=w.drewN nq) ⟨rfl,rfl,rfl⟩)).trans k2⟩;rw[HF.out,if_pos hl];unfold Cv;rw[xS,kX];exact C2.out
 ·rw[hl] at hx10
  go_wp2;go_quiet (fail);go_wp2;go_end0;refine⟨rfl,v0,?_,J.out.trans (Keep.alike (w':=w.drewN nq) ⟨rfl,rfl,rfl⟩)⟩;rw[HF.out,if_neg (by rw[hl];decide),dV];exact Cx.alike (w':=w.drewN nq) HC.out ⟨rfl,rfl,rfl⟩
theorem zLT (hC:Cv H b S t w r v0 es)(hn:es.length<=4194304)(ok:t.Ok)(hact:∀i,i<t.nrule->t.act i<4)(hok:r.Ok t)(hk:Keep H b w0 w)(hE:¬t.ends r.state=-1)
  (f:Rs×List Ev) (hf:f=r.tok t (t.ends r.state).toNat r.hAt r.hLine r.hCol)
  {u1 u2 u4 u5 u6 u7 u8 u9 u10 u11 u12 u13 u14 u15 u16 u17 u18 u19 u20 u21 u22 u23 u24 u25 u26 u27 u28 u29 u30 u31 u32 u33 u34 u35 u36 u37 u38 u39 u40 u41 u42 u43 u44 u45 u46 u47 u48 u49 u50 u51 u52 u53 u54 u55 u56 u57 u58 u59 u60 u61 u62 u63 u65 u66 u67 u68 u69 u70 u71 u72 u73 u74 u75 u76 u77 u78 u79 u80 u81 u82 u83 u84 u85 u86 u87:Value}:
  Code.wp prog (yS 6 ((f109.body).getD .skip)) (bodyPost prog f109 fun e w'=>
   e=returned (tuple #[])∧∃v,Cv H b S t w' f.1 v (es++f.2)∧Keep H b w0 w')
   ⟨(pointer (some ⟨b,0,none⟩)::u1::u2::int i64 (t.ends r.state)::u4::u5::u6::u7::u8::u9::u10::u11::u12::u13::u14::u15::u16::u17::u18::u19::u20::u21::u22::u23::u24::u25::u26::u27::u28::u29::u30::u31::u32::u33::u34::u35::u36::u37::u38::u39::u40::u41::u42::u43::u44::u45::u46::u47::u48::u49::u50::u51::u52::u53::u54::u55::u56::u57::u58::u59::u60::u61::u62::u63::bool true::u65::u66::u67::u68::u69::u70::u71::u72::u73::u74::u75::u76::u77::u78::u79::u80::u81::u82::u83::u84::u85::u86::u87::[]).toArray,[]⟩ w:=by
 conv=>arg 2;whnf
 obtain⟨e1,e2⟩:=ok.ends r.state hok.state;obtain⟨k,hk0⟩:=Int.eq_ofNat_of_zero_le (show 0<=t.ends r.state by omega);have hkr:k<t.nrule:=by omega
 rw[hk0] at hf ⊢;rw[Int.toNat_natCast] at hf;have HC:=vl hC;have J:=vl hk;have HF:=vl hf;have y78:=HC.out.run.get_hAt;have y79:=HC.out.run.get_hLine;have y80:=HC.out.run.get_hCol;go_wp2_with fail;refine(zDU b H S t _ r es HC.out hn k r.hAt r.hLine r.hCol hkr (hact k hkr) ok hok).mono ?_;rintro e w2 ⟨rfl,v,c2,k2⟩;rw[<-HF.out] at c2;have C2:=vl c2;go_wp2;go_end0;exact⟨rfl,v,C2.out,J.out.trans k2⟩
theorem zKH (hC:Cv H b S t w r v0 es)(hn:es.length<=4194304)(ok:t.Ok)(hact:∀i,i<t.nrule->t.act i<4)(hok:r.Ok t)(ha:r.ahead<t.rows)(hk:Keep H b w0 w)
  {u1 u2 u3 u4 u5 u6 u7 u8 u9 u10 u11 u12 u13 u14 u15 u16 u17 u18 u19 u20 u21 u22 u23 u24 u25 u26 u27 u28 u29 u30 u31 u32 u33 u34 u35 u36 u37 u38 u39 u40 u41 u42 u43 u44 u45 u46 u47 u48 u49 u50 u51 u52 u53 u54 u55 u56 u57 u58 u59 u60 u61 u62 u63 u64 u65 u66 u67 u68 u69 u70 u71 u72 u73 u74 u75 u76 u77 u78 u79 u80 u81 u82 u83 u84 u85 u86 u87:Value}:
  Code.wp prog (yS 4 ((f109.body).getD .skip)) (bodyPost prog f109 fun e w'=>
   e=returned (tuple #[])∧∃v,Cv H b S t w' (r.fin t).1 v (es++(r.fin t).2)∧Keep H b w0 w')
   ⟨(pointer (some ⟨b,0,none⟩)::u1::u2::u3::u4::u5::u6::u7::u8::u9::u10::u11::u12::u13::u14::u15::u16::u17::u18::u19::u20::u21::u22::u23::u24::u25::u26::u27::u28::u29::u30::u31::u32::u33::u34::u35::u36::u37::u38::u39::u40::u41::u42::u43::u44::u45::u46::u47::u48::u49::u50::u51::u52::u53::u54::u55::u56::u57::u58::u59::u60::u61::u62::u63::u64::u65::u66::u67::u68::u69::u70::u71::u72::u73::u74::u75::u76::u77::u78::u79::u80::u81::u82::u83::u84::u85::u86::u87::[]).toArray,[]⟩ w:=by
 conv=>arg 2;whnf
 have HC:=vl hC;have J:=vl hk;apply wp_cut;intro K H4;have y0:w.cell? ⟨b,0,none⟩=some (pointer (some ⟨r.tp,0,none⟩)):=HC.out.run.get_tp;have y11:w.cell? ⟨b,11,none⟩=some (int i64 r.state):=HC.out.run.get_state;obtain⟨_,h9,b9,o9,cap9,hb9,rfl,hcap9,hml9,hL9⟩:=HC.out.tab.c9;have hst:=hok.state;have hx9:w.cell? ⟨b9,o9+r.state,none⟩=some (int i64 (t.ends r.state)):=hL9 _ hst;have i1:(r.state:Int)<(t.nst:Int):=by omega
 go_wp2;go_quiet (fail);go_wp2;apply H4.out;clear H4 hx9 h9 y0 y11;obtain⟨w1,hw1,c1,k1⟩:∃w1,w1=w.drewN nq∧Hid (Cv H b S t w1 r v0 es)∧Hid (Keep H b w0 w1):=⟨_,rfl,Cx.alike (w':=w.drewN nq) HC.out ⟨rfl,rfl,rfl⟩,J.out.trans (Keep.alike ⟨rfl,rfl,rfl⟩)⟩
 rw[<-hw1];clear hw1 HC J;apply wp_cut;intro K H5;have y0:w1.cell? ⟨b,0,none⟩=some (pointer (some ⟨r.tp,0,none⟩)):=c1.out.run.get_tp;have y11:w1.cell? ⟨b,11,none⟩=some (int i64 r.state):=c1.out.run.get_state;have y81:w1.cell? ⟨b,81,none⟩=some (int i64 r.ahead):=c1.out.run.get_ahead;have tbn:Hid (∀n,TabAt (w1.drewN n) S r.tp t):=fun n=>(Cx.alike (w':=w1.drewN n) c1.out ⟨rfl,rfl,rfl⟩).tab;by_cases hE:t.ends r.state=-1
 ·have hB:(t.ends r.state != -1)=false:=by rw[hE];rfl
  have hf:Hid (r.fin t=if t.live r.state=false then({r with opn:=false},[r.lastEv 3]) else(r,[])):=by show r.fin t=_;unfold Rs.fin;rw[if_neg (fun h=>h.1 hE)]
  clear hE;go_wp2;go_quiet (fail);go_wp2;apply H5.out;clear H5;exact zF5 b H S t w0 _ r es (Cx.alike (w':=w1.drewN nq) c1.out ⟨rfl,rfl,rfl⟩) hn hok (k1.out.trans (Keep.alike (w':=w1.drewN nq) ⟨rfl,rfl,rfl⟩)) _ hf.out
 ·have hB:(t.ends r.state != -1)=true:=by rw[bne_iff_ne];exact hE
  cases hL:t.longer r.ahead r.state
  ·go_wp2
   go_quiet ((go_at_call 155;exact Calls.quiet_of_same (zD5 r.tp _ S t (tbn.out _) ok r.ahead r.state ha hst)));go_wp2;apply H5.out;clear H5;exact zLT b H S t w0 _ r es (Cx.alike (w':=w1.drewN nq) c1.out ⟨rfl,rfl,rfl⟩) hn ok hact hok (k1.out.trans (Keep.alike (w':=w1.drewN nq) ⟨rfl,rfl,rfl⟩)) hE _ (by unfold Rs.fin;rw[if_pos ⟨hE,hL⟩])
  ·have hf:Hid (r.fin t=if t.live r.state=false then({r with opn:=false},[r.lastEv 3]) else(r,[])):=by show r.fin t=_;unfold Rs.fin;rw[if_neg (fun h=>by rw[hL] at h;exact absurd h.2 (by decide))]
   go_wp2;go_quiet ((go_at_call 155;exact Calls.quiet_of_same (zD5 r.tp _ S t (tbn.out _) ok r.ahead r.state ha hst)));go_wp2;apply H5.out;clear H5;exact zF5 b H S t w0 _ r es (Cx.alike (w':=w1.drewN nq) c1.out ⟨rfl,rfl,rfl⟩) hn hok (k1.out.trans (Keep.alike (w':=w1.drewN nq) ⟨rfl,rfl,rfl⟩)) _ hf.out
end
def Rs.here1 (r:Rs)(c:Nat):Rs:={r with hAt:=r.hAt+1,hLine:=jL c r.hLine,hCol:=zBb c r.hCol}
def Rs.took (r:Rs)(t:Tb):Rs:=
 {(({r with first:=(r.first+1)%64,count:=r.count-1}:Rs).here1 (r.byte r.first)) with state:=t.next r.state (t.kind (r.byte r.first))}
def Rs.step (r:Rs)(t:Tb):Rs×List Ev:=(r.took t).fin t
theorem Rs.took_ok (r:Rs)(t:Tb)(ok:t.Ok)(h:r.Ok t):(r.took t).Ok t:=
 ⟨h.d1,h.d4,h.st,ok.next _ _ h.state (ok.kind _ (h.bytes _ h.first)),gY _ (by decide),lY (Nat.sub_le _ _) h.count,h.bytes⟩
theorem zHB (b H:Nat)(S:Nat->Prop)(t:Tb)(w:World)(r:Rs){v0:Value}(es:List Ev)(hC:Cv H b S t w r v0 es)(hn:es.length<=4194304)(ok:t.Ok)(hact:∀i,i<t.nrule->t.act i<4)(hok:r.Ok t)(hc:1<=r.count)(ha:r.ahead<t.rows)
  (p1:r.hAt<2147483648) (p2:r.hLine<2147483648) (p3:r.hCol<2147483648):
  Calls prog 109 #[pointer (some ⟨b,0,none⟩)] w fun e w'=>
   e=returned (tuple #[])∧∃v,Cv H b S t w' (r.step t).1 v (es++(r.step t).2)∧Keep H b w w':=by
 have HC:=vl hC;go_in;apply wp_cut;intro K H0;go_wp2_with fail;refine(zID b 0 _ r HC.out.run hok.first (by omega)).mono ?_;rintro e w1 ⟨rfl,ha1⟩;have c1:=vl <| HC.out.alike ha1;have k1:Hid (Keep H b w w1):=Keep.alike ha1;have hcb:=hok.bytes r.first hok.first
 rw[show (r.first+0)%64=r.first by have:=hok.first;omega];generalize hc0:r.byte r.first=c at *
 have Hc0:=vl hc0;go_wp2;apply H0.out;apply wp_cut;intro K H1;go_wp2_with fail;refine(zFs b 1 _ r c1.out.run hok.first hc hok.count).mono ?_;rintro e w2 ⟨rfl,hR2,hk2⟩;have c2:Hid (Cv H b S t w2 {r with first:=(r.first+1)%64,count:=r.count-1} v0 es):=c1.out.kept hk2 hR2 rfl;have k2:Hid (Keep H b w w2):=k1.out.trans (hk2 H);clear hk2 hR2 k1 c1;go_wp2_with fail;apply H1.out;clear H1;refine wp_seq_k ?_;intro K hK;have H2:Hid (∀a w,_->K a w):=hK;clear hK;have x78:=c2.out.run.get_hAt;have x79:=c2.out.run.get_hLine;have x80:=c2.out.run.get_hCol;go_wp2_with fail;refine(zDj r.hAt r.hLine r.hCol c _ p1 p2 p3 hcb).mono ?_;rintro e w3 ⟨rfl,hb3⟩;have c3:Hid (Cv H b S t w3 {r with first:=(r.first+1)%64,count:=r.count-1} v0 es):=c2.out.below hb3;have k3:Hid (Keep H b w w3):=k2.out.trans (Keep.below hb3 c2.out.HH);clear hb3 c2 k2 x78 x79 x80;have x78:=c3.out.run.get_hAt;have x79:=c3.out.run.get_hLine;have x80:=c3.out.run.get_hCol;have z78:=c3.out.run.frozen 78;have z79:=c3.out.run.frozen 79;have z80:=c3.out.run.frozen 80;go_wp2_with fail;apply H2.out;clear H2 x78 x79 x80 z78 z79 z80;obtain⟨w4,hw4,c4,k4⟩:∃w4,w4=((w3.setCell ⟨b,78,none⟩ (int i64 ((r.hAt:Int)+1))).setCell ⟨b,79,none⟩ (int i64 (jL c r.hLine:Nat))).setCell ⟨b,80,none⟩ (int i64 (zBb c r.hCol:Nat))∧
   Hid (Cv H b S t w4 (({r with first:=(r.first+1)%64,count:=r.count-1}:Rs).here1 c) v0 es)∧Hid (Keep H b w w4):=by
  have d1:=Cx.stored c3.out 78 _ (c3.out.run.set_hAt (r.hAt+1)) rfl;have d2:=d1.stored 79 _ (d1.run.set_hLine (jL c r.hLine)) rfl;have d3:=d2.stored 80 _ (d2.run.set_hCol (zBb c r.hCol)) rfl;exact⟨_,rfl,d3,((k3.out.trans (Keep.set _ _ _)).trans (Keep.set _ _ _)).trans (Keep.set _ _ _)⟩
 rw[<-hw4];clear hw4 c3 k3;refine wp_seq_k ?_;intro K hK;have H3:Hid (∀a w,_->K a w):=hK;clear hK;have y0:w4.cell? ⟨b,0,none⟩=some (pointer (some ⟨r.tp,0,none⟩)):=c4.out.run.get_tp;have y11:w4.cell? ⟨b,11,none⟩=some (int i64 r.state):=c4.out.run.get_state;have z11:=c4.out.run.frozen 11;have tb4:Hid (TabAt w4.drew S r.tp t):=(Cx.alike (w':=w4.drew) c4.out ⟨rfl,rfl,rfl⟩).tab;go_wp2_with fail;go_region_with ((go_at_call 154;go_must ((refine (zEM r.tp _ S t tb4.out ok r.state c hok.state hcb).mono ?_;rintro e w5 ⟨rfl,ha5⟩;have q11:w5.cell? ⟨b,11,none⟩=some (int i64 r.state):=(ha5.cell ⟨b,11,none⟩).trans y11;have z5:w5.frozen? ⟨b,11,none⟩=false:=(ha5.frozen ⟨b,11,none⟩).trans z11))))
 all_goals
  have c5:Hid (Cv H b S t w5 (({r with first:=(r.first+1)%64,count:=r.count-1}:Rs).here1 c) v0 es):=Cx.alike c4.out ha5;have k5:Hid (Keep H b w w5):=k4.out.trans (Keep.alike ha5);have c6:Hid (Cv H b S t (w5.setCell ⟨b,11,none⟩ (int i64 (t.next r.state (t.kind c):Nat))) (r.took t) v0 es):=by
   have h:=Cx.stored c5.out 11 _ (c5.out.run.set_state (t.next r.state (t.kind c))) rfl;show Cv H b S t _ (r.took t) v0 es;unfold Rs.took;rw[Hc0.out];exact h
  clear c4 k4 tb4 ha5 c5;go_wp2_with fail;apply H3.out;exact zKH b H S t w _ (r.took t) es c6.out hn ok hact (r.took_ok t ok hok) ha (k5.out.trans (Keep.set _ _ _))
section
variable (r:Rs) (t:Tb) (rule a l c:Nat) (ok:t.Ok) (h:r.Ok t)
structure Rs.Same (s r:Rs):Prop where
 count:s.count=r.count
 first:s.first=r.first
 byte:s.byte=r.byte
 hAt:s.hAt=r.hAt
 hLine:s.hLine=r.hLine
 hCol:s.hCol=r.hCol
 ahead:s.ahead=r.ahead
 tp:s.tp=r.tp
theorem Rs.tok_same:(r.tok t rule a l c).1.Same r:=by
 unfold Rs.tok Rs.moved;split
 ·exact⟨rfl,rfl,rfl,rfl,rfl,rfl,rfl,rfl⟩
 ·split
  ·exact⟨rfl,rfl,rfl,rfl,rfl,rfl,rfl,rfl⟩
  ·split
   ·exact⟨rfl,rfl,rfl,rfl,rfl,rfl,rfl,rfl⟩
   ·split <;> exact⟨rfl,rfl,rfl,rfl,rfl,rfl,rfl,rfl⟩
theorem Rs.tok_one:(r.tok t rule a l c).2.length<=1:=by
 unfold Rs.tok;split
 ·exact lQ
 ·split
  ·exact lQ
  ·show(if t.act rule=1 then[] else[_]:List Ev).length<=1
   split <;> simp
theorem Rs.tok_ok (ok:t.Ok)(h:r.Ok t)(hr:rule<t.nrule):(r.tok t rule a l c).1.Ok t:=by
 unfold Rs.tok;split
 ·exact⟨h.d1,h.d4,h.st,h.state,h.first,h.count,h.bytes⟩
 ·split
  ·exact⟨h.d1,h.d4,h.st,h.state,h.first,h.count,h.bytes⟩
  ·rename_i h2 h3
   have d1:=h.d1;have d4:=h.d4;have key:1<=(r.moved t rule).depth∧(r.moved t rule).depth<=4∧∀j,j<(r.moved t rule).depth->(r.moved t rule).stack j<t.nmode:=by
    unfold Rs.moved;split
    ·exact⟨by show 1<=r.depth-1;omega,by show r.depth-1<=4;omega,fun j hj=>h.st j (by have:j<r.depth-1:=hj;omega)⟩
    ·split
     ·refine⟨by show 1<=r.depth+1;omega,by show r.depth+1<=4;omega,fun j hj=>?_⟩
      have hj':j<r.depth+1:=hj;show(if j=r.depth then t.push rule else r.stack j)<t.nmode;split
      ·exact ok.push _ hr
      ·exact h.st j (by omega)
     ·exact⟨d1,d4,h.st⟩
   obtain⟨k1,k2,k3⟩:=key;have hs:=r.tok_same t rule a l c;unfold Rs.tok at hs;rw[if_neg h2,if_neg h3] at hs;exact⟨k1,k2,k3,ok.start _ (k3 _ (by omega)),by rw[hs.first];exact h.first,by rw[hs.count];exact h.count,by rw[hs.byte];exact h.bytes⟩
theorem Rs.fin_same:(r.fin t).1.Same r:=by
 unfold Rs.fin;split
 ·exact r.tok_same t _ _ _ _
 ·split <;> exact⟨rfl,rfl,rfl,rfl,rfl,rfl,rfl,rfl⟩
theorem Rs.fin_one:(r.fin t).2.length<=1:=by
 unfold Rs.fin;split
 ·exact r.tok_one t _ _ _ _
 ·split <;> simp
theorem Rs.fin_ok (ok:t.Ok)(h:r.Ok t):(r.fin t).1.Ok t:=by
 have he:=ok.ends r.state h.state;unfold Rs.fin;split
 ·rename_i hx
  exact r.tok_ok t _ _ _ _ ok h (by have:=hx.1;omega)
 ·split
  ·exact⟨h.d1,h.d4,h.st,h.state,h.first,h.count,h.bytes⟩
  ·exact h
end
theorem Cx.boxed {H b:Nat}{S:Nat->Prop}{t:Tb}{w:World}{r:Rs}{v0:Value}{n:Nat}{xs:List Value}(h:Cx H b S t w r v0 n xs)(g i:Nat)(x:Value)(hg:H<=g)(hne:v0.ownBlock≠some g):Cx H b S t (w.setCell ⟨g,i,none⟩ x) r v0 n xs:=by
 have hbH:=h.bH;refine⟨h.run.of_block (lJ _ _ _ _ (by show b≠g;omega)),⟨h.own.1,h.own.2.imp id ?_⟩,h.tab.keep fun k hk=>lJ _ _ _ _ (by have:=(h.safe k hk).1;show k≠g;omega),hbH,by simpa[World.setCell] using h.HH,h.safe⟩;rintro⟨g',cap,cur,hv,hb',hh,rest⟩;refine⟨g',cap,cur,hv,hb',(lJ _ _ _ _ ?_).trans hh,rest⟩;intro e;have e':=e;rw[hv,e'] at hne;exact hne rfl
theorem Keep.boxed {H b:Nat}(w:World)(g i:Nat)(x:Value)(hg:H<=g):Keep H b w (w.setCell ⟨g,i,none⟩ x):=
 ⟨rfl,rfl,by simp[World.setCell],fun k h1 _=>lJ _ _ _ _ (by show k≠g;omega)⟩
def Rs.cut (r:Rs):Rs:={r with first:=(r.first+r.length)%64,count:=r.count-r.length,taken:=0,length:=0}
theorem zK3 (b H:Nat)(S:Nat->Prop)(t:Tb)(w0 w:World)(r:Rs){v0:Value}(es:List Ev)(hC:Cv H b S t w r v0 es)(hn:es.length<=4194304)(ok:t.Ok)(hact:∀i,i<t.nrule->t.act i<4)(hok:r.Ok t)(hl:r.length<=r.count)(k:Nat)(hrule:r.rule=k)(hkr:k<t.nrule)(hk:Keep H b w0 w)
  (g eA eL eC:Nat) (hg:H<=g) (hgb:w.heap[g]? =some (.cells #[int i64 eA,int i64 eL,int i64 eC] 97)) (f:Rs×List Ev) (hf:f=r.cut.tok t k eA eL eC)
  {u1 u3 u4 u5 u6 u7 u8 u9 u10 u11 u12 u13 u14 u15 u16 u17 u18 u19 u20 u21 u22 u23 u24 u25 u26 u27 u28 u29 u30 u31 u32 u33 u34 u35 u36 u37 u38 u39 u40 u41 u42 u43 u44 u45 u46 u47 u48 u49 u50:Value}:
  Code.wp prog (yS 3 ((f119.body).getD .skip)) (bodyPost prog f119 fun e w'=>
   e=returned (tuple #[])∧∃v,Cv H b S t w' f.1 v (es++f.2)∧Keep H b w0 w')
   ⟨(pointer (some ⟨b,0,none⟩)::u1::pointer (some ⟨g,0,none⟩)::u3::u4::u5::u6::u7::u8::u9::u10::u11::u12::u13::u14::u15::u16::u17::u18::u19::u20::u21::u22::u23::u24::u25::u26::u27::u28::u29::u30::u31::u32::u33::u34::u35::u36::u37::u38::u39::u40::u41::u42::u43::u44::u45::u46::u47::u48::u49::u50::[]).toArray,[]⟩ w:=by
 conv=>arg 2;whnf
 have HC:=vl hC;have J:=vl hk;have HF:=vl hf;have HG:=vl hgb;have HR:=vl hrule;have y83:=HC.out.run.get_length;have hgne:g≠b:=by have:=HC.out.bH;omega
 apply wp_cut;intro K H7;go_wp2;go_region_with ((go_at_call 152;go_must ((refine (zFs b r.length _ r (Cx.alike (w':=w.drew) HC.out ⟨rfl,rfl,rfl⟩).run hok.first hl hok.count).mono ?_;rintro e w1 ⟨rfl,hR1,hk1⟩))))
 all_goals
  have c1:=vl <| Cx.kept (Cx.alike (w':=w.drew) HC.out ⟨rfl,rfl,rfl⟩) hk1 hR1 rfl;have k1:=vl <| (J.out.trans (Keep.drew _)).trans (hk1 H);have g1:=vl <| ((hk1 (g+1)).block g (by omega) hgne).trans HG.out;go_wp2;apply H7.out;have y82:=c1.out.run.get_taken;have y83:=c1.out.run.get_length;have y84:w1.cell? ⟨b,84,none⟩=some (int i64 k):=by rw[<-HR.out];exact c1.out.run.get_rule
  have z82:=c1.out.run.frozen 82;have z83:=c1.out.run.frozen 83;have x0:w1.cell? ⟨g,0,none⟩=some (int i64 eA):=by simp[World.cell?,g1.out]
  have x1:w1.cell? ⟨g,1,none⟩=some (int i64 eL):=by simp[World.cell?,g1.out]
  have x2:w1.cell? ⟨g,2,none⟩=some (int i64 eC):=by simp[World.cell?,g1.out]
  go_wp2;obtain⟨w2,hw2,c2,k2,g2⟩:∃w2,w2=(w1.setCell ⟨b,82,none⟩ (int i64 0)).setCell ⟨b,83,none⟩ (int i64 0)∧Hid (Cv H b S t w2 r.cut v0 es)∧Hid (Keep H b w0 w2)∧Hid (w2.heap[g]? =some (.cells #[int i64 eA,int i64 eL,int i64 eC] 97)):=by
   have d1:=Cx.stored c1.out 82 _ (c1.out.run.set_taken 0) rfl;have d2:=d1.stored 83 _ (d1.run.set_length 0) rfl;exact⟨_,rfl,d2,(k1.out.trans (Keep.set _ _ _)).trans (Keep.set _ _ _),((lJ _ _ _ _ (by exact hgne)).trans (lJ _ _ _ _ (by exact hgne))).trans g1.out⟩
  rw[<-hw2];clear hw2 c1 k1 g1 y82 y83 y84 z82 z83 x0 x1 x2;have y84:w2.cell? ⟨b,84,none⟩=some (int i64 k):=by rw[<-HR.out];exact c2.out.run.get_rule
  have x0:w2.cell? ⟨g,0,none⟩=some (int i64 eA):=by simp[World.cell?,g2.out]
  have x1:w2.cell? ⟨g,1,none⟩=some (int i64 eL):=by simp[World.cell?,g2.out]
  have x2:w2.cell? ⟨g,2,none⟩=some (int i64 eC):=by simp[World.cell?,g2.out]
  have hok2:r.cut.Ok t:=⟨hok.d1,hok.d4,hok.st,hok.state,gY _ (by decide),lY (Nat.sub_le _ _) hok.count,hok.bytes⟩
  go_region_with ((go_at_call 156;go_must ((refine (zDU b H S t _ r.cut es (Cx.alike (w':=w2.drew) c2.out ⟨rfl,rfl,rfl⟩) hn k eA eL eC hkr (hact k hkr) ok hok2).mono ?_;rintro e w3 ⟨rfl,v3,c3,k3⟩))))
  all_goals
   have C3:Hid (Cv H b S t w3 f.1 v3 (es++f.2)):=by show Cv H b S t w3 f.1 v3 (es++f.2);rw[HF.out];exact c3
   go_wp2;go_end0;exact⟨rfl,v3,C3.out,(k2.out.trans (Keep.drew _)).trans k3⟩
def Rs.lineTo (r:Rs):Nat->Nat
 |0=>r.bLine
 |i+1=>jL (r.byte ((r.first+i)%64)) (r.lineTo i)
def Rs.colTo (r:Rs):Nat->Nat
 |0=>r.bCol
 |i+1=>zBb (r.byte ((r.first+i)%64)) (r.colTo i)
theorem Rs.lineTo_le (r:Rs)(i:Nat):r.lineTo i<=r.bLine+i:=by
 induction i with
 |zero=>exact lQ
 |succ i ih=>simp only[Rs.lineTo];unfold jL;split <;> omega
theorem Rs.colTo_le (r:Rs)(i:Nat):r.colTo i<=r.bCol+i+1:=by
 induction i with
 |zero=>exact Nat.le_succ _
 |succ i ih=>simp only[Rs.colTo];unfold zBb;split <;> omega
theorem zK4 (b H:Nat)(S:Nat->Prop)(t:Tb)(w0 w:World)(r:Rs){v0:Value}(es:List Ev)(hC:Cv H b S t w r v0 es)(hn:es.length<=4194304)(ok:t.Ok)(hact:∀i,i<t.nrule->t.act i<4)(hok:r.Ok t)(hl:r.length<=r.count)(k:Nat)(hrule:r.rule=k)(hkr:k<t.nrule)(hk:Keep H b w0 w)
  (p1:r.bAt+64<2147483648) (p2:r.bLine+64<2147483648) (p3:r.bCol+65<2147483648)
  (g:Nat) (hg:H<=g) (hne:v0.ownBlock≠some g) (hgb:w.heap[g]? =some (.cells #[int i64 r.bAt,int i64 r.bLine,int i64 r.bCol] 97)) (f:Rs×List Ev) (hf:f=r.cut.tok t k (r.bAt+r.length) (r.lineTo r.length) (r.colTo r.length))
  {u1 u3 u4 u5 u6 u7 u8 u9 u10 u11 u12 u13 u14 u15 u16 u17 u18 u19 u20 u21 u22 u23 u24 u25 u26 u27 u28 u29 u30 u31 u32 u33 u34 u35 u36 u37 u38 u39 u40 u41 u42 u43 u44 u45 u46 u47 u48 u49 u50:Value}:
  Code.wp prog (yS 2 ((f119.body).getD .skip)) (bodyPost prog f119 fun e w'=>
   e=returned (tuple #[])∧∃v,Cv H b S t w' f.1 v (es++f.2)∧Keep H b w0 w')
   ⟨(pointer (some ⟨b,0,none⟩)::u1::pointer (some ⟨g,0,none⟩)::u3::u4::u5::u6::u7::u8::u9::u10::u11::u12::u13::u14::u15::u16::u17::u18::u19::u20::u21::u22::u23::u24::u25::u26::u27::u28::u29::u30::u31::u32::u33::u34::u35::u36::u37::u38::u39::u40::u41::u42::u43::u44::u45::u46::u47::u48::u49::u50::[]).toArray,[]⟩ w:=by
 conv=>arg 2;whnf
 refine wp_seq_k ?_;intro K hK0;have HK:Hid (∀a w,_->K a w):=hK0;have HC:Hid (Cv H b S t w r v0 es):=hC;have J:Hid (Keep H b w0 w):=hk;have HF:Hid (f=r.cut.tok t k (r.bAt+r.length) (r.lineTo r.length) (r.colTo r.length)):=hf;have HG:Hid (w.heap[g]? =some (.cells #[int i64 r.bAt,int i64 r.bLine,int i64 r.bCol] 97)):=hgb;have HR:Hid (r.rule=k):=hrule;have hcnt:=hok.count;clear hC hk hf hgb hrule hK0;go_wp2_with fail;go_loopg [3] r.length (fun q i wr=>∃(j A L C:Nat),q=r.length-j∧j<=r.length∧i=int i64 (j:Int)∧A=r.bAt+j∧L=r.lineTo j∧C=r.colTo j∧Cv H b S t wr r v0 es∧Keep H b w0 wr∧wr.heap[g]? =some (.cells #[int i64 A,int i64 L,int i64 C] 97))
 case atStart=>exact⟨0,r.bAt,r.bLine,r.bCol,rfl,lX,rfl,rfl,rfl,rfl,HC.out,J.out,HG.out⟩
 case round=>
  obtain⟨j,A,L,C,hgk,hj,rfl,hA,hL,hCc,hC',hk',hgb'⟩:=hrel;have AA:Hid (gk=r.length-j∧A=r.bAt+j∧L=r.lineTo j∧C=r.colTo j∧Cv H b S t wr r v0 es∧Keep H b w0 wr∧wr.heap[g]? =some (.cells #[int i64 A,int i64 L,int i64 C] 97)):=⟨hgk,hA,hL,hCc,hC',hk',hgb'⟩
  have q1:=r.lineTo_le j;have q2:=r.colTo_le j;have a1:A<2147483648:=by omega
  have a2:L<2147483648:=by omega
  have a3:C<2147483648:=by omega
  have y83:wr.cell? ⟨b,83,none⟩=some (int i64 r.length):=hC'.run.get_length;have x0:wr.cell? ⟨g,0,none⟩=some (int i64 A):=by simp[World.cell?,hgb']
  have x1:wr.cell? ⟨g,1,none⟩=some (int i64 L):=by simp[World.cell?,hgb']
  have x2:wr.cell? ⟨g,2,none⟩=some (int i64 C):=by simp[World.cell?,hgb']
  have fz:Hid (∀i,wr.frozen? ⟨g,i,none⟩=false):=fun i=>by simp[World.frozen?,hgb']
  have hgs:g<wr.heap.size:=(kQ.1 hgb').1;clear hgk hA hL hCc hC' hk' hgb' q1 q2;by_cases hjl:j<r.length
  ·have hl1:(j:Int)<(r.length:Int):=by omega
   have hcb:=hok.bytes ((r.first+j)%64) (gY _ (by decide));have HL:Hid (r.lineTo (j+1)=jL (r.byte ((r.first+j)%64)) (r.lineTo j)∧r.colTo (j+1)=zBb (r.byte ((r.first+j)%64)) (r.colTo j)):=⟨rfl,rfl⟩
   have HAT:Hid (Ca 151 #[pointer (some ⟨b,12,none⟩),int i64 j] wr.drew fun e w'=>e=returned (int .u8 (r.byte ((r.first+j)%64)))∧w'.Alike wr.drew):=zID b j _ r (Cx.alike (w':=wr.drew) AA.out.2.2.2.2.1 ⟨rfl,rfl,rfl⟩).run hok.first (by omega)
   generalize r.byte ((r.first+j)%64)=c at *;go_wp2_with fail;go_region_with ((first|(go_at_call 151;go_must ((refine Calls.mono HAT.out ?_;rintro e w5 ⟨rfl,ha5⟩;have m0:w5.cell? ⟨g,0,none⟩=some (int i64 A):=(ha5.cell ⟨g,0,none⟩).trans x0;have m1:w5.cell? ⟨g,1,none⟩=some (int i64 L):=(ha5.cell ⟨g,1,none⟩).trans x1;have m2:w5.cell? ⟨g,2,none⟩=some (int i64 C):=(ha5.cell ⟨g,2,none⟩).trans x2)))|(go_at_call 153;go_must ((refine (zDj A L C c _ a1 a2 a3 hcb).mono ?_;rintro e w6 ⟨rfl,hb6⟩;have hg5:g<w5.heap.size:=Nat.lt_of_lt_of_eq hgs (congrArg Array.size ha5.1).symm;have n0:w6.cell? ⟨g,0,none⟩=some (int i64 A):=(hb6.cell (p:=⟨g,0,none⟩) hg5).trans m0;have n1:w6.cell? ⟨g,1,none⟩=some (int i64 L):=(hb6.cell (p:=⟨g,1,none⟩) hg5).trans m1;have n2:w6.cell? ⟨g,2,none⟩=some (int i64 C):=(hb6.cell (p:=⟨g,2,none⟩) hg5).trans m2;have o0:w6.frozen? ⟨g,0,none⟩=false:=(hb6.frozen (p:=⟨g,0,none⟩) hg5).trans ((ha5.frozen ⟨g,0,none⟩).trans (fz.out 0));have o1:w6.frozen? ⟨g,1,none⟩=false:=(hb6.frozen (p:=⟨g,1,none⟩) hg5).trans ((ha5.frozen ⟨g,1,none⟩).trans (fz.out 1));have o2:w6.frozen? ⟨g,2,none⟩=false:=(hb6.frozen (p:=⟨g,2,none⟩) hg5).trans ((ha5.frozen ⟨g,2,none⟩).trans (fz.out 2)))))))
   all_goals
    have h5:w5.heap[g]? =wr.heap[g]? :=congrArg (fun h=>h[g]?) ha5.1;have h6:w6.heap[g]? =some (.cells #[int i64 A,int i64 L,int i64 C] 97):=(hb6.block g hg5).trans (h5.trans AA.out.2.2.2.2.2.2);have c5:=Cx.alike AA.out.2.2.2.2.1 ha5;have c6:=Cx.below c5 hb6;have C7:Hid (Cv H b S t (((w6.setCell ⟨g,0,none⟩ (int i64 ((A:Int)+1))).setCell ⟨g,1,none⟩ (int i64 (jL c L:Nat))).setCell ⟨g,2,none⟩ (int i64 (zBb c C:Nat))) r v0 es∧
      Keep H b w0 (((w6.setCell ⟨g,0,none⟩ (int i64 ((A:Int)+1))).setCell ⟨g,1,none⟩ (int i64 (jL c L:Nat))).setCell ⟨g,2,none⟩ (int i64 (zBb c C:Nat)))∧
      (((w6.setCell ⟨g,0,none⟩ (int i64 ((A:Int)+1))).setCell ⟨g,1,none⟩ (int i64 (jL c L:Nat))).setCell ⟨g,2,none⟩ (int i64 (zBb c C:Nat))).heap[g]? =some (.cells #[int i64 ((A+1:Nat):Int),int i64 (jL c L:Nat),int i64 (zBb c C:Nat)] 97)):=by
     refine⟨((Cx.boxed c6 g 0 _ hg hne).boxed g 1 _ hg hne).boxed g 2 _ hg hne,((((AA.out.2.2.2.2.2.1.trans (Keep.alike ha5)).trans (Keep.below hb6 c5.HH)).trans (Keep.boxed _ g 0 _ hg)).trans (Keep.boxed _ g 1 _ hg)).trans (Keep.boxed _ g 2 _ hg),?_⟩;simp[setCell,lU,h6]
    clear h5 h6 c5 c6 hb6 ha5;go_wp2_with fail;go_roundg (r.length-(j+1))
    case measure=>rw[AA.out.1];omega
    case rel=>exact⟨j+1,A+1,jL c L,zBb c C,rfl,by omega,congrArg (Value.int IntKind.i64) (by omega),by rw[AA.out.2.1];omega,by rw[HL.out.1,AA.out.2.2.1],by rw[HL.out.2,AA.out.2.2.2.1],C7.out.1,C7.out.2.1,C7.out.2.2⟩
  ·have hl1:(r.length:Int)<=(j:Int):=by omega
   have hje:Hid (j=r.length):=by show j=_;omega
   go_wp2_with fail;apply HK.out;obtain⟨_,hA,hL,hCc,hC',hk',hgb'⟩:=AA.out;exact zK3 b H S t w0 _ r es hC' hn ok hact hok hl k HR.out hkr hk' g A L C hg hgb' f (by rw[HF.out,hA,hL,hCc,hje.out])
def Rs.long (r:Rs)(t:Tb):Rs×List Ev:=
 if r.length=0 then({r with opn:=false},[r.lastEv 3])
 else r.cut.tok t r.rule.toNat (r.bAt+r.length) (r.lineTo r.length) (r.colTo r.length)
theorem zAW (b H:Nat)(S:Nat->Prop)(t:Tb)(w:World)(r:Rs){v0:Value}(es:List Ev)(hC:Cv H b S t w r v0 es)(hn:es.length<=4194304)(ok:t.Ok)(hact:∀i,i<t.nrule->t.act i<4)(hok:r.Ok t)(hl:r.length<=r.count)(hrule:r.length=0∨(0<=r.rule∧r.rule<t.nrule))
  (p1:r.bAt+64<2147483648) (p2:r.bLine+64<2147483648) (p3:r.bCol+65<2147483648):
  Calls prog 119 #[pointer (some ⟨b,0,none⟩)] w fun e w'=>
   e=returned (tuple #[])∧∃v,Cv H b S t w' (r.long t).1 v (es++(r.long t).2)∧Keep H b w w':=by
 have HC:=vl hC;have y83:=hC.run.get_length;by_cases h0:r.length=0
 ·have hb:((r.length:Int)==0)=true:=by rw[beq_iff_eq];omega
  have HF:Hid (r.long t=({r with opn:=false},[r.lastEv 3])):=by show r.long t=_;unfold Rs.long;rw[if_pos h0]
  go_in;go_wp2_with fail;refine(vH b H S t 3 _ r v0 _ _ HC.out hn).mono ?_;rintro e w2 ⟨rfl,ao,cap,c2,k2⟩;have C2:=vl c2;go_wp2;refine dZ (results_none rfl _ _ _) rfl ?_;refine⟨rfl,slice ao (es.length+1) cap,?_,k2⟩;rw[HF.out];unfold Cv;rw[xS,kX];exact C2.out
 ·have hb:((r.length:Int)==0)=false:=by rw[hJ];omega
  obtain⟨k,hk0⟩:=Int.eq_ofNat_of_zero_le (show 0<=r.rule by omega);have hkr:k<t.nrule:=by omega
  have HR:=vl hk0;have HF:Hid (r.long t=r.cut.tok t k (r.bAt+r.length) (r.lineTo r.length) (r.colTo r.length)):=by show r.long t=_;unfold Rs.long;rw[if_neg h0,hk0];rfl
  have y8:=HC.out.run.get_bAt;have y9:=HC.out.run.get_bLine;have y10:=HC.out.run.get_bCol;go_in;apply wp_cut;intro K H0;go_wp2;apply H0.out;apply wp_cut;intro K H1;go_wp2;apply H1.out;exact zK4 b H S t w _ r es (Cx.alloc HC.out _) hn ok hact hok hl k HR.out hkr (kZ _ _ HC.out.HH) p1 p2 p3 w.heap.size HC.out.HH (fun e=>by have:=(HC.out.own.lt _ e).2;omega) (gJ w _) _ HF.out
end Go.Proofs.YtbjcfkdnjaiclaaGreat
