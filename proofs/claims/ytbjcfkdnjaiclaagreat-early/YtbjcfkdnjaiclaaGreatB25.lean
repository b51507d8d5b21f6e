import Derived.Deep.DrawnRows
import Derived.Deep.RegionLaw
import Derived.Test.YtbjcfkdnjaiclaaGreatB0
import Derived.Test.YtbjcfkdnjaiclaaGreatB24
/- Parts of the proof. -/
set_option linter.unusedVariables false
set_option linter.unusedSimpArgs false
set_option maxHeartbeats 4000000
set_option maxRecDepth 100000
namespace Go.Proofs.YtbjcfkdnjaiclaaGreat
open Go.RowKit Go.Proofs.Tryz Go.World
theorem zGq {α:Type}(l:List α)(p:α->Bool)(d:α)(j:Nat)(hj:j<l.length)(h:p (l.getD j d)=true)(hn:∀i,i<j->p (l.getD i d)=false):l.findIdx p=j:=by
 have hg:∀i (hi:i<l.length),l.getD i d=l[i]:=fun i hi=>by rw[lW,lV hi];rfl
 rw[List.findIdx_eq hj];refine⟨by rw[<-hg j hj];exact h,fun k hk=>?_⟩;rw[<-hg k (by omega)];exact hn k hk
theorem zIf {α:Type}(l:List α)(p:α->Bool)(d:α)(hn:∀i,i<l.length->p (l.getD i d)=false):l.findIdx p=l.length:=by
 apply List.findIdx_eq_length_of_false;intro x hx;obtain⟨i,hi,e⟩:=List.getElem_of_mem hx;have:=hn i hi;rw[lW,lV hi] at this;rw[<-e];exact this
def Sh.modeIx (sh:Sh)(nm:ByteArray):Nat:=sh.modes.findIdx fun m=>eqS m.1 nm
def Sh.modeI (sh:Sh)(nm:ByteArray):Int:=if sh.modeIx nm<sh.modes.length then(sh.modeIx nm:Int) else -1
def Sh.hasDefB (sh:Sh)(nm:ByteArray):Bool:=decide ((sh.defs.findIdx fun m=>eqS m.1 nm)<sh.defs.length)
theorem zDd (w:World)(X:Nat->Prop)(S D:Nat)(sh:Sh)(mv dv av pv:Value)(rv:Nat->Value)(ps:Nat->List Nat)(dp:Nat->Nat)(h:Sw w X S D sh mv dv av pv rv ps dp)(hlen:sh.modes.length<=1000000)(nm:ByteArray):
  Calls prog 88 #[.pointer (some ⟨S,0,none⟩),.string nm] w fun e w'=>e=.returned (.int .i64 (sh.modeI nm))∧Grew w w':=by
 have H1:Hid (∀j,j<sh.modes.length->eqS (sh.mode j).1 nm=true->(∀i,i<j->eqS (sh.mode i).1 nm=false)->sh.modeI nm=(j:Int)):=fun j hj hh hn=>by
  have e:sh.modeIx nm=j:=zGq sh.modes _ (⟨#[]⟩,[]) j hj hh hn;unfold Sh.modeI;rw[e,if_pos hj]
 have H2:Hid ((∀i,i<sh.modes.length->eqS (sh.mode i).1 nm=false)->sh.modeI nm=-1):=fun hn=>by
  have e:sh.modeIx nm=sh.modes.length:=zIf sh.modes _ (⟨#[]⟩,[]) hn;unfold Sh.modeI;rw[e,if_neg (by omega)]
 generalize sh.modeI nm=V at *;obtain⟨ao,cap0,hmv⟩:=zE h.mOwn;obtain⟨c0,-,-,-,-⟩:=h.cells;have HS:=vl h;have HMV:=vl hmv;rw[hmv] at c0;go_in;go_wp2;go_loopg [12] sh.modes.length (fun q i wr=>∃j:Nat,q=sh.modes.length-j∧j<=sh.modes.length∧i=.int .i64 (j:Int)∧(∀k,k<j->eqS (sh.mode k).1 nm=false)∧Grew w wr)
 case atStart=>exact⟨0,rfl,lX,rfl,fun k hk=>by omega,Keep.refl _ _ _⟩
 case round=>
  obtain⟨j,hgk,hj,rfl,hno,hk⟩:=hrel;have HA:Hid (gk=sh.modes.length-j∧(∀k,k<j->eqS (sh.mode k).1 nm=false)∧Grew w wr∧w.heap.size<=wr.heap.size):=⟨hgk,hno,hk,hk.size⟩
  by_cases hj2:j<sh.modes.length
  ·have i1:(j:Int)<(sh.modes.length:Int):=by omega
   obtain⟨mg,mc,hmv2,-,hmgl,-,-,hcl,-⟩:=qH HS.out.mOwn (by omega);rw[HMV.out] at hmv2;injection hmv2 with ea eb ec;subst ea ec;obtain⟨e1,e2⟩:=zA7 (fun i=>.string (sh.mode i).1) rv sh.modes.length j hj2;have y0:=zA (hcl _ _ e1) hmgl hk;have y1:=zA (hcl _ _ e2) hmgl hk;obtain⟨ra,rc,hrv⟩:=zE (HS.out.rOwn j hj2);rw[hrv] at y1;obtain⟨wa,hwa,z0,HKa⟩:∃wa,wa=wr.alloc (.cells #[.string (sh.mode j).1,(.slice ra (sh.mode j).2.length rc)] 120)∧wa.cell? ⟨wr.heap.size,0,none⟩=some (.string (sh.mode j).1)∧Hid (Grew w wa):=by
    have hb2:=gG wr (.cells #[.string (sh.mode j).1,(.slice ra (sh.mode j).2.length rc)] 120);refine⟨_,rfl,?_,HA.out.2.2.1.trans (kZ _ _ HA.out.2.2.2)⟩;unfold cell?;rw[hb2];rfl
   have HH1:Hid (eqS (sh.mode j).1 nm=true->V=(j:Int)):=fun hh=>H1.out j hj2 hh HA.out.2.1;have HNO:Hid (eqS (sh.mode j).1 nm=false->∀k,k<j+1->eqS (sh.mode k).1 nm=false):=fun hh k hk=>by
    by_cases e:k=j
    ·rw[e];exact hh
    ·exact HA.out.2.1 k (by omega)
   apply wp_cut;intro K1 HK1;go_wp2;apply HK1.out;apply wp_cut;intro K1 HK1;go_wp2;apply HK1.out;apply wp_cut;intro KB HKB;refine wp_block ?_;apply wp_cut;intro K1 HK1;go_wp2;apply HK1.out;clear HK1;rw[<-hwa];clear hwa y0 y1;cases hc:eqS (sh.mode j).1 nm with
   |true=>
    have HV:=vl <| HH1.out hc;have hc2:((sh.mode j).1.toList==nm.toList)=true:=hc;clear HH1 HNO hc;go_wp2;go_ret;exact⟨by rw[HV.out];rfl,HKa.out⟩
   |false=>
    have HN2:=HNO.out hc;have hc2:((sh.mode j).1.toList==nm.toList)=false:=hc;clear HH1 HNO hc;go_wp2;apply HKB.out;clear HKB;go_wp2;go_roundg (sh.modes.length-(j+1))
    case measure=>rw[HA.out.1];omega
    case rel=>exact⟨j+1,rfl,by omega,by go_num,HN2,HKa.out⟩
  ·have i1:(sh.modes.length:Int)<=(j:Int):=by omega
   have HV:=vl <| H2.out fun k hk=>hno k (by omega);clear hgk hno hk;go_wp2;go_ret;exact⟨by rw[HV.out];rfl,HA.out.2.2.1⟩
theorem zDj (w:World)(X:Nat->Prop)(S D:Nat)(sh:Sh)(mv dv av pv:Value)(rv:Nat->Value)(ps:Nat->List Nat)(dp:Nat->Nat)(h:Sw w X S D sh mv dv av pv rv ps dp)(hlen:sh.defs.length<=1000000)(nm:ByteArray):
  Calls prog 161 #[.pointer (some ⟨S,0,none⟩),.string nm] w fun e w'=>e=.returned (.bool (sh.hasDefB nm))∧Grew w w':=by
 have H1:Hid (∀j,j<sh.defs.length->eqS (sh.defn j).1 nm=true->(∀i,i<j->eqS (sh.defn i).1 nm=false)->sh.hasDefB nm=true):=fun j hj hh hn=>by
  have e:(sh.defs.findIdx fun m=>eqS m.1 nm)=j:=zGq sh.defs _ (⟨#[]⟩,Tr.none) j hj hh hn;unfold Sh.hasDefB;rw[e];exact decide_eq_true hj
 have H2:Hid ((∀i,i<sh.defs.length->eqS (sh.defn i).1 nm=false)->sh.hasDefB nm=false):=fun hn=>by
  have e:(sh.defs.findIdx fun m=>eqS m.1 nm)=sh.defs.length:=zIf sh.defs _ (⟨#[]⟩,Tr.none) hn;unfold Sh.hasDefB;rw[e];exact decide_eq_false (by omega)
 generalize sh.hasDefB nm=V at *;obtain⟨ao,cap0,hmv⟩:=zE h.dOwn;obtain⟨-,c0,-,-,-⟩:=h.cells;have HS:=vl h;have HMV:=vl hmv;rw[hmv] at c0;go_in;go_wp2;go_loopg [12] sh.defs.length (fun q i wr=>∃j:Nat,q=sh.defs.length-j∧j<=sh.defs.length∧i=.int .i64 (j:Int)∧(∀k,k<j->eqS (sh.defn k).1 nm=false)∧Grew w wr)
 case atStart=>exact⟨0,rfl,lX,rfl,fun k hk=>by omega,Keep.refl _ _ _⟩
 case round=>
  obtain⟨j,hgk,hj,rfl,hno,hk⟩:=hrel;have HA:Hid (gk=sh.defs.length-j∧(∀k,k<j->eqS (sh.defn k).1 nm=false)∧Grew w wr∧w.heap.size<=wr.heap.size):=⟨hgk,hno,hk,hk.size⟩
  by_cases hj2:j<sh.defs.length
  ·have i1:(j:Int)<(sh.defs.length:Int):=by omega
   obtain⟨mg,mc,hmv2,-,hmgl,-,-,hcl,-⟩:=qH HS.out.dOwn (by omega);rw[HMV.out] at hmv2;injection hmv2 with ea eb ec;subst ea ec;obtain⟨e1,e2⟩:=zA7 (fun i=>.string (sh.defn i).1) (fun i=>.pointer (some ⟨dp i,0,none⟩)) sh.defs.length j hj2;have y0:=zA (hcl _ _ e1) hmgl hk;have y1:=zA (hcl _ _ e2) hmgl hk;obtain⟨wa,hwa,z0,HKa⟩:∃wa,wa=wr.alloc (.cells #[.string (sh.defn j).1,(.pointer (some ⟨dp j,0,none⟩))] 233)∧wa.cell? ⟨wr.heap.size,0,none⟩=some (.string (sh.defn j).1)∧Hid (Grew w wa):=by
    have hb2:=gG wr (.cells #[.string (sh.defn j).1,(.pointer (some ⟨dp j,0,none⟩))] 233);refine⟨_,rfl,?_,HA.out.2.2.1.trans (kZ _ _ HA.out.2.2.2)⟩;unfold cell?;rw[hb2];rfl
   have HH1:Hid (eqS (sh.defn j).1 nm=true->V=true):=fun hh=>H1.out j hj2 hh HA.out.2.1;have HNO:Hid (eqS (sh.defn j).1 nm=false->∀k,k<j+1->eqS (sh.defn k).1 nm=false):=fun hh k hk=>by
    by_cases e:k=j
    ·rw[e];exact hh
    ·exact HA.out.2.1 k (by omega)
   apply wp_cut;intro K1 HK1;go_wp2;apply HK1.out;apply wp_cut;intro K1 HK1;go_wp2;apply HK1.out;apply wp_cut;intro KB HKB;refine wp_block ?_;apply wp_cut;intro K1 HK1;go_wp2;apply HK1.out;clear HK1;rw[<-hwa];clear hwa y0 y1;cases hc:eqS (sh.defn j).1 nm with
   |true=>
    have HV:=vl <| HH1.out hc;have hc2:((sh.defn j).1.toList==nm.toList)=true:=hc;clear HH1 HNO hc;go_wp2;go_ret;exact⟨by rw[HV.out];rfl,HKa.out⟩
   |false=>
    have HN2:=HNO.out hc;have hc2:((sh.defn j).1.toList==nm.toList)=false:=hc;clear HH1 HNO hc;go_wp2;apply HKB.out;clear HKB;go_wp2;go_roundg (sh.defs.length-(j+1))
    case measure=>rw[HA.out.1];omega
    case rel=>exact⟨j+1,rfl,by omega,by go_num,HN2,HKa.out⟩
  ·have i1:(sh.defs.length:Int)<=(j:Int):=by omega
   have HV:=vl <| H2.out fun k hk=>hno k (by omega);clear hgk hno hk;go_wp2;go_ret;exact⟨by rw[HV.out];rfl,HA.out.2.2.1⟩
theorem zJh:(prog.info? 120).map (fun i=>(i.zero,i.size,i.bytes))=some (some (.agg #[.string ⟨#[]⟩,.slice none 0 0]),2,40):=by kernel_rfl
def yG (sh:Sh)(nm:ByteArray):Option Sh:=if 3<=sh.modes.length then none else if 0<=sh.modeI nm then none else if xG nm then some (sh.addMode nm) else none
def LnAns (w:World)(S D:Nat)(a:Option Sh)(e:Ending)(w':World):Prop:=
 Keep S S w w'∧match a with
 |none=>e=.returned (.bool false)
 |some sh=>e=.returned (.bool true)∧SwIs w' S D sh
theorem zEe (sh:Sh)(nm:ByteArray):sh.modeI nm=-1∨(0<=sh.modeI nm∧sh.modeI nm<sh.modes.length):=by
 unfold Sh.modeI;split
 ·right;omega
 ·left;rfl
theorem zE0 (w:World)(X:Nat->Prop)(S D:Nat)(sh:Sh)(mv dv av pv:Value)(rv:Nat->Value)(ps:Nat->List Nat)(dp:Nat->Nat)(h:Sw w X S D sh mv dv av pv rv ps dp)(hlen:sh.modes.length<=1000000)(nm:ByteArray)(hs:nm.size<=1048576):
  Calls prog 120 #[.pointer (some ⟨S,0,none⟩),.string nm] w (LnAns w S D (yG sh nm)):=by
 obtain⟨i0,hi0,hz0,hz1,hz2⟩:=info_parts zJh;obtain⟨ao,cap0,hmv⟩:=zE h.mOwn;subst hmv;obtain⟨c0,-,-,-,-⟩:=h.cells;have HMO:=vl <| zDd w X S D sh _ dv av pv rv ps dp h hlen nm;have HNM:Hid (∀w,Calls prog 160 #[.string nm] w fun e w'=>e=.returned (.bool (xG nm))∧w'=w):=fun w=>vF w nm hs;have HS:=vl h;have hlS:=h.lt;have HLS:Hid (∀w1,Grew w w1->Keep S S w w1):=fun w1 hk=>hk.lower (Nat.le_of_lt hlS) (Nat.le_of_lt hlS);have HM:Hid (yG sh nm=if 3<=sh.modes.length then none else if 0<=sh.modeI nm then none else if xG nm then some (sh.addMode nm) else none):=rfl;by_cases h3:3<=sh.modes.length
 ·have HV:Hid (yG sh nm=none):=by show _=_;rw[HM.out,if_pos h3]
  have j3:(3:Int)<=(sh.modes.length:Int):=by omega
  rw[HV.out];go_in;go_wp2;go_ret;exact⟨Keep.refl _ _ _,rfl⟩
 have j3:(sh.modes.length:Int)<3:=by omega
 rcases zEe sh nm with hmi|⟨hmi,-⟩
 ·rw[hmi] at HMO
  have HMO2:=vl HMO;cases hn:xG nm with
  |false=>
   rw[hn] at HNM;have HNM2:=vl HNM;have HV:Hid (yG sh nm=none):=by show _=_;rw[HM.out,if_neg h3,if_neg (by rw[hmi];decide),hn];rfl
   rw[HV.out];go_in;go_wp2_with (first|(go_at_call 88;refine HMO2.out.mono ?_;rintro e w1 ⟨rfl,hk1⟩)|(go_at_call 160;refine(HNM2.out _).mono ?_;rintro e w9 ⟨rfl,hw9⟩;have hw8:=hw9.symm;subst hw8))
   go_ret;exact⟨HLS.out _ hk1,rfl⟩
  |true=>
   rw[hn] at HNM;have HNM2:=vl HNM;have HV:Hid (yG sh nm=some (sh.addMode nm)):=by show _=_;rw[HM.out,if_neg h3,if_neg (by rw[hmi];decide),hn];rfl
   rw[HV.out];go_in;apply wp_cut;intro K0 J;go_wp2;apply J.out;apply wp_cut;intro K0 J;go_wp2_with (first|(go_at_call 88;refine HMO2.out.mono ?_;rintro e w1 ⟨rfl,hk1⟩)|(go_at_call 160;refine(HNM2.out _).mono ?_;rintro e w9 ⟨rfl,hw9⟩;have hw8:=hw9.symm;subst hw8))
   apply J.out;have h1:=HS.out.grown hk1;have H1:Hid (Sw w1 X S D sh (.slice ao sh.modes.length cap0) dv av pv rv ps dp∧Keep S S w w1):=⟨h1,HLS.out _ hk1⟩
   obtain⟨x0,-,-,-,xf⟩:=h1.cells;have xf0:=xf 0;have OW:=h1.mOwn;have hlt1:=h1.lt;have HNP:=vl <| zL h1.mOwn h1.blk (by decide);apply wp_cut;intro K0 J;go_wp2_with (first|(at_builtin;refine wpList_append_lies _ rfl _ _ 77 rfl (S+1) 120 i0 (.agg #[.string ⟨#[]⟩,.slice none 0 0]) 2 40 underlying77 hi0 hz0 hz1 hz2 rfl (by decide) _ _ _ rfl (OW.alloc _) ⟨w1.heap.size,0,none⟩ 1 1 [.string nm,.slice none 0 0] rfl rfl (news_of_block (cs:=#[.string nm,.slice none 0 0]) (t:=120) (fr:=(0,0)) (gG w1 _)) (by simp[Value.oneCell']) (by decide) (by unfold maxLen;omega) (by omega) (by simp;omega) _ rfl ?_;intro gg cap w2 hown hgrow hat hlt;have hPB:=hgrow.block S (by simp;omega) HNP.out;have x0b:=(cell?_of_block hPB).trans ((cell?_alloc_past _ _ _ hlt1).trans x0);have xf0b:=(frozen?_of_block hPB).trans ((frozen?_alloc_past _ _ _ hlt1).trans xf0)))
   apply J.out;obtain⟨w3,hw3,H3⟩:∃w3,w3=w2.setCell ⟨S,0,none⟩ (.slice (some ⟨gg,0,none⟩) (sh.modes.length+1) cap)∧Hid (SwIs w3 S D (sh.addMode nm)∧Keep S S w w3):=by
    obtain⟨q1,q2⟩:=H1.out.1.appMode hown hgrow (by rcases hat with ha|ha;exact .inl ha;right;rw[ha];simp);exact⟨_,rfl,⟨X,_,dv,av,pv,_,_,dp,q1⟩,H1.out.2.trans ((q2.keep H1.out.1.mOwn H1.out.1.lt).lower (Nat.le_succ S) (Nat.le_refl S))⟩
   rw[<-hw3];go_wp2;go_ret;exact⟨H3.out.2,rfl,H3.out.1⟩
 ·have HV:Hid (yG sh nm=none):=by show _=_;rw[HM.out,if_neg h3,if_pos hmi]
  rw[HV.out];generalize sh.modeI nm=mi at *;go_in;go_wp2_with (first|(go_at_call 88;refine HMO.out.mono ?_;rintro e w1 ⟨rfl,hk1⟩))
  go_ret;exact⟨HLS.out _ hk1,rfl⟩
theorem zMF:(prog.info? 233).map (fun i=>(i.zero,i.size,i.bytes))=some (some (.agg #[.string ⟨#[]⟩,.pointer none]),2,24):=by kernel_rfl
structure ShOk (sh:Sh)(D:Nat):Prop where
 modes:sh.modes.length<=3
 defs:sh.defs.length<=4
 acts:sh.acts.length<=8
 same:sh.pushed.length=sh.acts.length
 names:∀i,i<sh.defs.length->(sh.defn i).1.size<=6
 trees:zA5 D sh.defs
 rules:∀i,i<sh.modes.length->∀t∈(sh.mode i).2,TrOk D t
theorem Sw.defsIn {w:World}{X:Nat->Prop}{S D:Nat}{sh:Sh}{mv dv av pv:Value}{rv:Nat->Value}{ps:Nat->List Nat}{dp:Nat->Nat}(h:Sw w X S D sh mv dv av pv rv ps dp)(hn:∀i,i<sh.defs.length->(sh.defn i).1.size<=6):DefsIn w.heap.size X w D dv sh.defs:=by
 obtain⟨ao,cap,hv,h1,h2⟩:=zDa h.dOwn;refine⟨ao,cap,hv,h1,h2,fun i hi=>?_⟩;obtain⟨g,cap2,hv2,-,hg,-,-,hc,-⟩:=qH h.dOwn (by omega);rw[hv] at hv2;injection hv2 with e1 e2 e3;obtain⟨p1,p2⟩:=zA7 (fun i=>.string (sh.defn i).1) (fun i=>.pointer (some ⟨dp i,0,none⟩)) sh.defs.length i hi;refine⟨g,0,dp i,e1,hg,hg,?_,?_,h.dTree i hi,lY (hn i hi) (by omega)⟩
 ·rw[Nat.zero_add];exact hc _ _ p1
 ·rw[Nat.zero_add];exact hc _ _ p2
theorem zBr {w w1 w2:World}(h1:Grew w w1)(h2:Grew w1 w2):Grew w w2:=h1.trans (h2.lower h1.size h1.size)
def vP (sh:Sh)(s:ByteArray):Option Sh:=
 if jW s 32 then if 4<=sh.defs.length then none else if sh.hasDefB (yM s 32) then none else if xG (yM s 32) then(match vH (qF s 32) sh.defs with
  |none=>none
  |some t=>some (sh.addDef (yM s 32) t)) else none else none
theorem zDW (s:ByteArray)(c:Nat):(yM s c).size<=s.size:=by
 unfold yM;split
 ·rw[ByteArray.size_extract];omega
 ·exact lQ
theorem jA (s:ByteArray)(c:Nat):(qF s c).size<=s.size:=by
 unfold qF;split
 ·rw[ByteArray.size_extract];omega
 ·exact lX
theorem zLF (w:World)(X:Nat->Prop)(S D:Nat)(sh:Sh)(mv dv av pv:Value)(rv:Nat->Value)(ps:Nat->List Nat)(dp:Nat->Nat)(h:Sw w X S D sh mv dv av pv rv ps dp)(ok:ShOk sh D)(s:ByteArray)(hs:s.size<=1000)(A B:ByteArray)(K:Bool)(hA:A.size<=1000)(hB:B.size<=1000)(hcut:∀w,Calls prog 86 #[.string s,.int .u8 32] w fun e w'=>e=.returned (.tuple #[.string A,.string B,.bool K])∧Grew w w')(hno:¬(K=true∧¬4<=sh.defs.length∧sh.hasDefB A=false∧xG A=true∧∃t,vH B sh.defs=some t)):
  Calls prog 121 #[.pointer (some ⟨S,0,none⟩),.string s] w (LnAns w S (D+2+4*s.size) (none)):=by
 obtain⟨ao,cap0,hdv⟩:=zE h.dOwn;subst hdv;have hlS:=h.lt;have HLS:Hid (∀w1,Grew w w1->Keep S S w w1):=fun w1 hk=>hk.lower (Nat.le_of_lt hlS) (Nat.le_of_lt hlS);have HSG:Hid (∀w1,Grew w w1->Sw w1 X S D sh mv (.slice ao sh.defs.length cap0) av pv rv ps dp):=fun w1 hk=>h.grown hk;have HTR:=vl fun w1 w2=>zBr (w:=w) (w1:=w1) (w2:=w2);have HCU:=vl (hcut w);have OK:=vl ok;have j4:=Nat.lt_or_ge sh.defs.length 4;have HHD:=vl fun(w1:World) (hk:Grew w w1)=>zDj w1 X S D sh _ _ av pv rv ps dp (HSG.out w1 hk) (by have:=OK.out.defs;omega) A;have HNM:=vl fun w=>vF w A (by omega);have HRD:=vl fun(w2:World) (hk:Grew w w2)=>jL w2 X B (.slice ao sh.defs.length cap0) (by omega) D sh.defs ((HSG.out w2 hk).defsIn OK.out.names) (by have:=OK.out.defs;omega) OK.out.trees;go_in;rcases K with _|_;rotate_left;rcases j4 with j4|j4;rcases hhd:sh.hasDefB A with _|_;rcases hnm:xG A with _|_;rotate_left;rcases hrm:vH B sh.defs with _|t;rotate_left
 ·exact absurd ⟨rfl,by omega,hhd,hnm,t,hrm⟩ hno
 all_goals
  try rw[hhd] at HHD
  try rw[hnm] at HNM
  try rw[hrm] at HRD
  try have i4:(sh.defs.length:Int)<4:=by omega
  try have i4:(4:Int)<=(sh.defs.length:Int):=by omega
  go_wp2_with (first|(go_at_call 86;refine HCU.out.mono ?_;rintro e w1 ⟨rfl,hk1⟩;have c1b:=(HSG.out w1 hk1).cells.2.1)|(go_at_call 161;refine(HHD.out w1 hk1).mono ?_;rintro e w2 ⟨rfl,hk2⟩;have HK2:=vl (HTR.out _ _ hk1 hk2);have d1:=(HSG.out w2 HK2.out).cells.2.1)|(go_at_call 160;refine(HNM.out _).mono ?_;rintro e w9 ⟨rfl,hw9⟩;have hw8:=hw9.symm;subst hw8)|(go_at_call 162;refine(HRD.out w2 HK2.out).mono ?_;rintro e w3 ⟨hk3,rfl⟩))
  go_ret
  first|exact⟨HLS.out _ (HTR.out _ _ HK2.out hk3),rfl⟩|exact⟨HLS.out _ HK2.out,rfl⟩|exact⟨HLS.out _ hk1,rfl⟩
theorem zNJ (w:World)(X:Nat->Prop)(S D:Nat)(sh:Sh)(mv dv av pv:Value)(rv:Nat->Value)(ps:Nat->List Nat)(dp:Nat->Nat)(h:Sw w X S D sh mv dv av pv rv ps dp)(ok:ShOk sh D)(s:ByteArray)(hs:s.size<=1000)(A B:ByteArray)(K:Bool)(hA:A.size<=1000)(hB:B.size<=1000)(hcut:∀w,Calls prog 86 #[.string s,.int .u8 32] w fun e w'=>e=.returned (.tuple #[.string A,.string B,.bool K])∧Grew w w')(hBs:B.size<=s.size)(hK:K=true)(h4:¬4<=sh.defs.length)(hhd:sh.hasDefB A=false)(hnm:xG A=true)(t:Tr)(hrm:vH B sh.defs=some t):
  Calls prog 121 #[.pointer (some ⟨S,0,none⟩),.string s] w (LnAns w S (D+2+4*s.size) (some (sh.addDef A t))):=by
 obtain⟨ao,cap0,hdv⟩:=zE h.dOwn;subst hdv;have hlS:=h.lt;have HLS:Hid (∀w1,Grew w w1->Keep S S w w1):=fun w1 hk=>hk.lower (Nat.le_of_lt hlS) (Nat.le_of_lt hlS);have HSG:Hid (∀w1,Grew w w1->Sw w1 X S D sh mv (.slice ao sh.defs.length cap0) av pv rv ps dp):=fun w1 hk=>h.grown hk;have HTR:=vl fun w1 w2=>zBr (w:=w) (w1:=w1) (w2:=w2);have HCU:=vl (hcut w);have OK:=vl ok;subst hK;obtain⟨i0,hi0,hz0,hz1,hz2⟩:=info_parts zMF;have j4:(sh.defs.length:Int)<4:=by omega
 have HHD:Hid (∀w1,Grew w w1->Calls prog 161 #[.pointer (some ⟨S,0,none⟩),.string A] w1 fun e w'=>e=.returned (.bool false)∧Grew w1 w'):=fun w1 hk=>by have:=zDj w1 X S D sh _ _ av pv rv ps dp (HSG.out w1 hk) (by have:=OK.out.defs;omega) A;rw[hhd] at this;exact this
 have HNM:Hid (∀w,Calls prog 160 #[.string A] w fun e w'=>e=.returned (.bool true)∧w'=w):=fun w=>by have:=vF w A (by omega);rw[hnm] at this;exact this
 have HRD:Hid (∀w2,Grew w w2->Calls prog 162 #[.string B,.slice ao sh.defs.length cap0] w2 (zHm w2 X (D+2+4*B.size) (some t))):=fun w2 hk=>by have:=jL w2 X B _ (by omega) D sh.defs ((HSG.out w2 hk).defsIn OK.out.names) (by have:=OK.out.defs;omega) OK.out.trees;rw[hrm] at this;exact this
 go_in;apply wp_cut;intro K0 J;go_wp2;apply J.out;apply wp_cut;intro K0 J;go_wp2_with (first|(go_at_call 86;refine HCU.out.mono ?_;rintro e w1 ⟨rfl,hk1⟩;have c1b:=(HSG.out w1 hk1).cells.2.1))
 apply J.out;apply wp_cut;intro K0 J;go_wp2_with (first|(go_at_call 161;refine(HHD.out w1 hk1).mono ?_;rintro e w2 ⟨rfl,hk2⟩)|(go_at_call 160;refine(HNM.out _).mono ?_;rintro e w9 ⟨rfl,hw9⟩;have hw8:=hw9.symm;subst hw8))
 apply J.out;have HK2:=vl <| HTR.out _ _ hk1 hk2;have d1:=(HSG.out w2 HK2.out).cells.2.1;apply wp_cut;intro K0 J;go_wp2_with (first|(go_at_call 162;refine(HRD.out w2 HK2.out).mono ?_;rintro e w3 ⟨hk3,p,rfl,ht3⟩))
 apply J.out;apply wp_cut;intro K0 J;go_wp2;apply J.out;obtain⟨Y,H3⟩:∃Y,Hid (Sw w3 Y S (D+2+4*s.size) sh mv (.slice ao sh.defs.length cap0) av pv rv ps dp∧TreeIn Y w3 (D+2+4*s.size) p t∧Keep S S w w3):=by
  refine⟨_,((HSG.out w2 HK2.out).more hk3).deep (by omega),(TreeIn.deep ht3 (by omega)).mono fun i hi hx=>?_,HLS.out _ (HTR.out _ _ HK2.out hk3)⟩;rcases hx with hx|hx
  ·exact .inl hx.1
  ·exact .inr ⟨hx,hi⟩
 obtain⟨-,x1,-,-,xf⟩:=H3.out.1.cells;have xf1:=xf 1;have OW:=H3.out.1.dOwn;have hlt1:=H3.out.1.lt;have HNP:=vl <| zL H3.out.1.dOwn H3.out.1.blk (by decide);apply wp_cut;intro K0 J;go_wp2_with (first|(at_builtin;refine wpList_append_lies _ rfl _ _ 112 rfl (S+1) 233 i0 (.agg #[.string ⟨#[]⟩,.pointer none]) 2 24 underlying112 hi0 hz0 hz1 hz2 rfl (by decide) _ _ _ rfl (OW.alloc _) ⟨w3.heap.size,0,none⟩ 1 1 [.string A,.pointer (some ⟨p,0,none⟩)] rfl rfl (news_of_block (cs:=#[.string A,.pointer (some ⟨p,0,none⟩)]) (t:=233) (fr:=(0,0)) (gG w3 _)) (by simp[Value.oneCell']) (by decide) (by unfold maxLen;omega) (by omega) (by simp;omega) _ rfl ?_;intro gg cap w4 hown hgrow hat hlt;have hPB:=hgrow.block S (by simp;omega) HNP.out;have x1b:=(cell?_of_block hPB).trans ((cell?_alloc_past _ _ _ hlt1).trans x1);have xf1b:=(frozen?_of_block hPB).trans ((frozen?_alloc_past _ _ _ hlt1).trans xf1)))
 apply J.out;obtain⟨w5,hw5,H5⟩:∃w5,w5=w4.setCell ⟨S,1,none⟩ (.slice (some ⟨gg,0,none⟩) (sh.defs.length+1) cap)∧Hid (SwIs w5 S (D+2+4*s.size) (sh.addDef A t)∧Keep S S w w5):=by
  obtain⟨q1,q2⟩:=H3.out.1.appDef H3.out.2.1 hown hgrow (by rcases hat with ha|ha;exact .inl ha;right;rw[ha];simp);exact⟨_,rfl,⟨Y,mv,_,av,pv,rv,ps,_,q1⟩,H3.out.2.2.trans ((q2.keep H3.out.1.dOwn H3.out.1.lt).lower (Nat.le_succ S) (Nat.le_refl S))⟩
 rw[<-hw5];go_wp2;go_ret;exact⟨H5.out.2,rfl,H5.out.1⟩
theorem zFQ (w:World)(X:Nat->Prop)(S D:Nat)(sh:Sh)(mv dv av pv:Value)(rv:Nat->Value)(ps:Nat->List Nat)(dp:Nat->Nat)(h:Sw w X S D sh mv dv av pv rv ps dp)(ok:ShOk sh D)(s:ByteArray)(hs:s.size<=1000):
  Calls prog 121 #[.pointer (some ⟨S,0,none⟩),.string s] w (LnAns w S (D+2+4*s.size) (vP sh s)):=by
 have hA:=lY (zDW s 32) hs;have hB:=lY (jA s 32) hs;have hcut:∀w,Calls prog 86 #[.string s,.int .u8 32] w fun e w'=>e=.returned (.tuple #[.string (yM s 32),.string (qF s 32),.bool (jW s 32)])∧Grew w w':=fun w=>zCl w s (by omega) 32;have no:=zLF w X S D sh mv dv av pv rv ps dp h ok s hs _ _ _ hA hB hcut;unfold vP;cases hK:jW s 32 with
 |false=>exact no fun g=>by rw[hK] at g;exact Bool.noConfusion g.1
 |true=>
 rw[if_pos rfl];by_cases h4:4<=sh.defs.length
 ·rw[if_pos h4]
  exact no fun g=>g.2.1 h4
 rw[if_neg h4];cases hhd:sh.hasDefB (yM s 32) with
 |true=>exact no fun g=>by rw[hhd] at g;exact Bool.noConfusion g.2.2.1
 |false=>
 rw[if_neg (by decide)];cases hnm:xG (yM s 32) with
 |false=>exact no fun g=>by rw[hnm] at g;exact Bool.noConfusion g.2.2.2.1
 |true=>
 rw[if_pos rfl];cases hrm:vH (qF s 32) sh.defs with
 |none=>exact no fun g=>by obtain⟨t,ht⟩:=g.2.2.2.2;rw[hrm] at ht;cases ht
 |some t=>exact zNJ w X S D sh mv dv av pv rv ps dp h ok s hs _ _ _ hA hB hcut (jA s 32) hK h4 hhd hnm t hrm
def qQ (sh:Sh)(nm s:ByteArray):Option Sh:=
 if jW s 32 then if sh.modes.length=0 then none else if 8<=sh.acts.length then none else if xG nm then(if (zA4 (yM s 32)).ok then(match vH (qF s 32) sh.defs with
  |none=>none
  |some t=>some (((sh.addAct (zA4 (yM s 32)).act).addPush (zA4 (yM s 32)).name).addRule (sh.modes.length-1) t)) else none) else none else none
theorem zHQ (w:World)(X:Nat->Prop)(S D:Nat)(sh:Sh)(mv dv av pv:Value)(rv:Nat->Value)(ps:Nat->List Nat)(dp:Nat->Nat)(h:Sw w X S D sh mv dv av pv rv ps dp)(ok:ShOk sh D)(nm s:ByteArray)(hs:s.size<=1000)(hnz:nm.size<=1000)(A B:ByteArray)(K:Bool)(hA:A.size<=1000)(hB:B.size<=1000)(hcut:∀w,Calls prog 86 #[.string s,.int .u8 32] w fun e w'=>e=.returned (.tuple #[.string A,.string B,.bool K])∧Grew w w')(hno:¬(K=true∧¬sh.modes.length=0∧¬8<=sh.acts.length∧xG nm=true∧(zA4 A).ok=true∧∃t,vH B sh.defs=some t)):
  Calls prog 122 #[.pointer (some ⟨S,0,none⟩),.string nm,.string s] w (LnAns w S (D+2+4*s.size) (none)):=by
 obtain⟨am,cm,hmv⟩:=zE h.mOwn;obtain⟨ad,cd,hdv⟩:=zE h.dOwn;obtain⟨aa,ca,hav⟩:=zE h.aOwn;obtain⟨ap,cp,hpv⟩:=zE h.pOwn;subst hmv hdv hav hpv;have hlS:=h.lt;have HLS:Hid (∀w1,Grew w w1->Keep S S w w1):=fun w1 hk=>hk.lower (Nat.le_of_lt hlS) (Nat.le_of_lt hlS);have HSG:Hid (∀w1,Grew w w1->Sw w1 X S D sh (.slice am sh.modes.length cm) (.slice ad sh.defs.length cd) (.slice aa sh.acts.length ca) (.slice ap sh.pushed.length cp) rv ps dp):=fun w1 hk=>h.grown hk;have HTR:=vl fun w1 w2=>zBr (w:=w) (w1:=w1) (w2:=w2);have HCU:=vl (hcut w);have OK:=vl ok;have hmb:=ok.modes;have hab:=ok.acts;have j0:=Nat.eq_zero_or_pos sh.modes.length;have j8:=Nat.lt_or_ge sh.acts.length 8;have HNM:=vl fun w=>vF w nm (by omega);have HAC:=vl fun w=>zCp w A (by omega);have HRD:=vl fun(w2:World) (hk:Grew w w2)=>jL w2 X B (.slice ad sh.defs.length cd) (by omega) D sh.defs ((HSG.out w2 hk).defsIn OK.out.names) (by have:=OK.out.defs;omega) OK.out.trees;generalize zA4 A=ac at *;go_in;rcases K with _|_;rotate_left;rcases j0 with j0|j0;rotate_left;rcases j8 with j8|j8;rcases hnm:xG nm with _|_;rotate_left;rcases hok:ac.ok with _|_;rcases hrm:vH B sh.defs with _|t;rotate_left 2;rcases hrm:vH B sh.defs with _|t;rotate_left
 ·exact absurd ⟨rfl,by omega,by omega,hnm,hok,t,hrm⟩ hno
 all_goals
  try rw[hnm] at HNM
  try rw[hok] at HAC
  try rw[hrm] at HRD
  try have i0:((sh.modes.length:Int)-1)<0:=by omega
  try have i0:¬((sh.modes.length:Int)-1)<0:=by omega
  try have i8:(sh.acts.length:Int)<8:=by omega
  try have i8:(8:Int)<=(sh.acts.length:Int):=by omega
  go_wp2_with (first|(go_at_call 86;refine HCU.out.mono ?_;rintro e w1 ⟨rfl,hk1⟩;have c0b:=(HSG.out w1 hk1).cells.1;have c2b:=(HSG.out w1 hk1).cells.2.2.1)|(go_at_call 160;refine(HNM.out _).mono ?_;rintro e w9 ⟨rfl,hw9⟩;have hw8:=hw9.symm;subst hw8)|(go_at_call 163;refine(HAC.out w1).mono ?_;rintro e w2 ⟨rfl,hk2⟩;have HK2:=vl <| HTR.out _ _ hk1 hk2;have d1:=(HSG.out w2 HK2.out).cells.2.1)|(go_at_call 162;refine(HRD.out w2 HK2.out).mono ?_;first|rintro e w3 ⟨hk3,rfl⟩|rintro e w3 ⟨hk3,p,rfl,ht3⟩))
  go_ret
  first|exact⟨HLS.out _ (HTR.out _ _ HK2.out hk3),rfl⟩|exact⟨HLS.out _ hk1,rfl⟩
section
attribute [local go_sem ↓] Go.wp_at_zero Go.wp_at_succ
theorem zNf (w:World)(X:Nat->Prop)(S D:Nat)(sh:Sh)(mv dv av pv:Value)(rv:Nat->Value)(ps:Nat->List Nat)(dp:Nat->Nat)(h:Sw w X S D sh mv dv av pv rv ps dp)(ok:ShOk sh D)(nm s:ByteArray)(hs:s.size<=1000)(hnz:nm.size<=1000)(A B:ByteArray)(K:Bool)(hA:A.size<=1000)(hB:B.size<=1000)(hcut:∀w,Calls prog 86 #[.string s,.int .u8 32] w fun e w'=>e=.returned (.tuple #[.string A,.string B,.bool K])∧Grew w w')(hBs:B.size<=s.size)(hK:K=true)(k:Nat)(hk:sh.modes.length=k+1)(hrb:(sh.mode k).2.length<=1000000)(h8:¬8<=sh.acts.length)(hnm:xG nm=true)(ac:Ac)(hac:zA4 A=ac)(hok:ac.ok=true)(t:Tr)(hrm:vH B sh.defs=some t):
  Calls prog 122 #[.pointer (some ⟨S,0,none⟩),.string nm,.string s] w (LnAns w S (D+2+4*s.size) (some (((sh.addAct ac.act).addPush ac.name).addRule k t))):=by
 obtain⟨am,cm,hmv⟩:=zE h.mOwn;obtain⟨ad,cd,hdv⟩:=zE h.dOwn;obtain⟨aa,ca,hav⟩:=zE h.aOwn;obtain⟨ap,cp,hpv⟩:=zE h.pOwn;subst hmv hdv hav hpv;have hlS:S<w.heap.size:=h.lt;have HLS:Hid (∀w1,Grew w w1->Keep S S w w1):=fun w1 hk=>hk.lower (Nat.le_of_lt hlS) (Nat.le_of_lt hlS);have HSG:Hid (∀w1,Grew w w1->Sw w1 X S D sh (.slice am sh.modes.length cm) (.slice ad sh.defs.length cd) (.slice aa sh.acts.length ca) (.slice ap sh.pushed.length cp) rv ps dp):=fun w1 hk=>h.grown hk;have HTR:=vl fun w1 w2=>zBr (w:=w) (w1:=w1) (w2:=w2);have HCU:=vl (hcut w);have OK:=vl ok;have hmb:=ok.modes;have hab:=ok.acts;subst hK;have j0:¬((k:Int))<0:=by omega
 have HEK:Hid (((sh.modes.length:Int)-1)=(k:Int)):=by show _=_;omega
 have hkl:k<sh.modes.length:=by omega
 have i2:(k:Int)<(sh.modes.length:Int):=by omega
 have HPO:Hid (0<sh.modes.length):=by show 0<_;omega
 clear hk;obtain⟨i0,hi0,hz0,hz1,hz2⟩:=info_parts yH;have j8:(sh.acts.length:Int)<8:=by omega
 clear h8;have HNM:Hid (∀w,Calls prog 160 #[.string nm] w fun e w'=>e=.returned (.bool true)∧w'=w):=fun w=>by have:=vF w nm (by omega);rw[hnm] at this;exact this
 have HAC:Hid (∀w,Calls prog 163 #[.string A] w fun e w'=>e=.returned (.tuple #[.int .i64 (ac.act:Int),.string ac.name,.bool true])∧Grew w w'):=fun w=>by have:=zCp w A (by omega);rw[hac,hok] at this;exact this
 have HRD:Hid (∀w2,Grew w w2->Calls prog 162 #[.string B,.slice ad sh.defs.length cd] w2 (zHm w2 X (D+2+4*B.size) (some t))):=fun w2 hk=>by have:=jL w2 X B _ (by omega) D sh.defs ((HSG.out w2 hk).defsIn OK.out.names) (by have:=OK.out.defs;omega) OK.out.trees;rw[hrm] at this;exact this
 clear hnm hac hok hrm;clear h hlS hcut ok;go_in;apply wp_cut;intro K0 J;go_wp2;apply J.out;clear J;apply wp_cut;intro K0 J;go_wp2_with (first|(go_at_call 86;refine HCU.out.mono ?_;rintro e w1 ⟨rfl,hk1⟩;have c0b:w1.cell? ⟨S,0,none⟩=some (.slice am sh.modes.length cm):=(HSG.out w1 hk1).cells.1;have c2b:w1.cell? ⟨S,2,none⟩=some (.slice aa sh.acts.length ca):=(HSG.out w1 hk1).cells.2.2.1))
 apply J.out;clear J;apply wp_cut;intro K0 J;go_wp2;apply J.out;clear J;rw[HEK.out];apply wp_cut;intro K0 J;go_wp2_with (first|(go_at_call 160;refine(HNM.out _).mono ?_;rintro e w9 ⟨rfl,hw9⟩;have hw8:=hw9.symm;subst hw8))
 apply J.out;clear J;apply wp_cut;intro K0 J;go_wp2_with (first|(go_at_call 163;refine(HAC.out w1).mono ?_;rintro e w2 ⟨rfl,hk2⟩;have HK2:=vl <| HTR.out _ _ hk1 hk2;have d1:w2.cell? ⟨S,1,none⟩=some (.slice ad sh.defs.length cd):=(HSG.out w2 HK2.out).cells.2.1))
 apply J.out;clear J;clear c0b c2b hk1 hk2;apply wp_cut;intro K0 J;go_wp2_with (first|(go_at_call 162;refine(HRD.out w2 HK2.out).mono ?_;rintro e w3 ⟨hk3,p,rfl,ht3⟩))
 apply J.out;clear J;apply wp_cut;intro K0 J;go_wp2;apply J.out;clear J;obtain⟨Y,H3⟩:∃Y,Hid (Sw w3 Y S (D+2+4*s.size) sh (.slice am sh.modes.length cm) (.slice ad sh.defs.length cd) (.slice aa sh.acts.length ca) (.slice ap sh.pushed.length cp) rv ps dp∧TreeIn Y w3 (D+2+4*s.size) p t∧Keep S S w w3):=by
  refine⟨_,((HSG.out w2 HK2.out).more hk3).deep (by omega),(TreeIn.deep ht3 (by omega)).mono fun i hi hx=>?_,HLS.out _ (HTR.out _ _ HK2.out hk3)⟩;rcases hx with hx|hx
  ·exact .inl hx.1
  ·exact .inr ⟨hx,hi⟩
 clear d1 hk3 ht3;obtain⟨-,-,xx,-,xf⟩:=H3.out.1.cells;have xf2:=xf 2;have OW:w3.ownsRow (S+1) 3 1 (.slice aa sh.acts.length ca) sh.acts.length (sh.acts.map fun x:Nat=>.int .i64 (x:Int)):=H3.out.1.aOwn;have hlt1:S<w3.heap.size:=H3.out.1.lt;have HNP:=vl <| zL H3.out.1.aOwn H3.out.1.blk (by decide);clear xf;apply wp_cut;intro K0 J;go_wp2_with (first|(at_builtin;refine wpList_append_lies _ rfl _ _ 45 rfl (S+1) 3 i0 (.int .i64 0) 1 8 underlying45 hi0 hz0 hz1 hz2 rfl (by decide) _ _ _ rfl (OW.alloc _) ⟨w3.heap.size,0,none⟩ 1 1 [.int .i64 (ac.act:Int)] rfl rfl (cell_one_new _ _ _) (by intro u hu;simp at hu;subst hu;rfl) (by decide) (by unfold maxLen;omega) (by omega) (by simp;omega) _ rfl ?_;intro gg cap w4 hown hgrow hat hlt;have hPB:=hgrow.block S (by simp;omega) HNP.out;have xxb:w4.cell? ⟨S,2,none⟩=some (.slice aa sh.acts.length ca):=(cell?_of_block hPB).trans ((cell?_alloc_past _ _ _ hlt1).trans xx);have xfb:w4.frozen? ⟨S,2,none⟩=false:=(frozen?_of_block hPB).trans ((frozen?_alloc_past _ _ _ hlt1).trans xf2)))
 apply J.out;clear J;obtain⟨w5,hw5,v5,H5⟩:∃w5,w5=w4.setCell ⟨S,2,none⟩ (.slice (some ⟨gg,0,none⟩) (sh.acts.length+1) cap)∧∃v5,Hid (Sw w5 Y S (D+2+4*s.size) (sh.addAct ac.act) (.slice am sh.modes.length cm) (.slice ad sh.defs.length cd) v5 (.slice ap sh.pushed.length cp) rv ps dp∧TreeIn Y w5 (D+2+4*s.size) p t∧Keep S S w w5):=by
  obtain⟨q1,q2⟩:=H3.out.1.appAct (x:=ac.act) hown hgrow (by rcases hat with ha|ha;exact .inl ha;right;rw[ha];simp);exact⟨_,rfl,_,q1,vV q2 H3.out.2.1 (fun q hq=>⟨Nat.ne_of_gt (H3.out.1.xlt q hq).1,(H3.out.1.xm q hq).2.2.1⟩),H3.out.2.2.trans ((q2.keep H3.out.1.aOwn H3.out.1.lt).lower (Nat.le_succ S) (Nat.le_refl S))⟩
 rw[<-hw5];clear hw5 hown hgrow hat hlt hPB xxb xfb OW HNP hlt1 xx xf2 H3;obtain⟨-,-,-,xx,xf⟩:=H5.out.1.cells;have xf2:=xf 3;have OW:w5.ownsRow (S+1) 9 1 (.slice ap sh.pushed.length cp) sh.pushed.length (sh.pushed.map fun x=>.string x):=H5.out.1.pOwn;have hlt1:S<w5.heap.size:=H5.out.1.lt;have HNP:=vl <| zL H5.out.1.pOwn H5.out.1.blk (by decide);have hpb:sh.pushed.length<=8:=by have:=OK.out.same;omega
 clear xf;obtain⟨i0,hi0,hz0,hz1,hz2⟩:=info_parts zJQ;apply wp_cut;intro K0 J;go_wp2_with (first|(at_builtin;refine wpList_append_lies _ rfl _ _ 108 rfl (S+1) 9 i0 (.string ⟨#[]⟩) 1 16 underlying108 hi0 hz0 hz1 hz2 rfl (by decide) _ _ _ rfl (OW.alloc _) ⟨w5.heap.size,0,none⟩ 1 1 [.string ac.name] rfl rfl (cell_one_new _ _ _) (by intro u hu;simp at hu;subst hu;rfl) (by decide) (by unfold maxLen;omega) (by omega) (by simp;omega) _ rfl ?_;intro gg cap w4 hown hgrow hat hlt;have hPB:=hgrow.block S (by simp;omega) HNP.out;have xxb:w4.cell? ⟨S,3,none⟩=some (.slice ap sh.pushed.length cp):=(cell?_of_block hPB).trans ((cell?_alloc_past _ _ _ hlt1).trans xx);have xfb:w4.frozen? ⟨S,3,none⟩=false:=(frozen?_of_block hPB).trans ((frozen?_alloc_past _ _ _ hlt1).trans xf2)))
 apply J.out;clear J;obtain⟨w7,hw7,v7,H7⟩:∃w7,w7=w4.setCell ⟨S,3,none⟩ (.slice (some ⟨gg,0,none⟩) (sh.pushed.length+1) cap)∧∃v7,Hid (Sw w7 Y S (D+2+4*s.size) ((sh.addAct ac.act).addPush ac.name) (.slice am sh.modes.length cm) (.slice ad sh.defs.length cd) v5 v7 rv ps dp∧TreeIn Y w7 (D+2+4*s.size) p t∧Keep S S w w7):=by
  obtain⟨q1,q2⟩:=H5.out.1.appPush (x:=ac.name) hown hgrow (by rcases hat with ha|ha;exact .inl ha;right;rw[ha];simp);exact⟨_,rfl,_,q1,vV q2 H5.out.2.1 (fun q hq=>⟨Nat.ne_of_gt (H5.out.1.xlt q hq).1,(H5.out.1.xm q hq).2.2.2⟩),H5.out.2.2.trans ((q2.keep H5.out.1.pOwn H5.out.1.lt).lower (Nat.le_succ S) (Nat.le_refl S))⟩
 rw[<-hw7];clear hw7 hown hgrow hat hlt hPB xxb xfb OW HNP hlt1 xx xf2 H5 hi0 hz0 hz1 hz2;obtain⟨i1,hi1,hy0,hy1,hy2⟩:=info_parts zDR;obtain⟨mg,mc,hmv2,-,hmgl,-,-,hcl,hfz⟩:=qH H7.out.1.mOwn (show 0<((sh.addAct ac.act).addPush ac.name).modes.length from HPO.out);injection hmv2 with ea eb ec;subst ea ec;clear eb;obtain⟨ra,rc,hrv⟩:=zE (H7.out.1.rOwn k hkl);have y1:w7.cell? ⟨mg,k*2+1,none⟩=some (.slice ra (sh.mode k).2.length rc):=by
  have e2:=(zA7 (fun i=>.string (((sh.addAct ac.act).addPush ac.name).mode i).1) rv sh.modes.length k hkl).2;rw[hrv] at e2;exact hcl _ _ e2
 have yf:=hfz (k*2+1);obtain⟨x0,-,-,-,-⟩:=H7.out.1.cells;have OR:=H7.out.1.rOwn k hkl;rw[hrv] at OR;have OW:w7.ownsRow (S+1) 158 1 (.slice ra (sh.mode k).2.length rc) (sh.mode k).2.length (xT (ps k)):=OR;have HNM2:=vl <| zY H7.out.1.mOwn OW (by decide) mg rfl;have HRV:Hid (rv k=.slice ra (sh.mode k).2.length rc):=hrv;have hrl:(sh.mode k).2.length<=1000000:=hrb;have hlt7:mg<w7.heap.size:=hmgl;have hS7:S+1<=w7.heap.size:=H7.out.1.lt;clear hcl hfz hrv OR hmgl;generalize hrL:(sh.mode k).2.length=rl at *;have hSr:some S≠(Value.slice ra rl rc).ownBlock:=fun e=>by have:=(OW.lt S e.symm).1;omega
 have HSR:Hid (some S≠(Value.slice ra rl rc).ownBlock):=hSr;have hS8:S<w7.heap.size:=by omega
 clear hSr;have HFIN:Hid (∀gg cap w8,w8.ownsRow (S+1) 158 1 (.slice (some ⟨gg,0,none⟩) (rl+1) cap) (rl+1) (xT (ps k)++[.pointer (some ⟨p,0,none⟩)])->(w7.drew.alloc (Obj.cells #[.pointer (some ⟨p,0,none⟩)] 158)).grownBy w8 (Value.slice ra rl rc).ownBlock->((Value.slice ra rl rc).ownBlock=some gg∨w7.heap.size<=gg)->SwIs (w8.setCell ⟨mg,k*2+1,none⟩ (.slice (some ⟨gg,0,none⟩) (rl+1) cap)) S (D+2+4*s.size) (((sh.addAct ac.act).addPush ac.name).addRule k t)∧Keep S S w (w8.setCell ⟨mg,k*2+1,none⟩ (.slice (some ⟨gg,0,none⟩) (rl+1) cap))):=fun gg cap w8 ho hg ha=>by
  subst hrL;rw[<-HRV.out] at hg ha;have hmS:=(H7.out.1.mOwn.lt mg rfl).1;obtain⟨q1,q2⟩:=Sw.appRule (w:=w7.drew) (sh:=(sh.addAct ac.act).addPush ac.name) (H7.out.1.grown (Keep.drew _)) hkl (H7.out.2.1.go ⟨rfl,rfl,lQ,fun _ _ _=>rfl⟩) ho hg ha;refine⟨⟨Y,_,_,v5,v7,_,_,dp,q1⟩,H7.out.2.2.trans ⟨q2.os,q2.output,q2.size,fun j h1 _=>?_⟩⟩;exact(q2.block j (by show j<w7.heap.size;omega) (by omega) fun e=>by have:=((H7.out.1.rOwn k hkl).lt j e.symm).1;omega).1
 apply wp_cut;intro K0 J;go_region_law ((refine step_append_lies _ (by rfl) (.tmp 100) (.tmp 102) 118 (by rfl) (S+1) 158 i1 _ 1 8 underlying118 hi1 hy0 hy1 hy2 rfl (by decide) (.slice ra rl rc) rl (xT (ps k)) (by simp[Act.eval,Act.put]) ((OW.alloc _).drew) ⟨w7.heap.size,0,none⟩ 1 1 [.pointer (some ⟨p,0,none⟩)] (by simp[Act.eval,Act.put]) (by rfl) (news_of_block (cs:=#[.pointer (some ⟨p,0,none⟩)]) (t:=158) (fr:=(0,0)) (gG w7 _)) (by simp[Value.oneCell']) (by decide) (by unfold maxLen;omega) (by omega) (by simp;omega) (w7.heap.size+1) (by simp) ?_;intro gg cap w8 hown hgrow hat hlt;have hPB:=hgrow.block mg (by simp;omega) HNM2.out;have y1b:w8.cell? ⟨mg,k*2+1,none⟩=some (.slice ra rl rc):=(cell?_of_block hPB).trans ((cell?_alloc_past _ _ _ hlt7).trans y1);have yfb:w8.frozen? ⟨mg,k*2+1,none⟩=false:=(frozen?_of_block hPB).trans ((frozen?_alloc_past _ _ _ hlt7).trans yf);have hPS:=hgrow.block S (by simp;omega) HSR.out;have x0b:w8.cell? ⟨S,0,none⟩=some (.slice (some ⟨mg,0,none⟩) sh.modes.length cm):=(cell?_of_block hPS).trans ((cell?_alloc_past _ _ _ hS8).trans x0)))
 all_goals
  obtain⟨w9,hw9,H9⟩:∃w9,w9=w8.setCell ⟨mg,k*2+1,none⟩ (.slice (some ⟨gg,0,none⟩) (rl+1) cap)∧Hid (SwIs w9 S (D+2+4*s.size) (((sh.addAct ac.act).addPush ac.name).addRule k t)∧Keep S S w w9):=⟨_,rfl,HFIN.out gg cap w8 hown hgrow (by rcases hat with ha|ha;exact .inl ha;right;show w7.heap.size<=gg;omega)⟩
  rw[<-hw9];clear hw9 hown hgrow hat hlt hPB y1b yfb hPS x0b;show K0 _ _;apply J.out;clear J;go_wp2;go_ret;exact⟨H9.out.2,rfl,H9.out.1⟩
theorem zEZ (w:World)(X:Nat->Prop)(S D:Nat)(sh:Sh)(mv dv av pv:Value)(rv:Nat->Value)(ps:Nat->List Nat)(dp:Nat->Nat)(h:Sw w X S D sh mv dv av pv rv ps dp)(ok:ShOk sh D)(hrb:∀k,k<sh.modes.length->(sh.mode k).2.length<=1000000)(nm s:ByteArray)(hs:s.size<=1000)(hnz:nm.size<=1000):
  Calls prog 122 #[.pointer (some ⟨S,0,none⟩),.string nm,.string s] w (LnAns w S (D+2+4*s.size) (qQ sh nm s)):=by
 have hA:=lY (zDW s 32) hs;have hB:=lY (jA s 32) hs;have hcut:∀w,Calls prog 86 #[.string s,.int .u8 32] w fun e w'=>e=.returned (.tuple #[.string (yM s 32),.string (qF s 32),.bool (jW s 32)])∧Grew w w':=fun w=>zCl w s (by omega) 32;have no:=zHQ w X S D sh mv dv av pv rv ps dp h ok nm s hs hnz _ _ _ hA hB hcut;unfold qQ;cases hK:jW s 32 with
 |false=>exact no fun g=>by rw[hK] at g;exact Bool.noConfusion g.1
 |true=>
 rw[if_pos rfl];by_cases h0:sh.modes.length=0
 ·rw[if_pos h0]
  exact no fun g=>g.2.1 h0
 rw[if_neg h0];by_cases h8:8<=sh.acts.length
 ·rw[if_pos h8]
  exact no fun g=>g.2.2.1 h8
 rw[if_neg h8];cases hnm:xG nm with
 |false=>exact no fun g=>by rw[hnm] at g;exact Bool.noConfusion g.2.2.2.1
 |true=>
 rw[if_pos rfl];cases hok:(zA4 (yM s 32)).ok with
 |false=>exact no fun g=>by rw[hok] at g;exact Bool.noConfusion g.2.2.2.2.1
 |true=>
  rw[if_pos rfl];cases hrm:vH (qF s 32) sh.defs with
  |none=>exact no fun g=>by obtain⟨t,ht⟩:=g.2.2.2.2.2;rw[hrm] at ht;cases ht
  |some t=>exact zNf w X S D sh mv dv av pv rv ps dp h ok nm s hs hnz _ _ _ hA hB hcut (jA s 32) hK (sh.modes.length-1) (by omega) (hrb _ (by omega)) h8 hnm _ rfl hok t hrm
end
def xV (sh:Sh)(s:ByteArray):Option Sh:=if jW s 32 then(if eqS (yM s 32) ⟨#[109,111,100,101]⟩ then yG sh (qF s 32) else if eqS (yM s 32) ⟨#[108,101,116]⟩ then vP sh (qF s 32) else qQ sh (yM s 32) (qF s 32)) else none
def vR (sh:Sh):Prop:=∀i,i<sh.modes.length->(sh.mode i).2.length<=sh.acts.length
theorem SwIs.deep {w:World}{S D E:Nat}{sh:Sh}(h:SwIs w S D sh)(he:D<=E):SwIs w S E sh:=by
 obtain⟨X,mv,dv,av,pv,rv,ps,dp,h⟩:=h;exact⟨X,mv,dv,av,pv,rv,ps,dp,h.deep he⟩
theorem LnAns.deep {w w':World}{S D E:Nat}{a:Option Sh}{e:Ending}(h:LnAns w S D a e w')(he:D<=E):LnAns w S E a e w':=by
 refine⟨h.1,?_⟩;cases a with
 |none=>exact h.2
 |some sh=>exact⟨h.2.1,h.2.2.deep he⟩
theorem LnAns.from {w w1 w':World}{S D:Nat}{a:Option Sh}{e:Ending}(h:LnAns w1 S D a e w')(hk:Keep S S w w1):LnAns w S D a e w':=⟨hk.trans h.1,h.2⟩
theorem zE1 (w:World)(X:Nat->Prop)(S D:Nat)(sh:Sh)(mv dv av pv:Value)(rv:Nat->Value)(ps:Nat->List Nat)(dp:Nat->Nat)(h:Sw w X S D sh mv dv av pv rv ps dp)(ok:ShOk sh D)(few:vR sh)(s:ByteArray)(hs:s.size<=1000):
  Calls prog 87 #[.pointer (some ⟨S,0,none⟩),.string s] w (LnAns w S (D+2+4*s.size) (xV sh s)):=by
 have hA:=lY (zDW s 32) hs;have hBs:=jA s 32;have hB:=lY hBs hs;have HCU:=vl <| zCl w s (by omega) 32;have HM:Hid (xV sh s=if jW s 32 then(if eqS (yM s 32) ⟨#[109,111,100,101]⟩ then yG sh (qF s 32) else if eqS (yM s 32) ⟨#[108,101,116]⟩ then vP sh (qF s 32) else qQ sh (yM s 32) (qF s 32)) else none):=rfl;have hlS:=h.lt;have HLS:Hid (∀w1,Grew w w1->Keep S S w w1):=fun w1 hk=>hk.lower (Nat.le_of_lt hlS) (Nat.le_of_lt hlS);generalize xV sh s=V at *;generalize jW s 32=K at *;have HMO:Hid (∀w1,Grew w w1->Calls prog 120 #[.pointer (some ⟨S,0,none⟩),.string (qF s 32)] w1 (LnAns w S (D+2+4*s.size) (yG sh (qF s 32)))):=fun w1 hk=>(zE0 w1 X S D sh _ _ _ _ rv ps dp (h.grown hk) (by have:=ok.modes;omega) (qF s 32) (by omega)).mono fun e w2 h2=>(h2.from (HLS.out w1 hk)).deep (by omega);have HLE:Hid (∀w1,Grew w w1->Calls prog 121 #[.pointer (some ⟨S,0,none⟩),.string (qF s 32)] w1 (LnAns w S (D+2+4*s.size) (vP sh (qF s 32)))):=fun w1 hk=>(zFQ w1 X S D sh _ _ _ _ rv ps dp (h.grown hk) ok (qF s 32) hB).mono fun e w2 h2=>(h2.from (HLS.out w1 hk)).deep (by omega);have HRU:Hid (∀w1,Grew w w1->Calls prog 122 #[.pointer (some ⟨S,0,none⟩),.string (yM s 32),.string (qF s 32)] w1 (LnAns w S (D+2+4*s.size) (qQ sh (yM s 32) (qF s 32)))):=fun w1 hk=>(zEZ w1 X S D sh _ _ _ _ rv ps dp (h.grown hk) ok (fun k hkk=>by have:=few k hkk;have:=ok.acts;omega) (yM s 32) (qF s 32) hB hA).mono fun e w2 h2=>(h2.from (HLS.out w1 hk)).deep (by omega);generalize yM s 32=A at *;generalize qF s 32=B at *;have hm:(⟨#[109,111,100,101]⟩:ByteArray).toList=[109,111,100,101]:=by rw[ByteArray.toList_eq]
 have hl:(⟨#[108,101,116]⟩:ByteArray).toList=[108,101,116]:=by rw[ByteArray.toList_eq]
 cases K with
 |false=>
  have HV:=vl HM.out;rw[HV.out];go_in;go_wp2_with (first|(go_at_call 86;refine HCU.out.mono ?_;rintro e w1 ⟨rfl,hk1⟩))
  go_ret;exact⟨HLS.out _ hk1,rfl⟩
 |true=>
 cases e1:eqS A ⟨#[109,111,100,101]⟩ with
 |true=>
  rw[e1] at HM;have HV:=vl HM.out;have f1:(A.toList==[109,111,100,101])=true:=by rw[<-hm];exact e1
  rw[HV.out];generalize yG sh B=R at *;go_in;go_wp2_with (first|(go_at_call 86;refine HCU.out.mono ?_;rintro e w1 ⟨rfl,hk1⟩)|(go_at_call 120;refine(HMO.out w1 hk1).mono ?_;intro e w2 h2;obtain⟨v2,hv2⟩:∃v2,e=.returned (.bool v2):=(by have:=h2.2;cases R with|none=>exact⟨false,this⟩|some x=>exact⟨true,this.1⟩);subst hv2))
  go_ret;exact h2
 |false=>
 have f1:(A.toList==[109,111,100,101])=false:=by rw[<-hm];exact e1
 rw[e1] at HM;cases e2:eqS A ⟨#[108,101,116]⟩ with
 |true=>
  rw[e2] at HM;have HV:=vl HM.out;have f2:(A.toList==[108,101,116])=true:=by rw[<-hl];exact e2
  rw[HV.out];generalize vP sh B=R at *;go_in;go_wp2_with (first|(go_at_call 86;refine HCU.out.mono ?_;rintro e w1 ⟨rfl,hk1⟩)|(go_at_call 121;refine(HLE.out w1 hk1).mono ?_;intro e w2 h2;obtain⟨v2,hv2⟩:∃v2,e=.returned (.bool v2):=(by have:=h2.2;cases R with|none=>exact⟨false,this⟩|some x=>exact⟨true,this.1⟩);subst hv2))
  go_ret;exact h2
 |false=>
  rw[e2] at HM;have HV:=vl HM.out;have f2:(A.toList==[108,101,116])=false:=by rw[<-hl];exact e2
  rw[HV.out];generalize qQ sh A B=R at *;go_in;go_wp2_with (first|(go_at_call 86;refine HCU.out.mono ?_;rintro e w1 ⟨rfl,hk1⟩)|(go_at_call 122;refine(HRU.out w1 hk1).mono ?_;intro e w2 h2;obtain⟨v2,hv2⟩:∃v2,e=.returned (.bool v2):=(by have:=h2.2;cases R with|none=>exact⟨false,this⟩|some x=>exact⟨true,this.1⟩);subst hv2))
  go_ret;exact h2
end Go.Proofs.YtbjcfkdnjaiclaaGreat
