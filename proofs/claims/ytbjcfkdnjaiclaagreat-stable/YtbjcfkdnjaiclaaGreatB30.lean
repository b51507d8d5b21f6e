import Derived.Deep.DrawnRows
import Derived.Deep.RegionLaw
import Derived.Test.YtbjcfkdnjaiclaaGreatB0
import Derived.Test.YtbjcfkdnjaiclaaGreatB29
/- Parts of the proof, in order. -/
set_option linter.unusedVariables false
set_option linter.unusedSimpArgs false
set_option maxHeartbeats 4000000
set_option maxRecDepth 100000
namespace Go.Proofs.YtbjcfkdnjaiclaaGreat
open Go.RowKit Go.Proofs.Tryz Go.World
theorem zMc:(prog.info? 233).map (fun i=>(i.zero,i.size,i.bytes))=some (some (.agg #[.string ⟨#[]⟩,.pointer none]),2,24):=by kernel_rfl
structure ShOk (sh:Sh)(D:Nat):Prop where
 modes:sh.modes.length<=3
 defs:sh.defs.length<=4
 acts:sh.acts.length<=8
 same:sh.pushed.length=sh.acts.length
 names:∀i,i<sh.defs.length->(sh.defn i).1.size<=6
 trees:zA0 D sh.defs
 rules:∀i,i<sh.modes.length->∀t∈(sh.mode i).2,TrOk D t
theorem zC4 {w:World}{H e z n:Nat}{v:Value}{xs:List Value}(h:w.ownsRow H e z v n xs):∃ao cap,v=.slice ao n cap∧n<=cap∧cap<=maxLen:=by
 rcases h.2 with⟨hv,h0⟩|⟨g,cap,cur,hv,hH,hh,h1,h2,-⟩
 ·exact⟨none,0,by rw[hv,h0],by omega,by unfold maxLen;omega⟩
 ·exact⟨_,cap,hv,h1,h2⟩
theorem Sw.defsIn {w:World}{X:Nat->Prop}{S D:Nat}{sh:Sh}{mv dv av pv:Value}{rv:Nat->Value}{ps:Nat->List Nat}{dp:Nat->Nat}(h:Sw w X S D sh mv dv av pv rv ps dp)(hn:∀i,i<sh.defs.length->(sh.defn i).1.size<=6):DefsIn w.heap.size X w D dv sh.defs:=by
 obtain⟨ao,cap,hv,h1,h2⟩:=zC4 h.dOwn;refine⟨ao,cap,hv,h1,h2,fun i hi=>?_⟩;obtain⟨g,cap2,hv2,-,hg,-,-,hc,-⟩:=qG h.dOwn (by omega);rw[hv] at hv2;injection hv2 with e1 e2 e3;obtain⟨p1,p2⟩:=zA2 (fun i=>.string (sh.defn i).1) (fun i=>.pointer (some ⟨dp i,0,none⟩)) sh.defs.length i hi;refine⟨g,0,dp i,e1,hg,hg,?_,?_,h.dTree i hi,Nat.le_trans (hn i hi) (by omega)⟩
 ·rw[Nat.zero_add];exact hc _ _ p1
 ·rw[Nat.zero_add];exact hc _ _ p2
theorem zBm {w w1 w2:World}(h1:Grew w w1)(h2:Grew w1 w2):Grew w w2:=h1.trans (h2.lower h1.size h1.size)
def vN (sh:Sh)(s:ByteArray):Option Sh:=
 if jS s 32 then if 4<=sh.defs.length then none else if sh.hasDefB (yM s 32) then none else if xG (yM s 32) then(match vG (qE s 32) sh.defs with
  |none=>none
  |some t=>some (sh.addDef (yM s 32) t)) else none else none
theorem zDM (s:ByteArray)(c:Nat):(yM s c).size<=s.size:=by
 unfold yM;split
 ·rw[ByteArray.size_extract];omega
 ·exact Nat.le_refl _
theorem vX (s:ByteArray)(c:Nat):(qE s c).size<=s.size:=by
 unfold qE;split
 ·rw[ByteArray.size_extract];omega
 ·exact Nat.zero_le _
theorem zLi (w:World)(X:Nat->Prop)(S D:Nat)(sh:Sh)(mv dv av pv:Value)(rv:Nat->Value)(ps:Nat->List Nat)(dp:Nat->Nat)(h:Sw w X S D sh mv dv av pv rv ps dp)(ok:ShOk sh D)(s:ByteArray)(hs:s.size<=1000)(A B:ByteArray)(K:Bool)(hA:A.size<=1000)(hB:B.size<=1000)(hcut:∀w,Calls prog 86 #[.string s,.int .u8 32] w fun e w'=>e=.returned (.tuple #[.string A,.string B,.bool K])∧Grew w w')(hno:¬(K=true∧¬4<=sh.defs.length∧sh.hasDefB A=false∧xG A=true∧∃t,vG B sh.defs=some t)):
  Calls prog 121 #[.pointer (some ⟨S,0,none⟩),.string s] w (LnAns w S (D+2+4*s.size) (none)):=by
 obtain⟨ao,cap0,hdv⟩:=zE h.dOwn;subst hdv;have hlS:=h.lt;have HLS:Hid (∀w1,Grew w w1->Keep S S w w1):=fun w1 hk=>hk.lower (Nat.le_of_lt hlS) (Nat.le_of_lt hlS);have HSG:Hid (∀w1,Grew w w1->Sw w1 X S D sh mv (.slice ao sh.defs.length cap0) av pv rv ps dp):=fun w1 hk=>h.grown hk;have HTR:=vl fun w1 w2=>zBm (w:=w) (w1:=w1) (w2:=w2);have HCU:=vl (hcut w);have OK:=vl ok;have j4:=Nat.lt_or_ge sh.defs.length 4;have HHD:=vl fun(w1:World) (hk:Grew w w1)=>zDc w1 X S D sh _ _ av pv rv ps dp (HSG.out w1 hk) (by have:=OK.out.defs;omega) A;have HNM:=vl fun w=>vE w A (by omega);have HRD:=vl fun(w2:World) (hk:Grew w w2)=>jH w2 X B (.slice ao sh.defs.length cap0) (by omega) D sh.defs ((HSG.out w2 hk).defsIn OK.out.names) (by have:=OK.out.defs;omega) OK.out.trees;go_in;rcases K with _|_;rotate_left;rcases j4 with j4|j4;rcases hhd:sh.hasDefB A with _|_;rcases hnm:xG A with _|_;rotate_left;rcases hrm:vG B sh.defs with _|t;rotate_left
 ·exact absurd ⟨rfl,by omega,hhd,hnm,t,hrm⟩ hno
 all_goals
  try rw[hhd] at HHD
  try rw[hnm] at HNM
  try rw[hrm] at HRD
  try have i4:(sh.defs.length:Int)<4:=by omega
  try have i4:(4:Int)<=(sh.defs.length:Int):=by omega
  go_wp2_with (first|(go_at_call 86;refine HCU.out.mono ?_;rintro e w1 ⟨rfl,hk1⟩;have c1b:=(HSG.out w1 hk1).cells.2.1)|(go_at_call 161;refine(HHD.out w1 hk1).mono ?_;rintro e w2 ⟨rfl,hk2⟩;have HK2:=vl (HTR.out _ _ hk1 hk2);have d1:=(HSG.out w2 HK2.out).cells.2.1)|(go_at_call 160;refine(HNM.out _).mono ?_;rintro e w9 ⟨rfl,hw9⟩;have hw8:=hw9.symm;subst hw8)|(go_at_call 162;refine(HRD.out w2 HK2.out).mono ?_;rintro e w3 ⟨hk3,rfl⟩))
  go_ret
  first|exact⟨HLS.out _ (HTR.out _ _ HK2.out hk3),rfl⟩|exact⟨HLS.out _ HK2.out,rfl⟩|exact⟨HLS.out _ hk1,rfl⟩
theorem zNe (w:World)(X:Nat->Prop)(S D:Nat)(sh:Sh)(mv dv av pv:Value)(rv:Nat->Value)(ps:Nat->List Nat)(dp:Nat->Nat)(h:Sw w X S D sh mv dv av pv rv ps dp)(ok:ShOk sh D)(s:ByteArray)(hs:s.size<=1000)(A B:ByteArray)(K:Bool)(hA:A.size<=1000)(hB:B.size<=1000)(hcut:∀w,Calls prog 86 #[.string s,.int .u8 32] w fun e w'=>e=.returned (.tuple #[.string A,.string B,.bool K])∧Grew w w')(hBs:B.size<=s.size)(hK:K=true)(h4:¬4<=sh.defs.length)(hhd:sh.hasDefB A=false)(hnm:xG A=true)(t:Tr)(hrm:vG B sh.defs=some t):
  Calls prog 121 #[.pointer (some ⟨S,0,none⟩),.string s] w (LnAns w S (D+2+4*s.size) (some (sh.addDef A t))):=by
 obtain⟨ao,cap0,hdv⟩:=zE h.dOwn;subst hdv;have hlS:=h.lt;have HLS:Hid (∀w1,Grew w w1->Keep S S w w1):=fun w1 hk=>hk.lower (Nat.le_of_lt hlS) (Nat.le_of_lt hlS);have HSG:Hid (∀w1,Grew w w1->Sw w1 X S D sh mv (.slice ao sh.defs.length cap0) av pv rv ps dp):=fun w1 hk=>h.grown hk;have HTR:=vl fun w1 w2=>zBm (w:=w) (w1:=w1) (w2:=w2);have HCU:=vl (hcut w);have OK:=vl ok;subst hK;obtain⟨i0,hi0,hz0,hz1,hz2⟩:=info_parts zMc;have j4:(sh.defs.length:Int)<4:=by omega
 have HHD:Hid (∀w1,Grew w w1->Calls prog 161 #[.pointer (some ⟨S,0,none⟩),.string A] w1 fun e w'=>e=.returned (.bool false)∧Grew w1 w'):=fun w1 hk=>by have:=zDc w1 X S D sh _ _ av pv rv ps dp (HSG.out w1 hk) (by have:=OK.out.defs;omega) A;rw[hhd] at this;exact this
 have HNM:Hid (∀w,Calls prog 160 #[.string A] w fun e w'=>e=.returned (.bool true)∧w'=w):=fun w=>by have:=vE w A (by omega);rw[hnm] at this;exact this
 have HRD:Hid (∀w2,Grew w w2->Calls prog 162 #[.string B,.slice ao sh.defs.length cap0] w2 (zG7 w2 X (D+2+4*B.size) (some t))):=fun w2 hk=>by have:=jH w2 X B _ (by omega) D sh.defs ((HSG.out w2 hk).defsIn OK.out.names) (by have:=OK.out.defs;omega) OK.out.trees;rw[hrm] at this;exact this
 go_in;refine wp_cut ?_;intro K0 HK0;go_wp2;refine HK0.out _ _ ?_;refine wp_cut ?_;intro K0 HK0;go_wp2_with (first|(go_at_call 86;refine HCU.out.mono ?_;rintro e w1 ⟨rfl,hk1⟩;have c1b:=(HSG.out w1 hk1).cells.2.1))
 refine HK0.out _ _ ?_;refine wp_cut ?_;intro K0 HK0;go_wp2_with (first|(go_at_call 161;refine(HHD.out w1 hk1).mono ?_;rintro e w2 ⟨rfl,hk2⟩)|(go_at_call 160;refine(HNM.out _).mono ?_;rintro e w9 ⟨rfl,hw9⟩;have hw8:=hw9.symm;subst hw8))
 refine HK0.out _ _ ?_;have HK2:=vl <| HTR.out _ _ hk1 hk2;have d1:=(HSG.out w2 HK2.out).cells.2.1;refine wp_cut ?_;intro K0 HK0;go_wp2_with (first|(go_at_call 162;refine(HRD.out w2 HK2.out).mono ?_;rintro e w3 ⟨hk3,p,rfl,ht3⟩))
 refine HK0.out _ _ ?_;refine wp_cut ?_;intro K0 HK0;go_wp2;refine HK0.out _ _ ?_;obtain⟨Y,H3⟩:∃Y,Hid (Sw w3 Y S (D+2+4*s.size) sh mv (.slice ao sh.defs.length cap0) av pv rv ps dp∧TreeIn Y w3 (D+2+4*s.size) p t∧Keep S S w w3):=by
  refine⟨_,((HSG.out w2 HK2.out).more hk3).deep (by omega),(TreeIn.deep ht3 (by omega)).mono fun i hi hx=>?_,HLS.out _ (HTR.out _ _ HK2.out hk3)⟩;rcases hx with hx|hx
  ·exact .inl hx.1
  ·exact .inr ⟨hx,hi⟩
 obtain⟨-,x1,-,-,xf⟩:=H3.out.1.cells;have xf1:=xf 1;have OW:=H3.out.1.dOwn;have hlt1:=H3.out.1.lt;have HNP:=vl <| zL H3.out.1.dOwn H3.out.1.blk (by decide);refine wp_cut ?_;intro K0 HK0;go_wp2_with (first|(at_builtin;refine wpList_append_lies _ rfl _ _ 112 rfl (S+1) 233 i0 (.agg #[.string ⟨#[]⟩,.pointer none]) 2 24 underlying112 hi0 hz0 hz1 hz2 rfl (by decide) _ _ _ rfl (OW.alloc _) ⟨w3.heap.size,0,none⟩ 1 1 [.string A,.pointer (some ⟨p,0,none⟩)] rfl rfl (news_of_block (cs:=#[.string A,.pointer (some ⟨p,0,none⟩)]) (t:=233) (fr:=(0,0)) (heap_alloc_new w3 _)) (by simp[Value.oneCell']) (by decide) (by unfold maxLen;omega) (by omega) (by simp;omega) _ rfl ?_;intro gg cap w4 hown hgrow hat hlt;have hPB:=hgrow.block S (by simp;omega) HNP.out;have x1b:=(cell?_of_block hPB).trans ((cell?_alloc_past _ _ _ hlt1).trans x1);have xf1b:=(frozen?_of_block hPB).trans ((frozen?_alloc_past _ _ _ hlt1).trans xf1)))
 refine HK0.out _ _ ?_;obtain⟨w5,hw5,H5⟩:∃w5,w5=w4.setCell ⟨S,1,none⟩ (.slice (some ⟨gg,0,none⟩) (sh.defs.length+1) cap)∧Hid (SwIs w5 S (D+2+4*s.size) (sh.addDef A t)∧Keep S S w w5):=by
  obtain⟨q1,q2⟩:=H3.out.1.appDef H3.out.2.1 hown hgrow (by rcases hat with ha|ha;exact .inl ha;right;rw[ha];simp);exact⟨_,rfl,⟨Y,mv,_,av,pv,rv,ps,_,q1⟩,H3.out.2.2.trans ((q2.keep H3.out.1.dOwn H3.out.1.lt).lower (Nat.le_succ S) (Nat.le_refl S))⟩
 rw[<-hw5];go_wp2;go_ret;exact⟨H5.out.2,rfl,H5.out.1⟩
theorem zFE (w:World)(X:Nat->Prop)(S D:Nat)(sh:Sh)(mv dv av pv:Value)(rv:Nat->Value)(ps:Nat->List Nat)(dp:Nat->Nat)(h:Sw w X S D sh mv dv av pv rv ps dp)(ok:ShOk sh D)(s:ByteArray)(hs:s.size<=1000):
  Calls prog 121 #[.pointer (some ⟨S,0,none⟩),.string s] w (LnAns w S (D+2+4*s.size) (vN sh s)):=by
 have hA:=Nat.le_trans (zDM s 32) hs;have hB:=Nat.le_trans (vX s 32) hs;have hcut:∀w,Calls prog 86 #[.string s,.int .u8 32] w fun e w'=>e=.returned (.tuple #[.string (yM s 32),.string (qE s 32),.bool (jS s 32)])∧Grew w w':=fun w=>zCe w s (by omega) 32;have no:=zLi w X S D sh mv dv av pv rv ps dp h ok s hs _ _ _ hA hB hcut;unfold vN;cases hK:jS s 32 with
 |false=>exact no fun g=>by rw[hK] at g;exact Bool.noConfusion g.1
 |true=>
 rw[if_pos rfl];by_cases h4:4<=sh.defs.length
 ·rw[if_pos h4]
  exact no fun g=>g.2.1 h4
 rw[if_neg h4];cases hhd:sh.hasDefB (yM s 32) with
 |true=>exact no fun g=>by rw[hhd] at g;exact Bool.noConfusion g.2.2.1
 |false=>
 rw[if_neg (by decide)];cases hnm:xG (yM s 32) with
 |false=>exact no fun g=>by rw[hnm] at g;exact Bool.noConfusion g.2.2.2.1
 |true=>
 rw[if_pos rfl];cases hrm:vG (qE s 32) sh.defs with
 |none=>exact no fun g=>by obtain⟨t,ht⟩:=g.2.2.2.2;rw[hrm] at ht;cases ht
 |some t=>exact zNe w X S D sh mv dv av pv rv ps dp h ok s hs _ _ _ hA hB hcut (vX s 32) hK h4 hhd hnm t hrm
def qP (sh:Sh)(nm s:ByteArray):Option Sh:=
 if jS s 32 then if sh.modes.length=0 then none else if 8<=sh.acts.length then none else if xG nm then(if (zAZ (yM s 32)).ok then(match vG (qE s 32) sh.defs with
  |none=>none
  |some t=>some (((sh.addAct (zAZ (yM s 32)).act).addPush (zAZ (yM s 32)).name).addRule (sh.modes.length-1) t)) else none) else none else none
theorem zHC (w:World)(X:Nat->Prop)(S D:Nat)(sh:Sh)(mv dv av pv:Value)(rv:Nat->Value)(ps:Nat->List Nat)(dp:Nat->Nat)(h:Sw w X S D sh mv dv av pv rv ps dp)(ok:ShOk sh D)(nm s:ByteArray)(hs:s.size<=1000)(hnz:nm.size<=1000)(A B:ByteArray)(K:Bool)(hA:A.size<=1000)(hB:B.size<=1000)(hcut:∀w,Calls prog 86 #[.string s,.int .u8 32] w fun e w'=>e=.returned (.tuple #[.string A,.string B,.bool K])∧Grew w w')(hno:¬(K=true∧¬sh.modes.length=0∧¬8<=sh.acts.length∧xG nm=true∧(zAZ A).ok=true∧∃t,vG B sh.defs=some t)):
  Calls prog 122 #[.pointer (some ⟨S,0,none⟩),.string nm,.string s] w (LnAns w S (D+2+4*s.size) (none)):=by
 obtain⟨am,cm,hmv⟩:=zE h.mOwn;obtain⟨ad,cd,hdv⟩:=zE h.dOwn;obtain⟨aa,ca,hav⟩:=zE h.aOwn;obtain⟨ap,cp,hpv⟩:=zE h.pOwn;subst hmv hdv hav hpv;have hlS:=h.lt;have HLS:Hid (∀w1,Grew w w1->Keep S S w w1):=fun w1 hk=>hk.lower (Nat.le_of_lt hlS) (Nat.le_of_lt hlS);have HSG:Hid (∀w1,Grew w w1->Sw w1 X S D sh (.slice am sh.modes.length cm) (.slice ad sh.defs.length cd) (.slice aa sh.acts.length ca) (.slice ap sh.pushed.length cp) rv ps dp):=fun w1 hk=>h.grown hk;have HTR:=vl fun w1 w2=>zBm (w:=w) (w1:=w1) (w2:=w2);have HCU:=vl (hcut w);have OK:=vl ok;have hmb:=ok.modes;have hab:=ok.acts;have j0:=Nat.eq_zero_or_pos sh.modes.length;have j8:=Nat.lt_or_ge sh.acts.length 8;have HNM:=vl fun w=>vE w nm (by omega);have HAC:=vl fun w=>zCi w A (by omega);have HRD:=vl fun(w2:World) (hk:Grew w w2)=>jH w2 X B (.slice ad sh.defs.length cd) (by omega) D sh.defs ((HSG.out w2 hk).defsIn OK.out.names) (by have:=OK.out.defs;omega) OK.out.trees;generalize zAZ A=ac at *;go_in;rcases K with _|_;rotate_left;rcases j0 with j0|j0;rotate_left;rcases j8 with j8|j8;rcases hnm:xG nm with _|_;rotate_left;rcases hok:ac.ok with _|_;rcases hrm:vG B sh.defs with _|t;rotate_left 2;rcases hrm:vG B sh.defs with _|t;rotate_left
 ·exact absurd ⟨rfl,by omega,by omega,hnm,hok,t,hrm⟩ hno
 all_goals
  try rw[hnm] at HNM
  try rw[hok] at HAC
  try rw[hrm] at HRD
  try have i0:((sh.modes.length:Int)-1)<0:=by omega
  try have i0:¬((sh.modes.length:Int)-1)<0:=by omega
  try have i8:(sh.acts.length:Int)<8:=by omega
  try have i8:(8:Int)<=(sh.acts.length:Int):=by omega
  go_wp2_with (first|(go_at_call 86;refine HCU.out.mono ?_;rintro e w1 ⟨rfl,hk1⟩;have c0b:=(HSG.out w1 hk1).cells.1;have c2b:=(HSG.out w1 hk1).cells.2.2.1)|(go_at_call 160;refine(HNM.out _).mono ?_;rintro e w9 ⟨rfl,hw9⟩;have hw8:=hw9.symm;subst hw8)|(go_at_call 163;refine(HAC.out w1).mono ?_;rintro e w2 ⟨rfl,hk2⟩;have HK2:=vl <| HTR.out _ _ hk1 hk2;have d1:=(HSG.out w2 HK2.out).cells.2.1)|(go_at_call 162;refine(HRD.out w2 HK2.out).mono ?_;first|rintro e w3 ⟨hk3,rfl⟩|rintro e w3 ⟨hk3,p,rfl,ht3⟩))
  go_ret
  first|exact⟨HLS.out _ (HTR.out _ _ HK2.out hk3),rfl⟩|exact⟨HLS.out _ hk1,rfl⟩
section
attribute [local go_sem ↓] Go.wp_at_zero Go.wp_at_succ
theorem zMM (w:World)(X:Nat->Prop)(S D:Nat)(sh:Sh)(mv dv av pv:Value)(rv:Nat->Value)(ps:Nat->List Nat)(dp:Nat->Nat)(h:Sw w X S D sh mv dv av pv rv ps dp)(ok:ShOk sh D)(nm s:ByteArray)(hs:s.size<=1000)(hnz:nm.size<=1000)(A B:ByteArray)(K:Bool)(hA:A.size<=1000)(hB:B.size<=1000)(hcut:∀w,Calls prog 86 #[.string s,.int .u8 32] w fun e w'=>e=.returned (.tuple #[.string A,.string B,.bool K])∧Grew w w')(hBs:B.size<=s.size)(hK:K=true)(k:Nat)(hk:sh.modes.length=k+1)(hrb:(sh.mode k).2.length<=1000000)(h8:¬8<=sh.acts.length)(hnm:xG nm=true)(ac:Ac)(hac:zAZ A=ac)(hok:ac.ok=true)(t:Tr)(hrm:vG B sh.defs=some t):
  Calls prog 122 #[.pointer (some ⟨S,0,none⟩),.string nm,.string s] w (LnAns w S (D+2+4*s.size) (some (((sh.addAct ac.act).addPush ac.name).addRule k t))):=by
 obtain⟨am,cm,hmv⟩:=zE h.mOwn;obtain⟨ad,cd,hdv⟩:=zE h.dOwn;obtain⟨aa,ca,hav⟩:=zE h.aOwn;obtain⟨ap,cp,hpv⟩:=zE h.pOwn;subst hmv hdv hav hpv;have hlS:S<w.heap.size:=h.lt;have HLS:Hid (∀w1,Grew w w1->Keep S S w w1):=fun w1 hk=>hk.lower (Nat.le_of_lt hlS) (Nat.le_of_lt hlS);have HSG:Hid (∀w1,Grew w w1->Sw w1 X S D sh (.slice am sh.modes.length cm) (.slice ad sh.defs.length cd) (.slice aa sh.acts.length ca) (.slice ap sh.pushed.length cp) rv ps dp):=fun w1 hk=>h.grown hk;have HTR:=vl fun w1 w2=>zBm (w:=w) (w1:=w1) (w2:=w2);have HCU:=vl (hcut w);have OK:=vl ok;have hmb:=ok.modes;have hab:=ok.acts;subst hK;have j0:¬((k:Int))<0:=by omega
 have HEK:Hid (((sh.modes.length:Int)-1)=(k:Int)):=by show _=_;omega
 have hkl:k<sh.modes.length:=by omega
 have i2:(k:Int)<(sh.modes.length:Int):=by omega
 have HPO:Hid (0<sh.modes.length):=by show 0<_;omega
 clear hk;obtain⟨i0,hi0,hz0,hz1,hz2⟩:=info_parts yH;have j8:(sh.acts.length:Int)<8:=by omega
 clear h8;have HNM:Hid (∀w,Calls prog 160 #[.string nm] w fun e w'=>e=.returned (.bool true)∧w'=w):=fun w=>by have:=vE w nm (by omega);rw[hnm] at this;exact this
 have HAC:Hid (∀w,Calls prog 163 #[.string A] w fun e w'=>e=.returned (.tuple #[.int .i64 (ac.act:Int),.string ac.name,.bool true])∧Grew w w'):=fun w=>by have:=zCi w A (by omega);rw[hac,hok] at this;exact this
 have HRD:Hid (∀w2,Grew w w2->Calls prog 162 #[.string B,.slice ad sh.defs.length cd] w2 (zG7 w2 X (D+2+4*B.size) (some t))):=fun w2 hk=>by have:=jH w2 X B _ (by omega) D sh.defs ((HSG.out w2 hk).defsIn OK.out.names) (by have:=OK.out.defs;omega) OK.out.trees;rw[hrm] at this;exact this
 clear hnm hac hok hrm;clear h hlS hcut ok;go_in;refine wp_cut ?_;intro K0 HK0;go_wp2;refine HK0.out _ _ ?_;clear HK0;refine wp_cut ?_;intro K0 HK0;go_wp2_with (first|(go_at_call 86;refine HCU.out.mono ?_;rintro e w1 ⟨rfl,hk1⟩;have c0b:w1.cell? ⟨S,0,none⟩=some (.slice am sh.modes.length cm):=(HSG.out w1 hk1).cells.1;have c2b:w1.cell? ⟨S,2,none⟩=some (.slice aa sh.acts.length ca):=(HSG.out w1 hk1).cells.2.2.1))
 refine HK0.out _ _ ?_;clear HK0;refine wp_cut ?_;intro K0 HK0;go_wp2;refine HK0.out _ _ ?_;clear HK0;rw[HEK.out];refine wp_cut ?_;intro K0 HK0;go_wp2_with (first|(go_at_call 160;refine(HNM.out _).mono ?_;rintro e w9 ⟨rfl,hw9⟩;have hw8:=hw9.symm;subst hw8))
 refine HK0.out _ _ ?_;clear HK0;refine wp_cut ?_;intro K0 HK0;go_wp2_with (first|(go_at_call 163;refine(HAC.out w1).mono ?_;rintro e w2 ⟨rfl,hk2⟩;have HK2:=vl <| HTR.out _ _ hk1 hk2;have d1:w2.cell? ⟨S,1,none⟩=some (.slice ad sh.defs.length cd):=(HSG.out w2 HK2.out).cells.2.1))
 refine HK0.out _ _ ?_;clear HK0;clear c0b c2b hk1 hk2;refine wp_cut ?_;intro K0 HK0;go_wp2_with (first|(go_at_call 162;refine(HRD.out w2 HK2.out).mono ?_;rintro e w3 ⟨hk3,p,rfl,ht3⟩))
 refine HK0.out _ _ ?_;clear HK0;refine wp_cut ?_;intro K0 HK0;go_wp2;refine HK0.out _ _ ?_;clear HK0;obtain⟨Y,H3⟩:∃Y,Hid (Sw w3 Y S (D+2+4*s.size) sh (.slice am sh.modes.length cm) (.slice ad sh.defs.length cd) (.slice aa sh.acts.length ca) (.slice ap sh.pushed.length cp) rv ps dp∧TreeIn Y w3 (D+2+4*s.size) p t∧Keep S S w w3):=by
  refine⟨_,((HSG.out w2 HK2.out).more hk3).deep (by omega),(TreeIn.deep ht3 (by omega)).mono fun i hi hx=>?_,HLS.out _ (HTR.out _ _ HK2.out hk3)⟩;rcases hx with hx|hx
  ·exact .inl hx.1
  ·exact .inr ⟨hx,hi⟩
 clear d1 hk3 ht3;obtain⟨-,-,xx,-,xf⟩:=H3.out.1.cells;have xf2:=xf 2;have OW:w3.ownsRow (S+1) 3 1 (.slice aa sh.acts.length ca) sh.acts.length (sh.acts.map fun x:Nat=>.int .i64 (x:Int)):=H3.out.1.aOwn;have hlt1:S<w3.heap.size:=H3.out.1.lt;have HNP:=vl <| zL H3.out.1.aOwn H3.out.1.blk (by decide);clear xf;refine wp_cut ?_;intro K0 HK0;go_wp2_with (first|(at_builtin;refine wpList_append_lies _ rfl _ _ 45 rfl (S+1) 3 i0 (.int .i64 0) 1 8 underlying45 hi0 hz0 hz1 hz2 rfl (by decide) _ _ _ rfl (OW.alloc _) ⟨w3.heap.size,0,none⟩ 1 1 [.int .i64 (ac.act:Int)] rfl rfl (cell_one_new _ _ _) (by intro u hu;simp at hu;subst hu;rfl) (by decide) (by unfold maxLen;omega) (by omega) (by simp;omega) _ rfl ?_;intro gg cap w4 hown hgrow hat hlt;have hPB:=hgrow.block S (by simp;omega) HNP.out;have xxb:w4.cell? ⟨S,2,none⟩=some (.slice aa sh.acts.length ca):=(cell?_of_block hPB).trans ((cell?_alloc_past _ _ _ hlt1).trans xx);have xfb:w4.frozen? ⟨S,2,none⟩=false:=(frozen?_of_block hPB).trans ((frozen?_alloc_past _ _ _ hlt1).trans xf2)))
 refine HK0.out _ _ ?_;clear HK0;obtain⟨w5,hw5,v5,H5⟩:∃w5,w5=w4.setCell ⟨S,2,none⟩ (.slice (some ⟨gg,0,none⟩) (sh.acts.length+1) cap)∧∃v5,Hid (Sw w5 Y S (D+2+4*s.size) (sh.addAct ac.act) (.slice am sh.modes.length cm) (.slice ad sh.defs.length cd) v5 (.slice ap sh.pushed.length cp) rv ps dp∧TreeIn Y w5 (D+2+4*s.size) p t∧Keep S S w w5):=by
  obtain⟨q1,q2⟩:=H3.out.1.appAct (x:=ac.act) hown hgrow (by rcases hat with ha|ha;exact .inl ha;right;rw[ha];simp);exact⟨_,rfl,_,q1,vS q2 H3.out.2.1 (fun q hq=>⟨Nat.ne_of_gt (H3.out.1.xlt q hq).1,(H3.out.1.xm q hq).2.2.1⟩),H3.out.2.2.trans ((q2.keep H3.out.1.aOwn H3.out.1.lt).lower (Nat.le_succ S) (Nat.le_refl S))⟩
 rw[<-hw5];clear hw5 hown hgrow hat hlt hPB xxb xfb OW HNP hlt1 xx xf2 H3;obtain⟨-,-,-,xx,xf⟩:=H5.out.1.cells;have xf2:=xf 3;have OW:w5.ownsRow (S+1) 9 1 (.slice ap sh.pushed.length cp) sh.pushed.length (sh.pushed.map fun x=>.string x):=H5.out.1.pOwn;have hlt1:S<w5.heap.size:=H5.out.1.lt;have HNP:=vl <| zL H5.out.1.pOwn H5.out.1.blk (by decide);have hpb:sh.pushed.length<=8:=by have:=OK.out.same;omega
 clear xf;obtain⟨i0,hi0,hz0,hz1,hz2⟩:=info_parts zJz;refine wp_cut ?_;intro K0 HK0;go_wp2_with (first|(at_builtin;refine wpList_append_lies _ rfl _ _ 108 rfl (S+1) 9 i0 (.string ⟨#[]⟩) 1 16 underlying108 hi0 hz0 hz1 hz2 rfl (by decide) _ _ _ rfl (OW.alloc _) ⟨w5.heap.size,0,none⟩ 1 1 [.string ac.name] rfl rfl (cell_one_new _ _ _) (by intro u hu;simp at hu;subst hu;rfl) (by decide) (by unfold maxLen;omega) (by omega) (by simp;omega) _ rfl ?_;intro gg cap w4 hown hgrow hat hlt;have hPB:=hgrow.block S (by simp;omega) HNP.out;have xxb:w4.cell? ⟨S,3,none⟩=some (.slice ap sh.pushed.length cp):=(cell?_of_block hPB).trans ((cell?_alloc_past _ _ _ hlt1).trans xx);have xfb:w4.frozen? ⟨S,3,none⟩=false:=(frozen?_of_block hPB).trans ((frozen?_alloc_past _ _ _ hlt1).trans xf2)))
 refine HK0.out _ _ ?_;clear HK0;obtain⟨w7,hw7,v7,H7⟩:∃w7,w7=w4.setCell ⟨S,3,none⟩ (.slice (some ⟨gg,0,none⟩) (sh.pushed.length+1) cap)∧∃v7,Hid (Sw w7 Y S (D+2+4*s.size) ((sh.addAct ac.act).addPush ac.name) (.slice am sh.modes.length cm) (.slice ad sh.defs.length cd) v5 v7 rv ps dp∧TreeIn Y w7 (D+2+4*s.size) p t∧Keep S S w w7):=by
  obtain⟨q1,q2⟩:=H5.out.1.appPush (x:=ac.name) hown hgrow (by rcases hat with ha|ha;exact .inl ha;right;rw[ha];simp);exact⟨_,rfl,_,q1,vS q2 H5.out.2.1 (fun q hq=>⟨Nat.ne_of_gt (H5.out.1.xlt q hq).1,(H5.out.1.xm q hq).2.2.2⟩),H5.out.2.2.trans ((q2.keep H5.out.1.pOwn H5.out.1.lt).lower (Nat.le_succ S) (Nat.le_refl S))⟩
 rw[<-hw7];clear hw7 hown hgrow hat hlt hPB xxb xfb OW HNP hlt1 xx xf2 H5 hi0 hz0 hz1 hz2;obtain⟨i1,hi1,hy0,hy1,hy2⟩:=info_parts zDH;obtain⟨mg,mc,hmv2,-,hmgl,-,-,hcl,hfz⟩:=qG H7.out.1.mOwn (show 0<((sh.addAct ac.act).addPush ac.name).modes.length from HPO.out);injection hmv2 with ea eb ec;subst ea ec;clear eb;obtain⟨ra,rc,hrv⟩:=zE (H7.out.1.rOwn k hkl);have y1:w7.cell? ⟨mg,k*2+1,none⟩=some (.slice ra (sh.mode k).2.length rc):=by
  have e2:=(zA2 (fun i=>.string (((sh.addAct ac.act).addPush ac.name).mode i).1) rv sh.modes.length k hkl).2;rw[hrv] at e2;exact hcl _ _ e2
 have yf:=hfz (k*2+1);obtain⟨x0,-,-,-,-⟩:=H7.out.1.cells;have OR:=H7.out.1.rOwn k hkl;rw[hrv] at OR;have OW:w7.ownsRow (S+1) 158 1 (.slice ra (sh.mode k).2.length rc) (sh.mode k).2.length (xT (ps k)):=OR;have HNM2:=vl <| zY H7.out.1.mOwn OW (by decide) mg rfl;have HRV:Hid (rv k=.slice ra (sh.mode k).2.length rc):=hrv;have hrl:(sh.mode k).2.length<=1000000:=hrb;have hlt7:mg<w7.heap.size:=hmgl;have hS7:S+1<=w7.heap.size:=H7.out.1.lt;clear hcl hfz hrv OR hmgl;generalize hrL:(sh.mode k).2.length=rl at *;have hSr:some S≠(Value.slice ra rl rc).ownBlock:=fun e=>by have:=(OW.lt S e.symm).1;omega
 have HSR:Hid (some S≠(Value.slice ra rl rc).ownBlock):=hSr;have hS8:S<w7.heap.size:=by omega
 clear hSr;have HFIN:Hid (∀gg cap w8,w8.ownsRow (S+1) 158 1 (.slice (some ⟨gg,0,none⟩) (rl+1) cap) (rl+1) (xT (ps k)++[.pointer (some ⟨p,0,none⟩)])->(w7.drew.alloc (Obj.cells #[.pointer (some ⟨p,0,none⟩)] 158)).grownBy w8 (Value.slice ra rl rc).ownBlock->((Value.slice ra rl rc).ownBlock=some gg∨w7.heap.size<=gg)->SwIs (w8.setCell ⟨mg,k*2+1,none⟩ (.slice (some ⟨gg,0,none⟩) (rl+1) cap)) S (D+2+4*s.size) (((sh.addAct ac.act).addPush ac.name).addRule k t)∧Keep S S w (w8.setCell ⟨mg,k*2+1,none⟩ (.slice (some ⟨gg,0,none⟩) (rl+1) cap))):=fun gg cap w8 ho hg ha=>by
  subst hrL;rw[<-HRV.out] at hg ha;have hmS:=(H7.out.1.mOwn.lt mg rfl).1;obtain⟨q1,q2⟩:=Sw.appRule (w:=w7.drew) (sh:=(sh.addAct ac.act).addPush ac.name) (H7.out.1.grown (Keep.drew _)) hkl (H7.out.2.1.go ⟨rfl,rfl,Nat.le_refl _,fun _ _ _=>rfl⟩) ho hg ha;refine⟨⟨Y,_,_,v5,v7,_,_,dp,q1⟩,H7.out.2.2.trans ⟨q2.os,q2.output,q2.size,fun j h1 _=>?_⟩⟩;exact(q2.block j (by show j<w7.heap.size;omega) (by omega) fun e=>by have:=((H7.out.1.rOwn k hkl).lt j e.symm).1;omega).1
 refine wp_cut ?_;intro K0 HK0;go_region_law ((refine step_append_lies _ (by rfl) (.tmp 100) (.tmp 102) 118 (by rfl) (S+1) 158 i1 _ 1 8 underlying118 hi1 hy0 hy1 hy2 rfl (by decide) (.slice ra rl rc) rl (xT (ps k)) (by simp[Act.eval,Act.put]) ((OW.alloc _).drew) ⟨w7.heap.size,0,none⟩ 1 1 [.pointer (some ⟨p,0,none⟩)] (by simp[Act.eval,Act.put]) (by rfl) (news_of_block (cs:=#[.pointer (some ⟨p,0,none⟩)]) (t:=158) (fr:=(0,0)) (heap_alloc_new w7 _)) (by simp[Value.oneCell']) (by decide) (by unfold maxLen;omega) (by omega) (by simp;omega) (w7.heap.size+1) (by simp) ?_;intro gg cap w8 hown hgrow hat hlt;have hPB:=hgrow.block mg (by simp;omega) HNM2.out;have y1b:w8.cell? ⟨mg,k*2+1,none⟩=some (.slice ra rl rc):=(cell?_of_block hPB).trans ((cell?_alloc_past _ _ _ hlt7).trans y1);have yfb:w8.frozen? ⟨mg,k*2+1,none⟩=false:=(frozen?_of_block hPB).trans ((frozen?_alloc_past _ _ _ hlt7).trans yf);have hPS:=hgrow.block S (by simp;omega) HSR.out;have x0b:w8.cell? ⟨S,0,none⟩=some (.slice (some ⟨mg,0,none⟩) sh.modes.length cm):=(cell?_of_block hPS).trans ((cell?_alloc_past _ _ _ hS8).trans x0)))
 all_goals
  obtain⟨w9,hw9,H9⟩:∃w9,w9=w8.setCell ⟨mg,k*2+1,none⟩ (.slice (some ⟨gg,0,none⟩) (rl+1) cap)∧Hid (SwIs w9 S (D+2+4*s.size) (((sh.addAct ac.act).addPush ac.name).addRule k t)∧Keep S S w w9):=⟨_,rfl,HFIN.out gg cap w8 hown hgrow (by rcases hat with ha|ha;exact .inl ha;right;show w7.heap.size<=gg;omega)⟩
  rw[<-hw9];clear hw9 hown hgrow hat hlt hPB y1b yfb hPS x0b;show K0 _ _;refine HK0.out _ _ ?_;clear HK0;go_wp2;go_ret;exact⟨H9.out.2,rfl,H9.out.1⟩
theorem zEP (w:World)(X:Nat->Prop)(S D:Nat)(sh:Sh)(mv dv av pv:Value)(rv:Nat->Value)(ps:Nat->List Nat)(dp:Nat->Nat)(h:Sw w X S D sh mv dv av pv rv ps dp)(ok:ShOk sh D)(hrb:∀k,k<sh.modes.length->(sh.mode k).2.length<=1000000)(nm s:ByteArray)(hs:s.size<=1000)(hnz:nm.size<=1000):
  Calls prog 122 #[.pointer (some ⟨S,0,none⟩),.string nm,.string s] w (LnAns w S (D+2+4*s.size) (qP sh nm s)):=by
 have hA:=Nat.le_trans (zDM s 32) hs;have hB:=Nat.le_trans (vX s 32) hs;have hcut:∀w,Calls prog 86 #[.string s,.int .u8 32] w fun e w'=>e=.returned (.tuple #[.string (yM s 32),.string (qE s 32),.bool (jS s 32)])∧Grew w w':=fun w=>zCe w s (by omega) 32;have no:=zHC w X S D sh mv dv av pv rv ps dp h ok nm s hs hnz _ _ _ hA hB hcut;unfold qP;cases hK:jS s 32 with
 |false=>exact no fun g=>by rw[hK] at g;exact Bool.noConfusion g.1
 |true=>
 rw[if_pos rfl];by_cases h0:sh.modes.length=0
 ·rw[if_pos h0]
  exact no fun g=>g.2.1 h0
 rw[if_neg h0];by_cases h8:8<=sh.acts.length
 ·rw[if_pos h8]
  exact no fun g=>g.2.2.1 h8
 rw[if_neg h8];cases hnm:xG nm with
 |false=>exact no fun g=>by rw[hnm] at g;exact Bool.noConfusion g.2.2.2.1
 |true=>
 rw[if_pos rfl];cases hok:(zAZ (yM s 32)).ok with
 |false=>exact no fun g=>by rw[hok] at g;exact Bool.noConfusion g.2.2.2.2.1
 |true=>
  rw[if_pos rfl];cases hrm:vG (qE s 32) sh.defs with
  |none=>exact no fun g=>by obtain⟨t,ht⟩:=g.2.2.2.2.2;rw[hrm] at ht;cases ht
  |some t=>exact zMM w X S D sh mv dv av pv rv ps dp h ok nm s hs hnz _ _ _ hA hB hcut (vX s 32) hK (sh.modes.length-1) (by omega) (hrb _ (by omega)) h8 hnm _ rfl hok t hrm
end
def xV (sh:Sh)(s:ByteArray):Option Sh:=if jS s 32 then(if eqS (yM s 32) ⟨#[109,111,100,101]⟩ then yG sh (qE s 32) else if eqS (yM s 32) ⟨#[108,101,116]⟩ then vN sh (qE s 32) else qP sh (yM s 32) (qE s 32)) else none
def vP (sh:Sh):Prop:=∀i,i<sh.modes.length->(sh.mode i).2.length<=sh.acts.length
theorem SwIs.deep {w:World}{S D E:Nat}{sh:Sh}(h:SwIs w S D sh)(he:D<=E):SwIs w S E sh:=by
 obtain⟨X,mv,dv,av,pv,rv,ps,dp,h⟩:=h;exact⟨X,mv,dv,av,pv,rv,ps,dp,h.deep he⟩
theorem LnAns.deep {w w':World}{S D E:Nat}{a:Option Sh}{e:Ending}(h:LnAns w S D a e w')(he:D<=E):LnAns w S E a e w':=by
 refine⟨h.1,?_⟩;cases a with
 |none=>exact h.2
 |some sh=>exact⟨h.2.1,h.2.2.deep he⟩
theorem LnAns.from {w w1 w':World}{S D:Nat}{a:Option Sh}{e:Ending}(h:LnAns w1 S D a e w')(hk:Keep S S w w1):LnAns w S D a e w':=⟨hk.trans h.1,h.2⟩
theorem zER (w:World)(X:Nat->Prop)(S D:Nat)(sh:Sh)(mv dv av pv:Value)(rv:Nat->Value)(ps:Nat->List Nat)(dp:Nat->Nat)(h:Sw w X S D sh mv dv av pv rv ps dp)(ok:ShOk sh D)(few:vP sh)(s:ByteArray)(hs:s.size<=1000):
  Calls prog 87 #[.pointer (some ⟨S,0,none⟩),.string s] w (LnAns w S (D+2+4*s.size) (xV sh s)):=by
 have hA:=Nat.le_trans (zDM s 32) hs;have hBs:=vX s 32;have hB:=Nat.le_trans hBs hs;have HCU:=vl <| zCe w s (by omega) 32;have HM:Hid (xV sh s=if jS s 32 then(if eqS (yM s 32) ⟨#[109,111,100,101]⟩ then yG sh (qE s 32) else if eqS (yM s 32) ⟨#[108,101,116]⟩ then vN sh (qE s 32) else qP sh (yM s 32) (qE s 32)) else none):=rfl;have hlS:=h.lt;have HLS:Hid (∀w1,Grew w w1->Keep S S w w1):=fun w1 hk=>hk.lower (Nat.le_of_lt hlS) (Nat.le_of_lt hlS);generalize xV sh s=V at *;generalize jS s 32=K at *;have HMO:Hid (∀w1,Grew w w1->Calls prog 120 #[.pointer (some ⟨S,0,none⟩),.string (qE s 32)] w1 (LnAns w S (D+2+4*s.size) (yG sh (qE s 32)))):=fun w1 hk=>(zEQ w1 X S D sh _ _ _ _ rv ps dp (h.grown hk) (by have:=ok.modes;omega) (qE s 32) (by omega)).mono fun e w2 h2=>(h2.from (HLS.out w1 hk)).deep (by omega);have HLE:Hid (∀w1,Grew w w1->Calls prog 121 #[.pointer (some ⟨S,0,none⟩),.string (qE s 32)] w1 (LnAns w S (D+2+4*s.size) (vN sh (qE s 32)))):=fun w1 hk=>(zFE w1 X S D sh _ _ _ _ rv ps dp (h.grown hk) ok (qE s 32) hB).mono fun e w2 h2=>(h2.from (HLS.out w1 hk)).deep (by omega);have HRU:Hid (∀w1,Grew w w1->Calls prog 122 #[.pointer (some ⟨S,0,none⟩),.string (yM s 32),.string (qE s 32)] w1 (LnAns w S (D+2+4*s.size) (qP sh (yM s 32) (qE s 32)))):=fun w1 hk=>(zEP w1 X S D sh _ _ _ _ rv ps dp (h.grown hk) ok (fun k hkk=>by have:=few k hkk;have:=ok.acts;omega) (yM s 32) (qE s 32) hB hA).mono fun e w2 h2=>(h2.from (HLS.out w1 hk)).deep (by omega);generalize yM s 32=A at *;generalize qE s 32=B at *;have hm:(⟨#[109,111,100,101]⟩:ByteArray).toList=[109,111,100,101]:=by rw[ByteArray.toList_eq]
 have hl:(⟨#[108,101,116]⟩:ByteArray).toList=[108,101,116]:=by rw[ByteArray.toList_eq]
 cases K with
 |false=>
  have HV:=vl HM.out;rw[HV.out];go_in;go_wp2_with (first|(go_at_call 86;refine HCU.out.mono ?_;rintro e w1 ⟨rfl,hk1⟩))
  go_ret;exact⟨HLS.out _ hk1,rfl⟩
 |true=>
 cases e1:eqS A ⟨#[109,111,100,101]⟩ with
 |true=>
  rw[e1] at HM;have HV:=vl HM.out;have f1:(A.toList==[109,111,100,101])=true:=by rw[<-hm];exact e1
  rw[HV.out];generalize yG sh B=R at *;go_in;go_wp2_with (first|(go_at_call 86;refine HCU.out.mono ?_;rintro e w1 ⟨rfl,hk1⟩)|(go_at_call 120;refine(HMO.out w1 hk1).mono ?_;intro e w2 h2;obtain⟨v2,hv2⟩:∃v2,e=.returned (.bool v2):=(by have:=h2.2;cases R with|none=>exact⟨false,this⟩|some x=>exact⟨true,this.1⟩);subst hv2))
  go_ret;exact h2
 |false=>
 have f1:(A.toList==[109,111,100,101])=false:=by rw[<-hm];exact e1
 rw[e1] at HM;cases e2:eqS A ⟨#[108,101,116]⟩ with
 |true=>
  rw[e2] at HM;have HV:=vl HM.out;have f2:(A.toList==[108,101,116])=true:=by rw[<-hl];exact e2
  rw[HV.out];generalize vN sh B=R at *;go_in;go_wp2_with (first|(go_at_call 86;refine HCU.out.mono ?_;rintro e w1 ⟨rfl,hk1⟩)|(go_at_call 121;refine(HLE.out w1 hk1).mono ?_;intro e w2 h2;obtain⟨v2,hv2⟩:∃v2,e=.returned (.bool v2):=(by have:=h2.2;cases R with|none=>exact⟨false,this⟩|some x=>exact⟨true,this.1⟩);subst hv2))
  go_ret;exact h2
 |false=>
  rw[e2] at HM;have HV:=vl HM.out;have f2:(A.toList==[108,101,116])=false:=by rw[<-hl];exact e2
  rw[HV.out];generalize qP sh A B=R at *;go_in;go_wp2_with (first|(go_at_call 86;refine HCU.out.mono ?_;rintro e w1 ⟨rfl,hk1⟩)|(go_at_call 122;refine(HRU.out w1 hk1).mono ?_;intro e w2 h2;obtain⟨v2,hv2⟩:∃v2,e=.returned (.bool v2):=(by have:=h2.2;cases R with|none=>exact⟨false,this⟩|some x=>exact⟨true,this.1⟩);subst hv2))
  go_ret;exact h2
theorem zHy {s:ByteArray}{D:Nat}{defs:List (ByteArray×Tr)}{t:Tr}(hs:s.size<=1048576)(hd:zA0 D defs)(h:vG s defs=some t):TrOk (D+2+4*s.size) t:=by
 unfold vG at h;cases hm:zBp s defs 8 0 false with
 |none=>rw[hm] at h;cases h
 |some g=>
  obtain⟨u,q⟩:=g;rw[hm] at h;have h2:(if q=s.size then some u else none)=some t:=h;split at h2
  ·rename_i e
   have e1:=Option.some.inj h2;obtain⟨-,-,hk⟩:=jR hs hd 8 false 0 u q hm;rw[<-e1,<-e];exact hk
  ·cases h2
theorem ShOk.deep {sh:Sh}{D E:Nat}(h:ShOk sh D)(he:D<=E):ShOk sh E:=⟨h.modes,h.defs,h.acts,h.same,h.names,fun d hd=>(h.trees d hd).deep he,fun i hi t ht=>(h.rules i hi t ht).deep he⟩
theorem zIN {s:ByteArray}(h:xG s=true):s.size<=6:=by
 unfold xG at h;rw[Bool.and_eq_true,Bool.and_eq_true] at h;exact of_decide_eq_true h.2.1
theorem zHx {sh sh':Sh}{nm:ByteArray}{D:Nat}(h:yG sh nm=some sh')(ok:ShOk sh D)(few:vP sh):ShOk sh' D∧vP sh':=by
 unfold yG at h;split at h
 ·cases h
 split at h
 ·cases h
 split at h
 ·rename_i h3 _ _
  have e:=Option.some.inj h;subst e;have hl:=vZ sh nm;refine⟨⟨by omega,ok.defs,ok.acts,ok.same,ok.names,ok.trees,fun i hi t ht=>?_⟩,fun i hi=>?_⟩
  ·by_cases e:i=sh.modes.length
   ·subst e;rw[zAf] at ht;cases ht
   ·rw[zAe sh nm i (by omega)] at ht;exact ok.rules i (by omega) t ht
  ·by_cases e:i=sh.modes.length
   ·subst e;rw[zAf];exact Nat.zero_le _
   ·rw[zAe sh nm i (by omega)];exact few i (by omega)
 ·cases h
theorem zIC {sh sh':Sh}{s:ByteArray}{D:Nat}(h:vN sh s=some sh')(hs:s.size<=1000)(ok:ShOk sh D)(few:vP sh):ShOk sh' (D+2+4*s.size)∧vP sh':=by
 have hBs:=vX s 32;unfold vN at h;split at h
 ·split at h
  ·cases h
  split at h
  ·cases h
  split at h
  ·rename_i h4 _ hn
   cases hr:vG (qE s 32) sh.defs with
   |none=>rw[hr] at h;cases h
   |some t=>
    rw[hr] at h;have e:=Option.some.inj h;subst e;have hl:=zCQ sh (yM s 32) t;have ht:=(zHy (by omega) ok.trees hr).deep (show _<=D+2+4*s.size by omega);have ok2:=ok.deep (show D<=D+2+4*s.size by omega);refine⟨⟨ok2.modes,by omega,ok2.acts,ok2.same,fun i hi=>?_,fun d hd=>?_,ok2.rules⟩,few⟩
    ·by_cases e:i=sh.defs.length
     ·subst e;rw[zCP];exact zIN hn
     ·rw[zCO sh _ t i (by omega)];exact ok.names i (by omega)
    ·have hd2:=hd
     rcases List.mem_append.1 hd2 with h1|h1
     ·exact ok2.trees d h1
     ·rw[List.mem_singleton.1 h1];exact ht
  ·cases h
 ·cases h
theorem zHw {sh sh':Sh}{nm s:ByteArray}{D:Nat}(h:qP sh nm s=some sh')(hs:s.size<=1000)(ok:ShOk sh D)(few:vP sh):ShOk sh' (D+2+4*s.size)∧vP sh':=by
 have hBs:=vX s 32;unfold qP at h;split at h
 ·split at h
  ·cases h
  split at h
  ·cases h
  split at h
  ·split at h
   ·rename_i h0 h8 _ _
    cases hr:vG (qE s 32) sh.defs with
    |none=>rw[hr] at h;cases h
    |some t=>
     rw[hr] at h;have e:=Option.some.inj h;subst e;have ht:=(zHy (by omega) ok.trees hr).deep (show _<=D+2+4*s.size by omega);have ok2:=ok.deep (show D<=D+2+4*s.size by omega);generalize (zAZ (yM s 32))=ac at *;have hkl:sh.modes.length-1<sh.modes.length:=by omega
     have hl:=zEc ((sh.addAct ac.act).addPush ac.name) (sh.modes.length-1) t;have hl2:((sh.addAct ac.act).addPush ac.name).modes.length=sh.modes.length:=rfl;have hal:(((sh.addAct ac.act).addPush ac.name).addRule (sh.modes.length-1) t).acts.length=sh.acts.length+1:=by show(sh.acts++[ac.act]).length=_;rw[List.length_append];rfl
     have hpl:(((sh.addAct ac.act).addPush ac.name).addRule (sh.modes.length-1) t).pushed.length=sh.pushed.length+1:=by show(sh.pushed++[ac.name]).length=_;rw[List.length_append];rfl
     have hnew:=zAV ((sh.addAct ac.act).addPush ac.name) (sh.modes.length-1) t hkl;refine⟨⟨by have:=ok.modes;omega,ok2.defs,by omega,by have:=ok.same;omega,ok2.names,ok2.trees,fun i hi u hu=>?_⟩,fun i hi=>?_⟩
     ·by_cases e:i=sh.modes.length-1
      ·rw[e,hnew] at hu
       rcases List.mem_append.1 hu with h1|h1
       ·exact ok2.rules _ hkl u h1
       ·rw[List.mem_singleton.1 h1];exact ht
      ·rw[zAd _ _ t i e] at hu
       exact ok2.rules i (by omega) u hu
     ·rw[hal]
      by_cases e:i=sh.modes.length-1
      ·rw[e,hnew]
       show((sh.mode (sh.modes.length-1)).2++[t]).length<=_;rw[List.length_append];have:=few _ hkl;show(sh.mode (sh.modes.length-1)).2.length+1<=_;omega
      ·rw[zAd _ _ t i e]
       have:=few i (by omega);show(sh.mode i).2.length<=_;omega
   ·cases h
  ·cases h
 ·cases h
theorem zHz {sh sh':Sh}{s:ByteArray}{D:Nat}(h:xV sh s=some sh')(hs:s.size<=1000)(ok:ShOk sh D)(few:vP sh):ShOk sh' (D+2+4*s.size)∧vP sh':=by
 have hBs:=vX s 32;unfold xV at h;split at h
 ·split at h
  ·obtain⟨a,b⟩:=zHx h ok few
   exact⟨a.deep (by omega),b⟩
  split at h
  ·obtain⟨a,b⟩:=zIC h (by omega) ok few
   exact⟨a.deep (by omega),b⟩
  ·obtain⟨a,b⟩:=zHw h (by omega) ok few
   exact⟨a.deep (by omega),b⟩
 ·cases h
theorem zKF {s:ByteArray}{c:Nat}(h:jS s c=true):(qE s c).size+(yM s c).size+1=s.size:=by
 have hi:zGX s c<s.size:=by unfold jS at h;exact of_decide_eq_true h
 unfold yM qE;rw[if_pos h,if_pos h,ByteArray.size_extract,ByteArray.size_extract];omega
def jF:Nat->Sh->Nat->ByteArray->Sh ⊕ Nat
 |0,sh,_,_=>.inl sh
 |f+1,sh,n,s=>if s.size=0 then .inl sh else if jS s 10 then(match xV sh (yM s 10) with
  |none=>.inr n
  |some sh'=>jF f sh' (n+1) (qE s 10)) else .inr n
def zMx (w:World)(S D:Nat)(G:Sh ⊕ Nat)(e:Ending)(w':World):Prop:=
 Keep S S w w'∧match G with
 | .inl sh=>e=.returned (.int .i64 0)∧SwIs w' S D sh∧ShOk sh D∧vP sh
 | .inr n=>e=.returned (.int .i64 (n:Int))
theorem zEe (w:World)(S D:Nat)(sh:Sh)(h:SwIs w S D sh)(ok:ShOk sh D)(few:vP sh)(s:ByteArray)(hs:s.size<=1000):
  Calls prog 56 #[.pointer (some ⟨S,0,none⟩),.string s] w (zMx w S (D+6*s.size) (jF (s.size+1) sh 1 s)):=by
 obtain⟨G,hG⟩:∃G,G=jF (s.size+1) sh 1 s:=⟨_,rfl⟩
 have HG:=vl hG.symm;rw[<-hG];have HS:Hid (SwIs w S D sh∧ShOk sh D∧vP sh):=⟨h,ok,few⟩
 go_in;go_wp2;go_loopg [5,6] (s.size+1) (fun n v5 v6 wr=>∃f sh num rest,n=f∧v5=.int .i64 (num:Nat)∧v6=.string rest∧rest.size<=s.size∧rest.size+1<=f∧num+rest.size<=s.size+1∧jF f sh num rest=G∧SwIs wr S (D+6*(s.size-rest.size)) sh∧ShOk sh (D+6*(s.size-rest.size))∧vP sh∧Keep S S w wr)
 case atStart=>exact⟨s.size+1,sh,1,s,rfl,rfl,rfl,Nat.le_refl _,Nat.le_refl _,by omega,HG.out,by rw[Nat.sub_self];exact HS.out.1,by rw[Nat.sub_self];exact HS.out.2.1,HS.out.2.2,Keep.refl _ _ _⟩
 case round=>
  obtain⟨f,sh1,num,rest,hgk,rfl,rfl,hrs,hf,hnum,hGo,hSw,hok,hfew,hk⟩:=hrel;cases f with
  |zero=>omega
  |succ f=>
  have hE:=zAm rest;have hGo2:(if rest.size=0 then .inl sh1 else if jS rest 10 then(match xV sh1 (yM rest 10) with|none=>.inr num|some sh'=>jF f sh' (num+1) (qE rest 10)) else .inr num)=G:=hGo;obtain⟨X,mv,dv,av,pv,rv,ps,dp,hS1⟩:=hSw;have HA:Hid (Sw wr X S (D+6*(s.size-rest.size)) sh1 mv dv av pv rv ps dp∧ShOk sh1 (D+6*(s.size-rest.size))∧vP sh1∧Keep S S w wr∧gk=f+1):=⟨hS1,hok,hfew,hk,hgk⟩
  by_cases h0:rest.size=0
  ·rw[if_pos h0] at hGo2
   have HG2:=vl hGo2.symm;rw[decide_eq_true h0] at hE;have HR0:=vl h0;go_wp2;go_ret;refine⟨HA.out.2.2.2.1,?_⟩;rw[HG2.out];have e0:D+6*(s.size-rest.size)=D+6*s.size:=by rw[HR0.out];rfl
   refine⟨rfl,⟨X,mv,dv,av,pv,rv,ps,dp,?_⟩,?_,HA.out.2.2.1⟩
   ·rw[<-e0];exact HA.out.1
   ·rw[<-e0];exact HA.out.2.1
  rw[if_neg h0] at hGo2;rw[decide_eq_false h0] at hE;have HCU:=vl <| zCe wr rest (by omega) 10;have hcs:jS rest 10=true->(qE rest 10).size+(yM rest 10).size+1=rest.size:=zKF;have HLN:Hid ((yM rest 10).size<=1000->∀w1,Grew wr w1->Calls prog 87 #[.pointer (some ⟨S,0,none⟩),.string (yM rest 10)] w1 (LnAns wr S (D+6*(s.size-rest.size)+2+4*(yM rest 10).size) (xV sh1 (yM rest 10)))):=fun hz w1 hk1=>(zER w1 X S _ sh1 mv dv av pv rv ps dp (HA.out.1.grown hk1) HA.out.2.1 HA.out.2.2.1 (yM rest 10) hz).mono fun e w2 h2=>h2.from (hk1.lower (Nat.le_of_lt HA.out.1.lt) (Nat.le_of_lt HA.out.1.lt))
  have HLO:Hid (∀sh',xV sh1 (yM rest 10)=some sh'->(yM rest 10).size<=1000->ShOk sh' (D+6*(s.size-rest.size)+2+4*(yM rest 10).size)∧vP sh'):=fun sh' e hz=>zHz e hz HA.out.2.1 HA.out.2.2.1;have HKS:Hid (∀w1,Grew wr w1->Keep S S wr w1):=fun w1 hk1=>hk1.lower (Nat.le_of_lt HA.out.1.lt) (Nat.le_of_lt HA.out.1.lt);generalize yM rest 10=A at *;generalize qE rest 10=B at *;generalize jS rest 10=K at *;cases K with
  |false=>
   have HG2:=vl hGo2.symm;go_wp2_with (first|(go_at_call 86;refine HCU.out.mono ?_;rintro e w1 ⟨rfl,hk1⟩))
   go_ret;refine⟨HA.out.2.2.2.1.trans (HKS.out w1 hk1),?_⟩;rw[HG2.out];rfl
  |true=>
   have hsz:=hcs rfl;have HL2:=HLN.out (by omega);rw[if_pos rfl] at hGo2;cases hm:xV sh1 A with
   |none=>
    rw[hm] at hGo2 HL2;have HL3:=vl HL2;have HG2:=vl hGo2.symm;go_wp2_with (first|(go_at_call 86;refine HCU.out.mono ?_;rintro e w1 ⟨rfl,hk1⟩)|(go_at_call 87;refine(HL3.out w1 hk1).mono ?_;rintro e w2 ⟨hk2,rfl⟩))
    go_ret;refine⟨HA.out.2.2.2.1.trans hk2,?_⟩;rw[HG2.out];rfl
   |some sh2=>
    have HO2:=HLO.out sh2 hm (by omega);rw[hm] at hGo2 HL2;have HL3:=vl HL2;have HG2:Hid (jF f sh2 (num+1) B=G∧ShOk sh2 (D+6*(s.size-rest.size)+2+4*A.size)∧vP sh2):=⟨hGo2,HO2⟩
    go_wp2_with (first|(go_at_call 86;refine HCU.out.mono ?_;rintro e w1 ⟨rfl,hk1⟩)|(go_at_call 87;refine(HL3.out w1 hk1).mono ?_;rintro e w2 ⟨hk2,rfl,hs2⟩))
    go_roundg f
    case measure=>rw[HA.out.2.2.2.2];omega
    case rel=>exact⟨f,sh2,num+1,B,rfl,by go_num,rfl,by omega,by omega,by omega,HG2.out.1,hs2.deep (by omega),HG2.out.2.1.deep (by omega),HG2.out.2.2,HA.out.2.2.2.1.trans hk2⟩
end Go.Proofs.YtbjcfkdnjaiclaaGreat
