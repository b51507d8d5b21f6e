import Derived.Test.YtbjcfkdnjaiclaaGreatB0
import Derived.Test.YtbjcfkdnjaiclaaGreatB18
import Derived.Test.YtbjcfkdnjaiclaaGreatB30
/- Parts of the proof, in order. -/
set_option linter.unusedVariables false
set_option linter.unusedSimpArgs false
set_option maxHeartbeats 4000000
set_option maxRecDepth 100000
namespace Go.Proofs.YtbjcfkdnjaiclaaGreat
open Go.RowKit Go.Proofs.Tryz Go.World
def Sh.pushI (sh:Sh)(nm:ByteArray):Int:=if nm.size=0 then 0 else sh.modeI nm
def Sh.push (sh:Sh)(i:Nat):ByteArray:=sh.pushed.getD i ⟨#[]⟩
def Sh.there (sh:Sh):Bool:=decide (∀i,i<sh.pushed.length->0<=sh.pushI (sh.push i))
def Sh.pushesTo (sh:Sh)(j:Nat):List Int:=(List.range j).map fun i=>sh.pushI (sh.push i)
theorem yW (sh:Sh)(j:Nat):(sh.pushesTo j).length=j:=by unfold Sh.pushesTo;rw[List.length_map,List.length_range]
theorem zFF (sh:Sh)(j:Nat):sh.pushesTo (j+1)=sh.pushesTo j++[sh.pushI (sh.push j)]:=by unfold Sh.pushesTo;rw[List.range_succ,List.map_append];rfl
theorem zC1 (w:World)(X:Nat->Prop)(S D:Nat)(sh:Sh)(mv dv av pv:Value)(rv:Nat->Value)(ps:Nat->List Nat)(dp:Nat->Nat)(h:Sw w X S D sh mv dv av pv rv ps dp)(hm3:sh.modes.length<=3)(h8:sh.pushed.length<=8):
  Calls prog 57 #[.pointer (some ⟨S,0,none⟩)] w fun e w'=>∃v,e=.returned (.tuple #[v,.bool sh.there])∧(∃a n c,v=.slice a n c)∧(sh.there=true->OwnI w' w.heap.size v (sh.pushesTo sh.pushed.length))∧Grew w w':=by
 obtain⟨i0,hi0,hz0,hz1,hz2⟩:=info_parts yH;obtain⟨ap,cp,hpv⟩:=zE h.pOwn;subst hpv;obtain⟨-,-,-,c3,-⟩:=h.cells;have HS:=vl h;have HTH:Hid (sh.there=decide (∀i,i<sh.pushed.length->0<=sh.pushI (sh.push i))):=rfl;generalize sh.there=T at *;go_in;go_wp2;go_loopg [4,13] sh.pushed.length (fun q v4 i wr=>∃j:Nat,q=sh.pushed.length-j∧j<=sh.pushed.length∧i=.int .i64 (j:Int)∧(∀k,k<j->0<=sh.pushI (sh.push k))∧OwnI wr w.heap.size v4 (sh.pushesTo j)∧Grew w wr)
 case atStart=>exact⟨0,rfl,Nat.zero_le _,rfl,fun k hk=>by omega,OwnI.nil _ _,Keep.refl _ _ _⟩
 case round=>
  obtain⟨j,hgk,hj,rfl,hno,hOw,hk⟩:=hrel;obtain⟨ao,cap0,hv4⟩:=OwnI.form hOw;rw[yW] at hv4;subst hv4;have HA:Hid (gk=sh.pushed.length-j∧(∀k,k<j->0<=sh.pushI (sh.push k))∧OwnI wr w.heap.size (.slice ao j cap0) (sh.pushesTo j)∧Grew w wr∧w.heap.size<=wr.heap.size):=⟨hgk,hno,hOw,hk,hk.size⟩
  by_cases hj2:j<sh.pushed.length
  ·have i1:(j:Int)<(sh.pushed.length:Int):=by omega
   obtain⟨mg,mc,hmv2,-,hmgl,-,-,hcl,-⟩:=qG HS.out.pOwn (by omega);injection hmv2 with ea eb ec;subst ea ec;clear eb;have e1:(sh.pushed.map fun x=>Value.string x)[j]? =some (.string (sh.push j)):=by
    unfold Sh.push;rw[List.getElem?_map,List.getElem?_eq_getElem hj2,List.getD_eq_getElem?_getD,List.getElem?_eq_getElem hj2];rfl
   have y0:=zA (hcl _ _ e1) hmgl hk;have hE:=zAm (sh.push j);have HMO:=vl <| zC6 wr X S D sh mv dv av _ rv ps dp (HS.out.grown hk) (by omega) (sh.push j);have HPI:Hid (sh.pushI (sh.push j)=if(sh.push j).size=0 then 0 else sh.modeI (sh.push j)):=rfl;have HNO:Hid (0<=sh.pushI (sh.push j)->∀k,k<j+1->0<=sh.pushI (sh.push k)):=fun hh k hk=>by
    by_cases e:k=j
    ·rw[e];exact hh
    ·exact HA.out.2.1 k (by omega)
   have HNV:Hid (sh.pushI (sh.push j)<0->T=false):=fun hh=>by
    rw[HTH.out];exact decide_eq_false fun h2=>by have:=h2 j hj2;omega
   have HPS:=vl <| zFF sh j;have HPL:=vl <| yW sh j;have hmi:=zD1 sh (sh.push j);clear hgk hno hOw hk e1 hcl hmgl;generalize sh.push j=nm at *;generalize sh.modeI nm=mi at *;generalize sh.pushI nm=pi at *;generalize hP:sh.pushesTo j=L at *;clear hP;by_cases h0:nm.size=0
   ·rw[decide_eq_true h0] at hE
    have HP0:Hid (pi=0):=by show _=_;rw[HPI.out,if_pos h0]
    have OR:Hid (wr.ownsRow w.heap.size 3 1 (.slice ao j cap0) j (L.map fun x=>.int .i64 x)):=by have:=HA.out.2.2.1;unfold OwnI at this;rw[HPL.out] at this;exact this
    have hszr:w.heap.size<=wr.heap.size:=HA.out.2.2.2.2;clear h0 HMO;go_wp2_with (first|(at_builtin;refine wpList_append_lies _ rfl _ _ 45 rfl (w.heap.size) 3 i0 (.int .i64 0) 1 8 underlying45 hi0 hz0 hz1 hz2 rfl (by decide) _ _ _ rfl (OR.out.alloc _) ⟨wr.heap.size,0,none⟩ 1 1 [.int .i64 0] rfl rfl (cell_one_new _ _ _) (by intro u hu;simp at hu;subst hu;rfl) (by decide) (by unfold maxLen;omega) (by omega) (by simp;omega) _ rfl ?_;intro gg cap w2 hown hgrow hat hlt2;have hB:=xO OR.out hgrow hszr;have O2:Hid (OwnI w2 w.heap.size (.slice (some ⟨gg,0,none⟩) (j+1) cap) (L++[0])∧Grew w w2):=⟨by unfold OwnI;rw[List.length_append,HPL.out,List.map_append];exact hown,HA.out.2.2.2.1.trans (xN hB)⟩;clear hown hgrow hB hat hlt2))
    go_roundg (sh.pushed.length-(j+1))
    case measure=>rw[HA.out.1];omega
    case rel=>exact⟨j+1,rfl,by omega,by go_num,HNO.out (by rw[HP0.out];omega),by rw[HPS.out,HP0.out];exact O2.out.1,O2.out.2⟩
   ·rw[decide_eq_false h0] at hE
    have HP0:Hid (pi=mi):=by show _=_;rw[HPI.out,if_neg h0]
    clear h0;rcases hmi with hmi|⟨hmi,-⟩
    ·subst hmi
     have HV:=vl <| HNV.out (by rw[HP0.out];omega);go_wp2_with (first|(go_at_call 88;refine HMO.out.mono ?_;rintro e w1 ⟨rfl,hk1⟩))
     refine bodyPost_ret (results_tmp2 rfl _ _ _) rfl ?_;exact⟨_,by rw[HV.out];rfl,⟨none,0,0,rfl⟩,fun h=>(by rw[HV.out] at h;cases h),HA.out.2.2.2.1.trans (hk1.lower HA.out.2.2.2.2 HA.out.2.2.2.2)⟩
    ·refine wp_cut ?_
     intro K1 HK1;go_wp2;refine HK1.out _ _ ?_;clear HK1;refine wp_cut ?_;intro K1 HK1;go_wp2;refine HK1.out _ _ ?_;clear HK1;go_wp2_with (first|(go_at_call 88;refine HMO.out.mono ?_;rintro e w1 ⟨rfl,hk1⟩;have OR:Hid (w1.ownsRow w.heap.size 3 1 (.slice ao j cap0) j (L.map fun x=>.int .i64 x)∧Grew w w1):=⟨by have:=zJ HA.out.2.2.1 hk1;unfold OwnI at this;rw[HPL.out] at this;exact this,HA.out.2.2.2.1.trans (hk1.lower HA.out.2.2.2.2 HA.out.2.2.2.2)⟩;have hszr:w.heap.size<=w1.heap.size:=OR.out.2.size;clear hk1)|(at_builtin;refine wpList_append_lies _ rfl _ _ 45 rfl (w.heap.size) 3 i0 (.int .i64 0) 1 8 underlying45 hi0 hz0 hz1 hz2 rfl (by decide) _ _ _ rfl (OR.out.1.alloc _) ⟨w1.heap.size,0,none⟩ 1 1 [.int .i64 mi] rfl rfl (cell_one_new _ _ _) (by intro u hu;simp at hu;subst hu;rfl) (by decide) (by unfold maxLen;omega) (by omega) (by simp;omega) _ rfl ?_;intro gg cap w2 hown hgrow hat hlt2;have hB:=xO OR.out.1 hgrow hszr;have O2:Hid (OwnI w2 w.heap.size (.slice (some ⟨gg,0,none⟩) (j+1) cap) (L++[mi])∧Grew w w2):=⟨by unfold OwnI;rw[List.length_append,HPL.out,List.map_append];exact hown,OR.out.2.trans (xN hB)⟩;clear hown hgrow hB hat hlt2))
     go_roundg (sh.pushed.length-(j+1))
     case measure=>rw[HA.out.1];omega
     case rel=>exact⟨j+1,rfl,by omega,by go_num,HNO.out (by rw[HP0.out];omega),by rw[HPS.out,HP0.out];exact O2.out.1,O2.out.2⟩
  ·have i1:(sh.pushed.length:Int)<=(j:Int):=by omega
   have e:j=sh.pushed.length:=by omega
   have HV:Hid (T=true):=by
    show _=_;rw[HTH.out];exact decide_eq_true fun i hi=>hno i (by omega)
   have HE:=vl e;clear hgk hno hOw hk e;go_wp2;refine bodyPost_ret (results_tmp2 rfl _ _ _) rfl ?_;refine⟨_,by rw[HV.out];rfl,⟨_,_,_,rfl⟩,fun _=>?_,HA.out.2.2.2.1⟩;rw[<-HE.out];exact HA.out.2.2.1
def Sh.haveB (sh:Sh):Bool:=decide (0<sh.modes.length∧∀i,i<sh.modes.length->0<(sh.mode i).2.length)
def yI (l:List Tr):Nat->Nat
 |0=>0
 |j+1=>yI l j+(l.getD j Tr.none).chars
def Sh.fitB (sh:Sh):Bool:=decide (∀i,i<sh.modes.length->yI (sh.mode i).2 (sh.mode i).2.length<=24)
theorem zCF {w:World}{X:Nat->Prop}{S D:Nat}{sh:Sh}{dv av pv:Value}{rv:Nat->Value}{ps:Nat->List Nat}{dp:Nat->Nat}{ao:Option Addr}{cap0 j:Nat}(h:Sw w X S D sh (.slice ao sh.modes.length cap0) dv av pv rv ps dp)(hj:j<sh.modes.length){wr:World}(hk:Grew w wr):
  ∃mg ra rc,ao=some ⟨mg,0,none⟩∧rv j=.slice ra (sh.mode j).2.length rc∧wr.cell? ⟨mg,j*2,none⟩=some (.string (sh.mode j).1)∧wr.cell? ⟨mg,j*2+1,none⟩=some (.slice ra (sh.mode j).2.length rc):=by
 obtain⟨mg,mc,hmv2,-,hmgl,-,-,hcl,-⟩:=qG h.mOwn (by omega);injection hmv2 with ea eb ec;obtain⟨ra,rc,hrv⟩:=zE (h.rOwn j hj);obtain⟨e1,e2⟩:=zA2 (fun i=>.string (sh.mode i).1) rv sh.modes.length j hj;rw[hrv] at e2;exact⟨mg,ra,rc,ea,hrv,zA (hcl _ _ e1) hmgl hk,zA (hcl _ _ e2) hmgl hk⟩
theorem zEi (w:World)(X:Nat->Prop)(S D:Nat)(sh:Sh)(mv dv av pv:Value)(rv:Nat->Value)(ps:Nat->List Nat)(dp:Nat->Nat)(h:Sw w X S D sh mv dv av pv rv ps dp)(hm3:sh.modes.length<=3):
  Calls prog 58 #[.pointer (some ⟨S,0,none⟩)] w fun e w'=>e=.returned (.bool sh.haveB)∧Grew w w':=by
 obtain⟨ao,cap0,hmv⟩:=zE h.mOwn;subst hmv;obtain⟨c0,-,-,-,-⟩:=h.cells;have HS:=vl h;have HTH:Hid (sh.haveB=decide (0<sh.modes.length∧∀i,i<sh.modes.length->0<(sh.mode i).2.length)):=rfl;generalize sh.haveB=T at *;have hSl:S<w.heap.size:=h.lt;have C0:Hid (∀wr,Grew w wr->wr.cell? ⟨S,0,none⟩=some (.slice ao sh.modes.length cap0)):=fun wr hk=>zA c0 hSl hk;go_in;go_wp2;go_loopg [10] sh.modes.length (fun q i wr=>∃j:Nat,q=sh.modes.length-j∧j<=sh.modes.length∧i=.int .i64 (j:Int)∧(∀k,k<j->0<(sh.mode k).2.length)∧Grew w wr)
 case atStart=>exact⟨0,rfl,Nat.zero_le _,rfl,fun k hk=>by omega,Keep.refl _ _ _⟩
 case round=>
  obtain⟨j,hgk,hj,rfl,hno,hk⟩:=hrel;have HA:Hid (gk=sh.modes.length-j∧(∀k,k<j->0<(sh.mode k).2.length)∧Grew w wr∧w.heap.size<=wr.heap.size):=⟨hgk,hno,hk,hk.size⟩
  by_cases hj2:j<sh.modes.length
  ·have i1:(j:Int)<(sh.modes.length:Int):=by omega
   obtain⟨mg,ra,rc,rfl,-,y0,y1⟩:=zCF HS.out hj2 hk;obtain⟨wa,hwa,z1,HKa⟩:∃wa,wa=wr.alloc (.cells #[.string (sh.mode j).1,.slice ra (sh.mode j).2.length rc] 120)∧wa.cell? ⟨wr.heap.size,1,none⟩=some (.slice ra (sh.mode j).2.length rc)∧Hid (Grew w wa):=by
    have hb2:=heap_alloc_new wr (.cells #[.string (sh.mode j).1,.slice ra (sh.mode j).2.length rc] 120);refine⟨_,rfl,?_,HA.out.2.2.1.trans (Keep.alloc _ _ HA.out.2.2.2)⟩;unfold cell?;rw[hb2];rfl
   have HNO:Hid (0<(sh.mode j).2.length->∀k,k<j+1->0<(sh.mode k).2.length):=fun hh k hk=>by
    by_cases e:k=j
    ·rw[e];exact hh
    ·exact HA.out.2.1 k (by omega)
   have HNV:Hid ((sh.mode j).2.length=0->T=false):=fun hh=>by
    rw[HTH.out];exact decide_eq_false fun h2=>by have:=h2.2 j hj2;omega
   generalize (sh.mode j).2.length=rl at *;refine wp_cut ?_;intro K1 HK1;go_wp2;refine HK1.out _ _ ?_;refine wp_cut ?_;intro K1 HK1;go_wp2;refine HK1.out _ _ ?_;refine wp_cut ?_;intro KB HKB;refine wp_block ?_;refine wp_cut ?_;intro K1 HK1;go_wp2;refine HK1.out _ _ ?_;rw[<-hwa];clear hwa y0 y1;by_cases h0:rl=0
   ·have HV:=vl <| HNV.out h0
    have e0:((rl:Int)==0)=true:=by rw[h0];rfl
    clear h0;go_wp2;go_ret;exact⟨by rw[HV.out];rfl,HKa.out⟩
   ·have HN2:=HNO.out (by omega)
    have e0:((rl:Int)==0)=false:=by rw[beq_eq_false_iff_ne];omega
    clear h0;go_wp2;refine HKB.out _ _ ?_;clear HKB;go_wp2;go_roundg (sh.modes.length-(j+1))
    case measure=>rw[HA.out.1];omega
    case rel=>exact⟨j+1,rfl,by omega,by go_num,HN2,HKa.out⟩
  ·have i1:(sh.modes.length:Int)<=(j:Int):=by omega
   have c0:=C0.out wr hk;have HV:Hid (T=decide (0<sh.modes.length)):=by
    show _=_;rw[HTH.out];by_cases e:0<sh.modes.length
    ·rw[decide_eq_true e];exact decide_eq_true ⟨e,fun i hi=>hno i (by omega)⟩
    ·rw[decide_eq_false e];exact decide_eq_false fun h2=>e h2.1
   clear hgk hno hk;by_cases e:0<sh.modes.length
   ·have i2:(0:Int)<(sh.modes.length:Int):=by omega
    have HV2:Hid (T=true):=by show _=_;rw[HV.out];exact decide_eq_true e
    clear e;go_wp2;go_ret;exact⟨by rw[HV2.out];first|rfl|(simp;done)|(simp;omega),HA.out.2.2.1⟩
   ·have i2:(sh.modes.length:Int)<=0:=by omega
    have HV2:Hid (T=false):=by show _=_;rw[HV.out];exact decide_eq_false e
    clear e;go_wp2;go_ret;exact⟨by rw[HV2.out];first|rfl|(simp;done)|(simp;omega)|(simp;exact List.length_eq_zero_iff.1 (by omega)),HA.out.2.2.1⟩
theorem zJa (l:List Tr)(h:∀t∈l,t.chars<=25)(j:Nat)(hj:j<=l.length):yI l j<=25*j:=by
 induction j with
 |zero=>exact Nat.le_refl _
 |succ j ih=>
  have h1:=ih (by omega);have hm:l.getD j Tr.none∈l:=by
   rw[List.getD_eq_getElem?_getD,List.getElem?_eq_getElem (by omega:j<l.length)];exact List.getElem_mem _
  have h2:=h _ hm;show yI l j+(l.getD j Tr.none).chars<=_;omega
theorem zFl (w:World)(X:Nat->Prop)(S D:Nat)(sh:Sh)(mv dv av pv:Value)(rv:Nat->Value)(ps:Nat->List Nat)(dp:Nat->Nat)(h:Sw w X S D sh mv dv av pv rv ps dp)(ok:ShOk sh D)(few:vP sh):
  Calls prog 59 #[.pointer (some ⟨S,0,none⟩)] w fun e w'=>e=.returned (.bool sh.fitB)∧Grew w w':=by
 obtain⟨ao,cap0,hmv⟩:=zE h.mOwn;subst hmv;obtain⟨c0,-,-,-,-⟩:=h.cells;have HS:Hid (Sw w X S D sh (.slice ao sh.modes.length cap0) dv av pv rv ps dp∧ShOk sh D∧vP sh):=⟨h,ok,few⟩
 have hm3:=ok.modes;have HTH:Hid (sh.fitB=decide (∀i,i<sh.modes.length->yI (sh.mode i).2 (sh.mode i).2.length<=24)):=rfl;generalize sh.fitB=T at *;go_in;go_wp2;go_loopg [13] sh.modes.length (fun q i wr=>∃j:Nat,q=sh.modes.length-j∧j<=sh.modes.length∧i=.int .i64 (j:Int)∧(∀k,k<j->yI (sh.mode k).2 (sh.mode k).2.length<=24)∧Grew w wr)
 case atStart=>exact⟨0,rfl,Nat.zero_le _,rfl,fun k hk=>by omega,Keep.refl _ _ _⟩
 case round=>
  obtain⟨j,hgk,hj,rfl,hno,hk⟩:=hrel;have HA:Hid (gk=sh.modes.length-j∧(∀k,k<j->yI (sh.mode k).2 (sh.mode k).2.length<=24)∧Grew w wr∧w.heap.size<=wr.heap.size):=⟨hgk,hno,hk,hk.size⟩
  by_cases hj2:j<sh.modes.length
  ·have i1:(j:Int)<(sh.modes.length:Int):=by omega
   obtain⟨mg,ra,rc,rfl,hrv,y0,y1⟩:=zCF HS.out.1 hj2 hk;obtain⟨wa,hwa,z1,HKa⟩:∃wa,wa=wr.alloc (.cells #[.string (sh.mode j).1,.slice ra (sh.mode j).2.length rc] 120)∧wa.cell? ⟨wr.heap.size,1,none⟩=some (.slice ra (sh.mode j).2.length rc)∧Hid (Grew w wa):=by
    have hb2:=heap_alloc_new wr (.cells #[.string (sh.mode j).1,.slice ra (sh.mode j).2.length rc] 120);refine⟨_,rfl,?_,HA.out.2.2.1.trans (Keep.alloc _ _ HA.out.2.2.2)⟩;unfold cell?;rw[hb2];rfl
   have HNO:Hid (yI (sh.mode j).2 (sh.mode j).2.length<=24->∀k,k<j+1->yI (sh.mode k).2 (sh.mode k).2.length<=24):=fun hh k hk=>by
    by_cases e:k=j
    ·rw[e];exact hh
    ·exact HA.out.2.1 k (by omega)
   have HNV:Hid (24<yI (sh.mode j).2 (sh.mode j).2.length->T=false):=fun hh=>by
    rw[HTH.out];exact decide_eq_false fun h2=>by have:=h2 j hj2;omega
   have HRC:Hid (∀i,i<(sh.mode j).2.length->∃rg p,ra=some ⟨rg,0,none⟩∧wa.cell? ⟨rg,i,none⟩=some (.pointer (some ⟨p,0,none⟩))∧wa.cell? ⟨p,7,none⟩=some (.int .i64 (((sh.mode j).2.getD i Tr.none).chars:Int))∧((sh.mode j).2.getD i Tr.none).chars<=25):=fun i hi=>by
    obtain⟨rg,rc2,hr2,-,hrgl,-,-,hcl,-⟩:=qG (HS.out.1.rOwn j hj2) (by omega);rw[hrv] at hr2;injection hr2 with ea eb ec;have hpl:(ps j).length=(sh.mode j).2.length:=by
     have:=(HS.out.1.rOwn j hj2).1;unfold xT at this;rw[List.length_map] at this;omega
    have e1:(xT (ps j))[i]? =some (.pointer (some ⟨(ps j).getD i 0,0,none⟩)):=by
     unfold xT;rw[List.getElem?_map,List.getElem?_eq_getElem (by omega:i<(ps j).length),List.getD_eq_getElem?_getD,List.getElem?_eq_getElem (by omega:i<(ps j).length)];rfl
    have ht:=HS.out.1.rTree j hj2 i hi;have hpw:In w ((ps j).getD i 0):=by
     cases D with
     |zero=>exact False.elim ht.at
     |succ d=>exact ht.at.1
    have hm:(sh.mode j).2.getD i Tr.none∈(sh.mode j).2:=by
     rw[List.getD_eq_getElem?_getD,List.getElem?_eq_getElem hi];exact List.getElem_mem _
    exact⟨rg,_,ea,zA (hcl _ _ e1) hrgl HKa.out,zA ht.chars hpw HKa.out,(HS.out.2.1.rules j hj2 _ hm).few⟩
   have hrl:(sh.mode j).2.length<=8:=Nat.le_trans (HS.out.2.2 j hj2) HS.out.2.1.acts;have HCL:=vl <| zJa _ fun t ht=>(HS.out.2.1.rules j hj2 t ht).few;generalize (sh.mode j).2=L at *;refine wp_cut ?_;intro K1 HK1;go_wp2;refine HK1.out _ _ ?_;clear HK1;refine wp_cut ?_;intro K1 HK1;go_wp2;refine HK1.out _ _ ?_;clear HK1;refine wp_cut ?_;intro KB HKB;refine wp_block ?_;refine wp_cut ?_;intro K1 HK1;go_wp2;refine HK1.out _ _ ?_;clear HK1;rw[<-hwa];clear hwa y0 y1;go_wp2;clear z1;go_loopg [5,20] L.length (fun q c i w2=>∃k:Nat,q=L.length-k∧k<=L.length∧c=.int .i64 (yI L k:Nat)∧i=.int .i64 (k:Int)∧w2=wa)
   case atStart=>exact⟨0,rfl,Nat.zero_le _,rfl,rfl,rfl⟩
   case round=>
    obtain⟨k,hgk2,hk,rfl,rfl,rfl⟩:=hrel;have HGK:=vl hgk2;by_cases hk2:k<L.length
    ·have i2:(k:Int)<(L.length:Int):=by omega
     obtain⟨rg,p,rfl,x0,x1,hc25⟩:=HRC.out k hk2;have hcb:=HCL.out k (by omega);have HCS:Hid (yI L (k+1)=yI L k+(L.getD k Tr.none).chars):=rfl;clear hgk2;generalize (L.getD k Tr.none).chars=cc at *;generalize yI L k=sum at *;go_wp2;go_roundg (L.length-(k+1))
     case measure=>rw[HGK.out];omega
     case rel=>exact⟨k+1,rfl,by omega,by rw[HCS.out];go_num,by go_num,rfl⟩
    ·have i2:(L.length:Int)<=(k:Int):=by omega
     have e:k=L.length:=by omega
     subst e;have hcb:=HCL.out L.length (Nat.le_refl _);clear hgk2;generalize yI L L.length=sum at *;by_cases h24:24<sum
     ·have HV:=vl <| HNV.out h24
      have j24:(24:Int)<(sum:Int):=by omega
      clear h24;go_wp2;go_ret;exact⟨by rw[HV.out];rfl,HKa.out⟩
     ·have HN2:=vl <| HNO.out (by omega)
      have j24:(sum:Int)<=24:=by omega
      clear h24;go_wp2;refine HKB.out _ _ ?_;clear HKB;go_wp2;go_roundg (sh.modes.length-(j+1))
      case measure=>rw[HA.out.1];omega
      case rel=>exact⟨j+1,rfl,by omega,by go_num,HN2.out,HKa.out⟩
  ·have i1:(sh.modes.length:Int)<=(j:Int):=by omega
   have HV:Hid (T=true):=by
    show _=_;rw[HTH.out];exact decide_eq_true fun i hi=>hno i (by omega)
   clear hgk hno hk;go_wp2;go_ret;exact⟨by rw[HV.out];rfl,HA.out.2.2.1⟩
def jK (s:ByteArray):Sh ⊕ (Nat×Nat):=
 if 400<s.size then .inr (0,1) else
 match jF (s.size+1) Sh.none 1 s with
 | .inr n=>.inr (n,2)
 | .inl sh=>if sh.there&&sh.haveB then(if sh.fitB then .inl sh else .inr (0,4)) else .inr (0,3)
theorem zF8:∀f sh n s m,jF f sh n s=.inr m->n<=m
 |0,_,_,_,_,h=>by cases h
 |f+1,sh,n,s,m,h=>by
  have h2:(if s.size=0 then .inl sh else if jS s 10 then(match xV sh (yM s 10) with|none=>.inr n|some sh'=>jF f sh' (n+1) (qE s 10)) else .inr n)=(.inr m:Sh ⊕ Nat):=h;split at h2
  ·cases h2
  split at h2
  ·cases hm:xV sh (yM s 10) with
   |none=>rw[hm] at h2;cases h2;exact Nat.le_refl _
   |some sh'=>
    rw[hm] at h2;exact Nat.le_of_succ_le (zF8 f sh' (n+1) _ m h2)
  ·cases h2;exact Nat.le_refl _
theorem Sw.low {w w2:World}{X:Nat->Prop}{S D:Nat}{sh:Sh}{mv dv av pv:Value}{rv:Nat->Value}{ps:Nat->List Nat}{dp:Nat->Nat}(h:Sw w X S D sh mv dv av pv rv ps dp)(ho:w2.os=w.os)(hu:w2.output=w.output)(hz:w.heap.size<=w2.heap.size)(hb:∀k,S<=k->k<w.heap.size->w2.heap[k]? =w.heap[k]?):Sw w2 X S D sh mv dv av pv rv ps dp:=by
 have hr:∀{e z n v xs},w.ownsRow (S+1) e z v n xs->w2.ownsRow (S+1) e z v n xs:=fun ho=>zD ho fun g h1 hg _=>hb g (by omega) hg;have ha:Agree X w w2:=⟨ho,hu,hz,fun i hi hx=>hb i (Nat.le_of_lt (h.xlt i hx).1) hi⟩
 exact⟨(hb S (Nat.le_refl _) h.lt).trans h.blk,hr h.mOwn,hr h.dOwn,hr h.aOwn,hr h.pOwn,fun i hi=>hr (h.rOwn i hi),h.rApart,fun i hi k hk2=>(h.rTree i hi k hk2).go ha,fun i hi=>(h.dTree i hi).go ha,fun g hg=>⟨(h.xlt g hg).1,Nat.lt_of_lt_of_le (h.xlt g hg).2 hz⟩,h.xm,h.xr,Nat.lt_of_lt_of_le h.lt hz⟩
structure SpecIs (w:World)(D:Nat)(mv av pv:Value)(sh:Sh):Prop where
 sheet:∃X S dv qv rv ps dp,Sw w X S D sh mv dv av qv rv ps dp
 pushes:Ints w (In w) pv (sh.pushesTo sh.pushed.length)
 ok:ShOk sh D
 few:vP sh
 there:sh.there=true
 have_:sh.haveB=true
 fit:sh.fitB=true
def zEu (w:World)(D:Nat)(G:Sh ⊕ (Nat×Nat))(e:Ending)(w':World):Prop:=
 Grew w w'∧match G with
 | .inr (n,k)=>e=.returned (.tuple #[.agg #[.slice none 0 0,.slice none 0 0,.slice none 0 0],.int .i64 (n:Int),.int .i64 (k:Int)])
 | .inl sh=>∃mv av pv,e=.returned (.tuple #[.agg #[mv,av,pv],.int .i64 0,.int .i64 0])∧SpecIs w' D mv av pv sh
def zM6 (w w2:World):Prop:=Hid (w2.heap[w.heap.size]? =some (.cells #[.slice none 0 0,.slice none 0 0,.slice none 0 0] 79)∧Grew w w2)∧w2.cell? ⟨w.heap.size,0,none⟩=some (.slice none 0 0)∧w2.cell? ⟨w.heap.size,1,none⟩=some (.slice none 0 0)∧w2.cell? ⟨w.heap.size,2,none⟩=some (.slice none 0 0)∧w2.frozen? ⟨w.heap.size,0,none⟩=false∧w2.frozen? ⟨w.heap.size,1,none⟩=false∧w2.frozen? ⟨w.heap.size,2,none⟩=false
theorem zBf (w w2:World)(u v q:Value)(hB:Hid (w2.heap[w.heap.size]? =some (.cells #[.slice none 0 0,.slice none 0 0,.slice none 0 0] 79)∧Grew w w2)):
  ∃w3,w3=((w2.setCell ⟨w.heap.size,0,none⟩ u).setCell ⟨w.heap.size,1,none⟩ v).setCell ⟨w.heap.size,2,none⟩ q∧w3.cell? ⟨w.heap.size,0,none⟩=some u∧w3.cell? ⟨w.heap.size,1,none⟩=some v∧w3.cell? ⟨w.heap.size,2,none⟩=some q∧Hid (Grew w w3∧w3.heap.size=w2.heap.size∧w3.os=w2.os∧w3.output=w2.output∧∀k,k≠w.heap.size->w3.heap[k]? =w2.heap[k]?):=by
 obtain⟨hB,hk⟩:=hB;have h2:(((w2.setCell ⟨w.heap.size,0,none⟩ u).setCell ⟨w.heap.size,1,none⟩ v).setCell ⟨w.heap.size,2,none⟩ q).heap[w.heap.size]? =some (.cells #[u,v,q] 79):=by
  simp[setCell,Array.getElem?_modify,hB]
 have hne:∀i,i≠w.heap.size->(((w2.setCell ⟨w.heap.size,0,none⟩ u).setCell ⟨w.heap.size,1,none⟩ v).setCell ⟨w.heap.size,2,none⟩ q).heap[i]? =w2.heap[i]? :=fun i hi2=>by
  simp[setCell,Array.getElem?_modify,Ne.symm hi2]
 refine⟨_,rfl,?_,?_,?_,hk.trans ⟨rfl,rfl,by simp[World.setCell],fun k h1 _=>hne k (by omega)⟩,by simp[World.setCell],rfl,rfl,hne⟩
 all_goals (unfold cell?;rw[h2];rfl)
theorem zHo {w w2:World}(hk:Keep (w.heap.size+1) (w.heap.size+1) (w.alloc (.cells #[.slice none 0 0,.slice none 0 0,.slice none 0 0] 79)) w2):zM6 w w2:=by
 have h1:=heap_alloc_new w (.cells #[.slice none 0 0,.slice none 0 0,.slice none 0 0] 79);have h2:=(hk.block w.heap.size (by omega) (by omega)).trans h1;refine⟨⟨h2,(Keep.alloc (H:=w.heap.size) (b:=w.heap.size) _ _ (Nat.le_refl _)).trans ⟨hk.os,hk.output,hk.size,fun k h1 h2=>hk.block k (by omega) (by omega)⟩⟩,?_,?_,?_,?_,?_,?_⟩
 all_goals first|(unfold cell?;rw[h2];rfl)|(unfold frozen?;rw[h2];simp)
theorem zJ5 (w:World):SwIs (w.alloc (.cells #[.slice none 0 0,.slice none 0 0,.slice none 0 0,.slice none 0 0] 114)) w.heap.size 1 Sh.none:=by
 refine⟨fun _=>False,_,_,_,_,fun _=>.slice none 0 0,fun _=>[],fun _=>0,heap_alloc_new _ _,ownsRow_nil _ _ _ _,ownsRow_nil _ _ _ _,ownsRow_nil _ _ _ _,ownsRow_nil _ _ _ _,fun i hi=>absurd hi (Nat.not_lt_zero _),fun i j g hi=>absurd hi (Nat.not_lt_zero _),fun i hi=>absurd hi (Nat.not_lt_zero _),fun i hi=>absurd hi (Nat.not_lt_zero _),fun g hg=>hg.elim,fun g hg=>hg.elim,fun g i hg=>hg.elim,by simp⟩
theorem zKf (D:Nat):ShOk Sh.none D:=⟨by show 0<=3;omega,by show 0<=4;omega,by show 0<=8;omega,rfl,fun i hi=>absurd hi (Nat.not_lt_zero _),fun d hd=>(by cases hd),fun i hi=>absurd hi (Nat.not_lt_zero _)⟩
theorem zIJ:vP Sh.none:=fun i hi=>absurd hi (Nat.not_lt_zero _)
theorem zIy (w:World)(s:ByteArray):∃w1 w2,w1=w.alloc (.cells #[.slice none 0 0,.slice none 0 0,.slice none 0 0] 79)∧w2=w1.alloc (.cells #[.slice none 0 0,.slice none 0 0,.slice none 0 0,.slice none 0 0] 114)∧Hid (∀v,Keep (w.heap.size+1) (w.heap.size+1) w2 v->zM6 w v)∧Hid (w1.heap.size=w.heap.size+1)∧Hid (zM6 w w1)∧(s.size<=400->Hid (Calls prog 56 #[.pointer (some ⟨w.heap.size+1,0,none⟩),.string s] w2 (zMx w2 (w.heap.size+1) (1+6*s.size) (jF (s.size+1) Sh.none 1 s)))):=by
 have hz:(w.alloc (.cells #[.slice none 0 0,.slice none 0 0,.slice none 0 0] 79)).heap.size=w.heap.size+1:=by simp
 refine⟨_,_,rfl,rfl,fun v hk=>zHo ((Keep.alloc _ _ (by rw[hz];omega)).trans hk),hz,zHo (Keep.refl _ _ _),fun h4=>?_⟩;have:=zJ5 (w.alloc (.cells #[.slice none 0 0,.slice none 0 0,.slice none 0 0] 79));rw[hz] at this;exact zEe _ _ 1 Sh.none this (zKf 1) zIJ s (by omega)
theorem SwIs.grew {w2 v v':World}{S D:Nat}{sh:Sh}(h:SwIs v S D sh)(hK:Keep S S w2 v)(hk:Grew v v'):SwIs v' S D sh∧Keep S S w2 v'∧S<v.heap.size:=by
 obtain⟨X,mv,dv,av,pv,rv,ps,dp,h⟩:=h;exact⟨⟨X,mv,dv,av,pv,rv,ps,dp,h.grown hk⟩,hK.trans (hk.lower (Nat.le_of_lt h.lt) (Nat.le_of_lt h.lt)),h.lt⟩
theorem zMN {v:World}{S D:Nat}{sh:Sh}(h:SwIs v S D sh)(ok:ShOk sh D):Calls prog 57 #[.pointer (some ⟨S,0,none⟩)] v fun e w'=>∃u,e=.returned (.tuple #[u,.bool sh.there])∧(∃a n c,u=.slice a n c)∧(sh.there=true->OwnI w' v.heap.size u (sh.pushesTo sh.pushed.length))∧Grew v w':=by
 obtain⟨X,mv,dv,av,pv,rv,ps,dp,h⟩:=h;exact zC1 v X _ _ sh mv dv av pv rv ps dp h ok.modes (by rw[ok.same];exact ok.acts)
theorem zMT {v:World}{S D:Nat}{sh:Sh}(h:SwIs v S D sh)(ok:ShOk sh D):Calls prog 58 #[.pointer (some ⟨S,0,none⟩)] v fun e w'=>e=.returned (.bool sh.haveB)∧Grew v w':=by
 obtain⟨X,mv,dv,av,pv,rv,ps,dp,h⟩:=h;exact zEi v X _ _ sh mv dv av pv rv ps dp h ok.modes
theorem zMY {v:World}{S D:Nat}{sh:Sh}(h:SwIs v S D sh)(ok:ShOk sh D)(few:vP sh):Calls prog 59 #[.pointer (some ⟨S,0,none⟩)] v fun e w'=>e=.returned (.bool sh.fitB)∧Grew v w':=by
 obtain⟨X,mv,dv,av,pv,rv,ps,dp,h⟩:=h;exact zFl v X _ _ sh mv dv av pv rv ps dp h ok few
theorem zAx (w:World)(s:ByteArray)(hs:s.size<=1048576):Calls prog 43 #[.string s] w (zEu w (1+6*s.size) (jK s)):=by
 obtain⟨w1,w2,hw1,hw2,HK1,HZ1,HB1,hrl⟩:=zIy w s;obtain⟨G,hG⟩:∃G,G=jK s:=⟨_,rfl⟩
 have HG:=vl hG;rw[<-hG];go_in;refine wp_cut ?_;intro K0 HK0;go_wp2;refine HK0.out _ _ ?_;rcases Nat.lt_or_ge 400 s.size with h4|h4
 ·have HG2:G=.inr (0,1):=by rw[HG.out];unfold jK;rw[if_pos h4]
  rw[HG2,<-hw1];clear hw1;have i4:(400:Int)<(s.size:Int):=by omega
  obtain⟨HB,c0,c1,c2,f0,f1,f2⟩:=HB1.out;go_wp2;obtain⟨w7,hw7,z0,z1,z2,HZ⟩:=zBf w w1 (.slice none 0 0) (.slice none 0 0) (.slice none 0 0) HB;rw[<-hw7];refine bodyPost_ret (v:=.tuple #[.agg #[.slice none 0 0,.slice none 0 0,.slice none 0 0],.int .i64 0,.int .i64 1]) (by simp[results,results43,go_sem,z0,z1,z2]) rfl ?_;exact⟨HZ.out.1,rfl⟩
 have i4:(s.size:Int)<=400:=by omega
 have HRL:=hrl h4;clear hrl;refine wp_cut ?_;intro K0 HK0;go_wp2;refine HK0.out _ _ ?_;clear HK0;refine wp_cut ?_;intro K0 HK0;go_wp2;refine HK0.out _ _ ?_;rw[<-hw1,<-hw2];clear hw1 hw2 HK0 HB1;rcases hn:jF (s.size+1) Sh.none 1 s with sh|n;rotate_left
 ·rw[hn] at HRL
  have HG2:G=.inr (n,2):=by rw[HG.out];unfold jK;rw[if_neg (by omega),hn]
  rw[HG2];have hn1:(0:Int)<(n:Int):=by have:=zF8 _ _ _ _ _ hn;omega
  clear hn;go_wp2_with (first|(go_at_call 56;refine HRL.out.mono ?_;rintro e v ⟨hK,rfl⟩;obtain⟨HB,c0,c1,c2,f0,f1,f2⟩:=HK1.out v hK))
  obtain⟨w7,hw7,z0,z1,z2,HZ⟩:=zBf w v (.slice none 0 0) (.slice none 0 0) (.slice none 0 0) HB;rw[<-hw7];refine bodyPost_ret (v:=.tuple #[.agg #[.slice none 0 0,.slice none 0 0,.slice none 0 0],.int .i64 (n:Int),.int .i64 2]) (by simp[results,results43,go_sem,z0,z1,z2]) rfl ?_;exact⟨HZ.out.1,rfl⟩
 rw[hn] at HRL;have HG2:Hid (G=if sh.there&&sh.haveB then(if sh.fitB then .inl sh else .inr (0,4)) else .inr (0,3)):=by show _=_;rw[HG.out];unfold jK;rw[if_neg (by omega),hn]
 clear hn HG;have HPM:=vl fun v h ok=>zMN (v:=v) (S:=w.heap.size+1) (D:=1+6*s.size) (sh:=sh) h ok;have HHR:=vl fun v h ok=>zMT (v:=v) (S:=w.heap.size+1) (D:=1+6*s.size) (sh:=sh) h ok;have HCF:=vl fun v h ok few=>zMY (v:=v) (S:=w.heap.size+1) (D:=1+6*s.size) (sh:=sh) h ok few;rcases hth:sh.there with _|_;rotate_left;rcases hhv:sh.haveB with _|_;rotate_left;rcases hft:sh.fitB with _|_;rotate_left
 ·rw[hth] at HPM
  rw[hhv] at HHR;rw[hft] at HCF;rw[hth,hhv,hft] at HG2;have HTT:=vl (And.intro hth (And.intro hhv hft));clear hth hhv hft;refine wp_cut ?_;intro K0 HK0;go_wp2_with (first|(go_at_call 56;refine HRL.out.mono ?_;rintro e w3 ⟨hk3,rfl,hS3,hO3,hF3⟩))
  refine HK0.out _ _ ?_;clear HK0;refine wp_cut ?_;intro K0 HK0;go_wp2;refine HK0.out _ _ ?_;clear HK0;refine wp_cut ?_;intro K0 HK0;go_wp2_with (first|(go_at_call 57;refine(HPM.out w3 hS3 hO3).mono ?_;rintro e w4 ⟨v4,rfl,⟨a4,n4,c4,rfl⟩,hv4,hk4⟩;obtain⟨hS4,hK4,hl3⟩:=hS3.grew hk3 hk4))
  refine HK0.out _ _ ?_;clear HK0;refine wp_cut ?_;intro K0 HK0;go_wp2_with (first|(go_at_call 58;refine(HHR.out w4 hS4 hO3).mono ?_;rintro e w5 ⟨rfl,hk5⟩;obtain⟨hS5,hK5,-⟩:=hS4.grew hK4 hk5))
  refine HK0.out _ _ ?_;clear HK0;refine wp_cut ?_;intro K0 HK0;go_wp2_with (first|(go_at_call 59;refine(HCF.out w5 hS5 hO3 hF3).mono ?_;rintro e w6 ⟨rfl,hk6⟩;obtain⟨hS6,hK6,-⟩:=hS5.grew hK5 hk6))
  refine HK0.out _ _ ?_;clear HK0;obtain⟨X,mv,dv,av,qv,rv,ps,dp,h6⟩:=hS6;obtain⟨am,cm,hmv⟩:=zE h6.mOwn;obtain⟨aa,ca,hav⟩:=zE h6.aOwn;subst hmv hav;obtain⟨x0,-,x2,-,-⟩:=h6.cells;obtain⟨HB,c0,c1,c2,f0,f1,f2⟩:=HK1.out w6 hK6;obtain⟨w7,hw7,z0,z1,z2,HZ⟩:=zBf w w6 (.slice am sh.modes.length cm) (.slice aa sh.acts.length ca) (.slice a4 n4 c4) HB;have HOW:=vl (zJ (zJ (hv4 trivial) hk5) hk6);have H6:=vl (And.intro h6 (And.intro hO3 (And.intro hF3 hl3)));clear HB h6 hv4 hk4 hk5 hk6 hS3 hO3 hF3 hk3 hS4 hS5 hK4 hK5 hK6 hl3 HRL HPM HHR HCF HK1;refine wp_cut ?_;intro K0 HK0;go_region
  all_goals
   rw[<-hw7];obtain⟨w8,hw8,y0,y1,y2,H8⟩:∃w8,w8=w7.drew∧w8.cell? ⟨w.heap.size,0,none⟩=some (.slice am sh.modes.length cm)∧w8.cell? ⟨w.heap.size,1,none⟩=some (.slice aa sh.acts.length ca)∧w8.cell? ⟨w.heap.size,2,none⟩=some (.slice a4 n4 c4)∧Hid (Grew w w8∧SpecIs w8 (1+6*s.size) (.slice am sh.modes.length cm) (.slice aa sh.acts.length ca) (.slice a4 n4 c4) sh):=by
    obtain⟨k1,k2,k3,k4,k5⟩:=HZ.out;have k6:w7.drew.heap.size=w6.heap.size:=k2;refine⟨_,rfl,z0,z1,z2,⟨k1.os,k1.output,k1.size,k1.block⟩,⟨⟨X,_,dv,qv,rv,ps,dp,H6.out.1.low k3 k4 (by omega) fun k h1 _=>k5 k (by omega)⟩,zAB (H:=w3.heap.size) (zD HOW.out fun g h1 _ _=>k5 g (by have:=H6.out.2.2.2;omega)),H6.out.2.1,H6.out.2.2.1,HTT.out.1,HTT.out.2.1,HTT.out.2.2⟩⟩
   rw[<-hw8];show K0 _ _;refine HK0.out _ _ ?_;clear HK0;clear hw7 hw8 z0 z1 z2 x0 x2 c0 c1 c2 f0 f1 f2;go_wp2;refine bodyPost_ret (v:=.tuple #[.agg #[.slice am sh.modes.length cm,.slice aa sh.acts.length ca,.slice a4 n4 c4],.int .i64 0,.int .i64 0]) (by simp[results,results43,go_sem,y0,y1,y2]) rfl ?_;rw[HG2.out];exact⟨H8.out.1,_,_,_,rfl,H8.out.2⟩
 all_goals
  rw[hth] at HPM HG2
  try rw[hhv] at HHR HG2
  try rw[hft] at HCF HG2
  clear hth
  try clear hhv
  try clear hft
  go_wp2_with ((first|(go_at_call 56;refine HRL.out.mono ?_;rintro e v ⟨hK,rfl,hS,hO,hF⟩)|(go_at_call 57;refine(HPM.out v hS hO).mono ?_;rintro e v ⟨v4,rfl,⟨a4,n4,c4,rfl⟩,-,hk4⟩;obtain⟨hS,hK,-⟩:=hS.grew hK hk4)|(go_at_call 58;refine(HHR.out v hS hO).mono ?_;rintro e v ⟨rfl,hk4⟩;obtain⟨hS,hK,-⟩:=hS.grew hK hk4)|(go_at_call 59;refine(HCF.out v hS hO hF).mono ?_;rintro e v ⟨rfl,hk4⟩;obtain⟨hS,hK,-⟩:=hS.grew hK hk4));obtain⟨HB,c0,c1,c2,f0,f1,f2⟩:=HK1.out v hK)
  obtain⟨w7,hw7,z0,z1,z2,HZ⟩:=zBf w v (.slice none 0 0) (.slice none 0 0) (.slice none 0 0) HB;rw[<-hw7]
  first
  |(refine bodyPost_ret (v:=.tuple #[.agg #[.slice none 0 0,.slice none 0 0,.slice none 0 0],.int .i64 0,.int .i64 3]) (by simp[results,results43,go_sem,z0,z1,z2];done) rfl ?_;rw[HG2.out];exact⟨HZ.out.1,rfl⟩)
  |(refine bodyPost_ret (v:=.tuple #[.agg #[.slice none 0 0,.slice none 0 0,.slice none 0 0],.int .i64 0,.int .i64 4]) (by simp[results,results43,go_sem,z0,z1,z2];done) rfl ?_;rw[HG2.out];exact⟨HZ.out.1,rfl⟩)
section
structure Mk.Tab (m:Mk)(nr:Int):Prop where
 one:1<=m.next.length
 wide:∀row∈m.next,row.length=256∧∀x∈row,0<=x∧x<(m.next.length:Int)
 rules:∀r∈m.rules,-1<=r∧r<nr
 of:∀x∈m.of,0<=x∧x<(m.next.length:Int)
def Mk.Inr (m:Mk)(x:Int):Prop:=0<=x∧x<(m.next.length:Int)
theorem Mk.Inr.grow {m m':Mk}{x:Int}(h:m.Inr x)(hg:m.next.length<=m'.next.length):m'.Inr x:=⟨h.1,by have:=h.2;omega⟩
theorem zG8 (x:Int)(h:x∈zeros):x=0:=List.eq_of_mem_replicate h
section
variable {m:Mk} {nr:Int} {most:Nat}
theorem zJL (h:m.Tab nr){r:Int}(hr:-1<=r∧r<nr):(m.add most r).Tab nr:=by
 unfold Mk.add;split
 ·exact⟨h.one,h.wide,h.rules,h.of⟩
 ·have hl:(m.next++[zeros]).length=m.next.length+1:=by simp
  refine⟨by show 1<=(m.next++[zeros]).length;omega,fun row hrow=>?_,fun q hq=>?_,fun x hx=>?_⟩
  ·show _∧∀x∈row,0<=x∧x<((m.next++[zeros]).length:Int)
   rcases List.mem_append.1 hrow with h1|h1
   ·obtain⟨a,b⟩:=h.wide row h1
    exact⟨a,fun x hx=>by have:=b x hx;omega⟩
   ·rw[List.mem_singleton.1 h1]
    exact⟨by unfold zeros;exact List.length_replicate,fun x hx=>by rw[zG8 x hx];omega⟩
  ·rcases List.mem_append.1 hq with h1|h1
   ·exact h.rules q h1
   ·rw[List.mem_singleton.1 h1];exact hr
  ·show 0<=x∧x<((m.next++[zeros]).length:Int)
   have:=h.of x hx;omega
theorem zG6 (h:m.Tab nr)(r:Int):(m.add most r).Inr (m.addN most:Int):=by
 have:=h.one;unfold Mk.add Mk.addN Mk.Inr;split
 ·show(0:Int)<=((0:Nat):Int)∧((0:Nat):Int)<(m.next.length:Int)
  omega
 ·show(0:Int)<=(m.next.length:Int)∧(m.next.length:Int)<((m.next++[zeros]).length:Int)
  have hl:(m.next++[zeros]).length=m.next.length+1:=by simp
  omega
theorem zJp (h:m.Tab nr)(s b:Nat){x:Int}(hx:m.Inr x):(m.put s b x).Tab nr:=by
 have hl:=zC0 m s b x;refine⟨by rw[hl];exact h.one,fun row hrow=>?_,h.rules,fun y hy=>by rw[hl];exact h.of y hy⟩;rw[hl];have hr:row∈m.next.set s ((m.next.getD s []).set b x):=hrow
 rcases List.mem_or_eq_of_mem_set hr with h1|h1
 ·exact h.wide row h1
 ·by_cases hs:s<m.next.length
  ·have hm:m.next.getD s []∈m.next:=by
    rw[List.getD_eq_getElem?_getD,List.getElem?_eq_getElem hs];exact List.getElem_mem _
   obtain⟨a,c⟩:=h.wide _ hm;rw[h1];refine⟨by rw[List.length_set];exact a,fun y hy=>?_⟩;rcases List.mem_or_eq_of_mem_set hy with h2|h2
   ·exact c y h2
   ·rw[h2];exact hx
  ·rw[List.set_eq_of_length_le (by omega)] at hr
   exact h.wide row hr
theorem zI3 (h:m.Tab nr)(s:Nat){f:Nat->Int}(hf:∀i,i<64->m.Inr (f i))(j:Nat)(hj:j<=64):(m.fillTo s f j).Tab nr:=by
 induction j with
 |zero=>exact h
 |succ j ih=>
  rw[Mk.fillTo];exact zJp (ih (by omega)) _ _ ((hf j (by omega)).grow (by rw[zBn];omega))
theorem zHa (h:m.Tab nr)(hnr:0<=nr){f:Nat->Int}(hf:∀i,i<64->m.Inr (f i)):(m.withM most f).Tab nr∧(m.withM most f).Inr (m.withN most f:Int):=by
 have h1:=h.one;unfold Mk.withM Mk.withN;split
 ·exact⟨h,by unfold Mk.Inr;omega⟩
 split
 ·exact⟨h,by unfold Mk.Inr;omega⟩
 have ha:(m.add most (-1)).Tab nr:=zJL h ⟨by omega,by omega⟩;split
 ·exact⟨ha,zG6 h (-1)⟩
 ·exact⟨zI3 ha _ (fun i hi=>(hf i hi).grow (zDO m most (-1))) 64 (Nat.le_refl _),(zG6 h (-1)).grow (by rw[zBn];omega)⟩
end
def zFv (nr:Int)(sub:Mk->Nat->Int×Mk):Prop:=∀m c,m.Tab nr->(sub m c).2.Tab nr∧(sub m c).2.Inr (sub m c).1
theorem zLv (most:Nat)(nr:Int)(hnr:0<=nr)(c:Nat):∀(m:Mk) (to:Int),m.Tab nr->m.Inr to->(Mk.even most c m to).2.Tab nr∧(Mk.even most c m to).2.Inr (Mk.even most c m to).1:=by
 induction c with
 |zero=>exact fun m to h ht=>⟨h,ht⟩
 |succ c ih=>
  intro m to h ht;obtain⟨a,b⟩:=zHa (most:=most) h hnr (f:=fun _=>to) fun _ _=>ht;exact ih (m.withM most fun _=>to) ((m.withN most fun _=>to:Nat):Int) a b
theorem zJs {m:Mk}{nr:Int}(h:m.Tab nr)(i:Nat):m.Inr (m.of.getD i 0):=by
 rw[List.getD_eq_getElem?_getD];by_cases hi:i<m.of.length
 ·rw[List.getElem?_eq_getElem hi]
  exact h.of _ (List.getElem_mem _)
 ·rw[List.getElem?_eq_none (by omega)]
  have:=h.one;exact⟨Int.le_refl _,by show(0:Int)<_;omega⟩
theorem zLU {nr:Int}{sub:Mk->Nat->Int×Mk}(h:zFv nr sub)(g:Grows sub)(step low:Nat){m:Mk}(hm:m.Tab nr)(j:Nat):(xD sub step low m j).2.Tab nr∧∀i,(xD sub step low m j).2.Inr ((xD sub step low m j).1 i):=by
 induction j with
 |zero=>
  have:=hm.one;exact⟨hm,fun i=>⟨Int.le_refl _,by show(0:Int)<_;show(0:Int)<(m.next.length:Int);omega⟩⟩
 |succ j ih=>
  obtain⟨a,b⟩:=ih;have h1:=a.one;unfold xD;split
  ·refine⟨a,fun i=>?_⟩
   show Mk.Inr _ (if i=j then 0 else _);split
   ·exact⟨Int.le_refl _,by show(0:Int)<((xD sub step low m j).2.next.length:Int);omega⟩
   ·exact b i
  ·obtain⟨c,d⟩:=h (xD sub step low m j).2 (low+j*step) a
   refine⟨c,fun i=>?_⟩;show Mk.Inr _ (if i=j then _ else _);split
   ·exact d
   ·exact(b i).grow (g _ _)
theorem zD4 (k:Kd)(a:Ar)(most kind cnt step:Nat){nr:Int}(hnr:0<=nr){sub:Mk->Nat->Int×Mk}(h:zFv nr sub)(g:Grows sub):zFv nr (jG k a most kind cnt step sub):=fun m low hm=>by
 unfold jG;split
 ·exact zLv most nr hnr cnt m _ hm (by unfold Mk.behind;exact zJs hm _)
 ·obtain⟨b,c⟩:=zLU h g step low hm 64
  exact zHa b hnr fun i _=>c i
theorem zCH (k:Kd)(a:Ar)(most kind:Nat){nr:Int}(hnr:0<=nr)(l:Nat):zFv nr (zU k a most kind l):=by
 induction l with
 |zero=>exact zD4 k a most kind 1 1 hnr (fun m c hm=>⟨hm,by unfold Mk.behind;exact zJs hm _⟩) fun m c=>Nat.le_refl _
 |succ l ih=>exact zD4 k a most kind (l+2) (vI (l+2)) hnr ih (zAo k a most kind l)
theorem zCd {nr:Int}{sub:Mk->Nat->Int×Mk}(h:zFv nr sub)(s lo:Nat){m:Mk}(hm:m.Tab nr)(j:Nat):(vH sub s lo m j).Tab nr:=by
 induction j with
 |zero=>exact hm
 |succ j ih=>
  obtain⟨a,b⟩:=h (vH sub s lo m j) (lo+j) ih;unfold vH;exact zJp a _ _ b
theorem zKw (k:Kd)(a:Ar)(most kind s:Nat){nr:Int}(hnr:0<=nr){m:Mk}(hm:m.Tab nr):(zBy k a most kind s m).Tab nr:=by
 unfold zBy;refine zCd (fun m c hm=>?_) _ _ ?_ _
 ·unfold zCy;exact zCH k a most kind hnr 2 m _ hm
 unfold zA7;refine zCd (fun m c hm=>?_) _ _ ?_ _
 ·unfold zCz;exact zCH k a most kind hnr 1 m _ hm
 unfold zA8;refine zCd (fun m c hm=>?_) _ _ ?_ _
 ·unfold zCA;exact zCH k a most kind hnr 0 m _ hm
 unfold zA9;exact zCd (fun m c hm=>⟨hm,by unfold zDr Mk.behind;exact zJs hm _⟩) _ _ hm _
theorem zJN (k:Kd)(most:Nat)(h1:1<=most){nr:Int}(hnr:0<=nr)(hr:∀r∈k.rules,-1<=r∧r<nr)(j:Nat)(hj:j<=k.rules.length):(zZ k most j).Tab nr:=by
 induction j with
 |zero=>
  have e:zZ k most 0=⟨[zeros],[-1],[],false⟩:=by
   show Mk.blank.add most (-1)=_;unfold Mk.add Mk.blank;rw[if_neg (by show¬most<=0;omega)];rfl
  rw[e];refine⟨Nat.le_refl _,fun row hrow=>?_,fun r hr=>?_,fun x hx=>by cases hx⟩
  ·rw[List.mem_singleton.1 hrow]
   exact⟨by unfold zeros;exact List.length_replicate,fun x hx=>by rw[zG8 x hx];exact⟨Int.le_refl _,by show(0:Int)<1;omega⟩⟩
  ·rw[List.mem_singleton.1 hr];omega
 |succ j ih=>
  have ih:=ih (by omega);have ho:=ih.one;unfold zZ;split
  ·refine⟨ih.one,ih.wide,ih.rules,fun x hx=>?_⟩
   have hx2:=hx;rcases List.mem_append.1 hx2 with h2|h2
   ·exact ih.of x h2
   ·rw[List.mem_singleton.1 h2];exact⟨Int.le_refl _,by show(0:Int)<((zZ k most j).next.length:Int);omega⟩
  ·have hrj:-1<=k.rules.getD j 0∧k.rules.getD j 0<nr:=by
    rw[List.getD_eq_getElem?_getD,List.getElem?_eq_getElem (by omega:j<k.rules.length)];exact hr _ (List.getElem_mem _)
   have ha:((zZ k most j).add most (k.rules.getD j 0)).Tab nr:=zJL ih hrj;have hn:((zZ k most j).add most (k.rules.getD j 0)).Inr ((zZ k most j).addN most:Int):=zG6 ih _;refine⟨ha.one,ha.wide,ha.rules,fun x hx=>?_⟩;have hx2:=hx;rcases List.mem_append.1 hx2 with h2|h2
   ·rw[<-zCN (zZ k most j) most (k.rules.getD j 0)] at h2
    exact ha.of x h2
   ·rw[List.mem_singleton.1 h2];exact hn
theorem zLf (k:Kd)(a:Ar)(most:Nat)(h1:1<=most){nr:Int}(hnr:0<=nr)(hr:∀r∈k.rules,-1<=r∧r<nr)(hl:k.rules.length=k.rows.length)(j:Nat):(qX k a most j).Tab nr:=by
 induction j with
 |zero=>exact zJN k most h1 hnr hr k.rows.length (by omega)
 |succ j ih=>
  unfold qX;split
  ·exact zKw k a most _ _ hnr ih
  ·exact ih
theorem zF6 (k:Kd)(a:Ar)(most:Nat){nr:Int}(hnr:0<=nr)(hr:∀r∈k.rules,-1<=r∧r<nr)(hl:k.rules.length=k.rows.length)(hf:(yA k a most).full=false):(yA k a most).Tab nr∧(yA k a most).Fit most:=by
 have h1:=(zHT k a most k.rows.length hf).1.one;have h2:=(zDA k a most k.rows.length).1;have h3:=h2.few;exact⟨zLf k a most (by omega) hnr hr hl _,h2⟩
end
end Go.Proofs.YtbjcfkdnjaiclaaGreat
