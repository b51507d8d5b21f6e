import Derived.Test.YtbjcfkdnjaiclaaGreatB0
import Derived.Test.YtbjcfkdnjaiclaaGreatB25
/- Parts of the proof. -/
set_option linter.unusedVariables false
set_option linter.unusedSimpArgs false
set_option maxHeartbeats 4000000
set_option maxRecDepth 100000
namespace Go.Proofs.YtbjcfkdnjaiclaaGreat
open Go.RowKit Go.Proofs.Tryz Go.World
theorem zHM {s:ByteArray}{D:Nat}{defs:List (ByteArray×Tr)}{t:Tr}(hs:s.size<=1048576)(hd:zA5 D defs)(h:vH s defs=some t):TrOk (D+2+4*s.size) t:=by
 unfold vH at h;cases hm:zBv s defs 8 0 false with
 |none=>rw[hm] at h;cases h
 |some g=>
  obtain⟨u,q⟩:=g;rw[hm] at h;have h2:(if q=s.size then some u else none)=some t:=h;split at h2
  ·rename_i e
   have e1:=hU h2;obtain⟨-,-,hk⟩:=jV hs hd 8 false 0 u q hm;rw[<-e1,<-e];exact hk
  ·cases h2
theorem ShOk.deep {sh:Sh}{D E:Nat}(h:ShOk sh D)(he:D<=E):ShOk sh E:=⟨h.modes,h.defs,h.acts,h.same,h.names,fun d hd=>(h.trees d hd).deep he,fun i hi t ht=>(h.rules i hi t ht).deep he⟩
theorem zI6 {s:ByteArray}(h:xG s=true):s.size<=6:=by
 unfold xG at h;rw[Bool.and_eq_true,Bool.and_eq_true] at h;exact of_decide_eq_true h.2.1
theorem zHL {sh sh':Sh}{nm:ByteArray}{D:Nat}(h:yG sh nm=some sh')(ok:ShOk sh D)(few:vR sh):ShOk sh' D∧vR sh':=by
 unfold yG at h;split at h
 ·cases h
 split at h
 ·cases h
 split at h
 ·rename_i h3 _ _
  have e:=hU h;subst e;have hl:=jC sh nm;refine⟨⟨by omega,ok.defs,ok.acts,ok.same,ok.names,ok.trees,fun i hi t ht=>?_⟩,fun i hi=>?_⟩
  ·by_cases e:i=sh.modes.length
   ·subst e;rw[zAi] at ht;cases ht
   ·rw[zAh sh nm i (by omega)] at ht;exact ok.rules i (by omega) t ht
  ·by_cases e:i=sh.modes.length
   ·subst e;rw[zAi];exact lX
   ·rw[zAh sh nm i (by omega)];exact few i (by omega)
 ·cases h
theorem zIV {sh sh':Sh}{s:ByteArray}{D:Nat}(h:vP sh s=some sh')(hs:s.size<=1000)(ok:ShOk sh D)(few:vR sh):ShOk sh' (D+2+4*s.size)∧vR sh':=by
 have hBs:=jA s 32;unfold vP at h;split at h
 ·split at h
  ·cases h
  split at h
  ·cases h
  split at h
  ·rename_i h4 _ hn
   cases hr:vH (qF s 32) sh.defs with
   |none=>rw[hr] at h;cases h
   |some t=>
    rw[hr] at h;have e:=hU h;subst e;have hl:=zCX sh (yM s 32) t;have ht:=(zHM (by omega) ok.trees hr).deep (show _<=D+2+4*s.size by omega);have ok2:=ok.deep (show D<=D+2+4*s.size by omega);refine⟨⟨ok2.modes,by omega,ok2.acts,ok2.same,fun i hi=>?_,fun d hd=>?_,ok2.rules⟩,few⟩
    ·by_cases e:i=sh.defs.length
     ·subst e;rw[zCW];exact zI6 hn
     ·rw[zCV sh _ t i (by omega)];exact ok.names i (by omega)
    ·have hd2:=hd
     rcases kU.1 hd2 with h1|h1
     ·exact ok2.trees d h1
     ·rw[kY.1 h1];exact ht
  ·cases h
 ·cases h
theorem zHK {sh sh':Sh}{nm s:ByteArray}{D:Nat}(h:qQ sh nm s=some sh')(hs:s.size<=1000)(ok:ShOk sh D)(few:vR sh):ShOk sh' (D+2+4*s.size)∧vR sh':=by
 have hBs:=jA s 32;unfold qQ at h;split at h
 ·split at h
  ·cases h
  split at h
  ·cases h
  split at h
  ·split at h
   ·rename_i h0 h8 _ _
    cases hr:vH (qF s 32) sh.defs with
    |none=>rw[hr] at h;cases h
    |some t=>
     rw[hr] at h;have e:=hU h;subst e;have ht:=(zHM (by omega) ok.trees hr).deep (show _<=D+2+4*s.size by omega);have ok2:=ok.deep (show D<=D+2+4*s.size by omega);generalize (zA4 (yM s 32))=ac at *;have hkl:sh.modes.length-1<sh.modes.length:=by omega
     have hl:=zEo ((sh.addAct ac.act).addPush ac.name) (sh.modes.length-1) t;have hl2:((sh.addAct ac.act).addPush ac.name).modes.length=sh.modes.length:=rfl;have hal:(((sh.addAct ac.act).addPush ac.name).addRule (sh.modes.length-1) t).acts.length=sh.acts.length+1:=by show(sh.acts++[ac.act]).length=_;rw[kX];rfl
     have hpl:(((sh.addAct ac.act).addPush ac.name).addRule (sh.modes.length-1) t).pushed.length=sh.pushed.length+1:=by show(sh.pushed++[ac.name]).length=_;rw[kX];rfl
     have hnew:=zA0 ((sh.addAct ac.act).addPush ac.name) (sh.modes.length-1) t hkl;refine⟨⟨by have:=ok.modes;omega,ok2.defs,by omega,by have:=ok.same;omega,ok2.names,ok2.trees,fun i hi u hu=>?_⟩,fun i hi=>?_⟩
     ·by_cases e:i=sh.modes.length-1
      ·rw[e,hnew] at hu
       rcases kU.1 hu with h1|h1
       ·exact ok2.rules _ hkl u h1
       ·rw[kY.1 h1];exact ht
      ·rw[zAg _ _ t i e] at hu
       exact ok2.rules i (by omega) u hu
     ·rw[hal]
      by_cases e:i=sh.modes.length-1
      ·rw[e,hnew]
       show((sh.mode (sh.modes.length-1)).2++[t]).length<=_;rw[kX];have:=few _ hkl;show(sh.mode (sh.modes.length-1)).2.length+1<=_;omega
      ·rw[zAg _ _ t i e]
       have:=few i (by omega);show(sh.mode i).2.length<=_;omega
   ·cases h
  ·cases h
 ·cases h
theorem zHN {sh sh':Sh}{s:ByteArray}{D:Nat}(h:xV sh s=some sh')(hs:s.size<=1000)(ok:ShOk sh D)(few:vR sh):ShOk sh' (D+2+4*s.size)∧vR sh':=by
 have hBs:=jA s 32;unfold xV at h;split at h
 ·split at h
  ·obtain⟨a,b⟩:=zHL h ok few
   exact⟨a.deep (by omega),b⟩
  split at h
  ·obtain⟨a,b⟩:=zIV h (by omega) ok few
   exact⟨a.deep (by omega),b⟩
  ·obtain⟨a,b⟩:=zHK h (by omega) ok few
   exact⟨a.deep (by omega),b⟩
 ·cases h
theorem zKZ {s:ByteArray}{c:Nat}(h:jW s c=true):(qF s c).size+(yM s c).size+1=s.size:=by
 have hi:zHb s c<s.size:=by unfold jW at h;exact of_decide_eq_true h
 unfold yM qF;rw[if_pos h,if_pos h,ByteArray.size_extract,ByteArray.size_extract];omega
def jJ:Nat->Sh->Nat->ByteArray->Sh ⊕ Nat
 |0,sh,_,_=>.inl sh
 |f+1,sh,n,s=>if s.size=0 then .inl sh else if jW s 10 then(match xV sh (yM s 10) with
  |none=>.inr n
  |some sh'=>jJ f sh' (n+1) (qF s 10)) else .inr n
def zM0 (w:World)(S D:Nat)(G:Sh ⊕ Nat)(e:Ending)(w':World):Prop:=
 Keep S S w w'∧match G with
 | .inl sh=>e=.returned (.int .i64 0)∧SwIs w' S D sh∧ShOk sh D∧vR sh
 | .inr n=>e=.returned (.int .i64 (n:Int))
theorem zEp (w:World)(S D:Nat)(sh:Sh)(h:SwIs w S D sh)(ok:ShOk sh D)(few:vR sh)(s:ByteArray)(hs:s.size<=1000):
  Calls prog 56 #[.pointer (some ⟨S,0,none⟩),.string s] w (zM0 w S (D+6*s.size) (jJ (s.size+1) sh 1 s)):=by
 obtain⟨G,hG⟩:∃G,G=jJ (s.size+1) sh 1 s:=⟨_,rfl⟩
 have HG:=vl hG.symm;rw[<-hG];have HS:Hid (SwIs w S D sh∧ShOk sh D∧vR sh):=⟨h,ok,few⟩
 go_in;go_wp2;go_loopg [5,6] (s.size+1) (fun n v5 v6 wr=>∃f sh num rest,n=f∧v5=.int .i64 (num:Nat)∧v6=.string rest∧rest.size<=s.size∧rest.size+1<=f∧num+rest.size<=s.size+1∧jJ f sh num rest=G∧SwIs wr S (D+6*(s.size-rest.size)) sh∧ShOk sh (D+6*(s.size-rest.size))∧vR sh∧Keep S S w wr)
 case atStart=>exact⟨s.size+1,sh,1,s,rfl,rfl,rfl,lQ,lQ,by omega,HG.out,by rw[Nat.sub_self];exact HS.out.1,by rw[Nat.sub_self];exact HS.out.2.1,HS.out.2.2,Keep.refl _ _ _⟩
 case round=>
  obtain⟨f,sh1,num,rest,hgk,rfl,rfl,hrs,hf,hnum,hGo,hSw,hok,hfew,hk⟩:=hrel;cases f with
  |zero=>omega
  |succ f=>
  have hE:=zAo rest;have hGo2:(if rest.size=0 then .inl sh1 else if jW rest 10 then(match xV sh1 (yM rest 10) with|none=>.inr num|some sh'=>jJ f sh' (num+1) (qF rest 10)) else .inr num)=G:=hGo;obtain⟨X,mv,dv,av,pv,rv,ps,dp,hS1⟩:=hSw;have HA:Hid (Sw wr X S (D+6*(s.size-rest.size)) sh1 mv dv av pv rv ps dp∧ShOk sh1 (D+6*(s.size-rest.size))∧vR sh1∧Keep S S w wr∧gk=f+1):=⟨hS1,hok,hfew,hk,hgk⟩
  by_cases h0:rest.size=0
  ·rw[if_pos h0] at hGo2
   have HG2:=vl hGo2.symm;rw[decide_eq_true h0] at hE;have HR0:=vl h0;go_wp2;go_ret;refine⟨HA.out.2.2.2.1,?_⟩;rw[HG2.out];have e0:D+6*(s.size-rest.size)=D+6*s.size:=by rw[HR0.out];rfl
   refine⟨rfl,⟨X,mv,dv,av,pv,rv,ps,dp,?_⟩,?_,HA.out.2.2.1⟩
   ·rw[<-e0];exact HA.out.1
   ·rw[<-e0];exact HA.out.2.1
  rw[if_neg h0] at hGo2;rw[decide_eq_false h0] at hE;have HCU:=vl <| zCl wr rest (by omega) 10;have hcs:jW rest 10=true->(qF rest 10).size+(yM rest 10).size+1=rest.size:=zKZ;have HLN:Hid ((yM rest 10).size<=1000->∀w1,Grew wr w1->Calls prog 87 #[.pointer (some ⟨S,0,none⟩),.string (yM rest 10)] w1 (LnAns wr S (D+6*(s.size-rest.size)+2+4*(yM rest 10).size) (xV sh1 (yM rest 10)))):=fun hz w1 hk1=>(zE1 w1 X S _ sh1 mv dv av pv rv ps dp (HA.out.1.grown hk1) HA.out.2.1 HA.out.2.2.1 (yM rest 10) hz).mono fun e w2 h2=>h2.from (hk1.lower (Nat.le_of_lt HA.out.1.lt) (Nat.le_of_lt HA.out.1.lt))
  have HLO:Hid (∀sh',xV sh1 (yM rest 10)=some sh'->(yM rest 10).size<=1000->ShOk sh' (D+6*(s.size-rest.size)+2+4*(yM rest 10).size)∧vR sh'):=fun sh' e hz=>zHN e hz HA.out.2.1 HA.out.2.2.1;have HKS:Hid (∀w1,Grew wr w1->Keep S S wr w1):=fun w1 hk1=>hk1.lower (Nat.le_of_lt HA.out.1.lt) (Nat.le_of_lt HA.out.1.lt);generalize yM rest 10=A at *;generalize qF rest 10=B at *;generalize jW rest 10=K at *;cases K with
  |false=>
   have HG2:=vl hGo2.symm;go_wp2_with (first|(go_at_call 86;refine HCU.out.mono ?_;rintro e w1 ⟨rfl,hk1⟩))
   go_ret;refine⟨HA.out.2.2.2.1.trans (HKS.out w1 hk1),?_⟩;rw[HG2.out];rfl
  |true=>
   have hsz:=hcs rfl;have HL2:=HLN.out (by omega);rw[if_pos rfl] at hGo2;cases hm:xV sh1 A with
   |none=>
    rw[hm] at hGo2 HL2;have HL3:=vl HL2;have HG2:=vl hGo2.symm;go_wp2_with (first|(go_at_call 86;refine HCU.out.mono ?_;rintro e w1 ⟨rfl,hk1⟩)|(go_at_call 87;refine(HL3.out w1 hk1).mono ?_;rintro e w2 ⟨hk2,rfl⟩))
    go_ret;refine⟨HA.out.2.2.2.1.trans hk2,?_⟩;rw[HG2.out];rfl
   |some sh2=>
    have HO2:=HLO.out sh2 hm (by omega);rw[hm] at hGo2 HL2;have HL3:=vl HL2;have HG2:Hid (jJ f sh2 (num+1) B=G∧ShOk sh2 (D+6*(s.size-rest.size)+2+4*A.size)∧vR sh2):=⟨hGo2,HO2⟩
    go_wp2_with (first|(go_at_call 86;refine HCU.out.mono ?_;rintro e w1 ⟨rfl,hk1⟩)|(go_at_call 87;refine(HL3.out w1 hk1).mono ?_;rintro e w2 ⟨hk2,rfl,hs2⟩))
    go_roundg f
    case measure=>rw[HA.out.2.2.2.2];omega
    case rel=>exact⟨f,sh2,num+1,B,rfl,by go_num,rfl,by omega,by omega,by omega,HG2.out.1,hs2.deep (by omega),HG2.out.2.1.deep (by omega),HG2.out.2.2,HA.out.2.2.2.1.trans hk2⟩
def Sh.pushI (sh:Sh)(nm:ByteArray):Int:=if nm.size=0 then 0 else sh.modeI nm
def Sh.push (sh:Sh)(i:Nat):ByteArray:=sh.pushed.getD i ⟨#[]⟩
def Sh.there (sh:Sh):Bool:=decide (∀i,i<sh.pushed.length->0<=sh.pushI (sh.push i))
def Sh.pushesTo (sh:Sh)(j:Nat):List Int:=(List.range j).map fun i=>sh.pushI (sh.push i)
theorem yX (sh:Sh)(j:Nat):(sh.pushesTo j).length=j:=by unfold Sh.pushesTo;rw[kV,List.length_range]
theorem zFR (sh:Sh)(j:Nat):sh.pushesTo (j+1)=sh.pushesTo j++[sh.pushI (sh.push j)]:=by unfold Sh.pushesTo;rw[List.range_succ,List.map_append];rfl
theorem zC8 (w:World)(X:Nat->Prop)(S D:Nat)(sh:Sh)(mv dv av pv:Value)(rv:Nat->Value)(ps:Nat->List Nat)(dp:Nat->Nat)(h:Sw w X S D sh mv dv av pv rv ps dp)(hm3:sh.modes.length<=3)(h8:sh.pushed.length<=8):
  Calls prog 57 #[.pointer (some ⟨S,0,none⟩)] w fun e w'=>∃v,e=.returned (.tuple #[v,.bool sh.there])∧(∃a n c,v=.slice a n c)∧(sh.there=true->OwnI w' w.heap.size v (sh.pushesTo sh.pushed.length))∧Grew w w':=by
 obtain⟨i0,hi0,hz0,hz1,hz2⟩:=info_parts yH;obtain⟨ap,cp,hpv⟩:=zE h.pOwn;subst hpv;obtain⟨-,-,-,c3,-⟩:=h.cells;have HS:=vl h;have HTH:Hid (sh.there=decide (∀i,i<sh.pushed.length->0<=sh.pushI (sh.push i))):=rfl;generalize sh.there=T at *;go_in;go_wp2;go_loopg [4,13] sh.pushed.length (fun q v4 i wr=>∃j:Nat,q=sh.pushed.length-j∧j<=sh.pushed.length∧i=.int .i64 (j:Int)∧(∀k,k<j->0<=sh.pushI (sh.push k))∧OwnI wr w.heap.size v4 (sh.pushesTo j)∧Grew w wr)
 case atStart=>exact⟨0,rfl,lX,rfl,fun k hk=>by omega,OwnI.nil _ _,Keep.refl _ _ _⟩
 case round=>
  obtain⟨j,hgk,hj,rfl,hno,hOw,hk⟩:=hrel;obtain⟨ao,cap0,hv4⟩:=OwnI.form hOw;rw[yX] at hv4;subst hv4;have HA:Hid (gk=sh.pushed.length-j∧(∀k,k<j->0<=sh.pushI (sh.push k))∧OwnI wr w.heap.size (.slice ao j cap0) (sh.pushesTo j)∧Grew w wr∧w.heap.size<=wr.heap.size):=⟨hgk,hno,hOw,hk,hk.size⟩
  by_cases hj2:j<sh.pushed.length
  ·have i1:(j:Int)<(sh.pushed.length:Int):=by omega
   obtain⟨mg,mc,hmv2,-,hmgl,-,-,hcl,-⟩:=qH HS.out.pOwn (by omega);injection hmv2 with ea eb ec;subst ea ec;clear eb;have e1:(sh.pushed.map fun x=>Value.string x)[j]? =some (.string (sh.push j)):=by
    unfold Sh.push;rw[gJ,lV hj2,lW,lV hj2];rfl
   have y0:=zA (hcl _ _ e1) hmgl hk;have hE:=zAo (sh.push j);have HMO:=vl <| zDd wr X S D sh mv dv av _ rv ps dp (HS.out.grown hk) (by omega) (sh.push j);have HPI:Hid (sh.pushI (sh.push j)=if(sh.push j).size=0 then 0 else sh.modeI (sh.push j)):=rfl;have HNO:Hid (0<=sh.pushI (sh.push j)->∀k,k<j+1->0<=sh.pushI (sh.push k)):=fun hh k hk=>by
    by_cases e:k=j
    ·rw[e];exact hh
    ·exact HA.out.2.1 k (by omega)
   have HNV:Hid (sh.pushI (sh.push j)<0->T=false):=fun hh=>by
    rw[HTH.out];exact decide_eq_false fun h2=>by have:=h2 j hj2;omega
   have HPS:=vl <| zFR sh j;have HPL:=vl <| yX sh j;have hmi:=zEe sh (sh.push j);clear hgk hno hOw hk e1 hcl hmgl;generalize sh.push j=nm at *;generalize sh.modeI nm=mi at *;generalize sh.pushI nm=pi at *;generalize hP:sh.pushesTo j=L at *;clear hP;by_cases h0:nm.size=0
   ·rw[decide_eq_true h0] at hE
    have HP0:Hid (pi=0):=by show _=_;rw[HPI.out,if_pos h0]
    have OR:Hid (wr.ownsRow w.heap.size 3 1 (.slice ao j cap0) j (L.map fun x=>.int .i64 x)):=by have:=HA.out.2.2.1;unfold OwnI at this;rw[HPL.out] at this;exact this
    have hszr:w.heap.size<=wr.heap.size:=HA.out.2.2.2.2;clear h0 HMO;go_wp2_with (first|(at_builtin;refine wpList_append_lies _ rfl _ _ 45 rfl (w.heap.size) 3 i0 (.int .i64 0) 1 8 underlying45 hi0 hz0 hz1 hz2 rfl (by decide) _ _ _ rfl (OR.out.alloc _) ⟨wr.heap.size,0,none⟩ 1 1 [.int .i64 0] rfl rfl (cell_one_new _ _ _) (by intro u hu;simp at hu;subst hu;rfl) (by decide) (by unfold maxLen;omega) (by omega) (by simp;omega) _ rfl ?_;intro gg cap w2 hown hgrow hat hlt2;have hB:=xP OR.out hgrow hszr;have O2:Hid (OwnI w2 w.heap.size (.slice (some ⟨gg,0,none⟩) (j+1) cap) (L++[0])∧Grew w w2):=⟨by unfold OwnI;rw[kX,HPL.out,List.map_append];exact hown,HA.out.2.2.2.1.trans (xN hB)⟩;clear hown hgrow hB hat hlt2))
    go_roundg (sh.pushed.length-(j+1))
    case measure=>rw[HA.out.1];omega
    case rel=>exact⟨j+1,rfl,by omega,by go_num,HNO.out (by rw[HP0.out];omega),by rw[HPS.out,HP0.out];exact O2.out.1,O2.out.2⟩
   ·rw[decide_eq_false h0] at hE
    have HP0:Hid (pi=mi):=by show _=_;rw[HPI.out,if_neg h0]
    clear h0;rcases hmi with hmi|⟨hmi,-⟩
    ·subst hmi
     have HV:=vl <| HNV.out (by rw[HP0.out];omega);go_wp2_with (first|(go_at_call 88;refine HMO.out.mono ?_;rintro e w1 ⟨rfl,hk1⟩))
     refine bodyPost_ret (results_tmp2 rfl _ _ _) rfl ?_;exact⟨_,by rw[HV.out];rfl,⟨none,0,0,rfl⟩,fun h=>(by rw[HV.out] at h;cases h),HA.out.2.2.2.1.trans (hk1.lower HA.out.2.2.2.2 HA.out.2.2.2.2)⟩
    ·apply wp_cut
     intro K1 HK1;go_wp2;apply HK1.out;clear HK1;apply wp_cut;intro K1 HK1;go_wp2;apply HK1.out;clear HK1;go_wp2_with (first|(go_at_call 88;refine HMO.out.mono ?_;rintro e w1 ⟨rfl,hk1⟩;have OR:Hid (w1.ownsRow w.heap.size 3 1 (.slice ao j cap0) j (L.map fun x=>.int .i64 x)∧Grew w w1):=⟨by have:=zJ HA.out.2.2.1 hk1;unfold OwnI at this;rw[HPL.out] at this;exact this,HA.out.2.2.2.1.trans (hk1.lower HA.out.2.2.2.2 HA.out.2.2.2.2)⟩;have hszr:w.heap.size<=w1.heap.size:=OR.out.2.size;clear hk1)|(at_builtin;refine wpList_append_lies _ rfl _ _ 45 rfl (w.heap.size) 3 i0 (.int .i64 0) 1 8 underlying45 hi0 hz0 hz1 hz2 rfl (by decide) _ _ _ rfl (OR.out.1.alloc _) ⟨w1.heap.size,0,none⟩ 1 1 [.int .i64 mi] rfl rfl (cell_one_new _ _ _) (by intro u hu;simp at hu;subst hu;rfl) (by decide) (by unfold maxLen;omega) (by omega) (by simp;omega) _ rfl ?_;intro gg cap w2 hown hgrow hat hlt2;have hB:=xP OR.out.1 hgrow hszr;have O2:Hid (OwnI w2 w.heap.size (.slice (some ⟨gg,0,none⟩) (j+1) cap) (L++[mi])∧Grew w w2):=⟨by unfold OwnI;rw[kX,HPL.out,List.map_append];exact hown,OR.out.2.trans (xN hB)⟩;clear hown hgrow hB hat hlt2))
     go_roundg (sh.pushed.length-(j+1))
     case measure=>rw[HA.out.1];omega
     case rel=>exact⟨j+1,rfl,by omega,by go_num,HNO.out (by rw[HP0.out];omega),by rw[HPS.out,HP0.out];exact O2.out.1,O2.out.2⟩
  ·have i1:(sh.pushed.length:Int)<=(j:Int):=by omega
   have e:j=sh.pushed.length:=by omega
   have HV:Hid (T=true):=by
    show _=_;rw[HTH.out];exact decide_eq_true fun i hi=>hno i (by omega)
   have HE:=vl e;clear hgk hno hOw hk e;go_wp2;refine bodyPost_ret (results_tmp2 rfl _ _ _) rfl ?_;refine⟨_,by rw[HV.out];rfl,⟨_,_,_,rfl⟩,fun _=>?_,HA.out.2.2.2.1⟩;rw[<-HE.out];exact HA.out.2.2.1
def Sh.haveB (sh:Sh):Bool:=decide (0<sh.modes.length∧∀i,i<sh.modes.length->0<(sh.mode i).2.length)
def yI (l:List Tr):Nat->Nat
 |0=>0
 |j+1=>yI l j+(l.getD j Tr.none).chars
def Sh.fitB (sh:Sh):Bool:=decide (∀i,i<sh.modes.length->yI (sh.mode i).2 (sh.mode i).2.length<=24)
theorem zCM {w:World}{X:Nat->Prop}{S D:Nat}{sh:Sh}{dv av pv:Value}{rv:Nat->Value}{ps:Nat->List Nat}{dp:Nat->Nat}{ao:Option Addr}{cap0 j:Nat}(h:Sw w X S D sh (.slice ao sh.modes.length cap0) dv av pv rv ps dp)(hj:j<sh.modes.length){wr:World}(hk:Grew w wr):
  ∃mg ra rc,ao=some ⟨mg,0,none⟩∧rv j=.slice ra (sh.mode j).2.length rc∧wr.cell? ⟨mg,j*2,none⟩=some (.string (sh.mode j).1)∧wr.cell? ⟨mg,j*2+1,none⟩=some (.slice ra (sh.mode j).2.length rc):=by
 obtain⟨mg,mc,hmv2,-,hmgl,-,-,hcl,-⟩:=qH h.mOwn (by omega);injection hmv2 with ea eb ec;obtain⟨ra,rc,hrv⟩:=zE (h.rOwn j hj);obtain⟨e1,e2⟩:=zA7 (fun i=>.string (sh.mode i).1) rv sh.modes.length j hj;rw[hrv] at e2;exact⟨mg,ra,rc,ea,hrv,zA (hcl _ _ e1) hmgl hk,zA (hcl _ _ e2) hmgl hk⟩
theorem zEt (w:World)(X:Nat->Prop)(S D:Nat)(sh:Sh)(mv dv av pv:Value)(rv:Nat->Value)(ps:Nat->List Nat)(dp:Nat->Nat)(h:Sw w X S D sh mv dv av pv rv ps dp)(hm3:sh.modes.length<=3):
  Calls prog 58 #[.pointer (some ⟨S,0,none⟩)] w fun e w'=>e=.returned (.bool sh.haveB)∧Grew w w':=by
 obtain⟨ao,cap0,hmv⟩:=zE h.mOwn;subst hmv;obtain⟨c0,-,-,-,-⟩:=h.cells;have HS:=vl h;have HTH:Hid (sh.haveB=decide (0<sh.modes.length∧∀i,i<sh.modes.length->0<(sh.mode i).2.length)):=rfl;generalize sh.haveB=T at *;have hSl:S<w.heap.size:=h.lt;have C0:Hid (∀wr,Grew w wr->wr.cell? ⟨S,0,none⟩=some (.slice ao sh.modes.length cap0)):=fun wr hk=>zA c0 hSl hk;go_in;go_wp2;go_loopg [10] sh.modes.length (fun q i wr=>∃j:Nat,q=sh.modes.length-j∧j<=sh.modes.length∧i=.int .i64 (j:Int)∧(∀k,k<j->0<(sh.mode k).2.length)∧Grew w wr)
 case atStart=>exact⟨0,rfl,lX,rfl,fun k hk=>by omega,Keep.refl _ _ _⟩
 case round=>
  obtain⟨j,hgk,hj,rfl,hno,hk⟩:=hrel;have HA:Hid (gk=sh.modes.length-j∧(∀k,k<j->0<(sh.mode k).2.length)∧Grew w wr∧w.heap.size<=wr.heap.size):=⟨hgk,hno,hk,hk.size⟩
  by_cases hj2:j<sh.modes.length
  ·have i1:(j:Int)<(sh.modes.length:Int):=by omega
   obtain⟨mg,ra,rc,rfl,-,y0,y1⟩:=zCM HS.out hj2 hk;obtain⟨wa,hwa,z1,HKa⟩:∃wa,wa=wr.alloc (.cells #[.string (sh.mode j).1,.slice ra (sh.mode j).2.length rc] 120)∧wa.cell? ⟨wr.heap.size,1,none⟩=some (.slice ra (sh.mode j).2.length rc)∧Hid (Grew w wa):=by
    have hb2:=gG wr (.cells #[.string (sh.mode j).1,.slice ra (sh.mode j).2.length rc] 120);refine⟨_,rfl,?_,HA.out.2.2.1.trans (kZ _ _ HA.out.2.2.2)⟩;unfold cell?;rw[hb2];rfl
   have HNO:Hid (0<(sh.mode j).2.length->∀k,k<j+1->0<(sh.mode k).2.length):=fun hh k hk=>by
    by_cases e:k=j
    ·rw[e];exact hh
    ·exact HA.out.2.1 k (by omega)
   have HNV:Hid ((sh.mode j).2.length=0->T=false):=fun hh=>by
    rw[HTH.out];exact decide_eq_false fun h2=>by have:=h2.2 j hj2;omega
   generalize (sh.mode j).2.length=rl at *;apply wp_cut;intro K1 HK1;go_wp2;apply HK1.out;apply wp_cut;intro K1 HK1;go_wp2;apply HK1.out;apply wp_cut;intro KB HKB;refine wp_block ?_;apply wp_cut;intro K1 HK1;go_wp2;apply HK1.out;rw[<-hwa];clear hwa y0 y1;by_cases h0:rl=0
   ·have HV:=vl <| HNV.out h0
    have e0:((rl:Int)==0)=true:=by rw[h0];rfl
    clear h0;go_wp2;go_ret;exact⟨by rw[HV.out];rfl,HKa.out⟩
   ·have HN2:=HNO.out (by omega)
    have e0:((rl:Int)==0)=false:=by rw[gQ];omega
    clear h0;go_wp2;apply HKB.out;clear HKB;go_wp2;go_roundg (sh.modes.length-(j+1))
    case measure=>rw[HA.out.1];omega
    case rel=>exact⟨j+1,rfl,by omega,by go_num,HN2,HKa.out⟩
  ·have i1:(sh.modes.length:Int)<=(j:Int):=by omega
   have c0:=C0.out wr hk;have HV:Hid (T=decide (0<sh.modes.length)):=by
    show _=_;rw[HTH.out];by_cases e:0<sh.modes.length
    ·rw[decide_eq_true e];exact decide_eq_true ⟨e,fun i hi=>hno i (by omega)⟩
    ·rw[decide_eq_false e];exact decide_eq_false fun h2=>e h2.1
   clear hgk hno hk;by_cases e:0<sh.modes.length
   ·have i2:(0:Int)<(sh.modes.length:Int):=by omega
    have HV2:Hid (T=true):=by show _=_;rw[HV.out];exact decide_eq_true e
    clear e;go_wp2;go_ret;exact⟨by rw[HV2.out];first|rfl|(simp;done)|(simp;omega),HA.out.2.2.1⟩
   ·have i2:(sh.modes.length:Int)<=0:=by omega
    have HV2:Hid (T=false):=by show _=_;rw[HV.out];exact decide_eq_false e
    clear e;go_wp2;go_ret;exact⟨by rw[HV2.out];first|rfl|(simp;done)|(simp;omega)|(simp;exact List.length_eq_zero_iff.1 (by omega)),HA.out.2.2.1⟩
theorem zJt (l:List Tr)(h:∀t∈l,t.chars<=25)(j:Nat)(hj:j<=l.length):yI l j<=25*j:=by
 induction j with
 |zero=>exact lQ
 |succ j ih=>
  have h1:=ih (by omega);have hm:l.getD j Tr.none∈l:=by
   rw[lW,lV (by omega:j<l.length)];exact List.getElem_mem _
  have h2:=h _ hm;show yI l j+(l.getD j Tr.none).chars<=_;omega
theorem zFz (w:World)(X:Nat->Prop)(S D:Nat)(sh:Sh)(mv dv av pv:Value)(rv:Nat->Value)(ps:Nat->List Nat)(dp:Nat->Nat)(h:Sw w X S D sh mv dv av pv rv ps dp)(ok:ShOk sh D)(few:vR sh):
  Calls prog 59 #[.pointer (some ⟨S,0,none⟩)] w fun e w'=>e=.returned (.bool sh.fitB)∧Grew w w':=by
 obtain⟨ao,cap0,hmv⟩:=zE h.mOwn;subst hmv;obtain⟨c0,-,-,-,-⟩:=h.cells;have HS:Hid (Sw w X S D sh (.slice ao sh.modes.length cap0) dv av pv rv ps dp∧ShOk sh D∧vR sh):=⟨h,ok,few⟩
 have hm3:=ok.modes;have HTH:Hid (sh.fitB=decide (∀i,i<sh.modes.length->yI (sh.mode i).2 (sh.mode i).2.length<=24)):=rfl;generalize sh.fitB=T at *;go_in;go_wp2;go_loopg [13] sh.modes.length (fun q i wr=>∃j:Nat,q=sh.modes.length-j∧j<=sh.modes.length∧i=.int .i64 (j:Int)∧(∀k,k<j->yI (sh.mode k).2 (sh.mode k).2.length<=24)∧Grew w wr)
 case atStart=>exact⟨0,rfl,lX,rfl,fun k hk=>by omega,Keep.refl _ _ _⟩
 case round=>
  obtain⟨j,hgk,hj,rfl,hno,hk⟩:=hrel;have HA:Hid (gk=sh.modes.length-j∧(∀k,k<j->yI (sh.mode k).2 (sh.mode k).2.length<=24)∧Grew w wr∧w.heap.size<=wr.heap.size):=⟨hgk,hno,hk,hk.size⟩
  by_cases hj2:j<sh.modes.length
  ·have i1:(j:Int)<(sh.modes.length:Int):=by omega
   obtain⟨mg,ra,rc,rfl,hrv,y0,y1⟩:=zCM HS.out.1 hj2 hk;obtain⟨wa,hwa,z1,HKa⟩:∃wa,wa=wr.alloc (.cells #[.string (sh.mode j).1,.slice ra (sh.mode j).2.length rc] 120)∧wa.cell? ⟨wr.heap.size,1,none⟩=some (.slice ra (sh.mode j).2.length rc)∧Hid (Grew w wa):=by
    have hb2:=gG wr (.cells #[.string (sh.mode j).1,.slice ra (sh.mode j).2.length rc] 120);refine⟨_,rfl,?_,HA.out.2.2.1.trans (kZ _ _ HA.out.2.2.2)⟩;unfold cell?;rw[hb2];rfl
   have HNO:Hid (yI (sh.mode j).2 (sh.mode j).2.length<=24->∀k,k<j+1->yI (sh.mode k).2 (sh.mode k).2.length<=24):=fun hh k hk=>by
    by_cases e:k=j
    ·rw[e];exact hh
    ·exact HA.out.2.1 k (by omega)
   have HNV:Hid (24<yI (sh.mode j).2 (sh.mode j).2.length->T=false):=fun hh=>by
    rw[HTH.out];exact decide_eq_false fun h2=>by have:=h2 j hj2;omega
   have HRC:Hid (∀i,i<(sh.mode j).2.length->∃rg p,ra=some ⟨rg,0,none⟩∧wa.cell? ⟨rg,i,none⟩=some (.pointer (some ⟨p,0,none⟩))∧wa.cell? ⟨p,7,none⟩=some (.int .i64 (((sh.mode j).2.getD i Tr.none).chars:Int))∧((sh.mode j).2.getD i Tr.none).chars<=25):=fun i hi=>by
    obtain⟨rg,rc2,hr2,-,hrgl,-,-,hcl,-⟩:=qH (HS.out.1.rOwn j hj2) (by omega);rw[hrv] at hr2;injection hr2 with ea eb ec;have hpl:(ps j).length=(sh.mode j).2.length:=by
     have:=(HS.out.1.rOwn j hj2).1;unfold xT at this;rw[kV] at this;omega
    have e1:(xT (ps j))[i]? =some (.pointer (some ⟨(ps j).getD i 0,0,none⟩)):=by
     unfold xT;rw[gJ,lV (by omega:i<(ps j).length),lW,lV (by omega:i<(ps j).length)];rfl
    have ht:=HS.out.1.rTree j hj2 i hi;have hpw:In w ((ps j).getD i 0):=by
     cases D with
     |zero=>exact False.elim ht.at
     |succ d=>exact ht.at.1
    have hm:(sh.mode j).2.getD i Tr.none∈(sh.mode j).2:=by
     rw[lW,lV hi];exact List.getElem_mem _
    exact⟨rg,_,ea,zA (hcl _ _ e1) hrgl HKa.out,zA ht.chars hpw HKa.out,(HS.out.2.1.rules j hj2 _ hm).few⟩
   have hrl:(sh.mode j).2.length<=8:=lY (HS.out.2.2 j hj2) HS.out.2.1.acts;have HCL:=vl <| zJt _ fun t ht=>(HS.out.2.1.rules j hj2 t ht).few;generalize (sh.mode j).2=L at *;apply wp_cut;intro K1 HK1;go_wp2;apply HK1.out;clear HK1;apply wp_cut;intro K1 HK1;go_wp2;apply HK1.out;clear HK1;apply wp_cut;intro KB HKB;refine wp_block ?_;apply wp_cut;intro K1 HK1;go_wp2;apply HK1.out;clear HK1;rw[<-hwa];clear hwa y0 y1;go_wp2;clear z1;go_loopg [5,20] L.length (fun q c i w2=>∃k:Nat,q=L.length-k∧k<=L.length∧c=.int .i64 (yI L k:Nat)∧i=.int .i64 (k:Int)∧w2=wa)
   case atStart=>exact⟨0,rfl,lX,rfl,rfl,rfl⟩
   case round=>
    obtain⟨k,hgk2,hk,rfl,rfl,rfl⟩:=hrel;have HGK:=vl hgk2;by_cases hk2:k<L.length
    ·have i2:(k:Int)<(L.length:Int):=by omega
     obtain⟨rg,p,rfl,x0,x1,hc25⟩:=HRC.out k hk2;have hcb:=HCL.out k (by omega);have HCS:Hid (yI L (k+1)=yI L k+(L.getD k Tr.none).chars):=rfl;clear hgk2;generalize (L.getD k Tr.none).chars=cc at *;generalize yI L k=sum at *;go_wp2;go_roundg (L.length-(k+1))
     case measure=>rw[HGK.out];omega
     case rel=>exact⟨k+1,rfl,by omega,by rw[HCS.out];go_num,by go_num,rfl⟩
    ·have i2:(L.length:Int)<=(k:Int):=by omega
     have e:k=L.length:=by omega
     subst e;have hcb:=HCL.out L.length lQ;clear hgk2;generalize yI L L.length=sum at *;by_cases h24:24<sum
     ·have HV:=vl <| HNV.out h24
      have j24:(24:Int)<(sum:Int):=by omega
      clear h24;go_wp2;go_ret;exact⟨by rw[HV.out];rfl,HKa.out⟩
     ·have HN2:=vl <| HNO.out (by omega)
      have j24:(sum:Int)<=24:=by omega
      clear h24;go_wp2;apply HKB.out;clear HKB;go_wp2;go_roundg (sh.modes.length-(j+1))
      case measure=>rw[HA.out.1];omega
      case rel=>exact⟨j+1,rfl,by omega,by go_num,HN2.out,HKa.out⟩
  ·have i1:(sh.modes.length:Int)<=(j:Int):=by omega
   have HV:Hid (T=true):=by
    show _=_;rw[HTH.out];exact decide_eq_true fun i hi=>hno i (by omega)
   clear hgk hno hk;go_wp2;go_ret;exact⟨by rw[HV.out];rfl,HA.out.2.2.1⟩
def jO (s:ByteArray):Sh ⊕ (Nat×Nat):=
 if 400<s.size then .inr (0,1) else
 match jJ (s.size+1) Sh.none 1 s with
 | .inr n=>.inr (n,2)
 | .inl sh=>if sh.there&&sh.haveB then(if sh.fitB then .inl sh else .inr (0,4)) else .inr (0,3)
theorem zGk:∀f sh n s m,jJ f sh n s=.inr m->n<=m
 |0,_,_,_,_,h=>by cases h
 |f+1,sh,n,s,m,h=>by
  have h2:(if s.size=0 then .inl sh else if jW s 10 then(match xV sh (yM s 10) with|none=>.inr n|some sh'=>jJ f sh' (n+1) (qF s 10)) else .inr n)=(.inr m:Sh ⊕ Nat):=h;split at h2
  ·cases h2
  split at h2
  ·cases hm:xV sh (yM s 10) with
   |none=>rw[hm] at h2;cases h2;exact lQ
   |some sh'=>
    rw[hm] at h2;exact Nat.le_of_succ_le (zGk f sh' (n+1) _ m h2)
  ·cases h2;exact lQ
theorem Sw.low {w w2:World}{X:Nat->Prop}{S D:Nat}{sh:Sh}{mv dv av pv:Value}{rv:Nat->Value}{ps:Nat->List Nat}{dp:Nat->Nat}(h:Sw w X S D sh mv dv av pv rv ps dp)(ho:w2.os=w.os)(hu:w2.output=w.output)(hz:w.heap.size<=w2.heap.size)(hb:∀k,S<=k->k<w.heap.size->w2.heap[k]? =w.heap[k]?):Sw w2 X S D sh mv dv av pv rv ps dp:=by
 have hr:∀{e z n v xs},w.ownsRow (S+1) e z v n xs->w2.ownsRow (S+1) e z v n xs:=fun ho=>zD ho fun g h1 hg _=>hb g (by omega) hg;have ha:Agree X w w2:=⟨ho,hu,hz,fun i hi hx=>hb i (Nat.le_of_lt (h.xlt i hx).1) hi⟩
 exact⟨(hb S lQ h.lt).trans h.blk,hr h.mOwn,hr h.dOwn,hr h.aOwn,hr h.pOwn,fun i hi=>hr (h.rOwn i hi),h.rApart,fun i hi k hk2=>(h.rTree i hi k hk2).go ha,fun i hi=>(h.dTree i hi).go ha,fun g hg=>⟨(h.xlt g hg).1,lZ (h.xlt g hg).2 hz⟩,h.xm,h.xr,lZ h.lt hz⟩
structure SpecIs (w:World)(D:Nat)(mv av pv:Value)(sh:Sh):Prop where
 sheet:∃X S dv qv rv ps dp,Sw w X S D sh mv dv av qv rv ps dp
 pushes:Ints w (In w) pv (sh.pushesTo sh.pushed.length)
 ok:ShOk sh D
 few:vR sh
 there:sh.there=true
 have_:sh.haveB=true
 fit:sh.fitB=true
def zEE (w:World)(D:Nat)(G:Sh ⊕ (Nat×Nat))(e:Ending)(w':World):Prop:=
 Grew w w'∧match G with
 | .inr (n,k)=>e=.returned (.tuple #[.agg #[.slice none 0 0,.slice none 0 0,.slice none 0 0],.int .i64 (n:Int),.int .i64 (k:Int)])
 | .inl sh=>∃mv av pv,e=.returned (.tuple #[.agg #[mv,av,pv],.int .i64 0,.int .i64 0])∧SpecIs w' D mv av pv sh
def zNA (w w2:World):Prop:=Hid (w2.heap[w.heap.size]? =some (.cells #[.slice none 0 0,.slice none 0 0,.slice none 0 0] 79)∧Grew w w2)∧w2.cell? ⟨w.heap.size,0,none⟩=some (.slice none 0 0)∧w2.cell? ⟨w.heap.size,1,none⟩=some (.slice none 0 0)∧w2.cell? ⟨w.heap.size,2,none⟩=some (.slice none 0 0)∧w2.frozen? ⟨w.heap.size,0,none⟩=false∧w2.frozen? ⟨w.heap.size,1,none⟩=false∧w2.frozen? ⟨w.heap.size,2,none⟩=false
theorem zBk (w w2:World)(u v q:Value)(hB:Hid (w2.heap[w.heap.size]? =some (.cells #[.slice none 0 0,.slice none 0 0,.slice none 0 0] 79)∧Grew w w2)):
  ∃w3,w3=((w2.setCell ⟨w.heap.size,0,none⟩ u).setCell ⟨w.heap.size,1,none⟩ v).setCell ⟨w.heap.size,2,none⟩ q∧w3.cell? ⟨w.heap.size,0,none⟩=some u∧w3.cell? ⟨w.heap.size,1,none⟩=some v∧w3.cell? ⟨w.heap.size,2,none⟩=some q∧Hid (Grew w w3∧w3.heap.size=w2.heap.size∧w3.os=w2.os∧w3.output=w2.output∧∀k,k≠w.heap.size->w3.heap[k]? =w2.heap[k]?):=by
 obtain⟨hB,hk⟩:=hB;have h2:(((w2.setCell ⟨w.heap.size,0,none⟩ u).setCell ⟨w.heap.size,1,none⟩ v).setCell ⟨w.heap.size,2,none⟩ q).heap[w.heap.size]? =some (.cells #[u,v,q] 79):=by
  simp[setCell,lU,hB]
 have hne:∀i,i≠w.heap.size->(((w2.setCell ⟨w.heap.size,0,none⟩ u).setCell ⟨w.heap.size,1,none⟩ v).setCell ⟨w.heap.size,2,none⟩ q).heap[i]? =w2.heap[i]? :=fun i hi2=>by
  simp[setCell,lU,Ne.symm hi2]
 refine⟨_,rfl,?_,?_,?_,hk.trans ⟨rfl,rfl,by simp[World.setCell],fun k h1 _=>hne k (by omega)⟩,by simp[World.setCell],rfl,rfl,hne⟩
 all_goals (unfold cell?;rw[h2];rfl)
theorem zHD {w w2:World}(hk:Keep (w.heap.size+1) (w.heap.size+1) (w.alloc (.cells #[.slice none 0 0,.slice none 0 0,.slice none 0 0] 79)) w2):zNA w w2:=by
 have h1:=gG w (.cells #[.slice none 0 0,.slice none 0 0,.slice none 0 0] 79);have h2:=(hk.block w.heap.size (by omega) (by omega)).trans h1;refine⟨⟨h2,(kZ (H:=w.heap.size) (b:=w.heap.size) _ _ lQ).trans ⟨hk.os,hk.output,hk.size,fun k h1 h2=>hk.block k (by omega) (by omega)⟩⟩,?_,?_,?_,?_,?_,?_⟩
 all_goals first|(unfold cell?;rw[h2];rfl)|(unfold frozen?;rw[h2];simp)
theorem zKn (w:World):SwIs (w.alloc (.cells #[.slice none 0 0,.slice none 0 0,.slice none 0 0,.slice none 0 0] 114)) w.heap.size 1 Sh.none:=by
 refine⟨fun _=>False,_,_,_,_,fun _=>.slice none 0 0,fun _=>[],fun _=>0,gG _ _,ownsRow_nil _ _ _ _,ownsRow_nil _ _ _ _,ownsRow_nil _ _ _ _,ownsRow_nil _ _ _ _,fun i hi=>absurd hi (Nat.not_lt_zero _),fun i j g hi=>absurd hi (Nat.not_lt_zero _),fun i hi=>absurd hi (Nat.not_lt_zero _),fun i hi=>absurd hi (Nat.not_lt_zero _),fun g hg=>hg.elim,fun g hg=>hg.elim,fun g i hg=>hg.elim,by simp⟩
theorem zKx (D:Nat):ShOk Sh.none D:=⟨by show 0<=3;omega,by show 0<=4;omega,by show 0<=8;omega,rfl,fun i hi=>absurd hi (Nat.not_lt_zero _),fun d hd=>(by cases hd),fun i hi=>absurd hi (Nat.not_lt_zero _)⟩
theorem zI2:vR Sh.none:=fun i hi=>absurd hi (Nat.not_lt_zero _)
theorem zIR (w:World)(s:ByteArray):∃w1 w2,w1=w.alloc (.cells #[.slice none 0 0,.slice none 0 0,.slice none 0 0] 79)∧w2=w1.alloc (.cells #[.slice none 0 0,.slice none 0 0,.slice none 0 0,.slice none 0 0] 114)∧Hid (∀v,Keep (w.heap.size+1) (w.heap.size+1) w2 v->zNA w v)∧Hid (w1.heap.size=w.heap.size+1)∧Hid (zNA w w1)∧(s.size<=400->Hid (Calls prog 56 #[.pointer (some ⟨w.heap.size+1,0,none⟩),.string s] w2 (zM0 w2 (w.heap.size+1) (1+6*s.size) (jJ (s.size+1) Sh.none 1 s)))):=by
 have hz:(w.alloc (.cells #[.slice none 0 0,.slice none 0 0,.slice none 0 0] 79)).heap.size=w.heap.size+1:=by simp
 refine⟨_,_,rfl,rfl,fun v hk=>zHD ((kZ _ _ (by rw[hz];omega)).trans hk),hz,zHD (Keep.refl _ _ _),fun h4=>?_⟩;have:=zKn (w.alloc (.cells #[.slice none 0 0,.slice none 0 0,.slice none 0 0] 79));rw[hz] at this;exact zEp _ _ 1 Sh.none this (zKx 1) zI2 s (by omega)
theorem SwIs.grew {w2 v v':World}{S D:Nat}{sh:Sh}(h:SwIs v S D sh)(hK:Keep S S w2 v)(hk:Grew v v'):SwIs v' S D sh∧Keep S S w2 v'∧S<v.heap.size:=by
 obtain⟨X,mv,dv,av,pv,rv,ps,dp,h⟩:=h;exact⟨⟨X,mv,dv,av,pv,rv,ps,dp,h.grown hk⟩,hK.trans (hk.lower (Nat.le_of_lt h.lt) (Nat.le_of_lt h.lt)),h.lt⟩
theorem zNg {v:World}{S D:Nat}{sh:Sh}(h:SwIs v S D sh)(ok:ShOk sh D):Calls prog 57 #[.pointer (some ⟨S,0,none⟩)] v fun e w'=>∃u,e=.returned (.tuple #[u,.bool sh.there])∧(∃a n c,u=.slice a n c)∧(sh.there=true->OwnI w' v.heap.size u (sh.pushesTo sh.pushed.length))∧Grew v w':=by
 obtain⟨X,mv,dv,av,pv,rv,ps,dp,h⟩:=h;exact zC8 v X _ _ sh mv dv av pv rv ps dp h ok.modes (by rw[ok.same];exact ok.acts)
theorem zNn {v:World}{S D:Nat}{sh:Sh}(h:SwIs v S D sh)(ok:ShOk sh D):Calls prog 58 #[.pointer (some ⟨S,0,none⟩)] v fun e w'=>e=.returned (.bool sh.haveB)∧Grew v w':=by
 obtain⟨X,mv,dv,av,pv,rv,ps,dp,h⟩:=h;exact zEt v X _ _ sh mv dv av pv rv ps dp h ok.modes
theorem zNs {v:World}{S D:Nat}{sh:Sh}(h:SwIs v S D sh)(ok:ShOk sh D)(few:vR sh):Calls prog 59 #[.pointer (some ⟨S,0,none⟩)] v fun e w'=>e=.returned (.bool sh.fitB)∧Grew v w':=by
 obtain⟨X,mv,dv,av,pv,rv,ps,dp,h⟩:=h;exact zFz v X _ _ sh mv dv av pv rv ps dp h ok few
theorem zAA (w:World)(s:ByteArray)(hs:s.size<=1048576):Calls prog 43 #[.string s] w (zEE w (1+6*s.size) (jO s)):=by
 obtain⟨w1,w2,hw1,hw2,HK1,HZ1,HB1,hrl⟩:=zIR w s;obtain⟨G,hG⟩:∃G,G=jO s:=⟨_,rfl⟩
 have HG:=vl hG;rw[<-hG];go_in;apply wp_cut;intro K0 J;go_wp2;apply J.out;rcases Nat.lt_or_ge 400 s.size with h4|h4
 ·have HG2:G=.inr (0,1):=by rw[HG.out];unfold jO;rw[if_pos h4]
  rw[HG2,<-hw1];clear hw1;have i4:(400:Int)<(s.size:Int):=by omega
  obtain⟨HB,c0,c1,c2,f0,f1,f2⟩:=HB1.out;go_wp2;obtain⟨w7,hw7,z0,z1,z2,HZ⟩:=zBk w w1 (.slice none 0 0) (.slice none 0 0) (.slice none 0 0) HB;rw[<-hw7];refine bodyPost_ret (v:=.tuple #[.agg #[.slice none 0 0,.slice none 0 0,.slice none 0 0],.int .i64 0,.int .i64 1]) (by simp[results,results43,go_sem,z0,z1,z2]) rfl ?_;exact⟨HZ.out.1,rfl⟩
 have i4:(s.size:Int)<=400:=by omega
 have HRL:=hrl h4;clear hrl;apply wp_cut;intro K0 J;go_wp2;apply J.out;clear J;apply wp_cut;intro K0 J;go_wp2;apply J.out;rw[<-hw1,<-hw2];clear hw1 hw2 J HB1;rcases hn:jJ (s.size+1) Sh.none 1 s with sh|n;rotate_left
 ·rw[hn] at HRL
  have HG2:G=.inr (n,2):=by rw[HG.out];unfold jO;rw[if_neg (by omega),hn]
  rw[HG2];have hn1:(0:Int)<(n:Int):=by have:=zGk _ _ _ _ _ hn;omega
  clear hn;go_wp2_with (first|(go_at_call 56;refine HRL.out.mono ?_;rintro e v ⟨hK,rfl⟩;obtain⟨HB,c0,c1,c2,f0,f1,f2⟩:=HK1.out v hK))
  obtain⟨w7,hw7,z0,z1,z2,HZ⟩:=zBk w v (.slice none 0 0) (.slice none 0 0) (.slice none 0 0) HB;rw[<-hw7];refine bodyPost_ret (v:=.tuple #[.agg #[.slice none 0 0,.slice none 0 0,.slice none 0 0],.int .i64 (n:Int),.int .i64 2]) (by simp[results,results43,go_sem,z0,z1,z2]) rfl ?_;exact⟨HZ.out.1,rfl⟩
 rw[hn] at HRL;have HG2:Hid (G=if sh.there&&sh.haveB then(if sh.fitB then .inl sh else .inr (0,4)) else .inr (0,3)):=by show _=_;rw[HG.out];unfold jO;rw[if_neg (by omega),hn]
 clear hn HG;have HPM:=vl fun v h ok=>zNg (v:=v) (S:=w.heap.size+1) (D:=1+6*s.size) (sh:=sh) h ok;have HHR:=vl fun v h ok=>zNn (v:=v) (S:=w.heap.size+1) (D:=1+6*s.size) (sh:=sh) h ok;have HCF:=vl fun v h ok few=>zNs (v:=v) (S:=w.heap.size+1) (D:=1+6*s.size) (sh:=sh) h ok few;rcases hth:sh.there with _|_;rotate_left;rcases hhv:sh.haveB with _|_;rotate_left;rcases hft:sh.fitB with _|_;rotate_left
 ·rw[hth] at HPM
  rw[hhv] at HHR;rw[hft] at HCF;rw[hth,hhv,hft] at HG2;have HTT:=vl (And.intro hth (And.intro hhv hft));clear hth hhv hft;apply wp_cut;intro K0 J;go_wp2_with (first|(go_at_call 56;refine HRL.out.mono ?_;rintro e w3 ⟨hk3,rfl,hS3,hO3,hF3⟩))
  apply J.out;clear J;apply wp_cut;intro K0 J;go_wp2;apply J.out;clear J;apply wp_cut;intro K0 J;go_wp2_with (first|(go_at_call 57;refine(HPM.out w3 hS3 hO3).mono ?_;rintro e w4 ⟨v4,rfl,⟨a4,n4,c4,rfl⟩,hv4,hk4⟩;obtain⟨hS4,hK4,hl3⟩:=hS3.grew hk3 hk4))
  apply J.out;clear J;apply wp_cut;intro K0 J;go_wp2_with (first|(go_at_call 58;refine(HHR.out w4 hS4 hO3).mono ?_;rintro e w5 ⟨rfl,hk5⟩;obtain⟨hS5,hK5,-⟩:=hS4.grew hK4 hk5))
  apply J.out;clear J;apply wp_cut;intro K0 J;go_wp2_with (first|(go_at_call 59;refine(HCF.out w5 hS5 hO3 hF3).mono ?_;rintro e w6 ⟨rfl,hk6⟩;obtain⟨hS6,hK6,-⟩:=hS5.grew hK5 hk6))
  apply J.out;clear J;obtain⟨X,mv,dv,av,qv,rv,ps,dp,h6⟩:=hS6;obtain⟨am,cm,hmv⟩:=zE h6.mOwn;obtain⟨aa,ca,hav⟩:=zE h6.aOwn;subst hmv hav;obtain⟨x0,-,x2,-,-⟩:=h6.cells;obtain⟨HB,c0,c1,c2,f0,f1,f2⟩:=HK1.out w6 hK6;obtain⟨w7,hw7,z0,z1,z2,HZ⟩:=zBk w w6 (.slice am sh.modes.length cm) (.slice aa sh.acts.length ca) (.slice a4 n4 c4) HB;have HOW:=vl (zJ (zJ (hv4 trivial) hk5) hk6);have H6:=vl (And.intro h6 (And.intro hO3 (And.intro hF3 hl3)));clear HB h6 hv4 hk4 hk5 hk6 hS3 hO3 hF3 hk3 hS4 hS5 hK4 hK5 hK6 hl3 HRL HPM HHR HCF HK1;apply wp_cut;intro K0 J;go_region
  all_goals
   rw[<-hw7];obtain⟨w8,hw8,y0,y1,y2,H8⟩:∃w8,w8=w7.drew∧w8.cell? ⟨w.heap.size,0,none⟩=some (.slice am sh.modes.length cm)∧w8.cell? ⟨w.heap.size,1,none⟩=some (.slice aa sh.acts.length ca)∧w8.cell? ⟨w.heap.size,2,none⟩=some (.slice a4 n4 c4)∧Hid (Grew w w8∧SpecIs w8 (1+6*s.size) (.slice am sh.modes.length cm) (.slice aa sh.acts.length ca) (.slice a4 n4 c4) sh):=by
    obtain⟨k1,k2,k3,k4,k5⟩:=HZ.out;have k6:w7.drew.heap.size=w6.heap.size:=k2;refine⟨_,rfl,z0,z1,z2,⟨k1.os,k1.output,k1.size,k1.block⟩,⟨⟨X,_,dv,qv,rv,ps,dp,H6.out.1.low k3 k4 (by omega) fun k h1 _=>k5 k (by omega)⟩,zAF (H:=w3.heap.size) (zD HOW.out fun g h1 _ _=>k5 g (by have:=H6.out.2.2.2;omega)),H6.out.2.1,H6.out.2.2.1,HTT.out.1,HTT.out.2.1,HTT.out.2.2⟩⟩
   rw[<-hw8];show K0 _ _;apply J.out;clear J;clear hw7 hw8 z0 z1 z2 x0 x2 c0 c1 c2 f0 f1 f2;go_wp2;refine bodyPost_ret (v:=.tuple #[.agg #[.slice am sh.modes.length cm,.slice aa sh.acts.length ca,.slice a4 n4 c4],.int .i64 0,.int .i64 0]) (by simp[results,results43,go_sem,y0,y1,y2]) rfl ?_;rw[HG2.out];exact⟨H8.out.1,_,_,_,rfl,H8.out.2⟩
 all_goals
  rw[hth] at HPM HG2
  try rw[hhv] at HHR HG2
  try rw[hft] at HCF HG2
  clear hth
  try clear hhv
  try clear hft
  go_wp2_with ((first|(go_at_call 56;refine HRL.out.mono ?_;rintro e v ⟨hK,rfl,hS,hO,hF⟩)|(go_at_call 57;refine(HPM.out v hS hO).mono ?_;rintro e v ⟨v4,rfl,⟨a4,n4,c4,rfl⟩,-,hk4⟩;obtain⟨hS,hK,-⟩:=hS.grew hK hk4)|(go_at_call 58;refine(HHR.out v hS hO).mono ?_;rintro e v ⟨rfl,hk4⟩;obtain⟨hS,hK,-⟩:=hS.grew hK hk4)|(go_at_call 59;refine(HCF.out v hS hO hF).mono ?_;rintro e v ⟨rfl,hk4⟩;obtain⟨hS,hK,-⟩:=hS.grew hK hk4));obtain⟨HB,c0,c1,c2,f0,f1,f2⟩:=HK1.out v hK)
  obtain⟨w7,hw7,z0,z1,z2,HZ⟩:=zBk w v (.slice none 0 0) (.slice none 0 0) (.slice none 0 0) HB;rw[<-hw7]
  first
  |(refine bodyPost_ret (v:=.tuple #[.agg #[.slice none 0 0,.slice none 0 0,.slice none 0 0],.int .i64 0,.int .i64 3]) (by simp[results,results43,go_sem,z0,z1,z2];done) rfl ?_;rw[HG2.out];exact⟨HZ.out.1,rfl⟩)
  |(refine bodyPost_ret (v:=.tuple #[.agg #[.slice none 0 0,.slice none 0 0,.slice none 0 0],.int .i64 0,.int .i64 4]) (by simp[results,results43,go_sem,z0,z1,z2];done) rfl ?_;rw[HG2.out];exact⟨HZ.out.1,rfl⟩)
end Go.Proofs.YtbjcfkdnjaiclaaGreat
