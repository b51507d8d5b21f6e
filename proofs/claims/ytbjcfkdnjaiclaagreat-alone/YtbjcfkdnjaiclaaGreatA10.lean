import Derived.Deep.DrawnRows
import Derived.Deep.RegionLaw
import Derived.Test.YtbjcfkdnjaiclaaGreatA0
import Derived.Test.YtbjcfkdnjaiclaaGreatA5
import Derived.Test.YtbjcfkdnjaiclaaGreatA9
/- Parts of the proof. -/
set_option linter.unusedVariables false
set_option linter.unusedSimpArgs false
set_option maxHeartbeats 4000000
set_option maxRecDepth 100000
namespace Go.Proofs.YtbjcfkdnjaiclaaGreat
open Go.RowKit Go.Proofs.Tryz Go.World
open Go.Value (int slice bool pointer string agg tuple)
open Go.IntKind (i64)
open Go.Ending (returned)
section
variable {sh sh':Sh} {nm s:ByteArray} {D:Nat}
theorem zHU {defs:List (ByteArray×Tr)}{t:Tr}(hs:s.size<=1048576)(hd:zA0 D defs)(h:vO s defs=some t):TrOk (D+2+4*s.size) t:=by
 unfold vO at h;cases hm:zBr s defs 8 0 false with
 |none=>rw[hm] at h;cases h
 |some g=>
  obtain⟨u,q⟩:=g;rw[hm] at h;have h2:(if q=s.size then some u else none)=some t:=h;split at h2
  ·rename_i e
   have e1:=hU h2;obtain⟨-,-,hk⟩:=zAa hs hd 8 false 0 u q hm;rw[<-e1,<-e];exact hk
  ·cases h2
theorem ShOk.deep {D E:Nat}(h:ShOk sh D)(he:D<=E):ShOk sh E:=⟨h.modes,h.defs,h.acts,h.same,h.names,fun d hd=>(h.trees d hd).deep he,fun i hi t ht=>(h.rules i hi t ht).deep he⟩
theorem zJh (h:xD s=true):s.size<=6:=by
 unfold xD at h;rw[Bool.and_eq_true,Bool.and_eq_true] at h;exact of_decide_eq_true h.2.1
theorem zHT (h:yA sh nm=some sh')(ok:ShOk sh D)(few:vW sh):ShOk sh' D∧vW sh':=by
 unfold yA at h;split at h
 ·cases h
 split at h
 ·cases h
 split at h
 ·rename_i h3 _ _
  have e:=hU h;subst e;have hl:=jF sh nm;refine⟨⟨by omega,ok.defs,ok.acts,ok.same,ok.names,ok.trees,fun i hi t ht=>?_⟩,fun i hi=>?_⟩
  ·by_cases e:i=sh.modes.length
   ·subst e;rw[zAl] at ht;cases ht
   ·rw[zAk sh nm i (by omega)] at ht;exact ok.rules i (by omega) t ht
  ·by_cases e:i=sh.modes.length
   ·subst e;rw[zAl];exact lX
   ·rw[zAk sh nm i (by omega)];exact few i (by omega)
 ·cases h
theorem zI6 (h:vD sh s=some sh')(hs:s.size<=1000)(ok:ShOk sh D)(few:vW sh):ShOk sh' (D+2+4*s.size)∧vW sh':=by
 have hBs:=jD s 32;unfold vD at h;split at h
 ·split at h
  ·cases h
  split at h
  ·cases h
  split at h
  ·rename_i h4 _ hn
   cases hr:vO (yK s 32) sh.defs with
   |none=>rw[hr] at h;cases h
   |some t=>
    rw[hr] at h;have e:=hU h;subst e;have hl:=zCP sh (xX s 32) t;have ht:=(zHU (by omega) ok.trees hr).deep (show _<=D+2+4*s.size by omega);have ok2:=ok.deep (show D<=D+2+4*s.size by omega);refine⟨⟨ok2.modes,by omega,ok2.acts,ok2.same,fun i hi=>?_,fun d hd=>?_,ok2.rules⟩,few⟩
    ·by_cases e:i=sh.defs.length
     ·subst e;rw[zCO];exact zJh hn
     ·rw[zCN sh _ t i (by omega)];exact ok.names i (by omega)
    ·have hd2:=hd
     rcases kU.1 hd2 with h1|h1
     ·exact ok2.trees d h1
     ·rw[kY.1 h1];exact ht
  ·cases h
 ·cases h
theorem zHS (h:qK sh nm s=some sh')(hs:s.size<=1000)(ok:ShOk sh D)(few:vW sh):ShOk sh' (D+2+4*s.size)∧vW sh':=by
 have hBs:=jD s 32;unfold qK at h;split at h
 ·split at h
  ·cases h
  split at h
  ·cases h
  split at h
  ·split at h
   ·rename_i h0 h8 _ _
    cases hr:vO (yK s 32) sh.defs with
    |none=>rw[hr] at h;cases h
    |some t=>
     rw[hr] at h;have e:=hU h;subst e;have ht:=(zHU (by omega) ok.trees hr).deep (show _<=D+2+4*s.size by omega);have ok2:=ok.deep (show D<=D+2+4*s.size by omega);generalize (zAv (xX s 32))=ac at *;have hkl:sh.modes.length-1<sh.modes.length:=by omega
     have hl:=zEe ((sh.addAct ac.act).addPush ac.name) (sh.modes.length-1) t;have hl2:((sh.addAct ac.act).addPush ac.name).modes.length=sh.modes.length:=rfl;have hal:(((sh.addAct ac.act).addPush ac.name).addRule (sh.modes.length-1) t).acts.length=sh.acts.length+1:=by show(sh.acts++[ac.act]).length=_;rw[kX];rfl
     have hpl:(((sh.addAct ac.act).addPush ac.name).addRule (sh.modes.length-1) t).pushed.length=sh.pushed.length+1:=by show(sh.pushed++[ac.name]).length=_;rw[kX];rfl
     have hnew:=zAV ((sh.addAct ac.act).addPush ac.name) (sh.modes.length-1) t hkl;refine⟨⟨by have:=ok.modes;omega,ok2.defs,by omega,by have:=ok.same;omega,ok2.names,ok2.trees,fun i hi u hu=>?_⟩,fun i hi=>?_⟩
     ·by_cases e:i=sh.modes.length-1
      ·rw[e,hnew] at hu
       rcases kU.1 hu with h1|h1
       ·exact ok2.rules _ hkl u h1
       ·rw[kY.1 h1];exact ht
      ·rw[zAj _ _ t i e] at hu
       exact ok2.rules i (by omega) u hu
     ·rw[hal]
      by_cases e:i=sh.modes.length-1
      ·rw[e,hnew]
       show((sh.mode (sh.modes.length-1)).2++[t]).length<=_;rw[kX];have:=few _ hkl;show(sh.mode (sh.modes.length-1)).2.length+1<=_;omega
      ·rw[zAj _ _ t i e]
       have:=few i (by omega);show(sh.mode i).2.length<=_;omega
   ·cases h
  ·cases h
 ·cases h
theorem zHV (h:xK sh s=some sh')(hs:s.size<=1000)(ok:ShOk sh D)(few:vW sh):ShOk sh' (D+2+4*s.size)∧vW sh':=by
 have hBs:=jD s 32;unfold xK at h;split at h
 ·split at h
  ·obtain⟨a,b⟩:=zHT h ok few
   exact⟨a.deep (by omega),b⟩
  split at h
  ·obtain⟨a,b⟩:=zI6 h (by omega) ok few
   exact⟨a.deep (by omega),b⟩
  ·obtain⟨a,b⟩:=zHS h (by omega) ok few
   exact⟨a.deep (by omega),b⟩
 ·cases h
theorem zLs {c:Nat}(h:jS s c=true):(yK s c).size+(xX s c).size+1=s.size:=by
 have hi:jO s c<s.size:=by unfold jS at h;exact of_decide_eq_true h
 unfold xX yK;rw[if_pos h,if_pos h,ByteArray.size_extract,ByteArray.size_extract];omega
def vQ:Nat->Sh->Nat->ByteArray->Sh ⊕ Nat
 |0,sh,_,_=>.inl sh
 |f+1,sh,n,s=>if s.size=0 then .inl sh else if jS s 10 then(match xK sh (xX s 10) with
  |none=>.inr n
  |some sh'=>vQ f sh' (n+1) (yK s 10)) else .inr n
def zNO (w:World)(S D:Nat)(G:Sh ⊕ Nat)(e:Ending)(w':World):Prop:=
 Keep S S w w'∧match G with
 | .inl sh=>e=returned (int i64 0)∧SwIs w' S D sh∧ShOk sh D∧vW sh
 | .inr n=>e=returned (int i64 (n:Int))
theorem zEh (w:World)(S D:Nat)(sh:Sh)(h:SwIs w S D sh)(ok:ShOk sh D)(few:vW sh)(s:ByteArray)(hs:s.size<=1000):
  Calls prog 56 #[pointer (some ⟨S,0,none⟩),string s] w (zNO w S (D+6*s.size) (vQ (s.size+1) sh 1 s)):=by
 obtain⟨G,hG⟩:∃G,G=vQ (s.size+1) sh 1 s:=⟨_,rfl⟩
 have HG:=vl hG.symm;rw[<-hG];have HS:Hid (SwIs w S D sh∧ShOk sh D∧vW sh):=⟨h,ok,few⟩
 go_in;go_wp2;go_loopg [5,6] (s.size+1) (fun n v5 v6 wr=>∃f sh num rest,n=f∧v5=int i64 (num:Nat)∧v6=string rest∧rest.size<=s.size∧rest.size+1<=f∧num+rest.size<=s.size+1∧vQ f sh num rest=G∧SwIs wr S (D+6*(s.size-rest.size)) sh∧ShOk sh (D+6*(s.size-rest.size))∧vW sh∧Keep S S w wr)
 case atStart=>exact⟨s.size+1,sh,1,s,rfl,rfl,rfl,lQ,lQ,by omega,HG.out,by rw[Nat.sub_self];exact HS.out.1,by rw[Nat.sub_self];exact HS.out.2.1,HS.out.2.2,Keep.refl _ _ _⟩
 case round=>
  obtain⟨f,sh1,num,rest,hgk,rfl,rfl,hrs,hf,hnum,hGo,hSw,hok,hfew,hk⟩:=hrel;cases f with
  |zero=>omega
  |succ f=>
  have hE:=zAs rest;have hGo2:(if rest.size=0 then .inl sh1 else if jS rest 10 then(match xK sh1 (xX rest 10) with|none=>.inr num|some sh'=>vQ f sh' (num+1) (yK rest 10)) else .inr num)=G:=hGo;obtain⟨X,mv,dv,av,pv,rv,ps,dp,hS1⟩:=hSw;have HA:Hid (Sw wr X S (D+6*(s.size-rest.size)) sh1 mv dv av pv rv ps dp∧ShOk sh1 (D+6*(s.size-rest.size))∧vW sh1∧Keep S S w wr∧gk=f+1):=⟨hS1,hok,hfew,hk,hgk⟩
  by_cases h0:rest.size=0
  ·rw[if_pos h0] at hGo2
   have HG2:=vl hGo2.symm;rw[dW h0] at hE;have HR0:=vl h0;go_wp2;go_ret;refine⟨HA.out.2.2.2.1,?_⟩;rw[HG2.out];have e0:D+6*(s.size-rest.size)=D+6*s.size:=by rw[HR0.out];rfl
   refine⟨rfl,⟨X,mv,dv,av,pv,rv,ps,dp,?_⟩,?_,HA.out.2.2.1⟩
   ·rw[<-e0];exact HA.out.1
   ·rw[<-e0];exact HA.out.2.1
  rw[if_neg h0] at hGo2;rw[dY h0] at hE;have HCU:=vl <| zCi wr rest (by omega) 10;have hcs:jS rest 10=true->(yK rest 10).size+(xX rest 10).size+1=rest.size:=zLs;have HLN:Hid ((xX rest 10).size<=1000->∀w1,Grew wr w1->Ca 87 #[pointer (some ⟨S,0,none⟩),string (xX rest 10)] w1 (LnAns wr S (D+6*(s.size-rest.size)+2+4*(xX rest 10).size) (xK sh1 (xX rest 10)))):=fun hz w1 hk1=>(zEZ w1 X S _ sh1 mv dv av pv rv ps dp (HA.out.1.grown hk1) HA.out.2.1 HA.out.2.2.1 (xX rest 10) hz).mono fun e w2 h2=>h2.from (hk1.lower (Nat.le_of_lt HA.out.1.lt) (Nat.le_of_lt HA.out.1.lt))
  have HLO:Hid (∀sh',xK sh1 (xX rest 10)=some sh'->(xX rest 10).size<=1000->ShOk sh' (D+6*(s.size-rest.size)+2+4*(xX rest 10).size)∧vW sh'):=fun sh' e hz=>zHV e hz HA.out.2.1 HA.out.2.2.1;have HKS:Hid (∀w1,Grew wr w1->Keep S S wr w1):=fun w1 hk1=>hk1.lower (Nat.le_of_lt HA.out.1.lt) (Nat.le_of_lt HA.out.1.lt);generalize xX rest 10=A at *;generalize yK rest 10=B at *;generalize jS rest 10=K at *;cases K with
  |false=>
   have HG2:=vl hGo2.symm;go_wp2_with (first|(go_at_call 86;refine HCU.out.mono ?_;rintro e w1 ⟨rfl,hk1⟩))
   go_ret;refine⟨HA.out.2.2.2.1.trans (HKS.out w1 hk1),?_⟩;rw[HG2.out];rfl
  |true=>
   have hsz:=hcs rfl;have HL2:=HLN.out (by omega);rw[if_pos rfl] at hGo2;cases hm:xK sh1 A with
   |none=>
    rw[hm] at hGo2 HL2;have HL3:=vl HL2;have HG2:=vl hGo2.symm;go_wp2_with (first|(go_at_call 86;refine HCU.out.mono ?_;rintro e w1 ⟨rfl,hk1⟩)|(go_at_call 87;refine(HL3.out w1 hk1).mono ?_;rintro e w2 ⟨hk2,rfl⟩))
    go_ret;refine⟨HA.out.2.2.2.1.trans hk2,?_⟩;rw[HG2.out];rfl
   |some sh2=>
    have HO2:=HLO.out sh2 hm (by omega);rw[hm] at hGo2 HL2;have HL3:=vl HL2;have HG2:Hid (vQ f sh2 (num+1) B=G∧ShOk sh2 (D+6*(s.size-rest.size)+2+4*A.size)∧vW sh2):=⟨hGo2,HO2⟩
    go_wp2_with (first|(go_at_call 86;refine HCU.out.mono ?_;rintro e w1 ⟨rfl,hk1⟩)|(go_at_call 87;refine(HL3.out w1 hk1).mono ?_;rintro e w2 ⟨hk2,rfl,hs2⟩))
    go_roundg f
    case measure=>rw[HA.out.2.2.2.2];omega
    case rel=>exact⟨f,sh2,num+1,B,rfl,by go_num,rfl,by omega,by omega,by omega,HG2.out.1,hs2.deep (by omega),HG2.out.2.1.deep (by omega),HG2.out.2.2,HA.out.2.2.2.1.trans hk2⟩
end
def Sh.pushI (sh:Sh)(nm:ByteArray):Int:=if nm.size=0 then 0 else sh.modeI nm
def Sh.push (sh:Sh)(i:Nat):ByteArray:=sh.pushed.getD i ⟨#[]⟩
def Sh.there (sh:Sh):Bool:=decide (∀i,i<sh.pushed.length->0<=sh.pushI (sh.push i))
def Sh.pushesTo (sh:Sh)(j:Nat):List Int:=(List.range j).map fun i=>sh.pushI (sh.push i)
theorem yR (sh:Sh)(j:Nat):(sh.pushesTo j).length=j:=by unfold Sh.pushesTo;rw[kV,List.length_range]
theorem zFO (sh:Sh)(j:Nat):sh.pushesTo (j+1)=sh.pushesTo j++[sh.pushI (sh.push j)]:=by unfold Sh.pushesTo;rw[List.range_succ,List.map_append];rfl
theorem zC2 (w:World)(X:Nat->Prop)(S D:Nat)(sh:Sh)(mv dv av pv:Value)(rv:Nat->Value)(ps:Nat->List Nat)(dp:Nat->Nat)(h:Sw w X S D sh mv dv av pv rv ps dp)(hm3:sh.modes.length<=3)(h8:sh.pushed.length<=8):
  Calls prog 57 #[pointer (some ⟨S,0,none⟩)] w fun e w'=>∃v,e=returned (tuple #[v,bool sh.there])∧(∃a n c,v=slice a n c)∧(sh.there=true->OwnI w' w.heap.size v (sh.pushesTo sh.pushed.length))∧Grew w w':=by
 obtain⟨i0,hi0,hz0,hz1,hz2⟩:=info_parts yL;obtain⟨ap,cp,hpv⟩:=zG h.pOwn;subst hpv;obtain⟨-,-,-,c3,-⟩:=h.cells;have HS:=vl h;have HTH:Hid (sh.there=decide (∀i,i<sh.pushed.length->0<=sh.pushI (sh.push i))):=rfl;generalize sh.there=T at *;go_in;go_wp2;go_loopg [4,13] sh.pushed.length (fun q v4 i wr=>∃j:Nat,q=sh.pushed.length-j∧j<=sh.pushed.length∧i=int i64 (j:Int)∧(∀k,k<j->0<=sh.pushI (sh.push k))∧OwnI wr w.heap.size v4 (sh.pushesTo j)∧Grew w wr)
 case atStart=>exact⟨0,rfl,lX,rfl,fun k hk=>by omega,OwnI.nil _ _,Keep.refl _ _ _⟩
 case round=>
  obtain⟨j,hgk,hj,rfl,hno,hOw,hk⟩:=hrel;obtain⟨ao,cap0,hv4⟩:=OwnI.form hOw;rw[yR] at hv4;subst hv4;have HA:Hid (gk=sh.pushed.length-j∧(∀k,k<j->0<=sh.pushI (sh.push k))∧OwnI wr w.heap.size (slice ao j cap0) (sh.pushesTo j)∧Grew w wr∧w.heap.size<=wr.heap.size):=⟨hgk,hno,hOw,hk,hk.size⟩
  by_cases hj2:j<sh.pushed.length
  ·have i1:(j:Int)<(sh.pushed.length:Int):=by omega
   obtain⟨mg,mc,hmv2,-,hmgl,-,-,hcl,-⟩:=qL HS.out.pOwn (by omega);injection hmv2 with ea eb ec;subst ea ec;clear eb;have e1:(sh.pushed.map fun x=>Value.string x)[j]? =some (string (sh.push j)):=by
    unfold Sh.push;rw[gU,lV hj2,lW,lV hj2];rfl
   have y0:=zA (hcl _ _ e1) hmgl hk;have hE:=zAs (sh.push j);have HMO:=vl <| zC6 wr X S D sh mv dv av _ rv ps dp (HS.out.grown hk) (by omega) (sh.push j);have HPI:Hid (sh.pushI (sh.push j)=if(sh.push j).size=0 then 0 else sh.modeI (sh.push j)):=rfl;have HNO:Hid (0<=sh.pushI (sh.push j)->∀k,k<j+1->0<=sh.pushI (sh.push k)):=fun hh k hk=>by
    by_cases e:k=j
    ·rw[e];exact hh
    ·exact HA.out.2.1 k (by omega)
   have HNV:Hid (sh.pushI (sh.push j)<0->T=false):=fun hh=>by
    rw[HTH.out];exact dY fun h2=>by have:=h2 j hj2;omega
   have HPS:=vl <| zFO sh j;have HPL:=vl <| yR sh j;have hmi:=zD4 sh (sh.push j);clear hgk hno hOw hk e1 hcl hmgl;generalize sh.push j=nm at *;generalize sh.modeI nm=mi at *;generalize sh.pushI nm=pi at *;generalize hP:sh.pushesTo j=L at *;clear hP;by_cases h0:nm.size=0
   ·rw[dW h0] at hE
    have HP0:Hid (pi=0):=by show _=_;rw[HPI.out,if_pos h0]
    have OR:Hid (wr.ownsRow w.heap.size 3 1 (slice ao j cap0) j (L.map fun x=>int i64 x)):=by have:=HA.out.2.2.1;unfold OwnI at this;rw[HPL.out] at this;exact this
    have hszr:w.heap.size<=wr.heap.size:=HA.out.2.2.2.2;clear h0 HMO;go_wp2_with (first|(at_builtin;refine wpList_append_lies _ rfl _ _ 45 rfl (w.heap.size) 3 i0 (int i64 0) 1 8 underlying45 hi0 hz0 hz1 hz2 rfl (by decide) _ _ _ rfl (OR.out.alloc _) ⟨wr.heap.size,0,none⟩ 1 1 [int i64 0] rfl rfl (cell_one_new _ _ _) (by intro u hu;simp at hu;subst hu;rfl) (by decide) (by unfold maxLen;omega) (by omega) (by simp;omega) _ rfl ?_;intro gg cap w2 hown hgrow hat hlt2;have hB:=xQ OR.out hgrow hszr;have O2:Hid (OwnI w2 w.heap.size (slice (some ⟨gg,0,none⟩) (j+1) cap) (L++[0])∧Grew w w2):=⟨by unfold OwnI;rw[kX,HPL.out,List.map_append];exact hown,HA.out.2.2.2.1.trans (xO hB)⟩;clear hown hgrow hB hat hlt2))
    go_roundg (sh.pushed.length-(j+1))
    case measure=>rw[HA.out.1];omega
    case rel=>exact⟨j+1,rfl,by omega,by go_num,HNO.out (by rw[HP0.out];omega),by rw[HPS.out,HP0.out];exact O2.out.1,O2.out.2⟩
   ·rw[dY h0] at hE
    have HP0:Hid (pi=mi):=by show _=_;rw[HPI.out,if_neg h0]
    clear h0;rcases hmi with hmi|⟨hmi,-⟩
    ·subst hmi
     have HV:=vl <| HNV.out (by rw[HP0.out];omega);go_wp2_with (first|(go_at_call 88;refine HMO.out.mono ?_;rintro e w1 ⟨rfl,hk1⟩))
     refine dZ (results_tmp2 rfl _ _ _) rfl ?_;exact⟨_,by rw[HV.out];rfl,⟨none,0,0,rfl⟩,fun h=>(by rw[HV.out] at h;cases h),HA.out.2.2.2.1.trans (hk1.lower HA.out.2.2.2.2 HA.out.2.2.2.2)⟩
    ·apply wp_cut
     intro K1 HK1;go_wp2;apply HK1.out;clear HK1;apply wp_cut;intro K1 HK1;go_wp2;apply HK1.out;clear HK1;go_wp2_with (first|(go_at_call 88;refine HMO.out.mono ?_;rintro e w1 ⟨rfl,hk1⟩;have OR:Hid (w1.ownsRow w.heap.size 3 1 (slice ao j cap0) j (L.map fun x=>int i64 x)∧Grew w w1):=⟨by have:=zK HA.out.2.2.1 hk1;unfold OwnI at this;rw[HPL.out] at this;exact this,HA.out.2.2.2.1.trans (hk1.lower HA.out.2.2.2.2 HA.out.2.2.2.2)⟩;have hszr:w.heap.size<=w1.heap.size:=OR.out.2.size;clear hk1)|(at_builtin;refine wpList_append_lies _ rfl _ _ 45 rfl (w.heap.size) 3 i0 (int i64 0) 1 8 underlying45 hi0 hz0 hz1 hz2 rfl (by decide) _ _ _ rfl (OR.out.1.alloc _) ⟨w1.heap.size,0,none⟩ 1 1 [int i64 mi] rfl rfl (cell_one_new _ _ _) (by intro u hu;simp at hu;subst hu;rfl) (by decide) (by unfold maxLen;omega) (by omega) (by simp;omega) _ rfl ?_;intro gg cap w2 hown hgrow hat hlt2;have hB:=xQ OR.out.1 hgrow hszr;have O2:Hid (OwnI w2 w.heap.size (slice (some ⟨gg,0,none⟩) (j+1) cap) (L++[mi])∧Grew w w2):=⟨by unfold OwnI;rw[kX,HPL.out,List.map_append];exact hown,OR.out.2.trans (xO hB)⟩;clear hown hgrow hB hat hlt2))
     go_roundg (sh.pushed.length-(j+1))
     case measure=>rw[HA.out.1];omega
     case rel=>exact⟨j+1,rfl,by omega,by go_num,HNO.out (by rw[HP0.out];omega),by rw[HPS.out,HP0.out];exact O2.out.1,O2.out.2⟩
  ·have i1:(sh.pushed.length:Int)<=(j:Int):=by omega
   have e:j=sh.pushed.length:=by omega
   have HV:Hid (T=true):=by
    show _=_;rw[HTH.out];exact dW fun i hi=>hno i (by omega)
   have HE:=vl e;clear hgk hno hOw hk e;go_wp2;refine dZ (results_tmp2 rfl _ _ _) rfl ?_;refine⟨_,by rw[HV.out];rfl,⟨_,_,_,rfl⟩,fun _=>?_,HA.out.2.2.2.1⟩;rw[<-HE.out];exact HA.out.2.2.1
def Sh.haveB (sh:Sh):Bool:=decide (0<sh.modes.length∧∀i,i<sh.modes.length->0<(sh.mode i).2.length)
def yM (l:List Tr):Nat->Nat
 |0=>0
 |j+1=>yM l j+(l.getD j Tr.none).chars
def Sh.fitB (sh:Sh):Bool:=decide (∀i,i<sh.modes.length->yM (sh.mode i).2 (sh.mode i).2.length<=24)
theorem zCE {w:World}{X:Nat->Prop}{S D:Nat}{sh:Sh}{dv av pv:Value}{rv:Nat->Value}{ps:Nat->List Nat}{dp:Nat->Nat}{ao:Option Addr}{cap0 j:Nat}(h:Sw w X S D sh (slice ao sh.modes.length cap0) dv av pv rv ps dp)(hj:j<sh.modes.length){wr:World}(hk:Grew w wr):
  ∃mg ra rc,ao=some ⟨mg,0,none⟩∧rv j=slice ra (sh.mode j).2.length rc∧wr.cell? ⟨mg,j*2,none⟩=some (string (sh.mode j).1)∧wr.cell? ⟨mg,j*2+1,none⟩=some (slice ra (sh.mode j).2.length rc):=by
 obtain⟨mg,mc,hmv2,-,hmgl,-,-,hcl,-⟩:=qL h.mOwn (by omega);injection hmv2 with ea eb ec;obtain⟨ra,rc,hrv⟩:=zG (h.rOwn j hj);obtain⟨e1,e2⟩:=zA3 (fun i=>string (sh.mode i).1) rv sh.modes.length j hj;rw[hrv] at e2;exact⟨mg,ra,rc,ea,hrv,zA (hcl _ _ e1) hmgl hk,zA (hcl _ _ e2) hmgl hk⟩
theorem zEl (w:World)(X:Nat->Prop)(S D:Nat)(sh:Sh)(mv dv av pv:Value)(rv:Nat->Value)(ps:Nat->List Nat)(dp:Nat->Nat)(h:Sw w X S D sh mv dv av pv rv ps dp)(hm3:sh.modes.length<=3):
  Calls prog 58 #[pointer (some ⟨S,0,none⟩)] w fun e w'=>e=returned (bool sh.haveB)∧Grew w w':=by
 obtain⟨ao,cap0,hmv⟩:=zG h.mOwn;subst hmv;obtain⟨c0,-,-,-,-⟩:=h.cells;have HS:=vl h;have HTH:Hid (sh.haveB=decide (0<sh.modes.length∧∀i,i<sh.modes.length->0<(sh.mode i).2.length)):=rfl;generalize sh.haveB=T at *;have hSl:S<w.heap.size:=h.lt;have C0:Hid (∀wr,Grew w wr->wr.cell? ⟨S,0,none⟩=some (slice ao sh.modes.length cap0)):=fun wr hk=>zA c0 hSl hk;go_in;go_wp2;go_loopg [10] sh.modes.length (fun q i wr=>∃j:Nat,q=sh.modes.length-j∧j<=sh.modes.length∧i=int i64 (j:Int)∧(∀k,k<j->0<(sh.mode k).2.length)∧Grew w wr)
 case atStart=>exact⟨0,rfl,lX,rfl,fun k hk=>by omega,Keep.refl _ _ _⟩
 case round=>
  obtain⟨j,hgk,hj,rfl,hno,hk⟩:=hrel;have HA:Hid (gk=sh.modes.length-j∧(∀k,k<j->0<(sh.mode k).2.length)∧Grew w wr∧w.heap.size<=wr.heap.size):=⟨hgk,hno,hk,hk.size⟩
  by_cases hj2:j<sh.modes.length
  ·have i1:(j:Int)<(sh.modes.length:Int):=by omega
   obtain⟨mg,ra,rc,rfl,-,y0,y1⟩:=zCE HS.out hj2 hk;obtain⟨wa,hwa,z1,HKa⟩:∃wa,wa=wr.alloc (.cells #[string (sh.mode j).1,slice ra (sh.mode j).2.length rc] 120)∧wa.cell? ⟨wr.heap.size,1,none⟩=some (slice ra (sh.mode j).2.length rc)∧Hid (Grew w wa):=by
    have hb2:=gJ wr (.cells #[string (sh.mode j).1,slice ra (sh.mode j).2.length rc] 120);refine⟨_,rfl,?_,HA.out.2.2.1.trans (kZ _ _ HA.out.2.2.2)⟩;unfold cell?;rw[hb2];rfl
   have HNO:Hid (0<(sh.mode j).2.length->∀k,k<j+1->0<(sh.mode k).2.length):=fun hh k hk=>by
    by_cases e:k=j
    ·rw[e];exact hh
    ·exact HA.out.2.1 k (by omega)
   have HNV:Hid ((sh.mode j).2.length=0->T=false):=fun hh=>by
    rw[HTH.out];exact dY fun h2=>by have:=h2.2 j hj2;omega
   generalize (sh.mode j).2.length=rl at *;apply wp_cut;intro K1 HK1;go_wp2;apply HK1.out;apply wp_cut;intro K1 HK1;go_wp2;apply HK1.out;apply wp_cut;intro KB HKB;refine wp_block ?_;apply wp_cut;intro K1 HK1;go_wp2;apply HK1.out;rw[<-hwa];clear hwa y0 y1;by_cases h0:rl=0
   ·have HV:=vl <| HNV.out h0
    have e0:((rl:Int)==0)=true:=by rw[h0];rfl
    clear h0;go_wp2;go_ret;exact⟨by rw[HV.out];rfl,HKa.out⟩
   ·have HN2:=HNO.out (by omega)
    have e0:((rl:Int)==0)=false:=by rw[hJ];omega
    clear h0;go_wp2;apply HKB.out;clear HKB;go_wp2;go_roundg (sh.modes.length-(j+1))
    case measure=>rw[HA.out.1];omega
    case rel=>exact⟨j+1,rfl,by omega,by go_num,HN2,HKa.out⟩
  ·have i1:(sh.modes.length:Int)<=(j:Int):=by omega
   have c0:=C0.out wr hk;have HV:Hid (T=decide (0<sh.modes.length)):=by
    show _=_;rw[HTH.out];by_cases e:0<sh.modes.length
    ·rw[dW e];exact dW ⟨e,fun i hi=>hno i (by omega)⟩
    ·rw[dY e];exact dY fun h2=>e h2.1
   clear hgk hno hk;by_cases e:0<sh.modes.length
   ·have i2:(0:Int)<(sh.modes.length:Int):=by omega
    have HV2:Hid (T=true):=by show _=_;rw[HV.out];exact dW e
    clear e;go_wp2;go_ret;exact⟨by rw[HV2.out];first|rfl|(simp;done)|(simp;omega),HA.out.2.2.1⟩
   ·have i2:(sh.modes.length:Int)<=0:=by omega
    have HV2:Hid (T=false):=by show _=_;rw[HV.out];exact dY e
    clear e;go_wp2;go_ret;exact⟨by rw[HV2.out];first|rfl|(simp;done)|(simp;omega)|(simp;exact List.length_eq_zero_iff.1 (by omega)),HA.out.2.2.1⟩
theorem zJM (l:List Tr)(h:∀t∈l,t.chars<=25)(j:Nat)(hj:j<=l.length):yM l j<=25*j:=by
 induction j with
 |zero=>exact lQ
 |succ j ih=>
  have h1:=ih (by omega);have hm:l.getD j Tr.none∈l:=by
   rw[lW,lV (by omega:j<l.length)];exact List.getElem_mem _
  have h2:=h _ hm;show yM l j+(l.getD j Tr.none).chars<=_;omega
theorem zFv (w:World)(X:Nat->Prop)(S D:Nat)(sh:Sh)(mv dv av pv:Value)(rv:Nat->Value)(ps:Nat->List Nat)(dp:Nat->Nat)(h:Sw w X S D sh mv dv av pv rv ps dp)(ok:ShOk sh D)(few:vW sh):
  Calls prog 59 #[pointer (some ⟨S,0,none⟩)] w fun e w'=>e=returned (bool sh.fitB)∧Grew w w':=by
 obtain⟨ao,cap0,hmv⟩:=zG h.mOwn;subst hmv;obtain⟨c0,-,-,-,-⟩:=h.cells;have HS:Hid (Sw w X S D sh (slice ao sh.modes.length cap0) dv av pv rv ps dp∧ShOk sh D∧vW sh):=⟨h,ok,few⟩
 have hm3:=ok.modes;have HTH:Hid (sh.fitB=decide (∀i,i<sh.modes.length->yM (sh.mode i).2 (sh.mode i).2.length<=24)):=rfl;generalize sh.fitB=T at *;go_in;go_wp2;go_loopg [13] sh.modes.length (fun q i wr=>∃j:Nat,q=sh.modes.length-j∧j<=sh.modes.length∧i=int i64 (j:Int)∧(∀k,k<j->yM (sh.mode k).2 (sh.mode k).2.length<=24)∧Grew w wr)
 case atStart=>exact⟨0,rfl,lX,rfl,fun k hk=>by omega,Keep.refl _ _ _⟩
 case round=>
  obtain⟨j,hgk,hj,rfl,hno,hk⟩:=hrel;have HA:Hid (gk=sh.modes.length-j∧(∀k,k<j->yM (sh.mode k).2 (sh.mode k).2.length<=24)∧Grew w wr∧w.heap.size<=wr.heap.size):=⟨hgk,hno,hk,hk.size⟩
  by_cases hj2:j<sh.modes.length
  ·have i1:(j:Int)<(sh.modes.length:Int):=by omega
   obtain⟨mg,ra,rc,rfl,hrv,y0,y1⟩:=zCE HS.out.1 hj2 hk;obtain⟨wa,hwa,z1,HKa⟩:∃wa,wa=wr.alloc (.cells #[string (sh.mode j).1,slice ra (sh.mode j).2.length rc] 120)∧wa.cell? ⟨wr.heap.size,1,none⟩=some (slice ra (sh.mode j).2.length rc)∧Hid (Grew w wa):=by
    have hb2:=gJ wr (.cells #[string (sh.mode j).1,slice ra (sh.mode j).2.length rc] 120);refine⟨_,rfl,?_,HA.out.2.2.1.trans (kZ _ _ HA.out.2.2.2)⟩;unfold cell?;rw[hb2];rfl
   have HNO:Hid (yM (sh.mode j).2 (sh.mode j).2.length<=24->∀k,k<j+1->yM (sh.mode k).2 (sh.mode k).2.length<=24):=fun hh k hk=>by
    by_cases e:k=j
    ·rw[e];exact hh
    ·exact HA.out.2.1 k (by omega)
   have HNV:Hid (24<yM (sh.mode j).2 (sh.mode j).2.length->T=false):=fun hh=>by
    rw[HTH.out];exact dY fun h2=>by have:=h2 j hj2;omega
   have HRC:Hid (∀i,i<(sh.mode j).2.length->∃rg p,ra=some ⟨rg,0,none⟩∧wa.cell? ⟨rg,i,none⟩=some (pointer (some ⟨p,0,none⟩))∧wa.cell? ⟨p,7,none⟩=some (int i64 (((sh.mode j).2.getD i Tr.none).chars:Int))∧((sh.mode j).2.getD i Tr.none).chars<=25):=fun i hi=>by
    obtain⟨rg,rc2,hr2,-,hrgl,-,-,hcl,-⟩:=qL (HS.out.1.rOwn j hj2) (by omega);rw[hrv] at hr2;injection hr2 with ea eb ec;have hpl:(ps j).length=(sh.mode j).2.length:=by
     have:=(HS.out.1.rOwn j hj2).1;unfold xU at this;rw[kV] at this;omega
    have e1:(xU (ps j))[i]? =some (pointer (some ⟨(ps j).getD i 0,0,none⟩)):=by
     unfold xU;rw[gU,lV (by omega:i<(ps j).length),lW,lV (by omega:i<(ps j).length)];rfl
    have ht:=HS.out.1.rTree j hj2 i hi;have hpw:In w ((ps j).getD i 0):=by
     cases D with
     |zero=>exact False.elim ht.at
     |succ d=>exact ht.at.1
    have hm:(sh.mode j).2.getD i Tr.none∈(sh.mode j).2:=by
     rw[lW,lV hi];exact List.getElem_mem _
    exact⟨rg,_,ea,zA (hcl _ _ e1) hrgl HKa.out,zA ht.chars hpw HKa.out,(HS.out.2.1.rules j hj2 _ hm).few⟩
   have hrl:(sh.mode j).2.length<=8:=lY (HS.out.2.2 j hj2) HS.out.2.1.acts;have HCL:=vl <| zJM _ fun t ht=>(HS.out.2.1.rules j hj2 t ht).few;generalize (sh.mode j).2=L at *;apply wp_cut;intro K1 HK1;go_wp2;apply HK1.out;clear HK1;apply wp_cut;intro K1 HK1;go_wp2;apply HK1.out;clear HK1;apply wp_cut;intro KB HKB;refine wp_block ?_;apply wp_cut;intro K1 HK1;go_wp2;apply HK1.out;clear HK1;rw[<-hwa];clear hwa y0 y1;go_wp2;clear z1;go_loopg [5,20] L.length (fun q c i w2=>∃k:Nat,q=L.length-k∧k<=L.length∧c=int i64 (yM L k:Nat)∧i=int i64 (k:Int)∧w2=wa)
   case atStart=>exact⟨0,rfl,lX,rfl,rfl,rfl⟩
   case round=>
    obtain⟨k,hgk2,hk,rfl,rfl,rfl⟩:=hrel;have HGK:=vl hgk2;by_cases hk2:k<L.length
    ·have i2:(k:Int)<(L.length:Int):=by omega
     obtain⟨rg,p,rfl,x0,x1,hc25⟩:=HRC.out k hk2;have hcb:=HCL.out k (by omega);have HCS:Hid (yM L (k+1)=yM L k+(L.getD k Tr.none).chars):=rfl;clear hgk2;generalize (L.getD k Tr.none).chars=cc at *;generalize yM L k=sum at *;go_wp2;go_roundg (L.length-(k+1))
     case measure=>rw[HGK.out];omega
     case rel=>exact⟨k+1,rfl,by omega,by rw[HCS.out];go_num,by go_num,rfl⟩
    ·have i2:(L.length:Int)<=(k:Int):=by omega
     have e:k=L.length:=by omega
     subst e;have hcb:=HCL.out L.length lQ;clear hgk2;generalize yM L L.length=sum at *;by_cases h24:24<sum
     ·have HV:=vl <| HNV.out h24
      have j24:(24:Int)<(sum:Int):=by omega
      clear h24;go_wp2;go_ret;exact⟨by rw[HV.out];rfl,HKa.out⟩
     ·have HN2:=vl <| HNO.out (by omega)
      have j24:(sum:Int)<=24:=by omega
      clear h24;go_wp2;apply HKB.out;clear HKB;go_wp2;go_roundg (sh.modes.length-(j+1))
      case measure=>rw[HA.out.1];omega
      case rel=>exact⟨j+1,rfl,by omega,by go_num,HN2.out,HKa.out⟩
  ·have i1:(sh.modes.length:Int)<=(j:Int):=by omega
   have HV:Hid (T=true):=by
    show _=_;rw[HTH.out];exact dW fun i hi=>hno i (by omega)
   clear hgk hno hk;go_wp2;go_ret;exact⟨by rw[HV.out];rfl,HA.out.2.2.1⟩
section
variable {w2 v v':World} {S D:Nat} {sh:Sh} (h:SwIs v S D sh) (hK:Keep S S w2 v)
def vR (s:ByteArray):Sh ⊕ (Nat×Nat):=
 if 400<s.size then .inr (0,1) else
 match vQ (s.size+1) Sh.none 1 s with
 | .inr n=>.inr (n,2)
 | .inl sh=>if sh.there&&sh.haveB then(if sh.fitB then .inl sh else .inr (0,4)) else .inr (0,3)
theorem zGi:∀f sh n s m,vQ f sh n s=.inr m->n<=m
 |0,_,_,_,_,h=>by cases h
 |f+1,sh,n,s,m,h=>by
  have h2:(if s.size=0 then .inl sh else if jS s 10 then(match xK sh (xX s 10) with|none=>.inr n|some sh'=>vQ f sh' (n+1) (yK s 10)) else .inr n)=(.inr m:Sh ⊕ Nat):=h;split at h2
  ·cases h2
  split at h2
  ·cases hm:xK sh (xX s 10) with
   |none=>rw[hm] at h2;cases h2;exact lQ
   |some sh'=>
    rw[hm] at h2;exact Nat.le_of_succ_le (zGi f sh' (n+1) _ m h2)
  ·cases h2;exact lQ
theorem Sw.low {w w2:World}{X:Nat->Prop}{S D:Nat}{sh:Sh}{mv dv av pv:Value}{rv:Nat->Value}{ps:Nat->List Nat}{dp:Nat->Nat}(h:Sw w X S D sh mv dv av pv rv ps dp)(ho:w2.os=w.os)(hu:w2.output=w.output)(hz:w.heap.size<=w2.heap.size)(hb:∀k,S<=k->k<w.heap.size->w2.heap[k]? =w.heap[k]?):Sw w2 X S D sh mv dv av pv rv ps dp:=by
 have hr:∀{e z n v xs},w.ownsRow (S+1) e z v n xs->w2.ownsRow (S+1) e z v n xs:=fun ho=>zD ho fun g h1 hg _=>hb g (by omega) hg;have ha:Agree X w w2:=⟨ho,hu,hz,fun i hi hx=>hb i (Nat.le_of_lt (h.xlt i hx).1) hi⟩
 exact⟨(hb S lQ h.lt).trans h.blk,hr h.mOwn,hr h.dOwn,hr h.aOwn,hr h.pOwn,fun i hi=>hr (h.rOwn i hi),h.rApart,fun i hi k hk2=>(h.rTree i hi k hk2).go ha,fun i hi=>(h.dTree i hi).go ha,fun g hg=>⟨(h.xlt g hg).1,lZ (h.xlt g hg).2 hz⟩,h.xm,h.xr,lZ h.lt hz⟩
structure SpecIs (w:World)(D:Nat)(mv av pv:Value)(sh:Sh):Prop where
 sheet:∃X S dv qv rv ps dp,Sw w X S D sh mv dv av qv rv ps dp
 pushes:Ints w (In w) pv (sh.pushesTo sh.pushed.length)
 ok:ShOk sh D
 few:vW sh
 there:sh.there=true
 have_:sh.haveB=true
 fit:sh.fitB=true
def zEz (w:World)(D:Nat)(G:Sh ⊕ (Nat×Nat))(e:Ending)(w':World):Prop:=
 Grew w w'∧match G with
 | .inr (n,k)=>e=returned (tuple #[agg #[slice none 0 0,slice none 0 0,slice none 0 0],int i64 (n:Int),int i64 (k:Int)])
 | .inl sh=>∃mv av pv,e=returned (tuple #[agg #[mv,av,pv],int i64 0,int i64 0])∧SpecIs w' D mv av pv sh
def zOq (w w2:World):Prop:=Hid (w2.heap[w.heap.size]? =some (.cells #[slice none 0 0,slice none 0 0,slice none 0 0] 79)∧Grew w w2)∧w2.cell? ⟨w.heap.size,0,none⟩=some (slice none 0 0)∧w2.cell? ⟨w.heap.size,1,none⟩=some (slice none 0 0)∧w2.cell? ⟨w.heap.size,2,none⟩=some (slice none 0 0)∧w2.frozen? ⟨w.heap.size,0,none⟩=false∧w2.frozen? ⟨w.heap.size,1,none⟩=false∧w2.frozen? ⟨w.heap.size,2,none⟩=false
theorem zBh (w w2:World)(u v q:Value)(hB:Hid (w2.heap[w.heap.size]? =some (.cells #[slice none 0 0,slice none 0 0,slice none 0 0] 79)∧Grew w w2)):
  ∃w3,w3=((w2.setCell ⟨w.heap.size,0,none⟩ u).setCell ⟨w.heap.size,1,none⟩ v).setCell ⟨w.heap.size,2,none⟩ q∧w3.cell? ⟨w.heap.size,0,none⟩=some u∧w3.cell? ⟨w.heap.size,1,none⟩=some v∧w3.cell? ⟨w.heap.size,2,none⟩=some q∧Hid (Grew w w3∧w3.heap.size=w2.heap.size∧w3.os=w2.os∧w3.output=w2.output∧∀k,k≠w.heap.size->w3.heap[k]? =w2.heap[k]?):=by
 obtain⟨hB,hk⟩:=hB;have h2:(((w2.setCell ⟨w.heap.size,0,none⟩ u).setCell ⟨w.heap.size,1,none⟩ v).setCell ⟨w.heap.size,2,none⟩ q).heap[w.heap.size]? =some (.cells #[u,v,q] 79):=by
  simp[setCell,lU,hB]
 have hne:∀i,i≠w.heap.size->(((w2.setCell ⟨w.heap.size,0,none⟩ u).setCell ⟨w.heap.size,1,none⟩ v).setCell ⟨w.heap.size,2,none⟩ q).heap[i]? =w2.heap[i]? :=fun i hi2=>by
  simp[setCell,lU,Ne.symm hi2]
 refine⟨_,rfl,?_,?_,?_,hk.trans ⟨rfl,rfl,by simp[World.setCell],fun k h1 _=>hne k (by omega)⟩,by simp[World.setCell],rfl,rfl,hne⟩
 all_goals (unfold cell?;rw[h2];rfl)
theorem zHI {w w2:World}(hk:Keep (w.heap.size+1) (w.heap.size+1) (w.alloc (.cells #[slice none 0 0,slice none 0 0,slice none 0 0] 79)) w2):zOq w w2:=by
 have h1:=gJ w (.cells #[slice none 0 0,slice none 0 0,slice none 0 0] 79);have h2:=(hk.block w.heap.size (by omega) (by omega)).trans h1;refine⟨⟨h2,(kZ (H:=w.heap.size) (b:=w.heap.size) _ _ lQ).trans ⟨hk.os,hk.output,hk.size,fun k h1 h2=>hk.block k (by omega) (by omega)⟩⟩,?_,?_,?_,?_,?_,?_⟩
 all_goals first|(unfold cell?;rw[h2];rfl)|(unfold frozen?;rw[h2];simp)
theorem zKN (w:World):SwIs (w.alloc (.cells #[slice none 0 0,slice none 0 0,slice none 0 0,slice none 0 0] 114)) w.heap.size 1 Sh.none:=by
 refine⟨fun _=>False,_,_,_,_,fun _=>slice none 0 0,fun _=>[],fun _=>0,gJ _ _,ownsRow_nil _ _ _ _,ownsRow_nil _ _ _ _,ownsRow_nil _ _ _ _,ownsRow_nil _ _ _ _,fun i hi=>absurd hi (Nat.not_lt_zero _),fun i j g hi=>absurd hi (Nat.not_lt_zero _),fun i hi=>absurd hi (Nat.not_lt_zero _),fun i hi=>absurd hi (Nat.not_lt_zero _),fun g hg=>hg.elim,fun g hg=>hg.elim,fun g i hg=>hg.elim,by simp⟩
theorem zKY (D:Nat):ShOk Sh.none D:=⟨by show 0<=3;omega,by show 0<=4;omega,by show 0<=8;omega,rfl,fun i hi=>absurd hi (Nat.not_lt_zero _),fun d hd=>(by cases hd),fun i hi=>absurd hi (Nat.not_lt_zero _)⟩
theorem zJd:vW Sh.none:=fun i hi=>absurd hi (Nat.not_lt_zero _)
theorem zI1 (w:World)(s:ByteArray):∃w1 w2,w1=w.alloc (.cells #[slice none 0 0,slice none 0 0,slice none 0 0] 79)∧w2=w1.alloc (.cells #[slice none 0 0,slice none 0 0,slice none 0 0,slice none 0 0] 114)∧Hid (∀v,Keep (w.heap.size+1) (w.heap.size+1) w2 v->zOq w v)∧Hid (w1.heap.size=w.heap.size+1)∧Hid (zOq w w1)∧(s.size<=400->Hid (Calls prog 56 #[pointer (some ⟨w.heap.size+1,0,none⟩),string s] w2 (zNO w2 (w.heap.size+1) (1+6*s.size) (vQ (s.size+1) Sh.none 1 s)))):=by
 have hz:(w.alloc (.cells #[slice none 0 0,slice none 0 0,slice none 0 0] 79)).heap.size=w.heap.size+1:=by simp
 refine⟨_,_,rfl,rfl,fun v hk=>zHI ((kZ _ _ (by rw[hz];omega)).trans hk),hz,zHI (Keep.refl _ _ _),fun h4=>?_⟩;have:=zKN (w.alloc (.cells #[slice none 0 0,slice none 0 0,slice none 0 0] 79));rw[hz] at this;exact zEh _ _ 1 Sh.none this (zKY 1) zJd s (by omega)
theorem SwIs.grew (h:SwIs v S D sh)(hK:Keep S S w2 v)(hk:Grew v v'):SwIs v' S D sh∧Keep S S w2 v'∧S<v.heap.size:=by
 obtain⟨X,mv,dv,av,pv,rv,ps,dp,h⟩:=h;exact⟨⟨X,mv,dv,av,pv,rv,ps,dp,h.grown hk⟩,hK.trans (hk.lower (Nat.le_of_lt h.lt) (Nat.le_of_lt h.lt)),h.lt⟩
theorem zN4 (h:SwIs v S D sh)(ok:ShOk sh D):Calls prog 57 #[pointer (some ⟨S,0,none⟩)] v fun e w'=>∃u,e=returned (tuple #[u,bool sh.there])∧(∃a n c,u=slice a n c)∧(sh.there=true->OwnI w' v.heap.size u (sh.pushesTo sh.pushed.length))∧Grew v w':=by
 obtain⟨X,mv,dv,av,pv,rv,ps,dp,h⟩:=h;exact zC2 v X _ _ sh mv dv av pv rv ps dp h ok.modes (by rw[ok.same];exact ok.acts)
theorem zOc (h:SwIs v S D sh)(ok:ShOk sh D):Calls prog 58 #[pointer (some ⟨S,0,none⟩)] v fun e w'=>e=returned (bool sh.haveB)∧Grew v w':=by
 obtain⟨X,mv,dv,av,pv,rv,ps,dp,h⟩:=h;exact zEl v X _ _ sh mv dv av pv rv ps dp h ok.modes
theorem zOi (h:SwIs v S D sh)(ok:ShOk sh D)(few:vW sh):Calls prog 59 #[pointer (some ⟨S,0,none⟩)] v fun e w'=>e=returned (bool sh.fitB)∧Grew v w':=by
 obtain⟨X,mv,dv,av,pv,rv,ps,dp,h⟩:=h;exact zFv v X _ _ sh mv dv av pv rv ps dp h ok few
theorem zAA (w:World)(s:ByteArray)(hs:s.size<=1048576):Calls prog 43 #[string s] w (zEz w (1+6*s.size) (vR s)):=by
 obtain⟨w1,w2,hw1,hw2,HK1,HZ1,HB1,hrl⟩:=zI1 w s;obtain⟨G,hG⟩:∃G,G=vR s:=⟨_,rfl⟩
 have HG:=vl hG;rw[<-hG];go_in;apply wp_cut;intro K0 J;go_wp2;apply J.out;rcases Nat.lt_or_ge 400 s.size with h4|h4
 ·have HG2:G=.inr (0,1):=by rw[HG.out];unfold vR;rw[if_pos h4]
  rw[HG2,<-hw1];clear hw1;have i4:(400:Int)<(s.size:Int):=by omega
  obtain⟨HB,c0,c1,c2,f0,f1,f2⟩:=HB1.out;go_wp2;obtain⟨w7,hw7,z0,z1,z2,HZ⟩:=zBh w w1 (slice none 0 0) (slice none 0 0) (slice none 0 0) HB;rw[<-hw7];refine dZ (v:=tuple #[agg #[slice none 0 0,slice none 0 0,slice none 0 0],int i64 0,int i64 1]) (by simp[results,results43,go_sem,z0,z1,z2]) rfl ?_;exact⟨HZ.out.1,rfl⟩
 have i4:(s.size:Int)<=400:=by omega
 have HRL:=hrl h4;clear hrl;apply wp_cut;intro K0 J;go_wp2;apply J.out;clear J;apply wp_cut;intro K0 J;go_wp2;apply J.out;rw[<-hw1,<-hw2];clear hw1 hw2 J HB1;rcases hn:vQ (s.size+1) Sh.none 1 s with sh|n;rotate_left
 ·rw[hn] at HRL
  have HG2:G=.inr (n,2):=by rw[HG.out];unfold vR;rw[if_neg (by omega),hn]
  rw[HG2];have hn1:(0:Int)<(n:Int):=by have:=zGi _ _ _ _ _ hn;omega
  clear hn;go_wp2_with (first|(go_at_call 56;refine HRL.out.mono ?_;rintro e v ⟨hK,rfl⟩;obtain⟨HB,c0,c1,c2,f0,f1,f2⟩:=HK1.out v hK))
  obtain⟨w7,hw7,z0,z1,z2,HZ⟩:=zBh w v (slice none 0 0) (slice none 0 0) (slice none 0 0) HB;rw[<-hw7];refine dZ (v:=tuple #[agg #[slice none 0 0,slice none 0 0,slice none 0 0],int i64 (n:Int),int i64 2]) (by simp[results,results43,go_sem,z0,z1,z2]) rfl ?_;exact⟨HZ.out.1,rfl⟩
 rw[hn] at HRL;have HG2:Hid (G=if sh.there&&sh.haveB then(if sh.fitB then .inl sh else .inr (0,4)) else .inr (0,3)):=by show _=_;rw[HG.out];unfold vR;rw[if_neg (by omega),hn]
 clear hn HG;have HPM:=vl fun v h ok=>zN4 (v:=v) (S:=w.heap.size+1) (D:=1+6*s.size) (sh:=sh) h ok;have HHR:=vl fun v h ok=>zOc (v:=v) (S:=w.heap.size+1) (D:=1+6*s.size) (sh:=sh) h ok;have HCF:=vl fun v h ok few=>zOi (v:=v) (S:=w.heap.size+1) (D:=1+6*s.size) (sh:=sh) h ok few;rcases hth:sh.there with _|_;rotate_left;rcases hhv:sh.haveB with _|_;rotate_left;rcases hft:sh.fitB with _|_;rotate_left
 ·rw[hth] at HPM
  rw[hhv] at HHR;rw[hft] at HCF;rw[hth,hhv,hft] at HG2;have HTT:=vl (And.intro hth (And.intro hhv hft));clear hth hhv hft;apply wp_cut;intro K0 J;go_wp2_with (first|(go_at_call 56;refine HRL.out.mono ?_;rintro e w3 ⟨hk3,rfl,hS3,hO3,hF3⟩))
  apply J.out;clear J;apply wp_cut;intro K0 J;go_wp2;apply J.out;clear J;apply wp_cut;intro K0 J;go_wp2_with (first|(go_at_call 57;refine(HPM.out w3 hS3 hO3).mono ?_;rintro e w4 ⟨v4,rfl,⟨a4,n4,c4,rfl⟩,hv4,hk4⟩;obtain⟨hS4,hK4,hl3⟩:=hS3.grew hk3 hk4))
  apply J.out;clear J;apply wp_cut;intro K0 J;go_wp2_with (first|(go_at_call 58;refine(HHR.out w4 hS4 hO3).mono ?_;rintro e w5 ⟨rfl,hk5⟩;obtain⟨hS5,hK5,-⟩:=hS4.grew hK4 hk5))
  apply J.out;clear J;apply wp_cut;intro K0 J;go_wp2_with (first|(go_at_call 59;refine(HCF.out w5 hS5 hO3 hF3).mono ?_;rintro e w6 ⟨rfl,hk6⟩;obtain⟨hS6,hK6,-⟩:=hS5.grew hK5 hk6))
  apply J.out;clear J;obtain⟨X,mv,dv,av,qv,rv,ps,dp,h6⟩:=hS6;obtain⟨am,cm,hmv⟩:=zG h6.mOwn;obtain⟨aa,ca,hav⟩:=zG h6.aOwn;subst hmv hav;obtain⟨x0,-,x2,-,-⟩:=h6.cells;obtain⟨HB,c0,c1,c2,f0,f1,f2⟩:=HK1.out w6 hK6;obtain⟨w7,hw7,z0,z1,z2,HZ⟩:=zBh w w6 (slice am sh.modes.length cm) (slice aa sh.acts.length ca) (slice a4 n4 c4) HB;have HOW:=vl (zK (zK (hv4 trivial) hk5) hk6);have H6:=vl (And.intro h6 (And.intro hO3 (And.intro hF3 hl3)));clear HB h6 hv4 hk4 hk5 hk6 hS3 hO3 hF3 hk3 hS4 hS5 hK4 hK5 hK6 hl3 HRL HPM HHR HCF HK1;apply wp_cut;intro K0 J;go_region
  all_goals
   rw[<-hw7];obtain⟨w8,hw8,y0,y1,y2,H8⟩:∃w8,w8=w7.drew∧w8.cell? ⟨w.heap.size,0,none⟩=some (slice am sh.modes.length cm)∧w8.cell? ⟨w.heap.size,1,none⟩=some (slice aa sh.acts.length ca)∧w8.cell? ⟨w.heap.size,2,none⟩=some (slice a4 n4 c4)∧Hid (Grew w w8∧SpecIs w8 (1+6*s.size) (slice am sh.modes.length cm) (slice aa sh.acts.length ca) (slice a4 n4 c4) sh):=by
    obtain⟨k1,k2,k3,k4,k5⟩:=HZ.out;have k6:w7.drew.heap.size=w6.heap.size:=k2;refine⟨_,rfl,z0,z1,z2,⟨k1.os,k1.output,k1.size,k1.block⟩,⟨⟨X,_,dv,qv,rv,ps,dp,H6.out.1.low k3 k4 (by omega) fun k h1 _=>k5 k (by omega)⟩,zAE (H:=w3.heap.size) (zD HOW.out fun g h1 _ _=>k5 g (by have:=H6.out.2.2.2;omega)),H6.out.2.1,H6.out.2.2.1,HTT.out.1,HTT.out.2.1,HTT.out.2.2⟩⟩
   rw[<-hw8];show K0 _ _;apply J.out;clear J;clear hw7 hw8 z0 z1 z2 x0 x2 c0 c1 c2 f0 f1 f2;go_wp2;refine dZ (v:=tuple #[agg #[slice am sh.modes.length cm,slice aa sh.acts.length ca,slice a4 n4 c4],int i64 0,int i64 0]) (by simp[results,results43,go_sem,y0,y1,y2]) rfl ?_;rw[HG2.out];exact⟨H8.out.1,_,_,_,rfl,H8.out.2⟩
 all_goals
  rw[hth] at HPM HG2
  try rw[hhv] at HHR HG2
  try rw[hft] at HCF HG2
  clear hth
  try clear hhv
  try clear hft
  go_wp2_with ((first|(go_at_call 56;refine HRL.out.mono ?_;rintro e v ⟨hK,rfl,hS,hO,hF⟩)|(go_at_call 57;refine(HPM.out v hS hO).mono ?_;rintro e v ⟨v4,rfl,⟨a4,n4,c4,rfl⟩,-,hk4⟩;obtain⟨hS,hK,-⟩:=hS.grew hK hk4)|(go_at_call 58;refine(HHR.out v hS hO).mono ?_;rintro e v ⟨rfl,hk4⟩;obtain⟨hS,hK,-⟩:=hS.grew hK hk4)|(go_at_call 59;refine(HCF.out v hS hO hF).mono ?_;rintro e v ⟨rfl,hk4⟩;obtain⟨hS,hK,-⟩:=hS.grew hK hk4));obtain⟨HB,c0,c1,c2,f0,f1,f2⟩:=HK1.out v hK)
  obtain⟨w7,hw7,z0,z1,z2,HZ⟩:=zBh w v (slice none 0 0) (slice none 0 0) (slice none 0 0) HB;rw[<-hw7]
  first
  |(refine dZ (v:=tuple #[agg #[slice none 0 0,slice none 0 0,slice none 0 0],int i64 0,int i64 3]) (by simp[results,results43,go_sem,z0,z1,z2];done) rfl ?_;rw[HG2.out];exact⟨HZ.out.1,rfl⟩)
  |(refine dZ (v:=tuple #[agg #[slice none 0 0,slice none 0 0,slice none 0 0],int i64 0,int i64 4]) (by simp[results,results43,go_sem,z0,z1,z2];done) rfl ?_;rw[HG2.out];exact⟨HZ.out.1,rfl⟩)
end
section
structure Mk.Tab (m:Mk)(nr:Int):Prop where
 one:1<=m.next.length
 wide:∀row∈m.next,row.length=256∧∀x∈row,0<=x∧x<(m.next.length:Int)
 rules:∀r∈m.rules,-1<=r∧r<nr
 of:∀x∈m.of,0<=x∧x<(m.next.length:Int)
def Mk.Inr (m:Mk)(x:Int):Prop:=0<=x∧x<(m.next.length:Int)
theorem Mk.Inr.grow {m m':Mk}{x:Int}(h:m.Inr x)(hg:m.next.length<=m'.next.length):m'.Inr x:=⟨h.1,by have:=h.2;omega⟩
theorem zHq (x:Int)(h:x∈zeros):x=0:=List.eq_of_mem_replicate h
section
variable {m:Mk} {nr:Int} {most:Nat}
theorem zKt (h:m.Tab nr){r:Int}(hr:-1<=r∧r<nr):(m.add most r).Tab nr:=by
 unfold Mk.add;split
 ·exact⟨h.one,h.wide,h.rules,h.of⟩
 ·have hl:(m.next++[zeros]).length=m.next.length+1:=by simp
  refine⟨by show 1<=(m.next++[zeros]).length;omega,fun row hrow=>?_,fun q hq=>?_,fun x hx=>?_⟩
  ·show _∧∀x∈row,0<=x∧x<((m.next++[zeros]).length:Int)
   rcases kU.1 hrow with h1|h1
   ·obtain⟨a,b⟩:=h.wide row h1
    exact⟨a,fun x hx=>by have:=b x hx;omega⟩
   ·rw[kY.1 h1]
    exact⟨by unfold zeros;exact List.length_replicate,fun x hx=>by rw[zHq x hx];omega⟩
  ·rcases kU.1 hq with h1|h1
   ·exact h.rules q h1
   ·rw[kY.1 h1];exact hr
  ·show 0<=x∧x<((m.next++[zeros]).length:Int)
   have:=h.of x hx;omega
theorem zHo (h:m.Tab nr)(r:Int):(m.add most r).Inr (m.addN most:Int):=by
 have:=h.one;unfold Mk.add Mk.addN Mk.Inr;split
 ·show(0:Int)<=((0:Nat):Int)∧((0:Nat):Int)<(m.next.length:Int)
  omega
 ·show(0:Int)<=(m.next.length:Int)∧(m.next.length:Int)<((m.next++[zeros]).length:Int)
  have hl:(m.next++[zeros]).length=m.next.length+1:=by simp
  omega
theorem zJ3 (h:m.Tab nr)(s b:Nat){x:Int}(hx:m.Inr x):(m.put s b x).Tab nr:=by
 have hl:=zC1 m s b x;refine⟨by rw[hl];exact h.one,fun row hrow=>?_,h.rules,fun y hy=>by rw[hl];exact h.of y hy⟩;rw[hl];have hr:row∈m.next.set s ((m.next.getD s []).set b x):=hrow
 rcases List.mem_or_eq_of_mem_set hr with h1|h1
 ·exact h.wide row h1
 ·by_cases hs:s<m.next.length
  ·have hm:m.next.getD s []∈m.next:=by
    rw[lW,lV hs];exact List.getElem_mem _
   obtain⟨a,c⟩:=h.wide _ hm;rw[h1];refine⟨by rw[List.length_set];exact a,fun y hy=>?_⟩;rcases List.mem_or_eq_of_mem_set hy with h2|h2
   ·exact c y h2
   ·rw[h2];exact hx
  ·rw[List.set_eq_of_length_le (by omega)] at hr
   exact h.wide row hr
theorem zJC (h:m.Tab nr)(s:Nat){f:Nat->Int}(hf:∀i,i<64->m.Inr (f i))(j:Nat)(hj:j<=64):(m.fillTo s f j).Tab nr:=by
 induction j with
 |zero=>exact h
 |succ j ih=>
  rw[Mk.fillTo];exact zJ3 (ih (by omega)) _ _ ((hf j (by omega)).grow (by rw[zBp];omega))
theorem zHs (h:m.Tab nr)(hnr:0<=nr){f:Nat->Int}(hf:∀i,i<64->m.Inr (f i)):(m.withM most f).Tab nr∧(m.withM most f).Inr (m.withN most f:Int):=by
 have h1:=h.one;unfold Mk.withM Mk.withN;split
 ·exact⟨h,by unfold Mk.Inr;omega⟩
 split
 ·exact⟨h,by unfold Mk.Inr;omega⟩
 have ha:(m.add most (-1)).Tab nr:=zKt h ⟨by omega,by omega⟩;split
 ·exact⟨ha,zHo h (-1)⟩
 ·exact⟨zJC ha _ (fun i hi=>(hf i hi).grow (zDS m most (-1))) 64 lQ,(zHo h (-1)).grow (by rw[zBp];omega)⟩
end
def zFF (nr:Int)(sub:Mk->Nat->Int×Mk):Prop:=∀m c,m.Tab nr->(sub m c).2.Tab nr∧(sub m c).2.Inr (sub m c).1
theorem zMA (most:Nat)(nr:Int)(hnr:0<=nr)(c:Nat):∀(m:Mk) (to:Int),m.Tab nr->m.Inr to->(Mk.even most c m to).2.Tab nr∧(Mk.even most c m to).2.Inr (Mk.even most c m to).1:=by
 induction c with
 |zero=>exact fun m to h ht=>⟨h,ht⟩
 |succ c ih=>
  intro m to h ht;obtain⟨a,b⟩:=zHs (most:=most) h hnr (f:=fun _=>to) fun _ _=>ht;exact ih (m.withM most fun _=>to) ((m.withN most fun _=>to:Nat):Int) a b
theorem zJ5 {m:Mk}{nr:Int}(h:m.Tab nr)(i:Nat):m.Inr (m.of.getD i 0):=by
 rw[lW];by_cases hi:i<m.of.length
 ·rw[lV hi]
  exact h.of _ (List.getElem_mem _)
 ·rw[List.getElem?_eq_none (by omega)]
  have:=h.one;exact⟨Int.le_refl _,by show(0:Int)<_;omega⟩
theorem zM4 {nr:Int}{sub:Mk->Nat->Int×Mk}(h:zFF nr sub)(g:Grows sub)(step low:Nat){m:Mk}(hm:m.Tab nr)(j:Nat):(yU sub step low m j).2.Tab nr∧∀i,(yU sub step low m j).2.Inr ((yU sub step low m j).1 i):=by
 induction j with
 |zero=>
  have:=hm.one;exact⟨hm,fun i=>⟨Int.le_refl _,by show(0:Int)<_;show(0:Int)<(m.next.length:Int);omega⟩⟩
 |succ j ih=>
  obtain⟨a,b⟩:=ih;have h1:=a.one;unfold yU;split
  ·refine⟨a,fun i=>?_⟩
   show Mk.Inr _ (if i=j then 0 else _);split
   ·exact⟨Int.le_refl _,by show(0:Int)<((yU sub step low m j).2.next.length:Int);omega⟩
   ·exact b i
  ·obtain⟨c,d⟩:=h (yU sub step low m j).2 (low+j*step) a
   refine⟨c,fun i=>?_⟩;show Mk.Inr _ (if i=j then _ else _);split
   ·exact d
   ·exact(b i).grow (g _ _)
theorem zD6 (k:Kd)(a:Ar)(most kind cnt step:Nat){nr:Int}(hnr:0<=nr){sub:Mk->Nat->Int×Mk}(h:zFF nr sub)(g:Grows sub):zFF nr (jM k a most kind cnt step sub):=fun m low hm=>by
 unfold jM;split
 ·exact zMA most nr hnr cnt m _ hm (by unfold Mk.behind;exact zJ5 hm _)
 ·obtain⟨b,c⟩:=zM4 h g step low hm 64
  exact zHs b hnr fun i _=>c i
theorem zCG (k:Kd)(a:Ar)(most kind:Nat){nr:Int}(hnr:0<=nr)(l:Nat):zFF nr (yG k a most kind l):=by
 induction l with
 |zero=>exact zD6 k a most kind 1 1 hnr (fun m c hm=>⟨hm,by unfold Mk.behind;exact zJ5 hm _⟩) fun m c=>lQ
 |succ l ih=>exact zD6 k a most kind (l+2) (qX (l+2)) hnr ih (zAu k a most kind l)
theorem zCh {nr:Int}{sub:Mk->Nat->Int×Mk}(h:zFF nr sub)(s lo:Nat){m:Mk}(hm:m.Tab nr)(j:Nat):(qW sub s lo m j).Tab nr:=by
 induction j with
 |zero=>exact hm
 |succ j ih=>
  obtain⟨a,b⟩:=h (qW sub s lo m j) (lo+j) ih;unfold qW;exact zJ3 a _ _ b
theorem zLi (k:Kd)(a:Ar)(most kind s:Nat){nr:Int}(hnr:0<=nr){m:Mk}(hm:m.Tab nr):(zA9 k a most kind s m).Tab nr:=by
 unfold zA9;refine zCh (fun m c hm=>?_) _ _ ?_ _
 ·unfold zCU;exact zCG k a most kind hnr 2 m _ hm
 unfold zDc;refine zCh (fun m c hm=>?_) _ _ ?_ _
 ·unfold zCV;exact zCG k a most kind hnr 1 m _ hm
 unfold zDd;refine zCh (fun m c hm=>?_) _ _ ?_ _
 ·unfold zCW;exact zCG k a most kind hnr 0 m _ hm
 unfold zDe;exact zCh (fun m c hm=>⟨hm,by unfold zEf Mk.behind;exact zJ5 hm _⟩) _ _ hm _
theorem zKv (k:Kd)(most:Nat)(h1:1<=most){nr:Int}(hnr:0<=nr)(hr:∀r∈k.rules,-1<=r∧r<nr)(j:Nat)(hj:j<=k.rules.length):(zU k most j).Tab nr:=by
 induction j with
 |zero=>
  have e:zU k most 0=⟨[zeros],[-1],[],false⟩:=by
   show Mk.blank.add most (-1)=_;unfold Mk.add Mk.blank;rw[if_neg (by show¬most<=0;omega)];rfl
  rw[e];refine⟨lQ,fun row hrow=>?_,fun r hr=>?_,fun x hx=>by cases hx⟩
  ·rw[kY.1 hrow]
   exact⟨by unfold zeros;exact List.length_replicate,fun x hx=>by rw[zHq x hx];exact⟨Int.le_refl _,by show(0:Int)<1;omega⟩⟩
  ·rw[kY.1 hr];omega
 |succ j ih=>
  have ih:=ih (by omega);have ho:=ih.one;unfold zU;split
  ·refine⟨ih.one,ih.wide,ih.rules,fun x hx=>?_⟩
   have hx2:=hx;rcases kU.1 hx2 with h2|h2
   ·exact ih.of x h2
   ·rw[kY.1 h2];exact⟨Int.le_refl _,by show(0:Int)<((zU k most j).next.length:Int);omega⟩
  ·have hrj:-1<=k.rules.getD j 0∧k.rules.getD j 0<nr:=by
    rw[lW,lV (by omega:j<k.rules.length)];exact hr _ (List.getElem_mem _)
   have ha:((zU k most j).add most (k.rules.getD j 0)).Tab nr:=zKt ih hrj;have hn:((zU k most j).add most (k.rules.getD j 0)).Inr ((zU k most j).addN most:Int):=zHo ih _;refine⟨ha.one,ha.wide,ha.rules,fun x hx=>?_⟩;have hx2:=hx;rcases kU.1 hx2 with h2|h2
   ·rw[<-zCM (zU k most j) most (k.rules.getD j 0)] at h2
    exact ha.of x h2
   ·rw[kY.1 h2];exact hn
theorem zMg (k:Kd)(a:Ar)(most:Nat)(h1:1<=most){nr:Int}(hnr:0<=nr)(hr:∀r∈k.rules,-1<=r∧r<nr)(hl:k.rules.length=k.rows.length)(j:Nat):(qM k a most j).Tab nr:=by
 induction j with
 |zero=>exact zKv k most h1 hnr hr k.rows.length (by omega)
 |succ j ih=>
  unfold qM;split
  ·exact zLi k a most _ _ hnr ih
  ·exact ih
theorem zGg (k:Kd)(a:Ar)(most:Nat){nr:Int}(hnr:0<=nr)(hr:∀r∈k.rules,-1<=r∧r<nr)(hl:k.rules.length=k.rows.length)(hf:(yB k a most).full=false):(yB k a most).Tab nr∧(yB k a most).Fit most:=by
 have h1:=(zId k a most k.rows.length hf).1.one;have h2:=(zCc k a most k.rows.length).1;have h3:=h2.few;exact⟨zMg k a most (by omega) hnr hr hl _,h2⟩
end
def RowsOk (len top:Nat)(rows:List (List Nat)):Prop:=∀row∈rows,row.length=len∧∀x∈row,x<top
theorem RowsOk.up {len top top':Nat}{rows:List (List Nat)}(h:RowsOk len top rows)(ht:top<=top'):RowsOk len top' rows:=fun row hr=>⟨(h row hr).1,fun x hx=>lZ ((h row hr).2 x hx) ht⟩
theorem RowsOk.snoc {len top:Nat}{rows:List (List Nat)}{row:List Nat}(h:RowsOk len top rows)(h1:row.length=len∧∀x∈row,x<top):RowsOk len top (rows++[row]):=fun r hr=>by
 rcases kU.1 hr with h2|h2
 ·exact h r h2
 ·rw[kY.1 h2];exact h1
theorem zF7 (s:Sq)(ahead:Nat->Nat)(ends most:Nat):∀f i d rows rules d' rows' rules',s.sortGo ahead ends most f i d rows rules=some (d',rows',rules')->1<=f->i+f=most+1->rows.length=i->rules.length=i->i<=d.found.length->RowsOk s.sets.length d.found.length rows->(∀r∈rules,-1<=r∧r<(s.rules.length:Int))->
  rows'.length=d'.found.length∧rules'.length=rows'.length∧d.found.length<=d'.found.length∧rows'.length<=most+1∧RowsOk s.sets.length d'.found.length rows'∧∀r∈rules',-1<=r∧r<(s.rules.length:Int)
 |0,_,_,_,_,_,_,_,_,h1,_,_,_,_,_,_=>absurd h1 (by omega)
 |f+1,i,d,rows,rules,d',rows',rules',h,_,hif,hr,hl,hi,hro,hru=>by
  have h2:(if i<d.found.length then(if d.found.length>most then none else s.sortGo ahead ends most f (i+1) (s.rowTo (zAt ahead (d.found.getD i 0)) d s.sets.length).2 (rows++[(s.rowTo (zAt ahead (d.found.getD i 0)) d s.sets.length).1]) (rules++[vA s.rules (d.found.getD i 0&&&ends)])) else some (d,rows,rules))=some (d',rows',rules'):=h;by_cases h3:i<d.found.length
  ·rw[if_pos h3] at h2
   by_cases h4:d.found.length>most
   ·rw[if_pos h4] at h2;cases h2
   ·rw[if_neg h4] at h2
    obtain⟨e1,-,-,e4⟩:=s.rowTo_len (zAt ahead (d.found.getD i 0)) d s.sets.length;have e5:=s.rowTo_lt (zAt ahead (d.found.getD i 0)) d s.sets.length;have e6:=zI5 s.rules (d.found.getD i 0&&&ends);obtain⟨a,b,c,dd,ee,ff⟩:=zF7 s ahead ends most f (i+1) _ _ _ d' rows' rules' h2 (by omega) (by omega) (by rw[kX,hr];rfl) (by rw[kX,hl];rfl) (by omega) ((hro.up e4).snoc ⟨e1,e5⟩) (fun r hr=>by
     rcases kU.1 hr with h5|h5
     ·exact hru r h5
     ·rw[kY.1 h5];exact e6)
    exact⟨a,b,lY e4 c,dd,ee,ff⟩
  ·rw[if_neg h3] at h2
   have e:=hU h2;have e1:d=d':=congrArg Prod.fst e;have e2:rows=rows':=congrArg (fun x=>x.2.1) e;have e3:rules=rules':=congrArg (fun x=>x.2.2) e;subst e1 e2 e3;exact⟨by omega,by omega,lQ,by omega,hro,hru⟩
theorem zJZ {n:Nt}{most:Nat}{k:Kd}(h:n.sort most=some k)(ok:n.Ok)(fit:n.Fits):k.Ok n.areas∧k.rows.length<=most+2∧∀r∈k.rules,-1<=r∧r<(n.rules.length:Int):=by
 obtain⟨g1,g2,g3,g4⟩:=zBm n.sets;have hf:=fit.few;have hsl:n.areas.sets.length=n.letters.length:=by
  have:=Ar.setsN_ints g1;show(xZ n.sets).sets.length=(xZ n.sets).setsN.length;rw[this,zN]
 unfold Nt.sort at h;cases hg:n.sq.sortGo n.ahead n.ends most (most+1) 0 n.start.2 [] [] with
 |none=>rw[hg] at h;cases h
 |some g=>
  obtain⟨d,rows,rules⟩:=g;rw[hg] at h;have e:=hU h;have e:=e;obtain⟨a,b,c,dd,ee,ff⟩:=zF7 n.sq n.ahead n.ends most (most+1) 0 n.start.2 [] [] d rows rules hg (by omega) (by omega) rfl rfl lX (fun r hr=>by cases hr) (fun r hr=>by cases hr);have hs1:=(n.sq.rowTo_len n.first ⟨[],[]⟩ n.letters.length).1;have hs2:∀x∈n.start.1,x<n.start.2.found.length:=n.sq.rowTo_lt n.first ⟨[],[]⟩ n.letters.length
  have hlk:=zKa (rows.map ints) rules (ints n.start.1);rw[kV] at hlk;have good:n.areas.Good 24:=⟨fun x hx=>by
   obtain⟨u,v⟩:=g1.sets x hx;have h24:(2:Nat)^n.sets.length<=2^24:=kG (by omega) ok.len;exact⟨u,by omega⟩,g1.letters,g1.lens⟩
  have getIn:∀{l:List (List Nat)} {top:Nat},RowsOk n.letters.length top l->∀i q,i<l.length->q<n.areas.sets.length->(l.getD i []).getD q 0<top:=fun{l top} hro i q hi hq=>by
   have hm:l.getD i []∈l:=by
    rw[lW,lV hi];exact List.getElem_mem _
   obtain⟨u,v⟩:=hro _ hm;have hq2:q<(l.getD i []).length:=by rw[u];omega
   have e2:(l.getD i []).getD q 0=(l.getD i [])[q]:=by rw[lW,lV hq2];rfl
   rw[e2];exact v _ (List.getElem_mem _)
  have getLen:∀{l:List (List Nat)} {top:Nat},RowsOk n.letters.length top l->∀i,i<l.length->(l.getD i []).length=n.areas.sets.length:=fun{l top} hro i hi=>by
   have hm:l.getD i []∈l:=by
    rw[lW,lV hi];exact List.getElem_mem _
   rw[(hro _ hm).1,hsl]
  have ee2:RowsOk n.letters.length d.found.length rows:=ee;subst e;unfold Nt.ended;split
  ·rename_i hq
   have hlen:(rows++[n.start.1]).length=rows.length+1:=by simp
   have hro:RowsOk n.letters.length (rows.length+1) (rows++[n.start.1]):=(ee2.up (by omega)).snoc ⟨hs1,fun x hx=>by have:=hs2 x hx;omega⟩;refine⟨⟨g2,by show(xZ n.sets).lows.length<=_;omega,good,?_,fun i hi=>getLen hro i hi,fun i q hi hq=>?_,?_⟩,?_,fun r hr=>?_⟩
   ·show(rules++[-1]).length=(rows++[n.start.1]).length
    rw[hlen,kX,b];rfl
   ·show _<(rows++[n.start.1]).length
    rw[hlen];exact getIn hro i q hi hq
   ·show zAr _ _ _<(rows++[n.start.1]).length
    omega
   ·show(rows++[n.start.1]).length<=_
    omega
   ·have hr2:r∈rules++[-1]:=hr
    rcases kU.1 hr2 with h5|h5
    ·exact ff r h5
    ·rw[kY.1 h5];omega
  ·rename_i hq
   refine⟨⟨g2,by show(xZ n.sets).lows.length<=_;omega,good,b,fun i hi=>getLen ee2 i hi,fun i q hi hq2=>?_,?_⟩,by show rows.length<=_;omega,ff⟩
   ·show _<rows.length
    rw[a];exact getIn ee2 i q hi hq2
   ·show zAr _ _ _<rows.length
    omega
def qZ (l:List Cs):Prop:=∀c∈l,zLP c
theorem zDC (n:Nt)(a b:Nat):(n.link a b).sets=n.sets:=(zBQ n a b n.follow.length).1
theorem zGE {l:List Tr}{j:Nat}(hj:j<l.length):l.getD j Tr.none∈l:=by
 rw[lW,lV hj];exact List.getElem_mem _
theorem zEV {sub:Lay}{P:Tr->Prop}(h:∀n t,P t->qZ n.sets->qZ (sub n t).1.sets){parts:List Tr}(hp:∀t∈parts,P t){n:Nt}(hn:qZ n.sets)(j:Nat)(hj:j<=parts.length):qZ (rowTo sub n parts j).1.sets:=by
 induction j with
 |zero=>exact hn
 |succ j ih=>
  show qZ ((sub (rowTo sub n parts j).1 (parts.getD j Tr.none)).1.link _ _).sets;rw[zDC];exact h _ _ (hp _ (zGE (by omega))) (ih (by omega))
theorem zIo {sub:Lay}{P:Tr->Prop}(h:∀n t,P t->qZ n.sets->qZ (sub n t).1.sets){parts:List Tr}(hp:∀t∈parts,P t){n:Nt}(hn:qZ n.sets)(j:Nat)(hj:j<=parts.length):qZ (jB sub n parts j).1.sets:=by
 induction j with
 |zero=>exact hn
 |succ j ih=>exact h _ _ (hp _ (zGE (by omega))) (ih (by omega))
theorem zJl (t:Tr)(j:Nat)(q:Nt×Sn):(zAq t j q).sets=q.1.sets:=by
 unfold zAq;split
 ·exact zDC _ _ _
 ·rfl
theorem zHk {sub:Lay}{P:Tr->Prop}(h:∀n t,P t->qZ n.sets->qZ (sub n t).1.sets){t:Tr}(hp:∀u∈t.parts,P u){n:Nt}(hn:qZ n.sets)(j:Nat):qZ (xT sub n t j).1.sets:=by
 induction j with
 |zero=>exact hn
 |succ j ih=>
  show qZ ((zAq t j (rowTo sub (xT sub n t j).1 t.parts t.parts.length)).link _ _).sets;rw[zDC,zJl];exact zEV h hp ih _ lQ
theorem zCe:∀d n t,TrOk d t->qZ n.sets->qZ (xC d n t).1.sets
 |0,_,_,h,_=>False.elim h
 |d+1,n,t,h,hn=>by
  unfold xC;split
  ·intro c hc
   have hc2:=hc;rcases kU.1 hc2 with h1|h1
   ·exact hn c h1
   ·rw[kY.1 h1];exact h.1
  split
  ·exact zEV (P:=TrOk d) (fun n t ht hs=>zCe d n t ht hs) h.2.1 hn _ lQ
  split
  ·exact zIo (P:=TrOk d) (fun n t ht hs=>zCe d n t ht hs) h.2.1 hn _ lQ
  split
  ·exact zHk (P:=TrOk d) (fun n t ht hs=>zCe d n t ht hs) h.2.1 hn _
  ·exact hn
theorem zJr (d:Nat)(rules:List Tr)(h:∀t∈rules,TrOk d t)(j:Nat)(hj:j<=rules.length):qZ (xJ d rules j).sets:=by
 induction j with
 |zero=>exact fun c hc=>by cases hc
 |succ j ih=>
  have e:(xJ d rules (j+1)).sets=(xC d (xJ d rules j) (rules.getD j Tr.none)).1.sets:=rfl;rw[e];exact zCe d _ _ (h _ (zGE (by omega))) (ih (by omega))
theorem zKS (l:List Cs)(M:Nat)(h:∀c∈l,c.ranges.length<=M):yE l<=l.length*M:=by
 induction l with
 |nil=>exact lX
 |cons c l ih=>
  have h1:=h c gW;have h2:=ih fun x hx=>h x (List.mem_cons_of_mem _ hx);show c.ranges.length+yE l<=(l.length+1)*M;rw[Nat.add_mul];omega
theorem zLY {n:Nt}(h:qZ n.sets)(hl:n.sets.length<=24):n.Fits:=by
 refine⟨?_,fun c hc r hr=>?_⟩
 ·have h1:=zKS n.sets 10000000 fun c hc=>(h c hc).1
  have h2:n.sets.length*10000000<=24*10000000:=Nat.mul_le_mul_right _ hl;omega
 ·have:=(h c hc).2 r hr
  omega
theorem zLw (d:Nat)(l:List Tr)(h:∀t∈l,TrOk d t)(j:Nat)(hj:j<=l.length)(hc:yM l j<=24):zW (yQ d) l j=yM l j:=by
 induction j with
 |zero=>rfl
 |succ j ih=>
  have hc2:yM l j+(l.getD j Tr.none).chars<=24:=hc;have h1:=(h _ (zGE (show j<l.length by omega))).chars;show zW (yQ d) l j+yQ d (l.getD j Tr.none)=yM l j+(l.getD j Tr.none).chars;rw[ih (by omega) (by omega)];have h2:xI (yQ d (l.getD j Tr.none))<=24:=by omega
  unfold xI at h1 h2;split at h1
  ·rename_i hb
   rw[if_pos hb] at h2;omega
  ·omega
def zA1 (a b c d:Nat->Value)(n:Nat):List Value:=(List.range n).flatMap fun i=>[a i,b i,c i,d i]
theorem zAD (a b c d:Nat->Value)(n:Nat):zA1 a b c d (n+1)=zA1 a b c d n++[a n,b n,c n,d n]:=by
 unfold zA1;rw[List.range_succ,List.flatMap_append];rfl
theorem zKT (a b c d:Nat->Value)(n:Nat):(zA1 a b c d n).length=n*4:=by
 induction n with
 |zero=>rfl
 |succ n ih=>rw[zAD,kX,ih];show n*4+4=_;omega
theorem zKU (a b c d:Nat->Value)(n i:Nat)(hi:i<n):(zA1 a b c d n)[i*4]? =some (a i)∧(zA1 a b c d n)[i*4+1]? =some (b i)∧(zA1 a b c d n)[i*4+2]? =some (c i)∧(zA1 a b c d n)[i*4+3]? =some (d i):=by
 induction n with
 |zero=>omega
 |succ n ih=>
  rw[zAD];have hl:=zKT a b c d n;by_cases h:i<n
  ·rw[kW (by omega),kW (by omega),kW (by omega),kW (by omega)]
   exact ih h
  ·have e:i=n:=by omega
   subst e;rw[gQ (by omega),gQ (by omega),gQ (by omega),gQ (by omega),hl,Nat.sub_self,show i*4+1-i*4=1 by omega,show i*4+2-i*4=2 by omega,show i*4+3-i*4=3 by omega];exact⟨rfl,rfl,rfl,rfl⟩
theorem zH0 (a b c d a' b' c' d':Nat->Value)(n:Nat)(h:∀i,i<n->a i=a' i∧b i=b' i∧c i=c' i∧d i=d' i):zA1 a b c d n=zA1 a' b' c' d' n:=by
 induction n with
 |zero=>rfl
 |succ n ih=>rw[zAD,zAD,ih fun i hi=>h i (by omega),(h n (by omega)).1,(h n (by omega)).2.1,(h n (by omega)).2.2.1,(h n (by omega)).2.2.2]
def Sm.nil:Sm:=⟨[],[],0,[]⟩
structure Lm (w:World)(H:Nat)(v:Value)(ms:List Sm)(a b d:Nat->Value):Prop where
 own:w.ownsRow H 134 4 v ms.length (zA1 a b (fun i=>int i64 (ms.getD i Sm.nil).start) d ms.length)
 next:∀i,i<ms.length->IntRows w (fun g=>H<=g∧g<w.heap.size∧some g≠v.ownBlock) (a i) (ms.getD i Sm.nil).next
 rules:∀i,i<ms.length->Ints w (fun g=>H<=g∧g<w.heap.size∧some g≠v.ownBlock) (b i) (ms.getD i Sm.nil).rules
 empty:∀i,i<ms.length->Bools w (fun g=>H<=g∧g<w.heap.size∧some g≠v.ownBlock) (d i) (ms.getD i Sm.nil).empty
def zLO (w:World)(H:Nat)(v:Value)(ms:List Sm):Prop:=∃a b d,Lm w H v ms a b d
theorem Lm.nil (w:World)(H:Nat):zLO w H (slice none 0 0) []:=⟨fun _=>slice none 0 0,fun _=>slice none 0 0,fun _=>slice none 0 0,ownsRow_nil _ _ _ _,fun i hi=>absurd hi (Nat.not_lt_zero _),fun i hi=>absurd hi (Nat.not_lt_zero _),fun i hi=>absurd hi (Nat.not_lt_zero _)⟩
theorem Lm.grown {w w2:World}{H:Nat}{v:Value}{ms:List Sm}{a b d:Nat->Value}(h:Lm w H v ms a b d)(hk:Grew w w2):Lm w2 H v ms a b d:=by
 have e:∀g,(H<=g∧g<w.heap.size∧some g≠v.ownBlock)->w2.heap[g]? =w.heap[g]? :=fun g hg=>hk.block g hg.2.1 (kJ hg.2.1);have m:∀g,(H<=g∧g<w.heap.size∧some g≠v.ownBlock)->(H<=g∧g<w2.heap.size∧some g≠v.ownBlock):=fun g hg=>⟨hg.1,lZ hg.2.1 hk.size,hg.2.2⟩
 exact⟨zK h.own hk,fun i hi=>((h.next i hi).keep e).mono m,fun i hi=>((h.rules i hi).keep e).mono m,fun i hi=>((h.empty i hi).keep e).mono m⟩
theorem Lm.modes {w:World}{H:Nat}{v:Value}{ms:List Sm}(h:zLO w H v ms):ModesAt w (In w) v ms:=by
 obtain⟨a,b,d,h⟩:=h;obtain⟨ao,cap,hv,h1,h2⟩:=zC4 h.own;refine⟨ao,cap,hv,h1,h2,fun i hi=>?_⟩;obtain⟨g,cap2,hv2,-,hg,-,-,hc,-⟩:=qL h.own (by omega);rw[hv] at hv2;injection hv2 with e1 e2 e3;obtain⟨q0,q1,q2,q3⟩:=zKU a b (fun i=>int i64 (ms.getD i Sm.nil).start) d ms.length i hi;have em:ms.getD i Sm.nil=ms[i]:=by rw[lW,lV hi];rfl
 have hin:∀g,(H<=g∧g<w.heap.size∧some g≠v.ownBlock)->In w g:=fun g hg=>hg.2.1;refine⟨g,0,a i,b i,d i,e1,hg,?_,?_,?_,?_,?_,?_,?_⟩
 ·rw[Nat.zero_add];exact hc _ _ q0
 ·rw[Nat.zero_add];exact hc _ _ q1
 ·rw[Nat.zero_add,<-em];exact hc _ _ q2
 ·rw[Nat.zero_add];exact hc _ _ q3
 ·rw[<-em];exact(h.next i hi).mono hin
 ·rw[<-em];exact(h.rules i hi).mono hin
 ·rw[<-em];exact(h.empty i hi).mono hin
theorem Lm.app {w w2:World}{H:Nat}{v:Value}{ms:List Sm}{a b d:Nat->Value}{o:Obj}{g cap:Nat}{m:Sm}{x y z:Value}(h:Lm w H v ms a b d)(hH:H<=w.heap.size)(hx:IntRows w (fun g=>H<=g∧g<w.heap.size∧some g≠v.ownBlock) x m.next)(hy:Ints w (fun g=>H<=g∧g<w.heap.size∧some g≠v.ownBlock) y m.rules)(hz:Bools w (fun g=>H<=g∧g<w.heap.size∧some g≠v.ownBlock) z m.empty)(hown:w2.ownsRow H 134 4 (slice (some ⟨g,0,none⟩) (ms.length+1) cap) (ms.length+1) (zA1 a b (fun i=>int i64 (ms.getD i Sm.nil).start) d ms.length++[x,y,int i64 m.start,z]))(hg:(w.alloc o).grownBy w2 v.ownBlock)(hat:v.ownBlock=some g∨w.heap.size<=g):
  zLO w2 H (slice (some ⟨g,0,none⟩) (ms.length+1) cap) (ms++[m])∧Keep H H w w2:=by
 have hsz:w.heap.size<=w2.heap.size:=lY (by simp) hg.size;have e:∀q,(H<=q∧q<w.heap.size∧some q≠v.ownBlock)->w2.heap[q]? =w.heap[q]? :=fun q hq=>(hg.block q (by simp;omega) hq.2.2).trans (lG _ _ _ hq.2.1);have mo:∀q,(H<=q∧q<w.heap.size∧some q≠v.ownBlock)->(H<=q∧q<w2.heap.size∧some q≠(Value.slice (some ⟨g,0,none⟩) (ms.length+1) cap).ownBlock):=fun q hq=>⟨hq.1,lZ hq.2.1 hsz,fun e2=>by
  have e3:q=g:=by simpa[Value.ownBlock] using e2
  rcases hat with ha|ha
  ·exact hq.2.2 (by rw[ha,e3])
  ·have:=hq.2.1;omega⟩
 have hl:(ms++[m]).length=ms.length+1:=by simp
 have hold:∀i,i<ms.length->(ms++[m]).getD i Sm.nil=ms.getD i Sm.nil:=fun i hi=>by rw[lW,lW,kW hi]
 have hnew:(ms++[m]).getD ms.length Sm.nil=m:=by simp
 refine⟨⟨fun i=>if i=ms.length then x else a i,fun i=>if i=ms.length then y else b i,fun i=>if i=ms.length then z else d i,?_,fun i hi=>?_,fun i hi=>?_,fun i hi=>?_⟩,xO (xQ h.own hg hH)⟩
 ·rw[hl,zAD,if_pos rfl,if_pos rfl,if_pos rfl,hnew,zH0 (fun i=>if i=ms.length then x else a i) (fun i=>if i=ms.length then y else b i) (fun i=>int i64 ((ms++[m]).getD i Sm.nil).start) (fun i=>if i=ms.length then z else d i) a b (fun i=>int i64 (ms.getD i Sm.nil).start) d ms.length fun i hi=>⟨if_neg (by omega),if_neg (by omega),by rw[hold i hi],if_neg (by omega)⟩]
  exact hown
 ·rw[hl] at hi
  by_cases ei:i=ms.length
  ·subst ei;rw[hnew];simp only[if_pos];exact(hx.keep e).mono mo
  ·rw[hold i (by omega)];simp only[if_neg ei];exact((h.next i (by omega)).keep e).mono mo
 ·rw[hl] at hi
  by_cases ei:i=ms.length
  ·subst ei;rw[hnew];simp only[if_pos];exact(hy.keep e).mono mo
  ·rw[hold i (by omega)];simp only[if_neg ei];exact((h.rules i (by omega)).keep e).mono mo
 ·rw[hl] at hi
  by_cases ei:i=ms.length
  ·subst ei;rw[hnew];simp only[if_pos];exact(hz.keep e).mono mo
  ·rw[hold i (by omega)];simp only[if_neg ei];exact((h.empty i (by omega)).keep e).mono mo
theorem Sw.treesAt {w:World}{X:Nat->Prop}{S D:Nat}{sh:Sh}{mv dv av pv:Value}{rv:Nat->Value}{ps:Nat->List Nat}{dp:Nat->Nat}(h:Sw w X S D sh mv dv av pv rv ps dp){j:Nat}(hj:j<sh.modes.length):zKu w D (rv j) (sh.mode j).2:=by
 obtain⟨ao,cap,hv,h1,h2⟩:=zC4 (h.rOwn j hj);refine⟨ao,cap,hv,h1,h2,fun i hi=>?_⟩;obtain⟨g,cap2,hv2,-,hg,-,-,hc,-⟩:=qL (h.rOwn j hj) (by omega);rw[hv] at hv2;injection hv2 with e1 e2 e3;have hpl:(ps j).length=(sh.mode j).2.length:=by
  have:=(h.rOwn j hj).1;unfold xU at this;rw[kV] at this;omega
 have e4:(xU (ps j))[i]? =some (pointer (some ⟨(ps j).getD i 0,0,none⟩)):=by
  unfold xU;rw[gU,lV (by omega:i<(ps j).length),lW,lV (by omega:i<(ps j).length)];rfl
 refine⟨g,0,(ps j).getD i 0,e1,hg,?_,(h.rTree j hj i hi).at⟩;rw[Nat.zero_add];exact hc _ _ e4
def zBO (D:Nat)(rules:List Tr)(most:Nat):Option Sm:=
 match (xJ D rules rules.length).sort most with
 |none=>none
 |some k=>if(yB k (xJ D rules rules.length).areas most).full then none else some ⟨(yB k (xJ D rules rules.length).areas most).next,(yB k (xJ D rules rules.length).areas most).rules,(yB k (xJ D rules rules.length).areas most).of.getD k.start 0,(xJ D rules rules.length).empty⟩
def xR (D:Nat)(sh:Sh):Nat->Nat->Nat->Option (List Sm)
 |0,_,_=>some []
 |f+1,j,most=>match zBO D (sh.mode j).2 most with
  |none=>none
  |some m=>(xR D sh f (j+1) (most-m.next.length)).map (m::·)
section
attribute [local go_sem ↓] Go.wp_at_zero Go.wp_at_succ
theorem zJt:(prog.info? 134).map (fun i=>(i.zero,i.size,i.bytes))=some (some (agg #[slice none 0 0,slice none 0 0,int i64 0,slice none 0 0]),4,80):=by kernel_rfl
def zMS (w:World)(G:Option (List Sm))(e:Ending)(w':World):Prop:=
 Grew w w'∧match G with
 |none=>e=returned (tuple #[slice none 0 0,bool false])
 |some ms=>∃v,e=returned (tuple #[v,bool true])∧ModesAt w' (In w') v ms
structure ModeFacts (D:Nat)(rules:List Tr):Prop where
 cnt:zW (yQ D) rules rules.length<=24
 eight:rules.length<=8
 ok:(xJ D rules rules.length).Ok
 fit:(xJ D rules rules.length).Fits
theorem SpecIs.facts {w:World}{D:Nat}{mv av pv:Value}{sh:Sh}(h:SpecIs w D mv av pv sh){j:Nat}(hj:j<sh.modes.length):ModeFacts D (sh.mode j).2:=by
 have h8:=lY (h.few j hj) h.ok.acts;have hf:yM (sh.mode j).2 (sh.mode j).2.length<=24:=by
  have:=h.fit;unfold Sh.fitB at this;exact(of_decide_eq_true this) j hj
 have hc:zW (yQ D) (sh.mode j).2 (sh.mode j).2.length<=24:=by rw[zLw D _ (h.ok.rules j hj) _ lQ hf];exact hf
 have hok:=zN9 D (sh.mode j).2 hc h8;exact⟨hc,h8,hok,zLY (zJr D _ (h.ok.rules j hj) _ lQ) hok.len⟩
theorem zIc (D:Nat)(sh:Sh)(j mo:Nat)(ms:List Sm)(hj:j<sh.modes.length):(xR D sh (sh.modes.length-j) j mo).map (ms++·)=match zBO D (sh.mode j).2 mo with
  |none=>none
  |some m=>(xR D sh (sh.modes.length-(j+1)) (j+1) (mo-m.next.length)).map ((ms++[m])++·):=by
 rw[show sh.modes.length-j=(sh.modes.length-(j+1))+1 by omega]
 conv=>lhs;unfold xR
 cases zBO D (sh.mode j).2 mo with
 |none=>rfl
 |some m=>
  show((xR D sh (sh.modes.length-(j+1)) (j+1) (mo-m.next.length)).map (m::·)).map (ms++·)=_;rw[Option.map_map]
  congr 1
  funext l
  simp
theorem zCq (w:World)(D:Nat)(mv av pv:Value)(sh:Sh)(h:SpecIs w D mv av pv sh)(most:Nat)(hmost:most<=200):
  Calls prog 44 #[agg #[mv,av,pv],int i64 (most:Int)] w (zMS w (xR D sh sh.modes.length 0 most)):=by
 obtain⟨i0,hi0,hz0,hz1,hz2⟩:=info_parts zJt;obtain⟨X,S,dv,qv,rv,ps,dp,hS⟩:=h.sheet;obtain⟨am,cm,hmv⟩:=zG hS.mOwn;obtain⟨aa,ca,hav⟩:=zG hS.aOwn;obtain⟨ap,cp,hpv,-⟩:=h.pushes;rw[yR] at hpv;subst hmv hav hpv;have HS:=vl hS;have HF:Hid (∀j,j<sh.modes.length->ModeFacts D (sh.mode j).2):=fun j hj=>h.facts hj;have hm3:=h.ok.modes;obtain⟨w1,hw1,y0,K1⟩:∃w1,w1=w.alloc (.cells #[slice am sh.modes.length cm,slice aa sh.acts.length ca,slice ap sh.pushed.length cp] 79)∧w1.cell? ⟨w.heap.size,0,none⟩=some (slice am sh.modes.length cm)∧Hid (Grew w w1):=by
  have hb:=gJ w (.cells #[slice am sh.modes.length cm,slice aa sh.acts.length ca,slice ap sh.pushed.length cp] 79);refine⟨_,rfl,?_,kZ _ _ lQ⟩;unfold cell?;rw[hb];rfl
 have K1z:Hid (w1.heap.size=w.heap.size+1):=by show _=_;rw[hw1];simp
 obtain⟨G,hG⟩:∃G,G=xR D sh sh.modes.length 0 most:=⟨_,rfl⟩
 have HG:Hid ((xR D sh (sh.modes.length-0) 0 most).map (([]:List Sm)++·)=G):=by
  show _=_;rw[hG,Nat.sub_zero];cases xR D sh sh.modes.length 0 most with
  |none=>rfl
  |some l=>rfl
 rw[<-hG];clear h hS hG;go_in;apply wp_cut;intro K0 J;go_wp2;apply J.out;clear J;rw[<-hw1];clear hw1;go_wp2;clear y0;go_loopg [1,6,17] sh.modes.length (fun q v1 v6 i wr=>∃(j mo:Nat) (ms:List Sm),q=sh.modes.length-j∧j<=sh.modes.length∧v1=int i64 (mo:Int)∧i=int i64 (j:Int)∧mo<=200∧ms.length=j∧zLO wr (w.heap.size+1) v6 ms∧Grew w wr∧w.heap.size+1<=wr.heap.size∧(xR D sh (sh.modes.length-j) j mo).map (ms++·)=G)
 case atStart=>exact⟨0,most,[],rfl,lX,rfl,rfl,hmost,rfl,Lm.nil _ _,K1.out,by rw[K1z.out];exact lQ,HG.out⟩
 case round=>
  obtain⟨j,mo,ms,hgk,hj,rfl,rfl,hmo,hml,hLm,hk,hwz,hGo⟩:=hrel;obtain⟨ua,ub,ud,hL⟩:=hLm;obtain⟨ao,cap0,hv6⟩:=zG hL.own;rw[hml] at hv6;subst hv6;have HA:Hid (gk=sh.modes.length-j∧Lm wr (w.heap.size+1) (slice ao j cap0) ms ua ub ud∧Grew w wr∧ms.length=j):=⟨hgk,hL,hk,hml⟩
  clear hgk hL;by_cases hj2:j<sh.modes.length
  ·have i1:(j:Int)<(sh.modes.length:Int):=by omega
   obtain⟨mg,ra,rc,rfl,hrv,y0,y1⟩:=zCE HS.out hj2 hk;rw[zIc D sh j mo ms hj2] at hGo;have F:=HF.out j hj2;have HLY:Hid (∀wa,Grew w wa->Ca 60 #[slice ra (sh.mode j).2.length rc] wa fun e w'=>∃nb,e=returned (pointer (some ⟨nb,0,none⟩))∧NwIs wa w' nb (xJ D (sh.mode j).2 (sh.mode j).2.length)):=fun wa hka=>by
    have:=zK7 wa D (rv j) (sh.mode j).2 ((HS.out.grown hka).treesAt hj2) F.eight F.cnt;rw[hrv] at this;exact this
   have hMM:zBO D (sh.mode j).2 mo=match (xJ D (sh.mode j).2 (sh.mode j).2.length).sort mo with
     |none=>none
     |some k=>if(yB k (xJ D (sh.mode j).2 (sh.mode j).2.length).areas mo).full then none else some ⟨(yB k (xJ D (sh.mode j).2 (sh.mode j).2.length).areas mo).next,(yB k (xJ D (sh.mode j).2 (sh.mode j).2.length).areas mo).rules,(yB k (xJ D (sh.mode j).2 (sh.mode j).2.length).areas mo).of.getD k.start 0,(xJ D (sh.mode j).2 (sh.mode j).2.length).empty⟩:=rfl
   rw[hMM] at hGo;clear hMM;obtain⟨hok,hfit⟩:(xJ D (sh.mode j).2 (sh.mode j).2.length).Ok∧(xJ D (sh.mode j).2 (sh.mode j).2.length).Fits:=⟨F.ok,F.fit⟩
   clear F hrv;generalize hn:xJ D (sh.mode j).2 (sh.mode j).2.length=n at *;clear hn;have HSO:Hid (∀wa w2 nb,NwIs wa w2 nb n->Ca 61 #[pointer (some ⟨nb,0,none⟩),int i64 (mo:Int)] w2 (zBx w2 n mo)):=fun wa w2 nb hw=>by
    obtain⟨sv,fv,rv2,ev,ps2,hw⟩:=hw;exact zI3 w2 nb n sv fv rv2 ev hw.netAt hok hfit mo (by omega)
   obtain⟨wa,hwa,z1,HKa⟩:∃wa,wa=wr.alloc (.cells #[string (sh.mode j).1,slice ra (sh.mode j).2.length rc] 120)∧wa.cell? ⟨wr.heap.size,1,none⟩=some (slice ra (sh.mode j).2.length rc)∧Hid (Grew w wa∧Lm wa (w.heap.size+1) (slice ao j cap0) ms ua ub ud∧w.heap.size+1<=wa.heap.size):=by
    have hb2:=gJ wr (.cells #[string (sh.mode j).1,slice ra (sh.mode j).2.length rc] 120);refine⟨_,rfl,?_,hk.trans (kZ _ _ (by omega)),HA.out.2.1.grown (kZ _ _ lQ),by simp;omega⟩;unfold cell?;rw[hb2];rfl
   clear hk;apply wp_cut;intro K2 HK2;go_wp2;apply HK2.out;clear HK2;apply wp_cut;intro K2 HK2;go_wp2;apply HK2.out;clear HK2;apply wp_cut;intro KB HKB;refine wp_block ?_;apply wp_cut;intro K2 HK2;go_wp2;apply HK2.out;clear HK2;rw[<-hwa];clear hwa y0 y1;apply wp_cut;intro K2 HK2;go_wp2_with (first|(go_at_call 60;refine(HLY.out wa HKa.out.1).mono ?_;rintro e w2 ⟨nb,rfl,hnw⟩))
   apply HK2.out;clear HK2 HLY;obtain⟨sv2,fv2,rv2,ev2,ps2,hNw⟩:=hnw;have HK2w:Hid (Grew w w2∧Lm w2 (w.heap.size+1) (slice ao j cap0) ms ua ub ud∧w.heap.size+1<=w2.heap.size∧Nw wa w2 nb n sv2 fv2 rv2 ev2 ps2):=⟨HKa.out.1.trans (hNw.keep.lower HKa.out.1.size HKa.out.1.size),HKa.out.2.1.grown hNw.keep,lY HKa.out.2.2 hNw.keep.size,hNw⟩
   have HS2:=HSO.out wa w2 nb ⟨sv2,fv2,rv2,ev2,ps2,hNw⟩;unfold zBx at HS2;clear hNw z1 HSO;cases hso:n.sort mo with
   |none=>
    rw[hso] at HS2 hGo;have HS3:=vl HS2;have HG2:=vl hGo.symm;clear HS2 hGo hso;go_wp2_with (first|(go_at_call 61;refine HS3.out.mono ?_;rintro e w3 ⟨rfl,hk3⟩))
    rw[HG2.out];refine dZ (results_tmp2 rfl _ _ _) rfl ?_;exact⟨HK2w.out.1.trans (hk3.lower HK2w.out.1.size HK2w.out.1.size),rfl⟩
   |some k=>
    obtain⟨kok,krl,kru⟩:=zJZ hso hok hfit;rw[hso] at HS2 hGo;have HS3:=vl HS2;have HMK:Hid (∀w3 kb,KdAt w3 kb n.areas k->Ca 62 #[pointer (some ⟨kb,0,none⟩),int i64 (mo:Int)] w3 (zDo w3 k n.areas mo)):=fun w3 kb hkd=>zGH w3 kb mo (by omega) k n.areas hkd kok (by omega);have HTB:Hid ((yB k n.areas mo).full=false->(yB k n.areas mo).next.length<=mo):=fun hf=>(zGg k n.areas mo (nr:=(n.rules.length:Int)) (by omega) kru kok.lens hf).2.few;clear HS2 hso kok krl kru;apply wp_cut;intro K2 HK2;go_wp2_with (first|(go_at_call 61;refine HS3.out.mono ?_;rintro e w3 ⟨kb,rfl,hkd,hk3⟩))
    apply HK2.out;clear HK2;have HM4:=HMK.out w3 kb hkd;have HK3w:Hid (Grew w w3∧Lm w3 (w.heap.size+1) (slice ao j cap0) ms ua ub ud∧w.heap.size+1<=w3.heap.size∧Nw wa w3 nb n sv2 fv2 rv2 ev2 ps2):=⟨HK2w.out.1.trans (hk3.lower HK2w.out.1.size HK2w.out.1.size),HK2w.out.2.1.grown hk3,lY HK2w.out.2.2.1 hk3.size,HK2w.out.2.2.2.grown hk3⟩
    clear hkd hk3 HMK HS3 HK2w;unfold zDo at HM4;cases hfl:(yB k n.areas mo).full with
    |true=>
     rw[hfl] at HM4 hGo;have HG2:Hid (G=none):=hGo.symm;have HM5:Hid (Ca 62 #[pointer (some ⟨kb,0,none⟩),int i64 (mo:Int)] w3 fun e w'=>e=returned (tuple #[agg #[slice none 0 0,slice none 0 0,int i64 0],bool false])∧Grew w3 w'):=HM4.mono fun e w' h4=>by
      rcases h4.2 with h5|h5
      ·exact⟨h5.2,h4.1⟩
      ·exact absurd h5.1 (by decide)
     clear HM4 hGo hfl HTB;go_wp2_with (first|(go_at_call 62;refine HM5.out.mono ?_;rintro e w4 ⟨rfl,hk4⟩))
     rw[HG2.out];refine dZ (results_tmp2 rfl _ _ _) rfl ?_;have h1:=HK3w.out.1.trans (hk4.lower HK3w.out.1.size HK3w.out.1.size);exact⟨h1.trans (kZ _ _ h1.size),rfl⟩
    |false=>
     rw[hfl] at HM4 hGo;have hnl:=HTB.out hfl;have HM5:Hid (Ca 62 #[pointer (some ⟨kb,0,none⟩),int i64 (mo:Int)] w3 fun e w'=>∃nv rvv,e=returned (tuple #[agg #[nv,rvv,int i64 ((yB k n.areas mo).of.getD k.start 0)],bool true])∧IntRows w' (fun g=>w3.heap.size<=g∧g<w'.heap.size) nv (yB k n.areas mo).next∧Ints w' (fun g=>w3.heap.size<=g∧g<w'.heap.size) rvv (yB k n.areas mo).rules∧Grew w3 w'):=HM4.mono fun e w' h4=>by
      rcases h4.2 with h5|⟨-,nv,rvv,h5,h6,h7⟩
      ·exact absurd h5.1 (by decide)
      ·exact⟨nv,rvv,h5,h6,h7,h4.1⟩
     have HG2:Hid ((xR D sh (sh.modes.length-(j+1)) (j+1) (mo-(yB k n.areas mo).next.length)).map ((ms++[⟨(yB k n.areas mo).next,(yB k n.areas mo).rules,(yB k n.areas mo).of.getD k.start 0,n.empty⟩])++·)=G):=hGo;clear HM4 hGo hfl HTB;generalize (yB k n.areas mo).next=NX at *
     generalize (yB k n.areas mo).rules=RL at *;generalize (yB k n.areas mo).of.getD k.start 0=ST at *;apply wp_cut;intro K2 HK2;go_wp2;apply HK2.out;clear HK2;apply wp_cut;intro K2 HK2;go_wp2_with (first|(go_at_call 62;refine HM5.out.mono ?_;rintro e w4 ⟨nv,rvv,rfl,hnv,hrv4,hk4⟩;obtain⟨an,cn,hnv2,-⟩:=id hnv;obtain⟨ar,cr,hrv5,-⟩:=id hrv4;subst hnv2 hrv5))
     apply HK2.out;clear HK2;obtain⟨wt,hwt,t0,t1,t2,HT⟩:∃wt,wt=w4.alloc (.cells #[slice an NX.length cn,slice ar RL.length cr,int i64 ST] 127)∧wt.cell? ⟨w4.heap.size,0,none⟩=some (slice an NX.length cn)∧wt.cell? ⟨w4.heap.size,1,none⟩=some (slice ar RL.length cr)∧wt.cell? ⟨w4.heap.size,2,none⟩=some (int i64 ST)∧Hid (Grew w wt∧Lm wt (w.heap.size+1) (slice ao j cap0) ms ua ub ud∧w.heap.size+1<=wt.heap.size∧Nw wa wt nb n sv2 fv2 rv2 ev2 ps2∧IntRows wt (fun g=>w3.heap.size<=g∧g<wt.heap.size) (slice an NX.length cn) NX∧Ints wt (fun g=>w3.heap.size<=g∧g<wt.heap.size) (slice ar RL.length cr) RL):=by
      have hb2:=gJ w4 (.cells #[slice an NX.length cn,slice ar RL.length cr,int i64 ST] 127);have ka:Grew w4 (w4.alloc (.cells #[slice an NX.length cn,slice ar RL.length cr,int i64 ST] 127)):=kZ _ _ lQ;have h1:=HK3w.out.1.trans (hk4.lower HK3w.out.1.size HK3w.out.1.size);have e:∀g,(w3.heap.size<=g∧g<w4.heap.size)->(w4.alloc (.cells #[slice an NX.length cn,slice ar RL.length cr,int i64 ST] 127)).heap[g]? =w4.heap[g]? :=fun g hg=>ka.block g hg.2 (kJ hg.2);have mo2:∀g,(w3.heap.size<=g∧g<w4.heap.size)->(w3.heap.size<=g∧g<(w4.alloc (.cells #[slice an NX.length cn,slice ar RL.length cr,int i64 ST] 127)).heap.size):=fun g hg=>⟨hg.1,by simp;omega⟩
      refine⟨_,rfl,?_,?_,?_,h1.trans (ka.lower h1.size h1.size),(HK3w.out.2.1.grown hk4).grown ka,by have:=hk4.size;have:=HK3w.out.2.2.1;simp;omega,(HK3w.out.2.2.2.grown hk4).grown ka,(hnv.keep e).mono mo2,(hrv4.keep e).mono mo2⟩
      all_goals (unfold cell?;rw[hb2];rfl)
     rw[<-hwt];have hz34:w3.heap.size<=w4.heap.size:=hk4.size;clear hwt hnv hrv4 hk4 HM5;obtain⟨B,hB⟩:∃B,B=w4.heap.size:=⟨_,rfl⟩
     rw[<-hB] at t0 t1 t2 ⊢;clear hB hz34;apply wp_cut;intro K2 HK2;go_wp2;apply HK2.out;clear HK2;apply wp_cut;intro K2 HK2;go_wp2;apply HK2.out;clear HK2;obtain⟨ae,ce,hev⟩:=zG HT.out.2.2.2.1.eOwn;subst hev;have c5:wt.cell? ⟨nb,5,none⟩=some (slice ae n.empty.length ce):=HT.out.2.2.2.1.netAt.c5;obtain⟨Q,hQ⟩:∃Q,Q=zA1 ua ub (fun i=>int i64 (ms.getD i Sm.nil).start) ud j:=⟨_,rfl⟩
     have OW:wt.ownsRow (w.heap.size+1) 134 4 (slice ao j cap0) j Q:=by
      have:=HT.out.2.1.own;rw[HA.out.2.2.2,<-hQ] at this;exact this
     have hwtz:w.heap.size+1<=wt.heap.size:=HT.out.2.2.1;have HFIN:Hid (∀gg cap w5,w5.ownsRow (w.heap.size+1) 134 4 (slice (some ⟨gg,0,none⟩) (j+1) cap) (j+1) (Q++[slice an NX.length cn,slice ar RL.length cr,int i64 ST,slice ae n.empty.length ce])->(wt.drew.alloc (Obj.cells #[slice an NX.length cn,slice ar RL.length cr,int i64 ST,slice ae n.empty.length ce] 134)).grownBy w5 (Value.slice ao j cap0).ownBlock->((Value.slice ao j cap0).ownBlock=some gg∨wt.heap.size<=gg)->zLO w5 (w.heap.size+1) (slice (some ⟨gg,0,none⟩) (j+1) cap) (ms++[⟨NX,RL,ST,n.empty⟩])∧Grew w w5∧w.heap.size+1<=w5.heap.size):=fun gg cap w5 ho hg ha=>by
      have hjm:=HA.out.2.2.2;have kd:Grew wt wt.drew:=Keep.drew _;have hd:Lm wt.drew (w.heap.size+1) (slice ao j cap0) ms ua ub ud:=HT.out.2.1.grown kd;have o3:=HK3w.out.2.1.own;have oa:=HKa.out.2.1.own;have z3:=HK3w.out.2.2.1;have za:=HKa.out.2.2;have hx:IntRows wt.drew (fun g=>w.heap.size+1<=g∧g<wt.drew.heap.size∧some g≠(Value.slice ao j cap0).ownBlock) (slice an NX.length cn) NX:=(HT.out.2.2.2.2.1.keep (w':=wt.drew) fun _ _=>rfl).mono fun g hg2=>⟨by omega,hg2.2,fun e=>by have:=(o3.lt g e.symm).2;omega⟩
      have hy:Ints wt.drew (fun g=>w.heap.size+1<=g∧g<wt.drew.heap.size∧some g≠(Value.slice ao j cap0).ownBlock) (slice ar RL.length cr) RL:=(HT.out.2.2.2.2.2.keep (w':=wt.drew) fun _ _=>rfl).mono fun g hg2=>⟨by omega,hg2.2,fun e=>by have:=(o3.lt g e.symm).2;omega⟩
      have eo:OwnB wt.drew wa.heap.size (slice ae n.empty.length ce) n.empty:=zK HT.out.2.2.2.1.eOwn kd;have hz:Bools wt.drew (fun g=>w.heap.size+1<=g∧g<wt.drew.heap.size∧some g≠(Value.slice ao j cap0).ownBlock) (slice ae n.empty.length ce) n.empty:=zGd eo fun g hg2=>⟨by have:=(eo.lt g hg2).1;omega,(eo.lt g hg2).2,fun e=>by have:=(oa.lt g e.symm).2;have:=(eo.lt g hg2).1;omega⟩
      rw[<-hjm] at ho ha ⊢;rw[hQ,<-hjm] at ho;rw[<-hjm] at hg hx hy hz hd;obtain⟨q1,q2⟩:=Lm.app (m:=⟨NX,RL,ST,n.empty⟩) hd (show w.heap.size+1<=wt.heap.size from hwtz) hx hy hz ho hg ha;exact⟨q1,HT.out.1.trans ⟨q2.os,q2.output,q2.size,fun k h1 h2=>q2.block k (by omega) (by omega)⟩,lY hwtz q2.size⟩
     clear hQ;go_region_law ((refine step_append_lies _ (by rfl) (.tmp 45) (.tmp 52) 82 (by rfl) (w.heap.size+1) 134 i0 _ 4 80 underlying82 hi0 hz0 hz1 hz2 rfl (by decide) (slice ao j cap0) j Q (by simp[Act.eval,Act.put]) ((OW.alloc _).drew) ⟨wt.heap.size,0,none⟩ 1 1 [slice an NX.length cn,slice ar RL.length cr,int i64 ST,slice ae n.empty.length ce] (by simp[Act.eval,Act.put]) (by rfl) (news_of_block (cs:=#[slice an NX.length cn,slice ar RL.length cr,int i64 ST,slice ae n.empty.length ce]) (t:=134) (fr:=(0,0)) (gJ wt _)) (by simp[Value.oneCell']) (by decide) (by unfold maxLen;omega) (by omega) (by simp;omega) (wt.heap.size+1) (by simp) ?_;intro gg cap w5 hown hgrow hat hlt))
     all_goals
      have H5:Hid (zLO w5 (w.heap.size+1) (slice (some ⟨gg,0,none⟩) (j+1) cap) (ms++[⟨NX,RL,ST,n.empty⟩])∧Grew w w5∧w.heap.size+1<=w5.heap.size):=HFIN.out gg cap w5 hown hgrow (by rcases hat with ha|ha;exact .inl ha;right;show wt.heap.size<=gg;omega);clear hown hgrow hat hlt HFIN OW t0 t1 t2 c5;show KB _ _;apply HKB.out;clear HKB;have hsub:((mo:Int)-(NX.length:Int))=((mo-NX.length:Nat):Int):=by omega
      rw[hsub];clear hsub;go_wp2;go_roundg (sh.modes.length-(j+1))
      case measure=>rw[HA.out.1];omega
      case rel=>exact⟨j+1,mo-NX.length,ms++[⟨NX,RL,ST,n.empty⟩],rfl,by omega,rfl,by go_num,by omega,by rw[kX,HA.out.2.2.2];rfl,H5.out.1,H5.out.2.1,H5.out.2.2,HG2.out⟩
  ·have i1:(sh.modes.length:Int)<=(j:Int):=by omega
   have e:j=sh.modes.length:=by omega
   have HG2:Hid (G=some ms):=by
    show _=_;rw[<-hGo,e,Nat.sub_self];show some (ms++[])=_;rw[dV]
   clear hGo e;go_wp2;rw[HG2.out];refine dZ (results_tmp2 rfl _ _ _) rfl ?_;exact⟨HA.out.2.2.1,_,rfl,Lm.modes ⟨ua,ub,ud,HA.out.2.1⟩⟩
end
section
variable {sh sh':Sh} {nm s:ByteArray}
def xV (l:List (ByteArray×List Tr)):Nat->Nat
 |0=>0
 |j+1=>xV l j+(l.getD j (⟨#[]⟩,[])).2.length
theorem zBV (l l':List (ByteArray×List Tr))(j:Nat)(h:∀i,i<j->(l.getD i (⟨#[]⟩,[])).2.length=(l'.getD i (⟨#[]⟩,[])).2.length):xV l j=xV l' j:=by
 induction j with
 |zero=>rfl
 |succ j ih=>
  show xV l j+_=xV l' j+_;rw[ih fun i hi=>h i (by omega),h j (by omega)]
def zBE (sh:Sh):Prop:=xV sh.modes sh.modes.length=sh.acts.length∧∀a∈sh.acts,a<4
theorem zHg (l:List (ByteArray×List Tr))(k:Nat)(x:ByteArray×List Tr)(hx:x.2.length=(l.getD k (⟨#[]⟩,[])).2.length+1)(j:Nat)(hk:k<j)(hj:j<=l.length):xV (l.set k x) j=xV l j+1:=by
 induction j with
 |zero=>omega
 |succ j ih=>
  show xV (l.set k x) j+((l.set k x).getD j (⟨#[]⟩,[])).2.length=xV l j+(l.getD j (⟨#[]⟩,[])).2.length+1;by_cases e:k=j
  ·subst e
   have e1:xV (l.set k x) k=xV l k:=zBV _ _ k fun i hi=>by rw[lW,lW,List.getElem?_set_ne (by omega)]
   have e2:(l.set k x).getD k (⟨#[]⟩,[])=x:=by rw[lW,List.getElem?_set_self (by omega)];rfl
   rw[e1,e2,hx];omega
  ·have e2:(l.set k x).getD j (⟨#[]⟩,[])=l.getD j (⟨#[]⟩,[]):=by rw[lW,lW,List.getElem?_set_ne e]
   rw[ih (by omega) (by omega),e2];omega
theorem zNG (s:ByteArray):(zAv s).act<4:=by
 unfold zAv zGa
 repeat' split
 all_goals (dsimp only;omega)
theorem zGR (h:yA sh nm=some sh')(s:zBE sh):zBE sh':=by
 unfold yA at h;split at h
 ·cases h
 split at h
 ·cases h
 split at h
 ·have e:=hU h
  subst e;refine⟨?_,s.2⟩;show xV (sh.modes++[(nm,[])]) (sh.modes++[(nm,[])]).length=sh.acts.length;rw[kX];show xV (sh.modes++[(nm,[])]) sh.modes.length+((sh.modes++[(nm,[])]).getD sh.modes.length (⟨#[]⟩,[])).2.length=_;have e1:(sh.modes++[(nm,[])]).getD sh.modes.length (⟨#[]⟩,[])=(nm,[]):=by simp
  have e2:xV (sh.modes++[(nm,[])]) sh.modes.length=xV sh.modes sh.modes.length:=zBV _ _ _ fun i hi=>by rw[lW,lW,kW hi]
  rw[e1,e2];exact s.1
 ·cases h
theorem zHW (h:vD sh s=some sh')(hs:zBE sh):zBE sh':=by
 unfold vD at h;split at h
 ·split at h
  ·cases h
  split at h
  ·cases h
  split at h
  ·cases hr:vO (yK s 32) sh.defs with
   |none=>rw[hr] at h;cases h
   |some t=>
    rw[hr] at h;have e:=hU h;subst e;exact hs
  ·cases h
 ·cases h
theorem zGQ (h:qK sh nm s=some sh')(hs:zBE sh):zBE sh':=by
 unfold qK at h;split at h
 ·split at h
  ·cases h
  split at h
  ·cases h
  split at h
  ·split at h
   ·rename_i h0 _ _ _
    cases hr:vO (yK s 32) sh.defs with
    |none=>rw[hr] at h;cases h
    |some t=>
     rw[hr] at h;have e:=hU h;subst e;have hac:=zNG (xX s 32);generalize (zAv (xX s 32))=ac at *;refine⟨?_,fun a ha=>by rcases kU.1 ha with h1|h1;exact hs.2 a h1;rw[kY.1 h1];exact hac⟩;show xV (sh.modes.set (sh.modes.length-1) ((sh.mode (sh.modes.length-1)).1,(sh.mode (sh.modes.length-1)).2++[t])) (sh.modes.set (sh.modes.length-1) _).length=(sh.acts++[ac.act]).length;rw[List.length_set,kX,zHg sh.modes _ _ (by show((sh.mode (sh.modes.length-1)).2++[t]).length=_;rw[kX];rfl) sh.modes.length (by omega) lQ,hs.1];rfl
   ·cases h
  ·cases h
 ·cases h
theorem zGS (h:xK sh s=some sh')(hs:zBE sh):zBE sh':=by
 unfold xK at h;split at h
 ·split at h
  ·exact zGR h hs
  split at h
  ·exact zHW h hs
  ·exact zGQ h hs
 ·cases h
theorem zGh:∀f sh n s sh',vQ f sh n s=.inl sh'->zBE sh->zBE sh'
 |0,_,_,_,_,h,hs=>by cases h;exact hs
 |f+1,sh,n,s,sh',h,hs=>by
  have h2:(if s.size=0 then .inl sh else if jS s 10 then(match xK sh (xX s 10) with|none=>.inr n|some sh'=>vQ f sh' (n+1) (yK s 10)) else .inr n)=(.inl sh':Sh ⊕ Nat):=h;split at h2
  ·cases h2;exact hs
  split at h2
  ·cases hm:xK sh (xX s 10) with
   |none=>rw[hm] at h2;cases h2
   |some sh1=>
    rw[hm] at h2;exact zGh f sh1 (n+1) _ sh' h2 (zGS hm hs)
  ·cases h2
theorem zHH {sh:Sh}(h:vR s=.inl sh):zBE sh:=by
 unfold vR at h;split at h
 ·cases h
 cases hn:vQ (s.size+1) Sh.none 1 s with
 |inr n=>rw[hn] at h;cases h
 |inl sh1=>
  rw[hn] at h;have h2:(if sh1.there&&sh1.haveB then(if sh1.fitB then .inl sh1 else .inr (0,4)) else .inr (0,3))=(.inl sh:Sh ⊕ (Nat×Nat)):=h;split at h2
  ·split at h2
   ·cases h2
    exact zGh _ _ _ _ _ hn ⟨rfl,fun a ha=>(List.not_mem_nil ha).elim⟩
   ·cases h2
  ·cases h2
structure SmOk (m:Sm)(mo nr:Nat):Prop where
 one:1<=m.next.length
 few:m.next.length<=mo
 wide:∀row∈m.next,row.length=256∧∀x∈row,0<=x∧x<(m.next.length:Int)
 same:m.rules.length=m.next.length
 rules:∀r∈m.rules,-1<=r∧r<(m.empty.length:Int)
 start:0<=m.start∧m.start<(m.next.length:Int)
 len:m.empty.length=nr
theorem zMf {D:Nat}{rules:List Tr}{mo:Nat}{m:Sm}(h:zBO D rules mo=some m)(f:ModeFacts D rules):SmOk m mo rules.length:=by
 have hl:=zBn D rules rules.length f.cnt;have hok:=f.ok;have hfit:=f.fit;unfold zBO at h;generalize xJ D rules rules.length=n at *;cases hs:n.sort mo with
 |none=>rw[hs] at h;cases h
 |some k=>
  rw[hs] at h;obtain⟨kok,-,kru⟩:=zJZ hs hok hfit;have h2:(if (yB k n.areas mo).full then none else some ⟨(yB k n.areas mo).next,(yB k n.areas mo).rules,(yB k n.areas mo).of.getD k.start 0,n.empty⟩)=some m:=h;cases hf:(yB k n.areas mo).full with
  |true=>rw[hf] at h2;cases h2
  |false=>
   rw[hf] at h2;have e:=hU h2;obtain⟨t,fi⟩:=zGg k n.areas mo (nr:=(n.rules.length:Int)) (by omega) kru kok.lens hf;have he:n.empty.length=n.rules.length:=by rw[hl.elen,hl.rlen]
   subst e;exact⟨t.one,fi.few,t.wide,fi.same,fun r hr=>by have:=t.rules r hr;show -1<=r∧r<(n.empty.length:Int);rw[he];exact this,zJ5 t _,hl.elen⟩
theorem zGf (D:Nat)(sh:Sh)(hF:∀j,j<sh.modes.length->ModeFacts D (sh.mode j).2):∀f j mo ms,xR D sh f j mo=some ms->j+f<=sh.modes.length->ms.length=f∧(∀i,i<f->∃mo',mo'<=mo∧SmOk (ms.getD i ⟨[],[],0,[]⟩) mo' (sh.mode (j+i)).2.length)∧zE ms f<=mo
 |0,_,_,ms,h,_=>by
  have e:=hU h;subst e;exact⟨rfl,fun i hi=>absurd hi (Nat.not_lt_zero _),lX⟩
 |f+1,j,mo,ms,h,hj=>by
  have h2:(match zBO D (sh.mode j).2 mo with|none=>none|some m=>(xR D sh f (j+1) (mo-m.next.length)).map (m::·))=some ms:=h;cases hm:zBO D (sh.mode j).2 mo with
  |none=>rw[hm] at h2;cases h2
  |some m=>
   rw[hm] at h2;have ok:=zMf hm (hF j (by omega));have h3:(xR D sh f (j+1) (mo-m.next.length)).map (m::·)=some ms:=h2;cases hr:xR D sh f (j+1) (mo-m.next.length) with
   |none=>rw[hr] at h3;cases h3
   |some l=>
    rw[hr] at h3;have e:=hU h3;have e:=e;subst e;obtain⟨a,b,c⟩:=zGf D sh hF f (j+1) _ l hr (by omega);have hst:∀q,zE (m::l) (q+1)=m.next.length+zE l q:=fun q=>by
     induction q with
     |zero=>show 0+m.next.length=m.next.length+0;omega
     |succ q ih=>
      show zE (m::l) (q+1)+((m::l).getD (q+1) ⟨[],[],0,[]⟩).next.length=m.next.length+(zE l q+(l.getD q ⟨[],[],0,[]⟩).next.length)
      rw[ih,show(m::l).getD (q+1) ⟨[],[],0,[]⟩=l.getD q ⟨[],[],0,[]⟩ from rfl];omega
    refine⟨by rw[gZ,a],fun i hi=>?_,?_⟩
    ·cases i with
     |zero=>exact⟨mo,lQ,ok⟩
     |succ i=>
      obtain⟨mo',h5,h6⟩:=b i (by omega);refine⟨mo',by omega,?_⟩;rw[show j+(i+1)=j+1+i by omega];exact h6
    ·rw[hst]
     have:=ok.few;omega
theorem zHQ (D:Nat)(sh:Sh)(ms:List Sm)(h:∀i,i<sh.modes.length->(ms.getD i ⟨[],[],0,[]⟩).empty.length=(sh.mode i).2.length)(j:Nat)(hj:j<=sh.modes.length):zT ms j=xV sh.modes j:=by
 induction j with
 |zero=>rfl
 |succ j ih=>
  show zT ms j+(ms.getD j ⟨[],[],0,[]⟩).empty.length=xV sh.modes j+(sh.modes.getD j (⟨#[]⟩,[])).2.length;rw[ih (by omega),h j (by omega)];rfl
theorem zMe {w:World}{D:Nat}{mv av pv:Value}{sh:Sh}(h:SpecIs w D mv av pv sh)(hsum:zBE sh){most:Nat}(hmost:most<=200){ms:List Sm}(hm:xR D sh sh.modes.length 0 most=some ms):ModesOk ms∧zT ms ms.length=sh.acts.length:=by
 obtain⟨a,b,c⟩:=zGf D sh (fun j hj=>h.facts hj) sh.modes.length 0 most ms hm (by omega);have hh:=h.have_;unfold Sh.haveB at hh;obtain⟨hp,hr⟩:=of_decide_eq_true hh;have hg:∀i (hi:i<ms.length),ms.getD i ⟨[],[],0,[]⟩=ms[i]:=fun i hi=>by rw[lW,lV hi];rfl
 have ok:∀i (hi:i<ms.length),∃mo,SmOk ms[i] mo (sh.mode i).2.length:=fun i hi=>by
  obtain⟨mo,-,h1⟩:=b i (by omega);rw[hg i hi,Nat.zero_add] at h1;exact⟨mo,h1⟩
 have hrt:zT ms ms.length=sh.acts.length:=by
  rw[a,zHQ D sh ms (fun i hi=>by obtain⟨mo,h1⟩:=ok i (by omega);rw[hg i (by omega)];exact h1.len) _ lQ];exact hsum.1
 have h1:1<=sh.acts.length:=by
  have h3:=h.few 0 hp;have h4:=hr 0 hp;omega
 refine⟨⟨by omega,by have:=h.ok.modes;omega,fun i hi=>?_,fun i hi row hrow=>?_,fun i hi=>?_,fun i hi=>?_,by rw[a];omega,by omega,by have:=h.ok.acts;omega⟩,hrt⟩
 ·obtain⟨mo,h5⟩:=ok i hi;exact h5.one
 ·obtain⟨mo,h5⟩:=ok i hi
  obtain⟨h6,h7⟩:=h5.wide row hrow;refine⟨h6,fun q hq=>h7 _ ?_⟩;rw[lW,lV (by omega:q<row.length)];exact List.getElem_mem _
 ·obtain⟨mo,h5⟩:=ok i hi;exact⟨h5.same,h5.rules⟩
 ·obtain⟨mo,h5⟩:=ok i hi;exact h5.start
end
section
variable (w:World) (s:ByteArray) (st ho:Int) (fo:Bool)
def yN (st ho:Int):Bool:=decide (st<1)||decide (200<st)||decide (ho<1)||decide (64<ho)
def jY (s:ByteArray)(st ho:Int):(List Sm×Sh) ⊕ (Nat×Nat):=
 if yN st ho then .inr (0,6) else
 match vR s with
 | .inr e=>.inr e
 | .inl sh=>match xR (1+6*s.size) sh sh.modes.length 0 st.toNat with
  |none=>.inr (0,5)
  |some ms=>.inl (ms,sh)
def zIN (w:World)(n k:Nat)(e:Ending)(w':World):Prop:=Grew w w'∧e=returned (tuple #[pointer none,agg #[slice none 0 0,slice none 0 0,slice none 0 0,int i64 0,bool false,int i64 (n:Int)],int i64 (k:Int)])
theorem qR (q i:Nat)(v:Value)(c:Array Value)(t:TypeId)(h:w.heap[q]? =some (.cells c t)):∃w3,w3=w.setCell ⟨q,i,none⟩ v∧w3.heap[q]? =some (.cells (c.setIfInBounds i v) t)∧w3.heap.size=w.heap.size∧w3.os=w.os∧w3.output=w.output∧∀k,k≠q->w3.heap[k]? =w.heap[k]? :=⟨_,rfl,by simp[setCell,lU,h],by rw[zC],rfl,rfl,fun k hk=>lJ _ _ _ _ hk⟩
theorem zDs (w w2:World)(v0 v1 v2 v3 v4 v5:Value)(hB:w2.heap[w.heap.size+1]? =some (.cells #[slice none 0 0,slice none 0 0,slice none 0 0,int i64 0,bool false,int i64 0] 30))(hk:Grew w w2):
  ∃w3:World,w3=((((((w2.setCell ⟨w.heap.size+1,0,none⟩ v0).setCell ⟨w.heap.size+1,1,none⟩ v1).setCell ⟨w.heap.size+1,2,none⟩ v2).setCell ⟨w.heap.size+1,3,none⟩ v3).setCell ⟨w.heap.size+1,4,none⟩ v4).setCell ⟨w.heap.size+1,5,none⟩ v5)∧w3.cell? ⟨w.heap.size+1,0,none⟩=some v0∧w3.cell? ⟨w.heap.size+1,1,none⟩=some v1∧w3.cell? ⟨w.heap.size+1,2,none⟩=some v2∧w3.cell? ⟨w.heap.size+1,3,none⟩=some v3∧w3.cell? ⟨w.heap.size+1,4,none⟩=some v4∧w3.cell? ⟨w.heap.size+1,5,none⟩=some v5∧Hid (Grew w w3∧w3.heap.size=w2.heap.size∧w3.os=w2.os∧w3.output=w2.output∧∀k,k≠w.heap.size+1->w3.heap[k]? =w2.heap[k]?):=by
 obtain⟨a1,e1,c1,z1,o1,u1,n1⟩:=qR w2 (w.heap.size+1) 0 v0 _ _ hB;have b1:=c1;obtain⟨a2,e2,c2,z2,o2,u2,n2⟩:=qR a1 (w.heap.size+1) 1 v1 _ _ b1;have b2:=c2;obtain⟨a3,e3,c3,z3,o3,u3,n3⟩:=qR a2 (w.heap.size+1) 2 v2 _ _ b2;have b3:=c3;obtain⟨a4,e4,c4,z4,o4,u4,n4⟩:=qR a3 (w.heap.size+1) 3 v3 _ _ b3;have b4:=c4;obtain⟨a5,e5,c5,z5,o5,u5,n5⟩:=qR a4 (w.heap.size+1) 4 v4 _ _ b4;have b5:=c5;obtain⟨a6,e6,c6,z6,o6,u6,n6⟩:=qR a5 (w.heap.size+1) 5 v5 _ _ b5;have b6:a6.heap[w.heap.size+1]? =some (.cells #[v0,v1,v2,v3,v4,v5] 30):=c6;have hne:∀i,i≠w.heap.size+1->a6.heap[i]? =w2.heap[i]? :=fun i hi=>(n6 i hi).trans ((n5 i hi).trans ((n4 i hi).trans ((n3 i hi).trans ((n2 i hi).trans (n1 i hi)))));have hz:a6.heap.size=w2.heap.size:=by omega
 have ho:a6.os=w2.os:=o6.trans (o5.trans (o4.trans (o3.trans (o2.trans o1))));have hu:a6.output=w2.output:=u6.trans (u5.trans (u4.trans (u3.trans (u2.trans u1))));refine⟨a6,by rw[e6,e5,e4,e3,e2,e1],?_,?_,?_,?_,?_,?_,hk.trans ⟨ho,hu,by omega,fun k h1 _=>hne k (by omega)⟩,hz,ho,hu,hne⟩
 all_goals (unfold cell?;rw[b6];rfl)
theorem zGP {w w2:World}{st ho:Int}{fo:Bool}(hk:Keep (w.heap.size+2) (w.heap.size+2) ((w.alloc (.cells #[int i64 st,int i64 ho,bool fo] 58)).alloc (.cells #[slice none 0 0,slice none 0 0,slice none 0 0,int i64 0,bool false,int i64 0] 30)) w2):w2.heap[w.heap.size+1]? =some (.cells #[slice none 0 0,slice none 0 0,slice none 0 0,int i64 0,bool false,int i64 0] 30)∧w2.cell? ⟨w.heap.size,0,none⟩=some (int i64 st)∧w2.cell? ⟨w.heap.size,1,none⟩=some (int i64 ho)∧w2.cell? ⟨w.heap.size,2,none⟩=some (bool fo)∧Grew w w2:=by
 have s1:(w.alloc (.cells #[int i64 st,int i64 ho,bool fo] 58)).heap.size=w.heap.size+1:=by simp
 have h1:=gJ w (.cells #[int i64 st,int i64 ho,bool fo] 58);have h2:=gJ (w.alloc (.cells #[int i64 st,int i64 ho,bool fo] 58)) (.cells #[slice none 0 0,slice none 0 0,slice none 0 0,int i64 0,bool false,int i64 0] 30);rw[s1] at h2;have b0:=(hk.block w.heap.size (by omega) (by omega)).trans ((lG _ _ _ (by rw[s1];omega)).trans h1);have b1:=(hk.block (w.heap.size+1) (by omega) (by omega)).trans h2;refine⟨b1,?_,?_,?_,((kZ (H:=w.heap.size) (b:=w.heap.size) _ _ lQ).trans (kZ _ _ (by rw[s1];omega))).trans ⟨hk.os,hk.output,hk.size,fun k h1 h2=>hk.block k (by omega) (by omega)⟩⟩
 all_goals (unfold cell?;rw[b0];rfl)
theorem jC {w:World}{q:Nat}(h:w.heap[q]? =some (.cells #[slice none 0 0,slice none 0 0,slice none 0 0,int i64 0,bool false,int i64 0] 30)):w.cell? ⟨q,0,none⟩=some (slice none 0 0)∧w.cell? ⟨q,1,none⟩=some (slice none 0 0)∧w.cell? ⟨q,2,none⟩=some (slice none 0 0)∧w.cell? ⟨q,3,none⟩=some (int i64 0)∧w.cell? ⟨q,4,none⟩=some (bool false)∧w.cell? ⟨q,5,none⟩=some (int i64 0)∧w.frozen? ⟨q,0,none⟩=false∧w.frozen? ⟨q,1,none⟩=false∧w.frozen? ⟨q,2,none⟩=false∧w.frozen? ⟨q,3,none⟩=false∧w.frozen? ⟨q,4,none⟩=false∧w.frozen? ⟨q,5,none⟩=false:=by
 refine⟨?_,?_,?_,?_,?_,?_,?_,?_,?_,?_,?_,?_⟩
 all_goals first|(unfold cell?;rw[h];rfl)|(unfold frozen?;rw[h];rfl)
theorem zGo:∃w2,w2=(w.alloc (.cells #[int i64 st,int i64 ho,bool fo] 58)).alloc (.cells #[slice none 0 0,slice none 0 0,slice none 0 0,int i64 0,bool false,int i64 0] 30)∧Hid (∀w3,Keep (w.heap.size+2) (w.heap.size+2) w2 w3->w3.heap[w.heap.size+1]? =some (.cells #[slice none 0 0,slice none 0 0,slice none 0 0,int i64 0,bool false,int i64 0] 30)∧w3.cell? ⟨w.heap.size,0,none⟩=some (int i64 st)∧w3.cell? ⟨w.heap.size,1,none⟩=some (int i64 ho)∧w3.cell? ⟨w.heap.size,2,none⟩=some (bool fo)∧Grew w w3):=⟨_,rfl,fun w3 hk=>zGP hk⟩
theorem zEw (hb:st<1∨1<=st∧200<st∨1<=st∧st<=200∧ho<1∨1<=st∧st<=200∧1<=ho∧64<ho):Calls prog 30 #[string s,agg #[int i64 st,int i64 ho,bool fo]] w (zIN w 0 6):=by
 obtain⟨w2,hw2,HK1⟩:=zGo w st ho fo;have HZ2:Hid (w2.heap.size=w.heap.size+2):=by show _=_;rw[hw2];simp
 go_in;apply wp_cut;intro K0 J;go_wp2_with fail;apply J.out;clear J;rw[<-hw2];clear hw2;obtain⟨hB,l0,l1,l2,hkk⟩:=HK1.out w2 (Keep.refl _ _ _);obtain⟨r0,r1,r2,r3,r4,r5,g0,g1,g2,g3,g4,g5⟩:=jC hB;obtain⟨w7,hw7,z0,z1,z2,z3,z4,z5,HZ⟩:=zDs w w2 (slice none 0 0) (slice none 0 0) (slice none 0 0) (int i64 0) (bool false) (int i64 (0)) hB hkk;clear hB hkk;rcases hb with h1|⟨h1,h2⟩|⟨h1,h2,h3⟩|⟨h1,h2,h3,h4⟩
 all_goals
  go_wp2;rw[<-hw7];refine dZ (v:=tuple #[pointer none,agg #[slice none 0 0,slice none 0 0,slice none 0 0,int i64 0,bool false,int i64 (0)],int i64 6]) (by simp[results,results30,go_sem,z0,z1,z2,z3,z4,z5]) rfl ?_;exact⟨HZ.out.1,rfl⟩
theorem zMu (hs:s.size<=1048576)(h1:1<=st)(h2:st<=200)(h3:1<=ho)(h4:ho<=64)(n k:Nat)(hk0:k≠0)(hsp:vR s=.inr (n,k)):Calls prog 30 #[string s,agg #[int i64 st,int i64 ho,bool fo]] w (zIN w n k):=by
 obtain⟨w2,hw2,HK1⟩:=zGo w st ho fo;have HZ2:Hid (w2.heap.size=w.heap.size+2):=by show _=_;rw[hw2];simp
 have HRD:Hid (Ca 43 #[string s] w2 (zEz w2 (1+6*s.size) (.inr (n,k)))):=by have:=zAA w2 s hs;rw[hsp] at this;exact this
 have ek:((k:Int) != 0)=true:=by simp;omega
 clear hsp hk0;go_in;apply wp_cut;intro K0 J;go_wp2_with fail;apply J.out;clear J;rw[<-hw2];clear hw2;obtain⟨-,p0,p1,p2,-⟩:=HK1.out w2 (Keep.refl _ _ _);apply wp_cut;intro K0 J;go_wp2;apply J.out;clear J;clear p0 p1 p2;apply wp_cut;intro K0 J;go_wp2_with (first|(go_at_call 43;refine HRD.out.mono ?_;rintro e w3 ⟨hk3,rfl⟩))
 apply J.out;clear J;obtain⟨w4,hw4,K4⟩:∃w4,w4=w3.alloc (.cells #[slice none 0 0,slice none 0 0,slice none 0 0] 79)∧Hid (Keep (w.heap.size+2) (w.heap.size+2) w2 w4):=by
  have h5:Keep (w.heap.size+2) (w.heap.size+2) w2 w3:=by rw[<-HZ2.out];exact hk3
  refine⟨_,rfl,h5.trans (kZ _ _ (by have:=hk3.size;rw[HZ2.out] at this;omega))⟩
 rw[<-hw4];clear hw4 hk3;obtain⟨hB,l0,l1,l2,hkk⟩:=HK1.out w4 (K4.out);obtain⟨r0,r1,r2,r3,r4,r5,g0,g1,g2,g3,g4,g5⟩:=jC hB;obtain⟨w7,hw7,z0,z1,z2,z3,z4,z5,HZ⟩:=zDs w w4 (slice none 0 0) (slice none 0 0) (slice none 0 0) (int i64 0) (bool false) (int i64 ((n:Int))) hB hkk;clear hB hkk;go_wp2;rw[<-hw7];refine dZ (v:=tuple #[pointer none,agg #[slice none 0 0,slice none 0 0,slice none 0 0,int i64 0,bool false,int i64 ((n:Int))],int i64 (k:Int)]) (by simp[results,results30,go_sem,z0,z1,z2,z3,z4,z5]) rfl ?_;exact⟨HZ.out.1,rfl⟩
end
section
variable {w w2:World} {D:Nat} {mv av pv:Value} {sh:Sh} (h:SpecIs w D mv av pv sh) (hk:Grew w w2)
theorem SpecIs.grown (h:SpecIs w D mv av pv sh)(hk:Grew w w2):SpecIs w2 D mv av pv sh:=by
 obtain⟨X,S,dv,qv,rv,ps,dp,hS⟩:=h.sheet;exact⟨⟨X,S,dv,qv,rv,ps,dp,hS.grown hk⟩,(h.pushes.keep fun b hb=>hk.block b hb (kJ hb)).mono fun b hb=>lZ hb hk.size,h.ok,h.few,h.there,h.have_,h.fit⟩
theorem SpecIs.forms (h:SpecIs w D mv av pv sh):(∃a c,mv=slice a sh.modes.length c)∧(∃a c,av=slice a sh.acts.length c)∧∃a c,pv=slice a sh.pushed.length c:=by
 obtain⟨X,S,dv,qv,rv,ps,dp,hS⟩:=h.sheet;obtain⟨ap,cp,hpv,-⟩:=h.pushes;rw[yR] at hpv;exact⟨zG hS.mOwn,zG hS.aOwn,ap,cp,hpv⟩
theorem SpecIs.acts (h:SpecIs w D mv av pv sh):Ints w (In w) av (ints sh.acts):=by
 obtain⟨X,S,dv,qv,rv,ps,dp,hS⟩:=h.sheet;have h1:w.ownsRow (S+1) 3 1 av (ints sh.acts).length ((ints sh.acts).map fun x=>int i64 x):=by
  rw[zN];unfold ints;rw[List.map_map];exact hS.aOwn
 exact zBM h1 fun g hg=>(h1.lt g hg).2
theorem zJv (w:World)(s:ByteArray)(fo:Bool)(hs:s.size<=1048576)(m h:Nat)(h1:1<=m)(h2:m<=200)(h3:1<=h)(h4:h<=64)(sh:Sh)(hsp:vR s=.inl sh)(hmo:xR (1+6*s.size) sh sh.modes.length 0 m=none):Calls prog 30 #[string s,agg #[int i64 (m:Int),int i64 (h:Int),bool fo]] w (zIN w 0 5):=by
 obtain⟨w2,hw2,HK1⟩:∃w2,w2=(w.alloc (.cells #[int i64 (m:Int),int i64 (h:Int),bool fo] 58)).alloc (.cells #[slice none 0 0,slice none 0 0,slice none 0 0,int i64 0,bool false,int i64 0] 30)∧Hid (∀w3,Keep (w.heap.size+2) (w.heap.size+2) w2 w3->w3.heap[w.heap.size+1]? =some (.cells #[slice none 0 0,slice none 0 0,slice none 0 0,int i64 0,bool false,int i64 0] 30)∧w3.cell? ⟨w.heap.size,0,none⟩=some (int i64 (m:Int))∧w3.cell? ⟨w.heap.size,1,none⟩=some (int i64 (h:Int))∧w3.cell? ⟨w.heap.size,2,none⟩=some (bool fo)∧Grew w w3):=⟨_,rfl,fun w3 hk=>zGP hk⟩
 have HZ2:Hid (w2.heap.size=w.heap.size+2):=by show _=_;rw[hw2];simp
 have HRD:Hid (Ca 43 #[string s] w2 (zEz w2 (1+6*s.size) (.inl sh))):=by have:=zAA w2 s hs;rw[hsp] at this;exact this
 have k1:(1:Int)<=(m:Int):=by omega
 have k2:(m:Int)<=200:=by omega
 have k3:(1:Int)<=(h:Int):=by omega
 have k4:(h:Int)<=64:=by omega
 have HMO:Hid (∀w4 mv av pv,SpecIs w4 (1+6*s.size) mv av pv sh->Ca 44 #[agg #[mv,av,pv],int i64 (m:Int)] w4 (zMS w4 (none))):=fun w4 mv av pv h=>by have:=zCq w4 (1+6*s.size) mv av pv sh h m h2;rw[hmo] at this;exact this
 clear hsp hmo;go_in;apply wp_cut;intro K0 J;go_wp2;apply J.out;clear J;rw[<-hw2];clear hw2;obtain⟨-,p0,p1,p2,-⟩:=HK1.out w2 (Keep.refl _ _ _);apply wp_cut;intro K0 J;go_wp2;apply J.out;clear J;clear p0 p1 p2;apply wp_cut;intro K0 J;go_wp2_with (first|(go_at_call 43;refine HRD.out.mono ?_;rintro e w3 ⟨hk3,mv,av,pv,rfl,hsi⟩;obtain⟨⟨am,cm,e1⟩,⟨aa,ca,e2⟩,⟨ap,cp,e3⟩⟩:=hsi.forms;subst e1 e2 e3))
 apply J.out;clear J;obtain⟨w4,hw4,y0,y1,y2,K4⟩:∃w4,w4=w3.alloc (.cells #[slice am sh.modes.length cm,slice aa sh.acts.length ca,slice ap sh.pushed.length cp] 79)∧w4.cell? ⟨w3.heap.size,0,none⟩=some (slice am sh.modes.length cm)∧w4.cell? ⟨w3.heap.size,1,none⟩=some (slice aa sh.acts.length ca)∧w4.cell? ⟨w3.heap.size,2,none⟩=some (slice ap sh.pushed.length cp)∧Hid (Keep (w.heap.size+2) (w.heap.size+2) w2 w4∧SpecIs w4 (1+6*s.size) (slice am sh.modes.length cm) (slice aa sh.acts.length ca) (slice ap sh.pushed.length cp) sh∧w3.heap.size<w4.heap.size∧w.heap.size+2<=w4.heap.size):=by
  have h5:Keep (w.heap.size+2) (w.heap.size+2) w2 w3:=by rw[<-HZ2.out];exact hk3
  have h6:w.heap.size+2<=w3.heap.size:=by have:=hk3.size;rw[HZ2.out] at this;exact this
  have hn:=gJ w3 (.cells #[slice am sh.modes.length cm,slice aa sh.acts.length ca,slice ap sh.pushed.length cp] 79);refine⟨_,rfl,?_,?_,?_,h5.trans (kZ _ _ h6),hsi.grown (kZ _ _ lQ),by simp,by simp;omega⟩
  all_goals (unfold cell?;rw[hn];rfl)
 rw[<-hw4];clear hw4 hk3 hsi HRD;apply wp_cut;intro K0 J;go_wp2;apply J.out;clear J;obtain⟨-,l0,-,-,-⟩:=HK1.out w4 K4.out.1;obtain⟨B,hB⟩:∃B,B=w3.heap.size:=⟨_,rfl⟩
 have HBL:Hid (B<w4.heap.size):=by show B<_;rw[hB];exact K4.out.2.2.1
 rw[<-hB] at y0 y1 y2 ⊢;clear hB;go_wp2_with (first|(go_at_call 44;refine(HMO.out w4 _ _ _ K4.out.2.1).mono ?_;rintro e w5 ⟨hk5,rfl⟩;obtain⟨hB,l0,l1,l2,hkk⟩:=HK1.out w5 (K4.out.1.trans (hk5.lower K4.out.2.2.2 K4.out.2.2.2));obtain⟨r0,r1,r2,r3,r4,r5,g0,g1,g2,g3,g4,g5⟩:=jC hB;obtain⟨w7,hw7,z0,z1,z2,z3,z4,z5,HZ⟩:=zDs w w5 (slice none 0 0) (slice none 0 0) (slice none 0 0) (int i64 0) (bool false) (int i64 (0)) hB hkk;clear hB hkk))
 rw[<-hw7];refine dZ (v:=tuple #[pointer none,agg #[slice none 0 0,slice none 0 0,slice none 0 0,int i64 0,bool false,int i64 (0)],int i64 5]) (by simp[results,results30,go_sem,z0,z1,z2,z3,z4,z5]) rfl ?_;exact⟨HZ.out.1,rfl⟩
end
theorem zEr (w2:World)(q:Nat)(a0 a1 a2 a3 a4 a5:Value)(hB:w2.heap[q]? =some (.cells #[slice none 0 0,slice none 0 0,slice none 0 0,int i64 0,bool false,int i64 0] 30)):
  ∃w3:World,w3=((((((w2.setCell ⟨q,0,none⟩ a0).setCell ⟨q,1,none⟩ a1).setCell ⟨q,2,none⟩ a2).setCell ⟨q,3,none⟩ a3).setCell ⟨q,4,none⟩ a4).setCell ⟨q,5,none⟩ a5)∧w3.heap[q]? =some (.cells #[a0,a1,a2,a3,a4,a5] 30)∧w3.heap.size=w2.heap.size∧w3.os=w2.os∧w3.output=w2.output∧∀k,k≠q->w3.heap[k]? =w2.heap[k]? :=by
 obtain⟨x1,e1,c1,z1,o1,u1,n1⟩:=qR w2 q 0 a0 _ _ hB;have b1:=c1;obtain⟨x2,e2,c2,z2,o2,u2,n2⟩:=qR x1 q 1 a1 _ _ b1;have b2:=c2;obtain⟨x3,e3,c3,z3,o3,u3,n3⟩:=qR x2 q 2 a2 _ _ b2;have b3:=c3;obtain⟨x4,e4,c4,z4,o4,u4,n4⟩:=qR x3 q 3 a3 _ _ b3;have b4:=c4;obtain⟨x5,e5,c5,z5,o5,u5,n5⟩:=qR x4 q 4 a4 _ _ b4;have b5:=c5;obtain⟨x6,e6,c6,z6,o6,u6,n6⟩:=qR x5 q 5 a5 _ _ b5;have b6:=c6;exact⟨x6,by rw[e6,e5,e4,e3,e2,e1],b6,by omega,o6.trans (o5.trans (o4.trans (o3.trans (o2.trans o1)))),u6.trans (u5.trans (u4.trans (u3.trans (u2.trans u1)))),fun i hi=>(n6 i hi).trans ((n5 i hi).trans ((n4 i hi).trans ((n3 i hi).trans ((n2 i hi).trans (n1 i hi)))))⟩
theorem zMv (w w9:World)(post:Ending->World->Prop)(p R:Nat)(m0 s0 v0:Option Addr)(m1 m2 s1 s2 v1 v2:Nat)(AH:Int)(ST:Bool)(hB:w9.heap[w.heap.size+1]? =some (.cells #[slice none 0 0,slice none 0 0,slice none 0 0,int i64 0,bool false,int i64 0] 30))(hR:R≠w.heap.size+1)(hRl:R<w9.heap.size)
  (x0:w9.cell? ⟨R,0,none⟩=some (slice m0 m1 m2)) (x1:w9.cell? ⟨R,1,none⟩=some (slice s0 s1 s2)) (x2:w9.cell? ⟨R,2,none⟩=some (slice v0 v1 v2)) (x3:w9.cell? ⟨R,3,none⟩=some (int i64 AH)) (x4:w9.cell? ⟨R,4,none⟩=some (bool ST)) (x5:w9.cell? ⟨R,5,none⟩=some (int i64 0))
  (hfin:∀wz L,wz.os=w9.os->wz.output=w9.output->w9.heap.size<=L->L<wz.heap.size->(∀k,k<w9.heap.size->k≠w.heap.size+1->wz.heap[k]? =w9.heap[k]?)->wz.cell? ⟨L,0,none⟩=some (pointer (some ⟨p,0,none⟩))->post (returned (tuple #[pointer (some ⟨L,0,none⟩),agg #[slice m0 m1 m2,slice s0 s1 s2,slice v0 v1 v2,int i64 AH,bool ST,int i64 0],int i64 0])) wz)
  {u0 u1 u2 u3 u4 u6 u7 u8 u9 u10 u11 u14 u15 u16 u17 u18 u19 u20 u21 u22 u23 u24 u25 u26 u27 u28 u29 u30 u31 u32 u33 u34 u35 u36 u37 u38 u39 u40 u41 u42 u43 u44 u45 u46 u47 u48 u49 u50 u51 u52 u53 u54 u55 u56 u57 u58 u59 u60 u61 u62 u63 u64 u65 u66 u67 u68 u69 u70 u71 u72 u73 u74 u75 u76 u77 u78 u79:Value}:
  Code.wp prog (yS 9 ((f30.body).getD .skip)) (bodyPost prog f30 post) ⟨(u0::u1::u2::u3::u4::pointer (some ⟨w.heap.size+1,0,none⟩)::u6::u7::u8::u9::u10::u11::pointer (some ⟨p,0,none⟩)::pointer (some ⟨R,0,none⟩)::u14::u15::u16::u17::u18::u19::u20::u21::u22::u23::u24::u25::u26::u27::u28::u29::u30::u31::u32::u33::u34::u35::u36::u37::u38::u39::u40::u41::u42::u43::u44::u45::u46::u47::u48::u49::u50::u51::u52::u53::u54::u55::u56::u57::u58::u59::u60::u61::u62::u63::u64::u65::u66::u67::u68::u69::u70::u71::u72::u73::u74::u75::u76::u77::u78::u79::[]).toArray,[]⟩ w9:=by
 conv=>arg 2;whnf
 obtain⟨r0,r1,r2,r3,r4,r5,g0,g1,g2,g3,g4,g5⟩:=jC hB;have hbl:w.heap.size+1<w9.heap.size:=(kQ.1 hB).1;have HB:=vl hB;have HFI:=vl hfin;generalize w.heap.size+1=Q at *;have q0:(w9.alloc (Obj.cells #[pointer (some ⟨p,0,none⟩)] 93)).cell? ⟨Q,0,none⟩=some (slice none 0 0):=(dX _ _ _ hbl).trans r0;have f0:(w9.alloc (Obj.cells #[pointer (some ⟨p,0,none⟩)] 93)).frozen? ⟨Q,0,none⟩=false:=(frozen?_alloc_past _ _ _ hbl).trans g0;have q1:(w9.alloc (Obj.cells #[pointer (some ⟨p,0,none⟩)] 93)).cell? ⟨Q,1,none⟩=some (slice none 0 0):=(dX _ _ _ hbl).trans r1;have f1:(w9.alloc (Obj.cells #[pointer (some ⟨p,0,none⟩)] 93)).frozen? ⟨Q,1,none⟩=false:=(frozen?_alloc_past _ _ _ hbl).trans g1;have q2:(w9.alloc (Obj.cells #[pointer (some ⟨p,0,none⟩)] 93)).cell? ⟨Q,2,none⟩=some (slice none 0 0):=(dX _ _ _ hbl).trans r2;have f2:(w9.alloc (Obj.cells #[pointer (some ⟨p,0,none⟩)] 93)).frozen? ⟨Q,2,none⟩=false:=(frozen?_alloc_past _ _ _ hbl).trans g2;have q3:(w9.alloc (Obj.cells #[pointer (some ⟨p,0,none⟩)] 93)).cell? ⟨Q,3,none⟩=some (int i64 0):=(dX _ _ _ hbl).trans r3;have f3:(w9.alloc (Obj.cells #[pointer (some ⟨p,0,none⟩)] 93)).frozen? ⟨Q,3,none⟩=false:=(frozen?_alloc_past _ _ _ hbl).trans g3;have q4:(w9.alloc (Obj.cells #[pointer (some ⟨p,0,none⟩)] 93)).cell? ⟨Q,4,none⟩=some (bool false):=(dX _ _ _ hbl).trans r4;have f4:(w9.alloc (Obj.cells #[pointer (some ⟨p,0,none⟩)] 93)).frozen? ⟨Q,4,none⟩=false:=(frozen?_alloc_past _ _ _ hbl).trans g4;have q5:(w9.alloc (Obj.cells #[pointer (some ⟨p,0,none⟩)] 93)).cell? ⟨Q,5,none⟩=some (int i64 0):=(dX _ _ _ hbl).trans r5;have f5:(w9.alloc (Obj.cells #[pointer (some ⟨p,0,none⟩)] 93)).frozen? ⟨Q,5,none⟩=false:=(frozen?_alloc_past _ _ _ hbl).trans g5;have y0:(w9.alloc (Obj.cells #[pointer (some ⟨p,0,none⟩)] 93)).cell? ⟨R,0,none⟩=some (slice m0 m1 m2):=(dX _ _ _ hRl).trans x0;have y1:(w9.alloc (Obj.cells #[pointer (some ⟨p,0,none⟩)] 93)).cell? ⟨R,1,none⟩=some (slice s0 s1 s2):=(dX _ _ _ hRl).trans x1;have y2:(w9.alloc (Obj.cells #[pointer (some ⟨p,0,none⟩)] 93)).cell? ⟨R,2,none⟩=some (slice v0 v1 v2):=(dX _ _ _ hRl).trans x2;have y3:(w9.alloc (Obj.cells #[pointer (some ⟨p,0,none⟩)] 93)).cell? ⟨R,3,none⟩=some (int i64 AH):=(dX _ _ _ hRl).trans x3;have y4:(w9.alloc (Obj.cells #[pointer (some ⟨p,0,none⟩)] 93)).cell? ⟨R,4,none⟩=some (bool ST):=(dX _ _ _ hRl).trans x4;have y5:(w9.alloc (Obj.cells #[pointer (some ⟨p,0,none⟩)] 93)).cell? ⟨R,5,none⟩=some (int i64 0):=(dX _ _ _ hRl).trans x5;apply wp_cut;intro K0 J;go_region
 all_goals
  obtain⟨wa,hwa,hblk,hz,ho,hu,hne⟩:=zEr w9 Q (slice m0 m1 m2) (slice s0 s1 s2) (slice v0 v1 v2) (int i64 AH) (bool ST) (int i64 0) HB.out;rw[<-hwa];obtain⟨wz,hwz,d0,d1,d2,d3,d4,d5,HW⟩:∃wz,wz=(wa.alloc (Obj.cells #[pointer (some ⟨p,0,none⟩)] 93)).drew∧wz.cell? ⟨Q,0,none⟩=some (slice m0 m1 m2)∧wz.cell? ⟨Q,1,none⟩=some (slice s0 s1 s2)∧wz.cell? ⟨Q,2,none⟩=some (slice v0 v1 v2)∧wz.cell? ⟨Q,3,none⟩=some (int i64 AH)∧wz.cell? ⟨Q,4,none⟩=some (bool ST)∧wz.cell? ⟨Q,5,none⟩=some (int i64 0)∧Hid (wz.os=w9.os∧wz.output=w9.output∧w9.heap.size<wz.heap.size∧(∀k,k<w9.heap.size->k≠Q->wz.heap[k]? =w9.heap[k]?)∧wz.cell? ⟨w9.heap.size,0,none⟩=some (pointer (some ⟨p,0,none⟩))):=by
   have hn:=gJ wa (Obj.cells #[pointer (some ⟨p,0,none⟩)] 93);rw[hz] at hn;have hb2:(wa.alloc (Obj.cells #[pointer (some ⟨p,0,none⟩)] 93)).drew.heap[Q]? =some (.cells #[slice m0 m1 m2,slice s0 s1 s2,slice v0 v1 v2,int i64 AH,bool ST,int i64 0] 30):=(lG _ _ _ (by omega)).trans hblk;have hn2:(wa.alloc (Obj.cells #[pointer (some ⟨p,0,none⟩)] 93)).drew.heap[w9.heap.size]? =some (Obj.cells #[pointer (some ⟨p,0,none⟩)] 93):=hn;refine⟨_,rfl,?_,?_,?_,?_,?_,?_,ho,hu,?_,fun k k1 k2=>(lG _ _ _ (by omega)).trans (hne k k2),?_⟩
   ·unfold cell?;rw[hb2];rfl
   ·unfold cell?;rw[hb2];rfl
   ·unfold cell?;rw[hb2];rfl
   ·unfold cell?;rw[hb2];rfl
   ·unfold cell?;rw[hb2];rfl
   ·unfold cell?;rw[hb2];rfl
   ·show w9.heap.size<(wa.alloc _).heap.size
    simp;omega
   ·unfold cell?;rw[hn2];rfl
  rw[<-hwz];show K0 _ _;apply J.out;go_wp2;refine dZ (v:=tuple #[pointer (some ⟨w9.heap.size,0,none⟩),agg #[slice m0 m1 m2,slice s0 s1 s2,slice v0 v1 v2,int i64 AH,bool ST,int i64 0],int i64 0]) (by simp[results,results30,go_sem,d0,d1,d2,d3,d4,d5]) rfl ?_;exact HFI.out wz w9.heap.size HW.out.1 HW.out.2.1 lQ HW.out.2.2.1 HW.out.2.2.2.1 HW.out.2.2.2.2
end Go.Proofs.YtbjcfkdnjaiclaaGreat
