import Derived.Test.YtbjcfkdnjaiclaaGreatB0
import Derived.Test.YtbjcfkdnjaiclaaGreatB15
/- Parts of the proof, in order. -/
set_option linter.unusedVariables false
set_option linter.unusedSimpArgs false
set_option maxHeartbeats 4000000
set_option maxRecDepth 100000
namespace Go.Proofs.YtbjcfkdnjaiclaaGreat
open Go.RowKit Go.Proofs.Tryz Go.World
theorem zCr (w0 w:World)(mb kb most:Nat)(m:Mk)(h:MwIs w0 w mb kb most m)(hmost:most<=1000000)(fit:m.Fit most)(k:Kd)(a:Ar)(hK:KdAt w0 kb a k)(ok:k.Ok a)(kind:Nat)(hk:kind<k.rows.length)(hof:m.of.length=k.rows.length)(low:Nat)(hlow:low<=1400000):
  Calls prog 136 #[.pointer (some ⟨mb,0,none⟩),.int .i64 (kind:Int),.int .i64 (low:Int),.int .i64 64] w fun e w'=>e=.returned (.int .i64 (zU k a most kind 1 m low).1)∧MwIs w0 w' mb kb most (zU k a most kind 1 m low).2∧StayT w w':=by
 have HDEF:Hid (zU k a most kind 1 m low=jG k a most kind 2 64 (zU k a most kind 0) m low):=rfl;have HTM:Hid (Tame most (zU k a most kind 0)):=zAb k a most kind 0;have HH:Hid (MwIs w0 w mb kb most m):=h;obtain⟨nv,rv,ov,gs,hM0⟩:=h;have hK2:=hK.grown hM0.keep;obtain⟨hkl,lv,tv,sv,kn,kr,hkb,hka,-,-⟩:=hK2;obtain⟨al,cl,hal,-⟩:=id hka.lows;obtain⟨at_,ct,hat,-⟩:=id hka.letters;obtain⟨as_,cs,has,-⟩:=id hka.sets;have HAL:Hid (∀y:Int,y=((low+64*64-1:Nat):Int)->Calls prog 177 #[.agg #[lv,tv,sv],.int .i64 (low:Int),.int .i64 y] w fun e w'=>e=.returned (.bool (a.alike (low:Int) ((low+64*64-1:Nat):Int)))∧Grew w w'):=by
  rintro y rfl;exact zB1 w lv tv sv a hka ok.few _ _
 have x0:=hM0.cells.1;have k0:w.cell? ⟨kb,0,none⟩=some lv:=by unfold cell?;rw[hkb];rfl
 have k1:w.cell? ⟨kb,1,none⟩=some tv:=by unfold cell?;rw[hkb];rfl
 have k2:w.cell? ⟨kb,2,none⟩=some sv:=by unfold cell?;rw[hkb];rfl
 subst hal hat has;obtain⟨T,hT⟩:∃T:Int,T=2048:=⟨_,rfl⟩
 have HT:Hid (T=2048):=hT;have HLE:Hid (∀w,Calls prog 176 #[.int .i64 64] w fun e w'=>e=.returned (.int .i64 T)∧w'=w):=fun w=>by rw[hT];exact zBQ w 64 (by omega)
 clear hT;have HBH:Hid (∀w2,Grew w w2->Calls prog 134 #[.pointer (some ⟨mb,0,none⟩),.int .i64 (kind:Int),.int .i64 (low:Int)] w2 fun e w'=>e=.returned (.int .i64 (m.behind k a kind (low:Int)))∧Grew w2 w'):=fun w2 hk2=>zAc w0 w2 mb kb most m (HH.out.grown hk2) k a hK ok kind hk hof (low:Int);have HEV:Hid (∀w2 to,Grew w w2->Calls prog 178 #[.pointer (some ⟨mb,0,none⟩),.int .i64 to,.int .i64 64] w2 fun e w'=>e=.returned (.int .i64 (Mk.even most 2 m to).1)∧MwIs w0 w' mb kb most (Mk.even most 2 m to).2∧StayT w2 w'):=fun w2 to hk2=>zCJ w0 w2 mb kb most m (HH.out.grown hk2) hmost fit to 2 (by omega);have HSUB:Hid (∀wr m2,MwIs w0 wr mb kb most m2->m2.Fit most->m2.of.length=k.rows.length->∀c:Nat,c<=low+64*64->∀y:Int,y=(c:Int)->Calls prog 136 #[.pointer (some ⟨mb,0,none⟩),.int .i64 (kind:Int),.int .i64 y,.int .i64 1] wr fun e w'=>e=.returned (.int .i64 ((zU k a most kind 0) m2 c).1)∧MwIs w0 w' mb kb most ((zU k a most kind 0) m2 c).2∧StayT wr w'):=by
  rintro wr m2 hM hF hof2 c hc y rfl;exact zCs w0 wr mb kb most m2 hM hmost hF k a hK ok kind hk hof2 c (by omega)
 have HFIT:Hid (m.Fit most∧m.of.length=k.rows.length):=⟨fit,hof⟩
 clear hM0 hkb hka hK ok hk hof fit;generalize a.lows.length=q0 at *;generalize a.letters.length=q1 at *;generalize a.sets.length=q2 at *;generalize hsub:(zU k a most kind 0)=sub at *;clear hsub;have HNO:Hid (¬(2048<=low∧a.alike (low:Int) ((low+64*64-1:Nat):Int)=true)->zU k a most kind 1 m low=yO most (xD sub 64 low m 64)):=fun hn=>by
  rw[HDEF.out];exact if_neg hn
 have HYES:Hid (2048<=low->a.alike (low:Int) ((low+64*64-1:Nat):Int)=true->zU k a most kind 1 m low=Mk.even most 2 m (m.behind k a kind (low:Int))):=fun h1 h2=>by
  rw[HDEF.out];exact if_pos ⟨h1,h2⟩
 have HX0:Hid (xD sub 64 low m 0=(fun _=>0,m)):=rfl;have HXS:Hid (∀j,xD sub 64 low m (j+1)=if low+j*64<2048 then(fun i=>if i=j then 0 else(xD sub 64 low m j).1 i,(xD sub 64 low m j).2) else(fun i=>if i=j then(sub (xD sub 64 low m j).2 (low+j*64)).1 else(xD sub 64 low m j).1 i,(sub (xD sub 64 low m j).2 (low+j*64)).2)):=fun j=>rfl;have HXT:Hid (∀j,(xD sub 64 low m j).2.Fit most∧(xD sub 64 low m j).2.of=m.of):=fun j=>zCV HTM.out 64 low HFIT.out.1 j;clear HDEF;generalize xD sub 64 low m=SX at *;generalize hal2:a.alike (low:Int) ((low+64*64-1:Nat):Int)=AL at *;have hcase:(¬(2048<=low))∨(2048<=low∧AL=false)∨(2048<=low∧AL=true):=by
  by_cases h1:2048<=low
  ·cases AL
   ·exact .inr (.inl ⟨h1,rfl⟩)
   ·exact .inr (.inr ⟨h1,rfl⟩)
  ·exact .inl h1
 rcases hcase with hc|⟨hc,hAL⟩|⟨hc,hAL⟩;rotate_left 2
 ·subst hAL
  have HZ:Hid (zU k a most kind 1 m low=Mk.even most 2 m (m.behind k a kind (low:Int))):=HYES.out hc rfl;have i1:(low:Int)>=T:=by rw[HT.out];omega
  clear HNO HYES HSUB HTM hal2 hc;generalize m.behind k a kind (low:Int)=bh at *;go_enter func136,ntmps136
  go_wp2_with (first|(go_at_call 176;refine(HLE.out _).mono ?_;rintro e w9 ⟨rfl,hw9⟩;have hw8:=hw9.symm;subst hw8)|(go_at_call 177;refine(HAL.out _ (by omega)).mono ?_;rintro e w2 ⟨rfl,hk2⟩)|(go_at_call 134;refine(HBH.out w2 hk2).mono ?_;rintro e w3 ⟨rfl,hk3⟩;have hk4:=hk2.trans (hk3.lower hk2.size hk2.size))|(go_at_call 178;refine(HEV.out w3 bh hk4).mono ?_;rintro e w5 ⟨rfl,hM5,hS5⟩))
  go_ret;exact⟨by rw[HZ.out];rfl,by rw[HZ.out];exact hM5,StayT.trans hk4.stayT hS5⟩
 ·have HZ:Hid (zU k a most kind 1 m low=yO most (SX 64)):=HNO.out fun h1=>hc h1.1
  have i1:(low:Int)<T:=by rw[HT.out];omega
  clear HNO HYES hal2 HEV HBH hc;go_enter func136,ntmps136
  go_wp2_with (first|(go_at_call 176;refine(HLE.out _).mono ?_;rintro e w9 ⟨rfl,hw9⟩;have hw8:=hw9.symm;subst hw8))
  have K2:Grew w w:=Keep.refl _ _ _;rw[<-zCv];have HX:Hid (Bx w0 w (w.alloc (.cells (a64 fun _=>0) 246)) mb kb most m w.heap.size (fun _=>0)):=Bx.start HH.out w K2.stayT (HH.out.grown K2) K2.size;clear K2 HAL k0 k1 k2 x0 i1;generalize w.alloc (.cells (a64 fun _=>0) 246)=w3 at *;generalize w.heap.size=b at *;go_loopg [39] 64 (fun q i wr=>∃j:Nat,q=64-j∧j<=64∧i=.int .i64 (j:Int)∧Bx w0 w wr mb kb most (SX j).2 b (SX j).1)
  case atStart=>exact⟨0,rfl,Nat.zero_le _,rfl,by rw[HX0.out];exact HX.out⟩
  case round=>
   obtain⟨j,hgk,hj,rfl,hX⟩:=hrel;have HB:Hid (gk=64-j∧Bx w0 w wr mb kb most (SX j).2 b (SX j).1):=⟨hgk,hX⟩
   have HTJ:=HXT.out j;by_cases hj2:j<64
   ·have i2:(j:Int)<64:=by omega
    obtain⟨y1,z1⟩:=hX.cell j hj2;have HC:Hid (∀y:Int,y=((low+j*64:Nat):Int)->Calls prog 136 #[.pointer (some ⟨mb,0,none⟩),.int .i64 (kind:Int),.int .i64 y,.int .i64 1] wr fun e w'=>e=.returned (.int .i64 (sub (SX j).2 (low+j*64)).1)∧MwIs w0 w' mb kb most (sub (SX j).2 (low+j*64)).2∧StayT wr w'):=HSUB.out wr _ hX.ma HTJ.1 (by rw[HTJ.2];exact HFIT.out.2) (low+j*64) (by omega);have HS:Hid (SX (j+1)=if low+j*64<2048 then(fun i=>if i=j then 0 else(SX j).1 i,(SX j).2) else(fun i=>if i=j then(sub (SX j).2 (low+j*64)).1 else(SX j).1 i,(sub (SX j).2 (low+j*64)).2)):=HXS.out j;by_cases hcl:low+j*64<2048
    ·have HX2:Hid (Bx w0 w (wr.setCell ⟨b,j,none⟩ (.int .i64 0)) mb kb most (SX (j+1)).2 b (SX (j+1)).1):=by
      have h:=hX.set j hj2 0;show Bx _ _ _ _ _ _ (SX (j+1)).2 _ (SX (j+1)).1;rw[HS.out,if_pos hcl];exact h
     have i3:(low:Int)+(j:Int)*64<T:=by rw[HT.out];omega
     clear hgk hX hcl HC HS;generalize (SX j).1 j=old at *;go_wp2_with (first|(go_at_call 176;refine(HLE.out _).mono ?_;rintro e w9 ⟨rfl,hw9⟩;have hw8:=hw9.symm;subst hw8))
     go_roundg (64-(j+1))
     case measure=>rw[HB.out.1];omega
     case rel=>exact⟨j+1,rfl,by omega,by go_num,HX2.out⟩
    ·have HS2:Hid (SX (j+1)=(fun i=>if i=j then(sub (SX j).2 (low+j*64)).1 else(SX j).1 i,(sub (SX j).2 (low+j*64)).2)):=by show _=_;rw[HS.out,if_neg hcl]
     have i3:T<=(low:Int)+(j:Int)*64:=by rw[HT.out];omega
     have i4:(0:Int)<=(low:Int)+(j:Int):=by omega
     clear hgk hX hcl HS HTJ HSUB;generalize (sub (SX j).2 (low+j*64)).1=r1 at *;generalize (sub (SX j).2 (low+j*64)).2=m5 at *;generalize (SX j).1 j=old at *;go_wp2_with (first|(go_at_call 176;refine(HLE.out _).mono ?_;rintro e w9 ⟨rfl,hw9⟩;have hw8:=hw9.symm;subst hw8)|(go_at_call 136;refine(HC.out _ (by omega)).mono ?_;rintro e w5 ⟨rfl,hM5,hS5⟩;have hX5:=HB.out.2.call hM5 hS5;obtain⟨y5,z5⟩:=hX5.cell j hj2;have HX5:Hid (Bx w0 w w5 mb kb most m5 b (SX j).1):=hX5;clear hX5 hM5 hS5))
     go_roundg (64-(j+1))
     case measure=>rw[HB.out.1];omega
     case rel=>
      refine⟨j+1,rfl,by omega,by go_num,?_⟩;rw[HS2.out];exact HX5.out.set j hj2 r1
   ·have i2:(64:Int)<=(j:Int):=by omega
    have e:j=64:=by omega
    subst e;have HR2:Hid (wr.rangeAt b 0 (a64 (SX 64).1).toList):=zAQ wr b _ hX.arr;have HLN:Hid ((prog.info? 246).map (·.size)=some (a64 (SX 64).1).toList.length):=zD3 _;have HW:Hid (Calls prog 179 #[.pointer (some ⟨mb,0,none⟩),.agg (a64 (SX 64).1)] wr fun e w'=>e=.returned (.int .i64 (yO most (SX 64)).1)∧MwIs w0 w' mb kb most (yO most (SX 64)).2∧StayT wr w'):=jM w0 wr mb kb most _ hX.ma hmost (by have:=HTJ.1.same;have:=HTJ.1.few;omega) (by have:=HTJ.1.few;omega) _;clear hgk hX HTJ HSUB;generalize (a64 (SX 64).1)=A at *;generalize yO most (SX 64)=wu at *;go_wp2_with (first|(refine wpList_load_mid rfl 246 (.tmp 9) rfl b 0 rfl A.toList (.array 64 3) HR2.out underlying246 rfl HLN.out ?_)|(go_at_call 179;refine HW.out.mono ?_;rintro e w5 ⟨rfl,hM5,hS5⟩))
    go_ret;exact⟨by rw[HZ.out];rfl,by rw[HZ.out];exact hM5,HB.out.2.stay.trans hS5⟩
 ·subst hAL
  have HZ:Hid (zU k a most kind 1 m low=yO most (SX 64)):=HNO.out fun h1=>absurd h1.2 (by decide);have i1:(low:Int)>=T:=by rw[HT.out];omega
  clear HNO HYES hal2 HEV HBH hc;go_enter func136,ntmps136
  go_wp2_with (first|(go_at_call 176;refine(HLE.out _).mono ?_;rintro e w9 ⟨rfl,hw9⟩;have hw8:=hw9.symm;subst hw8)|(go_at_call 177;refine(HAL.out _ (by omega)).mono ?_;rintro e w2 ⟨rfl,K2⟩))
  rw[<-zCv];have HX:Hid (Bx w0 w (w2.alloc (.cells (a64 fun _=>0) 246)) mb kb most m w2.heap.size (fun _=>0)):=Bx.start HH.out w2 K2.stayT (HH.out.grown K2) K2.size;clear K2 HAL k0 k1 k2 x0 i1;generalize w2.alloc (.cells (a64 fun _=>0) 246)=w3 at *;generalize w2.heap.size=b at *;go_loopg [39] 64 (fun q i wr=>∃j:Nat,q=64-j∧j<=64∧i=.int .i64 (j:Int)∧Bx w0 w wr mb kb most (SX j).2 b (SX j).1)
  case atStart=>exact⟨0,rfl,Nat.zero_le _,rfl,by rw[HX0.out];exact HX.out⟩
  case round=>
   obtain⟨j,hgk,hj,rfl,hX⟩:=hrel;have HB:Hid (gk=64-j∧Bx w0 w wr mb kb most (SX j).2 b (SX j).1):=⟨hgk,hX⟩
   have HTJ:=HXT.out j;by_cases hj2:j<64
   ·have i2:(j:Int)<64:=by omega
    obtain⟨y1,z1⟩:=hX.cell j hj2;have HC:Hid (∀y:Int,y=((low+j*64:Nat):Int)->Calls prog 136 #[.pointer (some ⟨mb,0,none⟩),.int .i64 (kind:Int),.int .i64 y,.int .i64 1] wr fun e w'=>e=.returned (.int .i64 (sub (SX j).2 (low+j*64)).1)∧MwIs w0 w' mb kb most (sub (SX j).2 (low+j*64)).2∧StayT wr w'):=HSUB.out wr _ hX.ma HTJ.1 (by rw[HTJ.2];exact HFIT.out.2) (low+j*64) (by omega);have HS:Hid (SX (j+1)=if low+j*64<2048 then(fun i=>if i=j then 0 else(SX j).1 i,(SX j).2) else(fun i=>if i=j then(sub (SX j).2 (low+j*64)).1 else(SX j).1 i,(sub (SX j).2 (low+j*64)).2)):=HXS.out j;by_cases hcl:low+j*64<2048
    ·have HX2:Hid (Bx w0 w (wr.setCell ⟨b,j,none⟩ (.int .i64 0)) mb kb most (SX (j+1)).2 b (SX (j+1)).1):=by
      have h:=hX.set j hj2 0;show Bx _ _ _ _ _ _ (SX (j+1)).2 _ (SX (j+1)).1;rw[HS.out,if_pos hcl];exact h
     have i3:(low:Int)+(j:Int)*64<T:=by rw[HT.out];omega
     clear hgk hX hcl HC HS;generalize (SX j).1 j=old at *;go_wp2_with (first|(go_at_call 176;refine(HLE.out _).mono ?_;rintro e w9 ⟨rfl,hw9⟩;have hw8:=hw9.symm;subst hw8))
     go_roundg (64-(j+1))
     case measure=>rw[HB.out.1];omega
     case rel=>exact⟨j+1,rfl,by omega,by go_num,HX2.out⟩
    ·have HS2:Hid (SX (j+1)=(fun i=>if i=j then(sub (SX j).2 (low+j*64)).1 else(SX j).1 i,(sub (SX j).2 (low+j*64)).2)):=by show _=_;rw[HS.out,if_neg hcl]
     have i3:T<=(low:Int)+(j:Int)*64:=by rw[HT.out];omega
     have i4:(0:Int)<=(low:Int)+(j:Int):=by omega
     clear hgk hX hcl HS HTJ HSUB;generalize (sub (SX j).2 (low+j*64)).1=r1 at *;generalize (sub (SX j).2 (low+j*64)).2=m5 at *;generalize (SX j).1 j=old at *;go_wp2_with (first|(go_at_call 176;refine(HLE.out _).mono ?_;rintro e w9 ⟨rfl,hw9⟩;have hw8:=hw9.symm;subst hw8)|(go_at_call 136;refine(HC.out _ (by omega)).mono ?_;rintro e w5 ⟨rfl,hM5,hS5⟩;have hX5:=HB.out.2.call hM5 hS5;obtain⟨y5,z5⟩:=hX5.cell j hj2;have HX5:Hid (Bx w0 w w5 mb kb most m5 b (SX j).1):=hX5;clear hX5 hM5 hS5))
     go_roundg (64-(j+1))
     case measure=>rw[HB.out.1];omega
     case rel=>
      refine⟨j+1,rfl,by omega,by go_num,?_⟩;rw[HS2.out];exact HX5.out.set j hj2 r1
   ·have i2:(64:Int)<=(j:Int):=by omega
    have e:j=64:=by omega
    subst e;have HR2:Hid (wr.rangeAt b 0 (a64 (SX 64).1).toList):=zAQ wr b _ hX.arr;have HLN:Hid ((prog.info? 246).map (·.size)=some (a64 (SX 64).1).toList.length):=zD3 _;have HW:Hid (Calls prog 179 #[.pointer (some ⟨mb,0,none⟩),.agg (a64 (SX 64).1)] wr fun e w'=>e=.returned (.int .i64 (yO most (SX 64)).1)∧MwIs w0 w' mb kb most (yO most (SX 64)).2∧StayT wr w'):=jM w0 wr mb kb most _ hX.ma hmost (by have:=HTJ.1.same;have:=HTJ.1.few;omega) (by have:=HTJ.1.few;omega) _;clear hgk hX HTJ HSUB;generalize (a64 (SX 64).1)=A at *;generalize yO most (SX 64)=wu at *;go_wp2_with (first|(refine wpList_load_mid rfl 246 (.tmp 9) rfl b 0 rfl A.toList (.array 64 3) HR2.out underlying246 rfl HLN.out ?_)|(go_at_call 179;refine HW.out.mono ?_;rintro e w5 ⟨rfl,hM5,hS5⟩))
    go_ret;exact⟨by rw[HZ.out];rfl,by rw[HZ.out];exact hM5,HB.out.2.stay.trans hS5⟩
theorem zFM (w0 w:World)(mb kb most:Nat)(m:Mk)(h:MwIs w0 w mb kb most m)(hmost:most<=1000000)(fit:m.Fit most)(k:Kd)(a:Ar)(hK:KdAt w0 kb a k)(ok:k.Ok a)(kind:Nat)(hk:kind<k.rows.length)(hof:m.of.length=k.rows.length)(low:Nat)(hlow:low<=1100000):
  Calls prog 136 #[.pointer (some ⟨mb,0,none⟩),.int .i64 (kind:Int),.int .i64 (low:Int),.int .i64 4096] w fun e w'=>e=.returned (.int .i64 (zU k a most kind 2 m low).1)∧MwIs w0 w' mb kb most (zU k a most kind 2 m low).2∧StayT w w':=by
 have HDEF:Hid (zU k a most kind 2 m low=jG k a most kind 3 4096 (zU k a most kind 1) m low):=rfl;have HTM:Hid (Tame most (zU k a most kind 1)):=zAb k a most kind 1;have HH:Hid (MwIs w0 w mb kb most m):=h;obtain⟨nv,rv,ov,gs,hM0⟩:=h;have hK2:=hK.grown hM0.keep;obtain⟨hkl,lv,tv,sv,kn,kr,hkb,hka,-,-⟩:=hK2;obtain⟨al,cl,hal,-⟩:=id hka.lows;obtain⟨at_,ct,hat,-⟩:=id hka.letters;obtain⟨as_,cs,has,-⟩:=id hka.sets;have HAL:Hid (∀y:Int,y=((low+64*4096-1:Nat):Int)->Calls prog 177 #[.agg #[lv,tv,sv],.int .i64 (low:Int),.int .i64 y] w fun e w'=>e=.returned (.bool (a.alike (low:Int) ((low+64*4096-1:Nat):Int)))∧Grew w w'):=by
  rintro y rfl;exact zB1 w lv tv sv a hka ok.few _ _
 have x0:=hM0.cells.1;have k0:w.cell? ⟨kb,0,none⟩=some lv:=by unfold cell?;rw[hkb];rfl
 have k1:w.cell? ⟨kb,1,none⟩=some tv:=by unfold cell?;rw[hkb];rfl
 have k2:w.cell? ⟨kb,2,none⟩=some sv:=by unfold cell?;rw[hkb];rfl
 subst hal hat has;obtain⟨T,hT⟩:∃T:Int,T=65536:=⟨_,rfl⟩
 have HT:Hid (T=65536):=hT;have HLE:Hid (∀w,Calls prog 176 #[.int .i64 4096] w fun e w'=>e=.returned (.int .i64 T)∧w'=w):=fun w=>by rw[hT];exact zBQ w 4096 (by omega)
 clear hT;have HBH:Hid (∀w2,Grew w w2->Calls prog 134 #[.pointer (some ⟨mb,0,none⟩),.int .i64 (kind:Int),.int .i64 (low:Int)] w2 fun e w'=>e=.returned (.int .i64 (m.behind k a kind (low:Int)))∧Grew w2 w'):=fun w2 hk2=>zAc w0 w2 mb kb most m (HH.out.grown hk2) k a hK ok kind hk hof (low:Int);have HEV:Hid (∀w2 to,Grew w w2->Calls prog 178 #[.pointer (some ⟨mb,0,none⟩),.int .i64 to,.int .i64 4096] w2 fun e w'=>e=.returned (.int .i64 (Mk.even most 3 m to).1)∧MwIs w0 w' mb kb most (Mk.even most 3 m to).2∧StayT w2 w'):=fun w2 to hk2=>zCJ w0 w2 mb kb most m (HH.out.grown hk2) hmost fit to 3 (by omega);have HSUB:Hid (∀wr m2,MwIs w0 wr mb kb most m2->m2.Fit most->m2.of.length=k.rows.length->∀c:Nat,c<=low+64*4096->∀y:Int,y=(c:Int)->Calls prog 136 #[.pointer (some ⟨mb,0,none⟩),.int .i64 (kind:Int),.int .i64 y,.int .i64 64] wr fun e w'=>e=.returned (.int .i64 ((zU k a most kind 1) m2 c).1)∧MwIs w0 w' mb kb most ((zU k a most kind 1) m2 c).2∧StayT wr w'):=by
  rintro wr m2 hM hF hof2 c hc y rfl;exact zCr w0 wr mb kb most m2 hM hmost hF k a hK ok kind hk hof2 c (by omega)
 have HFIT:Hid (m.Fit most∧m.of.length=k.rows.length):=⟨fit,hof⟩
 clear hM0 hkb hka hK ok hk hof fit;generalize a.lows.length=q0 at *;generalize a.letters.length=q1 at *;generalize a.sets.length=q2 at *;generalize hsub:(zU k a most kind 1)=sub at *;clear hsub;have HNO:Hid (¬(65536<=low∧a.alike (low:Int) ((low+64*4096-1:Nat):Int)=true)->zU k a most kind 2 m low=yO most (xD sub 4096 low m 64)):=fun hn=>by
  rw[HDEF.out];exact if_neg hn
 have HYES:Hid (65536<=low->a.alike (low:Int) ((low+64*4096-1:Nat):Int)=true->zU k a most kind 2 m low=Mk.even most 3 m (m.behind k a kind (low:Int))):=fun h1 h2=>by
  rw[HDEF.out];exact if_pos ⟨h1,h2⟩
 have HX0:Hid (xD sub 4096 low m 0=(fun _=>0,m)):=rfl;have HXS:Hid (∀j,xD sub 4096 low m (j+1)=if low+j*4096<65536 then(fun i=>if i=j then 0 else(xD sub 4096 low m j).1 i,(xD sub 4096 low m j).2) else(fun i=>if i=j then(sub (xD sub 4096 low m j).2 (low+j*4096)).1 else(xD sub 4096 low m j).1 i,(sub (xD sub 4096 low m j).2 (low+j*4096)).2)):=fun j=>rfl;have HXT:Hid (∀j,(xD sub 4096 low m j).2.Fit most∧(xD sub 4096 low m j).2.of=m.of):=fun j=>zCV HTM.out 4096 low HFIT.out.1 j;clear HDEF;generalize xD sub 4096 low m=SX at *;generalize hal2:a.alike (low:Int) ((low+64*4096-1:Nat):Int)=AL at *;have hcase:(¬(65536<=low))∨(65536<=low∧AL=false)∨(65536<=low∧AL=true):=by
  by_cases h1:65536<=low
  ·cases AL
   ·exact .inr (.inl ⟨h1,rfl⟩)
   ·exact .inr (.inr ⟨h1,rfl⟩)
  ·exact .inl h1
 rcases hcase with hc|⟨hc,hAL⟩|⟨hc,hAL⟩;rotate_left 2
 ·subst hAL
  have HZ:Hid (zU k a most kind 2 m low=Mk.even most 3 m (m.behind k a kind (low:Int))):=HYES.out hc rfl;have i1:(low:Int)>=T:=by rw[HT.out];omega
  clear HNO HYES HSUB HTM hal2 hc;generalize m.behind k a kind (low:Int)=bh at *;go_enter func136,ntmps136
  go_wp2_with (first|(go_at_call 176;refine(HLE.out _).mono ?_;rintro e w9 ⟨rfl,hw9⟩;have hw8:=hw9.symm;subst hw8)|(go_at_call 177;refine(HAL.out _ (by omega)).mono ?_;rintro e w2 ⟨rfl,hk2⟩)|(go_at_call 134;refine(HBH.out w2 hk2).mono ?_;rintro e w3 ⟨rfl,hk3⟩;have hk4:=hk2.trans (hk3.lower hk2.size hk2.size))|(go_at_call 178;refine(HEV.out w3 bh hk4).mono ?_;rintro e w5 ⟨rfl,hM5,hS5⟩))
  go_ret;exact⟨by rw[HZ.out];rfl,by rw[HZ.out];exact hM5,StayT.trans hk4.stayT hS5⟩
 ·have HZ:Hid (zU k a most kind 2 m low=yO most (SX 64)):=HNO.out fun h1=>hc h1.1
  have i1:(low:Int)<T:=by rw[HT.out];omega
  clear HNO HYES hal2 HEV HBH hc;go_enter func136,ntmps136
  go_wp2_with (first|(go_at_call 176;refine(HLE.out _).mono ?_;rintro e w9 ⟨rfl,hw9⟩;have hw8:=hw9.symm;subst hw8))
  have K2:Grew w w:=Keep.refl _ _ _;rw[<-zCv];have HX:Hid (Bx w0 w (w.alloc (.cells (a64 fun _=>0) 246)) mb kb most m w.heap.size (fun _=>0)):=Bx.start HH.out w K2.stayT (HH.out.grown K2) K2.size;clear K2 HAL k0 k1 k2 x0 i1;generalize w.alloc (.cells (a64 fun _=>0) 246)=w3 at *;generalize w.heap.size=b at *;go_loopg [39] 64 (fun q i wr=>∃j:Nat,q=64-j∧j<=64∧i=.int .i64 (j:Int)∧Bx w0 w wr mb kb most (SX j).2 b (SX j).1)
  case atStart=>exact⟨0,rfl,Nat.zero_le _,rfl,by rw[HX0.out];exact HX.out⟩
  case round=>
   obtain⟨j,hgk,hj,rfl,hX⟩:=hrel;have HB:Hid (gk=64-j∧Bx w0 w wr mb kb most (SX j).2 b (SX j).1):=⟨hgk,hX⟩
   have HTJ:=HXT.out j;by_cases hj2:j<64
   ·have i2:(j:Int)<64:=by omega
    obtain⟨y1,z1⟩:=hX.cell j hj2;have HC:Hid (∀y:Int,y=((low+j*4096:Nat):Int)->Calls prog 136 #[.pointer (some ⟨mb,0,none⟩),.int .i64 (kind:Int),.int .i64 y,.int .i64 64] wr fun e w'=>e=.returned (.int .i64 (sub (SX j).2 (low+j*4096)).1)∧MwIs w0 w' mb kb most (sub (SX j).2 (low+j*4096)).2∧StayT wr w'):=HSUB.out wr _ hX.ma HTJ.1 (by rw[HTJ.2];exact HFIT.out.2) (low+j*4096) (by omega);have HS:Hid (SX (j+1)=if low+j*4096<65536 then(fun i=>if i=j then 0 else(SX j).1 i,(SX j).2) else(fun i=>if i=j then(sub (SX j).2 (low+j*4096)).1 else(SX j).1 i,(sub (SX j).2 (low+j*4096)).2)):=HXS.out j;by_cases hcl:low+j*4096<65536
    ·have HX2:Hid (Bx w0 w (wr.setCell ⟨b,j,none⟩ (.int .i64 0)) mb kb most (SX (j+1)).2 b (SX (j+1)).1):=by
      have h:=hX.set j hj2 0;show Bx _ _ _ _ _ _ (SX (j+1)).2 _ (SX (j+1)).1;rw[HS.out,if_pos hcl];exact h
     have i3:(low:Int)+(j:Int)*4096<T:=by rw[HT.out];omega
     clear hgk hX hcl HC HS;generalize (SX j).1 j=old at *;go_wp2_with (first|(go_at_call 176;refine(HLE.out _).mono ?_;rintro e w9 ⟨rfl,hw9⟩;have hw8:=hw9.symm;subst hw8))
     go_roundg (64-(j+1))
     case measure=>rw[HB.out.1];omega
     case rel=>exact⟨j+1,rfl,by omega,by go_num,HX2.out⟩
    ·have HS2:Hid (SX (j+1)=(fun i=>if i=j then(sub (SX j).2 (low+j*4096)).1 else(SX j).1 i,(sub (SX j).2 (low+j*4096)).2)):=by show _=_;rw[HS.out,if_neg hcl]
     have i3:T<=(low:Int)+(j:Int)*4096:=by rw[HT.out];omega
     have i4:(0:Int)<=(low:Int)+(j:Int):=by omega
     clear hgk hX hcl HS HTJ HSUB;generalize (sub (SX j).2 (low+j*4096)).1=r1 at *;generalize (sub (SX j).2 (low+j*4096)).2=m5 at *;generalize (SX j).1 j=old at *;go_wp2_with (first|(go_at_call 176;refine(HLE.out _).mono ?_;rintro e w9 ⟨rfl,hw9⟩;have hw8:=hw9.symm;subst hw8)|(go_at_call 136;refine(HC.out _ (by omega)).mono ?_;rintro e w5 ⟨rfl,hM5,hS5⟩;have hX5:=HB.out.2.call hM5 hS5;obtain⟨y5,z5⟩:=hX5.cell j hj2;have HX5:Hid (Bx w0 w w5 mb kb most m5 b (SX j).1):=hX5;clear hX5 hM5 hS5))
     go_roundg (64-(j+1))
     case measure=>rw[HB.out.1];omega
     case rel=>
      refine⟨j+1,rfl,by omega,by go_num,?_⟩;rw[HS2.out];exact HX5.out.set j hj2 r1
   ·have i2:(64:Int)<=(j:Int):=by omega
    have e:j=64:=by omega
    subst e;have HR2:Hid (wr.rangeAt b 0 (a64 (SX 64).1).toList):=zAQ wr b _ hX.arr;have HLN:Hid ((prog.info? 246).map (·.size)=some (a64 (SX 64).1).toList.length):=zD3 _;have HW:Hid (Calls prog 179 #[.pointer (some ⟨mb,0,none⟩),.agg (a64 (SX 64).1)] wr fun e w'=>e=.returned (.int .i64 (yO most (SX 64)).1)∧MwIs w0 w' mb kb most (yO most (SX 64)).2∧StayT wr w'):=jM w0 wr mb kb most _ hX.ma hmost (by have:=HTJ.1.same;have:=HTJ.1.few;omega) (by have:=HTJ.1.few;omega) _;clear hgk hX HTJ HSUB;generalize (a64 (SX 64).1)=A at *;generalize yO most (SX 64)=wu at *;go_wp2_with (first|(refine wpList_load_mid rfl 246 (.tmp 9) rfl b 0 rfl A.toList (.array 64 3) HR2.out underlying246 rfl HLN.out ?_)|(go_at_call 179;refine HW.out.mono ?_;rintro e w5 ⟨rfl,hM5,hS5⟩))
    go_ret;exact⟨by rw[HZ.out];rfl,by rw[HZ.out];exact hM5,HB.out.2.stay.trans hS5⟩
 ·subst hAL
  have HZ:Hid (zU k a most kind 2 m low=yO most (SX 64)):=HNO.out fun h1=>absurd h1.2 (by decide);have i1:(low:Int)>=T:=by rw[HT.out];omega
  clear HNO HYES hal2 HEV HBH hc;go_enter func136,ntmps136
  go_wp2_with (first|(go_at_call 176;refine(HLE.out _).mono ?_;rintro e w9 ⟨rfl,hw9⟩;have hw8:=hw9.symm;subst hw8)|(go_at_call 177;refine(HAL.out _ (by omega)).mono ?_;rintro e w2 ⟨rfl,K2⟩))
  rw[<-zCv];have HX:Hid (Bx w0 w (w2.alloc (.cells (a64 fun _=>0) 246)) mb kb most m w2.heap.size (fun _=>0)):=Bx.start HH.out w2 K2.stayT (HH.out.grown K2) K2.size;clear K2 HAL k0 k1 k2 x0 i1;generalize w2.alloc (.cells (a64 fun _=>0) 246)=w3 at *;generalize w2.heap.size=b at *;go_loopg [39] 64 (fun q i wr=>∃j:Nat,q=64-j∧j<=64∧i=.int .i64 (j:Int)∧Bx w0 w wr mb kb most (SX j).2 b (SX j).1)
  case atStart=>exact⟨0,rfl,Nat.zero_le _,rfl,by rw[HX0.out];exact HX.out⟩
  case round=>
   obtain⟨j,hgk,hj,rfl,hX⟩:=hrel;have HB:Hid (gk=64-j∧Bx w0 w wr mb kb most (SX j).2 b (SX j).1):=⟨hgk,hX⟩
   have HTJ:=HXT.out j;by_cases hj2:j<64
   ·have i2:(j:Int)<64:=by omega
    obtain⟨y1,z1⟩:=hX.cell j hj2;have HC:Hid (∀y:Int,y=((low+j*4096:Nat):Int)->Calls prog 136 #[.pointer (some ⟨mb,0,none⟩),.int .i64 (kind:Int),.int .i64 y,.int .i64 64] wr fun e w'=>e=.returned (.int .i64 (sub (SX j).2 (low+j*4096)).1)∧MwIs w0 w' mb kb most (sub (SX j).2 (low+j*4096)).2∧StayT wr w'):=HSUB.out wr _ hX.ma HTJ.1 (by rw[HTJ.2];exact HFIT.out.2) (low+j*4096) (by omega);have HS:Hid (SX (j+1)=if low+j*4096<65536 then(fun i=>if i=j then 0 else(SX j).1 i,(SX j).2) else(fun i=>if i=j then(sub (SX j).2 (low+j*4096)).1 else(SX j).1 i,(sub (SX j).2 (low+j*4096)).2)):=HXS.out j;by_cases hcl:low+j*4096<65536
    ·have HX2:Hid (Bx w0 w (wr.setCell ⟨b,j,none⟩ (.int .i64 0)) mb kb most (SX (j+1)).2 b (SX (j+1)).1):=by
      have h:=hX.set j hj2 0;show Bx _ _ _ _ _ _ (SX (j+1)).2 _ (SX (j+1)).1;rw[HS.out,if_pos hcl];exact h
     have i3:(low:Int)+(j:Int)*4096<T:=by rw[HT.out];omega
     clear hgk hX hcl HC HS;generalize (SX j).1 j=old at *;go_wp2_with (first|(go_at_call 176;refine(HLE.out _).mono ?_;rintro e w9 ⟨rfl,hw9⟩;have hw8:=hw9.symm;subst hw8))
     go_roundg (64-(j+1))
     case measure=>rw[HB.out.1];omega
     case rel=>exact⟨j+1,rfl,by omega,by go_num,HX2.out⟩
    ·have HS2:Hid (SX (j+1)=(fun i=>if i=j then(sub (SX j).2 (low+j*4096)).1 else(SX j).1 i,(sub (SX j).2 (low+j*4096)).2)):=by show _=_;rw[HS.out,if_neg hcl]
     have i3:T<=(low:Int)+(j:Int)*4096:=by rw[HT.out];omega
     have i4:(0:Int)<=(low:Int)+(j:Int):=by omega
     clear hgk hX hcl HS HTJ HSUB;generalize (sub (SX j).2 (low+j*4096)).1=r1 at *;generalize (sub (SX j).2 (low+j*4096)).2=m5 at *;generalize (SX j).1 j=old at *;go_wp2_with (first|(go_at_call 176;refine(HLE.out _).mono ?_;rintro e w9 ⟨rfl,hw9⟩;have hw8:=hw9.symm;subst hw8)|(go_at_call 136;refine(HC.out _ (by omega)).mono ?_;rintro e w5 ⟨rfl,hM5,hS5⟩;have hX5:=HB.out.2.call hM5 hS5;obtain⟨y5,z5⟩:=hX5.cell j hj2;have HX5:Hid (Bx w0 w w5 mb kb most m5 b (SX j).1):=hX5;clear hX5 hM5 hS5))
     go_roundg (64-(j+1))
     case measure=>rw[HB.out.1];omega
     case rel=>
      refine⟨j+1,rfl,by omega,by go_num,?_⟩;rw[HS2.out];exact HX5.out.set j hj2 r1
   ·have i2:(64:Int)<=(j:Int):=by omega
    have e:j=64:=by omega
    subst e;have HR2:Hid (wr.rangeAt b 0 (a64 (SX 64).1).toList):=zAQ wr b _ hX.arr;have HLN:Hid ((prog.info? 246).map (·.size)=some (a64 (SX 64).1).toList.length):=zD3 _;have HW:Hid (Calls prog 179 #[.pointer (some ⟨mb,0,none⟩),.agg (a64 (SX 64).1)] wr fun e w'=>e=.returned (.int .i64 (yO most (SX 64)).1)∧MwIs w0 w' mb kb most (yO most (SX 64)).2∧StayT wr w'):=jM w0 wr mb kb most _ hX.ma hmost (by have:=HTJ.1.same;have:=HTJ.1.few;omega) (by have:=HTJ.1.few;omega) _;clear hgk hX HTJ HSUB;generalize (a64 (SX 64).1)=A at *;generalize yO most (SX 64)=wu at *;go_wp2_with (first|(refine wpList_load_mid rfl 246 (.tmp 9) rfl b 0 rfl A.toList (.array 64 3) HR2.out underlying246 rfl HLN.out ?_)|(go_at_call 179;refine HW.out.mono ?_;rintro e w5 ⟨rfl,hM5,hS5⟩))
    go_ret;exact⟨by rw[HZ.out];rfl,by rw[HZ.out];exact hM5,HB.out.2.stay.trans hS5⟩
def Grows (sub:Mk->Nat->Int×Mk):Prop:=∀m c,m.next.length<=(sub m c).2.next.length
theorem zDO (m:Mk)(most:Nat)(r:Int):m.next.length<=(m.add most r).next.length:=by
 unfold Mk.add;split
 ·exact Nat.le_refl _
 ·show _<=(m.next++[zeros]).length;simp
theorem zEv (m:Mk)(most:Nat)(f:Nat->Int):m.next.length<=(m.withM most f).next.length:=by
 unfold Mk.withM;split
 ·exact Nat.le_refl _
 ·split
  ·exact Nat.le_refl _
  ·split
   ·exact zDO _ _ _
   ·rw[zBn];exact zDO _ _ _
theorem zI7 (most c:Nat):∀(m:Mk) (to:Int),m.next.length<=(Mk.even most c m to).2.next.length:=by
 induction c with
 |zero=>exact fun m to=>Nat.le_refl _
 |succ c ih=>exact fun m to=>Nat.le_trans (zEv m most fun _=>to) (ih _ _)
theorem zJ3 {sub:Mk->Nat->Int×Mk}(h:Grows sub)(step low:Nat)(m:Mk)(j:Nat):m.next.length<=(xD sub step low m j).2.next.length:=by
 induction j with
 |zero=>exact Nat.le_refl _
 |succ j ih=>
  unfold xD;split
  ·exact ih
  ·exact Nat.le_trans ih (h _ _)
theorem zCq (k:Kd)(a:Ar)(most kind cnt step:Nat){sub:Mk->Nat->Int×Mk}(h:Grows sub):Grows (jG k a most kind cnt step sub):=by
 intro m low;unfold jG;split
 ·exact zI7 _ _ _ _
 ·exact Nat.le_trans (zJ3 h step low m 64) (zEv _ _ _)
theorem zAo (k:Kd)(a:Ar)(most kind l:Nat):Grows (zU k a most kind l):=by
 induction l with
 |zero=>exact zCq k a most kind 1 1 fun m c=>Nat.le_refl _
 |succ l ih=>exact zCq k a most kind (l+2) (vI (l+2)) ih
def vH (sub:Mk->Nat->Int×Mk)(s lo:Nat)(m:Mk):Nat->Mk
 |0=>m
 |j+1=>(sub (vH sub s lo m j) (lo+j)).2.put s (lo+j) (sub (vH sub s lo m j) (lo+j)).1
theorem vB {most:Nat}{sub:Mk->Nat->Int×Mk}(h:Tame most sub)(g:Grows sub)(s lo:Nat){m:Mk}(hm:m.Fit most)(j:Nat):(vH sub s lo m j).Fit most∧(vH sub s lo m j).of=m.of∧m.next.length<=(vH sub s lo m j).next.length:=by
 induction j with
 |zero=>exact⟨hm,rfl,Nat.le_refl _⟩
 |succ j ih=>
  have h1:=h (vH sub s lo m j) (lo+j) ih.1;refine⟨zJq h1.1 _ _ _,h1.2.trans ih.2.1,?_⟩;show _<=((sub (vH sub s lo m j) (lo+j)).2.put s (lo+j) _).next.length
  rw[zC0];exact Nat.le_trans ih.2.2 (g _ _)
def zDr (k:Kd)(a:Ar)(kind:Nat)(m:Mk)(b:Nat):Int×Mk:=(m.behind k a kind (b:Int),m)
def zCA (k:Kd)(a:Ar)(most kind:Nat)(m:Mk)(b:Nat):Int×Mk:=zU k a most kind 0 m ((b-192)*64)
def zCz (k:Kd)(a:Ar)(most kind:Nat)(m:Mk)(b:Nat):Int×Mk:=zU k a most kind 1 m ((b-224)*4096)
def zCy (k:Kd)(a:Ar)(most kind:Nat)(m:Mk)(b:Nat):Int×Mk:=zU k a most kind 2 m ((b-240)*262144)
theorem zAu (k:Kd)(a:Ar)(most kind:Nat):Tame most (zDr k a kind)∧Grows (zDr k a kind):=⟨fun m c hm=>⟨hm,rfl⟩,fun m c=>Nat.le_refl _⟩
theorem zAt (k:Kd)(a:Ar)(most kind:Nat):Tame most (zCA k a most kind)∧Grows (zCA k a most kind):=⟨fun m c hm=>by unfold zCA;exact zAb k a most kind 0 m _ hm,fun m c=>by unfold zCA;exact zAo k a most kind 0 m _⟩
theorem zAs (k:Kd)(a:Ar)(most kind:Nat):Tame most (zCz k a most kind)∧Grows (zCz k a most kind):=⟨fun m c hm=>by unfold zCz;exact zAb k a most kind 1 m _ hm,fun m c=>by unfold zCz;exact zAo k a most kind 1 m _⟩
theorem zAr (k:Kd)(a:Ar)(most kind:Nat):Tame most (zCy k a most kind)∧Grows (zCy k a most kind):=⟨fun m c hm=>by unfold zCy;exact zAb k a most kind 2 m _ hm,fun m c=>by unfold zCy;exact zAo k a most kind 2 m _⟩
def zA9 (k:Kd)(a:Ar)(kind s:Nat)(m:Mk):Mk:=vH (zDr k a kind) s 0 m 128
def zA8 (k:Kd)(a:Ar)(most kind s:Nat)(m:Mk):Mk:=vH (zCA k a most kind) s 194 (zA9 k a kind s m) 30
def zA7 (k:Kd)(a:Ar)(most kind s:Nat)(m:Mk):Mk:=vH (zCz k a most kind) s 224 (zA8 k a most kind s m) 16
def zBy (k:Kd)(a:Ar)(most kind s:Nat)(m:Mk):Mk:=vH (zCy k a most kind) s 240 (zA7 k a most kind s m) 5
theorem zFh (k:Kd)(a:Ar){most:Nat}(kind s:Nat){m:Mk}(h:m.Fit most):(zA9 k a kind s m).Fit most∧(zA9 k a kind s m).of=m.of∧m.next.length<=(zA9 k a kind s m).next.length:=vB (zAu k a most kind).1 (zAu k a most kind).2 s 0 h 128
theorem zFg (k:Kd)(a:Ar){most:Nat}(kind s:Nat){m:Mk}(h:m.Fit most):(zA8 k a most kind s m).Fit most∧(zA8 k a most kind s m).of=m.of∧m.next.length<=(zA8 k a most kind s m).next.length:=by
 have h1:=zFh k a kind s h;have h2:=vB (zAt k a most kind).1 (zAt k a most kind).2 s 194 h1.1 30;exact⟨h2.1,h2.2.1.trans h1.2.1,Nat.le_trans h1.2.2 h2.2.2⟩
theorem zFf (k:Kd)(a:Ar){most:Nat}(kind s:Nat){m:Mk}(h:m.Fit most):(zA7 k a most kind s m).Fit most∧(zA7 k a most kind s m).of=m.of∧m.next.length<=(zA7 k a most kind s m).next.length:=by
 have h1:=zFg k a kind s h;have h2:=vB (zAs k a most kind).1 (zAs k a most kind).2 s 224 h1.1 16;exact⟨h2.1,h2.2.1.trans h1.2.1,Nat.le_trans h1.2.2 h2.2.2⟩
theorem zI5 (k:Kd)(a:Ar){most:Nat}(kind s:Nat){m:Mk}(h:m.Fit most):(zBy k a most kind s m).Fit most∧(zBy k a most kind s m).of=m.of∧m.next.length<=(zBy k a most kind s m).next.length:=by
 have h1:=zFf k a kind s h;have h2:=vB (zAr k a most kind).1 (zAr k a most kind).2 s 240 h1.1 5;exact⟨h2.1,h2.2.1.trans h1.2.1,Nat.le_trans h1.2.2 h2.2.2⟩
end Go.Proofs.YtbjcfkdnjaiclaaGreat
