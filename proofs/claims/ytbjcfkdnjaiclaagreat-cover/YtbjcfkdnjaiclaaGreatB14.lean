import Derived.Test.YtbjcfkdnjaiclaaGreatB0
import Derived.Test.YtbjcfkdnjaiclaaGreatB13
/- Parts of the proof. -/
set_option linter.unusedVariables false
set_option linter.unusedSimpArgs false
set_option maxHeartbeats 4000000
set_option maxRecDepth 100000
namespace Go.Proofs.YtbjcfkdnjaiclaaGreat
open Go.RowKit Go.Proofs.Tryz Go.World
theorem zFY (w0 w:World)(mb kb most:Nat)(m:Mk)(h:MwIs w0 w mb kb most m)(hmost:most<=1000000)(fit:m.Fit most)(k:Kd)(a:Ar)(hK:KdAt w0 kb a k)(ok:k.Ok a)(kind:Nat)(hk:kind<k.rows.length)(hof:m.of.length=k.rows.length)(low:Nat)(hlow:low<=1100000):
  Calls prog 136 #[.pointer (some ⟨mb,0,none⟩),.int .i64 (kind:Int),.int .i64 (low:Int),.int .i64 4096] w fun e w'=>e=.returned (.int .i64 (zV k a most kind 2 m low).1)∧MwIs w0 w' mb kb most (zV k a most kind 2 m low).2∧StayT w w':=by
 have HDEF:Hid (zV k a most kind 2 m low=jK k a most kind 3 4096 (zV k a most kind 1) m low):=rfl;have HTM:Hid (Tame most (zV k a most kind 1)):=zAe k a most kind 1;have HH:Hid (MwIs w0 w mb kb most m):=h;obtain⟨nv,rv,ov,gs,hM0⟩:=h;have hK2:=hK.grown hM0.keep;obtain⟨hkl,lv,tv,sv,kn,kr,hkb,hka,-,-⟩:=hK2;obtain⟨al,cl,hal,-⟩:=id hka.lows;obtain⟨at_,ct,hat,-⟩:=id hka.letters;obtain⟨as_,cs,has,-⟩:=id hka.sets;have HAL:Hid (∀y:Int,y=((low+64*4096-1:Nat):Int)->Calls prog 177 #[.agg #[lv,tv,sv],.int .i64 (low:Int),.int .i64 y] w fun e w'=>e=.returned (.bool (a.alike (low:Int) ((low+64*4096-1:Nat):Int)))∧Grew w w'):=by
  rintro y rfl;exact zB8 w lv tv sv a hka ok.few _ _
 have x0:=hM0.cells.1;have k0:w.cell? ⟨kb,0,none⟩=some lv:=by unfold cell?;rw[hkb];rfl
 have k1:w.cell? ⟨kb,1,none⟩=some tv:=by unfold cell?;rw[hkb];rfl
 have k2:w.cell? ⟨kb,2,none⟩=some sv:=by unfold cell?;rw[hkb];rfl
 subst hal hat has;obtain⟨T,hT⟩:∃T:Int,T=65536:=⟨_,rfl⟩
 have HT:Hid (T=65536):=hT;have HLE:Hid (∀w,Calls prog 176 #[.int .i64 4096] w fun e w'=>e=.returned (.int .i64 T)∧w'=w):=fun w=>by rw[hT];exact zBY w 4096 (by omega)
 clear hT;have HBH:Hid (∀w2,Grew w w2->Calls prog 134 #[.pointer (some ⟨mb,0,none⟩),.int .i64 (kind:Int),.int .i64 (low:Int)] w2 fun e w'=>e=.returned (.int .i64 (m.behind k a kind (low:Int)))∧Grew w2 w'):=fun w2 hk2=>zAf w0 w2 mb kb most m (HH.out.grown hk2) k a hK ok kind hk hof (low:Int);have HEV:Hid (∀w2 to,Grew w w2->Calls prog 178 #[.pointer (some ⟨mb,0,none⟩),.int .i64 to,.int .i64 4096] w2 fun e w'=>e=.returned (.int .i64 (Mk.even most 3 m to).1)∧MwIs w0 w' mb kb most (Mk.even most 3 m to).2∧StayT w2 w'):=fun w2 to hk2=>zCQ w0 w2 mb kb most m (HH.out.grown hk2) hmost fit to 3 (by omega);have HSUB:Hid (∀wr m2,MwIs w0 wr mb kb most m2->m2.Fit most->m2.of.length=k.rows.length->∀c:Nat,c<=low+64*4096->∀y:Int,y=(c:Int)->Calls prog 136 #[.pointer (some ⟨mb,0,none⟩),.int .i64 (kind:Int),.int .i64 y,.int .i64 64] wr fun e w'=>e=.returned (.int .i64 ((zV k a most kind 1) m2 c).1)∧MwIs w0 w' mb kb most ((zV k a most kind 1) m2 c).2∧StayT wr w'):=by
  rintro wr m2 hM hF hof2 c hc y rfl;exact zCy w0 wr mb kb most m2 hM hmost hF k a hK ok kind hk hof2 c (by omega)
 have HFIT:Hid (m.Fit most∧m.of.length=k.rows.length):=⟨fit,hof⟩
 clear hM0 hkb hka hK ok hk hof fit;generalize a.lows.length=q0 at *;generalize a.letters.length=q1 at *;generalize a.sets.length=q2 at *;generalize hsub:(zV k a most kind 1)=sub at *;clear hsub;have HNO:Hid (¬(65536<=low∧a.alike (low:Int) ((low+64*4096-1:Nat):Int)=true)->zV k a most kind 2 m low=yO most (xD sub 4096 low m 64)):=fun hn=>by
  rw[HDEF.out];exact if_neg hn
 have HYES:Hid (65536<=low->a.alike (low:Int) ((low+64*4096-1:Nat):Int)=true->zV k a most kind 2 m low=Mk.even most 3 m (m.behind k a kind (low:Int))):=fun h1 h2=>by
  rw[HDEF.out];exact if_pos ⟨h1,h2⟩
 have HX0:Hid (xD sub 4096 low m 0=(fun _=>0,m)):=rfl;have HXS:Hid (∀j,xD sub 4096 low m (j+1)=if low+j*4096<65536 then(fun i=>if i=j then 0 else(xD sub 4096 low m j).1 i,(xD sub 4096 low m j).2) else(fun i=>if i=j then(sub (xD sub 4096 low m j).2 (low+j*4096)).1 else(xD sub 4096 low m j).1 i,(sub (xD sub 4096 low m j).2 (low+j*4096)).2)):=fun j=>rfl;have HXT:Hid (∀j,(xD sub 4096 low m j).2.Fit most∧(xD sub 4096 low m j).2.of=m.of):=fun j=>zC2 HTM.out 4096 low HFIT.out.1 j;clear HDEF;generalize xD sub 4096 low m=SX at *;generalize hal2:a.alike (low:Int) ((low+64*4096-1:Nat):Int)=AL at *;have hcase:(¬(65536<=low))∨(65536<=low∧AL=false)∨(65536<=low∧AL=true):=by
  by_cases h1:65536<=low
  ·cases AL
   ·exact .inr (.inl ⟨h1,rfl⟩)
   ·exact .inr (.inr ⟨h1,rfl⟩)
  ·exact .inl h1
 rcases hcase with hc|⟨hc,hAL⟩|⟨hc,hAL⟩;rotate_left 2
 ·subst hAL
  have HZ:Hid (zV k a most kind 2 m low=Mk.even most 3 m (m.behind k a kind (low:Int))):=HYES.out hc rfl;have i1:(low:Int)>=T:=by rw[HT.out];omega
  clear HNO HYES HSUB HTM hal2 hc;generalize m.behind k a kind (low:Int)=bh at *;go_enter func136,ntmps136
  go_wp2_with (first|(go_at_call 176;refine(HLE.out _).mono ?_;rintro e w9 ⟨rfl,hw9⟩;have hw8:=hw9.symm;subst hw8)|(go_at_call 177;refine(HAL.out _ (by omega)).mono ?_;rintro e w2 ⟨rfl,hk2⟩)|(go_at_call 134;refine(HBH.out w2 hk2).mono ?_;rintro e w3 ⟨rfl,hk3⟩;have hk4:=hk2.trans (hk3.lower hk2.size hk2.size))|(go_at_call 178;refine(HEV.out w3 bh hk4).mono ?_;rintro e w5 ⟨rfl,hM5,hS5⟩))
  go_ret;exact⟨by rw[HZ.out];rfl,by rw[HZ.out];exact hM5,StayT.trans hk4.stayT hS5⟩
 ·have HZ:Hid (zV k a most kind 2 m low=yO most (SX 64)):=HNO.out fun h1=>hc h1.1
  have i1:(low:Int)<T:=by rw[HT.out];omega
  clear HNO HYES hal2 HEV HBH hc;go_enter func136,ntmps136
  go_wp2_with (first|(go_at_call 176;refine(HLE.out _).mono ?_;rintro e w9 ⟨rfl,hw9⟩;have hw8:=hw9.symm;subst hw8))
  have K2:Grew w w:=Keep.refl _ _ _;rw[<-zCC];have HX:Hid (Bx w0 w (w.alloc (.cells (a64 fun _=>0) 246)) mb kb most m w.heap.size (fun _=>0)):=Bx.start HH.out w K2.stayT (HH.out.grown K2) K2.size;clear K2 HAL k0 k1 k2 x0 i1;generalize w.alloc (.cells (a64 fun _=>0) 246)=w3 at *;generalize w.heap.size=b at *;go_loopg [39] 64 (fun q i wr=>∃j:Nat,q=64-j∧j<=64∧i=.int .i64 (j:Int)∧Bx w0 w wr mb kb most (SX j).2 b (SX j).1)
  case atStart=>exact⟨0,rfl,lX,rfl,by rw[HX0.out];exact HX.out⟩
  case round=>
   obtain⟨j,hgk,hj,rfl,hX⟩:=hrel;have HB:Hid (gk=64-j∧Bx w0 w wr mb kb most (SX j).2 b (SX j).1):=⟨hgk,hX⟩
   have HTJ:=HXT.out j;by_cases hj2:j<64
   ·have i2:(j:Int)<64:=by omega
    obtain⟨y1,z1⟩:=hX.cell j hj2;have HC:Hid (∀y:Int,y=((low+j*4096:Nat):Int)->Calls prog 136 #[.pointer (some ⟨mb,0,none⟩),.int .i64 (kind:Int),.int .i64 y,.int .i64 64] wr fun e w'=>e=.returned (.int .i64 (sub (SX j).2 (low+j*4096)).1)∧MwIs w0 w' mb kb most (sub (SX j).2 (low+j*4096)).2∧StayT wr w'):=HSUB.out wr _ hX.ma HTJ.1 (by rw[HTJ.2];exact HFIT.out.2) (low+j*4096) (by omega);have HS:Hid (SX (j+1)=if low+j*4096<65536 then(fun i=>if i=j then 0 else(SX j).1 i,(SX j).2) else(fun i=>if i=j then(sub (SX j).2 (low+j*4096)).1 else(SX j).1 i,(sub (SX j).2 (low+j*4096)).2)):=HXS.out j;by_cases hcl:low+j*4096<65536
    ·have HX2:Hid (Bx w0 w (wr.setCell ⟨b,j,none⟩ (.int .i64 0)) mb kb most (SX (j+1)).2 b (SX (j+1)).1):=by
      have h:=hX.set j hj2 0;show Bx _ _ _ _ _ _ (SX (j+1)).2 _ (SX (j+1)).1;rw[HS.out,if_pos hcl];exact h
     have i3:(low:Int)+(j:Int)*4096<T:=by rw[HT.out];omega
     clear hgk hX hcl HC HS;generalize (SX j).1 j=old at *;go_wp2_with (first|(go_at_call 176;refine(HLE.out _).mono ?_;rintro e w9 ⟨rfl,hw9⟩;have hw8:=hw9.symm;subst hw8))
     go_roundg (64-(j+1))
     case measure=>rw[HB.out.1];omega
     case rel=>exact⟨j+1,rfl,by omega,by go_num,HX2.out⟩
    ·have HS2:Hid (SX (j+1)=(fun i=>if i=j then(sub (SX j).2 (low+j*4096)).1 else(SX j).1 i,(sub (SX j).2 (low+j*4096)).2)):=by show _=_;rw[HS.out,if_neg hcl]
     have i3:T<=(low:Int)+(j:Int)*4096:=by rw[HT.out];omega
     have i4:(0:Int)<=(low:Int)+(j:Int):=by omega
     clear hgk hX hcl HS HTJ HSUB;generalize (sub (SX j).2 (low+j*4096)).1=r1 at *;generalize (sub (SX j).2 (low+j*4096)).2=m5 at *;generalize (SX j).1 j=old at *;go_wp2_with (first|(go_at_call 176;refine(HLE.out _).mono ?_;rintro e w9 ⟨rfl,hw9⟩;have hw8:=hw9.symm;subst hw8)|(go_at_call 136;refine(HC.out _ (by omega)).mono ?_;rintro e w5 ⟨rfl,hM5,hS5⟩;have hX5:=HB.out.2.call hM5 hS5;obtain⟨y5,z5⟩:=hX5.cell j hj2;have HX5:Hid (Bx w0 w w5 mb kb most m5 b (SX j).1):=hX5;clear hX5 hM5 hS5))
     go_roundg (64-(j+1))
     case measure=>rw[HB.out.1];omega
     case rel=>
      refine⟨j+1,rfl,by omega,by go_num,?_⟩;rw[HS2.out];exact HX5.out.set j hj2 r1
   ·have i2:(64:Int)<=(j:Int):=by omega
    have e:j=64:=by omega
    subst e;have HR2:Hid (wr.rangeAt b 0 (a64 (SX 64).1).toList):=zAV wr b _ hX.arr;have HLN:Hid ((prog.info? 246).map (·.size)=some (a64 (SX 64).1).toList.length):=zEg _;have HW:Hid (Calls prog 179 #[.pointer (some ⟨mb,0,none⟩),.agg (a64 (SX 64).1)] wr fun e w'=>e=.returned (.int .i64 (yO most (SX 64)).1)∧MwIs w0 w' mb kb most (yO most (SX 64)).2∧StayT wr w'):=jQ w0 wr mb kb most _ hX.ma hmost (by have:=HTJ.1.same;have:=HTJ.1.few;omega) (by have:=HTJ.1.few;omega) _;clear hgk hX HTJ HSUB;generalize (a64 (SX 64).1)=A at *;generalize yO most (SX 64)=wu at *;go_wp2_with (first|(refine wpList_load_mid rfl 246 (.tmp 9) rfl b 0 rfl A.toList (.array 64 3) HR2.out underlying246 rfl HLN.out ?_)|(go_at_call 179;refine HW.out.mono ?_;rintro e w5 ⟨rfl,hM5,hS5⟩))
    go_ret;exact⟨by rw[HZ.out];rfl,by rw[HZ.out];exact hM5,HB.out.2.stay.trans hS5⟩
 ·subst hAL
  have HZ:Hid (zV k a most kind 2 m low=yO most (SX 64)):=HNO.out fun h1=>absurd h1.2 (by decide);have i1:(low:Int)>=T:=by rw[HT.out];omega
  clear HNO HYES hal2 HEV HBH hc;go_enter func136,ntmps136
  go_wp2_with (first|(go_at_call 176;refine(HLE.out _).mono ?_;rintro e w9 ⟨rfl,hw9⟩;have hw8:=hw9.symm;subst hw8)|(go_at_call 177;refine(HAL.out _ (by omega)).mono ?_;rintro e w2 ⟨rfl,K2⟩))
  rw[<-zCC];have HX:Hid (Bx w0 w (w2.alloc (.cells (a64 fun _=>0) 246)) mb kb most m w2.heap.size (fun _=>0)):=Bx.start HH.out w2 K2.stayT (HH.out.grown K2) K2.size;clear K2 HAL k0 k1 k2 x0 i1;generalize w2.alloc (.cells (a64 fun _=>0) 246)=w3 at *;generalize w2.heap.size=b at *;go_loopg [39] 64 (fun q i wr=>∃j:Nat,q=64-j∧j<=64∧i=.int .i64 (j:Int)∧Bx w0 w wr mb kb most (SX j).2 b (SX j).1)
  case atStart=>exact⟨0,rfl,lX,rfl,by rw[HX0.out];exact HX.out⟩
  case round=>
   obtain⟨j,hgk,hj,rfl,hX⟩:=hrel;have HB:Hid (gk=64-j∧Bx w0 w wr mb kb most (SX j).2 b (SX j).1):=⟨hgk,hX⟩
   have HTJ:=HXT.out j;by_cases hj2:j<64
   ·have i2:(j:Int)<64:=by omega
    obtain⟨y1,z1⟩:=hX.cell j hj2;have HC:Hid (∀y:Int,y=((low+j*4096:Nat):Int)->Calls prog 136 #[.pointer (some ⟨mb,0,none⟩),.int .i64 (kind:Int),.int .i64 y,.int .i64 64] wr fun e w'=>e=.returned (.int .i64 (sub (SX j).2 (low+j*4096)).1)∧MwIs w0 w' mb kb most (sub (SX j).2 (low+j*4096)).2∧StayT wr w'):=HSUB.out wr _ hX.ma HTJ.1 (by rw[HTJ.2];exact HFIT.out.2) (low+j*4096) (by omega);have HS:Hid (SX (j+1)=if low+j*4096<65536 then(fun i=>if i=j then 0 else(SX j).1 i,(SX j).2) else(fun i=>if i=j then(sub (SX j).2 (low+j*4096)).1 else(SX j).1 i,(sub (SX j).2 (low+j*4096)).2)):=HXS.out j;by_cases hcl:low+j*4096<65536
    ·have HX2:Hid (Bx w0 w (wr.setCell ⟨b,j,none⟩ (.int .i64 0)) mb kb most (SX (j+1)).2 b (SX (j+1)).1):=by
      have h:=hX.set j hj2 0;show Bx _ _ _ _ _ _ (SX (j+1)).2 _ (SX (j+1)).1;rw[HS.out,if_pos hcl];exact h
     have i3:(low:Int)+(j:Int)*4096<T:=by rw[HT.out];omega
     clear hgk hX hcl HC HS;generalize (SX j).1 j=old at *;go_wp2_with (first|(go_at_call 176;refine(HLE.out _).mono ?_;rintro e w9 ⟨rfl,hw9⟩;have hw8:=hw9.symm;subst hw8))
     go_roundg (64-(j+1))
     case measure=>rw[HB.out.1];omega
     case rel=>exact⟨j+1,rfl,by omega,by go_num,HX2.out⟩
    ·have HS2:Hid (SX (j+1)=(fun i=>if i=j then(sub (SX j).2 (low+j*4096)).1 else(SX j).1 i,(sub (SX j).2 (low+j*4096)).2)):=by show _=_;rw[HS.out,if_neg hcl]
     have i3:T<=(low:Int)+(j:Int)*4096:=by rw[HT.out];omega
     have i4:(0:Int)<=(low:Int)+(j:Int):=by omega
     clear hgk hX hcl HS HTJ HSUB;generalize (sub (SX j).2 (low+j*4096)).1=r1 at *;generalize (sub (SX j).2 (low+j*4096)).2=m5 at *;generalize (SX j).1 j=old at *;go_wp2_with (first|(go_at_call 176;refine(HLE.out _).mono ?_;rintro e w9 ⟨rfl,hw9⟩;have hw8:=hw9.symm;subst hw8)|(go_at_call 136;refine(HC.out _ (by omega)).mono ?_;rintro e w5 ⟨rfl,hM5,hS5⟩;have hX5:=HB.out.2.call hM5 hS5;obtain⟨y5,z5⟩:=hX5.cell j hj2;have HX5:Hid (Bx w0 w w5 mb kb most m5 b (SX j).1):=hX5;clear hX5 hM5 hS5))
     go_roundg (64-(j+1))
     case measure=>rw[HB.out.1];omega
     case rel=>
      refine⟨j+1,rfl,by omega,by go_num,?_⟩;rw[HS2.out];exact HX5.out.set j hj2 r1
   ·have i2:(64:Int)<=(j:Int):=by omega
    have e:j=64:=by omega
    subst e;have HR2:Hid (wr.rangeAt b 0 (a64 (SX 64).1).toList):=zAV wr b _ hX.arr;have HLN:Hid ((prog.info? 246).map (·.size)=some (a64 (SX 64).1).toList.length):=zEg _;have HW:Hid (Calls prog 179 #[.pointer (some ⟨mb,0,none⟩),.agg (a64 (SX 64).1)] wr fun e w'=>e=.returned (.int .i64 (yO most (SX 64)).1)∧MwIs w0 w' mb kb most (yO most (SX 64)).2∧StayT wr w'):=jQ w0 wr mb kb most _ hX.ma hmost (by have:=HTJ.1.same;have:=HTJ.1.few;omega) (by have:=HTJ.1.few;omega) _;clear hgk hX HTJ HSUB;generalize (a64 (SX 64).1)=A at *;generalize yO most (SX 64)=wu at *;go_wp2_with (first|(refine wpList_load_mid rfl 246 (.tmp 9) rfl b 0 rfl A.toList (.array 64 3) HR2.out underlying246 rfl HLN.out ?_)|(go_at_call 179;refine HW.out.mono ?_;rintro e w5 ⟨rfl,hM5,hS5⟩))
    go_ret;exact⟨by rw[HZ.out];rfl,by rw[HZ.out];exact hM5,HB.out.2.stay.trans hS5⟩
def Grows (sub:Mk->Nat->Int×Mk):Prop:=∀m c,m.next.length<=(sub m c).2.next.length
theorem zD0 (m:Mk)(most:Nat)(r:Int):m.next.length<=(m.add most r).next.length:=by
 unfold Mk.add;split
 ·exact lQ
 ·show _<=(m.next++[zeros]).length;simp
theorem zEF (m:Mk)(most:Nat)(f:Nat->Int):m.next.length<=(m.withM most f).next.length:=by
 unfold Mk.withM;split
 ·exact lQ
 ·split
  ·exact lQ
  ·split
   ·exact zD0 _ _ _
   ·rw[zBt];exact zD0 _ _ _
theorem zJp (most c:Nat):∀(m:Mk) (to:Int),m.next.length<=(Mk.even most c m to).2.next.length:=by
 induction c with
 |zero=>exact fun m to=>lQ
 |succ c ih=>exact fun m to=>lY (zEF m most fun _=>to) (ih _ _)
theorem zKl {sub:Mk->Nat->Int×Mk}(h:Grows sub)(step low:Nat)(m:Mk)(j:Nat):m.next.length<=(xD sub step low m j).2.next.length:=by
 induction j with
 |zero=>exact lQ
 |succ j ih=>
  unfold xD;split
  ·exact ih
  ·exact lY ih (h _ _)
theorem zCx (k:Kd)(a:Ar)(most kind cnt step:Nat){sub:Mk->Nat->Int×Mk}(h:Grows sub):Grows (jK k a most kind cnt step sub):=by
 intro m low;unfold jK;split
 ·exact zJp _ _ _ _
 ·exact lY (zKl h step low m 64) (zEF _ _ _)
theorem zAr (k:Kd)(a:Ar)(most kind l:Nat):Grows (zV k a most kind l):=by
 induction l with
 |zero=>exact zCx k a most kind 1 1 fun m c=>lQ
 |succ l ih=>exact zCx k a most kind (l+2) (vK (l+2)) ih
def vJ (sub:Mk->Nat->Int×Mk)(s lo:Nat)(m:Mk):Nat->Mk
 |0=>m
 |j+1=>(sub (vJ sub s lo m j) (lo+j)).2.put s (lo+j) (sub (vJ sub s lo m j) (lo+j)).1
theorem vC {most:Nat}{sub:Mk->Nat->Int×Mk}(h:Tame most sub)(g:Grows sub)(s lo:Nat){m:Mk}(hm:m.Fit most)(j:Nat):(vJ sub s lo m j).Fit most∧(vJ sub s lo m j).of=m.of∧m.next.length<=(vJ sub s lo m j).next.length:=by
 induction j with
 |zero=>exact⟨hm,rfl,lQ⟩
 |succ j ih=>
  have h1:=h (vJ sub s lo m j) (lo+j) ih.1;refine⟨zJI h1.1 _ _ _,h1.2.trans ih.2.1,?_⟩;show _<=((sub (vJ sub s lo m j) (lo+j)).2.put s (lo+j) _).next.length
  rw[zC7];exact lY ih.2.2 (g _ _)
def zDB (k:Kd)(a:Ar)(kind:Nat)(m:Mk)(b:Nat):Int×Mk:=(m.behind k a kind (b:Int),m)
def zCH (k:Kd)(a:Ar)(most kind:Nat)(m:Mk)(b:Nat):Int×Mk:=zV k a most kind 0 m ((b-192)*64)
def zCG (k:Kd)(a:Ar)(most kind:Nat)(m:Mk)(b:Nat):Int×Mk:=zV k a most kind 1 m ((b-224)*4096)
def zCF (k:Kd)(a:Ar)(most kind:Nat)(m:Mk)(b:Nat):Int×Mk:=zV k a most kind 2 m ((b-240)*262144)
theorem zAx (k:Kd)(a:Ar)(most kind:Nat):Tame most (zDB k a kind)∧Grows (zDB k a kind):=⟨fun m c hm=>⟨hm,rfl⟩,fun m c=>lQ⟩
theorem zAw (k:Kd)(a:Ar)(most kind:Nat):Tame most (zCH k a most kind)∧Grows (zCH k a most kind):=⟨fun m c hm=>by unfold zCH;exact zAe k a most kind 0 m _ hm,fun m c=>by unfold zCH;exact zAr k a most kind 0 m _⟩
theorem zAv (k:Kd)(a:Ar)(most kind:Nat):Tame most (zCG k a most kind)∧Grows (zCG k a most kind):=⟨fun m c hm=>by unfold zCG;exact zAe k a most kind 1 m _ hm,fun m c=>by unfold zCG;exact zAr k a most kind 1 m _⟩
theorem zAu (k:Kd)(a:Ar)(most kind:Nat):Tame most (zCF k a most kind)∧Grows (zCF k a most kind):=⟨fun m c hm=>by unfold zCF;exact zAe k a most kind 2 m _ hm,fun m c=>by unfold zCF;exact zAr k a most kind 2 m _⟩
def zBe (k:Kd)(a:Ar)(kind s:Nat)(m:Mk):Mk:=vJ (zDB k a kind) s 0 m 128
def zBd (k:Kd)(a:Ar)(most kind s:Nat)(m:Mk):Mk:=vJ (zCH k a most kind) s 194 (zBe k a kind s m) 30
def zBc (k:Kd)(a:Ar)(most kind s:Nat)(m:Mk):Mk:=vJ (zCG k a most kind) s 224 (zBd k a most kind s m) 16
def zBF (k:Kd)(a:Ar)(most kind s:Nat)(m:Mk):Mk:=vJ (zCF k a most kind) s 240 (zBc k a most kind s m) 5
theorem zFs (k:Kd)(a:Ar){most:Nat}(kind s:Nat){m:Mk}(h:m.Fit most):(zBe k a kind s m).Fit most∧(zBe k a kind s m).of=m.of∧m.next.length<=(zBe k a kind s m).next.length:=vC (zAx k a most kind).1 (zAx k a most kind).2 s 0 h 128
theorem zFr (k:Kd)(a:Ar){most:Nat}(kind s:Nat){m:Mk}(h:m.Fit most):(zBd k a most kind s m).Fit most∧(zBd k a most kind s m).of=m.of∧m.next.length<=(zBd k a most kind s m).next.length:=by
 have h1:=zFs k a kind s h;have h2:=vC (zAw k a most kind).1 (zAw k a most kind).2 s 194 h1.1 30;exact⟨h2.1,h2.2.1.trans h1.2.1,lY h1.2.2 h2.2.2⟩
theorem zFq (k:Kd)(a:Ar){most:Nat}(kind s:Nat){m:Mk}(h:m.Fit most):(zBc k a most kind s m).Fit most∧(zBc k a most kind s m).of=m.of∧m.next.length<=(zBc k a most kind s m).next.length:=by
 have h1:=zFr k a kind s h;have h2:=vC (zAv k a most kind).1 (zAv k a most kind).2 s 224 h1.1 16;exact⟨h2.1,h2.2.1.trans h1.2.1,lY h1.2.2 h2.2.2⟩
theorem zJo (k:Kd)(a:Ar){most:Nat}(kind s:Nat){m:Mk}(h:m.Fit most):(zBF k a most kind s m).Fit most∧(zBF k a most kind s m).of=m.of∧m.next.length<=(zBF k a most kind s m).next.length:=by
 have h1:=zFq k a kind s h;have h2:=vC (zAu k a most kind).1 (zAu k a most kind).2 s 240 h1.1 5;exact⟨h2.1,h2.2.1.trans h1.2.1,lY h1.2.2 h2.2.2⟩
theorem zJl (w0 w:World)(mb kb most:Nat)(m:Mk)(h:MwIs w0 w mb kb most m)(hmost:most<=1000000)(fit:m.Fit most)(k:Kd)(a:Ar)(hK:KdAt w0 kb a k)(ok:k.Ok a)(kind s:Nat)(hk:kind<k.rows.length)(hof:m.of.length=k.rows.length)(hs:m.of.getD kind 0=(s:Int))(hsn:s<m.next.length):
  Calls prog 97 #[.pointer (some ⟨mb,0,none⟩),.int .i64 (kind:Int)] w fun e w'=>e=.returned (.tuple #[])∧MwIs w0 w' mb kb most (zBF k a most kind s m)∧StayT w w':=by
 have HH:Hid (MwIs w0 w mb kb most m):=h;have HLEAD:Hid (∀wr m2,MwIs w0 wr mb kb most m2->m2.of=m.of->s<m2.next.length->∀b:Nat,b<256->∀x:Int,Calls prog 135 #[.pointer (some ⟨mb,0,none⟩),.int .i64 (kind:Int),.int .i64 (b:Int),.int .i64 x] wr fun e w'=>e=.returned (.tuple #[])∧MwIs w0 w' mb kb most (m2.put s b x)∧StayT wr w'):=fun wr m2 hM hO hl b hb x=>zJd w0 wr mb kb most m2 hM kind b s (by rw[hO,hof];exact hk) (by rw[hO];exact hs) hl hb x;have HSUB1:Hid (∀wr m2,MwIs w0 wr mb kb most m2->m2.Fit most->m2.of=m.of->∀b:Nat,0<=b->b<=127->∀y:Int,y=(b:Int)->Calls prog 134 #[.pointer (some ⟨mb,0,none⟩),.int .i64 (kind:Int),.int .i64 y] wr fun e w'=>e=.returned (.int .i64 (zDB k a kind m2 b).1)∧MwIs w0 w' mb kb most (zDB k a kind m2 b).2∧StayT wr w'):=by
  intro wr m2 hM hF hO b hb1 hb2 y hy;subst hy;refine(zAf w0 wr mb kb most m2 hM k a hK ok kind hk (by rw[hO];exact hof) (b:Int)).mono ?_;rintro e w2 ⟨rfl,hk2⟩;exact⟨rfl,hM.grown hk2,hk2.stayT⟩
 have HSUB2:Hid (∀wr m2,MwIs w0 wr mb kb most m2->m2.Fit most->m2.of=m.of->∀b:Nat,194<=b->b<=223->∀y:Int,y=((b:Int)-192)*64->Calls prog 136 #[.pointer (some ⟨mb,0,none⟩),.int .i64 (kind:Int),.int .i64 y,.int .i64 1] wr fun e w'=>e=.returned (.int .i64 (zCH k a most kind m2 b).1)∧MwIs w0 w' mb kb most (zCH k a most kind m2 b).2∧StayT wr w'):=by
  intro wr m2 hM hF hO b hb1 hb2 y hy;rw[hy,show((b:Int)-192)*64=(((b-192)*64:Nat):Int) by omega];exact zCz w0 wr mb kb most m2 hM hmost hF k a hK ok kind hk (by rw[hO];exact hof) _ (by omega)
 have HSUB3:Hid (∀wr m2,MwIs w0 wr mb kb most m2->m2.Fit most->m2.of=m.of->∀b:Nat,224<=b->b<=239->∀y:Int,y=((b:Int)-224)*4096->Calls prog 136 #[.pointer (some ⟨mb,0,none⟩),.int .i64 (kind:Int),.int .i64 y,.int .i64 64] wr fun e w'=>e=.returned (.int .i64 (zCG k a most kind m2 b).1)∧MwIs w0 w' mb kb most (zCG k a most kind m2 b).2∧StayT wr w'):=by
  intro wr m2 hM hF hO b hb1 hb2 y hy;rw[hy,show((b:Int)-224)*4096=(((b-224)*4096:Nat):Int) by omega];exact zCy w0 wr mb kb most m2 hM hmost hF k a hK ok kind hk (by rw[hO];exact hof) _ (by omega)
 have HSUB4:Hid (∀wr m2,MwIs w0 wr mb kb most m2->m2.Fit most->m2.of=m.of->∀b:Nat,240<=b->b<=244->∀y:Int,y=((b:Int)-240)*262144->Calls prog 136 #[.pointer (some ⟨mb,0,none⟩),.int .i64 (kind:Int),.int .i64 y,.int .i64 4096] wr fun e w'=>e=.returned (.int .i64 (zCF k a most kind m2 b).1)∧MwIs w0 w' mb kb most (zCF k a most kind m2 b).2∧StayT wr w'):=by
  intro wr m2 hM hF hO b hb1 hb2 y hy;rw[hy,show((b:Int)-240)*262144=(((b-240)*262144:Nat):Int) by omega];exact zFY w0 wr mb kb most m2 hM hmost hF k a hK ok kind hk (by rw[hO];exact hof) _ (by omega)
 obtain⟨FL1,hFL1⟩:∃FL,FL=vJ (zDB k a kind) s 0 (m):=⟨_,rfl⟩
 have HF1:Hid (FL1 0=m∧FL1 128=zBe k a kind s m∧(∀j,FL1 (j+1)=((zDB k a kind) (FL1 j) (0+j)).2.put s (0+j) ((zDB k a kind) (FL1 j) (0+j)).1)∧∀j,(FL1 j).Fit most∧(FL1 j).of=m.of∧s<(FL1 j).next.length∧s<((zDB k a kind) (FL1 j) (0+j)).2.next.length∧((zDB k a kind) (FL1 j) (0+j)).2.of=m.of):=by
  have hp:(m).Fit most∧(m).of=m.of∧m.next.length<=(m).next.length:=⟨fit,rfl,lQ⟩
  have ht:=fun j=>vC (zAx k a most kind).1 (zAx k a most kind).2 s 0 hp.1 j;rw[hFL1];refine⟨rfl,rfl,fun j=>rfl,fun j=>?_⟩;have h1:=ht j;have h2:=(zAx k a most kind).1 _ (0+j) h1.1;have h3:=(zAx k a most kind).2 (vJ (zDB k a kind) s 0 (m) j) (0+j);exact⟨h1.1,h1.2.1.trans hp.2.1,by omega,by omega,h2.2.trans (h1.2.1.trans hp.2.1)⟩
 clear hFL1;obtain⟨FL2,hFL2⟩:∃FL,FL=vJ (zCH k a most kind) s 194 (zBe k a kind s m):=⟨_,rfl⟩
 have HF2:Hid (FL2 0=zBe k a kind s m∧FL2 30=zBd k a most kind s m∧(∀j,FL2 (j+1)=((zCH k a most kind) (FL2 j) (194+j)).2.put s (194+j) ((zCH k a most kind) (FL2 j) (194+j)).1)∧∀j,(FL2 j).Fit most∧(FL2 j).of=m.of∧s<(FL2 j).next.length∧s<((zCH k a most kind) (FL2 j) (194+j)).2.next.length∧((zCH k a most kind) (FL2 j) (194+j)).2.of=m.of):=by
  have hp:(zBe k a kind s m).Fit most∧(zBe k a kind s m).of=m.of∧m.next.length<=(zBe k a kind s m).next.length:=zFs k a kind s fit
  have ht:=fun j=>vC (zAw k a most kind).1 (zAw k a most kind).2 s 194 hp.1 j;rw[hFL2];refine⟨rfl,rfl,fun j=>rfl,fun j=>?_⟩;have h1:=ht j;have h2:=(zAw k a most kind).1 _ (194+j) h1.1;have h3:=(zAw k a most kind).2 (vJ (zCH k a most kind) s 194 (zBe k a kind s m) j) (194+j);exact⟨h1.1,h1.2.1.trans hp.2.1,by omega,by omega,h2.2.trans (h1.2.1.trans hp.2.1)⟩
 clear hFL2;obtain⟨FL3,hFL3⟩:∃FL,FL=vJ (zCG k a most kind) s 224 (zBd k a most kind s m):=⟨_,rfl⟩
 have HF3:Hid (FL3 0=zBd k a most kind s m∧FL3 16=zBc k a most kind s m∧(∀j,FL3 (j+1)=((zCG k a most kind) (FL3 j) (224+j)).2.put s (224+j) ((zCG k a most kind) (FL3 j) (224+j)).1)∧∀j,(FL3 j).Fit most∧(FL3 j).of=m.of∧s<(FL3 j).next.length∧s<((zCG k a most kind) (FL3 j) (224+j)).2.next.length∧((zCG k a most kind) (FL3 j) (224+j)).2.of=m.of):=by
  have hp:(zBd k a most kind s m).Fit most∧(zBd k a most kind s m).of=m.of∧m.next.length<=(zBd k a most kind s m).next.length:=zFr k a kind s fit
  have ht:=fun j=>vC (zAv k a most kind).1 (zAv k a most kind).2 s 224 hp.1 j;rw[hFL3];refine⟨rfl,rfl,fun j=>rfl,fun j=>?_⟩;have h1:=ht j;have h2:=(zAv k a most kind).1 _ (224+j) h1.1;have h3:=(zAv k a most kind).2 (vJ (zCG k a most kind) s 224 (zBd k a most kind s m) j) (224+j);exact⟨h1.1,h1.2.1.trans hp.2.1,by omega,by omega,h2.2.trans (h1.2.1.trans hp.2.1)⟩
 clear hFL3;obtain⟨FL4,hFL4⟩:∃FL,FL=vJ (zCF k a most kind) s 240 (zBc k a most kind s m):=⟨_,rfl⟩
 have HF4:Hid (FL4 0=zBc k a most kind s m∧FL4 5=zBF k a most kind s m∧(∀j,FL4 (j+1)=((zCF k a most kind) (FL4 j) (240+j)).2.put s (240+j) ((zCF k a most kind) (FL4 j) (240+j)).1)∧∀j,(FL4 j).Fit most∧(FL4 j).of=m.of∧s<(FL4 j).next.length∧s<((zCF k a most kind) (FL4 j) (240+j)).2.next.length∧((zCF k a most kind) (FL4 j) (240+j)).2.of=m.of):=by
  have hp:(zBc k a most kind s m).Fit most∧(zBc k a most kind s m).of=m.of∧m.next.length<=(zBc k a most kind s m).next.length:=zFq k a kind s fit
  have ht:=fun j=>vC (zAu k a most kind).1 (zAu k a most kind).2 s 240 hp.1 j;rw[hFL4];refine⟨rfl,rfl,fun j=>rfl,fun j=>?_⟩;have h1:=ht j;have h2:=(zAu k a most kind).1 _ (240+j) h1.1;have h3:=(zAu k a most kind).2 (vJ (zCF k a most kind) s 240 (zBc k a most kind s m) j) (240+j);exact⟨h1.1,h1.2.1.trans hp.2.1,by omega,by omega,h2.2.trans (h1.2.1.trans hp.2.1)⟩
 clear hFL4;clear h fit hK ok hk hof hs hsn hmost;generalize hs1:zDB k a kind=SB1 at *;clear hs1;generalize hs2:zCH k a most kind=SB2 at *;clear hs2;generalize hs3:zCG k a most kind=SB3 at *;clear hs3;generalize hs4:zCF k a most kind=SB4 at *;clear hs4;generalize hm1:zBe k a kind s m=M1 at *;clear hm1;generalize hm2:zBd k a most kind s m=M2 at *;clear hm2;generalize hm3:zBc k a most kind s m=M3 at *;clear hm3;generalize hm4:zBF k a most kind s m=M4 at *;clear hm4;go_enter func97,ntmps97
 go_wp2_with fail;go_loopg [4] 128 (fun q v wr=>∃j b:Nat,q=128-j∧j<=128∧b=0+j∧v=.int .i64 (b:Int)∧MwIs w0 wr mb kb most (FL1 j)∧StayT w wr)
 case atStart=>exact⟨0,0,rfl,lX,rfl,rfl,by rw[HF1.out.1];exact HH.out,StayT.refl _⟩
 case round=>
  obtain⟨j,b,hgk,hj,hb,rfl,hM,hS⟩:=hrel;have HB:Hid (gk=128-j∧MwIs w0 wr mb kb most (FL1 j)∧StayT w wr):=⟨hgk,hM,hS⟩
  by_cases hj2:j<128
  ·have i1:(b:Int)<128:=by omega
   have i2:(b:Int)<256:=by omega
   obtain⟨hF,hO,hsl,hsl2,hO2⟩:=HF1.out.2.2.2 j;have HC:Hid (∀y:Int,y=(b:Int)->Calls prog 134 #[.pointer (some ⟨mb,0,none⟩),.int .i64 (kind:Int),.int .i64 y] wr fun e w'=>e=.returned (.int .i64 (SB1 (FL1 j) b).1)∧MwIs w0 w' mb kb most (SB1 (FL1 j) b).2∧StayT wr w'):=HSUB1.out wr _ hM hF hO b (by omega) (by omega);have HN:Hid (FL1 (j+1)=(SB1 (FL1 j) b).2.put s b (SB1 (FL1 j) b).1):=by have h:=HF1.out.2.2.1 j;rw[<-hb] at h;exact h
   rw[<-hb] at hsl2 hO2;have HLD:Hid (∀w5,MwIs w0 w5 mb kb most (SB1 (FL1 j) b).2->∀x:Int,Calls prog 135 #[.pointer (some ⟨mb,0,none⟩),.int .i64 (kind:Int),.int .i64 (b:Int),.int .i64 x] w5 fun e w'=>e=.returned (.tuple #[])∧MwIs w0 w' mb kb most ((SB1 (FL1 j) b).2.put s b x)∧StayT w5 w'):=fun w5 h5 x=>HLEAD.out w5 _ h5 hO2 hsl2 b (by omega) x;have Hb:Hid (b=0+j):=hb;clear hgk hM hS hF hO hsl hsl2 hO2 hb;generalize (SB1 (FL1 j) b).1=r1 at *;generalize (SB1 (FL1 j) b).2=m5 at *;go_wp2_with (first|(go_at_call 134;refine(HC.out _ (by omega)).mono ?_;rintro e w5 ⟨rfl,hM5,hS5⟩)|(go_at_call 135;refine(HLD.out w5 hM5 r1).mono ?_;rintro e w6 ⟨rfl,hM6,hS6⟩))
   go_roundg (128-(j+1))
   case measure=>rw[HB.out.1];omega
   case rel=>exact⟨j+1,b+1,rfl,by omega,by have:=Hb.out;omega,by go_num,by rw[HN.out];exact hM6,(HB.out.2.2.trans hS5).trans hS6⟩
  ·have i1:128<=(b:Int):=by omega
   have hje:j=128:=by omega
   have HM1:Hid (MwIs w0 wr mb kb most M1∧StayT w wr):=by
    rw[hje,HF1.out.2.1] at hM;exact⟨hM,hS⟩
   clear hgk hM hS HB hje hj2 hj hb;go_wp2_with fail;go_loopg [6] 30 (fun q v wr=>∃j b:Nat,q=30-j∧j<=30∧b=194+j∧v=.int .i64 (b:Int)∧MwIs w0 wr mb kb most (FL2 j)∧StayT w wr)
   case atStart=>exact⟨0,194,rfl,lX,rfl,rfl,by rw[HF2.out.1];exact HM1.out.1,HM1.out.2⟩
   case round=>
    obtain⟨j,b,hgk,hj,hb,rfl,hM,hS⟩:=hrel;have HB:Hid (gk=30-j∧MwIs w0 wr mb kb most (FL2 j)∧StayT w wr):=⟨hgk,hM,hS⟩
    by_cases hj2:j<30
    ·have i1:(b:Int)<=223:=by omega
     have i2:(b:Int)<256:=by omega
     obtain⟨hF,hO,hsl,hsl2,hO2⟩:=HF2.out.2.2.2 j;have HC:Hid (∀y:Int,y=((b:Int)-192)*64->Calls prog 136 #[.pointer (some ⟨mb,0,none⟩),.int .i64 (kind:Int),.int .i64 y,.int .i64 1] wr fun e w'=>e=.returned (.int .i64 (SB2 (FL2 j) b).1)∧MwIs w0 w' mb kb most (SB2 (FL2 j) b).2∧StayT wr w'):=HSUB2.out wr _ hM hF hO b (by omega) (by omega);have HN:Hid (FL2 (j+1)=(SB2 (FL2 j) b).2.put s b (SB2 (FL2 j) b).1):=by have h:=HF2.out.2.2.1 j;rw[<-hb] at h;exact h
     rw[<-hb] at hsl2 hO2;have HLD:Hid (∀w5,MwIs w0 w5 mb kb most (SB2 (FL2 j) b).2->∀x:Int,Calls prog 135 #[.pointer (some ⟨mb,0,none⟩),.int .i64 (kind:Int),.int .i64 (b:Int),.int .i64 x] w5 fun e w'=>e=.returned (.tuple #[])∧MwIs w0 w' mb kb most ((SB2 (FL2 j) b).2.put s b x)∧StayT w5 w'):=fun w5 h5 x=>HLEAD.out w5 _ h5 hO2 hsl2 b (by omega) x;have Hb:Hid (b=194+j):=hb;clear hgk hM hS hF hO hsl hsl2 hO2 hb;generalize (SB2 (FL2 j) b).1=r1 at *;generalize (SB2 (FL2 j) b).2=m5 at *;go_wp2_with (first|(go_at_call 136;refine(HC.out _ (by omega)).mono ?_;rintro e w5 ⟨rfl,hM5,hS5⟩)|(go_at_call 135;refine(HLD.out w5 hM5 r1).mono ?_;rintro e w6 ⟨rfl,hM6,hS6⟩))
     go_roundg (30-(j+1))
     case measure=>rw[HB.out.1];omega
     case rel=>exact⟨j+1,b+1,rfl,by omega,by have:=Hb.out;omega,by go_num,by rw[HN.out];exact hM6,(HB.out.2.2.trans hS5).trans hS6⟩
    ·have i1:223<(b:Int):=by omega
     have hje:j=30:=by omega
     have HM2:Hid (MwIs w0 wr mb kb most M2∧StayT w wr):=by
      rw[hje,HF2.out.2.1] at hM;exact⟨hM,hS⟩
     clear hgk hM hS HB hje hj2 hj hb;go_wp2_with fail;go_loopg [8] 16 (fun q v wr=>∃j b:Nat,q=16-j∧j<=16∧b=224+j∧v=.int .i64 (b:Int)∧MwIs w0 wr mb kb most (FL3 j)∧StayT w wr)
     case atStart=>exact⟨0,224,rfl,lX,rfl,rfl,by rw[HF3.out.1];exact HM2.out.1,HM2.out.2⟩
     case round=>
      obtain⟨j,b,hgk,hj,hb,rfl,hM,hS⟩:=hrel;have HB:Hid (gk=16-j∧MwIs w0 wr mb kb most (FL3 j)∧StayT w wr):=⟨hgk,hM,hS⟩
      by_cases hj2:j<16
      ·have i1:(b:Int)<=239:=by omega
       have i2:(b:Int)<256:=by omega
       obtain⟨hF,hO,hsl,hsl2,hO2⟩:=HF3.out.2.2.2 j;have HC:Hid (∀y:Int,y=((b:Int)-224)*4096->Calls prog 136 #[.pointer (some ⟨mb,0,none⟩),.int .i64 (kind:Int),.int .i64 y,.int .i64 64] wr fun e w'=>e=.returned (.int .i64 (SB3 (FL3 j) b).1)∧MwIs w0 w' mb kb most (SB3 (FL3 j) b).2∧StayT wr w'):=HSUB3.out wr _ hM hF hO b (by omega) (by omega);have HN:Hid (FL3 (j+1)=(SB3 (FL3 j) b).2.put s b (SB3 (FL3 j) b).1):=by have h:=HF3.out.2.2.1 j;rw[<-hb] at h;exact h
       rw[<-hb] at hsl2 hO2;have HLD:Hid (∀w5,MwIs w0 w5 mb kb most (SB3 (FL3 j) b).2->∀x:Int,Calls prog 135 #[.pointer (some ⟨mb,0,none⟩),.int .i64 (kind:Int),.int .i64 (b:Int),.int .i64 x] w5 fun e w'=>e=.returned (.tuple #[])∧MwIs w0 w' mb kb most ((SB3 (FL3 j) b).2.put s b x)∧StayT w5 w'):=fun w5 h5 x=>HLEAD.out w5 _ h5 hO2 hsl2 b (by omega) x;have Hb:Hid (b=224+j):=hb;clear hgk hM hS hF hO hsl hsl2 hO2 hb;generalize (SB3 (FL3 j) b).1=r1 at *;generalize (SB3 (FL3 j) b).2=m5 at *;go_wp2_with (first|(go_at_call 136;refine(HC.out _ (by omega)).mono ?_;rintro e w5 ⟨rfl,hM5,hS5⟩)|(go_at_call 135;refine(HLD.out w5 hM5 r1).mono ?_;rintro e w6 ⟨rfl,hM6,hS6⟩))
       go_roundg (16-(j+1))
       case measure=>rw[HB.out.1];omega
       case rel=>exact⟨j+1,b+1,rfl,by omega,by have:=Hb.out;omega,by go_num,by rw[HN.out];exact hM6,(HB.out.2.2.trans hS5).trans hS6⟩
      ·have i1:239<(b:Int):=by omega
       have hje:j=16:=by omega
       have HM3:Hid (MwIs w0 wr mb kb most M3∧StayT w wr):=by
        rw[hje,HF3.out.2.1] at hM;exact⟨hM,hS⟩
       clear hgk hM hS HB hje hj2 hj hb;go_wp2_with fail;go_loopg [10] 5 (fun q v wr=>∃j b:Nat,q=5-j∧j<=5∧b=240+j∧v=.int .i64 (b:Int)∧MwIs w0 wr mb kb most (FL4 j)∧StayT w wr)
       case atStart=>exact⟨0,240,rfl,lX,rfl,rfl,by rw[HF4.out.1];exact HM3.out.1,HM3.out.2⟩
       case round=>
        obtain⟨j,b,hgk,hj,hb,rfl,hM,hS⟩:=hrel;have HB:Hid (gk=5-j∧MwIs w0 wr mb kb most (FL4 j)∧StayT w wr):=⟨hgk,hM,hS⟩
        by_cases hj2:j<5
        ·have i1:(b:Int)<=244:=by omega
         have i2:(b:Int)<256:=by omega
         obtain⟨hF,hO,hsl,hsl2,hO2⟩:=HF4.out.2.2.2 j;have HC:Hid (∀y:Int,y=((b:Int)-240)*262144->Calls prog 136 #[.pointer (some ⟨mb,0,none⟩),.int .i64 (kind:Int),.int .i64 y,.int .i64 4096] wr fun e w'=>e=.returned (.int .i64 (SB4 (FL4 j) b).1)∧MwIs w0 w' mb kb most (SB4 (FL4 j) b).2∧StayT wr w'):=HSUB4.out wr _ hM hF hO b (by omega) (by omega);have HN:Hid (FL4 (j+1)=(SB4 (FL4 j) b).2.put s b (SB4 (FL4 j) b).1):=by have h:=HF4.out.2.2.1 j;rw[<-hb] at h;exact h
         rw[<-hb] at hsl2 hO2;have HLD:Hid (∀w5,MwIs w0 w5 mb kb most (SB4 (FL4 j) b).2->∀x:Int,Calls prog 135 #[.pointer (some ⟨mb,0,none⟩),.int .i64 (kind:Int),.int .i64 (b:Int),.int .i64 x] w5 fun e w'=>e=.returned (.tuple #[])∧MwIs w0 w' mb kb most ((SB4 (FL4 j) b).2.put s b x)∧StayT w5 w'):=fun w5 h5 x=>HLEAD.out w5 _ h5 hO2 hsl2 b (by omega) x;have Hb:Hid (b=240+j):=hb;clear hgk hM hS hF hO hsl hsl2 hO2 hb;generalize (SB4 (FL4 j) b).1=r1 at *;generalize (SB4 (FL4 j) b).2=m5 at *;go_wp2_with (first|(go_at_call 136;refine(HC.out _ (by omega)).mono ?_;rintro e w5 ⟨rfl,hM5,hS5⟩)|(go_at_call 135;refine(HLD.out w5 hM5 r1).mono ?_;rintro e w6 ⟨rfl,hM6,hS6⟩))
         go_roundg (5-(j+1))
         case measure=>rw[HB.out.1];omega
         case rel=>exact⟨j+1,b+1,rfl,by omega,by have:=Hb.out;omega,by go_num,by rw[HN.out];exact hM6,(HB.out.2.2.trans hS5).trans hS6⟩
        ·have i1:244<(b:Int):=by omega
         have hje:j=5:=by omega
         have HM4:Hid (MwIs w0 wr mb kb most M4∧StayT w wr):=by
          rw[hje,HF4.out.2.1] at hM;exact⟨hM,hS⟩
         clear hgk hM hS HB hje hj2 hj hb;go_wp2_with fail;go_end0;exact⟨rfl,HM4.out.1,HM4.out.2⟩
def Mk.blank:Mk:=⟨[],[],[],false⟩
def Mk.withOf (m:Mk)(l:List Int):Mk:={m with of:=l}
def zZ (k:Kd)(most:Nat):Nat->Mk
 |0=>Mk.blank.add most (-1)
 |j+1=>if j=k.dead then(zZ k most j).withOf ((zZ k most j).of++[0]) else((zZ k most j).add most (k.rules.getD j 0)).withOf ((zZ k most j).of++[((zZ k most j).addN most:Int)])
theorem zEH {m:Mk}{most:Nat}(h:m.Fit most)(l:List Int):(m.withOf l).Fit most:=⟨h.same,h.few⟩
theorem zDx (k:Kd)(most j:Nat):(zZ k most j).Fit most∧(zZ k most j).of.length=j:=by
 induction j with
 |zero=>exact⟨zED ⟨rfl,lX⟩ _,by show(Mk.blank.add most (-1)).of.length=0;rw[zCU];rfl⟩
 |succ j ih=>
  unfold zZ;split
  ·exact⟨zEH ih.1 _,by show((zZ k most j).of++[0]).length=j+1;rw[kX,ih.2];rfl⟩
  ·exact⟨zEH (zED ih.1 _) _,by show((zZ k most j).of++[_]).length=j+1;rw[kX,ih.2];rfl⟩
theorem zFH (w0 w:World)(mb kb most:Nat)(h:MwIs w0 w mb kb most Mk.blank)(hmost:most<=1000000)(k:Kd)(a:Ar)(hK:KdAt w0 kb a k)(hlen:k.rules.length=k.rows.length)(hrl:k.rows.length<=10000000000):
  Calls prog 96 #[.pointer (some ⟨mb,0,none⟩)] w fun e w'=>e=.returned (.tuple #[])∧MwIs w0 w' mb kb most (zZ k most k.rows.length)∧StayT w w':=by
 obtain⟨i0,hi0,hz0,hz1,hz2⟩:=info_parts yH;have HADD:Hid (∀wr m2,MwIs w0 wr mb kb most m2->m2.Fit most->∀r:Int,Calls prog 133 #[.pointer (some ⟨mb,0,none⟩),.int .i64 r] wr fun e w'=>e=.returned (.int .i64 ((m2.addN most:Nat):Int))∧MwIs w0 w' mb kb most (m2.add most r)∧StayT wr w'):=fun wr m2 hM hF r=>zEn w0 wr mb kb most m2 hM hmost (by have:=hF.same;have:=hF.few;omega) r;have HFB:Hid (Mk.blank.Fit most):=⟨rfl,lX⟩
 have HH:=vl h;have HKC:Hid (∀wr m2,MwIs w0 wr mb kb most m2->∃kn cn ar cr,wr.cell? ⟨mb,0,none⟩=some (.pointer (some ⟨kb,0,none⟩))∧wr.cell? ⟨kb,3,none⟩=some (.slice kn k.rows.length cn)∧wr.cell? ⟨kb,4,none⟩=some (.slice ar k.rows.length cr)∧wr.cell? ⟨kb,6,none⟩=some (.int .i64 (k.dead:Int))∧∀i,i<k.rows.length->∃b o,ar=some ⟨b,o,none⟩∧wr.cell? ⟨b,o+i,none⟩=some (.int .i64 (k.rules.getD i 0))):=by
  rintro wr m2 ⟨nv,rv,ov,gs,hM⟩;obtain⟨hkl,lv,tv,sv,kn,kr,hkb,hka,hkn,hkr⟩:=hK.grown hM.keep;obtain⟨an,cn,rfl,-⟩:=hkn;obtain⟨ar,cr,rfl,_,_,hrc⟩:=hkr;rw[kV] at hkb;rw[hlen] at hkb hrc;refine⟨an,cn,ar,cr,hM.cells.1,?_,?_,?_,fun i hi=>?_⟩
  ·unfold cell?;rw[hkb];rfl
  ·unfold cell?;rw[hkb];rfl
  ·unfold cell?;rw[hkb];rfl
  ·obtain⟨b,o,h1,_,h2⟩:=hrc i hi
   exact⟨b,o,h1,h2⟩
 obtain⟨WH,hWH⟩:∃WH,WH=zZ k most:=⟨_,rfl⟩
 have HW:Hid (WH 0=Mk.blank.add most (-1)∧(∀j,j=k.dead->WH (j+1)=(WH j).withOf ((WH j).of++[0]))∧(∀j,j≠k.dead->WH (j+1)=((WH j).add most (k.rules.getD j 0)).withOf ((WH j).of++[((WH j).addN most:Int)]))∧(∀j,(WH j).Fit most∧(WH j).of.length=j)∧WH k.rows.length=zZ k most k.rows.length):=by
  rw[hWH];exact⟨rfl,fun j hj=>if_pos hj,fun j hj=>if_neg hj,fun j=>zDx k most j,rfl⟩
 generalize zZ k most k.rows.length=WE at *;clear hWH h hK hlen;go_in;go_wp2_with (first|(go_at_call 133;refine(HADD.out w _ HH.out HFB.out (-1)).mono ?_;rintro e w1 ⟨rfl,hM1,hS1⟩;obtain⟨kn,cn,ar,cr,y0,y3,y4,y6,-⟩:=HKC.out w1 _ hM1;have HM1:Hid (MwIs w0 w1 mb kb most (WH 0)∧StayT w w1):=⟨(by rw[HW.out.1];exact hM1),hS1⟩;clear hM1 hS1))
 clear y0 y3 y4 y6;go_loopg [14] k.rows.length (fun q i wr=>∃j:Nat,q=k.rows.length-j∧j<=k.rows.length∧i=.int .i64 (j:Int)∧MwIs w0 wr mb kb most (WH j)∧StayT w wr)
 case atStart=>exact⟨0,rfl,lX,rfl,HM1.out.1,HM1.out.2⟩
 case round=>
  obtain⟨j,hgk,hj,rfl,hM,hS⟩:=hrel;have HB:Hid (gk=k.rows.length-j∧MwIs w0 wr mb kb most (WH j)∧StayT w wr):=⟨hgk,hM,hS⟩
  obtain⟨kn2,cn2,ar2,cr2,y0,y3,y4,y6,yr⟩:=HKC.out wr _ hM;by_cases hj2:j<k.rows.length
  ·have i1:(j:Int)<(k.rows.length:Int):=by omega
   obtain⟨b,o,rfl,yc⟩:=yr j hj2;by_cases hd:j=k.dead
   ·have hdc:((j:Int)==(k.dead:Int))=true:=by simp;omega
    have HN:=vl <| HW.out.2.1 j hd;have hol:=(HW.out.2.2.2.1 j).2;obtain⟨nv,rv,ov,gs,hMw⟩:=hM;obtain⟨ao,co,hov⟩:=hMw.oOwn.form;rw[hol] at hov;subst hov;have x6:=hMw.cells.2.2.2.2.2.1;have hlt:=hMw.lt;have hH:w0.heap.size<=wr.heap.size:=hMw.keep.size;have HMw:=vl hMw;have OR:wr.ownsRow w0.heap.size 3 1 (.slice ao j co) j ((WH j).of.map fun x=>.int .i64 x):=by have:=hMw.oOwn;unfold OwnI at this;rw[hol] at this;exact this
    clear hgk hS hMw yr hd y3 y4 yc;go_wp2_with (first|(at_builtin;refine wpList_append_lies _ rfl _ _ 45 rfl (w0.heap.size) 3 i0 (.int .i64 0) 1 8 underlying45 hi0 hz0 hz1 hz2 rfl (by decide) _ _ _ rfl (OR.alloc _) ⟨wr.heap.size,0,none⟩ 1 1 [.int .i64 0] rfl rfl (cell_one_new _ _ _) (by intro u hu;simp at hu;subst hu;rfl) (by decide) (by unfold maxLen;omega) (by omega) (by simp;omega) _ rfl ?_;intro gg cap w5 hown hgrow hat hlt5;have hPB:w5.heap[mb]? =wr.heap[mb]? :=(hgrow.block _ (by simp;omega) HMw.out.box.2.2.1).trans (lG _ _ _ (by omega));have t6:w5.cell? ⟨mb,6,none⟩=some (.slice ao j co):=(cell?_of_block hPB).trans x6;have g6:w5.frozen? ⟨mb,6,none⟩=false:=(frozen?_of_block hPB).trans (HMw.out.cells.2.2.2.2.2.2 6);have HM6:=HMw.out.newOf hol.symm hown hgrow (by rcases hat with ha|ha;exact .inl ha;right;rw[ha];simp)))
    go_roundg (k.rows.length-(j+1))
    case measure=>rw[HB.out.1];omega
    case rel=>exact⟨j+1,rfl,by omega,by go_num,by rw[HN.out];exact⟨_,_,_,_,HM6.1⟩,HB.out.2.2.trans HM6.2⟩
   ·have hdc:((j:Int)==(k.dead:Int))=false:=by simp;omega
    have HN:=vl <| HW.out.2.2.1 j hd;have hol:((WH j).add most (k.rules.getD j 0)).of.length=j:=by rw[zCU];exact(HW.out.2.2.2.1 j).2
    have hof2:((WH j).add most (k.rules.getD j 0)).of=(WH j).of:=zCU _ _ _;rw[<-hof2] at HN;have HC:Hid (Calls prog 133 #[.pointer (some ⟨mb,0,none⟩),.int .i64 (k.rules.getD j 0)] wr fun e w'=>e=.returned (.int .i64 (((WH j).addN most:Nat):Int))∧MwIs w0 w' mb kb most ((WH j).add most (k.rules.getD j 0))∧StayT wr w'):=HADD.out wr _ hM (HW.out.2.2.2.1 j).1 _;clear hgk hM hS yr hd y3 hof2;generalize k.rules.getD j 0=r at *;generalize (WH j).addN most=s at *;generalize (WH j).add most r=m5 at *;go_wp2_with (first|(go_at_call 133;refine HC.out.mono ?_;rintro e w5 ⟨rfl,⟨nv,rv,ov,gs,hMw⟩,hS5⟩;obtain⟨ao,co,hov⟩:=hMw.oOwn.form;rw[hol] at hov;subst hov;have x6:=hMw.cells.2.2.2.2.2.1;have hlt:=hMw.lt;have hH:w0.heap.size<=w5.heap.size:=hMw.keep.size;have HMw:Hid (Mw w0 w5 mb kb most m5 nv rv (.slice ao j co) gs):=hMw;have OR:w5.ownsRow w0.heap.size 3 1 (.slice ao j co) j (m5.of.map fun x=>.int .i64 x):=(by have:=hMw.oOwn;unfold OwnI at this;rw[hol] at this;exact this);clear hMw)|(at_builtin;refine wpList_append_lies _ rfl _ _ 45 rfl (w0.heap.size) 3 i0 (.int .i64 0) 1 8 underlying45 hi0 hz0 hz1 hz2 rfl (by decide) _ _ _ rfl (OR.alloc _) ⟨w5.heap.size,0,none⟩ 1 1 [.int .i64 (s:Int)] rfl rfl (cell_one_new _ _ _) (by intro u hu;simp at hu;subst hu;rfl) (by decide) (by unfold maxLen;omega) (by omega) (by simp;omega) _ rfl ?_;intro gg cap w6 hown hgrow hat hlt5;have hPB:w6.heap[mb]? =w5.heap[mb]? :=(hgrow.block _ (by simp;omega) HMw.out.box.2.2.1).trans (lG _ _ _ (by omega));have t6:w6.cell? ⟨mb,6,none⟩=some (.slice ao j co):=(cell?_of_block hPB).trans x6;have g6:w6.frozen? ⟨mb,6,none⟩=false:=(frozen?_of_block hPB).trans (HMw.out.cells.2.2.2.2.2.2 6);have HM6:=HMw.out.newOf hol.symm hown hgrow (by rcases hat with ha|ha;exact .inl ha;right;rw[ha];simp)))
    go_roundg (k.rows.length-(j+1))
    case measure=>rw[HB.out.1];omega
    case rel=>exact⟨j+1,rfl,by omega,by go_num,by rw[HN.out];exact⟨_,_,_,_,HM6.1⟩,(HB.out.2.2.trans hS5).trans HM6.2⟩
  ·have i1:(k.rows.length:Int)<=(j:Int):=by omega
   have e:j=k.rows.length:=by omega
   subst e;have HE:Hid (MwIs w0 wr mb kb most WE∧StayT w wr):=⟨by rw[<-HW.out.2.2.2.2];exact hM,hS⟩
   clear hgk hM hS yr;go_wp2;go_end0;exact⟨rfl,HE.out.1,HE.out.2⟩
theorem zDu {m:Mk}{most:Nat}{r:Int}(h:(m.add most r).full=false):m.full=false∧(m.add most r).next.length=m.next.length+1∧m.addN most=m.next.length:=by
 unfold Mk.add at h ⊢;unfold Mk.addN;by_cases e:most<=m.next.length
 ·rw[if_pos e] at h
  exact absurd h (by simp)
 ·rw[if_neg e] at h
  rw[if_neg e,if_neg e];exact⟨h,by show(m.next++[zeros]).length=_;simp,rfl⟩
structure Mk.Has (m:Mk):Prop where
 one:1<=m.next.length
 of:∀x∈m.of,0<=x∧x<(m.next.length:Int)
theorem zJ5 (k:Kd)(most j:Nat)(h:(zZ k most j).full=false):(zZ k most j).Has:=by
 induction j with
 |zero=>
  have h1:=zDu (m:=Mk.blank) (most:=most) (r:=-1) h;exact⟨by show 1<=(Mk.blank.add most (-1)).next.length;rw[h1.2.1];omega,fun x hx=>by rw[show (zZ k most 0).of=[] from zCU _ _ _] at hx;exact absurd hx List.not_mem_nil⟩
 |succ j ih=>
  unfold zZ at h ⊢;split at h
  ·rename_i hd
   rw[if_pos hd];have:=ih h;refine⟨this.one,fun x hx=>?_⟩;rcases kU.1 hx with h1|h1
   ·exact this.of x h1
   ·rw[kY.1 h1]
    have:=this.one;exact⟨by omega,by show(0:Int)<((zZ k most j).next.length:Nat);omega⟩
  ·rename_i hd
   rw[if_neg hd];have h1:=zDu (m:=zZ k most j) (most:=most) (r:=k.rules.getD j 0) h;have h2:=ih h1.1;have h3:=h2.one;refine⟨by show 1<=((zZ k most j).add most (k.rules.getD j 0)).next.length;omega,fun x hx=>?_⟩;show 0<=x∧x<(((zZ k most j).add most (k.rules.getD j 0)).next.length:Nat);rw[h1.2.1];rcases kU.1 hx with h4|h4
   ·have:=h2.of x h4
    omega
   ·rw[kY.1 h4,h1.2.2]
    omega
def qY (k:Kd)(a:Ar)(most:Nat):Nat->Mk
 |0=>zZ k most k.rows.length
 |j+1=>if j≠k.dead∧(qY k a most j).full=false then zBF k a most j ((qY k a most j).of.getD j 0).toNat (qY k a most j) else qY k a most j
theorem zDK (k:Kd)(a:Ar)(most j:Nat):(qY k a most j).Fit most∧(qY k a most j).of=(zZ k most k.rows.length).of∧(zZ k most k.rows.length).next.length<=(qY k a most j).next.length∧((qY k a most j).full=false->(zZ k most k.rows.length).full=false):=by
 induction j with
 |zero=>exact⟨(zDx k most _).1,rfl,lQ,id⟩
 |succ j ih=>
  unfold qY;split
  ·rename_i hc
   have:=zJo k a j ((qY k a most j).of.getD j 0).toNat ih.1;exact⟨this.1,this.2.1.trans ih.2.1,lY ih.2.2.1 this.2.2,fun _=>ih.2.2.2 hc.2⟩
  ·exact ih
theorem zH9 (k:Kd)(a:Ar)(most j:Nat)(h:(qY k a most j).full=false):(qY k a most j).Has∧(qY k a most j).of.length=k.rows.length:=by
 obtain⟨_,h2,h3,h4⟩:=zDK k a most j;have hw:=zJ5 k most k.rows.length (h4 h);have:=hw.one;refine⟨⟨by omega,fun x hx=>?_⟩,by rw[h2];exact(zDx k most _).2⟩;rw[h2] at hx;have:=hw.of x hx;omega
def yA (k:Kd)(a:Ar)(most:Nat):Mk:=qY k a most k.rows.length
theorem Mw.tables {w0 w:World}{mb kb most r0:Nat}{m:Mk}{nv rv ov:Value}{gs:Nat->Nat}{c:Array Value}(h:Mw w0 w mb kb most m nv rv ov gs)(hr:w.heap[r0]? =some (.cells c 127)):IntRows w (fun g=>g<w.heap.size∧g≠mb∧g≠r0∧w0.heap.size<=g) nv m.next∧Ints w (fun g=>g<w.heap.size∧g≠mb∧g≠r0∧w0.heap.size<=g) rv m.rules:=by
 have hbx:=h.box;have n1:=zL h.nOwn hr (by decide);have n2:=zL h.rOwn hr (by decide);have n3:∀i,i<m.next.length->gs i≠r0:=fun i hi e=>by
  have:=(h.each i hi).1;rw[e,hr] at this;simp at this
 constructor
 ·by_cases h0:m.next.length=0
  ·rcases h.nOwn.2 with⟨hv,_⟩|⟨g,cap,cur,hv,hH,hh,h1,h2,h3,h4⟩
   ·exact⟨none,0,by rw[hv,h0],by rw[h0];exact lQ,by unfold maxLen;omega,fun i hi=>by omega⟩
   ·exact⟨_,cap,hv,h1,h2,fun i hi=>by omega⟩
  ·obtain⟨g,cap,hv,hH,hl,h1,h2,h3,_⟩:=h.nOwn.get (by omega)
   have hgb:nv.ownBlock=some g:=by rw[hv];rfl
   refine⟨_,cap,hv,h1,h2,fun i hi=>⟨g,0,_,rfl,⟨hl,fun e=>hbx.1 (by rw[hgb,e]),fun e=>n1 (by rw[hgb,e]),hH⟩,by rw[Nat.zero_add];exact h3 i hi,?_⟩⟩;have hlen:=(h.each i hi).2.2;exact⟨_,256,by rw[hlen],by rw[hlen];exact lQ,by unfold maxLen;omega,fun b hb=>⟨gs i,0,rfl,⟨h.gl i hi,hbx.2.2.2 i hi,n3 i hi,(h.each i hi).2.1⟩,by rw[Nat.zero_add];exact(h.row i b hi (by omega)).1⟩⟩
 ·exact zBT h.rOwn fun g hg=>⟨(h.rOwn.lt g hg).2,fun e=>hbx.2.1 (by rw[hg,e]),fun e=>n2 (by rw[hg,e]),(h.rOwn.lt g hg).1⟩
theorem IntRows.moved {w w':World}{S S':Nat->Prop}{v:Value}{l:List (List Int)}(h:IntRows w S v l)(e:∀b,S b->w'.heap[b]? =w.heap[b]?)(e2:∀b,S b->S' b):IntRows w' S' v l:=(h.keep e).mono e2
end Go.Proofs.YtbjcfkdnjaiclaaGreat
