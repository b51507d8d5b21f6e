import Derived.Deep.DrawnRows
import Derived.Deep.RegionLaw
import Derived.Test.YtbjcfkdnjaiclaaGreatE0
import Derived.Test.YtbjcfkdnjaiclaaGreatE5
/- Parts of the proof. -/
set_option linter.unusedVariables false
set_option linter.unusedSimpArgs false
set_option maxHeartbeats 4000000
set_option maxRecDepth 100000
namespace Go.Proofs.YtbjcfkdnjaiclaaGreat
open Go.RowKit Go.Proofs.Tryz Go.World
open Go.Value (int slice bool pointer string agg tuple)
open Go.IntKind (i64)
open Go.Ending (returned)
theorem zJz (w0 w:World)(mb kb most:Nat)(m:Mk)(h:MwIs w0 w mb kb most m)(hmost:most<=1000000)(fit:m.Fit most)(k:Kd)(a:Ar)(hK:KdAt w0 kb a k)(ok:k.Ok a)(kind s:Nat)(hk:kind<k.rows.length)(hof:m.of.length=k.rows.length)(hs:m.of.getD kind 0=(s:Int))(hsn:s<m.next.length):
  Calls prog 97 #[pointer (some ⟨mb,0,none⟩),int i64 (kind:Int)] w fun e w'=>e=returned (tuple #[])∧MwIs w0 w' mb kb most (zA6 k a most kind s m)∧StayT w w':=by
 have HH:Hid (MwIs w0 w mb kb most m):=h;have HLEAD:Hid (∀wr m2,MwIs w0 wr mb kb most m2->m2.of=m.of->s<m2.next.length->∀b:Nat,b<256->∀x:Int,Ca 135 #[pointer (some ⟨mb,0,none⟩),int i64 (kind:Int),int i64 (b:Int),int i64 x] wr fun e w'=>e=returned (tuple #[])∧MwIs w0 w' mb kb most (m2.put s b x)∧StayT wr w'):=fun wr m2 hM hO hl b hb x=>zJo w0 wr mb kb most m2 hM kind b s (by rw[hO,hof];exact hk) (by rw[hO];exact hs) hl hb x;have HSUB1:Hid (∀wr m2,MwIs w0 wr mb kb most m2->m2.Fit most->m2.of=m.of->∀b:Nat,0<=b->b<=127->∀y:Int,y=(b:Int)->Ca 134 #[pointer (some ⟨mb,0,none⟩),int i64 (kind:Int),int i64 y] wr fun e w'=>e=returned (int i64 (zD8 k a kind m2 b).1)∧MwIs w0 w' mb kb most (zD8 k a kind m2 b).2∧StayT wr w'):=by
  intro wr m2 hM hF hO b hb1 hb2 y hy;subst hy;refine(zBW w0 wr mb kb most m2 hM k a hK ok kind hk (by rw[hO];exact hof) (b:Int)).mono ?_;rintro e w2 ⟨rfl,hk2⟩;exact⟨rfl,hM.grown hk2,hk2.stayT⟩
 have HSUB2:Hid (∀wr m2,MwIs w0 wr mb kb most m2->m2.Fit most->m2.of=m.of->∀b:Nat,194<=b->b<=223->∀y:Int,y=((b:Int)-192)*64->Ca 136 #[pointer (some ⟨mb,0,none⟩),int i64 (kind:Int),int i64 y,int i64 1] wr fun e w'=>e=returned (int i64 (zCR k a most kind m2 b).1)∧MwIs w0 w' mb kb most (zCR k a most kind m2 b).2∧StayT wr w'):=by
  intro wr m2 hM hF hO b hb1 hb2 y hy;rw[hy,show((b:Int)-192)*64=(((b-192)*64:Nat):Int) by omega];exact zCr w0 wr mb kb most m2 hM hmost hF k a hK ok kind hk (by rw[hO];exact hof) _ (by omega)
 have HSUB3:Hid (∀wr m2,MwIs w0 wr mb kb most m2->m2.Fit most->m2.of=m.of->∀b:Nat,224<=b->b<=239->∀y:Int,y=((b:Int)-224)*4096->Ca 136 #[pointer (some ⟨mb,0,none⟩),int i64 (kind:Int),int i64 y,int i64 64] wr fun e w'=>e=returned (int i64 (zCQ k a most kind m2 b).1)∧MwIs w0 w' mb kb most (zCQ k a most kind m2 b).2∧StayT wr w'):=by
  intro wr m2 hM hF hO b hb1 hb2 y hy;rw[hy,show((b:Int)-224)*4096=(((b-224)*4096:Nat):Int) by omega];exact zCq w0 wr mb kb most m2 hM hmost hF k a hK ok kind hk (by rw[hO];exact hof) _ (by omega)
 have HSUB4:Hid (∀wr m2,MwIs w0 wr mb kb most m2->m2.Fit most->m2.of=m.of->∀b:Nat,240<=b->b<=244->∀y:Int,y=((b:Int)-240)*262144->Ca 136 #[pointer (some ⟨mb,0,none⟩),int i64 (kind:Int),int i64 y,int i64 4096] wr fun e w'=>e=returned (int i64 (zCP k a most kind m2 b).1)∧MwIs w0 w' mb kb most (zCP k a most kind m2 b).2∧StayT wr w'):=by
  intro wr m2 hM hF hO b hb1 hb2 y hy;rw[hy,show((b:Int)-240)*262144=(((b-240)*262144:Nat):Int) by omega];exact zFQ w0 wr mb kb most m2 hM hmost hF k a hK ok kind hk (by rw[hO];exact hof) _ (by omega)
 obtain⟨FL1,hFL1⟩:∃FL,FL=qV (zD8 k a kind) s 0 (m):=⟨_,rfl⟩
 have HF1:Hid (FL1 0=m∧FL1 128=zDa k a kind s m∧(∀j,FL1 (j+1)=((zD8 k a kind) (FL1 j) (0+j)).2.put s (0+j) ((zD8 k a kind) (FL1 j) (0+j)).1)∧∀j,(FL1 j).Fit most∧(FL1 j).of=m.of∧s<(FL1 j).next.length∧s<((zD8 k a kind) (FL1 j) (0+j)).2.next.length∧((zD8 k a kind) (FL1 j) (0+j)).2.of=m.of):=by
  rw[hFL1];exact⟨rfl,rfl,fun j=>rfl,zAQ (zB5 k a most kind).1 (zB5 k a most kind).2 ⟨fit,rfl,lQ⟩ hsn⟩
 clear hFL1;obtain⟨FL2,hFL2⟩:∃FL,FL=qV (zCR k a most kind) s 194 (zDa k a kind s m):=⟨_,rfl⟩
 have HF2:Hid (FL2 0=zDa k a kind s m∧FL2 30=zC9 k a most kind s m∧(∀j,FL2 (j+1)=((zCR k a most kind) (FL2 j) (194+j)).2.put s (194+j) ((zCR k a most kind) (FL2 j) (194+j)).1)∧∀j,(FL2 j).Fit most∧(FL2 j).of=m.of∧s<(FL2 j).next.length∧s<((zCR k a most kind) (FL2 j) (194+j)).2.next.length∧((zCR k a most kind) (FL2 j) (194+j)).2.of=m.of):=by
  rw[hFL2];exact⟨rfl,rfl,fun j=>rfl,zAQ (zB4 k a most kind).1 (zB4 k a most kind).2 (zFl k a kind s fit) hsn⟩
 clear hFL2;obtain⟨FL3,hFL3⟩:∃FL,FL=qV (zCQ k a most kind) s 224 (zC9 k a most kind s m):=⟨_,rfl⟩
 have HF3:Hid (FL3 0=zC9 k a most kind s m∧FL3 16=zC8 k a most kind s m∧(∀j,FL3 (j+1)=((zCQ k a most kind) (FL3 j) (224+j)).2.put s (224+j) ((zCQ k a most kind) (FL3 j) (224+j)).1)∧∀j,(FL3 j).Fit most∧(FL3 j).of=m.of∧s<(FL3 j).next.length∧s<((zCQ k a most kind) (FL3 j) (224+j)).2.next.length∧((zCQ k a most kind) (FL3 j) (224+j)).2.of=m.of):=by
  rw[hFL3];exact⟨rfl,rfl,fun j=>rfl,zAQ (zB3 k a most kind).1 (zB3 k a most kind).2 (zFk k a kind s fit) hsn⟩
 clear hFL3;obtain⟨FL4,hFL4⟩:∃FL,FL=qV (zCP k a most kind) s 240 (zC8 k a most kind s m):=⟨_,rfl⟩
 have HF4:Hid (FL4 0=zC8 k a most kind s m∧FL4 5=zA6 k a most kind s m∧(∀j,FL4 (j+1)=((zCP k a most kind) (FL4 j) (240+j)).2.put s (240+j) ((zCP k a most kind) (FL4 j) (240+j)).1)∧∀j,(FL4 j).Fit most∧(FL4 j).of=m.of∧s<(FL4 j).next.length∧s<((zCP k a most kind) (FL4 j) (240+j)).2.next.length∧((zCP k a most kind) (FL4 j) (240+j)).2.of=m.of):=by
  rw[hFL4];exact⟨rfl,rfl,fun j=>rfl,zAQ (zB2 k a most kind).1 (zB2 k a most kind).2 (zFj k a kind s fit) hsn⟩
 clear hFL4;clear h fit hK ok hk hof hs hsn hmost;generalize hs1:zD8 k a kind=SB1 at *;clear hs1;generalize hs2:zCR k a most kind=SB2 at *;clear hs2;generalize hs3:zCQ k a most kind=SB3 at *;clear hs3;generalize hs4:zCP k a most kind=SB4 at *;clear hs4;generalize hm1:zDa k a kind s m=M1 at *;clear hm1;generalize hm2:zC9 k a most kind s m=M2 at *;clear hm2;generalize hm3:zC8 k a most kind s m=M3 at *;clear hm3;generalize hm4:zA6 k a most kind s m=M4 at *;clear hm4;go_enter func97,ntmps97
 go_wp2_with fail;go_loopg [4] 128 (fun q v wr=>∃j b:Nat,q=128-j∧j<=128∧b=0+j∧v=int i64 (b:Int)∧MwIs w0 wr mb kb most (FL1 j)∧StayT w wr)
 case atStart=>exact⟨0,0,rfl,lX,rfl,rfl,by rw[HF1.out.1];exact HH.out,StayT.refl _⟩
 case round=>
  obtain⟨j,b,hgk,hj,hb,rfl,hM,hS⟩:=hrel;have HB:Hid (gk=128-j∧MwIs w0 wr mb kb most (FL1 j)∧StayT w wr):=⟨hgk,hM,hS⟩
  by_cases hj2:j<128
  ·have i1:(b:Int)<128:=by omega
   have i2:(b:Int)<256:=by omega
   obtain⟨hF,hO,hsl,hsl2,hO2⟩:=HF1.out.2.2.2 j;have HC:Hid (∀y:Int,y=(b:Int)->Ca 134 #[pointer (some ⟨mb,0,none⟩),int i64 (kind:Int),int i64 y] wr fun e w'=>e=returned (int i64 (SB1 (FL1 j) b).1)∧MwIs w0 w' mb kb most (SB1 (FL1 j) b).2∧StayT wr w'):=HSUB1.out wr _ hM hF hO b (by omega) (by omega);have HN:Hid (FL1 (j+1)=(SB1 (FL1 j) b).2.put s b (SB1 (FL1 j) b).1):=by have h:=HF1.out.2.2.1 j;rw[<-hb] at h;exact h
   rw[<-hb] at hsl2 hO2;have HLD:Hid (∀w5,MwIs w0 w5 mb kb most (SB1 (FL1 j) b).2->∀x:Int,Ca 135 #[pointer (some ⟨mb,0,none⟩),int i64 (kind:Int),int i64 (b:Int),int i64 x] w5 fun e w'=>e=returned (tuple #[])∧MwIs w0 w' mb kb most ((SB1 (FL1 j) b).2.put s b x)∧StayT w5 w'):=fun w5 h5 x=>HLEAD.out w5 _ h5 hO2 hsl2 b (by omega) x;have Hb:Hid (b=0+j):=hb;clear hgk hM hS hF hO hsl hsl2 hO2 hb;generalize (SB1 (FL1 j) b).1=r1 at *;generalize (SB1 (FL1 j) b).2=m5 at *;go_wp2_with (first|(go_at_call 134;refine(HC.out _ (by omega)).mono ?_;rintro e w5 ⟨rfl,hM5,hS5⟩)|(go_at_call 135;refine(HLD.out w5 hM5 r1).mono ?_;rintro e w6 ⟨rfl,hM6,hS6⟩))
   go_roundg (128-(j+1))
   case measure=>rw[HB.out.1];omega
   case rel=>exact⟨j+1,b+1,rfl,by omega,by have:=Hb.out;omega,by go_num,by rw[HN.out];exact hM6,(HB.out.2.2.trans hS5).trans hS6⟩
  ·have i1:128<=(b:Int):=by omega
   have hje:j=128:=by omega
   have HM1:Hid (MwIs w0 wr mb kb most M1∧StayT w wr):=by
    rw[hje,HF1.out.2.1] at hM;exact⟨hM,hS⟩
   clear hgk hM hS HB hje hj2 hj hb;go_wp2_with fail;go_loopg [6] 30 (fun q v wr=>∃j b:Nat,q=30-j∧j<=30∧b=194+j∧v=int i64 (b:Int)∧MwIs w0 wr mb kb most (FL2 j)∧StayT w wr)
   case atStart=>exact⟨0,194,rfl,lX,rfl,rfl,by rw[HF2.out.1];exact HM1.out.1,HM1.out.2⟩
   case round=>
    obtain⟨j,b,hgk,hj,hb,rfl,hM,hS⟩:=hrel;have HB:Hid (gk=30-j∧MwIs w0 wr mb kb most (FL2 j)∧StayT w wr):=⟨hgk,hM,hS⟩
    by_cases hj2:j<30
    ·have i1:(b:Int)<=223:=by omega
     have i2:(b:Int)<256:=by omega
     obtain⟨hF,hO,hsl,hsl2,hO2⟩:=HF2.out.2.2.2 j;have HC:Hid (∀y:Int,y=((b:Int)-192)*64->Ca 136 #[pointer (some ⟨mb,0,none⟩),int i64 (kind:Int),int i64 y,int i64 1] wr fun e w'=>e=returned (int i64 (SB2 (FL2 j) b).1)∧MwIs w0 w' mb kb most (SB2 (FL2 j) b).2∧StayT wr w'):=HSUB2.out wr _ hM hF hO b (by omega) (by omega);have HN:Hid (FL2 (j+1)=(SB2 (FL2 j) b).2.put s b (SB2 (FL2 j) b).1):=by have h:=HF2.out.2.2.1 j;rw[<-hb] at h;exact h
     rw[<-hb] at hsl2 hO2;have HLD:Hid (∀w5,MwIs w0 w5 mb kb most (SB2 (FL2 j) b).2->∀x:Int,Ca 135 #[pointer (some ⟨mb,0,none⟩),int i64 (kind:Int),int i64 (b:Int),int i64 x] w5 fun e w'=>e=returned (tuple #[])∧MwIs w0 w' mb kb most ((SB2 (FL2 j) b).2.put s b x)∧StayT w5 w'):=fun w5 h5 x=>HLEAD.out w5 _ h5 hO2 hsl2 b (by omega) x;have Hb:Hid (b=194+j):=hb;clear hgk hM hS hF hO hsl hsl2 hO2 hb;generalize (SB2 (FL2 j) b).1=r1 at *;generalize (SB2 (FL2 j) b).2=m5 at *;go_wp2_with (first|(go_at_call 136;refine(HC.out _ (by omega)).mono ?_;rintro e w5 ⟨rfl,hM5,hS5⟩)|(go_at_call 135;refine(HLD.out w5 hM5 r1).mono ?_;rintro e w6 ⟨rfl,hM6,hS6⟩))
     go_roundg (30-(j+1))
     case measure=>rw[HB.out.1];omega
     case rel=>exact⟨j+1,b+1,rfl,by omega,by have:=Hb.out;omega,by go_num,by rw[HN.out];exact hM6,(HB.out.2.2.trans hS5).trans hS6⟩
    ·have i1:223<(b:Int):=by omega
     have hje:j=30:=by omega
     have HM2:Hid (MwIs w0 wr mb kb most M2∧StayT w wr):=by
      rw[hje,HF2.out.2.1] at hM;exact⟨hM,hS⟩
     clear hgk hM hS HB hje hj2 hj hb;go_wp2_with fail;go_loopg [8] 16 (fun q v wr=>∃j b:Nat,q=16-j∧j<=16∧b=224+j∧v=int i64 (b:Int)∧MwIs w0 wr mb kb most (FL3 j)∧StayT w wr)
     case atStart=>exact⟨0,224,rfl,lX,rfl,rfl,by rw[HF3.out.1];exact HM2.out.1,HM2.out.2⟩
     case round=>
      obtain⟨j,b,hgk,hj,hb,rfl,hM,hS⟩:=hrel;have HB:Hid (gk=16-j∧MwIs w0 wr mb kb most (FL3 j)∧StayT w wr):=⟨hgk,hM,hS⟩
      by_cases hj2:j<16
      ·have i1:(b:Int)<=239:=by omega
       have i2:(b:Int)<256:=by omega
       obtain⟨hF,hO,hsl,hsl2,hO2⟩:=HF3.out.2.2.2 j;have HC:Hid (∀y:Int,y=((b:Int)-224)*4096->Ca 136 #[pointer (some ⟨mb,0,none⟩),int i64 (kind:Int),int i64 y,int i64 64] wr fun e w'=>e=returned (int i64 (SB3 (FL3 j) b).1)∧MwIs w0 w' mb kb most (SB3 (FL3 j) b).2∧StayT wr w'):=HSUB3.out wr _ hM hF hO b (by omega) (by omega);have HN:Hid (FL3 (j+1)=(SB3 (FL3 j) b).2.put s b (SB3 (FL3 j) b).1):=by have h:=HF3.out.2.2.1 j;rw[<-hb] at h;exact h
       rw[<-hb] at hsl2 hO2;have HLD:Hid (∀w5,MwIs w0 w5 mb kb most (SB3 (FL3 j) b).2->∀x:Int,Ca 135 #[pointer (some ⟨mb,0,none⟩),int i64 (kind:Int),int i64 (b:Int),int i64 x] w5 fun e w'=>e=returned (tuple #[])∧MwIs w0 w' mb kb most ((SB3 (FL3 j) b).2.put s b x)∧StayT w5 w'):=fun w5 h5 x=>HLEAD.out w5 _ h5 hO2 hsl2 b (by omega) x;have Hb:Hid (b=224+j):=hb;clear hgk hM hS hF hO hsl hsl2 hO2 hb;generalize (SB3 (FL3 j) b).1=r1 at *;generalize (SB3 (FL3 j) b).2=m5 at *;go_wp2_with (first|(go_at_call 136;refine(HC.out _ (by omega)).mono ?_;rintro e w5 ⟨rfl,hM5,hS5⟩)|(go_at_call 135;refine(HLD.out w5 hM5 r1).mono ?_;rintro e w6 ⟨rfl,hM6,hS6⟩))
       go_roundg (16-(j+1))
       case measure=>rw[HB.out.1];omega
       case rel=>exact⟨j+1,b+1,rfl,by omega,by have:=Hb.out;omega,by go_num,by rw[HN.out];exact hM6,(HB.out.2.2.trans hS5).trans hS6⟩
      ·have i1:239<(b:Int):=by omega
       have hje:j=16:=by omega
       have HM3:Hid (MwIs w0 wr mb kb most M3∧StayT w wr):=by
        rw[hje,HF3.out.2.1] at hM;exact⟨hM,hS⟩
       clear hgk hM hS HB hje hj2 hj hb;go_wp2_with fail;go_loopg [10] 5 (fun q v wr=>∃j b:Nat,q=5-j∧j<=5∧b=240+j∧v=int i64 (b:Int)∧MwIs w0 wr mb kb most (FL4 j)∧StayT w wr)
       case atStart=>exact⟨0,240,rfl,lX,rfl,rfl,by rw[HF4.out.1];exact HM3.out.1,HM3.out.2⟩
       case round=>
        obtain⟨j,b,hgk,hj,hb,rfl,hM,hS⟩:=hrel;have HB:Hid (gk=5-j∧MwIs w0 wr mb kb most (FL4 j)∧StayT w wr):=⟨hgk,hM,hS⟩
        by_cases hj2:j<5
        ·have i1:(b:Int)<=244:=by omega
         have i2:(b:Int)<256:=by omega
         obtain⟨hF,hO,hsl,hsl2,hO2⟩:=HF4.out.2.2.2 j;have HC:Hid (∀y:Int,y=((b:Int)-240)*262144->Ca 136 #[pointer (some ⟨mb,0,none⟩),int i64 (kind:Int),int i64 y,int i64 4096] wr fun e w'=>e=returned (int i64 (SB4 (FL4 j) b).1)∧MwIs w0 w' mb kb most (SB4 (FL4 j) b).2∧StayT wr w'):=HSUB4.out wr _ hM hF hO b (by omega) (by omega);have HN:Hid (FL4 (j+1)=(SB4 (FL4 j) b).2.put s b (SB4 (FL4 j) b).1):=by have h:=HF4.out.2.2.1 j;rw[<-hb] at h;exact h
         rw[<-hb] at hsl2 hO2;have HLD:Hid (∀w5,MwIs w0 w5 mb kb most (SB4 (FL4 j) b).2->∀x:Int,Ca 135 #[pointer (some ⟨mb,0,none⟩),int i64 (kind:Int),int i64 (b:Int),int i64 x] w5 fun e w'=>e=returned (tuple #[])∧MwIs w0 w' mb kb most ((SB4 (FL4 j) b).2.put s b x)∧StayT w5 w'):=fun w5 h5 x=>HLEAD.out w5 _ h5 hO2 hsl2 b (by omega) x;have Hb:Hid (b=240+j):=hb;clear hgk hM hS hF hO hsl hsl2 hO2 hb;generalize (SB4 (FL4 j) b).1=r1 at *;generalize (SB4 (FL4 j) b).2=m5 at *;go_wp2_with (first|(go_at_call 136;refine(HC.out _ (by omega)).mono ?_;rintro e w5 ⟨rfl,hM5,hS5⟩)|(go_at_call 135;refine(HLD.out w5 hM5 r1).mono ?_;rintro e w6 ⟨rfl,hM6,hS6⟩))
         go_roundg (5-(j+1))
         case measure=>rw[HB.out.1];omega
         case rel=>exact⟨j+1,b+1,rfl,by omega,by have:=Hb.out;omega,by go_num,by rw[HN.out];exact hM6,(HB.out.2.2.trans hS5).trans hS6⟩
        ·have i1:244<(b:Int):=by omega
         have hje:j=5:=by omega
         have HM4:Hid (MwIs w0 wr mb kb most M4∧StayT w wr):=by
          rw[hje,HF4.out.2.1] at hM;exact⟨hM,hS⟩
         clear hgk hM hS HB hje hj2 hj hb;go_wp2_with fail;go_end0;exact⟨rfl,HM4.out.1,HM4.out.2⟩
def Mk.blank:Mk:=⟨[],[],[],false⟩
def Mk.withOf (m:Mk)(l:List Int):Mk:={m with of:=l}
def zV (k:Kd)(most:Nat):Nat->Mk
 |0=>Mk.blank.add most (-1)
 |j+1=>if j=k.dead then(zV k most j).withOf ((zV k most j).of++[0]) else((zV k most j).add most (k.rules.getD j 0)).withOf ((zV k most j).of++[((zV k most j).addN most:Int)])
theorem zEx {m:Mk}{most:Nat}(h:m.Fit most)(l:List Int):(m.withOf l).Fit most:=⟨h.same,h.few⟩
theorem zB1 (k:Kd)(most j:Nat):(zV k most j).Fit most∧(zV k most j).of.length=j:=by
 induction j with
 |zero=>exact⟨zEr ⟨rfl,lX⟩ _,by show(Mk.blank.add most (-1)).of.length=0;rw[zCH];rfl⟩
 |succ j ih=>
  unfold zV;split
  ·exact⟨zEx ih.1 _,by show((zV k most j).of++[0]).length=j+1;rw[kX,ih.2];rfl⟩
  ·exact⟨zEx (zEr ih.1 _) _,by show((zV k most j).of++[_]).length=j+1;rw[kX,ih.2];rfl⟩
theorem zFz (w0 w:World)(mb kb most:Nat)(h:MwIs w0 w mb kb most Mk.blank)(hmost:most<=1000000)(k:Kd)(a:Ar)(hK:KdAt w0 kb a k)(hlen:k.rules.length=k.rows.length)(hrl:k.rows.length<=10000000000):
  Calls prog 96 #[pointer (some ⟨mb,0,none⟩)] w fun e w'=>e=returned (tuple #[])∧MwIs w0 w' mb kb most (zV k most k.rows.length)∧StayT w w':=by
 obtain⟨i0,hi0,hz0,hz1,hz2⟩:=info_parts yJ;have HADD:Hid (∀wr m2,MwIs w0 wr mb kb most m2->m2.Fit most->∀r:Int,Ca 133 #[pointer (some ⟨mb,0,none⟩),int i64 r] wr fun e w'=>e=returned (int i64 ((m2.addN most:Nat):Int))∧MwIs w0 w' mb kb most (m2.add most r)∧StayT wr w'):=fun wr m2 hM hF r=>zD6 w0 wr mb kb most m2 hM hmost (by have:=hF.same;have:=hF.few;omega) r;have HFB:Hid (Mk.blank.Fit most):=⟨rfl,lX⟩
 have HH:=vl h;have HKC:Hid (∀wr m2,MwIs w0 wr mb kb most m2->∃kn cn ar cr,wr.cell? ⟨mb,0,none⟩=some (pointer (some ⟨kb,0,none⟩))∧wr.cell? ⟨kb,3,none⟩=some (slice kn k.rows.length cn)∧wr.cell? ⟨kb,4,none⟩=some (slice ar k.rows.length cr)∧wr.cell? ⟨kb,6,none⟩=some (int i64 (k.dead:Int))∧∀i,i<k.rows.length->∃b o,ar=some ⟨b,o,none⟩∧wr.cell? ⟨b,o+i,none⟩=some (int i64 (k.rules.getD i 0))):=by
  rintro wr m2 ⟨nv,rv,ov,gs,hM⟩;obtain⟨hkl,lv,tv,sv,kn,kr,hkb,hka,hkn,hkr⟩:=hK.grown hM.keep;obtain⟨an,cn,rfl,-⟩:=hkn;obtain⟨ar,cr,rfl,_,_,hrc⟩:=hkr;rw[kV] at hkb;rw[hlen] at hkb hrc;refine⟨an,cn,ar,cr,hM.cells.1,?_,?_,?_,fun i hi=>?_⟩
  ·unfold cell?;rw[hkb];rfl
  ·unfold cell?;rw[hkb];rfl
  ·unfold cell?;rw[hkb];rfl
  ·obtain⟨b,o,h1,_,h2⟩:=hrc i hi
   exact⟨b,o,h1,h2⟩
 obtain⟨WH,hWH⟩:∃WH,WH=zV k most:=⟨_,rfl⟩
 have HW:Hid (WH 0=Mk.blank.add most (-1)∧(∀j,j=k.dead->WH (j+1)=(WH j).withOf ((WH j).of++[0]))∧(∀j,j≠k.dead->WH (j+1)=((WH j).add most (k.rules.getD j 0)).withOf ((WH j).of++[((WH j).addN most:Int)]))∧(∀j,(WH j).Fit most∧(WH j).of.length=j)∧WH k.rows.length=zV k most k.rows.length):=by
  rw[hWH];exact⟨rfl,fun j hj=>if_pos hj,fun j hj=>if_neg hj,fun j=>zB1 k most j,rfl⟩
 generalize zV k most k.rows.length=WE at *;clear hWH h hK hlen;go_in;go_wp2_with (first|(go_at_call 133;refine(HADD.out w _ HH.out HFB.out (-1)).mono ?_;rintro e w1 ⟨rfl,hM1,hS1⟩;obtain⟨kn,cn,ar,cr,y0,y3,y4,y6,-⟩:=HKC.out w1 _ hM1;have HM1:Hid (MwIs w0 w1 mb kb most (WH 0)∧StayT w w1):=⟨(by rw[HW.out.1];exact hM1),hS1⟩;clear hM1 hS1))
 clear y0 y3 y4 y6;go_loopg [14] k.rows.length (fun q i wr=>∃j:Nat,q=k.rows.length-j∧j<=k.rows.length∧i=int i64 (j:Int)∧MwIs w0 wr mb kb most (WH j)∧StayT w wr)
 case atStart=>exact⟨0,rfl,lX,rfl,HM1.out.1,HM1.out.2⟩
 case round=>
  obtain⟨j,hgk,hj,rfl,hM,hS⟩:=hrel;have HB:Hid (gk=k.rows.length-j∧MwIs w0 wr mb kb most (WH j)∧StayT w wr):=⟨hgk,hM,hS⟩
  obtain⟨kn2,cn2,ar2,cr2,y0,y3,y4,y6,yr⟩:=HKC.out wr _ hM;by_cases hj2:j<k.rows.length
  ·have i1:(j:Int)<(k.rows.length:Int):=by omega
   obtain⟨b,o,rfl,yc⟩:=yr j hj2;by_cases hd:j=k.dead
   ·have hdc:((j:Int)==(k.dead:Int))=true:=by simp;omega
    have HN:=vl <| HW.out.2.1 j hd;have hol:=(HW.out.2.2.2.1 j).2;obtain⟨nv,rv,ov,gs,hMw⟩:=hM;obtain⟨ao,co,hov⟩:=hMw.oOwn.form;rw[hol] at hov;subst hov;have x6:=hMw.cells.2.2.2.2.2.1;have hlt:=hMw.lt;have hH:w0.heap.size<=wr.heap.size:=hMw.keep.size;have HMw:=vl hMw;have OR:wr.ownsRow w0.heap.size 3 1 (slice ao j co) j ((WH j).of.map fun x=>int i64 x):=by have:=hMw.oOwn;unfold OwnI at this;rw[hol] at this;exact this
    clear hgk hS hMw yr hd y3 y4 yc;go_wp2_with (first|(at_builtin;refine wpList_append_lies _ rfl _ _ 45 rfl (w0.heap.size) 3 i0 (int i64 0) 1 8 underlying45 hi0 hz0 hz1 hz2 rfl (by decide) _ _ _ rfl (OR.alloc _) ⟨wr.heap.size,0,none⟩ 1 1 [int i64 0] rfl rfl (cell_one_new _ _ _) (by intro u hu;simp at hu;subst hu;rfl) (by decide) (by unfold maxLen;omega) (by omega) (by simp;omega) _ rfl ?_;intro gg cap w5 hown hgrow hat hlt5;have hPB:w5.heap[mb]? =wr.heap[mb]? :=(hgrow.block _ (by simp;omega) HMw.out.box.2.2.1).trans (lG _ _ _ (by omega));have t6:w5.cell? ⟨mb,6,none⟩=some (slice ao j co):=(cell?_of_block hPB).trans x6;have g6:w5.frozen? ⟨mb,6,none⟩=false:=(frozen?_of_block hPB).trans (HMw.out.cells.2.2.2.2.2.2 6);have HM6:=HMw.out.newOf hol.symm hown hgrow (by rcases hat with ha|ha;exact .inl ha;right;rw[ha];simp)))
    go_roundg (k.rows.length-(j+1))
    case measure=>rw[HB.out.1];omega
    case rel=>exact⟨j+1,rfl,by omega,by go_num,by rw[HN.out];exact⟨_,_,_,_,HM6.1⟩,HB.out.2.2.trans HM6.2⟩
   ·have hdc:((j:Int)==(k.dead:Int))=false:=by simp;omega
    have HN:=vl <| HW.out.2.2.1 j hd;have hol:((WH j).add most (k.rules.getD j 0)).of.length=j:=by rw[zCH];exact(HW.out.2.2.2.1 j).2
    have hof2:((WH j).add most (k.rules.getD j 0)).of=(WH j).of:=zCH _ _ _;rw[<-hof2] at HN;have HC:Hid (Ca 133 #[pointer (some ⟨mb,0,none⟩),int i64 (k.rules.getD j 0)] wr fun e w'=>e=returned (int i64 (((WH j).addN most:Nat):Int))∧MwIs w0 w' mb kb most ((WH j).add most (k.rules.getD j 0))∧StayT wr w'):=HADD.out wr _ hM (HW.out.2.2.2.1 j).1 _;clear hgk hM hS yr hd y3 hof2;generalize k.rules.getD j 0=r at *;generalize (WH j).addN most=s at *;generalize (WH j).add most r=m5 at *;go_wp2_with (first|(go_at_call 133;refine HC.out.mono ?_;rintro e w5 ⟨rfl,⟨nv,rv,ov,gs,hMw⟩,hS5⟩;obtain⟨ao,co,hov⟩:=hMw.oOwn.form;rw[hol] at hov;subst hov;have x6:=hMw.cells.2.2.2.2.2.1;have hlt:=hMw.lt;have hH:w0.heap.size<=w5.heap.size:=hMw.keep.size;have HMw:Hid (Mw w0 w5 mb kb most m5 nv rv (slice ao j co) gs):=hMw;have OR:w5.ownsRow w0.heap.size 3 1 (slice ao j co) j (m5.of.map fun x=>int i64 x):=(by have:=hMw.oOwn;unfold OwnI at this;rw[hol] at this;exact this);clear hMw)|(at_builtin;refine wpList_append_lies _ rfl _ _ 45 rfl (w0.heap.size) 3 i0 (int i64 0) 1 8 underlying45 hi0 hz0 hz1 hz2 rfl (by decide) _ _ _ rfl (OR.alloc _) ⟨w5.heap.size,0,none⟩ 1 1 [int i64 (s:Int)] rfl rfl (cell_one_new _ _ _) (by intro u hu;simp at hu;subst hu;rfl) (by decide) (by unfold maxLen;omega) (by omega) (by simp;omega) _ rfl ?_;intro gg cap w6 hown hgrow hat hlt5;have hPB:w6.heap[mb]? =w5.heap[mb]? :=(hgrow.block _ (by simp;omega) HMw.out.box.2.2.1).trans (lG _ _ _ (by omega));have t6:w6.cell? ⟨mb,6,none⟩=some (slice ao j co):=(cell?_of_block hPB).trans x6;have g6:w6.frozen? ⟨mb,6,none⟩=false:=(frozen?_of_block hPB).trans (HMw.out.cells.2.2.2.2.2.2 6);have HM6:=HMw.out.newOf hol.symm hown hgrow (by rcases hat with ha|ha;exact .inl ha;right;rw[ha];simp)))
    go_roundg (k.rows.length-(j+1))
    case measure=>rw[HB.out.1];omega
    case rel=>exact⟨j+1,rfl,by omega,by go_num,by rw[HN.out];exact⟨_,_,_,_,HM6.1⟩,(HB.out.2.2.trans hS5).trans HM6.2⟩
  ·have i1:(k.rows.length:Int)<=(j:Int):=by omega
   have e:j=k.rows.length:=by omega
   subst e;have HE:Hid (MwIs w0 wr mb kb most WE∧StayT w wr):=⟨by rw[<-HW.out.2.2.2.2];exact hM,hS⟩
   clear hgk hM hS yr;go_wp2;go_end0;exact⟨rfl,HE.out.1,HE.out.2⟩
theorem zBt {m:Mk}{most:Nat}{r:Int}(h:(m.add most r).full=false):m.full=false∧(m.add most r).next.length=m.next.length+1∧m.addN most=m.next.length:=by
 unfold Mk.add at h ⊢;unfold Mk.addN;by_cases e:most<=m.next.length
 ·rw[if_pos e] at h
  exact absurd h (by simp)
 ·rw[if_neg e] at h
  rw[if_neg e,if_neg e];exact⟨h,by show(m.next++[zeros]).length=_;simp,rfl⟩
structure Mk.Has (m:Mk):Prop where
 one:1<=m.next.length
 of:∀x∈m.of,0<=x∧x<(m.next.length:Int)
theorem zFZ (k:Kd)(most j:Nat)(h:(zV k most j).full=false):(zV k most j).Has:=by
 induction j with
 |zero=>
  have h1:=zBt (m:=Mk.blank) (most:=most) (r:=-1) h;exact⟨by show 1<=(Mk.blank.add most (-1)).next.length;rw[h1.2.1];omega,fun x hx=>by rw[show (zV k most 0).of=[] from zCH _ _ _] at hx;exact absurd hx List.not_mem_nil⟩
 |succ j ih=>
  unfold zV at h ⊢;split at h
  ·rename_i hd
   rw[if_pos hd];have:=ih h;refine⟨this.one,fun x hx=>?_⟩;rcases kU.1 hx with h1|h1
   ·exact this.of x h1
   ·rw[kY.1 h1]
    have:=this.one;exact⟨by omega,by show(0:Int)<((zV k most j).next.length:Nat);omega⟩
  ·rename_i hd
   rw[if_neg hd];have h1:=zBt (m:=zV k most j) (most:=most) (r:=k.rules.getD j 0) h;have h2:=ih h1.1;have h3:=h2.one;refine⟨by show 1<=((zV k most j).add most (k.rules.getD j 0)).next.length;omega,fun x hx=>?_⟩;show 0<=x∧x<(((zV k most j).add most (k.rules.getD j 0)).next.length:Nat);rw[h1.2.1];rcases kU.1 hx with h4|h4
   ·have:=h2.of x h4
    omega
   ·rw[kY.1 h4,h1.2.2]
    omega
def qM (k:Kd)(a:Ar)(most:Nat):Nat->Mk
 |0=>zV k most k.rows.length
 |j+1=>if j≠k.dead∧(qM k a most j).full=false then zA6 k a most j ((qM k a most j).of.getD j 0).toNat (qM k a most j) else qM k a most j
theorem zB8 (k:Kd)(a:Ar)(most j:Nat):(qM k a most j).Fit most∧(qM k a most j).of=(zV k most k.rows.length).of∧(zV k most k.rows.length).next.length<=(qM k a most j).next.length∧((qM k a most j).full=false->(zV k most k.rows.length).full=false):=by
 induction j with
 |zero=>exact⟨(zB1 k most _).1,rfl,lQ,id⟩
 |succ j ih=>
  unfold qM;split
  ·rename_i hc
   have:=zJC k a j ((qM k a most j).of.getD j 0).toNat ih.1;exact⟨this.1,this.2.1.trans ih.2.1,lY ih.2.2.1 this.2.2,fun _=>ih.2.2.2 hc.2⟩
  ·exact ih
theorem zH8 (k:Kd)(a:Ar)(most j:Nat)(h:(qM k a most j).full=false):(qM k a most j).Has∧(qM k a most j).of.length=k.rows.length:=by
 obtain⟨_,h2,h3,h4⟩:=zB8 k a most j;have hw:=zFZ k most k.rows.length (h4 h);have:=hw.one;refine⟨⟨by omega,fun x hx=>?_⟩,by rw[h2];exact(zB1 k most _).2⟩;rw[h2] at hx;have:=hw.of x hx;omega
def xZ (k:Kd)(a:Ar)(most:Nat):Mk:=qM k a most k.rows.length
theorem Mw.tables {w0 w:World}{mb kb most r0:Nat}{m:Mk}{nv rv ov:Value}{gs:Nat->Nat}{c:Array Value}(h:Mw w0 w mb kb most m nv rv ov gs)(hr:w.heap[r0]? =some (.cells c 127)):IntRows w (fun g=>g<w.heap.size∧g≠mb∧g≠r0∧w0.heap.size<=g) nv m.next∧Ints w (fun g=>g<w.heap.size∧g≠mb∧g≠r0∧w0.heap.size<=g) rv m.rules:=by
 have hbx:=h.box;have n1:=zM h.nOwn hr (by decide);have n2:=zM h.rOwn hr (by decide);have n3:∀i,i<m.next.length->gs i≠r0:=fun i hi e=>by
  have:=(h.each i hi).1;rw[e,hr] at this;simp at this
 constructor
 ·by_cases h0:m.next.length=0
  ·rcases h.nOwn.2 with⟨hv,_⟩|⟨g,cap,cur,hv,hH,hh,h1,h2,h3,h4⟩
   ·exact⟨none,0,by rw[hv,h0],by rw[h0];exact lQ,by unfold maxLen;omega,fun i hi=>by omega⟩
   ·exact⟨_,cap,hv,h1,h2,fun i hi=>by omega⟩
  ·obtain⟨g,cap,hv,hH,hl,h1,h2,h3,_⟩:=h.nOwn.get (by omega)
   have hgb:nv.ownBlock=some g:=by rw[hv];rfl
   refine⟨_,cap,hv,h1,h2,fun i hi=>⟨g,0,_,rfl,⟨hl,fun e=>hbx.1 (by rw[hgb,e]),fun e=>n1 (by rw[hgb,e]),hH⟩,by rw[Nat.zero_add];exact h3 i hi,?_⟩⟩;have hlen:=(h.each i hi).2.2;exact⟨_,256,by rw[hlen],by rw[hlen];exact lQ,by unfold maxLen;omega,fun b hb=>⟨gs i,0,rfl,⟨h.gl i hi,hbx.2.2.2 i hi,n3 i hi,(h.each i hi).2.1⟩,by rw[Nat.zero_add];exact(h.row i b hi (by omega)).1⟩⟩
 ·exact zBJ h.rOwn fun g hg=>⟨(h.rOwn.lt g hg).2,fun e=>hbx.2.1 (by rw[hg,e]),fun e=>n2 (by rw[hg,e]),(h.rOwn.lt g hg).1⟩
theorem IntRows.moved {w w':World}{S S':Nat->Prop}{v:Value}{l:List (List Int)}(h:IntRows w S v l)(e:∀b,S b->w'.heap[b]? =w.heap[b]?)(e2:∀b,S b->S' b):IntRows w' S' v l:=(h.keep e).mono e2
def zDj (w:World)(k:Kd)(a:Ar)(most:Nat)(e:Ending)(w':World):Prop:=
 Grew w w'∧(((xZ k a most).full=true∧e=returned (tuple #[agg #[slice none 0 0,slice none 0 0,int i64 0],bool false]))∨((xZ k a most).full=false∧∃nv rv,e=returned (tuple #[agg #[nv,rv,int i64 ((xZ k a most).of.getD k.start 0)],bool true])∧IntRows w' (fun g=>w.heap.size<=g∧g<w'.heap.size) nv (xZ k a most).next∧Ints w' (fun g=>w.heap.size<=g∧g<w'.heap.size) rv (xZ k a most).rules))
theorem Mw.begin {w0 w:World}{kb most:Nat}(hk:Grew w0 w):Mw w0 (w.alloc (.cells #[pointer (some ⟨kb,0,none⟩),int i64 (most:Int),bool false,slice none 0 0,slice none 0 0,int i64 0,slice none 0 0] 183)) w.heap.size kb most Mk.blank (slice none 0 0) (slice none 0 0) (slice none 0 0) (fun _=>0):=
 ⟨gU _ _,ownsRow_nil _ _ _ _,fun i hi=>absurd hi (Nat.not_lt_zero _),OwnI.nil _ _,OwnI.nil _ _,fun i j hi=>absurd hi (Nat.not_lt_zero _),fun i hi=>absurd hi (Nat.not_lt_zero _),fun i hi=>absurd hi (Nat.not_lt_zero _),fun g hg=>(by cases hg),hk.size,hk.trans (kZ _ _ hk.size)⟩
theorem zGE (w:World)(kb most:Nat)(hmost:most<=1000000)(k:Kd)(a:Ar)(hK:KdAt w kb a k)(ok:k.Ok a)(hrl:k.rows.length<=10000000000):
  Calls prog 62 #[pointer (some ⟨kb,0,none⟩),int i64 (most:Int)] w (zDj w k a most):=by
 obtain⟨w1,hw1,K1⟩:∃w1,w1=w.alloc (.cells #[slice none 0 0,slice none 0 0,int i64 0] 127)∧Hid (Grew w w1∧w1.heap.size=w.heap.size+1∧w1.heap[w.heap.size]? =some (.cells #[slice none 0 0,slice none 0 0,int i64 0] 127)):=⟨_,rfl,kZ _ _ lQ,by simp,gU _ _⟩
 obtain⟨w2,hw2,K2⟩:∃w2,w2=w1.alloc (.cells #[pointer (some ⟨kb,0,none⟩),int i64 (most:Int),bool false,slice none 0 0,slice none 0 0,int i64 0,slice none 0 0] 183)∧Hid (MwIs w w2 (w.heap.size+1) kb most Mk.blank∧w2.heap[w.heap.size]? =some (.cells #[slice none 0 0,slice none 0 0,int i64 0] 127)):=by
  refine⟨_,rfl,⟨slice none 0 0,slice none 0 0,slice none 0 0,fun _=>0,?_⟩,?_⟩
  ·have h:=Mw.begin (kb:=kb) (most:=most) K1.out.1
   rw[K1.out.2.1] at h;exact h
  ·exact(lG _ _ _ (by rw[K1.out.2.1];omega)).trans K1.out.2.2
 have HSZ1:=vl K1.out.2.1;have HAW:=vl <| zFz w w2 (w.heap.size+1) kb most K2.out.1 hmost k a hK ok.lens hrl;have HKC:Hid (∀wr m2,MwIs w wr (w.heap.size+1) kb most m2->∃kn cn,wr.cell? ⟨w.heap.size+1,2,none⟩=some (bool m2.full)∧wr.cell? ⟨kb,3,none⟩=some (slice kn k.rows.length cn)∧wr.cell? ⟨kb,5,none⟩=some (int i64 (k.start:Int))∧wr.cell? ⟨kb,6,none⟩=some (int i64 (k.dead:Int))∧kb<wr.heap.size):=by
  rintro wr m2 ⟨nv,rv,ov,gs,hM⟩;obtain⟨hkl,lv,tv,sv,kn,kr,hkb,hka,hkn,hkr⟩:=hK.grown hM.keep;obtain⟨an,cn,rfl,-⟩:=hkn;rw[kV] at hkb;refine⟨an,cn,hM.cells.2.2.1,?_,?_,?_,hkl⟩
  all_goals (unfold cell?;rw[hkb];rfl)
 obtain⟨MT,hMT⟩:∃MT,MT=qM k a most:=⟨_,rfl⟩
 have HMT:Hid (MT 0=zV k most k.rows.length∧(∀j,j≠k.dead->(MT j).full=false->MT (j+1)=zA6 k a most j ((MT j).of.getD j 0).toNat (MT j))∧(∀j,¬(j≠k.dead∧(MT j).full=false)->MT (j+1)=MT j)∧(∀j,(MT j).Fit most)∧(∀j,(MT j).full=false->(MT j).Has∧(MT j).of.length=k.rows.length)∧MT k.rows.length=xZ k a most):=by
  rw[hMT];exact⟨rfl,fun j h1 h2=>if_pos ⟨h1,h2⟩,fun j h=>if_neg h,fun j=>(zB8 k a most j).1,fun j h=>zH8 k a most j h,rfl⟩
 have HFI:Hid (∀wr j,j<k.rows.length->MwIs w wr (w.heap.size+1) kb most (MT j)->(MT j).full=false->Ca 97 #[pointer (some ⟨w.heap.size+1,0,none⟩),int i64 ((j:Nat):Int)] wr fun e w'=>e=returned (tuple #[])∧MwIs w w' (w.heap.size+1) kb most (zA6 k a most j ((MT j).of.getD j 0).toNat (MT j))∧StayT wr w'):=fun wr j hj hM hf=>by
  obtain⟨hh,hol⟩:=HMT.out.2.2.2.2.1 j hf;have hx:=hh.of _ (zS (MT j).of j 0 (by omega));exact zJz w wr (w.heap.size+1) kb most (MT j) hM hmost (HMT.out.2.2.2.1 j) k a hK ok j _ hj hol (by omega) (by omega)
 have hstart:=ok.start;generalize hMM:xZ k a most=MM at *;have HANS:Hid (∀e w',zDj w k a most e w'↔Grew w w'∧((MM.full=true∧e=returned (tuple #[agg #[slice none 0 0,slice none 0 0,int i64 0],bool false]))∨(MM.full=false∧∃nv rv,e=returned (tuple #[agg #[nv,rv,int i64 (MM.of.getD k.start 0)],bool true])∧IntRows w' (fun g=>w.heap.size<=g∧g<w'.heap.size) nv MM.next∧Ints w' (fun g=>w.heap.size<=g∧g<w'.heap.size) rv MM.rules))):=fun e w'=>by unfold zDj;rw[hMM]
 go_in;apply wp_cut;intro K0 J;go_wp2;apply J.out;clear J;rw[<-hw1];clear hw1;apply wp_cut;intro K0 J;go_wp2;apply J.out;clear J;rw[<-hw2,HSZ1.out];clear hw2;go_wp2_with (first|(go_at_call 96;refine HAW.out.mono ?_;rintro e w3 ⟨rfl,hM3,hS3⟩;obtain⟨kn,cn,y2,y3,y5,y6,-⟩:=HKC.out w3 _ hM3;have HM3:Hid (MwIs w w3 (w.heap.size+1) kb most (MT 0)∧w3.heap[w.heap.size]? =some (.cells #[slice none 0 0,slice none 0 0,int i64 0] 127)):=⟨(by rw[HMT.out.1];exact hM3),hS3 _ _ _ K2.out.2 (by decide) (by decide) (by decide)⟩;clear hM3 hS3 y2 y5 y6))
 clear y3;go_loopg [19] k.rows.length (fun q i wr=>∃j:Nat,q=k.rows.length-j∧j<=k.rows.length∧i=int i64 (j:Int)∧MwIs w wr (w.heap.size+1) kb most (MT j)∧wr.heap[w.heap.size]? =some (.cells #[slice none 0 0,slice none 0 0,int i64 0] 127))
 case atStart=>exact⟨0,rfl,lX,rfl,HM3.out.1,HM3.out.2⟩
 case round=>
  obtain⟨j,hgk,hj,rfl,hM,hR⟩:=hrel;have HB:Hid (gk=k.rows.length-j∧MwIs w wr (w.heap.size+1) kb most (MT j)∧wr.heap[w.heap.size]? =some (.cells #[slice none 0 0,slice none 0 0,int i64 0] 127)):=⟨hgk,hM,hR⟩
  obtain⟨kn2,cn2,y2,y3,y5,y6,hkl⟩:=HKC.out wr _ hM;by_cases hj2:j<k.rows.length
  ·have i1:(j:Int)<(k.rows.length:Int):=by omega
   by_cases hd:j=k.dead
   ·have hdc:((j:Int) != (k.dead:Int))=false:=by simp;omega
    have HN:=vl <| HMT.out.2.2.1 j fun h=>h.1 hd;clear hgk hM hR hd y3 y5;generalize (MT j).full=fu at *;go_wp2;go_roundg (k.rows.length-(j+1))
    case measure=>rw[HB.out.1];omega
    case rel=>exact⟨j+1,rfl,by omega,by go_num,by rw[HN.out];exact HB.out.2.1,HB.out.2.2⟩
   ·have hdc:((j:Int) != (k.dead:Int))=true:=by simp;omega
    cases hfu:(MT j).full with
    |true=>
     rw[hfu] at y2;have HN:=vl <| HMT.out.2.2.1 j fun h=>by rw[hfu] at h;exact absurd h.2 (by decide)
     clear hgk hM hR hd y3 y5 hfu;go_wp2;go_roundg (k.rows.length-(j+1))
     case measure=>rw[HB.out.1];omega
     case rel=>exact⟨j+1,rfl,by omega,by go_num,by rw[HN.out];exact HB.out.2.1,HB.out.2.2⟩
    |false=>
     rw[hfu] at y2;have HN:=vl <| HMT.out.2.1 j hd hfu;have HC:=vl <| HFI.out wr j hj2 hM hfu;clear hgk hM hR hd y3 y5 hfu;generalize zA6 k a most j ((MT j).of.getD j 0).toNat (MT j)=m5 at *;go_wp2_with (first|(go_at_call 97;refine HC.out.mono ?_;rintro e w5 ⟨rfl,hM5,hS5⟩))
     go_roundg (k.rows.length-(j+1))
     case measure=>rw[HB.out.1];omega
     case rel=>exact⟨j+1,rfl,by omega,by go_num,by rw[HN.out];exact hM5,hS5 _ _ _ HB.out.2.2 (by decide) (by decide) (by decide)⟩
  ·have i1:(k.rows.length:Int)<=(j:Int):=by omega
   have e:j=k.rows.length:=by omega
   subst e;rw[HMT.out.2.2.2.2.2] at hM y2;have HM:Hid (MwIs w wr (w.heap.size+1) kb most MM∧wr.heap[w.heap.size]? =some (.cells #[slice none 0 0,slice none 0 0,int i64 0] 127)):=⟨hM,hR⟩
   have HHAS:Hid (MM.full=false->MM.Has∧MM.of.length=k.rows.length):=by have:=HMT.out.2.2.2.2.1 k.rows.length;rw[HMT.out.2.2.2.2.2] at this;exact this
   have hr0:w.heap.size<wr.heap.size:=(kQ.1 hR).1;have r0:wr.cell? ⟨w.heap.size,0,none⟩=some (slice none 0 0):=by unfold cell?;rw[hR];rfl
   have r1:wr.cell? ⟨w.heap.size,1,none⟩=some (slice none 0 0):=by unfold cell?;rw[hR];rfl
   have r2:wr.cell? ⟨w.heap.size,2,none⟩=some (int i64 0):=by unfold cell?;rw[hR];rfl
   have HRF:Hid (∀i,wr.frozen? ⟨w.heap.size,i,none⟩=false):=fun i=>by unfold frozen?;rw[hR];simp
   have q0:=HRF.out 0;have q1:=HRF.out 1;have q2:=HRF.out 2;cases hfu:MM.full with
   |true=>
    rw[hfu] at y2;have HFT:=vl hfu;clear hgk hM hR hfu;go_wp2;obtain⟨w9,hw9,c0,c1,c2,K9⟩:∃w9,w9=((wr.setCell ⟨w.heap.size,0,none⟩ (Value.slice none 0 0)).setCell ⟨w.heap.size,1,none⟩ (Value.slice none 0 0)).setCell ⟨w.heap.size,2,none⟩ (Value.int IntKind.i64 0)∧w9.cell? ⟨w.heap.size,0,none⟩=some (slice none 0 0)∧w9.cell? ⟨w.heap.size,1,none⟩=some (slice none 0 0)∧w9.cell? ⟨w.heap.size,2,none⟩=some (int i64 0)∧Hid (Grew w w9):=by
     obtain⟨⟨nv,rv,ov,gs,hMw⟩,hR⟩:=HM.out;refine⟨_,rfl,?_,?_,?_,hMw.keep.trans (((zO _ _ _ _ lQ).trans (zO _ _ _ _ lQ)).trans (zO _ _ _ _ lQ))⟩
     all_goals simp[World.cell?,setCell,lU,hR]
    rw[<-hw9];clear hw9;refine bodyPost_ret (v:=tuple #[agg #[slice none 0 0,slice none 0 0,int i64 0],bool false]) (by simp[results,results62,go_sem,c0,c1,c2]) rfl ?_;exact(HANS.out _ _).2 ⟨K9.out,.inl ⟨HFT.out,rfl⟩⟩
   |false=>
    rw[hfu] at y2;have HFT:=vl hfu;obtain⟨hh,hol⟩:=HHAS.out hfu;obtain⟨nv,rv,ov,gs,hMw⟩:=hM;obtain⟨an,cn9,hnv⟩:=zG hMw.nOwn;obtain⟨ar,cr,hrv⟩:=hMw.rOwn.form;obtain⟨ao,co,hov⟩:=hMw.oOwn.form;subst hnv hrv hov;obtain⟨go,rfl⟩:=hMw.oOwn.some (by omega);have o1:=hMw.oOwn.cell k.start (by omega);rw[hol] at hMw;have x6:=hMw.cells.2.2.2.2.2.1;have x3:=hMw.cells.2.2.2.1;have x4:=hMw.cells.2.2.2.2.1;have x5:wr.cell? ⟨w.heap.size+1,5,none⟩=some (int i64 0):=by unfold cell?;rw[hMw.blk];rfl
    have f5:=hMw.cells.2.2.2.2.2.2 5;have i3:(k.start:Int)<(k.rows.length:Int):=by omega
    have HMw:=vl hMw;have HO2:=vl hol;have HST:Hid (MM.of.getD k.start 0=MM.of.getD k.start 0):=rfl;clear hgk hR hfu hh hMw hol HHAS;generalize MM.of.getD k.start 0=st at *;go_wp2;go_region;obtain⟨w6,hw6,v3,v4,v5,v0,v1,v2,p0,p1,p2,HK6⟩:∃w6,w6=(wr.setCell ⟨w.heap.size+1,5,none⟩ (int i64 st)).drew∧w6.cell? ⟨w.heap.size+1,3,none⟩=some (slice an MM.next.length cn9)∧w6.cell? ⟨w.heap.size+1,4,none⟩=some (slice ar MM.rules.length cr)∧w6.cell? ⟨w.heap.size+1,5,none⟩=some (int i64 st)∧w6.cell? ⟨w.heap.size,0,none⟩=some (slice none 0 0)∧w6.cell? ⟨w.heap.size,1,none⟩=some (slice none 0 0)∧w6.cell? ⟨w.heap.size,2,none⟩=some (int i64 0)∧w6.frozen? ⟨w.heap.size,0,none⟩=false∧w6.frozen? ⟨w.heap.size,1,none⟩=false∧w6.frozen? ⟨w.heap.size,2,none⟩=false∧Hid (w6.heap[w.heap.size]? =some (.cells #[slice none 0 0,slice none 0 0,int i64 0] 127)∧w6.heap.size=wr.heap.size∧w6.os=wr.os∧w6.output=wr.output∧∀k,k≠w.heap.size+1->w6.heap[k]? =wr.heap[k]?):=by
     have e:∀k,k≠w.heap.size+1->((wr.setCell ⟨w.heap.size+1,5,none⟩ (int i64 st)).drew).heap[k]? =wr.heap[k]? :=fun k hk=>lJ _ _ _ _ hk;have er:=(e w.heap.size (by omega)).trans HM.out.2;have em:((wr.setCell ⟨w.heap.size+1,5,none⟩ (int i64 st)).drew).heap[w.heap.size+1]? =some (.cells #[pointer (some ⟨kb,0,none⟩),int i64 (most:Int),bool MM.full,slice an MM.next.length cn9,slice ar MM.rules.length cr,int i64 st,slice (some ⟨go,0,none⟩) k.rows.length co] 183):=by
      show(wr.setCell ⟨w.heap.size+1,5,none⟩ (int i64 st)).heap[w.heap.size+1]? =_;simp[setCell,lU,HMw.out.blk]
     refine⟨_,rfl,?_,?_,?_,?_,?_,?_,?_,?_,?_,er,zC _ _ _,rfl,rfl,e⟩
     ·unfold cell?;rw[em];rfl
     ·unfold cell?;rw[em];rfl
     ·unfold cell?;rw[em];rfl
     ·unfold cell?;rw[er];rfl
     ·unfold cell?;rw[er];rfl
     ·unfold cell?;rw[er];rfl
     ·unfold frozen?;rw[er];rfl
     ·unfold frozen?;rw[er];rfl
     ·unfold frozen?;rw[er];rfl
    rw[<-hw6];clear hw6 x3 x4 x5 x6 o1 f5 r0 r1 r2 q0 q1 q2 y2 y3 y5 y6;go_wp2;obtain⟨w9,hw9,c0,c1,c2,K9⟩:∃w9,w9=((w6.setCell ⟨w.heap.size,0,none⟩ (Value.slice an MM.next.length cn9)).setCell ⟨w.heap.size,1,none⟩ (Value.slice ar MM.rules.length cr)).setCell ⟨w.heap.size,2,none⟩ (Value.int IntKind.i64 st)∧w9.cell? ⟨w.heap.size,0,none⟩=some (slice an MM.next.length cn9)∧w9.cell? ⟨w.heap.size,1,none⟩=some (slice ar MM.rules.length cr)∧w9.cell? ⟨w.heap.size,2,none⟩=some (int i64 st)∧Hid (Grew w w9∧IntRows w9 (fun g=>w.heap.size<=g∧g<w9.heap.size) (slice an MM.next.length cn9) MM.next∧Ints w9 (fun g=>w.heap.size<=g∧g<w9.heap.size) (slice ar MM.rules.length cr) MM.rules):=by
     obtain⟨hR6,hs6,ho6,hu6,he6⟩:=HK6.out;have hT:=HMw.out.tables HM.out.2;have e9:∀k,k≠w.heap.size->k≠w.heap.size+1->(((w6.setCell ⟨w.heap.size,0,none⟩ (Value.slice an MM.next.length cn9)).setCell ⟨w.heap.size,1,none⟩ (Value.slice ar MM.rules.length cr)).setCell ⟨w.heap.size,2,none⟩ (Value.int IntKind.i64 st)).heap[k]? =wr.heap[k]? :=fun k h1 h2=>(lJ _ _ _ _ h1).trans ((lJ _ _ _ _ h1).trans ((lJ _ _ _ _ h1).trans (he6 k h2)));have s9:(((w6.setCell ⟨w.heap.size,0,none⟩ (Value.slice an MM.next.length cn9)).setCell ⟨w.heap.size,1,none⟩ (Value.slice ar MM.rules.length cr)).setCell ⟨w.heap.size,2,none⟩ (Value.int IntKind.i64 st)).heap.size=wr.heap.size:=by rw[zC,zC,zC];exact hs6
     refine⟨_,rfl,?_,?_,?_,HMw.out.keep.trans ⟨ho6,hu6,by rw[s9];exact lQ,fun k h1 _=>e9 k (by omega) (by omega)⟩,hT.1.moved (fun b hb=>e9 b hb.2.2.1 hb.2.1) (fun b hb=>⟨hb.2.2.2,by rw[s9];exact hb.1⟩),(hT.2.keep fun b hb=>e9 b hb.2.2.1 hb.2.1).mono fun b hb=>⟨hb.2.2.2,by rw[s9];exact hb.1⟩⟩
     all_goals simp[World.cell?,setCell,lU,hR6]
    rw[<-hw9];clear hw9;refine bodyPost_ret (v:=tuple #[agg #[slice an MM.next.length cn9,slice ar MM.rules.length cr,int i64 st],bool true]) (by simp[results,results62,go_sem,c0,c1,c2]) rfl ?_;exact(HANS.out _ _).2 ⟨K9.out.1,.inr ⟨HFT.out,_,_,rfl,K9.out.2.1,K9.out.2.2⟩⟩
section
def vR (ps:List (Value×Bool)):List Value:=ps.flatMap fun p=>[p.1,bool p.2]
theorem zGI (ps:List (Value×Bool))(u:Value)(o:Bool):vR (ps++[(u,o)])=vR ps++[u,bool o]:=by simp[vR]
theorem zDQ (ps:List (Value×Bool))(i:Nat)(hi:i<ps.length):(vR ps)[i*2]? =some (ps.getD i (undef,false)).1∧(vR ps)[i*2+1]? =some (bool (ps.getD i (undef,false)).2):=by
 induction ps generalizing i with
 |nil=>simp at hi
 |cons p ps ih=>
  cases i with
  |zero=>exact⟨rfl,rfl⟩
  |succ i=>
   have:=ih i (by simpa using hi);have e:vR (p::ps)=p.1::bool p.2::vR ps:=rfl;rw[e,show(i+1)*2=i*2+1+1 by omega];exact this
structure Nw (w0 w:World)(nb:Nat)(n:Nt)(sv fv rv ev:Value)(ps:List (Value×Bool)):Prop where
 blk:w.heap[nb]? =some (.cells #[sv,fv,int i64 (n.first:Int),int i64 (n.ends:Int),rv,ev] 132)
 sOwn:w.ownsRow w0.heap.size 161 2 sv n.sets.length (vR ps)
 plen:ps.length=n.sets.length
 each:∀i,i<n.sets.length->RangesAt w0 (ps.getD i (undef,false)).1 (n.sets.getD i ⟨[],false⟩).ranges∧(ps.getD i (undef,false)).2=(n.sets.getD i ⟨[],false⟩).others
 fOwn:OwnI w w0.heap.size fv (ints n.follow)
 rOwn:OwnI w w0.heap.size rv (ints n.rules)
 eOwn:OwnB w w0.heap.size ev n.empty
 fr:∀g,fv.ownBlock=some g->some g≠rv.ownBlock
 nH:w0.heap.size<=nb
 keep:Grew w0 w
def NwIs (w0 w:World)(nb:Nat)(n:Nt):Prop:=∃sv fv rv ev ps,Nw w0 w nb n sv fv rv ev ps
def StayS (w w':World):Prop:=∀(k:Nat) (c:Array Value),w.heap[k]? =some (Obj.cells c 167)->w'.heap[k]? =some (Obj.cells c 167)
theorem StayS.refl (w:World):StayS w w:=fun _ _ h=>h
theorem StayS.trans {w w' w'':World}(h:StayS w w')(h':StayS w' w''):StayS w w'':=fun k c hk=>h' k c (h k c hk)
theorem Keep.stayS {w w':World}(h:Grew w w'):StayS w w':=fun k c hk=>by
 have hl:=(kQ.1 hk).1;exact(h.block k hl (kJ hl)).trans hk
section
variable {w0 w w2:World} {nb:Nat} {n:Nt} {sv fv rv ev:Value} {ps:List (Value×Bool)}
theorem Nw.lt (h:Nw w0 w nb n sv fv rv ev ps):nb<w.heap.size:=(kQ.1 h.blk).1
theorem Nw.cells (h:Nw w0 w nb n sv fv rv ev ps):w.cell? ⟨nb,0,none⟩=some sv∧w.cell? ⟨nb,1,none⟩=some fv∧w.cell? ⟨nb,2,none⟩=some (int i64 (n.first:Int))∧w.cell? ⟨nb,3,none⟩=some (int i64 (n.ends:Int))∧w.cell? ⟨nb,4,none⟩=some rv∧w.cell? ⟨nb,5,none⟩=some ev∧∀i,w.frozen? ⟨nb,i,none⟩=false:=by
 refine⟨?_,?_,?_,?_,?_,?_,fun i=>?_⟩
 all_goals first|(unfold cell?;rw[h.blk];rfl)|(unfold frozen?;rw[h.blk];simp)
theorem Nw.box (h:Nw w0 w nb n sv fv rv ev ps):some nb≠sv.ownBlock∧some nb≠fv.ownBlock∧some nb≠rv.ownBlock∧some nb≠ev.ownBlock:=⟨zM h.sOwn h.blk (by decide),zM h.fOwn h.blk (by decide),zM h.rOwn h.blk (by decide),zM h.eOwn h.blk (by decide)⟩
theorem Nw.grown (h:Nw w0 w nb n sv fv rv ev ps)(hk:Grew w w2):Nw w0 w2 nb n sv fv rv ev ps:=
 ⟨(hk.block nb h.lt (kJ h.lt)).trans h.blk,zK h.sOwn hk,h.plen,h.each,zK h.fOwn hk,zK h.rOwn hk,zK h.eOwn hk,h.fr,h.nH,h.keep.trans (hk.lower h.keep.size h.keep.size)⟩
theorem Nw.setSpan {b i:Nat}{x:Value}{c:Array Value}(h:Nw w0 w nb n sv fv rv ev ps)(hb:w.heap[b]? =some (.cells c 167))(hH:w0.heap.size<=b):Nw w0 (w.setCell ⟨b,i,none⟩ x) nb n sv fv rv ev ps:=by
 have e:∀k,k≠b->(w.setCell ⟨b,i,none⟩ x).heap[k]? =w.heap[k]? :=fun k hk=>lJ _ _ _ _ hk;have n1:nb≠b:=fun e2=>by
  have:=h.blk;rw[e2,hb] at this;simp at this
 have n3:=zM h.sOwn hb (by decide);have n4:=zM h.fOwn hb (by decide);have n5:=zM h.rOwn hb (by decide);have n6:=zM h.eOwn hb (by decide);exact⟨(e nb n1).trans h.blk,zD h.sOwn fun k _ _ hk=>e k fun e2=>n3 (by rw[hk,e2]),h.plen,h.each,zD h.fOwn fun k _ _ hk=>e k fun e2=>n4 (by rw[hk,e2]),zD h.rOwn fun k _ _ hk=>e k fun e2=>n5 (by rw[hk,e2]),zD h.eOwn fun k _ _ hk=>e k fun e2=>n6 (by rw[hk,e2]),h.fr,h.nH,h.keep.trans (zO _ _ _ _ hH)⟩
theorem Nw.setFollow {g cap p x:Nat}(h:Nw w0 w nb n sv (slice (some ⟨g,0,none⟩) n.follow.length cap) rv ev ps)(hp:p<n.follow.length):Nw w0 (w.setCell ⟨g,p,none⟩ (int i64 (x:Int))) nb {n with follow:=n.follow.set p x} sv (slice (some ⟨g,0,none⟩) n.follow.length cap) rv ev ps∧StayS w (w.setCell ⟨g,p,none⟩ (int i64 (x:Int))):=by
 have e:∀k,k≠g->(w.setCell ⟨g,p,none⟩ (int i64 (x:Int))).heap[k]? =w.heap[k]? :=fun k hk=>lJ _ _ _ _ hk;have hgH:=(h.fOwn.lt g rfl).1;have hn:=h.box.2.1;have hrow:Row w w0.heap.size 3 (slice (some ⟨g,0,none⟩) n.follow.length cap) n.follow.length fun i=>int i64 ((ints n.follow).getD i 0):=by
  have:=h.fOwn.rowOf;rw[zN] at this;exact this
 have hf2:OwnI (w.setCell ⟨g,p,none⟩ (int i64 (x:Int))) w0.heap.size (slice (some ⟨g,0,none⟩) n.follow.length cap) (ints (n.follow.set p x)):=by
  refine Row.ownI ?_;rw[zN,List.length_set];refine Row.congr (hrow.set p (int i64 (x:Int))) fun i hi=>?_;have e0:(n.follow.set p x).getD i 0=if i=p then x else n.follow.getD i 0:=by
   rw[lW,List.getElem?_set];by_cases e1:i=p
   ·subst e1;rw[if_pos rfl,if_pos rfl,if_pos hp];rfl
   ·rw[if_neg e1,if_neg (Ne.symm e1),<-lW]
  rw[vF,vF,e0];split <;> rfl
 have hb1:∀{v:Value} {ee z m:Nat} {xs:List Value},w.ownsRow w0.heap.size ee z v m xs->3≠ee->some g≠v.ownBlock:=fun{v} {ee} {z} {m} {xs} hv he e2=>xM h.fOwn hv he (g:=g) rfl e2;refine⟨⟨(e nb fun e2=>hn (by rw[e2];rfl)).trans h.blk,zD h.sOwn fun k _ _ hk=>e k fun e2=>hb1 h.sOwn (by decide) (by rw[hk,e2]),h.plen,h.each,hf2,zD h.rOwn fun k _ _ hk=>e k fun e2=>h.fr g rfl (by rw[hk,e2]),zD h.eOwn fun k _ _ hk=>e k fun e2=>hb1 h.eOwn (by decide) (by rw[hk,e2]),h.fr,h.nH,h.keep.trans (zO _ _ _ _ hgH)⟩,fun k c hk=>(e k fun e2=>?_).trans hk⟩;exact zM h.fOwn hk (by decide) (by rw[e2];rfl)
end
end
def Nt.linkTo (n:Nt)(from_ to:Nat):Nat->Nt
 |0=>n
 |j+1=>if from_.testBit j then{n.linkTo from_ to j with follow:=(n.linkTo from_ to j).follow.set j ((n.linkTo from_ to j).follow.getD j 0|||to)} else n.linkTo from_ to j
def Nt.link (n:Nt)(from_ to:Nat):Nt:=n.linkTo from_ to n.follow.length
theorem zE3 (n:Nt)(a b j:Nat):(n.linkTo a b j).follow.length=n.follow.length:=by
 induction j with
 |zero=>rfl
 |succ j ih=>
  unfold Nt.linkTo;split
  ·show(List.set _ _ _).length=_;rw[List.length_set,ih]
  ·exact ih
theorem zM8 {α:Type}{l:List α}{i:Nat}{x y:α}(h:y∈l.set i x):y=x∨y∈l:=by
 rcases List.mem_or_eq_of_mem_set h with h1|h1
 ·exact .inr h1
 ·exact .inl h1
theorem zC3 {n:Nt}{B:Nat}(a b j:Nat)(hb:b<2^B)(h:∀x∈n.follow,x<2^B):∀x∈(n.linkTo a b j).follow,x<2^B:=by
 induction j with
 |zero=>exact h
 |succ j ih=>
  unfold Nt.linkTo;split
  ·intro x hx
   rcases zM8 hx with h1|h1
   ·subst h1
    refine Nat.or_lt_two_pow ?_ hb;by_cases hj:j<(n.linkTo a b j).follow.length
    ·exact ih _ (zS _ _ 0 hj)
    ·rw[lW,List.getElem?_eq_none (by omega)];exact Nat.pow_pos (by omega)
   ·exact ih x h1
  ·exact ih
theorem zE2 (w0 w:World)(nb:Nat)(n:Nt)(h:NwIs w0 w nb n)(hl:n.follow.length<=24)(hf:∀x∈n.follow,x<2^24)(a b:Nat)(ha:a<16777216)(hb:b<2^24):
  Calls prog 166 #[pointer (some ⟨nb,0,none⟩),int i64 (a:Int),int i64 (b:Int)] w fun e w'=>e=returned (tuple #[])∧NwIs w0 w' nb (n.link a b)∧StayS w w':=by
 have hb2:b<16777216:=hb;obtain⟨LT,hLT⟩:∃LT,LT=n.linkTo a b:=⟨_,rfl⟩
 have HL:Hid (LT 0=n∧(∀j,a.testBit j=true->LT (j+1)={LT j with follow:=(LT j).follow.set j ((LT j).follow.getD j 0|||b)})∧(∀j,a.testBit j=false->LT (j+1)=LT j)∧(∀j,(LT j).follow.length=n.follow.length∧∀x∈(LT j).follow,x<16777216)∧LT n.follow.length=n.link a b):=by
  rw[hLT];refine⟨rfl,fun j h=>?_,fun j h=>?_,fun j=>⟨zE3 n a b j,zC3 a b j hb hf⟩,rfl⟩
  ·show(if a.testBit j=true then _ else _)=_;rw[if_pos h]
  ·show(if a.testBit j=true then _ else _)=_;rw[if_neg (by rw[h];decide)]
 have HN:Hid (∀wr m,NwIs w0 wr nb m->∃fa cap,wr.cell? ⟨nb,1,none⟩=some (slice fa m.follow.length cap)∧∀p,p<m.follow.length->∃g,fa=some ⟨g,0,none⟩∧wr.cell? ⟨g,p,none⟩=some (int i64 ((m.follow.getD p 0:Nat):Int))∧wr.frozen? ⟨g,p,none⟩=false∧∀x:Nat,NwIs w0 (wr.setCell ⟨g,p,none⟩ (int i64 (x:Int))) nb {m with follow:=m.follow.set p x}∧StayS wr (wr.setCell ⟨g,p,none⟩ (int i64 (x:Int)))):=by
  rintro wr m ⟨sv,fv,rv,ev,ps,hM⟩;obtain⟨fa,cap,hfv⟩:=hM.fOwn.form;rw[zN] at hfv;subst hfv;refine⟨fa,cap,hM.cells.2.1,fun p hp=>?_⟩;obtain⟨g,rfl⟩:=hM.fOwn.some (by rw[zN];omega);have hc:=hM.fOwn.cell p (by rw[zN];exact hp);rw[vF] at hc;refine⟨g,rfl,hc,?_,fun x=>?_⟩
  ·obtain⟨g2,c2,hv,_,_,_,_,_,hz⟩:=hM.fOwn.rowOf.get (by rw[zN];omega)
   injection hv with e1 _ _;injection e1 with e1;injection e1 with e1;rw[e1];exact hz p
  ·have:=hM.setFollow (x:=x) hp
   exact⟨⟨_,_,_,_,_,this.1⟩,this.2⟩
 have HH:=vl h;obtain⟨fa0,cap0,y1,-⟩:=HN.out w n h;generalize n.link a b=NE at *;clear hLT h hf;generalize hln:n.follow.length=L at *;clear hln;go_in;go_wp2;clear y1;go_loopg [12] L (fun q i wr=>∃j:Nat,q=L-j∧j<=L∧i=int i64 (j:Int)∧NwIs w0 wr nb (LT j)∧StayS w wr)
 case atStart=>exact⟨0,rfl,lX,rfl,by rw[HL.out.1];exact HH.out,StayS.refl _⟩
 case round=>
  obtain⟨j,hgk,hj,rfl,hM,hS⟩:=hrel;have HB:Hid (gk=L-j∧NwIs w0 wr nb (LT j)∧StayS w wr):=⟨hgk,hM,hS⟩
  by_cases hj2:j<L
  ·have i1:(j:Int)<(L:Int):=by omega
   obtain⟨hlen,hsm⟩:=HL.out.2.2.2.1 j;have hbit:=zKi a j (by omega);cases htb:a.testBit j with
   |false=>
    rw[htb] at hbit;have HE:=vl <| HL.out.2.2.1 j htb;clear hgk hM hS hlen hsm htb;go_wp2;go_roundg (L-(j+1))
    case measure=>rw[HB.out.1];omega
    case rel=>exact⟨j+1,rfl,by omega,by go_num,by rw[HE.out];exact HB.out.2.1,HB.out.2.2⟩
   |true=>
    rw[htb] at hbit;have HE:=vl <| HL.out.2.1 j htb;obtain⟨fa,cap,z1,hzc⟩:=HN.out wr (LT j) hM;obtain⟨g,rfl,z2,z3,hset⟩:=hzc j (by omega);have HSET:Hid (NwIs w0 (wr.setCell ⟨g,j,none⟩ (int i64 (((LT j).follow.getD j 0|||b:Nat):Int))) nb {LT j with follow:=(LT j).follow.set j ((LT j).follow.getD j 0|||b)}∧StayS wr (wr.setCell ⟨g,j,none⟩ (int i64 (((LT j).follow.getD j 0|||b:Nat):Int)))):=hset _;have hxl:=hsm _ (zS (LT j).follow j 0 (by omega));have HOR:Hid (bits .or i64 (((LT j).follow.getD j 0:Nat):Int) (b:Int)=(((LT j).follow.getD j 0|||b:Nat):Int)):=yM _ _ (by omega) (by omega);rw[hlen] at z1;clear hgk hM hS hlen hsm htb hzc hset;rw[<-HE.out,<-HOR.out] at HSET;generalize (LT j).follow.getD j 0=x at *;go_wp2;go_roundg (L-(j+1))
    case measure=>rw[HB.out.1];omega
    case rel=>exact⟨j+1,rfl,by omega,by go_num,HSET.out.1,HB.out.2.2.trans HSET.out.2⟩
  ·have i1:(L:Int)<=(j:Int):=by omega
   have e:j=L:=by omega
   subst e;have HE:Hid (NwIs w0 wr nb NE∧StayS w wr):=⟨by rw[<-HL.out.2.2.2.2];exact hM,hS⟩
   clear hgk hM hS;go_wp2;go_end0;exact⟨rfl,HE.out.1,HE.out.2⟩
section
structure Sn where
 first:Nat
 last:Nat
 empty:Bool
def Sn.val (s:Sn):Value:=agg #[int i64 (s.first:Int),int i64 (s.last:Int),bool s.empty]
def Sn.cells (s:Sn):Array Value:=#[int i64 (s.first:Int),int i64 (s.last:Int),bool s.empty]
def Sn.then (a b:Sn):Sn:=⟨if a.empty then a.first|||b.first else a.first,if b.empty then b.last|||a.last else b.last,a.empty&&b.empty⟩
structure Sn.Small (s:Sn)(k:Nat):Prop where
 first:s.first<2^k
 last:s.last<2^k
theorem Sn.then_small {a b:Sn}{k:Nat}(ha:a.Small k)(hb:b.Small k):(a.then b).Small k:=by
 constructor
 ·show(if _ then _ else _)<_
  split
  ·exact Nat.or_lt_two_pow ha.first hb.first
  ·exact ha.first
 ·show(if _ then _ else _)<_
  split
  ·exact Nat.or_lt_two_pow hb.last ha.last
  ·exact hb.last
theorem NwIs.grown {w0 w w2:World}{nb:Nat}{n:Nt}(h:NwIs w0 w nb n)(hk:Grew w w2):NwIs w0 w2 nb n:=by
 obtain⟨sv,fv,rv,ev,ps,h⟩:=h;exact⟨sv,fv,rv,ev,ps,h.grown hk⟩
structure Three (w0 w wr:World)(nb:Nat)(n:Nt)(a b c:Sn):Prop where
 net:NwIs w0 wr nb n
 a1:wr.heap[w.heap.size]? =some (.cells a.cells 167)
 b1:wr.heap[w.heap.size+1]? =some (.cells b.cells 167)
 c1:wr.heap[w.heap.size+1+1]? =some (.cells c.cells 167)
 stay:StayS w wr
 old:w0.heap.size<=w.heap.size
section
variable {w0 w wr w2:World} {nb:Nat} {n:Nt} {a b c:Sn}
theorem Three.at (h:Three w0 w wr nb n a b c):wr.cell? ⟨w.heap.size,0,none⟩=some (int i64 (a.first:Int))∧wr.cell? ⟨w.heap.size,1,none⟩=some (int i64 (a.last:Int))∧wr.cell? ⟨w.heap.size,2,none⟩=some (bool a.empty)∧wr.cell? ⟨w.heap.size+1,0,none⟩=some (int i64 (b.first:Int))∧wr.cell? ⟨w.heap.size+1,1,none⟩=some (int i64 (b.last:Int))∧wr.cell? ⟨w.heap.size+1,2,none⟩=some (bool b.empty)∧wr.cell? ⟨w.heap.size+1+1,0,none⟩=some (int i64 (c.first:Int))∧wr.cell? ⟨w.heap.size+1+1,1,none⟩=some (int i64 (c.last:Int))∧wr.cell? ⟨w.heap.size+1+1,2,none⟩=some (bool c.empty):=by
 refine⟨?_,?_,?_,?_,?_,?_,?_,?_,?_⟩
 all_goals first|(unfold cell?;rw[h.a1];rfl)|(unfold cell?;rw[h.b1];rfl)|(unfold cell?;rw[h.c1];rfl)
theorem Three.fz (h:Three w0 w wr nb n a b c)(i:Nat):wr.frozen? ⟨w.heap.size,i,none⟩=false∧wr.frozen? ⟨w.heap.size+1,i,none⟩=false∧wr.frozen? ⟨w.heap.size+1+1,i,none⟩=false:=by
 refine⟨?_,?_,?_⟩
 ·unfold frozen?;rw[h.a1];simp
 ·unfold frozen?;rw[h.b1];simp
 ·unfold frozen?;rw[h.c1];simp
theorem NwIs.setSpan {b i:Nat}{x:Value}{c:Array Value}(h:NwIs w0 w nb n)(hb:w.heap[b]? =some (.cells c 167))(hH:w0.heap.size<=b):NwIs w0 (w.setCell ⟨b,i,none⟩ x) nb n:=by
 obtain⟨sv,fv,rv,ev,ps,h⟩:=h;exact⟨sv,fv,rv,ev,ps,h.setSpan hb hH⟩
theorem jD {b i:Nat}{x:Value}(h:StayS w wr)(hb:w.heap.size<=b):StayS w (wr.setCell ⟨b,i,none⟩ x):=fun k c hk=>by
 have hl:=(kQ.1 hk).1;exact(lJ _ _ _ _ (by show k≠b;omega)).trans (h k c hk)
theorem Three.setA (h:Three w0 w wr nb n a b c)(x:Nat):Three w0 w (wr.setCell ⟨w.heap.size,0,none⟩ (int i64 (x:Int))) nb n {a with first:=x} b c:=by
 have e:∀k,k≠w.heap.size->(wr.setCell ⟨w.heap.size,0,none⟩ (int i64 (x:Int))).heap[k]? =wr.heap[k]? :=fun k hk=>lJ _ _ _ _ hk;exact⟨h.net.setSpan h.a1 h.old,by simp[setCell,lU,h.a1,Sn.cells],(e _ (by omega)).trans h.b1,(e _ (by omega)).trans h.c1,jD h.stay lQ,h.old⟩
theorem Three.setB (h:Three w0 w wr nb n a b c)(x:Nat):Three w0 w (wr.setCell ⟨w.heap.size+1,1,none⟩ (int i64 (x:Int))) nb n a {b with last:=x} c:=by
 have e:∀k,k≠w.heap.size+1->(wr.setCell ⟨w.heap.size+1,1,none⟩ (int i64 (x:Int))).heap[k]? =wr.heap[k]? :=fun k hk=>lJ _ _ _ _ hk;have:=h.old;exact⟨h.net.setSpan h.b1 (by omega),(e _ (by omega)).trans h.a1,by simp[setCell,lU,h.b1,Sn.cells],(e _ (by omega)).trans h.c1,jD h.stay (by omega),h.old⟩
theorem Three.setC (h:Three w0 w wr nb n a b c)(s:Sn):Three w0 w (((wr.setCell ⟨w.heap.size+1+1,0,none⟩ (int i64 (s.first:Int))).setCell ⟨w.heap.size+1+1,1,none⟩ (int i64 (s.last:Int))).setCell ⟨w.heap.size+1+1,2,none⟩ (bool s.empty)) nb n a b s:=by
 have e:∀(wq:World) (i k:Nat) (x:Value),k≠w.heap.size+1+1->(wq.setCell ⟨w.heap.size+1+1,i,none⟩ x).heap[k]? =wq.heap[k]? :=fun wq i k x hk=>lJ _ _ _ _ hk;have ho:=h.old;have c2:(wr.setCell ⟨w.heap.size+1+1,0,none⟩ (int i64 (s.first:Int))).heap[w.heap.size+1+1]? =some (.cells #[int i64 (s.first:Int),int i64 (c.last:Int),bool c.empty] 167):=by simp[setCell,lU,h.c1,Sn.cells]
 have c3:((wr.setCell ⟨w.heap.size+1+1,0,none⟩ (int i64 (s.first:Int))).setCell ⟨w.heap.size+1+1,1,none⟩ (int i64 (s.last:Int))).heap[w.heap.size+1+1]? =some (.cells #[int i64 (s.first:Int),int i64 (s.last:Int),bool c.empty] 167):=by
  generalize hq:wr.setCell ⟨w.heap.size+1+1,0,none⟩ (int i64 (s.first:Int))=wq at *;simp[setCell,lU,c2]
 refine⟨((h.net.setSpan h.c1 (by omega)).setSpan c2 (by omega)).setSpan c3 (by omega),(e _ _ _ _ (by omega)).trans ((e _ _ _ _ (by omega)).trans ((e _ _ _ _ (by omega)).trans h.a1)),(e _ _ _ _ (by omega)).trans ((e _ _ _ _ (by omega)).trans ((e _ _ _ _ (by omega)).trans h.b1)),?_,jD (jD (jD h.stay (by omega)) (by omega)) (by omega),h.old⟩;generalize hq:(wr.setCell ⟨w.heap.size+1+1,0,none⟩ (int i64 (s.first:Int))).setCell ⟨w.heap.size+1+1,1,none⟩ (int i64 (s.last:Int))=wq at *;simp[setCell,lU,c3,Sn.cells]
theorem Three.start (h:NwIs w0 w nb n)(hw:w0.heap.size<=w.heap.size)(a b:Sn):Three w0 w (((w.alloc (.cells a.cells 167)).alloc (.cells b.cells 167)).alloc (.cells (Sn.mk 0 0 false).cells 167)) nb n a b ⟨0,0,false⟩:=by
 have s1:(w.alloc (.cells a.cells 167)).heap.size=w.heap.size+1:=by simp
 have s2:((w.alloc (.cells a.cells 167)).alloc (.cells b.cells 167)).heap.size=w.heap.size+1+1:=by simp
 have k1:=kZ (b:=w.heap.size) w (.cells a.cells 167) lQ;have k2:=kZ (b:=(w.alloc (.cells a.cells 167)).heap.size) (w.alloc (.cells a.cells 167)) (.cells b.cells 167) lQ;have k3:=kZ (b:=((w.alloc (.cells a.cells 167)).alloc (.cells b.cells 167)).heap.size) ((w.alloc (.cells a.cells 167)).alloc (.cells b.cells 167)) (.cells (Sn.mk 0 0 false).cells 167) lQ;refine⟨((h.grown k1).grown k2).grown k3,?_,?_,?_,(k1.stayS.trans k2.stayS).trans k3.stayS,hw⟩
 ·exact(lG _ _ _ (by rw[s2];omega)).trans ((lG _ _ _ (by rw[s1];omega)).trans (gU _ _))
 ·refine(lG _ _ _ (by rw[s2];omega)).trans ?_
  have:=gU (w.alloc (.cells a.cells 167)) (.cells b.cells 167);rw[s1] at this;exact this
 ·have:=gU ((w.alloc (.cells a.cells 167)).alloc (.cells b.cells 167)) (.cells (Sn.mk 0 0 false).cells 167)
  rw[s2] at this;exact this
theorem Three.call {n2:Nt}(h:Three w0 w wr nb n a b c)(hn:NwIs w0 w2 nb n2)(hs:StayS wr w2):Three w0 w w2 nb n2 a b c:=⟨hn,hs _ _ h.a1,hs _ _ h.b1,hs _ _ h.c1,h.stay.trans hs,h.old⟩
end
end
theorem zCv (w0 w:World)(nb:Nat)(n:Nt)(h:NwIs w0 w nb n)(hl:n.follow.length<=24)(hf:∀x∈n.follow,x<2^24)(a b:Sn)(ha:a.Small 24)(hb:b.Small 24):
  Calls prog 164 #[pointer (some ⟨nb,0,none⟩),a.val,b.val] w fun e w'=>e=returned (a.then b).val∧NwIs w0 w' nb (n.link a.last b.first)∧StayS w w':=by
 have hw:w0.heap.size<=w.heap.size:=by obtain⟨_,_,_,_,_,h⟩:=h;exact h.keep.size
 have HLK:Hid (∀w2,NwIs w0 w2 nb n->Ca 166 #[pointer (some ⟨nb,0,none⟩),int i64 (a.last:Int),int i64 (b.first:Int)] w2 fun e w'=>e=returned (tuple #[])∧NwIs w0 w' nb (n.link a.last b.first)∧StayS w2 w'):=fun w2 h2=>zE2 w0 w2 nb n h2 hl hf a.last b.first ha.last hb.first
 obtain⟨w3,hw3,HT⟩:∃w3,w3=((w.alloc (.cells a.cells 167)).alloc (.cells b.cells 167)).alloc (.cells (Sn.mk 0 0 false).cells 167)∧Three w0 w w3 nb n a b ⟨0,0,false⟩:=⟨_,rfl,Three.start h hw a b⟩
 have l1:a.first<16777216:=ha.first
 have l2:a.last<16777216:=ha.last;have l3:b.first<16777216:=hb.first
 have l4:b.last<16777216:=hb.last;obtain⟨af,al,ae⟩:=a;obtain⟨bf,bl,be⟩:=b;have l1':af<16777216:=l1;have l2':al<16777216:=l2;have l3':bf<16777216:=l3;have l4':bl<16777216:=l4;have hor1:bits .or i64 (af:Int) (bf:Int)=((af|||bf:Nat):Int):=yM _ _ (by omega) (by omega);have hor2:bits .or i64 (bl:Int) (al:Int)=((bl|||al:Nat):Int):=yM _ _ (by omega) (by omega);obtain⟨y0,y1,y2,y3,y4,y5,y6,y7,y8⟩:=HT.at
 show Calls prog 164 #[pointer (some ⟨nb,0,none⟩),agg #[int i64 (af:Int),int i64 (al:Int),bool ae],agg #[int i64 (bf:Int),int i64 (bl:Int),bool be]] w _;go_in;apply wp_cut;intro K0 J;go_wp2;apply J.out;clear J;have hw4:w3=((w.alloc (Obj.cells #[int i64 (af:Int),int i64 (al:Int),bool ae] 167)).alloc (Obj.cells #[int i64 (bf:Int),int i64 (bl:Int),bool be] 167)).alloc (Obj.cells #[int i64 0,int i64 0,bool false] 167):=hw3;rw[<-hw4];clear hw3 hw4;rcases ae with _|_ <;> rcases be with _|_
 ·have HT3:=vl HT
  clear HT;go_wp2_with (first|(go_at_call 166;refine(HLK.out w3 HT3.out.net).mono ?_;rintro e w4 ⟨rfl,hM5,hS5⟩;have T4:=HT3.out.call hM5 hS5;obtain⟨p0,p1,p2,p3,p4,p5,p6,p7,p8⟩:=T4.at;obtain⟨f0,f1,f2⟩:=T4.fz 0;obtain⟨f3,f4,f5⟩:=T4.fz 1;obtain⟨f6,f7,f8⟩:=T4.fz 2;have T7:=T4.setC ⟨af,bl,false⟩;obtain⟨z0,z1,z2,z3,z4,z5,z6,z7,z8⟩:=T7.at))
  refine bodyPost_ret (v:=agg #[int i64 ((af:Nat):Int),int i64 ((bl:Nat):Int),bool false]) (by simp[results,results164,go_sem,z6,z7,z8]) rfl ?_;exact⟨rfl,T7.net,T7.stay⟩
 ·have HT3:=vl HT
  clear HT;go_wp2_with (first|(go_at_call 166;refine(HLK.out w3 HT3.out.net).mono ?_;rintro e w4 ⟨rfl,hM5,hS5⟩;have T4:=HT3.out.call hM5 hS5;obtain⟨p0,p1,p2,p3,p4,p5,p6,p7,p8⟩:=T4.at;obtain⟨f0,f1,f2⟩:=T4.fz 0;obtain⟨f3,f4,f5⟩:=T4.fz 1;obtain⟨f6,f7,f8⟩:=T4.fz 2;have T6:=T4.setB (bl|||al);obtain⟨v0,v1,v2,v3,v4,v5,v6,v7,v8⟩:=T6.at;obtain⟨h0,h1,h2⟩:=T6.fz 0;obtain⟨h3,h4,h5⟩:=T6.fz 1;obtain⟨h6,h7,h8⟩:=T6.fz 2;have T7:=T6.setC ⟨af,bl|||al,false⟩;obtain⟨z0,z1,z2,z3,z4,z5,z6,z7,z8⟩:=T7.at))
  refine bodyPost_ret (v:=agg #[int i64 ((af:Nat):Int),int i64 ((bl|||al:Nat):Int),bool false]) (by simp[results,results164,go_sem,z6,z7,z8]) rfl ?_;exact⟨rfl,T7.net,T7.stay⟩
 ·have HT3:=vl HT
  clear HT;go_wp2_with (first|(go_at_call 166;refine(HLK.out w3 HT3.out.net).mono ?_;rintro e w4 ⟨rfl,hM5,hS5⟩;have T4:=HT3.out.call hM5 hS5;obtain⟨p0,p1,p2,p3,p4,p5,p6,p7,p8⟩:=T4.at;obtain⟨f0,f1,f2⟩:=T4.fz 0;obtain⟨f3,f4,f5⟩:=T4.fz 1;obtain⟨f6,f7,f8⟩:=T4.fz 2;have T5:=T4.setA (af|||bf);obtain⟨s0,s1,s2,s3,s4,s5,s6,s7,s8⟩:=T5.at;obtain⟨g0,g1,g2⟩:=T5.fz 0;obtain⟨g3,g4,g5⟩:=T5.fz 1;obtain⟨g6,g7,g8⟩:=T5.fz 2;have T7:=T5.setC ⟨af|||bf,bl,false⟩;obtain⟨z0,z1,z2,z3,z4,z5,z6,z7,z8⟩:=T7.at))
  refine bodyPost_ret (v:=agg #[int i64 ((af|||bf:Nat):Int),int i64 ((bl:Nat):Int),bool false]) (by simp[results,results164,go_sem,z6,z7,z8]) rfl ?_;exact⟨rfl,T7.net,T7.stay⟩
 ·have HT3:=vl HT
  clear HT;go_wp2_with (first|(go_at_call 166;refine(HLK.out w3 HT3.out.net).mono ?_;rintro e w4 ⟨rfl,hM5,hS5⟩;have T4:=HT3.out.call hM5 hS5;obtain⟨p0,p1,p2,p3,p4,p5,p6,p7,p8⟩:=T4.at;obtain⟨f0,f1,f2⟩:=T4.fz 0;obtain⟨f3,f4,f5⟩:=T4.fz 1;obtain⟨f6,f7,f8⟩:=T4.fz 2;have T5:=T4.setA (af|||bf);obtain⟨s0,s1,s2,s3,s4,s5,s6,s7,s8⟩:=T5.at;obtain⟨g0,g1,g2⟩:=T5.fz 0;obtain⟨g3,g4,g5⟩:=T5.fz 1;obtain⟨g6,g7,g8⟩:=T5.fz 2;have T6:=T5.setB (bl|||al);obtain⟨v0,v1,v2,v3,v4,v5,v6,v7,v8⟩:=T6.at;obtain⟨h0,h1,h2⟩:=T6.fz 0;obtain⟨h3,h4,h5⟩:=T6.fz 1;obtain⟨h6,h7,h8⟩:=T6.fz 2;have T7:=T6.setC ⟨af|||bf,bl|||al,true⟩;obtain⟨z0,z1,z2,z3,z4,z5,z6,z7,z8⟩:=T7.at))
  refine bodyPost_ret (v:=agg #[int i64 ((af|||bf:Nat):Int),int i64 ((bl|||al:Nat):Int),bool true]) (by simp[results,results164,go_sem,z6,z7,z8]) rfl ?_;exact⟨rfl,T7.net,T7.stay⟩
section
attribute [local go_sem ↓] Go.wp_at_zero Go.wp_at_succ
theorem zNg:(prog.info? 161).map (fun i=>(i.zero,i.size,i.bytes))=some (some (agg #[slice none 0 0,bool false]),2,32):=by kernel_rfl
section
variable {w0 w w2:World} {nb:Nat} {n:Nt} {sv fv rv ev:Value} {ps:List (Value×Bool)}
theorem Nw.addSet {o:Obj}{g cap m:Nat}{u:Value}{c:Cs}(h:Nw w0 w nb n sv fv rv ev ps)(hm:m=n.sets.length)(hc:RangesAt w0 u c.ranges)(hown:w2.ownsRow w0.heap.size 161 2 (slice (some ⟨g,0,none⟩) (m+1) cap) (m+1) (vR ps++[u,bool c.others]))(hg:(w.alloc o).grownBy w2 sv.ownBlock)(hat:sv.ownBlock=some g∨w.heap.size<=g):
  Nw w0 (w2.setCell ⟨nb,0,none⟩ (slice (some ⟨g,0,none⟩) (m+1) cap)) nb {n with sets:=n.sets++[c]} (slice (some ⟨g,0,none⟩) (m+1) cap) fv rv ev (ps++[(u,c.others)])∧StayS w (w2.setCell ⟨nb,0,none⟩ (slice (some ⟨g,0,none⟩) (m+1) cap)):=by
 subst hm;have hbx:=h.box;have hlt:=h.lt;have hbl:∀j,j<w.heap.size->some j≠sv.ownBlock->w2.heap[j]? =w.heap[j]? :=fun j hj hf=>(hg.block j (by simp;omega) hf).trans (lG _ _ _ (by omega));have hsz:w.heap.size<=w2.heap.size:=lY (by simp) hg.size;have hb:=(hbl nb hlt hbx.1).trans h.blk;have e:∀k,k≠nb->(w2.setCell ⟨nb,0,none⟩ (slice (some ⟨g,0,none⟩) (n.sets.length+1) cap)).heap[k]? =w2.heap[k]? :=fun k hk=>lJ _ _ _ _ hk;have hf2:=zR hg h.fOwn fun k hk=>xM h.fOwn h.sOwn (by decide) hk;have hr2:=zR hg h.rOwn fun k hk=>xM h.rOwn h.sOwn (by decide) hk;have he2:=zR hg h.eOwn fun k hk=>xM h.eOwn h.sOwn (by decide) hk;have hgm:nb≠g:=fun e2=>by
  rcases hat with ha|ha
  ·exact hbx.1 (by rw[ha,e2])
  ·omega
 have hpl:=h.plen;have hlen:(n.sets++[c]).length=n.sets.length+1:=by simp
 refine⟨⟨by simp[setCell,lU,hb],?_,by simp[hpl],fun i hi=>?_,zD hf2 fun k _ _ hk=>e k fun e2=>hbx.2.1 (by rw[hk,e2]),zD hr2 fun k _ _ hk=>e k fun e2=>hbx.2.2.1 (by rw[hk,e2]),zD he2 fun k _ _ hk=>e k fun e2=>hbx.2.2.2 (by rw[hk,e2]),h.fr,h.nH,h.keep.trans ⟨hg.os,hg.output,by rw[zC];exact hsz,fun k hk _=>(e k (by have:=h.nH;omega)).trans (hbl k (by have:=h.keep.size;omega) fun e2=>by have:=(h.sOwn.lt k e2.symm).1;omega)⟩⟩,fun k cc hk=>?_⟩
 ·show World.ownsRow _ _ _ _ _ (n.sets++[c]).length (vR (ps++[(u,c.others)]))
  rw[hlen,zGI];exact zD hown fun k _ _ hk=>e k fun e2=>by
   have:g=k:=by simpa[Value.ownBlock] using hk
   omega
 ·have hi':i<(n.sets++[c]).length:=hi
  show RangesAt w0 ((ps++[(u,c.others)]).getD i (undef,false)).1 ((n.sets++[c]).getD i ⟨[],false⟩).ranges∧((ps++[(u,c.others)]).getD i (undef,false)).2=((n.sets++[c]).getD i ⟨[],false⟩).others;by_cases e3:i=n.sets.length
  ·rw[lW,gQ (by omega),show i-ps.length=0 by omega,lW,gQ (by omega),show i-n.sets.length=0 by omega]
   exact⟨hc,rfl⟩
  ·rw[lW,kW (by omega),lW,kW (by omega),<-lW,<-lW]
   exact h.each i (by omega)
 ·have hl:=(kQ.1 hk).1
  have hkm:k≠nb:=fun e2=>by
   rw[e2,h.blk] at hk;injection hk with hk;injection hk with _ hk;exact absurd hk (by decide)
  exact(e k hkm).trans ((hbl k hl (zM h.sOwn hk (by decide))).trans hk)
theorem Nw.addFollow {o:Obj}{g cap m x:Nat}(h:Nw w0 w nb n sv fv rv ev ps)(hm:m=n.follow.length)(hown:w2.ownsRow w0.heap.size 3 1 (slice (some ⟨g,0,none⟩) (m+1) cap) (m+1) (((ints n.follow).map fun x=>int i64 x)++[int i64 (x:Int)]))(hg:(w.alloc o).grownBy w2 fv.ownBlock)(hat:fv.ownBlock=some g∨w.heap.size<=g):
  Nw w0 (w2.setCell ⟨nb,1,none⟩ (slice (some ⟨g,0,none⟩) (m+1) cap)) nb {n with follow:=n.follow++[x]} sv (slice (some ⟨g,0,none⟩) (m+1) cap) rv ev ps∧StayS w (w2.setCell ⟨nb,1,none⟩ (slice (some ⟨g,0,none⟩) (m+1) cap)):=by
 subst hm;have hbx:=h.box;have hlt:=h.lt;have hbl:∀j,j<w.heap.size->some j≠fv.ownBlock->w2.heap[j]? =w.heap[j]? :=fun j hj hf=>(hg.block j (by simp;omega) hf).trans (lG _ _ _ (by omega));have hsz:w.heap.size<=w2.heap.size:=lY (by simp) hg.size;have hb:=(hbl nb hlt hbx.2.1).trans h.blk;have e:∀k,k≠nb->(w2.setCell ⟨nb,1,none⟩ (slice (some ⟨g,0,none⟩) (n.follow.length+1) cap)).heap[k]? =w2.heap[k]? :=fun k hk=>lJ _ _ _ _ hk;have hs2:=zR hg h.sOwn fun k hk=>xM h.sOwn h.fOwn (by decide) hk;have hr2:=zR hg h.rOwn fun k hk e2=>h.fr k e2.symm hk.symm;have he2:=zR hg h.eOwn fun k hk=>xM h.eOwn h.fOwn (by decide) hk;have hgm:nb≠g:=fun e2=>by
  rcases hat with ha|ha
  ·exact hbx.2.1 (by rw[ha,e2])
  ·omega
 have hO1:OwnI w2 w0.heap.size (slice (some ⟨g,0,none⟩) (n.follow.length+1) cap) (ints (n.follow++[x])):=by
  rw[zA3];have:=zN n.follow;have h2:=OwnI.snoc (l:=ints n.follow) (x:=(x:Int)) (by rw[this];exact hown);rw[this] at h2;exact h2
 refine⟨⟨by simp[setCell,lU,hb],zD hs2 fun k _ _ hk=>e k fun e2=>hbx.1 (by rw[hk,e2]),h.plen,h.each,zD hO1 fun k _ _ hk=>e k fun e2=>?_,zD hr2 fun k _ _ hk=>e k fun e2=>hbx.2.2.1 (by rw[hk,e2]),zD he2 fun k _ _ hk=>e k fun e2=>hbx.2.2.2 (by rw[hk,e2]),yV h.rOwn h.fr hat,h.nH,h.keep.trans ⟨hg.os,hg.output,by rw[zC];exact hsz,fun k hk _=>(e k (by have:=h.nH;omega)).trans (hbl k (by have:=h.keep.size;omega) fun e2=>by have:=(h.fOwn.lt k e2.symm).1;omega)⟩⟩,fun k cc hk=>?_⟩
 ·have:g=k:=by simpa[Value.ownBlock] using hk
  omega
 ·have hl:=(kQ.1 hk).1
  have hkm:k≠nb:=fun e2=>by
   rw[e2,h.blk] at hk;injection hk with hk;injection hk with _ hk;exact absurd hk (by decide)
  exact(e k hkm).trans ((hbl k hl (zM h.fOwn hk (by decide))).trans hk)
end
def Nt.place (n:Nt)(c:Cs):Nt:={n with sets:=n.sets++[c],follow:=n.follow++[0]}
def Nt.spot (n:Nt):Sn:=⟨2^n.sets.length,2^n.sets.length,false⟩
end
section
attribute [local go_sem ↓] Go.wp_at_zero Go.wp_at_succ
theorem zHX (w0 w:World)(nb:Nat)(n:Nt)(h:NwIs w0 w nb n)(hl:n.sets.length<=24)(hl2:n.follow.length<=24)(u:Value)(c:Cs)(hc:RangesAt w0 u c.ranges):
  Calls prog 123 #[pointer (some ⟨nb,0,none⟩),agg #[u,bool c.others]] w fun e w'=>e=returned n.spot.val∧NwIs w0 w' nb (n.place c)∧StayS w w':=by
 obtain⟨i0,hi0,hz0,hz1,hz2⟩:=info_parts yJ;obtain⟨is_,his,hs0,hs1,hs2⟩:=info_parts zNg;obtain⟨sv,fv,rv,ev,ps,h⟩:=h;obtain⟨au,cu,hu,-⟩:=id hc;obtain⟨w1,hw1,HN1,HS1,y0,y1,HB2⟩:∃w1,w1=(w.alloc (.cells #[u,bool c.others] 161)).alloc (.cells #[int i64 0,int i64 0,bool false] 167)∧Hid (Nw w0 w1 nb n sv fv rv ev ps)∧Hid (StayS w w1∧w1.heap.size=w.heap.size+1+1)∧w1.cell? ⟨w.heap.size,0,none⟩=some u∧w1.cell? ⟨w.heap.size,1,none⟩=some (bool c.others)∧Hid (w1.heap[w.heap.size+1]? =some (.cells #[int i64 0,int i64 0,bool false] 167)):=by
  have k1:=kZ (b:=w.heap.size) w (.cells #[u,bool c.others] 161) lQ;have k2:=kZ (b:=(w.alloc (.cells #[u,bool c.others] 161)).heap.size) (w.alloc (.cells #[u,bool c.others] 161)) (.cells #[int i64 0,int i64 0,bool false] 167) lQ;have s1:(w.alloc (.cells #[u,bool c.others] 161)).heap.size=w.heap.size+1:=by simp
  have hb:((w.alloc (.cells #[u,bool c.others] 161)).alloc (.cells #[int i64 0,int i64 0,bool false] 167)).heap[w.heap.size]? =some (.cells #[u,bool c.others] 161):=(lG _ _ _ (by rw[s1];omega)).trans (gU _ _);refine⟨_,rfl,(h.grown k1).grown k2,⟨k1.stayS.trans k2.stayS,by simp⟩,?_,?_,?_⟩
  ·unfold cell?;rw[hb];rfl
  ·unfold cell?;rw[hb];rfl
  ·have:=gU (w.alloc (.cells #[u,bool c.others] 161)) (.cells #[int i64 0,int i64 0,bool false] 167)
   rw[s1] at this;exact this
 obtain⟨asv,csv,hsv⟩:=zG h.sOwn;obtain⟨af,cf,hfv⟩:=h.fOwn.form;rw[zN] at hfv;have hplen:=h.plen;have hH:w0.heap.size<=w.heap.size:=h.keep.size;subst hsv hfv;have x0:=HN1.out.cells.1;have xf0:=HN1.out.cells.2.2.2.2.2.2 0;have hlt1:=HN1.out.lt;have hH1:w0.heap.size<=w1.heap.size:=HN1.out.keep.size;have HNP:=vl HN1.out.box.1;have OW:w1.ownsRow w0.heap.size 161 2 (slice asv n.sets.length csv) n.sets.length (vR ps):=HN1.out.sOwn;have hpw:=zEX n.sets.length (by omega);have HRC:=vl hc;have HSP:Hid (n.spot.val=agg #[int i64 ((2^n.sets.length:Nat):Int),int i64 ((2^n.sets.length:Nat):Int),bool false]):=rfl;generalize hP:2^n.sets.length=P at *;generalize c.ranges.length=rl at *;subst hu;have lb0:w.heap.size<w1.heap.size:=by rw[HS1.out.2];omega
 go_in;apply wp_cut;intro K0 J;go_wp2;apply J.out;rw[<-hw1];clear hw1;go_wp2;go_region_law ((refine step_append_lies _ (by rfl) (.tmp 16) (.tmp 18) 130 (by rfl) w0.heap.size 161 is_ _ 2 32 underlying130 his hs0 hs1 hs2 rfl (by decide) (slice asv n.sets.length csv) n.sets.length (vR ps) (by simp[Act.eval,Act.put]) ((OW.alloc _).drew) ⟨w1.heap.size,0,none⟩ 1 1 [slice au rl cu,bool c.others] (by simp[Act.eval,Act.put]) (by rfl) (news_of_block (cs:=#[slice au rl cu,bool c.others]) (t:=161) (fr:=(0,0)) (gU w1 _)) (by simp[Value.oneCell']) (by decide) (by unfold maxLen;omega) (by omega) (by simp;omega) (w1.heap.size+1) (by simp) ?_;intro gg cap w2 hown hgrow hat hlt;have hPB:=hgrow.block nb (by simp;omega) HNP.out;have x0b:w2.cell? ⟨nb,0,none⟩=some (slice asv n.sets.length csv):=(cell?_of_block hPB).trans ((cell?_alloc_past _ _ _ hlt1).trans x0);have xf0b:w2.frozen? ⟨nb,0,none⟩=false:=(frozen?_of_block hPB).trans ((frozen?_alloc_past _ _ _ hlt1).trans xf0)))
 all_goals
  have hgrow':(w1.drew.alloc (Obj.cells #[Value.slice au rl cu,Value.bool c.others] 161)).grownBy w2 (Value.slice asv n.sets.length csv).ownBlock:=hgrow;have HN3:=vl <| (HN1.out.grown (Keep.drew _)).addSet rfl HRC.out hown hgrow' (by
   rcases hat with ha|ha
   ·exact .inl ha
   ·right;show w1.heap.size<=gg;omega)
  clear hown hgrow hgrow' hat hlt hPB x0b xf0b OW x0 xf0 y0 y1;generalize w2.setCell ⟨nb,0,none⟩ (slice (some ⟨gg,0,none⟩) (n.sets.length+1) cap)=w3 at *;have v1:=HN3.out.1.cells.2.1;have hl3:=HN3.out.1.lt;have hH3:w0.heap.size<=w3.heap.size:=HN3.out.1.keep.size;have OF:w3.ownsRow w0.heap.size 3 1 (slice af n.follow.length cf) n.follow.length ((ints n.follow).map fun x=>int i64 x):=by
   have:=HN3.out.1.fOwn;unfold OwnI at this;rw[zN] at this;exact this
  go_wp2_with (first|(at_builtin;refine wpList_append_lies _ rfl _ _ 45 rfl (w0.heap.size) 3 i0 (int i64 0) 1 8 underlying45 hi0 hz0 hz1 hz2 rfl (by decide) _ _ _ rfl (OF.alloc _) ⟨w3.heap.size,0,none⟩ 1 1 [int i64 0] rfl rfl (cell_one_new _ _ _) (by intro u hu;simp at hu;subst hu;rfl) (by decide) (by unfold maxLen;omega) (by omega) (by simp;omega) _ rfl ?_;intro g2 cap2 w4 hown2 hgrow2 hat2 hlt2;have hPB2:w4.heap[nb]? =w3.heap[nb]? :=(hgrow2.block _ (by simp;omega) HN3.out.1.box.2.1).trans (lG _ _ _ (by omega));have t1:w4.cell? ⟨nb,1,none⟩=some (slice af n.follow.length cf):=(cell?_of_block hPB2).trans v1;have g1:w4.frozen? ⟨nb,1,none⟩=false:=(frozen?_of_block hPB2).trans (HN3.out.1.cells.2.2.2.2.2.2 1);have HN5:=HN3.out.1.addFollow (x:=0) rfl hown2 hgrow2 (by rcases hat2 with ha|ha;exact .inl ha;right;rw[ha];simp);have hsp:=HN5.2 _ _ (HN3.out.2 _ _ HB2.out);have HN6:=vl HN5;have HSP5:=vl hsp;have r0:(w4.setCell ⟨nb,1,none⟩ (slice (some ⟨g2,0,none⟩) (n.follow.length+1) cap2)).cell? ⟨w.heap.size+1,0,none⟩=some (int i64 0):=(by unfold cell?;rw[hsp];rfl);have r1:(w4.setCell ⟨nb,1,none⟩ (slice (some ⟨g2,0,none⟩) (n.follow.length+1) cap2)).cell? ⟨w.heap.size+1,1,none⟩=some (int i64 0):=(by unfold cell?;rw[hsp];rfl);have r2:(w4.setCell ⟨nb,1,none⟩ (slice (some ⟨g2,0,none⟩) (n.follow.length+1) cap2)).cell? ⟨w.heap.size+1,2,none⟩=some (bool false):=(by unfold cell?;rw[hsp];rfl);have q0:(w4.setCell ⟨nb,1,none⟩ (slice (some ⟨g2,0,none⟩) (n.follow.length+1) cap2)).frozen? ⟨w.heap.size+1,0,none⟩=false:=(by unfold frozen?;rw[hsp];rfl);have q1:(w4.setCell ⟨nb,1,none⟩ (slice (some ⟨g2,0,none⟩) (n.follow.length+1) cap2)).frozen? ⟨w.heap.size+1,1,none⟩=false:=(by unfold frozen?;rw[hsp];rfl);have q2:(w4.setCell ⟨nb,1,none⟩ (slice (some ⟨g2,0,none⟩) (n.follow.length+1) cap2)).frozen? ⟨w.heap.size+1,2,none⟩=false:=(by unfold frozen?;rw[hsp];rfl);clear HN5 hsp))
  obtain⟨w9,hw9,c0,c1,c2,K9⟩:∃w9,w9=(((w4.setCell ⟨nb,1,none⟩ (slice (some ⟨g2,0,none⟩) (n.follow.length+1) cap2)).setCell ⟨w.heap.size+1,0,none⟩ (int i64 (P:Int))).setCell ⟨w.heap.size+1,1,none⟩ (int i64 (P:Int))).setCell ⟨w.heap.size+1,2,none⟩ (bool false)∧w9.cell? ⟨w.heap.size+1,0,none⟩=some (int i64 (P:Int))∧w9.cell? ⟨w.heap.size+1,1,none⟩=some (int i64 (P:Int))∧w9.cell? ⟨w.heap.size+1,2,none⟩=some (bool false)∧Hid (NwIs w0 w9 nb (n.place c)∧StayS w w9):=by
   have hk:=HN6.out;have hb0:=HSP5.out;generalize w4.setCell ⟨nb,1,none⟩ (slice (some ⟨g2,0,none⟩) (n.follow.length+1) cap2)=w5 at *;have b1:(w5.setCell ⟨w.heap.size+1,0,none⟩ (int i64 (P:Int))).heap[w.heap.size+1]? =some (.cells #[int i64 (P:Int),int i64 0,bool false] 167):=by simp[setCell,lU,hb0]
   have n1:NwIs w0 (w5.setCell ⟨w.heap.size+1,0,none⟩ (int i64 (P:Int))) nb (n.place c):=NwIs.setSpan ⟨_,_,_,_,_,hk.1⟩ hb0 (by omega);have t1:StayS w (w5.setCell ⟨w.heap.size+1,0,none⟩ (int i64 (P:Int))):=jD ((HS1.out.1.trans HN3.out.2).trans hk.2) (by omega);generalize w5.setCell ⟨w.heap.size+1,0,none⟩ (int i64 (P:Int))=w6 at *;have b2:(w6.setCell ⟨w.heap.size+1,1,none⟩ (int i64 (P:Int))).heap[w.heap.size+1]? =some (.cells #[int i64 (P:Int),int i64 (P:Int),bool false] 167):=by simp[setCell,lU,b1]
   have n2:NwIs w0 (w6.setCell ⟨w.heap.size+1,1,none⟩ (int i64 (P:Int))) nb (n.place c):=n1.setSpan b1 (by omega);have t2:StayS w (w6.setCell ⟨w.heap.size+1,1,none⟩ (int i64 (P:Int))):=jD t1 (by omega);generalize w6.setCell ⟨w.heap.size+1,1,none⟩ (int i64 (P:Int))=w7 at *;have b3:(w7.setCell ⟨w.heap.size+1,2,none⟩ (bool false)).heap[w.heap.size+1]? =some (.cells #[int i64 (P:Int),int i64 (P:Int),bool false] 167):=by simp[setCell,lU,b2]
   refine⟨_,rfl,?_,?_,?_,n2.setSpan b2 (by omega),jD t2 (by omega)⟩
   ·unfold cell?;rw[b3];rfl
   ·unfold cell?;rw[b3];rfl
   ·unfold cell?;rw[b3];rfl
  rw[<-hw9];clear hw9;refine bodyPost_ret (v:=agg #[int i64 (P:Int),int i64 (P:Int),bool false]) (by simp[results,results123,go_sem,c0,c1,c2]) rfl ?_;exact⟨by rw[HSP.out],K9.out.1,K9.out.2⟩
end
structure Tr where
 kind:Nat
 set:Cs
 parts:List Tr
 least:Nat
 most:Nat
 endless:Bool
 chars:Nat
def Tr.none:Tr:=⟨0,⟨[],false⟩,[],0,0,false,0⟩
def Tr.copies (t:Tr):Nat:=if t.endless then(if t.least=0 then 1 else t.least) else t.most
def TreeAt (w:World):Nat->Nat->Tr->Prop
 |0,_,_=>False
 |d+1,b,t=>b<w.heap.size∧∃rv pv,w.heap[b]? =some (.cells #[int i64 (t.kind:Int),rv,bool t.set.others,pv,int i64 (t.least:Int),int i64 (t.most:Int),bool t.endless,int i64 (t.chars:Int)] 165)∧RangesAt w rv t.set.ranges∧
   ∃ao cap,pv=slice ao t.parts.length cap∧(t.parts.length<=cap∧t.parts.length<=1000000000000∧t.least<=1000∧t.most<=1000)∧cap<=maxLen∧∀i,i<t.parts.length->∃g o p,ao=some ⟨g,o,none⟩∧In w g∧w.cell? ⟨g,o+i,none⟩=some (pointer (some ⟨p,0,none⟩))∧TreeAt w d p (t.parts.getD i Tr.none)
abbrev Lay:=Nt->Tr->Nt×Sn
def rowTo (sub:Lay)(n:Nt)(parts:List Tr):Nat->Nt×Sn
 |0=>(n,⟨0,0,true⟩)
 |j+1=>((sub (rowTo sub n parts j).1 (parts.getD j Tr.none)).1.link (rowTo sub n parts j).2.last (sub (rowTo sub n parts j).1 (parts.getD j Tr.none)).2.first,(rowTo sub n parts j).2.then (sub (rowTo sub n parts j).1 (parts.getD j Tr.none)).2)
def Sn.or (a b:Sn):Sn:=⟨a.first|||b.first,a.last|||b.last,a.empty||b.empty⟩
def vV (sub:Lay)(n:Nt)(parts:List Tr):Nat->Nt×Sn
 |0=>(n,⟨0,0,false⟩)
 |j+1=>((sub (vV sub n parts j).1 (parts.getD j Tr.none)).1,(vV sub n parts j).2.or (sub (vV sub n parts j).1 (parts.getD j Tr.none)).2)
def jM (t:Tr)(j:Nat)(q:Nt×Sn):Nt:=if t.endless&&(j+1==t.copies) then q.1.link q.2.last q.2.first else q.1
def zAC (t:Tr)(j:Nat)(q:Nt×Sn):Sn:=if t.least<=j then{q.2 with empty:=true} else q.2
def xS (sub:Lay)(n:Nt)(t:Tr):Nat->Nt×Sn
 |0=>(n,⟨0,0,true⟩)
 |j+1=>((jM t j (rowTo sub (xS sub n t j).1 t.parts t.parts.length)).link (xS sub n t j).2.last (zAC t j (rowTo sub (xS sub n t j).1 t.parts t.parts.length)).first,(xS sub n t j).2.then (zAC t j (rowTo sub (xS sub n t j).1 t.parts t.parts.length)))
def xC:Nat->Lay
 |0,n,_=>(n,⟨0,0,true⟩)
 |d+1,n,t=>if t.kind=1 then(n.place t.set,n.spot) else if t.kind=2 then rowTo (xC d) n t.parts t.parts.length else if t.kind=3 then vV (xC d) n t.parts t.parts.length else if t.kind=4 then xS (xC d) n t t.copies else(n,⟨0,0,true⟩)
def zW (f:Tr->Nat)(parts:List Tr):Nat->Nat
 |0=>0
 |j+1=>zW f parts j+f (parts.getD j Tr.none)
def yP:Nat->Tr->Nat
 |0,_=>0
 |d+1,t=>if t.kind=1 then 1 else if t.kind=2∨t.kind=3 then zW (yP d) t.parts t.parts.length else if t.kind=4 then t.copies*zW (yP d) t.parts t.parts.length else 0
structure Nt.Good (n:Nt):Prop where
 len:n.sets.length<=24
 same:n.follow.length=n.sets.length
 fol:∀x∈n.follow,x<2^n.sets.length
theorem Nt.Good.top {n:Nt}(h:n.Good):∀x∈n.follow,x<2^24:=fun x hx=>lZ (h.fol x hx) (kG (by omega) h.len)
theorem Sn.Small.up {s:Sn}{k m:Nat}(h:s.Small k)(hk:k<=m):s.Small m:=⟨lZ h.first (kG (by omega) hk),lZ h.last (kG (by omega) hk)⟩
theorem zBN (n:Nt)(a b j:Nat):(n.linkTo a b j).sets=n.sets∧(n.linkTo a b j).rules=n.rules∧(n.linkTo a b j).empty=n.empty∧(n.linkTo a b j).first=n.first∧(n.linkTo a b j).ends=n.ends:=by
 induction j with
 |zero=>exact⟨rfl,rfl,rfl,rfl,rfl⟩
 |succ j ih=>
  unfold Nt.linkTo;split
  ·exact ih
  ·exact ih
theorem zB9 {n:Nt}(h:n.Good)(a b:Nat)(hb:b<2^n.sets.length):(n.link a b).Good∧(n.link a b).sets=n.sets:=by
 have e:=(zBN n a b n.follow.length).1;refine⟨⟨by unfold Nt.link;rw[e];exact h.len,by unfold Nt.link;rw[e,zE3];exact h.same,?_⟩,e⟩;unfold Nt.link;rw[e];exact zC3 a b _ hb h.fol
theorem zI9 {n:Nt}(h:n.Good)(c:Cs)(hl:n.sets.length+1<=24):(n.place c).Good∧(n.place c).sets.length=n.sets.length+1∧n.spot.Small (n.sets.length+1):=by
 have e:(n.place c).sets.length=n.sets.length+1:=by simp[Nt.place]
 have hp:2^n.sets.length<2^(n.sets.length+1):=Nat.pow_lt_pow_right (by omega) (by omega);refine⟨⟨by omega,by simp[Nt.place,h.same],fun x hx=>?_⟩,e,⟨hp,hp⟩⟩;rw[e];rcases kU.1 hx with h1|h1
 ·exact Nat.lt_trans (h.fol x h1) hp
 ·rw[kY.1 h1];exact Nat.pow_pos (by omega)
def Lays (sub:Lay)(cnt:Tr->Nat):Prop:=∀n t,n.Good->n.sets.length+cnt t<=24->(sub n t).1.Good∧(sub n t).1.sets.length=n.sets.length+cnt t∧(sub n t).2.Small (n.sets.length+cnt t)
theorem zAx (k:Nat)(e:Bool):(Sn.mk 0 0 e).Small k:=⟨Nat.pow_pos (by omega),Nat.pow_pos (by omega)⟩
theorem zCF (f:Tr->Nat)(parts:List Tr)(j m:Nat)(h:j<=m):zW f parts j<=zW f parts m:=by
 induction m with
 |zero=>rw[Nat.le_zero.1 h];exact lQ
 |succ m ih=>
  by_cases e:j=m+1
  ·rw[e];exact lQ
  ·exact lY (ih (by omega)) (Nat.le_add_right _ _)
theorem zAy {sub:Lay}{cnt:Tr->Nat}(h:Lays sub cnt){n:Nt}(hn:n.Good)(parts:List Tr)(j:Nat)(hl:n.sets.length+zW cnt parts j<=24):(rowTo sub n parts j).1.Good∧(rowTo sub n parts j).1.sets.length=n.sets.length+zW cnt parts j∧(rowTo sub n parts j).2.Small (n.sets.length+zW cnt parts j):=by
 induction j with
 |zero=>exact⟨hn,rfl,zAx _ _⟩
 |succ j ih=>
  have hl2:n.sets.length+(zW cnt parts j+cnt (parts.getD j Tr.none))<=24:=hl;obtain⟨h1,h2,h3⟩:=ih (by omega);obtain⟨g1,g2,g3⟩:=h _ (parts.getD j Tr.none) h1 (by omega);rw[h2] at g2 g3;have e:n.sets.length+zW cnt parts (j+1)=n.sets.length+zW cnt parts j+cnt (parts.getD j Tr.none):=by show n.sets.length+(zW cnt parts j+cnt (parts.getD j Tr.none))=_;omega
  rw[e];have k1:=zB9 g1 (rowTo sub n parts j).2.last _ (by rw[g2];exact g3.first);exact⟨k1.1,by show((sub _ _).1.link _ _).sets.length=_;rw[k1.2];exact g2,Sn.then_small (h3.up (by omega)) g3⟩
theorem zBR {sub:Lay}{cnt:Tr->Nat}(h:Lays sub cnt){n:Nt}(hn:n.Good)(parts:List Tr)(j:Nat)(hl:n.sets.length+zW cnt parts j<=24):(vV sub n parts j).1.Good∧(vV sub n parts j).1.sets.length=n.sets.length+zW cnt parts j∧(vV sub n parts j).2.Small (n.sets.length+zW cnt parts j):=by
 induction j with
 |zero=>exact⟨hn,rfl,zAx _ _⟩
 |succ j ih=>
  have hl2:n.sets.length+(zW cnt parts j+cnt (parts.getD j Tr.none))<=24:=hl;obtain⟨h1,h2,h3⟩:=ih (by omega);obtain⟨g1,g2,g3⟩:=h _ (parts.getD j Tr.none) h1 (by omega);rw[h2] at g2 g3;have e:n.sets.length+zW cnt parts (j+1)=n.sets.length+zW cnt parts j+cnt (parts.getD j Tr.none):=by show n.sets.length+(zW cnt parts j+cnt (parts.getD j Tr.none))=_;omega
  rw[e];have h4:=h3.up (m:=n.sets.length+zW cnt parts j+cnt (parts.getD j Tr.none)) (by omega);exact⟨g1,g2,⟨Nat.or_lt_two_pow h4.first g3.first,Nat.or_lt_two_pow h4.last g3.last⟩⟩
theorem zIb {t:Tr}{j k:Nat}{q:Nt×Sn}(h:q.2.Small k):(zAC t j q).Small k:=by
 unfold zAC;split
 ·exact⟨h.first,h.last⟩
 ·exact h
theorem zBr {sub:Lay}{cnt:Tr->Nat}(h:Lays sub cnt){n:Nt}(hn:n.Good)(t:Tr)(j:Nat)(hl:n.sets.length+j*zW cnt t.parts t.parts.length<=24):(xS sub n t j).1.Good∧(xS sub n t j).1.sets.length=n.sets.length+j*zW cnt t.parts t.parts.length∧(xS sub n t j).2.Small (n.sets.length+j*zW cnt t.parts t.parts.length):=by
 induction j with
 |zero=>exact⟨hn,by simp[xS],zAx _ _⟩
 |succ j ih=>
  rw[Nat.add_mul,Nat.one_mul] at hl ⊢;obtain⟨h1,h2,h3⟩:=ih (by omega);obtain⟨g1,g2,g3⟩:=zAy h h1 t.parts t.parts.length (by omega);rw[h2] at g2 g3;have k0:(jM t j (rowTo sub (xS sub n t j).1 t.parts t.parts.length)).Good∧(jM t j (rowTo sub (xS sub n t j).1 t.parts t.parts.length)).sets=(rowTo sub (xS sub n t j).1 t.parts t.parts.length).1.sets:=by
   unfold jM;split
   ·exact zB9 g1 _ _ (by rw[g2];exact g3.first)
   ·exact⟨g1,rfl⟩
  have s2:=zIb (t:=t) (j:=j) g3;have k1:=zB9 k0.1 (xS sub n t j).2.last (zAC t j (rowTo sub (xS sub n t j).1 t.parts t.parts.length)).first (by rw[k0.2,g2];exact s2.first)
  have e:n.sets.length+(j*zW cnt t.parts t.parts.length+zW cnt t.parts t.parts.length)=n.sets.length+j*zW cnt t.parts t.parts.length+zW cnt t.parts t.parts.length:=by omega
  rw[e];exact⟨k1.1,by show((jM t j _).link _ _).sets.length=_;rw[k1.2,k0.2];exact g2,Sn.then_small (h3.up (by omega)) s2⟩
theorem jQ (d:Nat):Lays (xC d) (yP d):=by
 induction d with
 |zero=>exact fun n t hn _=>⟨hn,rfl,zAx _ _⟩
 |succ d ih=>
  intro n t hn hl;unfold xC;unfold yP at hl ⊢;by_cases k1:t.kind=1
  ·simp only[if_pos k1] at hl ⊢
   have:=zI9 hn t.set hl;exact this
  ·simp only[if_neg k1] at hl ⊢
   by_cases k2:t.kind=2
   ·simp only[if_pos k2,if_pos (Or.inl k2:t.kind=2∨t.kind=3)] at hl ⊢
    exact zAy ih hn _ _ hl
   ·simp only[if_neg k2] at hl ⊢
    by_cases k3:t.kind=3
    ·simp only[if_pos k3,if_pos (Or.inr k3:t.kind=2∨t.kind=3)] at hl ⊢
     exact zBR ih hn _ _ hl
    ·simp only[if_neg k3,if_neg (show¬(t.kind=2∨t.kind=3) by omega)] at hl ⊢
     by_cases k4:t.kind=4
     ·simp only[if_pos k4] at hl ⊢
      exact zBr ih hn t _ hl
     ·simp only[if_neg k4] at hl ⊢
      exact⟨hn,rfl,zAx _ _⟩
section
def zBY (w0:World)(nb d:Nat)(sub:Lay)(cnt:Tr->Nat):Prop:=∀(w:World) (n:Nt) (b:Nat) (t:Tr),NwIs w0 w nb n->n.Good->TreeAt w0 d b t->n.sets.length+cnt t<=24->Calls prog 89 #[pointer (some ⟨nb,0,none⟩),pointer (some ⟨b,0,none⟩)] w fun e w'=>e=returned (sub n t).2.val∧NwIs w0 w' nb (sub n t).1∧StayS w w'
structure Al (w0 w wr:World)(nb:Nat)(n:Nt)(s:Sn):Prop where
 net:NwIs w0 wr nb n
 res:wr.heap[w.heap.size]? =some (.cells (Sn.mk 0 0 false).cells 167)
 all:wr.heap[w.heap.size+1]? =some (.cells s.cells 167)
 stay:StayS w wr
 old:w0.heap.size<=w.heap.size
theorem zI {w:World}{b:Nat}{s:Sn}(h:w.heap[b]? =some (.cells s.cells 167)):w.cell? ⟨b,0,none⟩=some (int i64 (s.first:Int))∧w.cell? ⟨b,1,none⟩=some (int i64 (s.last:Int))∧w.cell? ⟨b,2,none⟩=some (bool s.empty)∧∀i,w.frozen? ⟨b,i,none⟩=false:=by
 refine⟨?_,?_,?_,fun i=>?_⟩
 ·unfold cell?;rw[h];rfl
 ·unfold cell?;rw[h];rfl
 ·unfold cell?;rw[h];rfl
 ·unfold frozen?;rw[h];simp
def World.span (w:World)(b:Nat)(s:Sn):World:=((w.setCell ⟨b,0,none⟩ (int i64 (s.first:Int))).setCell ⟨b,1,none⟩ (int i64 (s.last:Int))).setCell ⟨b,2,none⟩ (bool s.empty)
theorem zEI {w:World}{b:Nat}{s s':Sn}(h:w.heap[b]? =some (.cells s.cells 167)):(World.span w b s').heap[b]? =some (.cells s'.cells 167)∧(∀k,k≠b->(World.span w b s').heap[k]? =w.heap[k]?)∧(∀w0 nb n,NwIs w0 w nb n->w0.heap.size<=b->NwIs w0 (World.span w b s') nb n):=by
 have c2:(w.setCell ⟨b,0,none⟩ (int i64 (s'.first:Int))).heap[b]? =some (.cells #[int i64 (s'.first:Int),int i64 (s.last:Int),bool s.empty] 167):=by simp[setCell,lU,h,Sn.cells]
 have e1:∀k,k≠b->(w.setCell ⟨b,0,none⟩ (int i64 (s'.first:Int))).heap[k]? =w.heap[k]? :=fun k hk=>lJ _ _ _ _ hk;have n1:∀w0 nb n,NwIs w0 w nb n->w0.heap.size<=b->NwIs w0 (w.setCell ⟨b,0,none⟩ (int i64 (s'.first:Int))) nb n:=fun w0 nb n hn hb=>hn.setSpan h hb;unfold World.span;generalize w.setCell ⟨b,0,none⟩ (int i64 (s'.first:Int))=w1 at *;have c3:(w1.setCell ⟨b,1,none⟩ (int i64 (s'.last:Int))).heap[b]? =some (.cells #[int i64 (s'.first:Int),int i64 (s'.last:Int),bool s.empty] 167):=by simp[setCell,lU,c2]
 have e2:∀k,k≠b->(w1.setCell ⟨b,1,none⟩ (int i64 (s'.last:Int))).heap[k]? =w.heap[k]? :=fun k hk=>(lJ _ _ _ _ hk).trans (e1 k hk);have n2:∀w0 nb n,NwIs w0 w nb n->w0.heap.size<=b->NwIs w0 (w1.setCell ⟨b,1,none⟩ (int i64 (s'.last:Int))) nb n:=fun w0 nb n hn hb=>(n1 w0 nb n hn hb).setSpan c2 hb;generalize w1.setCell ⟨b,1,none⟩ (int i64 (s'.last:Int))=w2 at *;refine⟨by simp[setCell,lU,c3,Sn.cells],fun k hk=>(lJ _ _ _ _ hk).trans (e2 k hk),fun w0 nb n hn hb=>(n2 w0 nb n hn hb).setSpan c3 hb⟩
section
variable {w0 w wr w2:World} {nb:Nat} {n:Nt} {s:Sn}
theorem Al.call {n2:Nt}(h:Al w0 w wr nb n s)(hn:NwIs w0 w2 nb n2)(hs:StayS wr w2):Al w0 w w2 nb n2 s:=⟨hn,hs _ _ h.res,hs _ _ h.all,h.stay.trans hs,h.old⟩
theorem Al.grown (h:Al w0 w wr nb n s)(hk:Grew wr w2):Al w0 w w2 nb n s:=h.call (h.net.grown hk) hk.stayS
theorem Al.setAll (h:Al w0 w wr nb n s)(s':Sn):Al w0 w (World.span wr (w.heap.size+1) s') nb n s':=by
 obtain⟨h1,h2,h3⟩:=zEI (s':=s') h.all;have ho:=h.old;exact⟨h3 _ _ _ h.net (by omega),(h2 _ (by omega)).trans h.res,h1,fun k c hk=>by
  have hl:=(kQ.1 hk).1;exact(h2 k (by omega)).trans (h.stay k c hk),h.old⟩
theorem Al.fin (h:Al w0 w wr nb n s)(s':Sn):NwIs w0 (World.span wr w.heap.size s') nb n∧StayS w (World.span wr w.heap.size s')∧(World.span wr w.heap.size s').cell? ⟨w.heap.size,0,none⟩=some (int i64 (s'.first:Int))∧(World.span wr w.heap.size s').cell? ⟨w.heap.size,1,none⟩=some (int i64 (s'.last:Int))∧(World.span wr w.heap.size s').cell? ⟨w.heap.size,2,none⟩=some (bool s'.empty):=by
 obtain⟨h1,h2,h3⟩:=zEI (s':=s') h.res;obtain⟨c0,c1,c2,_⟩:=zI h1;exact⟨h3 _ _ _ h.net h.old,fun k c hk=>by
  have hl:=(kQ.1 hk).1;exact(h2 k (by omega)).trans (h.stay k c hk),c0,c1,c2⟩
theorem Al.start (h:NwIs w0 w nb n)(s:Sn):Al w0 w ((w.alloc (.cells (Sn.mk 0 0 false).cells 167)).alloc (.cells s.cells 167)) nb n s:=by
 have s1:(w.alloc (.cells (Sn.mk 0 0 false).cells 167)).heap.size=w.heap.size+1:=by simp
 have k1:=kZ (b:=w.heap.size) w (.cells (Sn.mk 0 0 false).cells 167) lQ;have k2:=kZ (b:=(w.alloc (.cells (Sn.mk 0 0 false).cells 167)).heap.size) (w.alloc (.cells (Sn.mk 0 0 false).cells 167)) (.cells s.cells 167) lQ;refine⟨(h.grown k1).grown k2,(lG _ _ _ (by rw[s1];omega)).trans (gU _ _),?_,k1.stayS.trans k2.stayS,by obtain⟨_,_,_,_,_,h⟩:=h;exact h.keep.size⟩;have:=gU (w.alloc (.cells (Sn.mk 0 0 false).cells 167)) (.cells s.cells 167);rw[s1] at this;exact this
end
theorem zC4 (w0:World)(nb d:Nat)(sub:Lay)(cnt:Tr->Nat)(hs:zBY w0 nb d sub cnt)(hy:Lays sub cnt)(w:World)(n:Nt)(b:Nat)(t:Tr)(h:NwIs w0 w nb n)(hg:n.Good)(ht:TreeAt w0 (d+1) b t)(hl:n.sets.length+zW cnt t.parts t.parts.length<=24)(hpl:t.parts.length<=1000000000000):
  Calls prog 124 #[pointer (some ⟨nb,0,none⟩),pointer (some ⟨b,0,none⟩)] w fun e w'=>e=returned (rowTo sub n t.parts t.parts.length).2.val∧NwIs w0 w' nb (rowTo sub n t.parts t.parts.length).1∧StayS w w':=by
 obtain⟨hbl,rv,pv,hb,_,ao,cap,rfl,_,_,hpc⟩:=ht;have HPT:Hid (∀wr n2,NwIs w0 wr nb n2->wr.cell? ⟨b,3,none⟩=some (slice ao t.parts.length cap)∧∀i,i<t.parts.length->∃g o p,ao=some ⟨g,o,none⟩∧wr.cell? ⟨g,o+i,none⟩=some (pointer (some ⟨p,0,none⟩))∧TreeAt w0 d p (t.parts.getD i Tr.none)):=by
  rintro wr n2 ⟨_,_,_,_,_,hN⟩;have hk:=hN.keep;have hb2:=(hk.block b hbl (kJ hbl)).trans hb;refine⟨by unfold cell?;rw[hb2];rfl,fun i hi=>?_⟩;obtain⟨g,o,p,ha,hgi,hc,hti⟩:=hpc i hi;exact⟨g,o,p,ha,zA hc hgi hk,hti⟩
 obtain⟨RT,hRT⟩:∃RT,RT=rowTo sub n t.parts:=⟨_,rfl⟩
 have HRT:Hid (RT 0=(n,⟨0,0,true⟩)∧(∀j,RT (j+1)=((sub (RT j).1 (t.parts.getD j Tr.none)).1.link (RT j).2.last (sub (RT j).1 (t.parts.getD j Tr.none)).2.first,(RT j).2.then (sub (RT j).1 (t.parts.getD j Tr.none)).2))∧(∀j,j<=t.parts.length->(RT j).1.Good∧(RT j).2.Small 24)∧(∀j,j<t.parts.length->(RT j).1.sets.length+cnt (t.parts.getD j Tr.none)<=24∧(sub (RT j).1 (t.parts.getD j Tr.none)).1.Good∧(sub (RT j).1 (t.parts.getD j Tr.none)).2.Small 24)∧RT t.parts.length=rowTo sub n t.parts t.parts.length):=by
  rw[hRT];have hm:∀j,j<=t.parts.length->n.sets.length+zW cnt t.parts j<=24:=fun j hj=>lY (Nat.add_le_add_left (zCF cnt t.parts j _ hj) _) hl;refine⟨rfl,fun j=>rfl,fun j hj=>?_,fun j hj=>?_,rfl⟩
  ·have:=zAy hy hg t.parts j (hm j hj)
   exact⟨this.1,this.2.2.up (hm j hj)⟩
  ·have h1:=zAy hy hg t.parts j (hm j (by omega))
   have h2:n.sets.length+(zW cnt t.parts j+cnt (t.parts.getD j Tr.none))<=24:=hm (j+1) hj;have h3:=hy _ (t.parts.getD j Tr.none) h1.1 (by rw[h1.2.1];omega);exact⟨by rw[h1.2.1];omega,h3.1,h3.2.2.up (by rw[h1.2.1];omega)⟩
 obtain⟨w1,hw1,HA1⟩:∃w1,w1=(w.alloc (.cells #[int i64 0,int i64 0,bool false] 167)).alloc (.cells #[int i64 0,int i64 0,bool true] 167)∧Hid (Al w0 w w1 nb n ⟨0,0,true⟩):=⟨_,rfl,Al.start h ⟨0,0,true⟩⟩
 have HS:=vl hs;generalize hRE:rowTo sub n t.parts t.parts.length=RE at *;clear hRE hRT hpc hb hs hy hl h hg;go_in;apply wp_cut;intro K0 J;go_wp2;apply J.out;clear J;apply wp_cut;intro K0 J;go_wp2;apply J.out;clear J;rw[<-hw1];clear hw1;have y3:=(HPT.out w1 n HA1.out.net).1;go_wp2;clear y3;go_loopg [15] t.parts.length (fun q i wr=>∃j:Nat,q=t.parts.length-j∧j<=t.parts.length∧i=int i64 (j:Int)∧Al w0 w wr nb (RT j).1 (RT j).2)
 case atStart=>exact⟨0,rfl,lX,rfl,by rw[HRT.out.1];exact HA1.out⟩
 case round=>
  obtain⟨j,hgk,hj,rfl,hA⟩:=hrel;have HB:Hid (gk=t.parts.length-j∧Al w0 w wr nb (RT j).1 (RT j).2):=⟨hgk,hA⟩
  by_cases hj2:j<t.parts.length
  ·have i1:(j:Int)<(t.parts.length:Int):=by omega
   obtain⟨g,o,p,rfl,hc,hti⟩:=(HPT.out wr _ hA.net).2 j hj2;obtain⟨b1,b2,b3⟩:=HRT.out.2.2.2.1 j hj2;obtain⟨g1,g2⟩:=HRT.out.2.2.1 j hj;have HC0:=HS.out wr (RT j).1 p (t.parts.getD j Tr.none) hA.net g1 hti b1;have HTH0:=fun w6 (h6:NwIs w0 w6 nb (sub (RT j).1 (t.parts.getD j Tr.none)).1)=>zCv w0 w6 nb _ h6 (by rw[b2.same];exact b2.len) b2.top (RT j).2 (sub (RT j).1 (t.parts.getD j Tr.none)).2 g2 b3;have HN:=vl <| HRT.out.2.1 j;have HA:=vl hA;clear hgk hA hti b1 b2 b3 g1 g2;generalize (RT j).1=nj at *;generalize (RT j).2=sj at *;generalize (sub nj (t.parts.getD j Tr.none)).1=q1 at *;generalize (sub nj (t.parts.getD j Tr.none)).2=q2 at *;have HC:Hid (Ca 89 #[pointer (some ⟨nb,0,none⟩),pointer (some ⟨p,0,none⟩)] wr fun e w'=>e=returned (agg #[int i64 (q2.first:Int),int i64 (q2.last:Int),bool q2.empty])∧NwIs w0 w' nb q1∧StayS wr w'):=HC0;have HTH:Hid (∀w6,NwIs w0 w6 nb q1->Ca 164 #[pointer (some ⟨nb,0,none⟩),agg #[int i64 (sj.first:Int),int i64 (sj.last:Int),bool sj.empty],agg #[int i64 (q2.first:Int),int i64 (q2.last:Int),bool q2.empty]] w6 fun e w'=>e=returned (agg #[int i64 ((sj.then q2).first:Int),int i64 ((sj.then q2).last:Int),bool (sj.then q2).empty])∧NwIs w0 w' nb (q1.link sj.last q2.first)∧StayS w6 w'):=HTH0;clear HC0 HTH0;generalize sj.then q2=s9 at *
   go_wp2_with (first|(go_at_call 89;refine HC.out.mono ?_;rintro e w5 ⟨rfl,hN5,hS5⟩;have A5:=HA.out.call hN5 hS5;have A6:=A5.grown (kZ w5 (Obj.cells #[int i64 (q2.first:Int),int i64 (q2.last:Int),bool q2.empty] 167) lQ);obtain⟨c0,c1,c2,-⟩:=zI A6.all;obtain⟨d0,d1,d2,-⟩:=zI (s:=q2) (gU w5 (Obj.cells #[int i64 (q2.first:Int),int i64 (q2.last:Int),bool q2.empty] 167));have HA6:Hid (Al w0 w (w5.alloc (Obj.cells #[int i64 (q2.first:Int),int i64 (q2.last:Int),bool q2.empty] 167)) nb q1 sj):=A6;clear A5 A6 hN5 hS5)|(go_at_call 164;refine(HTH.out _ HA6.out.net).mono ?_;rintro e w7 ⟨rfl,hN7,hS7⟩;have A7:=HA6.out.call hN7 hS7;obtain⟨e0,e1,e2,ef⟩:=zI A7.all;have f0:=ef 0;have f1:=ef 1;have f2:=ef 2;have HA8:Hid (Al w0 w (World.span w7 (w.heap.size+1) s9) nb (q1.link sj.last q2.first) s9):=A7.setAll s9;clear A7 hN7 hS7 ef))
   go_roundg (t.parts.length-(j+1))
   case measure=>rw[HB.out.1];omega
   case rel=>exact⟨j+1,rfl,by omega,by go_num,by rw[HN.out];exact HA8.out⟩
  ·have i1:(t.parts.length:Int)<=(j:Int):=by omega
   have e:j=t.parts.length:=by omega
   subst e;rw[HRT.out.2.2.2.2] at hA;obtain⟨c0,c1,c2,-⟩:=zI hA.all;obtain⟨r0,r1,r2,rf⟩:=zI hA.res;have f0:=rf 0;have f1:=rf 1;have f2:=rf 2;have HF:Hid (Al w0 w wr nb RE.1 RE.2):=hA;clear hgk hA rf;go_wp2;obtain⟨w9,hw9,K9,z0,z1,z2⟩:∃w9,w9=((wr.setCell ⟨w.heap.size,0,none⟩ (int i64 (RE.2.first:Int))).setCell ⟨w.heap.size,1,none⟩ (int i64 (RE.2.last:Int))).setCell ⟨w.heap.size,2,none⟩ (bool RE.2.empty)∧Hid (NwIs w0 w9 nb RE.1∧StayS w w9)∧w9.cell? ⟨w.heap.size,0,none⟩=some (int i64 (RE.2.first:Int))∧w9.cell? ⟨w.heap.size,1,none⟩=some (int i64 (RE.2.last:Int))∧w9.cell? ⟨w.heap.size,2,none⟩=some (bool RE.2.empty):=by
    obtain⟨h1,h2,h3,h4,h5⟩:=HF.out.fin RE.2;exact⟨_,rfl,⟨h1,h2⟩,h3,h4,h5⟩
   rw[<-hw9];clear hw9;refine bodyPost_ret (v:=agg #[int i64 (RE.2.first:Int),int i64 (RE.2.last:Int),bool RE.2.empty]) (by simp[results,results124,go_sem,z0,z1,z2]) rfl ?_;exact⟨rfl,K9.out.1,K9.out.2⟩
end
theorem zEd (w0:World)(nb d:Nat)(sub:Lay)(cnt:Tr->Nat)(hs:zBY w0 nb d sub cnt)(hy:Lays sub cnt)(w:World)(n:Nt)(b:Nat)(t:Tr)(h:NwIs w0 w nb n)(hg:n.Good)(ht:TreeAt w0 (d+1) b t)(hl:n.sets.length+zW cnt t.parts t.parts.length<=24)(hpl:t.parts.length<=1000000000000):
  Calls prog 125 #[pointer (some ⟨nb,0,none⟩),pointer (some ⟨b,0,none⟩)] w fun e w'=>e=returned (vV sub n t.parts t.parts.length).2.val∧NwIs w0 w' nb (vV sub n t.parts t.parts.length).1∧StayS w w':=by
 obtain⟨hbl,rv,pv,hb,_,ao,cap,rfl,_,_,hpc⟩:=ht;have HPT:Hid (∀wr n2,NwIs w0 wr nb n2->wr.cell? ⟨b,3,none⟩=some (slice ao t.parts.length cap)∧∀i,i<t.parts.length->∃g o p,ao=some ⟨g,o,none⟩∧wr.cell? ⟨g,o+i,none⟩=some (pointer (some ⟨p,0,none⟩))∧TreeAt w0 d p (t.parts.getD i Tr.none)):=by
  rintro wr n2 ⟨_,_,_,_,_,hN⟩;have hk:=hN.keep;have hb2:=(hk.block b hbl (kJ hbl)).trans hb;refine⟨by unfold cell?;rw[hb2];rfl,fun i hi=>?_⟩;obtain⟨g,o,p,ha,hgi,hc,hti⟩:=hpc i hi;exact⟨g,o,p,ha,zA hc hgi hk,hti⟩
 obtain⟨RT,hRT⟩:∃RT,RT=vV sub n t.parts:=⟨_,rfl⟩
 have HRT:Hid (RT 0=(n,⟨0,0,false⟩)∧(∀j,RT (j+1)=((sub (RT j).1 (t.parts.getD j Tr.none)).1,(RT j).2.or (sub (RT j).1 (t.parts.getD j Tr.none)).2))∧(∀j,j<=t.parts.length->(RT j).1.Good∧(RT j).2.Small 24)∧(∀j,j<t.parts.length->(RT j).1.sets.length+cnt (t.parts.getD j Tr.none)<=24∧(sub (RT j).1 (t.parts.getD j Tr.none)).1.Good∧(sub (RT j).1 (t.parts.getD j Tr.none)).2.Small 24)∧RT t.parts.length=vV sub n t.parts t.parts.length):=by
  rw[hRT];have hm:∀j,j<=t.parts.length->n.sets.length+zW cnt t.parts j<=24:=fun j hj=>lY (Nat.add_le_add_left (zCF cnt t.parts j _ hj) _) hl;refine⟨rfl,fun j=>rfl,fun j hj=>?_,fun j hj=>?_,rfl⟩
  ·have:=zBR hy hg t.parts j (hm j hj)
   exact⟨this.1,this.2.2.up (hm j hj)⟩
  ·have h1:=zBR hy hg t.parts j (hm j (by omega))
   have h2:n.sets.length+(zW cnt t.parts j+cnt (t.parts.getD j Tr.none))<=24:=hm (j+1) hj;have h3:=hy _ (t.parts.getD j Tr.none) h1.1 (by rw[h1.2.1];omega);exact⟨by rw[h1.2.1];omega,h3.1,h3.2.2.up (by rw[h1.2.1];omega)⟩
 obtain⟨w1,hw1,HA1⟩:∃w1,w1=(w.alloc (.cells #[int i64 0,int i64 0,bool false] 167)).alloc (.cells #[int i64 0,int i64 0,bool false] 167)∧Hid (Al w0 w w1 nb n ⟨0,0,false⟩):=⟨_,rfl,Al.start h ⟨0,0,false⟩⟩
 have HS:=vl hs;generalize hRE:vV sub n t.parts t.parts.length=RE at *;clear hRE hRT hpc hb hs hy hl h hg;go_in;apply wp_cut;intro K0 J;go_wp2;apply J.out;clear J;apply wp_cut;intro K0 J;go_wp2;apply J.out;clear J;rw[<-hw1];clear hw1;have y3:=(HPT.out w1 n HA1.out.net).1;go_wp2;clear y3;go_loopg [15] t.parts.length (fun q i wr=>∃j:Nat,q=t.parts.length-j∧j<=t.parts.length∧i=int i64 (j:Int)∧Al w0 w wr nb (RT j).1 (RT j).2)
 case atStart=>exact⟨0,rfl,lX,rfl,by rw[HRT.out.1];exact HA1.out⟩
 case round=>
  obtain⟨j,hgk,hj,rfl,hA⟩:=hrel;have HB:Hid (gk=t.parts.length-j∧Al w0 w wr nb (RT j).1 (RT j).2):=⟨hgk,hA⟩
  by_cases hj2:j<t.parts.length
  ·have i1:(j:Int)<(t.parts.length:Int):=by omega
   obtain⟨g,o,p,rfl,hc,hti⟩:=(HPT.out wr _ hA.net).2 j hj2;obtain⟨b1,b2,b3⟩:=HRT.out.2.2.2.1 j hj2;obtain⟨g1,g2⟩:=HRT.out.2.2.1 j hj;have HC0:=HS.out wr (RT j).1 p (t.parts.getD j Tr.none) hA.net g1 hti b1;have l1:(RT j).2.first<16777216:=g2.first
   have l2:(RT j).2.last<16777216:=g2.last;have l3:(sub (RT j).1 (t.parts.getD j Tr.none)).2.first<16777216:=b3.first
   have l4:(sub (RT j).1 (t.parts.getD j Tr.none)).2.last<16777216:=b3.last;have HN:=vl <| HRT.out.2.1 j;have HA:=vl hA;clear hgk hA hti b1 b2 b3 g1 g2;generalize (RT j).1=nj at *;generalize (RT j).2=sj at *;generalize (sub nj (t.parts.getD j Tr.none)).1=q1 at *;generalize (sub nj (t.parts.getD j Tr.none)).2=q2 at *;have HC:Hid (Ca 89 #[pointer (some ⟨nb,0,none⟩),pointer (some ⟨p,0,none⟩)] wr fun e w'=>e=returned (agg #[int i64 (q2.first:Int),int i64 (q2.last:Int),bool q2.empty])∧NwIs w0 w' nb q1∧StayS wr w'):=HC0;clear HC0;have hor1:bits .or i64 (sj.first:Int) (q2.first:Int)=((sj.first|||q2.first:Nat):Int):=yM _ _ (by omega) (by omega);have hor2:bits .or i64 (sj.last:Int) (q2.last:Int)=((sj.last|||q2.last:Nat):Int):=yM _ _ (by omega) (by omega);clear l1 l2 l3 l4;have HW6:Hid (∀w5,Al w0 w w5 nb q1 sj->w.heap.size+1<w5.heap.size∧Al w0 w (w5.alloc (Obj.cells #[int i64 (q2.first:Int),int i64 (q2.last:Int),bool q2.empty] 167)) nb q1 sj∧(w5.alloc (Obj.cells #[int i64 (q2.first:Int),int i64 (q2.last:Int),bool q2.empty] 167)).heap[w5.heap.size]? =some (.cells q2.cells 167)):=fun w5 h5=>⟨(kQ.1 h5.all).1,h5.grown (kZ w5 _ lQ),gU w5 _⟩
   have HOR:Hid (sj.or q2=⟨sj.first|||q2.first,sj.last|||q2.last,sj.empty||q2.empty⟩):=rfl;rw[HOR.out] at HN;clear HOR;obtain⟨af,al,ae⟩:=sj;obtain⟨bf,bl,be⟩:=q2;have HC2:Hid (Ca 89 #[pointer (some ⟨nb,0,none⟩),pointer (some ⟨p,0,none⟩)] wr fun e w'=>e=returned (agg #[int i64 (bf:Int),int i64 (bl:Int),bool be])∧NwIs w0 w' nb q1∧StayS wr w'):=HC.out;clear HC;have hor1':bits .or i64 (af:Int) (bf:Int)=((af|||bf:Nat):Int):=hor1;have hor2':bits .or i64 (al:Int) (bl:Int)=((al|||bl:Nat):Int):=hor2;clear hor1 hor2;have HN2:Hid (RT (j+1)=(q1,⟨af|||bf,al|||bl,ae||be⟩)):=HN.out;clear HN;have HBX:Hid (∀wq:World,wq.heap[w.heap.size+1]? =some (.cells #[int i64 (af:Int),int i64 (al:Int),bool ae] 167)->∀b8,w.heap.size+1<b8->wq.heap[b8]? =some (.cells #[int i64 (bf:Int),int i64 (bl:Int),bool be] 167)->∀x y:Nat,
     ((wq.setCell ⟨w.heap.size+1,0,none⟩ (int i64 (x:Int))).cell? ⟨w.heap.size+1,1,none⟩=some (int i64 (al:Int))∧(wq.setCell ⟨w.heap.size+1,0,none⟩ (int i64 (x:Int))).cell? ⟨b8,1,none⟩=some (int i64 (bl:Int))∧(wq.setCell ⟨w.heap.size+1,0,none⟩ (int i64 (x:Int))).frozen? ⟨w.heap.size+1,1,none⟩=false)∧
     (((wq.setCell ⟨w.heap.size+1,0,none⟩ (int i64 (x:Int))).setCell ⟨w.heap.size+1,1,none⟩ (int i64 (y:Int))).cell? ⟨w.heap.size+1,2,none⟩=some (bool ae)∧((wq.setCell ⟨w.heap.size+1,0,none⟩ (int i64 (x:Int))).setCell ⟨w.heap.size+1,1,none⟩ (int i64 (y:Int))).cell? ⟨b8,2,none⟩=some (bool be)∧((wq.setCell ⟨w.heap.size+1,0,none⟩ (int i64 (x:Int))).setCell ⟨w.heap.size+1,1,none⟩ (int i64 (y:Int))).frozen? ⟨w.heap.size+1,2,none⟩=false)):=by
    intro wq hq b8 hb8 h8 x y;have c2:(wq.setCell ⟨w.heap.size+1,0,none⟩ (int i64 (x:Int))).heap[w.heap.size+1]? =some (.cells #[int i64 (x:Int),int i64 (al:Int),bool ae] 167):=by simp[setCell,lU,hq]
    have c8:(wq.setCell ⟨w.heap.size+1,0,none⟩ (int i64 (x:Int))).heap[b8]? =some (.cells #[int i64 (bf:Int),int i64 (bl:Int),bool be] 167):=(lJ _ _ _ _ (by show b8≠w.heap.size+1;omega)).trans h8;generalize wq.setCell ⟨w.heap.size+1,0,none⟩ (int i64 (x:Int))=w6 at *;have c3:(w6.setCell ⟨w.heap.size+1,1,none⟩ (int i64 (y:Int))).heap[w.heap.size+1]? =some (.cells #[int i64 (x:Int),int i64 (y:Int),bool ae] 167):=by simp[setCell,lU,c2]
    have c9:(w6.setCell ⟨w.heap.size+1,1,none⟩ (int i64 (y:Int))).heap[b8]? =some (.cells #[int i64 (bf:Int),int i64 (bl:Int),bool be] 167):=(lJ _ _ _ _ (by show b8≠w.heap.size+1;omega)).trans c8;refine⟨⟨?_,?_,?_⟩,?_,?_,?_⟩
    ·unfold cell?;rw[c2];rfl
    ·unfold cell?;rw[c8];rfl
    ·unfold frozen?;rw[c2];rfl
    ·unfold cell?;rw[c3];rfl
    ·unfold cell?;rw[c9];rfl
    ·unfold frozen?;rw[c3];rfl
   rcases ae with _|_
   ·have HN3:Hid (RT (j+1)=(q1,⟨af|||bf,al|||bl,be⟩)):=HN2.out
    go_wp2_with (first|(go_at_call 89;refine HC2.out.mono ?_;rintro e w5 ⟨rfl,hN5,hS5⟩;have A5:=HA.out.call hN5 hS5;obtain⟨hlt5,A6,hb8⟩:=HW6.out w5 A5;obtain⟨c0,c1,c2,cf⟩:=zI A6.all;have f0:=cf 0;obtain⟨d0,d1,d2,-⟩:=zI hb8;obtain⟨⟨k1,k2,k3⟩,k4,k5,k6⟩:=HBX.out _ A6.all w5.heap.size hlt5 hb8 (af|||bf) (al|||bl);have HA8:Hid (Al w0 w (World.span (w5.alloc (Obj.cells #[int i64 (bf:Int),int i64 (bl:Int),bool be] 167)) (w.heap.size+1) ⟨af|||bf,al|||bl,be⟩) nb q1 ⟨af|||bf,al|||bl,be⟩):=A6.setAll _;clear A5 A6 hN5 hS5 cf hb8 hlt5))
    go_roundg (t.parts.length-(j+1))
    case measure=>rw[HB.out.1];omega
    case rel=>exact⟨j+1,rfl,by omega,by go_num,by rw[HN3.out];exact HA8.out⟩
   ·have HN3:Hid (RT (j+1)=(q1,⟨af|||bf,al|||bl,true⟩)):=HN2.out
    go_wp2_with (first|(go_at_call 89;refine HC2.out.mono ?_;rintro e w5 ⟨rfl,hN5,hS5⟩;have A5:=HA.out.call hN5 hS5;obtain⟨hlt5,A6,hb8⟩:=HW6.out w5 A5;obtain⟨c0,c1,c2,cf⟩:=zI A6.all;have f0:=cf 0;obtain⟨d0,d1,d2,-⟩:=zI hb8;obtain⟨⟨k1,k2,k3⟩,k4,k5,k6⟩:=HBX.out _ A6.all w5.heap.size hlt5 hb8 (af|||bf) (al|||bl);have HA8:Hid (Al w0 w (World.span (w5.alloc (Obj.cells #[int i64 (bf:Int),int i64 (bl:Int),bool be] 167)) (w.heap.size+1) ⟨af|||bf,al|||bl,true⟩) nb q1 ⟨af|||bf,al|||bl,true⟩):=A6.setAll _;clear A5 A6 hN5 hS5 cf hb8 hlt5))
    go_roundg (t.parts.length-(j+1))
    case measure=>rw[HB.out.1];omega
    case rel=>exact⟨j+1,rfl,by omega,by go_num,by rw[HN3.out];exact HA8.out⟩
  ·have i1:(t.parts.length:Int)<=(j:Int):=by omega
   have e:j=t.parts.length:=by omega
   subst e;rw[HRT.out.2.2.2.2] at hA;obtain⟨c0,c1,c2,-⟩:=zI hA.all;obtain⟨r0,r1,r2,rf⟩:=zI hA.res;have f0:=rf 0;have f1:=rf 1;have f2:=rf 2;have HF:Hid (Al w0 w wr nb RE.1 RE.2):=hA;clear hgk hA rf;go_wp2;obtain⟨w9,hw9,K9,z0,z1,z2⟩:∃w9,w9=((wr.setCell ⟨w.heap.size,0,none⟩ (int i64 (RE.2.first:Int))).setCell ⟨w.heap.size,1,none⟩ (int i64 (RE.2.last:Int))).setCell ⟨w.heap.size,2,none⟩ (bool RE.2.empty)∧Hid (NwIs w0 w9 nb RE.1∧StayS w w9)∧w9.cell? ⟨w.heap.size,0,none⟩=some (int i64 (RE.2.first:Int))∧w9.cell? ⟨w.heap.size,1,none⟩=some (int i64 (RE.2.last:Int))∧w9.cell? ⟨w.heap.size,2,none⟩=some (bool RE.2.empty):=by
    obtain⟨h1,h2,h3,h4,h5⟩:=HF.out.fin RE.2;exact⟨_,rfl,⟨h1,h2⟩,h3,h4,h5⟩
   rw[<-hw9];clear hw9;refine bodyPost_ret (v:=agg #[int i64 (RE.2.first:Int),int i64 (RE.2.last:Int),bool RE.2.empty]) (by simp[results,results125,go_sem,z0,z1,z2]) rfl ?_;exact⟨rfl,K9.out.1,K9.out.2⟩
end Go.Proofs.YtbjcfkdnjaiclaaGreat
