import Derived.Test.YtbjcfkdnjaiclaaGreatB0
import Derived.Test.YtbjcfkdnjaiclaaGreatB16
/- Parts of the proof, in order. -/
set_option linter.unusedVariables false
set_option linter.unusedSimpArgs false
set_option maxHeartbeats 4000000
set_option maxRecDepth 100000
namespace Go.Proofs.YtbjcfkdnjaiclaaGreat
open Go.RowKit Go.Proofs.Tryz Go.World
theorem zI2 (w0 w:World)(mb kb most:Nat)(m:Mk)(h:MwIs w0 w mb kb most m)(hmost:most<=1000000)(fit:m.Fit most)(k:Kd)(a:Ar)(hK:KdAt w0 kb a k)(ok:k.Ok a)(kind s:Nat)(hk:kind<k.rows.length)(hof:m.of.length=k.rows.length)(hs:m.of.getD kind 0=(s:Int))(hsn:s<m.next.length):
  Calls prog 97 #[.pointer (some ⟨mb,0,none⟩),.int .i64 (kind:Int)] w fun e w'=>e=.returned (.tuple #[])∧MwIs w0 w' mb kb most (zBy k a most kind s m)∧StayT w w':=by
 have HH:Hid (MwIs w0 w mb kb most m):=h;have HLEAD:Hid (∀wr m2,MwIs w0 wr mb kb most m2->m2.of=m.of->s<m2.next.length->∀b:Nat,b<256->∀x:Int,Calls prog 135 #[.pointer (some ⟨mb,0,none⟩),.int .i64 (kind:Int),.int .i64 (b:Int),.int .i64 x] wr fun e w'=>e=.returned (.tuple #[])∧MwIs w0 w' mb kb most (m2.put s b x)∧StayT wr w'):=fun wr m2 hM hO hl b hb x=>zIU w0 wr mb kb most m2 hM kind b s (by rw[hO,hof];exact hk) (by rw[hO];exact hs) hl hb x;have HSUB1:Hid (∀wr m2,MwIs w0 wr mb kb most m2->m2.Fit most->m2.of=m.of->∀b:Nat,0<=b->b<=127->∀y:Int,y=(b:Int)->Calls prog 134 #[.pointer (some ⟨mb,0,none⟩),.int .i64 (kind:Int),.int .i64 y] wr fun e w'=>e=.returned (.int .i64 (zDr k a kind m2 b).1)∧MwIs w0 w' mb kb most (zDr k a kind m2 b).2∧StayT wr w'):=by
  intro wr m2 hM hF hO b hb1 hb2 y hy;subst hy;refine(zAc w0 wr mb kb most m2 hM k a hK ok kind hk (by rw[hO];exact hof) (b:Int)).mono ?_;rintro e w2 ⟨rfl,hk2⟩;exact⟨rfl,hM.grown hk2,hk2.stayT⟩
 have HSUB2:Hid (∀wr m2,MwIs w0 wr mb kb most m2->m2.Fit most->m2.of=m.of->∀b:Nat,194<=b->b<=223->∀y:Int,y=((b:Int)-192)*64->Calls prog 136 #[.pointer (some ⟨mb,0,none⟩),.int .i64 (kind:Int),.int .i64 y,.int .i64 1] wr fun e w'=>e=.returned (.int .i64 (zCA k a most kind m2 b).1)∧MwIs w0 w' mb kb most (zCA k a most kind m2 b).2∧StayT wr w'):=by
  intro wr m2 hM hF hO b hb1 hb2 y hy;rw[hy,show((b:Int)-192)*64=(((b-192)*64:Nat):Int) by omega];exact zCs w0 wr mb kb most m2 hM hmost hF k a hK ok kind hk (by rw[hO];exact hof) _ (by omega)
 have HSUB3:Hid (∀wr m2,MwIs w0 wr mb kb most m2->m2.Fit most->m2.of=m.of->∀b:Nat,224<=b->b<=239->∀y:Int,y=((b:Int)-224)*4096->Calls prog 136 #[.pointer (some ⟨mb,0,none⟩),.int .i64 (kind:Int),.int .i64 y,.int .i64 64] wr fun e w'=>e=.returned (.int .i64 (zCz k a most kind m2 b).1)∧MwIs w0 w' mb kb most (zCz k a most kind m2 b).2∧StayT wr w'):=by
  intro wr m2 hM hF hO b hb1 hb2 y hy;rw[hy,show((b:Int)-224)*4096=(((b-224)*4096:Nat):Int) by omega];exact zCr w0 wr mb kb most m2 hM hmost hF k a hK ok kind hk (by rw[hO];exact hof) _ (by omega)
 have HSUB4:Hid (∀wr m2,MwIs w0 wr mb kb most m2->m2.Fit most->m2.of=m.of->∀b:Nat,240<=b->b<=244->∀y:Int,y=((b:Int)-240)*262144->Calls prog 136 #[.pointer (some ⟨mb,0,none⟩),.int .i64 (kind:Int),.int .i64 y,.int .i64 4096] wr fun e w'=>e=.returned (.int .i64 (zCy k a most kind m2 b).1)∧MwIs w0 w' mb kb most (zCy k a most kind m2 b).2∧StayT wr w'):=by
  intro wr m2 hM hF hO b hb1 hb2 y hy;rw[hy,show((b:Int)-240)*262144=(((b-240)*262144:Nat):Int) by omega];exact zFM w0 wr mb kb most m2 hM hmost hF k a hK ok kind hk (by rw[hO];exact hof) _ (by omega)
 obtain⟨FL1,hFL1⟩:∃FL,FL=vH (zDr k a kind) s 0 (m):=⟨_,rfl⟩
 have HF1:Hid (FL1 0=m∧FL1 128=zA9 k a kind s m∧(∀j,FL1 (j+1)=((zDr k a kind) (FL1 j) (0+j)).2.put s (0+j) ((zDr k a kind) (FL1 j) (0+j)).1)∧∀j,(FL1 j).Fit most∧(FL1 j).of=m.of∧s<(FL1 j).next.length∧s<((zDr k a kind) (FL1 j) (0+j)).2.next.length∧((zDr k a kind) (FL1 j) (0+j)).2.of=m.of):=by
  have hp:(m).Fit most∧(m).of=m.of∧m.next.length<=(m).next.length:=⟨fit,rfl,Nat.le_refl _⟩
  have ht:=fun j=>vB (zAu k a most kind).1 (zAu k a most kind).2 s 0 hp.1 j;rw[hFL1];refine⟨rfl,rfl,fun j=>rfl,fun j=>?_⟩;have h1:=ht j;have h2:=(zAu k a most kind).1 _ (0+j) h1.1;have h3:=(zAu k a most kind).2 (vH (zDr k a kind) s 0 (m) j) (0+j);exact⟨h1.1,h1.2.1.trans hp.2.1,by omega,by omega,h2.2.trans (h1.2.1.trans hp.2.1)⟩
 clear hFL1;obtain⟨FL2,hFL2⟩:∃FL,FL=vH (zCA k a most kind) s 194 (zA9 k a kind s m):=⟨_,rfl⟩
 have HF2:Hid (FL2 0=zA9 k a kind s m∧FL2 30=zA8 k a most kind s m∧(∀j,FL2 (j+1)=((zCA k a most kind) (FL2 j) (194+j)).2.put s (194+j) ((zCA k a most kind) (FL2 j) (194+j)).1)∧∀j,(FL2 j).Fit most∧(FL2 j).of=m.of∧s<(FL2 j).next.length∧s<((zCA k a most kind) (FL2 j) (194+j)).2.next.length∧((zCA k a most kind) (FL2 j) (194+j)).2.of=m.of):=by
  have hp:(zA9 k a kind s m).Fit most∧(zA9 k a kind s m).of=m.of∧m.next.length<=(zA9 k a kind s m).next.length:=zFh k a kind s fit
  have ht:=fun j=>vB (zAt k a most kind).1 (zAt k a most kind).2 s 194 hp.1 j;rw[hFL2];refine⟨rfl,rfl,fun j=>rfl,fun j=>?_⟩;have h1:=ht j;have h2:=(zAt k a most kind).1 _ (194+j) h1.1;have h3:=(zAt k a most kind).2 (vH (zCA k a most kind) s 194 (zA9 k a kind s m) j) (194+j);exact⟨h1.1,h1.2.1.trans hp.2.1,by omega,by omega,h2.2.trans (h1.2.1.trans hp.2.1)⟩
 clear hFL2;obtain⟨FL3,hFL3⟩:∃FL,FL=vH (zCz k a most kind) s 224 (zA8 k a most kind s m):=⟨_,rfl⟩
 have HF3:Hid (FL3 0=zA8 k a most kind s m∧FL3 16=zA7 k a most kind s m∧(∀j,FL3 (j+1)=((zCz k a most kind) (FL3 j) (224+j)).2.put s (224+j) ((zCz k a most kind) (FL3 j) (224+j)).1)∧∀j,(FL3 j).Fit most∧(FL3 j).of=m.of∧s<(FL3 j).next.length∧s<((zCz k a most kind) (FL3 j) (224+j)).2.next.length∧((zCz k a most kind) (FL3 j) (224+j)).2.of=m.of):=by
  have hp:(zA8 k a most kind s m).Fit most∧(zA8 k a most kind s m).of=m.of∧m.next.length<=(zA8 k a most kind s m).next.length:=zFg k a kind s fit
  have ht:=fun j=>vB (zAs k a most kind).1 (zAs k a most kind).2 s 224 hp.1 j;rw[hFL3];refine⟨rfl,rfl,fun j=>rfl,fun j=>?_⟩;have h1:=ht j;have h2:=(zAs k a most kind).1 _ (224+j) h1.1;have h3:=(zAs k a most kind).2 (vH (zCz k a most kind) s 224 (zA8 k a most kind s m) j) (224+j);exact⟨h1.1,h1.2.1.trans hp.2.1,by omega,by omega,h2.2.trans (h1.2.1.trans hp.2.1)⟩
 clear hFL3;obtain⟨FL4,hFL4⟩:∃FL,FL=vH (zCy k a most kind) s 240 (zA7 k a most kind s m):=⟨_,rfl⟩
 have HF4:Hid (FL4 0=zA7 k a most kind s m∧FL4 5=zBy k a most kind s m∧(∀j,FL4 (j+1)=((zCy k a most kind) (FL4 j) (240+j)).2.put s (240+j) ((zCy k a most kind) (FL4 j) (240+j)).1)∧∀j,(FL4 j).Fit most∧(FL4 j).of=m.of∧s<(FL4 j).next.length∧s<((zCy k a most kind) (FL4 j) (240+j)).2.next.length∧((zCy k a most kind) (FL4 j) (240+j)).2.of=m.of):=by
  have hp:(zA7 k a most kind s m).Fit most∧(zA7 k a most kind s m).of=m.of∧m.next.length<=(zA7 k a most kind s m).next.length:=zFf k a kind s fit
  have ht:=fun j=>vB (zAr k a most kind).1 (zAr k a most kind).2 s 240 hp.1 j;rw[hFL4];refine⟨rfl,rfl,fun j=>rfl,fun j=>?_⟩;have h1:=ht j;have h2:=(zAr k a most kind).1 _ (240+j) h1.1;have h3:=(zAr k a most kind).2 (vH (zCy k a most kind) s 240 (zA7 k a most kind s m) j) (240+j);exact⟨h1.1,h1.2.1.trans hp.2.1,by omega,by omega,h2.2.trans (h1.2.1.trans hp.2.1)⟩
 clear hFL4;clear h fit hK ok hk hof hs hsn hmost;generalize hs1:zDr k a kind=SB1 at *;clear hs1;generalize hs2:zCA k a most kind=SB2 at *;clear hs2;generalize hs3:zCz k a most kind=SB3 at *;clear hs3;generalize hs4:zCy k a most kind=SB4 at *;clear hs4;generalize hm1:zA9 k a kind s m=M1 at *;clear hm1;generalize hm2:zA8 k a most kind s m=M2 at *;clear hm2;generalize hm3:zA7 k a most kind s m=M3 at *;clear hm3;generalize hm4:zBy k a most kind s m=M4 at *;clear hm4;go_enter func97,ntmps97
 go_wp2_with fail;go_loopg [4] 128 (fun q v wr=>∃j b:Nat,q=128-j∧j<=128∧b=0+j∧v=.int .i64 (b:Int)∧MwIs w0 wr mb kb most (FL1 j)∧StayT w wr)
 case atStart=>exact⟨0,0,rfl,Nat.zero_le _,rfl,rfl,by rw[HF1.out.1];exact HH.out,StayT.refl _⟩
 case round=>
  obtain⟨j,b,hgk,hj,hb,rfl,hM,hS⟩:=hrel;have HB:Hid (gk=128-j∧MwIs w0 wr mb kb most (FL1 j)∧StayT w wr):=⟨hgk,hM,hS⟩
  by_cases hj2:j<128
  ·have i1:(b:Int)<128:=by omega
   have i2:(b:Int)<256:=by omega
   obtain⟨hF,hO,hsl,hsl2,hO2⟩:=HF1.out.2.2.2 j;have HC:Hid (∀y:Int,y=(b:Int)->Calls prog 134 #[.pointer (some ⟨mb,0,none⟩),.int .i64 (kind:Int),.int .i64 y] wr fun e w'=>e=.returned (.int .i64 (SB1 (FL1 j) b).1)∧MwIs w0 w' mb kb most (SB1 (FL1 j) b).2∧StayT wr w'):=HSUB1.out wr _ hM hF hO b (by omega) (by omega);have HN:Hid (FL1 (j+1)=(SB1 (FL1 j) b).2.put s b (SB1 (FL1 j) b).1):=by have h:=HF1.out.2.2.1 j;rw[<-hb] at h;exact h
   rw[<-hb] at hsl2 hO2;have HLD:Hid (∀w5,MwIs w0 w5 mb kb most (SB1 (FL1 j) b).2->∀x:Int,Calls prog 135 #[.pointer (some ⟨mb,0,none⟩),.int .i64 (kind:Int),.int .i64 (b:Int),.int .i64 x] w5 fun e w'=>e=.returned (.tuple #[])∧MwIs w0 w' mb kb most ((SB1 (FL1 j) b).2.put s b x)∧StayT w5 w'):=fun w5 h5 x=>HLEAD.out w5 _ h5 hO2 hsl2 b (by omega) x;have Hb:Hid (b=0+j):=hb;clear hgk hM hS hF hO hsl hsl2 hO2 hb;generalize (SB1 (FL1 j) b).1=r1 at *;generalize (SB1 (FL1 j) b).2=m5 at *;go_wp2_with (first|(go_at_call 134;refine(HC.out _ (by omega)).mono ?_;rintro e w5 ⟨rfl,hM5,hS5⟩)|(go_at_call 135;refine(HLD.out w5 hM5 r1).mono ?_;rintro e w6 ⟨rfl,hM6,hS6⟩))
   go_roundg (128-(j+1))
   case measure=>rw[HB.out.1];omega
   case rel=>exact⟨j+1,b+1,rfl,by omega,by have:=Hb.out;omega,by go_num,by rw[HN.out];exact hM6,(HB.out.2.2.trans hS5).trans hS6⟩
  ·have i1:128<=(b:Int):=by omega
   have hje:j=128:=by omega
   have HM1:Hid (MwIs w0 wr mb kb most M1∧StayT w wr):=by
    rw[hje,HF1.out.2.1] at hM;exact⟨hM,hS⟩
   clear hgk hM hS HB hje hj2 hj hb;go_wp2_with fail;go_loopg [6] 30 (fun q v wr=>∃j b:Nat,q=30-j∧j<=30∧b=194+j∧v=.int .i64 (b:Int)∧MwIs w0 wr mb kb most (FL2 j)∧StayT w wr)
   case atStart=>exact⟨0,194,rfl,Nat.zero_le _,rfl,rfl,by rw[HF2.out.1];exact HM1.out.1,HM1.out.2⟩
   case round=>
    obtain⟨j,b,hgk,hj,hb,rfl,hM,hS⟩:=hrel;have HB:Hid (gk=30-j∧MwIs w0 wr mb kb most (FL2 j)∧StayT w wr):=⟨hgk,hM,hS⟩
    by_cases hj2:j<30
    ·have i1:(b:Int)<=223:=by omega
     have i2:(b:Int)<256:=by omega
     obtain⟨hF,hO,hsl,hsl2,hO2⟩:=HF2.out.2.2.2 j;have HC:Hid (∀y:Int,y=((b:Int)-192)*64->Calls prog 136 #[.pointer (some ⟨mb,0,none⟩),.int .i64 (kind:Int),.int .i64 y,.int .i64 1] wr fun e w'=>e=.returned (.int .i64 (SB2 (FL2 j) b).1)∧MwIs w0 w' mb kb most (SB2 (FL2 j) b).2∧StayT wr w'):=HSUB2.out wr _ hM hF hO b (by omega) (by omega);have HN:Hid (FL2 (j+1)=(SB2 (FL2 j) b).2.put s b (SB2 (FL2 j) b).1):=by have h:=HF2.out.2.2.1 j;rw[<-hb] at h;exact h
     rw[<-hb] at hsl2 hO2;have HLD:Hid (∀w5,MwIs w0 w5 mb kb most (SB2 (FL2 j) b).2->∀x:Int,Calls prog 135 #[.pointer (some ⟨mb,0,none⟩),.int .i64 (kind:Int),.int .i64 (b:Int),.int .i64 x] w5 fun e w'=>e=.returned (.tuple #[])∧MwIs w0 w' mb kb most ((SB2 (FL2 j) b).2.put s b x)∧StayT w5 w'):=fun w5 h5 x=>HLEAD.out w5 _ h5 hO2 hsl2 b (by omega) x;have Hb:Hid (b=194+j):=hb;clear hgk hM hS hF hO hsl hsl2 hO2 hb;generalize (SB2 (FL2 j) b).1=r1 at *;generalize (SB2 (FL2 j) b).2=m5 at *;go_wp2_with (first|(go_at_call 136;refine(HC.out _ (by omega)).mono ?_;rintro e w5 ⟨rfl,hM5,hS5⟩)|(go_at_call 135;refine(HLD.out w5 hM5 r1).mono ?_;rintro e w6 ⟨rfl,hM6,hS6⟩))
     go_roundg (30-(j+1))
     case measure=>rw[HB.out.1];omega
     case rel=>exact⟨j+1,b+1,rfl,by omega,by have:=Hb.out;omega,by go_num,by rw[HN.out];exact hM6,(HB.out.2.2.trans hS5).trans hS6⟩
    ·have i1:223<(b:Int):=by omega
     have hje:j=30:=by omega
     have HM2:Hid (MwIs w0 wr mb kb most M2∧StayT w wr):=by
      rw[hje,HF2.out.2.1] at hM;exact⟨hM,hS⟩
     clear hgk hM hS HB hje hj2 hj hb;go_wp2_with fail;go_loopg [8] 16 (fun q v wr=>∃j b:Nat,q=16-j∧j<=16∧b=224+j∧v=.int .i64 (b:Int)∧MwIs w0 wr mb kb most (FL3 j)∧StayT w wr)
     case atStart=>exact⟨0,224,rfl,Nat.zero_le _,rfl,rfl,by rw[HF3.out.1];exact HM2.out.1,HM2.out.2⟩
     case round=>
      obtain⟨j,b,hgk,hj,hb,rfl,hM,hS⟩:=hrel;have HB:Hid (gk=16-j∧MwIs w0 wr mb kb most (FL3 j)∧StayT w wr):=⟨hgk,hM,hS⟩
      by_cases hj2:j<16
      ·have i1:(b:Int)<=239:=by omega
       have i2:(b:Int)<256:=by omega
       obtain⟨hF,hO,hsl,hsl2,hO2⟩:=HF3.out.2.2.2 j;have HC:Hid (∀y:Int,y=((b:Int)-224)*4096->Calls prog 136 #[.pointer (some ⟨mb,0,none⟩),.int .i64 (kind:Int),.int .i64 y,.int .i64 64] wr fun e w'=>e=.returned (.int .i64 (SB3 (FL3 j) b).1)∧MwIs w0 w' mb kb most (SB3 (FL3 j) b).2∧StayT wr w'):=HSUB3.out wr _ hM hF hO b (by omega) (by omega);have HN:Hid (FL3 (j+1)=(SB3 (FL3 j) b).2.put s b (SB3 (FL3 j) b).1):=by have h:=HF3.out.2.2.1 j;rw[<-hb] at h;exact h
       rw[<-hb] at hsl2 hO2;have HLD:Hid (∀w5,MwIs w0 w5 mb kb most (SB3 (FL3 j) b).2->∀x:Int,Calls prog 135 #[.pointer (some ⟨mb,0,none⟩),.int .i64 (kind:Int),.int .i64 (b:Int),.int .i64 x] w5 fun e w'=>e=.returned (.tuple #[])∧MwIs w0 w' mb kb most ((SB3 (FL3 j) b).2.put s b x)∧StayT w5 w'):=fun w5 h5 x=>HLEAD.out w5 _ h5 hO2 hsl2 b (by omega) x;have Hb:Hid (b=224+j):=hb;clear hgk hM hS hF hO hsl hsl2 hO2 hb;generalize (SB3 (FL3 j) b).1=r1 at *;generalize (SB3 (FL3 j) b).2=m5 at *;go_wp2_with (first|(go_at_call 136;refine(HC.out _ (by omega)).mono ?_;rintro e w5 ⟨rfl,hM5,hS5⟩)|(go_at_call 135;refine(HLD.out w5 hM5 r1).mono ?_;rintro e w6 ⟨rfl,hM6,hS6⟩))
       go_roundg (16-(j+1))
       case measure=>rw[HB.out.1];omega
       case rel=>exact⟨j+1,b+1,rfl,by omega,by have:=Hb.out;omega,by go_num,by rw[HN.out];exact hM6,(HB.out.2.2.trans hS5).trans hS6⟩
      ·have i1:239<(b:Int):=by omega
       have hje:j=16:=by omega
       have HM3:Hid (MwIs w0 wr mb kb most M3∧StayT w wr):=by
        rw[hje,HF3.out.2.1] at hM;exact⟨hM,hS⟩
       clear hgk hM hS HB hje hj2 hj hb;go_wp2_with fail;go_loopg [10] 5 (fun q v wr=>∃j b:Nat,q=5-j∧j<=5∧b=240+j∧v=.int .i64 (b:Int)∧MwIs w0 wr mb kb most (FL4 j)∧StayT w wr)
       case atStart=>exact⟨0,240,rfl,Nat.zero_le _,rfl,rfl,by rw[HF4.out.1];exact HM3.out.1,HM3.out.2⟩
       case round=>
        obtain⟨j,b,hgk,hj,hb,rfl,hM,hS⟩:=hrel;have HB:Hid (gk=5-j∧MwIs w0 wr mb kb most (FL4 j)∧StayT w wr):=⟨hgk,hM,hS⟩
        by_cases hj2:j<5
        ·have i1:(b:Int)<=244:=by omega
         have i2:(b:Int)<256:=by omega
         obtain⟨hF,hO,hsl,hsl2,hO2⟩:=HF4.out.2.2.2 j;have HC:Hid (∀y:Int,y=((b:Int)-240)*262144->Calls prog 136 #[.pointer (some ⟨mb,0,none⟩),.int .i64 (kind:Int),.int .i64 y,.int .i64 4096] wr fun e w'=>e=.returned (.int .i64 (SB4 (FL4 j) b).1)∧MwIs w0 w' mb kb most (SB4 (FL4 j) b).2∧StayT wr w'):=HSUB4.out wr _ hM hF hO b (by omega) (by omega);have HN:Hid (FL4 (j+1)=(SB4 (FL4 j) b).2.put s b (SB4 (FL4 j) b).1):=by have h:=HF4.out.2.2.1 j;rw[<-hb] at h;exact h
         rw[<-hb] at hsl2 hO2;have HLD:Hid (∀w5,MwIs w0 w5 mb kb most (SB4 (FL4 j) b).2->∀x:Int,Calls prog 135 #[.pointer (some ⟨mb,0,none⟩),.int .i64 (kind:Int),.int .i64 (b:Int),.int .i64 x] w5 fun e w'=>e=.returned (.tuple #[])∧MwIs w0 w' mb kb most ((SB4 (FL4 j) b).2.put s b x)∧StayT w5 w'):=fun w5 h5 x=>HLEAD.out w5 _ h5 hO2 hsl2 b (by omega) x;have Hb:Hid (b=240+j):=hb;clear hgk hM hS hF hO hsl hsl2 hO2 hb;generalize (SB4 (FL4 j) b).1=r1 at *;generalize (SB4 (FL4 j) b).2=m5 at *;go_wp2_with (first|(go_at_call 136;refine(HC.out _ (by omega)).mono ?_;rintro e w5 ⟨rfl,hM5,hS5⟩)|(go_at_call 135;refine(HLD.out w5 hM5 r1).mono ?_;rintro e w6 ⟨rfl,hM6,hS6⟩))
         go_roundg (5-(j+1))
         case measure=>rw[HB.out.1];omega
         case rel=>exact⟨j+1,b+1,rfl,by omega,by have:=Hb.out;omega,by go_num,by rw[HN.out];exact hM6,(HB.out.2.2.trans hS5).trans hS6⟩
        ·have i1:244<(b:Int):=by omega
         have hje:j=5:=by omega
         have HM4:Hid (MwIs w0 wr mb kb most M4∧StayT w wr):=by
          rw[hje,HF4.out.2.1] at hM;exact⟨hM,hS⟩
         clear hgk hM hS HB hje hj2 hj hb;go_wp2_with fail;go_end0;exact⟨rfl,HM4.out.1,HM4.out.2⟩
def Mk.blank:Mk:=⟨[],[],[],false⟩
def Mk.withOf (m:Mk)(l:List Int):Mk:={m with of:=l}
def zZ (k:Kd)(most:Nat):Nat->Mk
 |0=>Mk.blank.add most (-1)
 |j+1=>if j=k.dead then(zZ k most j).withOf ((zZ k most j).of++[0]) else((zZ k most j).add most (k.rules.getD j 0)).withOf ((zZ k most j).of++[((zZ k most j).addN most:Int)])
theorem zEx {m:Mk}{most:Nat}(h:m.Fit most)(l:List Int):(m.withOf l).Fit most:=⟨h.same,h.few⟩
theorem zDn (k:Kd)(most j:Nat):(zZ k most j).Fit most∧(zZ k most j).of.length=j:=by
 induction j with
 |zero=>exact⟨zEt ⟨rfl,Nat.zero_le _⟩ _,by show(Mk.blank.add most (-1)).of.length=0;rw[zCN];rfl⟩
 |succ j ih=>
  unfold zZ;split
  ·exact⟨zEx ih.1 _,by show((zZ k most j).of++[0]).length=j+1;rw[List.length_append,ih.2];rfl⟩
  ·exact⟨zEx (zEt ih.1 _) _,by show((zZ k most j).of++[_]).length=j+1;rw[List.length_append,ih.2];rfl⟩
theorem zFu (w0 w:World)(mb kb most:Nat)(h:MwIs w0 w mb kb most Mk.blank)(hmost:most<=1000000)(k:Kd)(a:Ar)(hK:KdAt w0 kb a k)(hlen:k.rules.length=k.rows.length)(hrl:k.rows.length<=10000000000):
  Calls prog 96 #[.pointer (some ⟨mb,0,none⟩)] w fun e w'=>e=.returned (.tuple #[])∧MwIs w0 w' mb kb most (zZ k most k.rows.length)∧StayT w w':=by
 obtain⟨i0,hi0,hz0,hz1,hz2⟩:=info_parts yH;have HADD:Hid (∀wr m2,MwIs w0 wr mb kb most m2->m2.Fit most->∀r:Int,Calls prog 133 #[.pointer (some ⟨mb,0,none⟩),.int .i64 r] wr fun e w'=>e=.returned (.int .i64 ((m2.addN most:Nat):Int))∧MwIs w0 w' mb kb most (m2.add most r)∧StayT wr w'):=fun wr m2 hM hF r=>zEb w0 wr mb kb most m2 hM hmost (by have:=hF.same;have:=hF.few;omega) r;have HFB:Hid (Mk.blank.Fit most):=⟨rfl,Nat.zero_le _⟩
 have HH:=vl h;have HKC:Hid (∀wr m2,MwIs w0 wr mb kb most m2->∃kn cn ar cr,wr.cell? ⟨mb,0,none⟩=some (.pointer (some ⟨kb,0,none⟩))∧wr.cell? ⟨kb,3,none⟩=some (.slice kn k.rows.length cn)∧wr.cell? ⟨kb,4,none⟩=some (.slice ar k.rows.length cr)∧wr.cell? ⟨kb,6,none⟩=some (.int .i64 (k.dead:Int))∧∀i,i<k.rows.length->∃b o,ar=some ⟨b,o,none⟩∧wr.cell? ⟨b,o+i,none⟩=some (.int .i64 (k.rules.getD i 0))):=by
  rintro wr m2 ⟨nv,rv,ov,gs,hM⟩;obtain⟨hkl,lv,tv,sv,kn,kr,hkb,hka,hkn,hkr⟩:=hK.grown hM.keep;obtain⟨an,cn,rfl,-⟩:=hkn;obtain⟨ar,cr,rfl,_,_,hrc⟩:=hkr;rw[List.length_map] at hkb;rw[hlen] at hkb hrc;refine⟨an,cn,ar,cr,hM.cells.1,?_,?_,?_,fun i hi=>?_⟩
  ·unfold cell?;rw[hkb];rfl
  ·unfold cell?;rw[hkb];rfl
  ·unfold cell?;rw[hkb];rfl
  ·obtain⟨b,o,h1,_,h2⟩:=hrc i hi
   exact⟨b,o,h1,h2⟩
 obtain⟨WH,hWH⟩:∃WH,WH=zZ k most:=⟨_,rfl⟩
 have HW:Hid (WH 0=Mk.blank.add most (-1)∧(∀j,j=k.dead->WH (j+1)=(WH j).withOf ((WH j).of++[0]))∧(∀j,j≠k.dead->WH (j+1)=((WH j).add most (k.rules.getD j 0)).withOf ((WH j).of++[((WH j).addN most:Int)]))∧(∀j,(WH j).Fit most∧(WH j).of.length=j)∧WH k.rows.length=zZ k most k.rows.length):=by
  rw[hWH];exact⟨rfl,fun j hj=>if_pos hj,fun j hj=>if_neg hj,fun j=>zDn k most j,rfl⟩
 generalize zZ k most k.rows.length=WE at *;clear hWH h hK hlen;go_in;go_wp2_with (first|(go_at_call 133;refine(HADD.out w _ HH.out HFB.out (-1)).mono ?_;rintro e w1 ⟨rfl,hM1,hS1⟩;obtain⟨kn,cn,ar,cr,y0,y3,y4,y6,-⟩:=HKC.out w1 _ hM1;have HM1:Hid (MwIs w0 w1 mb kb most (WH 0)∧StayT w w1):=⟨(by rw[HW.out.1];exact hM1),hS1⟩;clear hM1 hS1))
 clear y0 y3 y4 y6;go_loopg [14] k.rows.length (fun q i wr=>∃j:Nat,q=k.rows.length-j∧j<=k.rows.length∧i=.int .i64 (j:Int)∧MwIs w0 wr mb kb most (WH j)∧StayT w wr)
 case atStart=>exact⟨0,rfl,Nat.zero_le _,rfl,HM1.out.1,HM1.out.2⟩
 case round=>
  obtain⟨j,hgk,hj,rfl,hM,hS⟩:=hrel;have HB:Hid (gk=k.rows.length-j∧MwIs w0 wr mb kb most (WH j)∧StayT w wr):=⟨hgk,hM,hS⟩
  obtain⟨kn2,cn2,ar2,cr2,y0,y3,y4,y6,yr⟩:=HKC.out wr _ hM;by_cases hj2:j<k.rows.length
  ·have i1:(j:Int)<(k.rows.length:Int):=by omega
   obtain⟨b,o,rfl,yc⟩:=yr j hj2;by_cases hd:j=k.dead
   ·have hdc:((j:Int)==(k.dead:Int))=true:=by simp;omega
    have HN:=vl <| HW.out.2.1 j hd;have hol:=(HW.out.2.2.2.1 j).2;obtain⟨nv,rv,ov,gs,hMw⟩:=hM;obtain⟨ao,co,hov⟩:=hMw.oOwn.form;rw[hol] at hov;subst hov;have x6:=hMw.cells.2.2.2.2.2.1;have hlt:=hMw.lt;have hH:w0.heap.size<=wr.heap.size:=hMw.keep.size;have HMw:=vl hMw;have OR:wr.ownsRow w0.heap.size 3 1 (.slice ao j co) j ((WH j).of.map fun x=>.int .i64 x):=by have:=hMw.oOwn;unfold OwnI at this;rw[hol] at this;exact this
    clear hgk hS hMw yr hd y3 y4 yc;go_wp2_with (first|(at_builtin;refine wpList_append_lies _ rfl _ _ 45 rfl (w0.heap.size) 3 i0 (.int .i64 0) 1 8 underlying45 hi0 hz0 hz1 hz2 rfl (by decide) _ _ _ rfl (OR.alloc _) ⟨wr.heap.size,0,none⟩ 1 1 [.int .i64 0] rfl rfl (cell_one_new _ _ _) (by intro u hu;simp at hu;subst hu;rfl) (by decide) (by unfold maxLen;omega) (by omega) (by simp;omega) _ rfl ?_;intro gg cap w5 hown hgrow hat hlt5;have hPB:w5.heap[mb]? =wr.heap[mb]? :=(hgrow.block _ (by simp;omega) HMw.out.box.2.2.1).trans (Below.heap_alloc _ _ _ (by omega));have t6:w5.cell? ⟨mb,6,none⟩=some (.slice ao j co):=(cell?_of_block hPB).trans x6;have g6:w5.frozen? ⟨mb,6,none⟩=false:=(frozen?_of_block hPB).trans (HMw.out.cells.2.2.2.2.2.2 6);have HM6:=HMw.out.newOf hol.symm hown hgrow (by rcases hat with ha|ha;exact .inl ha;right;rw[ha];simp)))
    go_roundg (k.rows.length-(j+1))
    case measure=>rw[HB.out.1];omega
    case rel=>exact⟨j+1,rfl,by omega,by go_num,by rw[HN.out];exact⟨_,_,_,_,HM6.1⟩,HB.out.2.2.trans HM6.2⟩
   ·have hdc:((j:Int)==(k.dead:Int))=false:=by simp;omega
    have HN:=vl <| HW.out.2.2.1 j hd;have hol:((WH j).add most (k.rules.getD j 0)).of.length=j:=by rw[zCN];exact(HW.out.2.2.2.1 j).2
    have hof2:((WH j).add most (k.rules.getD j 0)).of=(WH j).of:=zCN _ _ _;rw[<-hof2] at HN;have HC:Hid (Calls prog 133 #[.pointer (some ⟨mb,0,none⟩),.int .i64 (k.rules.getD j 0)] wr fun e w'=>e=.returned (.int .i64 (((WH j).addN most:Nat):Int))∧MwIs w0 w' mb kb most ((WH j).add most (k.rules.getD j 0))∧StayT wr w'):=HADD.out wr _ hM (HW.out.2.2.2.1 j).1 _;clear hgk hM hS yr hd y3 hof2;generalize k.rules.getD j 0=r at *;generalize (WH j).addN most=s at *;generalize (WH j).add most r=m5 at *;go_wp2_with (first|(go_at_call 133;refine HC.out.mono ?_;rintro e w5 ⟨rfl,⟨nv,rv,ov,gs,hMw⟩,hS5⟩;obtain⟨ao,co,hov⟩:=hMw.oOwn.form;rw[hol] at hov;subst hov;have x6:=hMw.cells.2.2.2.2.2.1;have hlt:=hMw.lt;have hH:w0.heap.size<=w5.heap.size:=hMw.keep.size;have HMw:Hid (Mw w0 w5 mb kb most m5 nv rv (.slice ao j co) gs):=hMw;have OR:w5.ownsRow w0.heap.size 3 1 (.slice ao j co) j (m5.of.map fun x=>.int .i64 x):=(by have:=hMw.oOwn;unfold OwnI at this;rw[hol] at this;exact this);clear hMw)|(at_builtin;refine wpList_append_lies _ rfl _ _ 45 rfl (w0.heap.size) 3 i0 (.int .i64 0) 1 8 underlying45 hi0 hz0 hz1 hz2 rfl (by decide) _ _ _ rfl (OR.alloc _) ⟨w5.heap.size,0,none⟩ 1 1 [.int .i64 (s:Int)] rfl rfl (cell_one_new _ _ _) (by intro u hu;simp at hu;subst hu;rfl) (by decide) (by unfold maxLen;omega) (by omega) (by simp;omega) _ rfl ?_;intro gg cap w6 hown hgrow hat hlt5;have hPB:w6.heap[mb]? =w5.heap[mb]? :=(hgrow.block _ (by simp;omega) HMw.out.box.2.2.1).trans (Below.heap_alloc _ _ _ (by omega));have t6:w6.cell? ⟨mb,6,none⟩=some (.slice ao j co):=(cell?_of_block hPB).trans x6;have g6:w6.frozen? ⟨mb,6,none⟩=false:=(frozen?_of_block hPB).trans (HMw.out.cells.2.2.2.2.2.2 6);have HM6:=HMw.out.newOf hol.symm hown hgrow (by rcases hat with ha|ha;exact .inl ha;right;rw[ha];simp)))
    go_roundg (k.rows.length-(j+1))
    case measure=>rw[HB.out.1];omega
    case rel=>exact⟨j+1,rfl,by omega,by go_num,by rw[HN.out];exact⟨_,_,_,_,HM6.1⟩,(HB.out.2.2.trans hS5).trans HM6.2⟩
  ·have i1:(k.rows.length:Int)<=(j:Int):=by omega
   have e:j=k.rows.length:=by omega
   subst e;have HE:Hid (MwIs w0 wr mb kb most WE∧StayT w wr):=⟨by rw[<-HW.out.2.2.2.2];exact hM,hS⟩
   clear hgk hM hS yr;go_wp2;go_end0;exact⟨rfl,HE.out.1,HE.out.2⟩
theorem zDk {m:Mk}{most:Nat}{r:Int}(h:(m.add most r).full=false):m.full=false∧(m.add most r).next.length=m.next.length+1∧m.addN most=m.next.length:=by
 unfold Mk.add at h ⊢;unfold Mk.addN;by_cases e:most<=m.next.length
 ·rw[if_pos e] at h
  exact absurd h (by simp)
 ·rw[if_neg e] at h
  rw[if_neg e,if_neg e];exact⟨h,by show(m.next++[zeros]).length=_;simp,rfl⟩
structure Mk.Has (m:Mk):Prop where
 one:1<=m.next.length
 of:∀x∈m.of,0<=x∧x<(m.next.length:Int)
theorem zJO (k:Kd)(most j:Nat)(h:(zZ k most j).full=false):(zZ k most j).Has:=by
 induction j with
 |zero=>
  have h1:=zDk (m:=Mk.blank) (most:=most) (r:=-1) h;exact⟨by show 1<=(Mk.blank.add most (-1)).next.length;rw[h1.2.1];omega,fun x hx=>by rw[show (zZ k most 0).of=[] from zCN _ _ _] at hx;exact absurd hx List.not_mem_nil⟩
 |succ j ih=>
  unfold zZ at h ⊢;split at h
  ·rename_i hd
   rw[if_pos hd];have:=ih h;refine⟨this.one,fun x hx=>?_⟩;rcases List.mem_append.1 hx with h1|h1
   ·exact this.of x h1
   ·rw[List.mem_singleton.1 h1]
    have:=this.one;exact⟨by omega,by show(0:Int)<((zZ k most j).next.length:Nat);omega⟩
  ·rename_i hd
   rw[if_neg hd];have h1:=zDk (m:=zZ k most j) (most:=most) (r:=k.rules.getD j 0) h;have h2:=ih h1.1;have h3:=h2.one;refine⟨by show 1<=((zZ k most j).add most (k.rules.getD j 0)).next.length;omega,fun x hx=>?_⟩;show 0<=x∧x<(((zZ k most j).add most (k.rules.getD j 0)).next.length:Nat);rw[h1.2.1];rcases List.mem_append.1 hx with h4|h4
   ·have:=h2.of x h4
    omega
   ·rw[List.mem_singleton.1 h4,h1.2.2]
    omega
def qX (k:Kd)(a:Ar)(most:Nat):Nat->Mk
 |0=>zZ k most k.rows.length
 |j+1=>if j≠k.dead∧(qX k a most j).full=false then zBy k a most j ((qX k a most j).of.getD j 0).toNat (qX k a most j) else qX k a most j
theorem zDA (k:Kd)(a:Ar)(most j:Nat):(qX k a most j).Fit most∧(qX k a most j).of=(zZ k most k.rows.length).of∧(zZ k most k.rows.length).next.length<=(qX k a most j).next.length∧((qX k a most j).full=false->(zZ k most k.rows.length).full=false):=by
 induction j with
 |zero=>exact⟨(zDn k most _).1,rfl,Nat.le_refl _,id⟩
 |succ j ih=>
  unfold qX;split
  ·rename_i hc
   have:=zI5 k a j ((qX k a most j).of.getD j 0).toNat ih.1;exact⟨this.1,this.2.1.trans ih.2.1,Nat.le_trans ih.2.2.1 this.2.2,fun _=>ih.2.2.2 hc.2⟩
  ·exact ih
theorem zHT (k:Kd)(a:Ar)(most j:Nat)(h:(qX k a most j).full=false):(qX k a most j).Has∧(qX k a most j).of.length=k.rows.length:=by
 obtain⟨_,h2,h3,h4⟩:=zDA k a most j;have hw:=zJO k most k.rows.length (h4 h);have:=hw.one;refine⟨⟨by omega,fun x hx=>?_⟩,by rw[h2];exact(zDn k most _).2⟩;rw[h2] at hx;have:=hw.of x hx;omega
def yA (k:Kd)(a:Ar)(most:Nat):Mk:=qX k a most k.rows.length
theorem Mw.tables {w0 w:World}{mb kb most r0:Nat}{m:Mk}{nv rv ov:Value}{gs:Nat->Nat}{c:Array Value}(h:Mw w0 w mb kb most m nv rv ov gs)(hr:w.heap[r0]? =some (.cells c 127)):IntRows w (fun g=>g<w.heap.size∧g≠mb∧g≠r0∧w0.heap.size<=g) nv m.next∧Ints w (fun g=>g<w.heap.size∧g≠mb∧g≠r0∧w0.heap.size<=g) rv m.rules:=by
 have hbx:=h.box;have n1:=zL h.nOwn hr (by decide);have n2:=zL h.rOwn hr (by decide);have n3:∀i,i<m.next.length->gs i≠r0:=fun i hi e=>by
  have:=(h.each i hi).1;rw[e,hr] at this;simp at this
 constructor
 ·by_cases h0:m.next.length=0
  ·rcases h.nOwn.2 with⟨hv,_⟩|⟨g,cap,cur,hv,hH,hh,h1,h2,h3,h4⟩
   ·exact⟨none,0,by rw[hv,h0],by rw[h0];exact Nat.le_refl _,by unfold maxLen;omega,fun i hi=>by omega⟩
   ·exact⟨_,cap,hv,h1,h2,fun i hi=>by omega⟩
  ·obtain⟨g,cap,hv,hH,hl,h1,h2,h3,_⟩:=h.nOwn.get (by omega)
   have hgb:nv.ownBlock=some g:=by rw[hv];rfl
   refine⟨_,cap,hv,h1,h2,fun i hi=>⟨g,0,_,rfl,⟨hl,fun e=>hbx.1 (by rw[hgb,e]),fun e=>n1 (by rw[hgb,e]),hH⟩,by rw[Nat.zero_add];exact h3 i hi,?_⟩⟩;have hlen:=(h.each i hi).2.2;exact⟨_,256,by rw[hlen],by rw[hlen];exact Nat.le_refl _,by unfold maxLen;omega,fun b hb=>⟨gs i,0,rfl,⟨h.gl i hi,hbx.2.2.2 i hi,n3 i hi,(h.each i hi).2.1⟩,by rw[Nat.zero_add];exact(h.row i b hi (by omega)).1⟩⟩
 ·exact zBL h.rOwn fun g hg=>⟨(h.rOwn.lt g hg).2,fun e=>hbx.2.1 (by rw[hg,e]),fun e=>n2 (by rw[hg,e]),(h.rOwn.lt g hg).1⟩
theorem IntRows.moved {w w':World}{S S':Nat->Prop}{v:Value}{l:List (List Int)}(h:IntRows w S v l)(e:∀b,S b->w'.heap[b]? =w.heap[b]?)(e2:∀b,S b->S' b):IntRows w' S' v l:=(h.keep e).mono e2
end Go.Proofs.YtbjcfkdnjaiclaaGreat
