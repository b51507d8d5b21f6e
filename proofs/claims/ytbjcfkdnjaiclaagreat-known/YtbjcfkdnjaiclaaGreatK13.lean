import Derived.Test.YtbjcfkdnjaiclaaGreatK0
import Derived.Test.YtbjcfkdnjaiclaaGreatK12
/- Parts of the proof. -/
set_option linter.unusedVariables false
set_option linter.unusedSimpArgs false
set_option maxHeartbeats 4000000
set_option maxRecDepth 100000
namespace Go.Proofs.YtbjcfkdnjaiclaaGreat
open Go.RowKit Go.Proofs.Tryz Go.World
open Go.Value (int slice bool pointer string agg tuple)
open Go.IntKind (i64)
open Go.Ending (returned)
theorem zJF (d w:World)(c kb most:Nat)(m:Mk)(E:MwIs d w c kb most m)(af:most<=1000000)(fit:m.Fit most)(k:Kd)(a:Ar)(ad:KdAt d kb a k)(ok:k.Ok a)(kind s:Nat)(ab:kind<k.rows.length)(ac:m.of.length=k.rows.length)(aq:m.of.getD kind 0=(s:Int))(ae:s<m.next.length):
  Calls prog 97 #[pX c,iX (kind:Int)] w λe w'=>e=returned (tuple #[])/\MwIs d w' c kb most (zBd k a most kind s m)/\StayT w w':=by
 have aC:Hid (MwIs d w c kb most m):=E;have ag:Hid (∀wr m2,MwIs d wr c kb most m2->m2.of=m.of->s<m2.next.length->∀b:Nat,b<256->∀x:Int,Ca 135 #[pX c,iX (kind:Int),iX (b:Int),iX x] wr λe w'=>e=returned (tuple #[])/\MwIs d w' c kb most (m2.put s b x)/\StayT wr w'):=λwr m2 f l aD b i x=>zJs d wr c kb most m2 f kind b s (by rw[l,ac];exact ab) (by rw[l];exact aq) aD i x;have aE:Hid (∀wr m2,MwIs d wr c kb most m2->m2.Fit most->m2.of=m.of->∀b:Nat,0<=b->b<=127->∀y:Int,y=(b:Int)->Ca 134 #[pX c,iX (kind:Int),iX y] wr λe w'=>e=returned (iX (zEf k a kind m2 b).1)/\MwIs d w' c kb most (zEf k a kind m2 b).2/\StayT wr w'):=by
  intro wr m2 f z l b al am y K;subst K;refine(zB1 d wr c kb most m2 f k a ad ok kind ab (by rw[l];exact ac) (b:Int)).mono ?_;rintro e w2 ⟨rfl,ar⟩;exact⟨rfl,f.grown ar,ar.stayT⟩
 have aF:Hid (∀wr m2,MwIs d wr c kb most m2->m2.Fit most->m2.of=m.of->∀b:Nat,194<=b->b<=223->∀y:Int,y=((b:Int)-192)*64->Ca 136 #[pX c,iX (kind:Int),iX y,iX 1] wr λe w'=>e=returned (iX (zCY k a most kind m2 b).1)/\MwIs d w' c kb most (zCY k a most kind m2 b).2/\StayT wr w'):=by
  intro wr m2 f z l b al am y K;rw[K,show((b:Int)-192)*64=(((b-192)*64:Nat):Int) by omega];exact zCy d wr c kb most m2 f af z k a ad ok kind ab (by rw[l];exact ac) _ (by omega)
 have aG:Hid (∀wr m2,MwIs d wr c kb most m2->m2.Fit most->m2.of=m.of->∀b:Nat,224<=b->b<=239->∀y:Int,y=((b:Int)-224)*4096->Ca 136 #[pX c,iX (kind:Int),iX y,iX 64] wr λe w'=>e=returned (iX (zCX k a most kind m2 b).1)/\MwIs d w' c kb most (zCX k a most kind m2 b).2/\StayT wr w'):=by
  intro wr m2 f z l b al am y K;rw[K,show((b:Int)-224)*4096=(((b-224)*4096:Nat):Int) by omega];exact zCx d wr c kb most m2 f af z k a ad ok kind ab (by rw[l];exact ac) _ (by omega)
 have aH:Hid (∀wr m2,MwIs d wr c kb most m2->m2.Fit most->m2.of=m.of->∀b:Nat,240<=b->b<=244->∀y:Int,y=((b:Int)-240)*262144->Ca 136 #[pX c,iX (kind:Int),iX y,iX 4096] wr λe w'=>e=returned (iX (zCW k a most kind m2 b).1)/\MwIs d w' c kb most (zCW k a most kind m2 b).2/\StayT wr w'):=by
  intro wr m2 f z l b al am y K;rw[K,show((b:Int)-240)*262144=(((b-240)*262144:Nat):Int) by omega];exact zFX d wr c kb most m2 f af z k a ad ok kind ab (by rw[l];exact ac) _ (by omega)
 obtain⟨o,au⟩:∃L,L=qV (zEf k a kind) s 0 (m):=⟨_,rfl⟩
 have ah:Hid (o 0=m/\o 128=zDh k a kind s m/\(∀j,o (j+1)=((zEf k a kind) (o j) (0+j)).2.put s (0+j) ((zEf k a kind) (o j) (0+j)).1)/\∀j,(o j).Fit most/\(o j).of=m.of/\s<(o j).next.length/\s<((zEf k a kind) (o j) (0+j)).2.next.length/\((zEf k a kind) (o j) (0+j)).2.of=m.of):=by
  rw[au];exact⟨rfl,rfl,λj=>rfl,zAV (zCb k a most kind).1 (zCb k a most kind).2 ⟨fit,rfl,lQ⟩ ae⟩
 clear au;obtain⟨p,av⟩:∃L,L=qV (zCY k a most kind) s 194 (zDh k a kind s m):=⟨_,rfl⟩
 have ai:Hid (p 0=zDh k a kind s m/\p 30=zDg k a most kind s m/\(∀j,p (j+1)=((zCY k a most kind) (p j) (194+j)).2.put s (194+j) ((zCY k a most kind) (p j) (194+j)).1)/\∀j,(p j).Fit most/\(p j).of=m.of/\s<(p j).next.length/\s<((zCY k a most kind) (p j) (194+j)).2.next.length/\((zCY k a most kind) (p j) (194+j)).2.of=m.of):=by
  rw[av];exact⟨rfl,rfl,λj=>rfl,zAV (zCa k a most kind).1 (zCa k a most kind).2 (zFs k a kind s fit) ae⟩
 clear av;obtain⟨r,aw⟩:∃L,L=qV (zCX k a most kind) s 224 (zDg k a most kind s m):=⟨_,rfl⟩
 have aj:Hid (r 0=zDg k a most kind s m/\r 16=zDf k a most kind s m/\(∀j,r (j+1)=((zCX k a most kind) (r j) (224+j)).2.put s (224+j) ((zCX k a most kind) (r j) (224+j)).1)/\∀j,(r j).Fit most/\(r j).of=m.of/\s<(r j).next.length/\s<((zCX k a most kind) (r j) (224+j)).2.next.length/\((zCX k a most kind) (r j) (224+j)).2.of=m.of):=by
  rw[aw];exact⟨rfl,rfl,λj=>rfl,zAV (zB9 k a most kind).1 (zB9 k a most kind).2 (zFr k a kind s fit) ae⟩
 clear aw;obtain⟨t,ax⟩:∃L,L=qV (zCW k a most kind) s 240 (zDf k a most kind s m):=⟨_,rfl⟩
 have ak:Hid (t 0=zDf k a most kind s m/\t 5=zBd k a most kind s m/\(∀j,t (j+1)=((zCW k a most kind) (t j) (240+j)).2.put s (240+j) ((zCW k a most kind) (t j) (240+j)).1)/\∀j,(t j).Fit most/\(t j).of=m.of/\s<(t j).next.length/\s<((zCW k a most kind) (t j) (240+j)).2.next.length/\((zCW k a most kind) (t j) (240+j)).2.of=m.of):=by
  rw[ax];exact⟨rfl,rfl,λj=>rfl,zAV (zB8 k a most kind).1 (zB8 k a most kind).2 (zFq k a kind s fit) ae⟩
 clear ax;clear E fit ad ok ab ac aq ae af;generalize aI:zEf k a kind=G at *;clear aI;generalize aJ:zCY k a most kind=H at *;clear aJ;generalize aK:zCX k a most kind=I at *;clear aK;generalize aL:zCW k a most kind=J at *;clear aL;generalize aM:zDh k a kind s m=aN at *;clear aM;generalize aO:zDg k a most kind s m=aP at *;clear aO;generalize aQ:zDf k a most kind s m=aR at *;clear aQ;generalize aS:zBd k a most kind s m=aT at *;clear aS;go_enter func97,ntmps97
 go_wp2_with fail;go_loopg [4] 128 (λq v wr=>∃j b:Nat,q=128-j/\j<=128/\b=0+j/\v=iX (b:Int)/\MwIs d wr c kb most (o j)/\StayT w wr)
 case atStart=>exact⟨0,0,rfl,lX,rfl,rfl,by rw[ah.out.1];exact aC,StayT.refl _⟩
 case round=>
  obtain⟨j,b,A,M,i,rfl,f,u⟩:=hrel;have B:Hid (gk=128-j/\MwIs d wr c kb most (o j)/\StayT w wr):=⟨A,f,u⟩
  by_cases N:j<128
  ·have O:(b:Int)<128:=by omega
   have an:(b:Int)<256:=by omega
   obtain⟨z,l,P,C,D⟩:=ah.2.2.2 j;have Q:Hid (∀y:Int,y=(b:Int)->Ca 134 #[pX c,iX (kind:Int),iX y] wr λe w'=>e=returned (iX (G (o j) b).1)/\MwIs d w' c kb most (G (o j) b).2/\StayT wr w'):=aE wr _ f z l b (by omega) (by omega);have R:Hid (o (j+1)=(G (o j) b).2.put s b (G (o j) b).1):=by have E:=ah.2.2.1 j;rw[<-i] at E;exact E
   rw[<-i] at C D;have S:Hid (∀g,MwIs d g c kb most (G (o j) b).2->∀x:Int,Ca 135 #[pX c,iX (kind:Int),iX (b:Int),iX x] g λe w'=>e=returned (tuple #[])/\MwIs d w' c kb most ((G (o j) b).2.put s b x)/\StayT g w'):=λg T x=>ag g _ T D C b (by omega) x;have U:Hid (b=0+j):=i;clear A f u z l P C D i;generalize (G (o j) b).1=V at *;generalize (G (o j) b).2=ao at *;go_wp2_with (first|(go_at_call 134;refine(Q _ (by omega)).mono ?_;rintro e g ⟨rfl,W,X⟩)|(go_at_call 135;refine(S g W V).mono ?_;rintro e ap ⟨rfl,Y,aa⟩))
   go_roundg (128-(j+1))
   case measure=>rw[B.out.1];omega
   case rel=>exact⟨j+1,b+1,rfl,by omega,by have:=U.out;omega,by go_num,by rw[R.out];exact Y,(B.2.2.trans X).trans aa⟩
  ·have O:128<=(b:Int):=by omega
   have F:j=128:=by omega
   have ay:Hid (MwIs d wr c kb most aN/\StayT w wr):=by
    rw[F,ah.out.2.1] at f;exact⟨f,u⟩
   clear A f u B F N M i;go_wp2_with fail;go_loopg [6] 30 (λq v wr=>∃j b:Nat,q=30-j/\j<=30/\b=194+j/\v=iX (b:Int)/\MwIs d wr c kb most (p j)/\StayT w wr)
   case atStart=>exact⟨0,194,rfl,lX,rfl,rfl,by rw[ai.out.1];exact ay.1,ay.2⟩
   case round=>
    obtain⟨j,b,A,M,i,rfl,f,u⟩:=hrel;have B:Hid (gk=30-j/\MwIs d wr c kb most (p j)/\StayT w wr):=⟨A,f,u⟩
    by_cases N:j<30
    ·have O:(b:Int)<=223:=by omega
     have an:(b:Int)<256:=by omega
     obtain⟨z,l,P,C,D⟩:=ai.2.2.2 j;have Q:Hid (∀y:Int,y=((b:Int)-192)*64->Ca 136 #[pX c,iX (kind:Int),iX y,iX 1] wr λe w'=>e=returned (iX (H (p j) b).1)/\MwIs d w' c kb most (H (p j) b).2/\StayT wr w'):=aF wr _ f z l b (by omega) (by omega);have R:Hid (p (j+1)=(H (p j) b).2.put s b (H (p j) b).1):=by have E:=ai.2.2.1 j;rw[<-i] at E;exact E
     rw[<-i] at C D;have S:Hid (∀g,MwIs d g c kb most (H (p j) b).2->∀x:Int,Ca 135 #[pX c,iX (kind:Int),iX (b:Int),iX x] g λe w'=>e=returned (tuple #[])/\MwIs d w' c kb most ((H (p j) b).2.put s b x)/\StayT g w'):=λg T x=>ag g _ T D C b (by omega) x;have U:Hid (b=194+j):=i;clear A f u z l P C D i;generalize (H (p j) b).1=V at *;generalize (H (p j) b).2=ao at *;go_wp2_with (first|(go_at_call 136;refine(Q _ (by omega)).mono ?_;rintro e g ⟨rfl,W,X⟩)|(go_at_call 135;refine(S g W V).mono ?_;rintro e ap ⟨rfl,Y,aa⟩))
     go_roundg (30-(j+1))
     case measure=>rw[B.out.1];omega
     case rel=>exact⟨j+1,b+1,rfl,by omega,by have:=U.out;omega,by go_num,by rw[R.out];exact Y,(B.2.2.trans X).trans aa⟩
    ·have O:223<(b:Int):=by omega
     have F:j=30:=by omega
     have az:Hid (MwIs d wr c kb most aP/\StayT w wr):=by
      rw[F,ai.out.2.1] at f;exact⟨f,u⟩
     clear A f u B F N M i;go_wp2_with fail;go_loopg [8] 16 (λq v wr=>∃j b:Nat,q=16-j/\j<=16/\b=224+j/\v=iX (b:Int)/\MwIs d wr c kb most (r j)/\StayT w wr)
     case atStart=>exact⟨0,224,rfl,lX,rfl,rfl,by rw[aj.out.1];exact az.1,az.2⟩
     case round=>
      obtain⟨j,b,A,M,i,rfl,f,u⟩:=hrel;have B:Hid (gk=16-j/\MwIs d wr c kb most (r j)/\StayT w wr):=⟨A,f,u⟩
      by_cases N:j<16
      ·have O:(b:Int)<=239:=by omega
       have an:(b:Int)<256:=by omega
       obtain⟨z,l,P,C,D⟩:=aj.2.2.2 j;have Q:Hid (∀y:Int,y=((b:Int)-224)*4096->Ca 136 #[pX c,iX (kind:Int),iX y,iX 64] wr λe w'=>e=returned (iX (I (r j) b).1)/\MwIs d w' c kb most (I (r j) b).2/\StayT wr w'):=aG wr _ f z l b (by omega) (by omega);have R:Hid (r (j+1)=(I (r j) b).2.put s b (I (r j) b).1):=by have E:=aj.2.2.1 j;rw[<-i] at E;exact E
       rw[<-i] at C D;have S:Hid (∀g,MwIs d g c kb most (I (r j) b).2->∀x:Int,Ca 135 #[pX c,iX (kind:Int),iX (b:Int),iX x] g λe w'=>e=returned (tuple #[])/\MwIs d w' c kb most ((I (r j) b).2.put s b x)/\StayT g w'):=λg T x=>ag g _ T D C b (by omega) x;have U:Hid (b=224+j):=i;clear A f u z l P C D i;generalize (I (r j) b).1=V at *;generalize (I (r j) b).2=ao at *;go_wp2_with (first|(go_at_call 136;refine(Q _ (by omega)).mono ?_;rintro e g ⟨rfl,W,X⟩)|(go_at_call 135;refine(S g W V).mono ?_;rintro e ap ⟨rfl,Y,aa⟩))
       go_roundg (16-(j+1))
       case measure=>rw[B.out.1];omega
       case rel=>exact⟨j+1,b+1,rfl,by omega,by have:=U.out;omega,by go_num,by rw[R.out];exact Y,(B.2.2.trans X).trans aa⟩
      ·have O:239<(b:Int):=by omega
       have F:j=16:=by omega
       have aA:Hid (MwIs d wr c kb most aR/\StayT w wr):=by
        rw[F,aj.out.2.1] at f;exact⟨f,u⟩
       clear A f u B F N M i;go_wp2_with fail;go_loopg [10] 5 (λq v wr=>∃j b:Nat,q=5-j/\j<=5/\b=240+j/\v=iX (b:Int)/\MwIs d wr c kb most (t j)/\StayT w wr)
       case atStart=>exact⟨0,240,rfl,lX,rfl,rfl,by rw[ak.out.1];exact aA.1,aA.2⟩
       case round=>
        obtain⟨j,b,A,M,i,rfl,f,u⟩:=hrel;have B:Hid (gk=5-j/\MwIs d wr c kb most (t j)/\StayT w wr):=⟨A,f,u⟩
        by_cases N:j<5
        ·have O:(b:Int)<=244:=by omega
         have an:(b:Int)<256:=by omega
         obtain⟨z,l,P,C,D⟩:=ak.2.2.2 j;have Q:Hid (∀y:Int,y=((b:Int)-240)*262144->Ca 136 #[pX c,iX (kind:Int),iX y,iX 4096] wr λe w'=>e=returned (iX (J (t j) b).1)/\MwIs d w' c kb most (J (t j) b).2/\StayT wr w'):=aH wr _ f z l b (by omega) (by omega);have R:Hid (t (j+1)=(J (t j) b).2.put s b (J (t j) b).1):=by have E:=ak.2.2.1 j;rw[<-i] at E;exact E
         rw[<-i] at C D;have S:Hid (∀g,MwIs d g c kb most (J (t j) b).2->∀x:Int,Ca 135 #[pX c,iX (kind:Int),iX (b:Int),iX x] g λe w'=>e=returned (tuple #[])/\MwIs d w' c kb most ((J (t j) b).2.put s b x)/\StayT g w'):=λg T x=>ag g _ T D C b (by omega) x;have U:Hid (b=240+j):=i;clear A f u z l P C D i;generalize (J (t j) b).1=V at *;generalize (J (t j) b).2=ao at *;go_wp2_with (first|(go_at_call 136;refine(Q _ (by omega)).mono ?_;rintro e g ⟨rfl,W,X⟩)|(go_at_call 135;refine(S g W V).mono ?_;rintro e ap ⟨rfl,Y,aa⟩))
         go_roundg (5-(j+1))
         case measure=>rw[B.out.1];omega
         case rel=>exact⟨j+1,b+1,rfl,by omega,by have:=U.out;omega,by go_num,by rw[R.out];exact Y,(B.2.2.trans X).trans aa⟩
        ·have O:244<(b:Int):=by omega
         have F:j=5:=by omega
         have aB:Hid (MwIs d wr c kb most aT/\StayT w wr):=by
          rw[F,ak.out.2.1] at f;exact⟨f,u⟩
         clear A f u B F N M i;go_wp2_with fail;go_end0;exact⟨rfl,aB.1,aB.2⟩
def Mk.blank:Mk:=⟨[],[],[],false⟩
def Mk.withOf (m:Mk)(l:List Int):Mk:={m with of:=l}
def zV (k:Kd)(most:Nat):Nat->Mk
 |0=>Mk.blank.add most (-1)
 |j+1=>if j=k.dead then(zV k most j).withOf ((zV k most j).of++[0]) else((zV k most j).add most (k.rules.getD j 0)).withOf ((zV k most j).of++[((zV k most j).addN most:Int)])
theorem zEE {m:Mk}{most:Nat}(a:m.Fit most)(l:List Int):(m.withOf l).Fit most:=⟨a.same,a.few⟩
theorem zB7 (k:Kd)(most j:Nat):(zV k most j).Fit most/\(zV k most j).of.length=j:=by
 induction j with
 |zero=>exact⟨zEy ⟨rfl,lX⟩ _,by show(Mk.blank.add most (-1)).of.length=0;rw[zCO];rfl⟩
 |succ j a=>
  unfold zV;split
  ·exact⟨zEE a.1 _,by show((zV k most j).of++[0]).length=j+1;rw[kX,a.2];rfl⟩
  ·exact⟨zEE (zEy a.1 _) _,by show((zV k most j).of++[_]).length=j+1;rw[kX,a.2];rfl⟩
theorem zFG (f w:World)(c kb most:Nat)(ab:MwIs f w c kb most Mk.blank)(aB:most<=1000000)(k:Kd)(a:Ar)(ac:KdAt f kb a k)(ad:k.rules.length=k.rows.length)(aX:k.rows.length<=10000000000):
  Calls prog 96 #[pX c] w λe w'=>e=returned (tuple #[])/\MwIs f w' c kb most (zV k most k.rows.length)/\StayT w w':=by
 obtain⟨ae,af,ag,ah,ai⟩:=info_parts yL;have aj:Hid (∀wr m2,MwIs f wr c kb most m2->m2.Fit most->∀r:Int,Ca 133 #[pX c,iX r] wr λe w'=>e=returned (iX ((m2.addN most:Nat):Int))/\MwIs f w' c kb most (m2.add most r)/\StayT wr w'):=λwr m2 l ak r=>zEd f wr c kb most m2 l aB (by have:=ak.same;have:=ak.few;omega) r;have aC:Hid (Mk.blank.Fit most):=⟨rfl,lX⟩
 have aD:=vl ab;have al:Hid (∀wr m2,MwIs f wr c kb most m2->∃Q I A J,wr.cell? ⟨c,0,none⟩=some (pX kb)/\wr.cell? ⟨kb,3,none⟩=some (slice Q k.rows.length I)/\wr.cell? ⟨kb,4,none⟩=some (slice A k.rows.length J)/\wr.cell? ⟨kb,6,none⟩=some (iX (k.dead:Int))/\∀i,i<k.rows.length->∃b o,A=some ⟨b,o,none⟩/\wr.cell? ⟨b,o+i,none⟩=some (iX (k.rules.getD i 0))):=by
  rintro wr m2 ⟨R,rv,am,S,l⟩;obtain⟨aY,lv,tv,sv,Q,aZ,B,a0,aE,aF⟩:=ac.grown l.keep;obtain⟨aG,I,rfl,-⟩:=aE;obtain⟨A,J,rfl,_,_,ap⟩:=aF;rw[kV] at B;rw[ad] at B ap;refine⟨aG,I,A,J,l.cells.1,?_,?_,?_,λi aH=>?_⟩
  ·unfold cell?;rw[B];rfl
  ·unfold cell?;rw[B];rfl
  ·unfold cell?;rw[B];rfl
  ·obtain⟨b,o,aI,_,aJ⟩:=ap i aH
   exact⟨b,o,aI,aJ⟩
 obtain⟨d,aq⟩:∃d,d=zV k most:=⟨_,rfl⟩
 have p:Hid (d 0=Mk.blank.add most (-1)/\(∀j,j=k.dead->d (j+1)=(d j).withOf ((d j).of++[0]))/\(∀j,j≠k.dead->d (j+1)=((d j).add most (k.rules.getD j 0)).withOf ((d j).of++[((d j).addN most:Int)]))/\(∀j,(d j).Fit most/\(d j).of.length=j)/\d k.rows.length=zV k most k.rows.length):=by
  rw[aq];exact⟨rfl,λj K=>if_pos K,λj K=>if_neg K,λj=>zB7 k most j,rfl⟩
 generalize zV k most k.rows.length=aK at *;clear aq ab ac ad;go_in;go_wp2_with (first|(go_at_call 133;refine(aj w _ aD aC (-1)).mono ?_;rintro e w1 ⟨rfl,T,au⟩;obtain⟨Q,I,A,J,av,y3,U,aw,-⟩:=al w1 _ T;have ax:Hid (MwIs f w1 c kb most (d 0)/\StayT w w1):=⟨(by rw[p.out.1];exact T),au⟩;clear T au))
 clear av y3 U aw;go_loopg [14] k.rows.length (λq i wr=>∃j:Nat,q=k.rows.length-j/\j<=k.rows.length/\i=iX (j:Int)/\MwIs f wr c kb most (d j)/\StayT w wr)
 case atStart=>exact⟨0,rfl,lX,rfl,ax.1,ax.2⟩
 case round=>
  obtain⟨j,L,K,rfl,l,C⟩:=hrel;have M:Hid (gk=k.rows.length-j/\MwIs f wr c kb most (d j)/\StayT w wr):=⟨L,l,C⟩
  obtain⟨a1,a2,a3,a4,av,y3,U,aw,N⟩:=al wr _ l;by_cases aL:j<k.rows.length
  ·have aM:(j:Int)<(k.rows.length:Int):=by omega
   obtain⟨b,o,rfl,aN⟩:=N j aL;by_cases O:j=k.dead
   ·have aO:((j:Int)==(k.dead:Int))=true:=by simp;omega
    have P:=vl <| p.2.1 j O;have t:=(p.2.2.2.1 j).2;obtain⟨R,rv,am,S,g⟩:=l;obtain⟨ao,z,D⟩:=g.oOwn.form;rw[t] at D;subst D;have V:=g.cells.2.2.2.2.2.1;have aP:=g.lt;have aQ:f.heap.size<=wr.heap.size:=g.keep.size;have v:=vl g;have W:wr.ownsRow f.heap.size 3 1 (slice ao j z) j ((d j).of.map λx=>iX x):=by have:=g.oOwn;unfold OwnI at this;rw[t] at this;exact this
    clear L C g N O y3 U aN;go_wp2_with (first|(at_builtin;refine wpList_append_lies _ rfl _ _ 45 rfl (f.heap.size) 3 ae (iX 0) 1 8 underlying45 af ag ah ai rfl (by decide) _ _ _ rfl (W.alloc _) ⟨wr.heap.size,0,none⟩ 1 1 [iX 0] rfl rfl (cell_one_new _ _ _) (by intro u E;simp at E;subst E;rfl) (by decide) (by unfold maxLen;omega) (by omega) (by simp;omega) _ rfl ?_;intro aR cap m X F Y aS;have G:m.heap[c]? =wr.heap[c]? :=(F.block _ (by simp;omega) v.box.2.2.1).trans (lG _ _ _ (by omega));have aT:m.cell? ⟨c,6,none⟩=some (slice ao j z):=(gW G).trans V;have aU:m.frozen? ⟨c,6,none⟩=false:=(gV G).trans (v.cells.2.2.2.2.2.2 6);have H:=v.newOf t.symm X F (by rcases Y with y|y;exact .inl y;right;rw[y];simp)))
    go_roundg (k.rows.length-(j+1))
    case measure=>rw[M.out.1];omega
    case rel=>exact⟨j+1,rfl,by omega,by go_num,by rw[P.out];exact⟨_,_,_,_,H.1⟩,M.2.2.trans H.2⟩
   ·have aO:((j:Int)==(k.dead:Int))=false:=by simp;omega
    have P:=vl <| p.2.2.1 j O;have t:((d j).add most (k.rules.getD j 0)).of.length=j:=by rw[zCO];exact(p.2.2.2.1 j).2
    have ay:((d j).add most (k.rules.getD j 0)).of=(d j).of:=zCO _ _ _;rw[<-ay] at P;have aV:Hid (Ca 133 #[pX c,iX (k.rules.getD j 0)] wr λe w'=>e=returned (iX (((d j).addN most:Nat):Int))/\MwIs f w' c kb most ((d j).add most (k.rules.getD j 0))/\StayT wr w'):=aj wr _ l (p.2.2.2.1 j).1 _;clear L l C N O y3 ay;generalize k.rules.getD j 0=r at *;generalize (d j).addN most=s at *;generalize (d j).add most r=az at *;go_wp2_with (first|(go_at_call 133;refine aV.mono ?_;rintro e m ⟨rfl,⟨R,rv,am,S,g⟩,aW⟩;obtain⟨ao,z,D⟩:=g.oOwn.form;rw[t] at D;subst D;have V:=g.cells.2.2.2.2.2.1;have aP:=g.lt;have aQ:f.heap.size<=m.heap.size:=g.keep.size;have v:Hid (Mw f m c kb most az R rv (slice ao j z) S):=g;have W:m.ownsRow f.heap.size 3 1 (slice ao j z) j (az.of.map λx=>iX x):=(by have:=g.oOwn;unfold OwnI at this;rw[t] at this;exact this);clear g)|(at_builtin;refine wpList_append_lies _ rfl _ _ 45 rfl (f.heap.size) 3 ae (iX 0) 1 8 underlying45 af ag ah ai rfl (by decide) _ _ _ rfl (W.alloc _) ⟨m.heap.size,0,none⟩ 1 1 [iX (s:Int)] rfl rfl (cell_one_new _ _ _) (by intro u E;simp at E;subst E;rfl) (by decide) (by unfold maxLen;omega) (by omega) (by simp;omega) _ rfl ?_;intro aR cap aa X F Y aS;have G:aa.heap[c]? =m.heap[c]? :=(F.block _ (by simp;omega) v.box.2.2.1).trans (lG _ _ _ (by omega));have aT:aa.cell? ⟨c,6,none⟩=some (slice ao j z):=(gW G).trans V;have aU:aa.frozen? ⟨c,6,none⟩=false:=(gV G).trans (v.cells.2.2.2.2.2.2 6);have H:=v.newOf t.symm X F (by rcases Y with y|y;exact .inl y;right;rw[y];simp)))
    go_roundg (k.rows.length-(j+1))
    case measure=>rw[M.out.1];omega
    case rel=>exact⟨j+1,rfl,by omega,by go_num,by rw[P.out];exact⟨_,_,_,_,H.1⟩,(M.2.2.trans aW).trans H.2⟩
  ·have aM:(k.rows.length:Int)<=(j:Int):=by omega
   have e:j=k.rows.length:=by omega
   subst e;have aA:Hid (MwIs f wr c kb most aK/\StayT w wr):=⟨by rw[<-p.out.2.2.2.2];exact l,C⟩
   clear L l C N;go_wp2;go_end0;exact⟨rfl,aA.1,aA.2⟩
theorem zBA {m:Mk}{most:Nat}{r:Int}(a:(m.add most r).full=false):m.full=false/\(m.add most r).next.length=m.next.length+1/\m.addN most=m.next.length:=by
 unfold Mk.add at a ⊢;unfold Mk.addN;by_cases e:most<=m.next.length
 ·rw[if_pos e] at a
  exact absurd a (by simp)
 ·rw[if_neg e] at a
  rw[if_neg e,if_neg e];exact⟨a,by show(m.next++[zeros]).length=_;simp,rfl⟩
structure Mk.Has (m:Mk):Prop where
 one:1<=m.next.length
 of:∀x∈m.of,0<=x/\x<(m.next.length:Int)
theorem zF5 (k:Kd)(most j:Nat)(c:(zV k most j).full=false):(zV k most j).Has:=by
 induction j with
 |zero=>
  have a:=zBA (m:=Mk.blank) (most:=most) (r:=-1) c;exact⟨by show 1<=(Mk.blank.add most (-1)).next.length;rw[a.2.1];omega,λx b=>by rw[show (zV k most 0).of=[] from zCO _ _ _] at b;exact absurd b List.not_mem_nil⟩
 |succ j f=>
  unfold zV at c ⊢;split at c
  ·rename_i d
   rw[if_pos d];have:=f c;refine⟨this.one,λx b=>?_⟩;rcases kU.1 b with a|a
   ·exact this.of x a
   ·rw[kY.1 a]
    have:=this.one;exact⟨by omega,by show(0:Int)<((zV k most j).next.length:Nat);omega⟩
  ·rename_i d
   rw[if_neg d];have a:=zBA (m:=zV k most j) (most:=most) (r:=k.rules.getD j 0) c;have g:=f a.1;have i:=g.one;refine⟨by show 1<=((zV k most j).add most (k.rules.getD j 0)).next.length;omega,λx b=>?_⟩;show 0<=x/\x<(((zV k most j).add most (k.rules.getD j 0)).next.length:Nat);rw[a.2.1];rcases kU.1 b with e|e
   ·have:=g.of x e
    omega
   ·rw[kY.1 e,a.2.2]
    omega
def qO (k:Kd)(a:Ar)(most:Nat):Nat->Mk
 |0=>zV k most k.rows.length
 |j+1=>if j≠k.dead/\(qO k a most j).full=false then zBd k a most j ((qO k a most j).of.getD j 0).toNat (qO k a most j) else qO k a most j
theorem zCe (k:Kd)(a:Ar)(most j:Nat):(qO k a most j).Fit most/\(qO k a most j).of=(zV k most k.rows.length).of/\(zV k most k.rows.length).next.length<=(qO k a most j).next.length/\((qO k a most j).full=false->(zV k most k.rows.length).full=false):=by
 induction j with
 |zero=>exact⟨(zB7 k most _).1,rfl,lQ,id⟩
 |succ j b=>
  unfold qO;split
  ·rename_i c
   have:=zJI k a j ((qO k a most j).of.getD j 0).toNat b.1;exact⟨this.1,this.2.1.trans b.2.1,lY b.2.2.1 this.2.2,λ_=>b.2.2.2 c.2⟩
  ·exact b
theorem zIh (k:Kd)(a:Ar)(most j:Nat)(e:(qO k a most j).full=false):(qO k a most j).Has/\(qO k a most j).of.length=k.rows.length:=by
 obtain⟨_,b,g,f⟩:=zCe k a most j;have c:=zF5 k most k.rows.length (f e);have:=c.one;refine⟨⟨by omega,λx d=>?_⟩,by rw[b];exact(zB7 k most _).2⟩;rw[b] at d;have:=c.of x d;omega
def yC (k:Kd)(a:Ar)(most:Nat):Mk:=qO k a most k.rows.length
theorem Mw.tables {l w:World}{o kb most j:Nat}{m:Mk}{p rv B:Value}{q:Nat->Nat}{c:Array Value}(a:Mw l w o kb most m p rv B q)(r:w.heap[j]? =some (.cells c 127)):IntRows w (λg=>g<w.heap.size/\g≠o/\g≠j/\l.heap.size<=g) p m.next/\Ints w (λg=>g<w.heap.size/\g≠o/\g≠j/\l.heap.size<=g) rv m.rules:=by
 have s:=a.box;have C:=zN a.nOwn r (by decide);have D:=zN a.rOwn r (by decide);have E:∀i,i<m.next.length->q i≠j:=λi d e=>by
  have:=(a.each i d).1;rw[e,r] at this;simp at this
 constructor
 ·by_cases v:m.next.length=0
  ·rcases a.nOwn.2 with⟨f,_⟩|⟨g,cap,G,f,x,H,t,u,y,I⟩
   ·exact⟨none,0,by rw[f,v],by rw[v];exact lQ,by unfold maxLen;omega,λi d=>by omega⟩
   ·exact⟨_,cap,f,t,u,λi d=>by omega⟩
  ·obtain⟨g,cap,f,x,F,t,u,y,_⟩:=a.nOwn.get (by omega)
   have z:p.ownBlock=some g:=by rw[f];rfl
   refine⟨_,cap,f,t,u,λi d=>⟨g,0,_,rfl,⟨F,λe=>s.1 (by rw[z,e]),λe=>C (by rw[z,e]),x⟩,by rw[Nat.zero_add];exact y i d,?_⟩⟩;have A:=(a.each i d).2.2;exact⟨_,256,by rw[A],by rw[A];exact lQ,by unfold maxLen;omega,λb J=>⟨q i,0,rfl,⟨a.gl i d,s.2.2.2 i d,E i d,(a.each i d).2.1⟩,by rw[Nat.zero_add];exact(a.row i b d (by omega)).1⟩⟩
 ·exact zBP a.rOwn λg k=>⟨(a.rOwn.lt g k).2,λe=>s.2.1 (by rw[k,e]),λe=>D (by rw[k,e]),(a.rOwn.lt g k).1⟩
theorem IntRows.moved {w w':World}{S a:Nat->Prop}{v:Value}{l:List (List Int)}(c:IntRows w S v l)(e:∀b,S b->w'.heap[b]? =w.heap[b]?)(d:∀b,S b->a b):IntRows w' a v l:=(c.keep e).mono d
def zDp (w:World)(k:Kd)(a:Ar)(most:Nat)(e:Ending)(w':World):Prop:=
 Grew w w'/\(((yC k a most).full=true/\e=returned (tuple #[agg #[slice none 0 0,slice none 0 0,int i64 0],bool false]))\/((yC k a most).full=false/\∃nv rv,e=returned (tuple #[agg #[nv,rv,int i64 ((yC k a most).of.getD k.start 0)],bool true])/\IntRows w' (λg=>w.heap.size<=g/\g<w'.heap.size) nv (yC k a most).next/\Ints w' (λg=>w.heap.size<=g/\g<w'.heap.size) rv (yC k a most).rules))
theorem Mw.begin {b w:World}{kb most:Nat}(c:Grew b w):Mw b (w.alloc (.cells #[pX kb,iX (most:Int),bool false,slice none 0 0,slice none 0 0,iX 0,slice none 0 0] 183)) w.heap.size kb most Mk.blank (slice none 0 0) (slice none 0 0) (slice none 0 0) (λ_=>0):=
 ⟨gY _ _,ownsRow_nil _ _ _ _,λi a=>absurd a (Nat.not_lt_zero _),OwnI.nil _ _,OwnI.nil _ _,λi j a=>absurd a (Nat.not_lt_zero _),λi a=>absurd a (Nat.not_lt_zero _),λi a=>absurd a (Nat.not_lt_zero _),λg d=>(by cases d),c.size,c.trans (kZ _ _ c.size)⟩
theorem zGJ (w:World)(kb most:Nat)(af:most<=1000000)(k:Kd)(a:Ar)(Q:KdAt w kb a k)(ok:k.Ok a)(aA:k.rows.length<=10000000000):
  Calls prog 62 #[pX kb,iX (most:Int)] w (zDp w k a most):=by
 obtain⟨w1,ag,H⟩:∃w1,w1=w.alloc (.cells #[slice none 0 0,slice none 0 0,iX 0] 127)/\Hid (Grew w w1/\w1.heap.size=w.heap.size+1/\w1.heap[w.heap.size]? =some (.cells #[slice none 0 0,slice none 0 0,iX 0] 127)):=⟨_,rfl,kZ _ _ lQ,by simp,gY _ _⟩
 obtain⟨w2,ah,ai⟩:∃w2,w2=w1.alloc (.cells #[pX kb,iX (most:Int),bool false,slice none 0 0,slice none 0 0,iX 0,slice none 0 0] 183)/\Hid (MwIs w w2 (w.heap.size+1) kb most Mk.blank/\w2.heap[w.heap.size]? =some (.cells #[slice none 0 0,slice none 0 0,iX 0] 127)):=by
  refine⟨_,rfl,⟨slice none 0 0,slice none 0 0,slice none 0 0,λ_=>0,?_⟩,?_⟩
  ·have s:=Mw.begin (kb:=kb) (most:=most) H.1
   rw[H.out.2.1] at s;exact s
  ·exact(lG _ _ _ (by rw[H.out.2.1];omega)).trans H.2.2
 have aB:=vl H.2.1;have aC:=vl <| zFG w w2 (w.heap.size+1) kb most ai.1 af k a Q ok.lens aA;have aj:Hid (∀wr m2,MwIs w wr (w.heap.size+1) kb most m2->∃R P,wr.cell? ⟨w.heap.size+1,2,none⟩=some (bool m2.full)/\wr.cell? ⟨kb,3,none⟩=some (slice R k.rows.length P)/\wr.cell? ⟨kb,5,none⟩=some (iX (k.start:Int))/\wr.cell? ⟨kb,6,none⟩=some (iX (k.dead:Int))/\kb<wr.heap.size):=by
  rintro wr m2 ⟨I,rv,ak,al,m⟩;obtain⟨am,lv,tv,sv,R,bb,ap,bc,aD,bd⟩:=Q.grown m.keep;obtain⟨x,P,rfl,-⟩:=aD;rw[kV] at ap;refine⟨x,P,m.cells.2.2.1,?_,?_,?_,am⟩
  all_goals (unfold cell?;rw[ap];rfl)
 obtain⟨d,aE⟩:∃d,d=qO k a most:=⟨_,rfl⟩
 have y:Hid (d 0=zV k most k.rows.length/\(∀j,j≠k.dead->(d j).full=false->d (j+1)=zBd k a most j ((d j).of.getD j 0).toNat (d j))/\(∀j,¬(j≠k.dead/\(d j).full=false)->d (j+1)=d j)/\(∀j,(d j).Fit most)/\(∀j,(d j).full=false->(d j).Has/\(d j).of.length=k.rows.length)/\d k.rows.length=yC k a most):=by
  rw[aE];exact⟨rfl,λj F S=>if_pos ⟨F,S⟩,λj s=>if_neg s,λj=>(zCe k a most j).1,λj s=>zIh k a most j s,rfl⟩
 have aF:Hid (∀wr j,j<k.rows.length->MwIs w wr (w.heap.size+1) kb most (d j)->(d j).full=false->Ca 97 #[pointer (some ⟨w.heap.size+1,0,none⟩),iX ((j:Nat):Int)] wr λe w'=>e=returned (tuple #[])/\MwIs w w' (w.heap.size+1) kb most (zBd k a most j ((d j).of.getD j 0).toNat (d j))/\StayT wr w'):=λwr j aq m aG=>by
  obtain⟨T,J⟩:=y.2.2.2.2.1 j aG;have be:=T.of _ (zS (d j).of j 0 (by omega));exact zJF w wr (w.heap.size+1) kb most (d j) m af (y.2.2.2.1 j) k a Q ok j _ aq J (by omega) (by omega)
 have bf:=ok.start;generalize aH:yC k a most=c at *;have au:Hid (∀e w',zDp w k a most e w'↔Grew w w'/\((c.full=true/\e=returned (tuple #[agg #[slice none 0 0,slice none 0 0,iX 0],bool false]))\/(c.full=false/\∃I rv,e=returned (tuple #[agg #[I,rv,iX (c.of.getD k.start 0)],bool true])/\IntRows w' (λg=>w.heap.size<=g/\g<w'.heap.size) I c.next/\Ints w' (λg=>w.heap.size<=g/\g<w'.heap.size) rv c.rules))):=λe w'=>by unfold zDp;rw[aH]
 go_in;apply wp_cut;intro aI K;go_wp2;apply K.out;clear K;rw[<-ag];clear ag;apply wp_cut;intro aI K;go_wp2;apply K.out;clear K;rw[<-ah,aB.out];clear ah;go_wp2_with (first|(go_at_call 96;refine aC.mono ?_;rintro e U ⟨rfl,V,av⟩;obtain⟨R,P,z,y3,y5,W,-⟩:=aj U _ V;have aw:Hid (MwIs w U (w.heap.size+1) kb most (d 0)/\U.heap[w.heap.size]? =some (.cells #[slice none 0 0,slice none 0 0,iX 0] 127)):=⟨(by rw[y.out.1];exact V),av _ _ _ ai.2 (by decide) (by decide) (by decide)⟩;clear V av z y5 W))
 clear y3;go_loopg [19] k.rows.length (λq i wr=>∃j:Nat,q=k.rows.length-j/\j<=k.rows.length/\i=iX (j:Int)/\MwIs w wr (w.heap.size+1) kb most (d j)/\wr.heap[w.heap.size]? =some (.cells #[slice none 0 0,slice none 0 0,iX 0] 127))
 case atStart=>exact⟨0,rfl,lX,rfl,aw.1,aw.2⟩
 case round=>
  obtain⟨j,G,aq,rfl,m,r⟩:=hrel;have A:Hid (gk=k.rows.length-j/\MwIs w wr (w.heap.size+1) kb most (d j)/\wr.heap[w.heap.size]? =some (.cells #[slice none 0 0,slice none 0 0,iX 0] 127)):=⟨G,m,r⟩
  obtain⟨bg,bh,z,y3,y5,W,am⟩:=aj wr _ m;by_cases aJ:j<k.rows.length
  ·have aK:(j:Int)<(k.rows.length:Int):=by omega
   by_cases L:j=k.dead
   ·have aL:((j:Int) != (k.dead:Int))=false:=by simp;omega
    have M:=vl <| y.2.2.1 j λs=>s.1 L;clear G m r L y3 y5;generalize (d j).full=bi at *;go_wp2;go_roundg (k.rows.length-(j+1))
    case measure=>rw[A.out.1];omega
    case rel=>exact⟨j+1,rfl,by omega,by go_num,by rw[M.out];exact A.2.1,A.2.2⟩
   ·have aL:((j:Int) != (k.dead:Int))=true:=by simp;omega
    cases o:(d j).full with
    |true=>
     rw[o] at z;have M:=vl <| y.2.2.1 j λs=>by rw[o] at s;exact absurd s.2 (by decide)
     clear G m r L y3 y5 o;go_wp2;go_roundg (k.rows.length-(j+1))
     case measure=>rw[A.out.1];omega
     case rel=>exact⟨j+1,rfl,by omega,by go_num,by rw[M.out];exact A.2.1,A.2.2⟩
    |false=>
     rw[o] at z;have M:=vl <| y.2.1 j L o;have aM:=vl <| aF wr j aJ m o;clear G m r L y3 y5 o;generalize zBd k a most j ((d j).of.getD j 0).toNat (d j)=bj at *;go_wp2_with (first|(go_at_call 97;refine aM.mono ?_;rintro e bk ⟨rfl,aN,aO⟩))
     go_roundg (k.rows.length-(j+1))
     case measure=>rw[A.out.1];omega
     case rel=>exact⟨j+1,rfl,by omega,by go_num,by rw[M.out];exact aN,aO _ _ _ A.2.2 (by decide) (by decide) (by decide)⟩
  ·have aK:(k.rows.length:Int)<=(j:Int):=by omega
   have e:j=k.rows.length:=by omega
   subst e;rw[y.out.2.2.2.2.2] at m z;have X:Hid (MwIs w wr (w.heap.size+1) kb most c/\wr.heap[w.heap.size]? =some (.cells #[slice none 0 0,slice none 0 0,iX 0] 127)):=⟨m,r⟩
   have ax:Hid (c.full=false->c.Has/\c.of.length=k.rows.length):=by have:=y.2.2.2.2.1 k.rows.length;rw[y.out.2.2.2.2.2] at this;exact this
   have bl:w.heap.size<wr.heap.size:=(kQ.1 r).1;have aP:wr.cell? ⟨w.heap.size,0,none⟩=some (slice none 0 0):=by unfold cell?;rw[r];rfl
   have aQ:wr.cell? ⟨w.heap.size,1,none⟩=some (slice none 0 0):=by unfold cell?;rw[r];rfl
   have aR:wr.cell? ⟨w.heap.size,2,none⟩=some (iX 0):=by unfold cell?;rw[r];rfl
   have Y:Hid (∀i,wr.frozen? ⟨w.heap.size,i,none⟩=false):=λi=>by unfold frozen?;rw[r];simp
   have aS:=Y 0;have aT:=Y 1;have q2:=Y 2;cases o:c.full with
   |true=>
    rw[o] at z;have aa:=vl o;clear G m r o;go_wp2;obtain⟨l,N,c0,c1,c2,O⟩:∃l,l=((wr.setCell ⟨w.heap.size,0,none⟩ (Value.slice none 0 0)).setCell ⟨w.heap.size,1,none⟩ (Value.slice none 0 0)).setCell ⟨w.heap.size,2,none⟩ (Value.int IntKind.i64 0)/\l.cell? ⟨w.heap.size,0,none⟩=some (slice none 0 0)/\l.cell? ⟨w.heap.size,1,none⟩=some (slice none 0 0)/\l.cell? ⟨w.heap.size,2,none⟩=some (iX 0)/\Hid (Grew w l):=by
     obtain⟨⟨I,rv,ak,al,p⟩,r⟩:=X;refine⟨_,rfl,?_,?_,?_,p.keep.trans (((zP _ _ _ _ lQ).trans (zP _ _ _ _ lQ)).trans (zP _ _ _ _ lQ))⟩
     all_goals simp[World.cell?,setCell,lU,r]
    rw[<-N];clear N;refine gJ (v:=tuple #[agg #[slice none 0 0,slice none 0 0,iX 0],bool false]) (by simp[results,results62,go_sem,c0,c1,c2]) rfl ?_;exact(au _ _).2 ⟨O,.inl ⟨aa,rfl⟩⟩
   |false=>
    rw[o] at z;have aa:=vl o;obtain⟨T,J⟩:=ax o;obtain⟨I,rv,ak,al,p⟩:=m;obtain⟨x,B,aU⟩:=zI p.nOwn;obtain⟨C,D,aV⟩:=p.rOwn.form;obtain⟨ao,aW,aX⟩:=p.oOwn.form;subst aU aV aX;obtain⟨go,rfl⟩:=p.oOwn.some (by omega);have aY:=p.oOwn.cell k.start (by omega);rw[J] at p;have aZ:=p.cells.2.2.2.2.2.1;have a0:=p.cells.2.2.2.1;have a1:=p.cells.2.2.2.2.1;have a2:wr.cell? ⟨w.heap.size+1,5,none⟩=some (iX 0):=by unfold cell?;rw[p.blk];rfl
    have a3:=p.cells.2.2.2.2.2.2 5;have bm:(k.start:Int)<(k.rows.length:Int):=by omega
    have ab:=vl p;have bn:=vl J;have bo:Hid (c.of.getD k.start 0=c.of.getD k.start 0):=rfl;clear G r o T p J ax;generalize c.of.getD k.start 0=t at *;go_wp2;go_region;obtain⟨f,ay,bp,bq,br,v0,v1,v2,bs,bt,bu,a4⟩:∃f,f=(wr.setCell ⟨w.heap.size+1,5,none⟩ (iX t)).drew/\f.cell? ⟨w.heap.size+1,3,none⟩=some (slice x c.next.length B)/\f.cell? ⟨w.heap.size+1,4,none⟩=some (slice C c.rules.length D)/\f.cell? ⟨w.heap.size+1,5,none⟩=some (iX t)/\f.cell? ⟨w.heap.size,0,none⟩=some (slice none 0 0)/\f.cell? ⟨w.heap.size,1,none⟩=some (slice none 0 0)/\f.cell? ⟨w.heap.size,2,none⟩=some (iX 0)/\f.frozen? ⟨w.heap.size,0,none⟩=false/\f.frozen? ⟨w.heap.size,1,none⟩=false/\f.frozen? ⟨w.heap.size,2,none⟩=false/\Hid (f.heap[w.heap.size]? =some (.cells #[slice none 0 0,slice none 0 0,iX 0] 127)/\f.heap.size=wr.heap.size/\f.os=wr.os/\f.output=wr.output/\∀k,k≠w.heap.size+1->f.heap[k]? =wr.heap[k]?):=by
     have e:∀k,k≠w.heap.size+1->((wr.setCell ⟨w.heap.size+1,5,none⟩ (iX t)).drew).heap[k]? =wr.heap[k]? :=λk a5=>lJ _ _ _ _ a5;have E:=(e w.heap.size (by omega)).trans X.2;have ac:((wr.setCell ⟨w.heap.size+1,5,none⟩ (iX t)).drew).heap[w.heap.size+1]? =some (.cells #[pX kb,iX (most:Int),bool c.full,slice x c.next.length B,slice C c.rules.length D,iX t,slice (qX go) k.rows.length aW] 183):=by
      show(wr.setCell ⟨w.heap.size+1,5,none⟩ (iX t)).heap[w.heap.size+1]? =_;simp[setCell,lU,ab.out.blk]
     refine⟨_,rfl,?_,?_,?_,?_,?_,?_,?_,?_,?_,E,zC _ _ _,rfl,rfl,e⟩
     ·unfold cell?;rw[ac];rfl
     ·unfold cell?;rw[ac];rfl
     ·unfold cell?;rw[ac];rfl
     ·unfold cell?;rw[E];rfl
     ·unfold cell?;rw[E];rfl
     ·unfold cell?;rw[E];rfl
     ·unfold frozen?;rw[E];rfl
     ·unfold frozen?;rw[E];rfl
     ·unfold frozen?;rw[E];rfl
    rw[<-ay];clear ay a0 a1 a2 aZ aY a3 aP aQ aR aS aT q2 z y3 y5 W;go_wp2;obtain⟨l,N,c0,c1,c2,O⟩:∃l,l=((f.setCell ⟨w.heap.size,0,none⟩ (Value.slice x c.next.length B)).setCell ⟨w.heap.size,1,none⟩ (Value.slice C c.rules.length D)).setCell ⟨w.heap.size,2,none⟩ (Value.int IntKind.i64 t)/\l.cell? ⟨w.heap.size,0,none⟩=some (slice x c.next.length B)/\l.cell? ⟨w.heap.size,1,none⟩=some (slice C c.rules.length D)/\l.cell? ⟨w.heap.size,2,none⟩=some (iX t)/\Hid (Grew w l/\IntRows l (λg=>w.heap.size<=g/\g<l.heap.size) (slice x c.next.length B) c.next/\Ints l (λg=>w.heap.size<=g/\g<l.heap.size) (slice C c.rules.length D) c.rules):=by
     obtain⟨a6,a7,a8,a9,ba⟩:=a4;have az:=ab.tables X.2;have ad:∀k,k≠w.heap.size->k≠w.heap.size+1->(((f.setCell ⟨w.heap.size,0,none⟩ (Value.slice x c.next.length B)).setCell ⟨w.heap.size,1,none⟩ (Value.slice C c.rules.length D)).setCell ⟨w.heap.size,2,none⟩ (Value.int IntKind.i64 t)).heap[k]? =wr.heap[k]? :=λk F S=>(lJ _ _ _ _ F).trans ((lJ _ _ _ _ F).trans ((lJ _ _ _ _ F).trans (ba k S)));have ae:(((f.setCell ⟨w.heap.size,0,none⟩ (Value.slice x c.next.length B)).setCell ⟨w.heap.size,1,none⟩ (Value.slice C c.rules.length D)).setCell ⟨w.heap.size,2,none⟩ (Value.int IntKind.i64 t)).heap.size=wr.heap.size:=by rw[zC,zC,zC];exact a7
     refine⟨_,rfl,?_,?_,?_,ab.keep.trans ⟨a8,a9,by rw[ae];exact lQ,λk F _=>ad k (by omega) (by omega)⟩,az.1.moved (λb u=>ad b u.2.2.1 u.2.1) (λb u=>⟨u.2.2.2,by rw[ae];exact u.1⟩),(az.2.keep λb u=>ad b u.2.2.1 u.2.1).mono λb u=>⟨u.2.2.2,by rw[ae];exact u.1⟩⟩
     all_goals simp[World.cell?,setCell,lU,a6]
    rw[<-N];clear N;refine gJ (v:=tuple #[agg #[slice x c.next.length B,slice C c.rules.length D,iX t],bool true]) (by simp[results,results62,go_sem,c0,c1,c2]) rfl ?_;exact(au _ _).2 ⟨O.1,.inr ⟨aa,_,_,rfl,O.2.1,O.2.2⟩⟩
section
def vV (ps:List (Value×Bool)):List Value:=ps.flatMap λp=>[p.1,bool p.2]
theorem zGN (ps:List (Value×Bool))(u:Value)(o:Bool):vV (ps++[(u,o)])=vV ps++[u,bool o]:=by simp[vV]
theorem zDX (ps:List (Value×Bool))(i:Nat)(a:i<ps.length):(vV ps)[i*2]? =some (ps.getD i (undef,false)).1/\(vV ps)[i*2+1]? =some (bool (ps.getD i (undef,false)).2):=by
 induction ps generalizing i with
 |nil=>simp at a
 |cons p ps b=>
  cases i with
  |zero=>exact⟨rfl,rfl⟩
  |succ i=>
   have:=b i (by simpa using a);have e:vV (p::ps)=p.1::bool p.2::vV ps:=rfl;rw[e,show(i+1)*2=i*2+1+1 by omega];exact this
structure Nw (w0 w:World)(nb:Nat)(n:Nt)(sv fv rv ev:Value)(ps:List (Value×Bool)):Prop where
 blk:w.heap[nb]? =some (.cells #[sv,fv,int i64 (n.first:Int),int i64 (n.ends:Int),rv,ev] 132)
 sOwn:w.ownsRow w0.heap.size 161 2 sv n.sets.length (vV ps)
 plen:ps.length=n.sets.length
 each:∀i,i<n.sets.length->RangesAt w0 (ps.getD i (undef,false)).1 (n.sets.getD i ⟨[],false⟩).ranges/\(ps.getD i (undef,false)).2=(n.sets.getD i ⟨[],false⟩).others
 fOwn:OwnI w w0.heap.size fv (ints n.follow)
 rOwn:OwnI w w0.heap.size rv (ints n.rules)
 eOwn:OwnB w w0.heap.size ev n.empty
 fr:∀g,fv.ownBlock=some g->some g≠rv.ownBlock
 nH:w0.heap.size<=nb
 keep:Grew w0 w
def NwIs (w0 w:World)(nb:Nat)(n:Nt):Prop:=∃sv fv rv ev ps,Nw w0 w nb n sv fv rv ev ps
def StayS (w w':World):Prop:=∀(k:Nat) (c:Array Value),w.heap[k]? =some (Obj.cells c 167)->w'.heap[k]? =some (Obj.cells c 167)
theorem StayS.refl (w:World):StayS w w:=λ_ _ a=>a
theorem StayS.trans {w w' a:World}(b:StayS w w')(d:StayS w' a):StayS w a:=λk c e=>d k c (b k c e)
theorem Keep.stayS {w w':World}(d:Grew w w'):StayS w w':=λk c a=>by
 have b:=(kQ.1 a).1;exact(d.block k b (kJ b)).trans a
section
variable {w0 w w2:World} {nb:Nat} {n:Nt} {sv fv rv ev:Value} {ps:List (Value×Bool)}
theorem Nw.lt (a:Nw w0 w nb n sv fv rv ev ps):nb<w.heap.size:=(kQ.1 a.blk).1
theorem Nw.cells (a:Nw w0 w nb n sv fv rv ev ps):w.cell? ⟨nb,0,none⟩=some sv/\w.cell? ⟨nb,1,none⟩=some fv/\w.cell? ⟨nb,2,none⟩=some (iX (n.first:Int))/\w.cell? ⟨nb,3,none⟩=some (iX (n.ends:Int))/\w.cell? ⟨nb,4,none⟩=some rv/\w.cell? ⟨nb,5,none⟩=some ev/\∀i,w.frozen? ⟨nb,i,none⟩=false:=by
 refine⟨?_,?_,?_,?_,?_,?_,λi=>?_⟩
 all_goals first|(unfold cell?;rw[a.blk];rfl)|(unfold frozen?;rw[a.blk];simp)
theorem Nw.box (a:Nw w0 w nb n sv fv rv ev ps):some nb≠sv.ownBlock/\some nb≠fv.ownBlock/\some nb≠rv.ownBlock/\some nb≠ev.ownBlock:=⟨zN a.sOwn a.blk (by decide),zN a.fOwn a.blk (by decide),zN a.rOwn a.blk (by decide),zN a.eOwn a.blk (by decide)⟩
theorem Nw.grown (a:Nw w0 w nb n sv fv rv ev ps)(b:Grew w w2):Nw w0 w2 nb n sv fv rv ev ps:=
 ⟨(b.block nb a.lt (kJ a.lt)).trans a.blk,zL a.sOwn b,a.plen,a.each,zL a.fOwn b,zL a.rOwn b,zL a.eOwn b,a.fr,a.nH,a.keep.trans (b.lower a.keep.size a.keep.size)⟩
theorem Nw.setSpan {b i:Nat}{x:Value}{c:Array Value}(a:Nw w0 w nb n sv fv rv ev ps)(g:w.heap[b]? =some (.cells c 167))(j:w0.heap.size<=b):Nw w0 (w.setCell ⟨b,i,none⟩ x) nb n sv fv rv ev ps:=by
 have e:∀k,k≠b->(w.setCell ⟨b,i,none⟩ x).heap[k]? =w.heap[k]? :=λk d=>lJ _ _ _ _ d;have l:nb≠b:=λf=>by
  have:=a.blk;rw[f,g] at this;simp at this
 have m:=zN a.sOwn g (by decide);have o:=zN a.fOwn g (by decide);have p:=zN a.rOwn g (by decide);have q:=zN a.eOwn g (by decide);exact⟨(e nb l).trans a.blk,zF a.sOwn λk _ _ d=>e k λf=>m (by rw[d,f]),a.plen,a.each,zF a.fOwn λk _ _ d=>e k λf=>o (by rw[d,f]),zF a.rOwn λk _ _ d=>e k λf=>p (by rw[d,f]),zF a.eOwn λk _ _ d=>e k λf=>q (by rw[d,f]),a.fr,a.nH,a.keep.trans (zP _ _ _ _ j)⟩
theorem Nw.setFollow {g cap p x:Nat}(a:Nw w0 w nb n sv (slice (qX g) n.follow.length cap) rv ev ps)(q:p<n.follow.length):Nw w0 (w.setCell ⟨g,p,none⟩ (iX (x:Int))) nb {n with follow:=n.follow.set p x} sv (slice (qX g) n.follow.length cap) rv ev ps/\StayS w (w.setCell ⟨g,p,none⟩ (iX (x:Int))):=by
 have e:∀k,k≠g->(w.setCell ⟨g,p,none⟩ (iX (x:Int))).heap[k]? =w.heap[k]? :=λk d=>lJ _ _ _ _ d;have r:=(a.fOwn.lt g rfl).1;have s:=a.box.2.1;have t:Row w w0.heap.size 3 (slice (qX g) n.follow.length cap) n.follow.length λi=>iX ((ints n.follow).getD i 0):=by
  have:=a.fOwn.rowOf;rw[zO] at this;exact this
 have u:OwnI (w.setCell ⟨g,p,none⟩ (iX (x:Int))) w0.heap.size (slice (qX g) n.follow.length cap) (ints (n.follow.set p x)):=by
  refine Row.ownI ?_;rw[zO,List.length_set];refine Row.congr (t.set p (iX (x:Int))) λi C=>?_;have y:(n.follow.set p x).getD i 0=if i=p then x else n.follow.getD i 0:=by
   rw[lW,List.getElem?_set];by_cases f:i=p
   ·subst f;rw[if_pos rfl,if_pos rfl,if_pos q];rfl
   ·rw[if_neg f,if_neg (Ne.symm f),<-lW]
  rw[vI,vI,y];split <;> rfl
 have l:∀{v:Value} {j o m:Nat} {xs:List Value},w.ownsRow w0.heap.size j o v m xs->3≠j->some g≠v.ownBlock:=λ{v} {j} {o} {m} {xs} A B b=>xO a.fOwn A B (g:=g) rfl b;refine⟨⟨(e nb λb=>s (by rw[b];rfl)).trans a.blk,zF a.sOwn λk _ _ d=>e k λb=>l a.sOwn (by decide) (by rw[d,b]),a.plen,a.each,u,zF a.rOwn λk _ _ d=>e k λb=>a.fr g rfl (by rw[d,b]),zF a.eOwn λk _ _ d=>e k λb=>l a.eOwn (by decide) (by rw[d,b]),a.fr,a.nH,a.keep.trans (zP _ _ _ _ r)⟩,λk c d=>(e k λb=>?_).trans d⟩;exact zN a.fOwn d (by decide) (by rw[b];rfl)
end
end
def Nt.linkTo (n:Nt)(from_ to:Nat):Nat->Nt
 |0=>n
 |j+1=>if from_.testBit j then{n.linkTo from_ to j with follow:=(n.linkTo from_ to j).follow.set j ((n.linkTo from_ to j).follow.getD j 0|||to)} else n.linkTo from_ to j
def Nt.link (n:Nt)(from_ to:Nat):Nt:=n.linkTo from_ to n.follow.length
theorem zE7 (n:Nt)(a b j:Nat):(n.linkTo a b j).follow.length=n.follow.length:=by
 induction j with
 |zero=>rfl
 |succ j c=>
  unfold Nt.linkTo;split
  ·show(List.set _ _ _).length=_;rw[List.length_set,c]
  ·exact c
theorem zNc {b:Type}{l:List b}{i:Nat}{x y:b}(c:y∈l.set i x):y=x\/y∈l:=by
 rcases List.mem_or_eq_of_mem_set c with a|a
 ·exact .inr a
 ·exact .inl a
theorem zDa {n:Nt}{c:Nat}(a b j:Nat)(f:b<2^c)(g:∀x∈n.follow,x<2^c):∀x∈(n.linkTo a b j).follow,x<2^c:=by
 induction j with
 |zero=>exact g
 |succ j d=>
  unfold Nt.linkTo;split
  ·intro x i
   rcases zNc i with e|e
   ·subst e
    refine Nat.or_lt_two_pow ?_ f;by_cases k:j<(n.linkTo a b j).follow.length
    ·exact d _ (zS _ _ 0 k)
    ·rw[lW,List.getElem?_eq_none (by omega)];exact Nat.pow_pos (by omega)
   ·exact d x e
  ·exact d
theorem zE6 (l w:World)(f:Nat)(n:Nt)(o:NwIs l w f n)(Y:n.follow.length<=24)(E:∀x∈n.follow,x<2^24)(a b:Nat)(aa:a<16777216)(F:b<2^24):
  Calls prog 166 #[pX f,iX (a:Int),iX (b:Int)] w λe w'=>e=returned (tuple #[])/\NwIs l w' f (n.link a b)/\StayS w w':=by
 have ab:b<16777216:=F;obtain⟨c,G⟩:∃c,c=n.linkTo a b:=⟨_,rfl⟩
 have t:Hid (c 0=n/\(∀j,a.testBit j=true->c (j+1)={c j with follow:=(c j).follow.set j ((c j).follow.getD j 0|||b)})/\(∀j,a.testBit j=false->c (j+1)=c j)/\(∀j,(c j).follow.length=n.follow.length/\∀x∈(c j).follow,x<16777216)/\c n.follow.length=n.link a b):=by
  rw[G];refine⟨rfl,λj o=>?_,λj o=>?_,λj=>⟨zE7 n a b j,zDa a b j F E⟩,rfl⟩
  ·show(if a.testBit j=true then _ else _)=_;rw[if_pos o]
  ·show(if a.testBit j=true then _ else _)=_;rw[if_neg (by rw[o];decide)]
 have H:Hid (∀wr m,NwIs l wr f m->∃u cap,cX wr f 1=some (slice u m.follow.length cap)/\∀p,p<m.follow.length->∃g,u=some ⟨g,0,none⟩/\cX wr g p=some (iX ((m.follow.getD p 0:Nat):Int))/\wr.frozen? ⟨g,p,none⟩=false/\∀x:Nat,NwIs l (wr.setCell ⟨g,p,none⟩ (iX (x:Int))) f {m with follow:=m.follow.set p x}/\StayS wr (wr.setCell ⟨g,p,none⟩ (iX (x:Int)))):=by
  rintro wr m ⟨sv,ac,rv,ad,ae,d⟩;obtain⟨u,cap,I⟩:=d.fOwn.form;rw[zO] at I;subst I;refine⟨u,cap,d.cells.2.1,λp J=>?_⟩;obtain⟨g,rfl⟩:=d.fOwn.some (by rw[zO];omega);have K:=d.fOwn.cell p (by rw[zO];exact J);rw[vI] at K;refine⟨g,rfl,K,?_,λx=>?_⟩
  ·obtain⟨af,c2,P,_,_,_,_,_,Q⟩:=d.fOwn.rowOf.get (by rw[zO];omega)
   injection P with v _ _;injection v with v;injection v with v;rw[v];exact Q p
  ·have:=d.setFollow (x:=x) J
   exact⟨⟨_,_,_,_,_,this.1⟩,this.2⟩
 have R:=vl o;obtain⟨ag,ah,S,-⟩:=H w n o;generalize n.link a b=T at *;clear G o E;generalize U:n.follow.length=k at *;clear U;go_in;go_wp2;clear S;go_loopg [12] k (λq i wr=>∃j:Nat,q=k-j/\j<=k/\i=iX (j:Int)/\NwIs l wr f (c j)/\StayS w wr)
 case atStart=>exact⟨0,rfl,lX,rfl,by rw[t.out.1];exact R,StayS.refl _⟩
 case round=>
  obtain⟨j,A,ai,rfl,d,y⟩:=hrel;have z:Hid (gk=k-j/\NwIs l wr f (c j)/\StayS w wr):=⟨A,d,y⟩
  by_cases aj:j<k
  ·have V:(j:Int)<(k:Int):=by omega
   obtain⟨B,C⟩:=t.2.2.2.1 j;have M:=zKp a j (by omega);cases r:a.testBit j with
   |false=>
    rw[r] at M;have s:=vl <| t.2.2.1 j r;clear A d y B C r;go_wp2;go_roundg (k-(j+1))
    case measure=>rw[z.out.1];omega
    case rel=>exact⟨j+1,rfl,by omega,by go_num,by rw[s.out];exact z.2.1,z.2.2⟩
   |true=>
    rw[r] at M;have s:=vl <| t.2.1 j r;obtain⟨u,cap,W,N⟩:=H wr (c j) d;obtain⟨g,rfl,ak,al,O⟩:=N j (by omega);have D:Hid (NwIs l (wr.setCell ⟨g,j,none⟩ (iX (((c j).follow.getD j 0|||b:Nat):Int))) f {c j with follow:=(c j).follow.set j ((c j).follow.getD j 0|||b)}/\StayS wr (wr.setCell ⟨g,j,none⟩ (iX (((c j).follow.getD j 0|||b:Nat):Int)))):=O _;have am:=C _ (zS (c j).follow j 0 (by omega));have X:Hid (bits .or i64 (((c j).follow.getD j 0:Nat):Int) (b:Int)=(((c j).follow.getD j 0|||b:Nat):Int)):=yO _ _ (by omega) (by omega);rw[B] at W;clear A d y B C r N O;rw[<-s.out,<-X.out] at D;generalize (c j).follow.getD j 0=x at *;go_wp2;go_roundg (k-(j+1))
    case measure=>rw[z.out.1];omega
    case rel=>exact⟨j+1,rfl,by omega,by go_num,D.1,z.2.2.trans D.2⟩
  ·have V:(k:Int)<=(j:Int):=by omega
   have e:j=k:=by omega
   subst e;have s:Hid (NwIs l wr f T/\StayS w wr):=⟨by rw[<-t.out.2.2.2.2];exact d,y⟩
   clear A d y;go_wp2;go_end0;exact⟨rfl,s.1,s.2⟩
end Go.Proofs.YtbjcfkdnjaiclaaGreat
