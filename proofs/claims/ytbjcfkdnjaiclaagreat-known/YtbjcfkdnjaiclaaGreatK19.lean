import Derived.Test.YtbjcfkdnjaiclaaGreatK0
import Derived.Test.YtbjcfkdnjaiclaaGreatK18
/- Parts of the proof. -/
set_option linter.unusedVariables false
set_option linter.unusedSimpArgs false
set_option maxHeartbeats 4000000
set_option maxRecDepth 100000
namespace Go.Proofs.YtbjcfkdnjaiclaaGreat
open Go.RowKit Go.Proofs.Tryz Go.World
open Go.Value (int slice bool pointer string agg tuple)
open Go.IntKind (i64)
open Go.Ending (returned)
section
theorem zBL (a:UInt8):(⟨#[a]⟩:ByteArray).size=1:=rfl
def jH (s:ByteArray)(p:Nat):Option (Cs×Nat):=
 if byt s p=91 then zBY s p
 else if byt s p=92 then(if (zAM s (p+1)).ok then some (zIc (zAM s (p+1)).num,(zAM s (p+1)).at_) else none)
 else if byt s p=46 then some (zOi,p+1)
 else if zAJ (byt s p) then some (zIc (byt s p:Nat),p+1) else none
structure Tm where
 least:Nat
 most:Nat
 endless:Bool
def Tm.copies (o:Tm):Nat:=if o.endless then(if o.least=0 then 1 else o.least) else o.most
def zBe (s:ByteArray)(p:Nat):Option (Tm×Nat):=
 if xZ (byt s (p+1)) then
  if zK s (p+2) ⟨#[125]⟩ then some (⟨byt s (p+1)-48,byt s (p+1)-48,false⟩,p+3)
  else if zK s (p+2) ⟨#[44]⟩ then
   if zK s (p+3) ⟨#[125]⟩ then some (⟨byt s (p+1)-48,0,true⟩,p+4)
   else if xZ (byt s (p+3))&&decide (byt s (p+1)<=byt s (p+3)) then(if zK s (p+4) ⟨#[125]⟩ then some (⟨byt s (p+1)-48,byt s (p+3)-48,false⟩,p+5) else none)
   else none
  else none
 else none
def zDM (s:ByteArray)(p:Nat):Option (Tm×Nat):=if zK s p ⟨#[42]⟩ then some (⟨0,0,true⟩,p+1) else if zK s p ⟨#[43]⟩ then some (⟨1,0,true⟩,p+1) else if zK s p ⟨#[63]⟩ then some (⟨0,1,false⟩,p+1) else zBe s p
def braced (n:ByteArray):ByteArray:=⟨#[123]⟩++n++⟨#[125]⟩
def zCs (s:ByteArray)(p:Nat):List (ByteArray×Tr)->Option (Tr×Nat)
 |[]=>none
 |d::ds=>if zK s p (braced d.1) then some (d.2,p+(braced d.1).size) else zCs s p ds
abbrev Reads:=Nat->Bool->Option (Tr×Nat)
def brM (s:ByteArray)(k:Nat)(sub:Reads)(p:Nat)(both:Bool):Option (Tr×Nat):=
 if k=0 then none else if zK s p ⟨#[40,41]⟩ then some (Tr.none,p+2) else
 match sub (if zK s p ⟨#[40,105,58]⟩ then p+3 else p+1) (zK s p ⟨#[40,105,58]⟩||both) with
 |none=>none
 |some (t,q)=>if zK s q ⟨#[41]⟩ then some (t,q+1) else none
def zKo (both:Bool)(c:Cs):Cs:=if both then⟨qF c.ranges,c.others⟩ else c
def zDm (s:ByteArray)(defs:List (ByteArray×Tr))(k:Nat)(sub:Reads)(p:Nat)(both:Bool):Option (Tr×Nat):=if byt s p=40 then brM s k sub p both else if byt s p=123 then zCs s p defs else(jH s p).map λc=>(zG0 (zKo both c.1),c.2)
def zBz (t:Tr)(o:Tm):Tr:=Tr.plain ⟨4,⟨[],false⟩,[t],o.least,o.most,o.endless,xL (t.chars*o.copies)⟩
def zBj (s:ByteArray):Nat->Nat->Tr->Option (Tr×Nat)
 |0,_,_=>none
 |f+1,p,t=>if zAS s p then(match zDM s p with
  |none=>none
  |some (o,q)=>zBj s f q (zBz t o)) else some (t,p)
def zDs (s:ByteArray)(defs:List (ByteArray×Tr))(k:Nat)(sub:Reads)(p:Nat)(both:Bool):Option (Tr×Nat):=
 match zDm s defs k sub p both with
 |none=>none
 |some (t,q)=>zBj s (s.size+1) q t
def zBC (s:ByteArray)(thing:Nat->Option (Tr×Nat)):Nat->Nat->Tr->Option (Tr×Nat)
 |0,_,_=>none
 |f+1,p,t=>match thing p with
  |none=>none
  |some (u,q)=>if zBG s q then some ((t.add u).plain,q) else zBC s thing f q (t.add u)
def zC7 (kind:Nat):Tr:=⟨kind,⟨[],false⟩,[],0,0,false,0⟩
def zOz (s:ByteArray)(defs:List (ByteArray×Tr))(k:Nat)(sub:Reads)(p:Nat)(both:Bool):Option (Tr×Nat):=zBC s (λq=>zDs s defs k sub q both) (s.size+1) p (zC7 2)
def zAr (s:ByteArray)(row:Nat->Option (Tr×Nat)):Nat->Nat->Tr->Option (Tr×Nat)
 |0,_,_=>none
 |f+1,p,t=>match row p with
  |none=>none
  |some (u,q)=>if zK s q ⟨#[124]⟩ then zAr s row f (q+1) (t.add u) else some ((t.add u).plain,q)
def zMw (s:ByteArray)(defs:List (ByteArray×Tr))(k:Nat)(sub:Reads)(p:Nat)(both:Bool):Option (Tr×Nat):=zAr s (λq=>zOz s defs k sub q both) (s.size+1) p (zC7 3)
def zBu (s:ByteArray)(defs:List (ByteArray×Tr)):Nat->Reads
 |0=>zMw s defs 0 λ_ _=>none
 |k+1=>zMw s defs (k+1) (zBu s defs k)
def vN (s:ByteArray)(defs:List (ByteArray×Tr)):Option Tr:=
 match zBu s defs 8 0 false with
 |none=>none
 |some (t,q)=>if q=s.size then some t else none
theorem zDR (n:Nat):xL n<=25:=by unfold xL;split <;> omega
theorem zJP (a b:Nat):xL (xL a+xL b)=xL (a+b):=by
 unfold xL;by_cases c:24<a <;> by_cases d:24<b <;> by_cases e:24<a+b <;> simp only[c,d,e,if_true,if_false] <;> first|omega|(split <;> omega)
theorem zJO (a k:Nat):xL (xL a*k)=xL (a*k):=by
 rcases Nat.eq_zero_or_pos k with b|b
 ·subst b;rfl
 ·unfold xL
  by_cases c:24<a
  ·have d:=Nat.mul_le_mul_left a b
   have e:=Nat.mul_le_mul_left 25 b;rw[if_pos c,if_pos (by omega),if_pos (by omega)]
  ·rw[if_neg c]
theorem zIx (f g:Tr->Nat)(parts:List Tr)(a:∀u∈parts,f u=g u)(j:Nat)(d:j<=parts.length):zX f parts j=zX g parts j:=by
 induction j with
 |zero=>rfl
 |succ j b=>
  show zX f parts j+f (parts.getD j Tr.none)=zX g parts j+g (parts.getD j Tr.none);have c:parts.getD j Tr.none∈parts:=by
   rw[lW,lV (by omega:j<parts.length)];exact List.getElem_mem _
  rw[b (by omega),a _ c]
theorem zLt (f:Tr->Nat)(parts:List Tr)(u:Tr)(j:Nat)(b:j<=parts.length):zX f (parts++[u]) j=zX f parts j:=by
 induction j with
 |zero=>rfl
 |succ j a=>
  show zX f (parts++[u]) j+f ((parts++[u]).getD j Tr.none)=zX f parts j+f (parts.getD j Tr.none);rw[a (by omega),lW,lW,kW (by omega)]
def zLJ (c:Cs):Prop:=c.ranges.length<=10000000/\∀r∈c.ranges,-100<=r.1/\r.1<=20000000/\ -100<=r.2/\r.2<=20000000
def TrOk:Nat->Tr->Prop
 |0,_=>False
 |d+1,t=>zLJ t.set/\(∀u∈t.parts,TrOk d u)/\t.chars=xL (yQ (d+1) t)
theorem zGx:∀a t,TrOk a t->yQ (a+1) t=yQ a t
 |0,_,b=>False.elim b
 |a+1,t,b=>by
  have e:=zIx _ _ _ (λu c=>zGx a u (b.2.1 u c)) _ lQ;show(if t.kind=1 then 1 else if t.kind=2\/t.kind=3 then zX (yQ (a+1)) t.parts t.parts.length else if t.kind=4 then t.copies*zX (yQ (a+1)) t.parts t.parts.length else 0)=(if t.kind=1 then 1 else if t.kind=2\/t.kind=3 then zX (yQ a) t.parts t.parts.length else if t.kind=4 then t.copies*zX (yQ a) t.parts t.parts.length else 0);rw[e]
theorem TrOk.deeper:∀b t,TrOk b t->TrOk (b+1) t
 |0,_,a=>False.elim a
 |b+1,t,a=>⟨a.1,λu c=>TrOk.deeper b u (a.2.1 u c),by rw[zGx (b+1) t a];exact a.2.2⟩
theorem TrOk.deep {a e:Nat}{t:Tr}(b:TrOk a t)(c:a<=e):TrOk e t:=by
 induction c with
 |refl=>exact b
 |step _ f=>exact TrOk.deeper _ _ f
theorem TrOk.few {a:Nat}{t:Tr}(b:TrOk a t):t.chars<=25:=by
 cases a with
 |zero=>exact False.elim b
 |succ a=>rw[b.2.2];exact zDR _
theorem TrOk.chars {a:Nat}{t:Tr}(b:TrOk a t):t.chars=xL (yQ a t):=by
 cases a with
 |zero=>exact False.elim b
 |succ a=>exact b.2.2
theorem zE4 (o:Bool):zLJ ⟨[],o⟩:=⟨by show 0<=_;omega,λr a=>by cases a⟩
theorem zJ6 (a:Nat):TrOk (a+1) Tr.none:=⟨zE4 false,λu b=>(by cases b),rfl⟩
theorem zN2 (a:Nat)(c:Cs)(b:zLJ c):TrOk (a+1) (zG0 c):=⟨b,λu e=>(by cases e),rfl⟩
theorem zE2 {a:Nat}{t:Tr}(b:TrOk a t):TrOk a t.plain:=by
 cases a with
 |zero=>exact False.elim b
 |succ a=>
  unfold Tr.plain;split
  ·exact zJ6 a
  ·exact b
theorem zIM {a:Nat}{t:Tr}(o:Tm)(b:TrOk a t):TrOk (a+1) (zBz t o):=by
 refine zE2 ⟨zE4 false,λu c=>?_,?_⟩
 ·rw[kY.1 c];exact b
 ·show xL (t.chars*o.copies)=xL (o.copies*(0+yQ a t))
  rw[b.chars,zJO,Nat.zero_add,Nat.mul_comm]
theorem zG1 (a k:Nat)(b:k=2\/k=3):TrOk (a+1) (zC7 k):=by
 refine⟨zE4 false,λu c=>(by cases c),?_⟩;rcases b with e|e <;> subst e <;> rfl
theorem zHp {a:Nat}{t u:Tr}(c:TrOk (a+1) t)(e:t.kind=2\/t.kind=3)(f:TrOk a u):TrOk (a+1) (t.add u):=by
 refine⟨c.1,λv g=>?_,?_⟩
 ·rcases kU.1 g with b|b
  ·exact c.2.1 v b
  ·rw[kY.1 b];exact f
 ·have b:t.kind≠1:=by omega
  have i:yQ (a+1) t=zX (yQ a) t.parts t.parts.length:=by
   show(if t.kind=1 then _ else if t.kind=2\/t.kind=3 then _ else _)=_;rw[if_neg b,if_pos e]
  have j:yQ (a+1) (t.add u)=zX (yQ a) (t.parts++[u]) (t.parts++[u]).length:=by
   show(if t.kind=1 then _ else if t.kind=2\/t.kind=3 then _ else _)=_;rw[if_neg b,if_pos e];rfl
  have l:(t.parts++[u]).length=t.parts.length+1:=by simp
  have m:(t.parts++[u]).getD t.parts.length Tr.none=u:=by simp
  show xL (t.chars+u.chars)=xL (yQ (a+1) (t.add u));rw[j,l];show _=xL (zX (yQ a) (t.parts++[u]) t.parts.length+yQ a ((t.parts++[u]).getD t.parts.length Tr.none));rw[m,zLt _ _ _ _ lQ,c.2.2,f.chars,zJP,i]
theorem zDo {t u:Tr}(a:t.kind=2\/t.kind=3):(t.add u).kind=2\/(t.add u).kind=3:=a
theorem zFv (s:ByteArray):∀f p l d q,zAW s f p l=some (d,q)->(∀r∈l,-100<=r.1/\r.1<=20000000/\ -100<=r.2/\r.2<=20000000)->p<q/\q<=s.size/\d.length<=l.length+(q-p)/\∀r∈d,-100<=r.1/\r.1<=20000000/\ -100<=r.2/\r.2<=20000000
 |0,_,_,_,_,i,_=>by cases i
 |f+1,p,l,d,q,i,v=>by
  obtain⟨m1,m2,z,A,B,C⟩:=zJ9 s p;have t:∀r∈l++[((yH s p).low,(yH s p).high)],-100<=r.1/\r.1<=20000000/\ -100<=r.2/\r.2<=20000000:=λr w=>by
   rcases kU.1 w with j|j
   ·exact v r j
   ·rw[kY.1 j]
    show -100<=(yH s p).low/\(yH s p).low<=20000000/\ -100<=(yH s p).high/\(yH s p).high<=20000000;omega
  have g:(if (yH s p).ok then(if zK s (yH s p).at_ ⟨#[93]⟩ then some (l++[((yH s p).low,(yH s p).high)],(yH s p).at_+1) else zAW s f (yH s p).at_ (l++[((yH s p).low,(yH s p).high)])) else none)=some (d,q):=i;by_cases m:(yH s p).ok=true
  ·rw[if_pos m] at g
   have E:=m2 m;by_cases o:zK s (yH s p).at_ ⟨#[93]⟩=true
   ·rw[if_pos o] at g
    have e:=hQ g;have u:l++[((yH s p).low,(yH s p).high)]=d:=congrArg Prod.fst e;have F:(yH s p).at_+1=q:=congrArg Prod.snd e;have x:=vD o;rw[zBL] at x;refine⟨by omega,by omega,?_,by rw[<-u];exact t⟩;rw[<-u,kX];show l.length+1<=_;omega
   ·rw[if_neg o] at g
    obtain⟨a,b,c,y⟩:=zFv s f _ _ d q g t;refine⟨by omega,b,?_,y⟩;rw[kX] at c;have G:[((yH s p).low,(yH s p).high)].length=1:=rfl;omega
  ·rw[if_neg m] at g
   cases g
theorem zL6 (n:Int)(b:0<=n/\n<=16777216):zLJ (zIc n):=⟨by show 1<=_;omega,λr a=>by rw[kY.1 a];show -100<=n/\n<=20000000/\ -100<=n/\n<=20000000;omega⟩
def zMP (c:Cs):Prop:=c.ranges.length<=3000000/\∀r∈c.ranges,-100<=r.1/\r.1<=20000000/\ -100<=r.2/\r.2<=20000000
theorem zCZ (s:ByteArray)(z:s.size<=1048576)(p:Nat)(c:Cs)(q:Nat)(d:jH s p=some (c,q)):p<q/\q<=s.size/\zMP c:=by
 have u:∀n:Int,0<=n/\n<=16777216->zMP (zIc n):=λn x=>⟨by show 1<=_;omega,(zL6 n x).2⟩
 have A:=zAs s p;unfold jH at d;split at d
 ·unfold zBY at d
  cases j:zAW s (s.size+1) (if zK s (p+1) ⟨#[94]⟩ then p+2 else p+1) [] with
  |none=>rw[j] at d;cases d
  |some g=>
   obtain⟨l,v⟩:=g;rw[j] at d;have e:=hQ d;have f:(⟨l,zK s (p+1) ⟨#[94]⟩⟩:Cs)=c:=congrArg Prod.fst e;have m:v=q:=congrArg Prod.snd e;obtain⟨a,b,w,o⟩:=zFv s _ _ _ l v j (λr t=>by cases t);have B:([]:List (Int×Int)).length=0:=rfl;have C:p+1<=(if zK s (p+1) ⟨#[94]⟩ then p+2 else p+1):=by split <;> omega
   refine⟨by omega,by omega,?_⟩;rw[<-f];exact⟨by show l.length<=_;omega,o⟩
 split at d
 ·obtain⟨a,b,w,o⟩:=zKm s (p+1)
  split at d
  ·rename_i i
   have e:=hQ d;have f:zIc (zAM s (p+1)).num=c:=congrArg Prod.fst e;have m:(zAM s (p+1)).at_=q:=congrArg Prod.snd e;have:=b i;exact⟨by omega,by omega,by rw[<-f];exact u _ ⟨w,o⟩⟩
  ·cases d
 split at d
 ·rename_i E
  have y:p<s.size:=zBZ (by omega);have e:=hQ d;have f:zOi=c:=congrArg Prod.fst e;have m:p+1=q:=congrArg Prod.snd e;refine⟨by omega,by omega,?_⟩;rw[<-f];exact⟨by show 1<=_;omega,λr t=>by rw[kY.1 t];decide⟩
 split at d
 ·rename_i i
  have y:=zBZ λe=>by rw[e] at i;exact absurd i (by decide)
  have e:=hQ d;have f:zIc (byt s p:Nat)=c:=congrArg Prod.fst e;have m:p+1=q:=congrArg Prod.snd e;exact⟨by omega,by omega,by rw[<-f];exact u _ ⟨by omega,by omega⟩⟩
 ·cases d
theorem zIf (r:Int×Int)(first last a:Int)(d:0<=first)(e:last<=200)(f:-100<=a/\a<=100):∀x∈yW r first last a,-100<=x.1/\x.1<=20000000/\ -100<=x.2/\x.2<=20000000:=λx b=>by
 unfold yW at b;by_cases c:(if first<r.1 then r.1 else first)<=(if r.2<last then r.2 else last)
 ·rw[if_pos c] at b
  rw[kY.1 b];show -100<=(if first<r.1 then r.1 else first)+a/\(if first<r.1 then r.1 else first)+a<=20000000/\ -100<=(if r.2<last then r.2 else last)+a/\(if r.2<last then r.2 else last)+a<=20000000;have g:first<=(if first<r.1 then r.1 else first):=by split <;> omega
  have h:(if r.2<last then r.2 else last)<=last:=by split <;> omega
  omega
 ·rw[if_neg c] at b
  cases b
theorem zMD (both:Bool)(c:Cs)(a:zMP c):zLJ (zKo both c):=by
 unfold zKo;split
 ·have j:=zGz c.ranges
  refine⟨?_,λx g=>?_⟩
  ·show(qF c.ranges).length<=10000000
   have:=a.1;omega
  ·have e:=g
   unfold qF at e;obtain⟨r,i,f⟩:=List.mem_flatMap.1 e;unfold zID at f;rcases List.mem_cons.1 f with b|b
   ·rw[b];exact a.2 r i
   rcases kU.1 b with d|d
   ·exact zIf r 65 90 32 (by decide) (by decide) ⟨by decide,by decide⟩ x d
   ·exact zIf r 97 122 (-32) (by decide) (by decide) ⟨by decide,by decide⟩ x d
 ·exact⟨lY a.1 (by omega),a.2⟩
theorem zHc (s:ByteArray)(p:Nat)(o:Tm)(q:Nat)(a:zDM s p=some (o,q)):p<q/\q<=s.size/\o.least<=300/\o.most<=300:=by
 have fin:∀(c:Tm) (d i:Nat) (x:UInt8),zK s i ⟨#[x]⟩=true->some (c,d)=some (o,q)->d=i+1->p<=i->c.least<=300->c.most<=300->p<q/\q<=s.size/\o.least<=300/\o.most<=300:=λc d i x b e r t f g=>by
  have e:=hQ e;have j:c=o:=congrArg Prod.fst e;have l:d=q:=congrArg Prod.snd e;have m:=vD b;rw[zBL] at m;subst j l;exact⟨by omega,by omega,f,g⟩
 have u:=zAs s (p+1);have v:=zAs s (p+3);unfold zDM at a;split at a
 ·rename_i b;exact fin _ _ p _ b a rfl (by omega) (by show 0<=300;omega) (by show 0<=300;omega)
 split at a
 ·rename_i b;exact fin _ _ p _ b a rfl (by omega) (by show 1<=300;omega) (by show 0<=300;omega)
 split at a
 ·rename_i b;exact fin _ _ p _ b a rfl (by omega) (by show 0<=300;omega) (by show 1<=300;omega)
 unfold zBe at a;split at a
 ·split at a
  ·rename_i b;exact fin _ _ (p+2) _ b a rfl (by omega) (by show byt s (p+1)-48<=300;omega) (by show byt s (p+1)-48<=300;omega)
  split at a
  ·split at a
   ·rename_i b;exact fin _ _ (p+3) _ b a rfl (by omega) (by show byt s (p+1)-48<=300;omega) (by show 0<=300;omega)
   split at a
   ·split at a
    ·rename_i b;exact fin _ _ (p+4) _ b a rfl (by omega) (by show byt s (p+1)-48<=300;omega) (by show byt s (p+3)-48<=300;omega)
    ·cases a
   ·cases a
  ·cases a
 ·cases a
theorem zEJ (s:ByteArray)(D:Nat):∀f p t u q,zBj s f p t=some (u,q)->p<=s.size->TrOk (D+4*p) t->p<=q/\q<=s.size/\TrOk (D+4*q) u
 |0,_,_,_,_,j,_,_=>by cases j
 |f+1,p,t,u,q,j,v,m=>by
  have i:(if zAS s p then(match zDM s p with|none=>none|some (o,q)=>zBj s f q (zBz t o)) else some (t,p))=some (u,q):=j;split at i
  ·cases l:zDM s p with
   |none=>rw[l] at i;cases i
   |some g=>
    obtain⟨o,r⟩:=g;rw[l] at i;obtain⟨a,b,-,-⟩:=zHc s p o r l;obtain⟨c,w,e⟩:=zEJ s D f r (zBz t o) u q i b ((zIM o m).deep (by omega));exact⟨by omega,w,e⟩
  ·have e:=hQ i
   have x:t=u:=congrArg Prod.fst e;have y:p=q:=congrArg Prod.snd e;subst x y;exact⟨lQ,v,m⟩
def zB5 (s:ByteArray)(D:Nat)(f:Nat->Option (Tr×Nat)):Prop:=∀p t q,f p=some (t,q)->p<q/\q<=s.size/\TrOk (D+4*q) t
theorem zHU (s:ByteArray)(D:Nat)(i:Nat->Option (Tr×Nat))(r:zB5 s D i):∀f p t u q,zBC s i f p t=some (u,q)->(t.kind=2\/t.kind=3)->TrOk (D+1+4*p) t->p<q/\q<=s.size/\TrOk (D+1+4*q) u
 |0,_,_,_,_,l,_,_=>by cases l
 |f+1,p,t,u,q,l,w,y=>by
  have j:(match i p with|none=>none|some (u,q)=>if zBG s q then some ((t.add u).plain,q) else zBC s i f q (t.add u))=some (u,q):=l;cases m:i p with
  |none=>rw[m] at j;cases j
  |some g=>
   obtain⟨v,d⟩:=g;rw[m] at j;obtain⟨a,b,c⟩:=r p v d m;have x:TrOk (D+1+4*d) (t.add v):=by
    rw[show D+1+4*d=D+4*d+1 by omega];exact zHp (y.deep (by omega)) w c
   have o:(if zBG s d then some ((t.add v).plain,d) else zBC s i f d (t.add v))=some (u,q):=j;split at o
   ·have e:=hQ o
    have z:(t.add v).plain=u:=congrArg Prod.fst e;have A:d=q:=congrArg Prod.snd e;subst z A;exact⟨a,b,zE2 x⟩
   ·obtain⟨c1,c2,B⟩:=zHU s D i r f d (t.add v) u q o (zDo w) x
    exact⟨by omega,c2,B⟩
theorem zGu (s:ByteArray)(D:Nat)(row:Nat->Option (Tr×Nat))(o:zB5 s D row):∀f p t u q,zAr s row f p t=some (u,q)->(t.kind=2\/t.kind=3)->TrOk (D+1+4*p) t->p<q/\q<=s.size/\TrOk (D+1+4*q) u
 |0,_,_,_,_,j,_,_=>by cases j
 |f+1,p,t,u,q,j,r,x=>by
  have i:(match row p with|none=>none|some (u,q)=>if zK s q ⟨#[124]⟩ then zAr s row f (q+1) (t.add u) else some ((t.add u).plain,q))=some (u,q):=j;cases l:row p with
  |none=>rw[l] at i;cases i
  |some g=>
   obtain⟨v,d⟩:=g;rw[l] at i;obtain⟨a,b,c⟩:=o p v d l;have w:TrOk (D+1+4*d) (t.add v):=by
    rw[show D+1+4*d=D+4*d+1 by omega];exact zHp (x.deep (by omega)) r c
   have m:(if zK s d ⟨#[124]⟩ then zAr s row f (d+1) (t.add v) else some ((t.add v).plain,d))=some (u,q):=i;split at m
   ·obtain⟨c1,c2,y⟩:=zGu s D row o f (d+1) (t.add v) u q m (zDo r) (w.deep (by omega))
    exact⟨by omega,c2,y⟩
   ·have e:=hQ m
    have z:(t.add v).plain=u:=congrArg Prod.fst e;have A:d=q:=congrArg Prod.snd e;subst z A;exact⟨a,b,zE2 w⟩
def zA4 (D:Nat)(defs:List (ByteArray×Tr)):Prop:=∀d∈defs,TrOk D d.2
theorem zB0 (n:ByteArray):(braced n).size=n.size+2:=by
 unfold braced;rw[ByteArray.size_append,ByteArray.size_append,zBL,zBL];omega
theorem zIe (s:ByteArray)(D p:Nat):∀defs t q,zA4 D defs->zCs s p defs=some (t,q)->p<q/\q<=s.size/\TrOk D t
 |[],_,_,_,a=>by cases a
 |d::c,t,q,f,a=>by
  have b:(if zK s p (braced d.1) then some (d.2,p+(braced d.1).size) else zCs s p c)=some (t,q):=a;split at b
  ·rename_i g
   have e:=hQ b;have i:d.2=t:=congrArg Prod.fst e;have l:p+(braced d.1).size=q:=congrArg Prod.snd e;have m:=vD g;have o:=zB0 d.1;subst i;exact⟨by omega,by omega,f d gQ⟩
  ·exact zIe s D p c t q (λx j=>f x (List.mem_cons_of_mem _ j)) b
section
variable {s:ByteArray} {D:Nat} {defs:List (ByteArray×Tr)} {k:Nat} {sub:Reads}
theorem zOk (x:∀both,zB5 s (D+2) λp=>sub p both)(both:Bool):zB5 s D λp=>brM s k sub p both:=λp t q y=>by
 have d:brM s k sub p both=some (t,q):=y;unfold brM at d;split at d
 ·cases d
 split at d
 ·rename_i i
  have r:=vD i;have z:(⟨#[40,41]⟩:ByteArray).size=2:=rfl;have e:=hQ d;have j:Tr.none=t:=congrArg Prod.fst e;have l:p+2=q:=congrArg Prod.snd e;subst j l;exact⟨by omega,by omega,by rw[show D+4*(p+2)=D+4*p+7+1 by omega];exact zJ6 _⟩
 ·have A:p+1<=(if zK s p ⟨#[40,105,58]⟩ then p+3 else p+1):=by split <;> omega
  generalize (if zK s p ⟨#[40,105,58]⟩ then p+3 else p+1)=u at *;generalize (zK s p ⟨#[40,105,58]⟩||both)=w at *;cases m:sub u w with
  |none=>rw[m] at d;cases d
  |some g=>
   obtain⟨v,f⟩:=g;rw[m] at d;obtain⟨a,b,c⟩:=x w u v f m;have o:(if zK s f ⟨#[41]⟩ then some (v,f+1) else none)=some (t,q):=d;split at o
   ·rename_i i
    have r:=vD i;rw[zBL] at r;have e:=hQ o;have j:v=t:=congrArg Prod.fst e;have l:f+1=q:=congrArg Prod.snd e;subst j l;exact⟨by omega,by omega,c.deep (by omega)⟩
   ·cases o
theorem zFD (j:s.size<=1048576)(l:zA4 D defs)(m:∀both,zB5 s (D+2) λp=>sub p both)(both:Bool):zB5 s D λp=>zDm s defs k sub p both:=λp t q o=>by
 have d:zDm s defs k sub p both=some (t,q):=o;unfold zDm at d;split at d
 ·exact zOk m both p t q d
 split at d
 ·obtain⟨a,b,c⟩:=zIe s D p defs t q l d
  exact⟨a,b,c.deep (by omega)⟩
 ·cases i:jH s p with
  |none=>rw[i] at d;cases d
  |some g=>
   obtain⟨c,f⟩:=g;rw[i] at d;have e:=hQ d;have r:zG0 (zKo both c)=t:=congrArg Prod.fst e;have u:f=q:=congrArg Prod.snd e;obtain⟨a,b,v⟩:=zCZ s j p c f i;subst r u;exact⟨a,b,by rw[show D+4*f=D+4*f-1+1 by omega];exact zN2 _ _ (zMD both c v)⟩
theorem zDr (i:s.size<=1048576)(j:zA4 D defs)(l:∀both,zB5 s (D+2) λp=>sub p both)(both:Bool):zB5 s D λp=>zDs s defs k sub p both:=λp t q m=>by
 have d:zDs s defs k sub p both=some (t,q):=m;unfold zDs at d;cases e:zDm s defs k sub p both with
 |none=>rw[e] at d;cases d
 |some g=>
  obtain⟨v,f⟩:=g;rw[e] at d;obtain⟨a,b,c⟩:=zFD i j l both p v f e;obtain⟨o,b2,c2⟩:=zEJ s D _ f v t q d b c;exact⟨by omega,b2,c2⟩
theorem zGP (a:s.size<=1048576)(b:zA4 D defs)(c:∀both,zB5 s (D+2) λp=>sub p both)(both:Bool):zB5 s (D+1) λp=>zOz s defs k sub p both:=λp t q d=>zHU s D _ (zDr a b c both) _ p (zC7 2) t q d (.inl rfl) (by rw[show D+1+4*p=D+4*p+1 by omega];exact zG1 _ 2 (.inl rfl))
theorem zIv (a:s.size<=1048576)(b:zA4 D defs)(c:∀both,zB5 s (D+2) λp=>sub p both)(both:Bool):zB5 s (D+2) λp=>zMw s defs k sub p both:=λp t q d=>zGu s (D+1) _ (zGP a b c both) _ p (zC7 3) t q d (.inr rfl) (by rw[show D+1+1+4*p=D+4*p+1+1 by omega];exact zG1 _ 3 (.inr rfl))
theorem zAa (a:s.size<=1048576)(b:zA4 D defs):∀k both,zB5 s (D+2) λp=>zBu s defs k p both
 |0,both=>zIv a b (λ_ p t q c=>by cases c) both
 |k+1,both=>zIv a b (zAa a b k) both
end
end
theorem zM1 {w w2:World}{b:Nat}(e:b<w.heap.size)(a:Keep (w.heap.size+1) b (w.alloc (.cells #[slice none 0 0,bool false] 161)) w2):w2.heap[w.heap.size]? =some (.cells #[slice none 0 0,bool false] 161)/\w2.cell? ⟨w.heap.size,0,none⟩=some (slice none 0 0)/\w2.cell? ⟨w.heap.size,1,none⟩=some (bool false)/\w2.frozen? ⟨w.heap.size,0,none⟩=false/\w2.frozen? ⟨w.heap.size,1,none⟩=false/\Keep w.heap.size b w w2:=by
 have d:=gY w (.cells #[slice none 0 0,bool false] 161);have c:=(a.block w.heap.size (by omega) (by omega)).trans d;refine⟨c,?_,?_,?_,?_,(kZ (H:=w.heap.size) (b:=b) _ _ lQ).trans ⟨a.os,a.output,a.size,λk d c=>a.block k (by omega) c⟩⟩
 all_goals first|(unfold cell?;rw[c];rfl)|(unfold frozen?;rw[c];simp)
theorem zMF {w1:World}{b:Nat}{s:ByteArray}{dv:Value}{r:Rx}(a:RxAt w1 b s dv r):∃w2,w2=w1.setCell ⟨b,2,none⟩ (iX ((r.at_:Int)+1))/\RxAt w2 b s dv {r with at_:=r.at_+1}/\(∀H,Keep H b w1 w2)/\w1.cell? ⟨b,2,none⟩=some (iX (r.at_:Int))/\w1.frozen? ⟨b,2,none⟩=false:=
 ⟨_,rfl,a.setAt (r.at_+1),λH=>Keep.set _ _ _,a.cells.2.2.1,a.cells.2.2.2.2.2 2⟩
theorem jU {w:World}{b:Nat}{s:ByteArray}{dv:Value}{r:Rx}(a:RxAt w b s dv r)(d:s.size<=1048576)(g:r.at_<=s.size):∃w1,w1=w.alloc (.cells #[slice none 0 0,bool false] 161)/\RxAt w1 b s dv r/\Hid (∀w2,Keep (w.heap.size+1) b w1 w2->w2.heap[w.heap.size]? =some (.cells #[slice none 0 0,bool false] 161)/\w2.cell? ⟨w.heap.size,0,none⟩=some (slice none 0 0)/\w2.cell? ⟨w.heap.size,1,none⟩=some (bool false)/\w2.frozen? ⟨w.heap.size,0,none⟩=false/\w2.frozen? ⟨w.heap.size,1,none⟩=false/\Keep w.heap.size b w w2)/\Hid (w1.heap.size=w.heap.size+1)/\Hid (b<w.heap.size)/\Hid (Calls prog 200 #[pX b,iX 0] w1 λe w'=>e=returned (int .u8 (byt s r.at_:Nat))/\w'=w1):=
 have c:=RxAt.of_block a (lG _ _ _ a.lt)
 ⟨_,rfl,c,λw2 f=>zM1 a.lt f,by show _=_;simp,a.lt,(zGX d (by omega)) _ c⟩
theorem zNZ (w:World)(b:Nat)(s:ByteArray)(dv:Value)(r:Rx)(p:RxAt w b s dv r)(c:s.size<=1048576)(t:r.at_<=s.size)(d:byt s r.at_=91)(f:zBY s r.at_=none):
  Calls prog 203 #[pX b] w (zAt w b s dv r (jH s r.at_)):=by
 obtain⟨w1,g,u,x,y,z,i⟩:=jU p c t;have A:Hid (jH s r.at_=none):=by show _=_;unfold jH;rw[if_pos d,f]
 have j:=vl (zEc w1 b s dv r u c (zBZ (by omega)));rw[f] at j;rw[A.out];rw[d] at i;go_in;apply wp_cut;intro K B;go_wp2;apply B.out;rw[<-g];clear g;go_wp2_with (first|(go_at_call 200;refine i.mono ?_;rintro e L ⟨rfl,C⟩;have D:=C.symm;subst D)|(go_at_call 208;refine j.mono ?_;rintro e w2 ⟨E,v,n,a,o,q,rfl,F⟩;have G:=vl F;obtain⟨k,c0,c1,M,N,l⟩:=x w2 (by rw[<-y.out];exact E);obtain⟨O,H,I,J,m⟩:=vK w w2 b s dv {r with at_:=q} _ _ (slice v n a) (o) z k G l;clear k l))
 rw[<-H];refine gJ (v:=tuple #[agg #[slice v n a,bool (o)],bool false]) (by simp[results,results203,go_sem,I,J]) rfl ?_;exact⟨m.2.1,v,n,a,o,q,rfl,m.1⟩
theorem zNY (w:World)(b:Nat)(s:ByteArray)(dv:Value)(r:Rx)(y:RxAt w b s dv r)(d:s.size<=1048576)(z:r.at_<=s.size)(f:byt s r.at_=91)(c:Cs)(q:Nat)(g:zBY s r.at_=some (c,q)):
  Calls prog 203 #[pX b] w (zAt w b s dv r (jH s r.at_)):=by
 obtain⟨w1,j,A,B,k,C,l⟩:=jU y d z;have D:Hid (jH s r.at_=some (c,q)):=by show _=_;unfold jH;rw[if_pos f,g]
 have m:=vl (zEc w1 b s dv r A d (zBZ (by omega)));rw[g] at m;rw[D.out];rw[f] at l;go_in;apply wp_cut;intro O o;go_wp2;apply o.out;clear o;rw[<-j];clear j;go_wp2_with (first|(go_at_call 200;refine l.mono ?_;rintro e P ⟨rfl,E⟩;have F:=E.symm;subst F)|(go_at_call 208;refine m.mono ?_;rintro e w2 ⟨G,u,rfl,p,H⟩;obtain⟨ao,cap,I,-⟩:=p.at;subst I;have J:=vl H;have K:Hid (RangesIn (λi=>w.heap.size<i) w2 (slice ao c.ranges.length cap) c.ranges):=p.mono (λi _ Q=>by have:=k.out;omega);obtain⟨t,c0,c1,R,S,x⟩:=B w2 (by rw[<-k.out];exact G);obtain⟨T,L,M,N,a⟩:=vK w w2 b s dv {r with at_:=q} _ _ (slice ao c.ranges.length cap) (c.others) C t J x;clear t x))
 rw[<-L];refine gJ (v:=tuple #[agg #[slice ao c.ranges.length cap,bool (c.others)],bool true]) (by simp[results,results203,go_sem,M,N]) rfl ?_;exact⟨a.2.1,_,rfl,a.2.2 _ K,a.1⟩
theorem zNW (w:World)(b:Nat)(s:ByteArray)(dv:Value)(r:Rx)(q:RxAt w b s dv r)(t:s.size<=1048576)(H:r.at_<=s.size)(d:byt s r.at_=92)(a:Sg)(f:zAM s (r.at_+1)=a)(j:a.ok=true):
  Calls prog 203 #[pX b] w (zAt w b s dv r (jH s r.at_)):=by
 obtain⟨w1,x,l,I,m,J,y⟩:=jU q t H;have z:Hid (jH s r.at_=some (zIc a.num,a.at_)):=by show _=_;unfold jH;rw[if_neg (by omega),if_pos d,f,j];rfl
 have A:=vl (zBt w1 b s dv r l t (by omega));rw[f,j] at A;rw[z.out];rw[d] at y;clear z d f j;clear q l;go_in;apply wp_cut;intro U B;go_wp2;apply B.out;clear B;rw[<-x];clear x;go_wp2_with (first|(go_at_call 200;refine y.mono ?_;rintro e V ⟨rfl,K⟩;have L:=K.symm;subst L)|(go_at_call 209;refine A.mono ?_;rintro e w2 ⟨rfl,C,D⟩)|(go_at_call 210;refine(zDA w2 a.num).mono ?_;rintro e o ⟨u,rfl,⟨g,M,rfl,N⟩,c⟩;have O:=(D 0).size;have E:b<w2.heap.size:=C.lt;have P:=vl <| RxAt.of_block C (c.block b E (by omega));have Q:Hid (RangesIn (λi=>w.heap.size<i) o (slice (qX g) 1 1) [(a.num,a.num)]):=zGZ N (by have:=m.out;omega);obtain⟨F,c0,c1,W,X,G⟩:=I o ((D _).trans ⟨c.os,c.output,c.size,λk l _=>c.block k (by have:=m.out;omega) (by have:=m.out;omega)⟩);obtain⟨Y,R,S,T,p⟩:=vK w o b s dv {r with at_:=a.at_} _ _ (slice (qX g) 1 1) (false) J F P G;clear F G;clear O E M))
 rw[<-R];refine gJ (v:=tuple #[agg #[slice (qX g) 1 1,bool (false)],bool true]) (by simp[results,results203,go_sem,S,T]) rfl ?_;exact⟨p.2.1,_,rfl,p.2.2 _ Q,p.1⟩
theorem zNX (w:World)(b:Nat)(s:ByteArray)(dv:Value)(r:Rx)(E:RxAt w b s dv r)(f:s.size<=1048576)(F:r.at_<=s.size)(i:byt s r.at_=92)(a:Sg)(j:zAM s (r.at_+1)=a)(l:a.ok=false):
  Calls prog 203 #[pX b] w (zAt w b s dv r (jH s r.at_)):=by
 obtain⟨w1,m,o,G,d,H,p⟩:=jU E f F;have I:Hid (jH s r.at_=none):=by show _=_;unfold jH;rw[if_neg (by omega),if_pos i,j,l];rfl
 have q:=vl (zBt w1 b s dv r o f (by omega));rw[j,l] at q;rw[I.out];rw[i] at p;go_in;apply wp_cut;intro S t;go_wp2;apply t.out;clear t;rw[<-m];clear m;go_wp2_with (first|(go_at_call 200;refine p.mono ?_;rintro e T ⟨rfl,J⟩;have K:=J.symm;subst K)|(go_at_call 209;refine q.mono ?_;rintro e w2 ⟨rfl,x,y⟩)|(go_at_call 210;refine(zDA w2 a.num).mono ?_;rintro e z ⟨u,rfl,⟨g,L,rfl,M⟩,c⟩;have N:=(y 0).size;have A:b<w2.heap.size:=x.lt;have O:=vl <| RxAt.of_block x (c.block b A (by omega));have U:=vl <| zGZ M (by have:=d.out;omega);obtain⟨B,c0,c1,V,W,C⟩:=G z ((y _).trans ⟨c.os,c.output,c.size,λk o _=>c.block k (by have:=d.out;omega) (by have:=d.out;omega)⟩);obtain⟨X,P,Q,R,D⟩:=vK w z b s dv {r with at_:=a.at_} _ _ (slice (qX g) 1 1) (false) H B O C;clear B C;clear N A L))
 rw[<-P];refine gJ (v:=tuple #[agg #[slice (qX g) 1 1,bool (false)],bool false]) (by simp[results,results203,go_sem,Q,R]) rfl ?_;exact⟨D.2.1,some ⟨g,0,none⟩,1,1,false,a.at_,rfl,D.1⟩
theorem zOy (w:World)(b:Nat)(s:ByteArray)(dv:Value)(r:Rx)(m:RxAt w b s dv r)(C:s.size<=1048576)(D:r.at_<=s.size)(c:byt s r.at_=46):
  Calls prog 203 #[pX b] w (zAt w b s dv r (jH s r.at_)):=by
 obtain⟨w1,o,d,E,f,F,p⟩:=jU m C D;have q:Hid (jH s r.at_=some (zOi,r.at_+1)):=by show _=_;unfold jH;rw[if_neg (by omega),if_neg (by omega),if_pos c]
 rw[q.out];obtain⟨w2,G,t,x,c2,R⟩:=zMF d;rw[c] at p;clear c;clear q;clear m d;go_in;apply wp_cut;intro S y;go_wp2;apply y.out;clear y;rw[<-o];clear o;go_wp2_with (first|(go_at_call 200;refine p.mono ?_;rintro e T ⟨rfl,H⟩;have I:=H.symm;subst I)|(rw [<-G];go_at_call 211;refine(zLm w2).mono ?_;rintro e j ⟨u,rfl,⟨g,J,rfl,K⟩,a⟩;have L:=(x 0).size;have z:b<w2.heap.size:=t.lt;have M:=vl <| RxAt.of_block t (a.block b z (by omega));have N:Hid (RangesIn (λi=>w.heap.size<i) j (slice (qX g) 1 1) [(10,10)]):=zGZ K (by have:=f.out;omega);obtain⟨A,c0,c1,U,V,B⟩:=E j ((x _).trans ⟨a.os,a.output,a.size,λk d _=>a.block k (by have:=f.out;omega) (by have:=f.out;omega)⟩);obtain⟨W,O,P,Q,l⟩:=vK w j b s dv {r with at_:=r.at_+1} _ _ (slice (qX g) 1 1) (true) F A M B;clear A B;clear L z J))
 rw[<-O];refine gJ (v:=tuple #[agg #[slice (qX g) 1 1,bool (true)],bool true]) (by simp[results,results203,go_sem,P,Q]) rfl ?_;exact⟨l.2.1,_,rfl,l.2.2 _ N,l.1⟩
theorem zOw (w:World)(b:Nat)(s:ByteArray)(dv:Value)(r:Rx)(t:RxAt w b s dv r)(K:s.size<=1048576)(L:r.at_<=s.size)(c:Nat)(d:byt s r.at_=c)(x:c≠91)(y:c≠92)(z:c≠46)(f:zAJ c=true):
  Calls prog 203 #[pX b] w (zAt w b s dv r (jH s r.at_)):=by
 obtain⟨w1,A,j,M,l,N,B⟩:=jU t K L;have C:Hid (jH s r.at_=some (zIc (c:Nat),r.at_+1)):=by show _=_;unfold jH;rw[d,if_neg x,if_neg y,if_neg z,if_pos f]
 rw[C.out];obtain⟨w2,O,D,E,c2,aa⟩:=zMF j;have P:=zAs s r.at_;rw[d] at B P;have F:=vl λw=>zCv w c;rw[f] at F;have ab:((c:Int)==91)=false:=by rw[hZ];omega
 have ac:((c:Int)==92)=false:=by rw[hZ];omega
 have ad:((c:Int)==46)=false:=by rw[hZ];omega
 clear d x y z f;clear C;clear t j;go_in;apply wp_cut;intro ae G;go_wp2;apply G.out;clear G;rw[<-A];clear A;go_wp2_with (first|(go_at_call 200;refine B.mono ?_;rintro e Q ⟨rfl,m⟩;have o:=m.symm;subst o)|(go_at_call 212;refine(F _).mono ?_;rintro e Q ⟨rfl,m⟩;have o:=m.symm;subst o)|(rw [<-O];go_at_call 210;refine(zDA w2 (c:Int)).mono ?_;rintro e p ⟨u,rfl,⟨g,R,rfl,S⟩,a⟩;have T:=(E 0).size;have H:b<w2.heap.size:=D.lt;have U:=vl <| RxAt.of_block D (a.block b H (by omega));have V:Hid (RangesIn (λi=>w.heap.size<i) p (slice (qX g) 1 1) [((c:Int),(c:Int))]):=zGZ S (by have:=l.out;omega);obtain⟨I,c0,c1,af,ag,J⟩:=M p ((E _).trans ⟨a.os,a.output,a.size,λk j _=>a.block k (by have:=l.out;omega) (by have:=l.out;omega)⟩);obtain⟨ah,W,X,Y,q⟩:=vK w p b s dv {r with at_:=r.at_+1} _ _ (slice (qX g) 1 1) (false) N I U J;clear I J;clear T H R))
 rw[<-W];refine gJ (v:=tuple #[agg #[slice (qX g) 1 1,bool (false)],bool true]) (by simp[results,results203,go_sem,X,Y]) rfl ?_;exact⟨q.2.1,_,rfl,q.2.2 _ V,q.1⟩
theorem zOx (w:World)(b:Nat)(s:ByteArray)(dv:Value)(r:Rx)(o:RxAt w b s dv r)(p:s.size<=1048576)(q:r.at_<=s.size)(c:Nat)(f:byt s r.at_=c)(t:c≠91)(u:c≠92)(x:c≠46)(g:zAJ c=false):
  Calls prog 203 #[pX b] w (zAt w b s dv r (jH s r.at_)):=by
 obtain⟨w1,i,y,z,K,A,j⟩:=jU o p q;have B:Hid (jH s r.at_=none):=by show _=_;unfold jH;rw[f,if_neg t,if_neg u,if_neg x,if_neg (by rw[g];decide)]
 rw[B.out];have C:=zAs s r.at_;rw[f] at j C;have k:=vl λw=>zCv w c;rw[g] at k;have L:((c:Int)==91)=false:=by rw[hZ];omega
 have M:((c:Int)==92)=false:=by rw[hZ];omega
 have N:((c:Int)==46)=false:=by rw[hZ];omega
 have D:=vl y;obtain⟨E,c0,c1,O,P,F⟩:=z w1 (Keep.refl _ _ _);obtain⟨Q,G,H,I,l⟩:=vK w w1 b s dv r _ _ (slice none 0 0) false A E D F;go_in;apply wp_cut;intro R m;go_wp2;apply m.out;clear m;rw[<-i];clear i;go_wp2_with (first|(go_at_call 200;refine j.mono ?_;rintro e J ⟨rfl,a⟩;have d:=a.symm;subst d)|(go_at_call 212;refine(k _).mono ?_;rintro e J ⟨rfl,a⟩;have d:=a.symm;subst d))
 rw[<-G];refine gJ (v:=tuple #[agg #[slice none 0 0,bool (false)],bool false]) (by simp[results,results203,go_sem,H,I]) rfl ?_;exact⟨l.2.1,none,0,0,false,r.at_,rfl,l.1⟩
theorem zDv (w:World)(b:Nat)(s:ByteArray)(dv:Value)(r:Rx)(a:RxAt w b s dv r)(d:s.size<=1048576)(e:r.at_<=s.size):
  Calls prog 203 #[pX b] w (zAt w b s dv r (jH s r.at_)):=by
 by_cases f:byt s r.at_=91
 ·cases k:zBY s r.at_ with
  |none=>exact zNZ w b s dv r a d e f k
  |some g=>
   obtain⟨c,q⟩:=g;exact zNY w b s dv r a d e f c q k
 by_cases i:byt s r.at_=92
 ·cases l:(zAM s (r.at_+1)).ok with
  |true=>exact zNW w b s dv r a d e i _ rfl l
  |false=>exact zNX w b s dv r a d e i _ rfl l
 by_cases j:byt s r.at_=46
 ·exact zOy w b s dv r a d e j
 cases m:zAJ (byt s r.at_) with
 |true=>exact zOw w b s dv r a d e _ rfl f i j m
 |false=>exact zOx w b s dv r a d e _ rfl f i j m
def zMK (w:World)(b:Nat)(s:ByteArray)(dv:Value)(r:Rx)(a:Option (Tm×Nat))(e:Ending)(w':World):Prop:=
 Keep w.heap.size b w w'/\match a with
 |none=>∃q,e=returned (tuple #[agg #[int i64 0,int i64 0,bool false],bool false])/\RxAt w' b s dv {r with at_:=q}
 |some (o,q)=>e=returned (tuple #[agg #[int i64 (o.least:Int),int i64 (o.most:Int),bool o.endless],bool true])/\RxAt w' b s dv {r with at_:=q}
theorem qB (w w2:World)(b:Nat)(s:ByteArray)(dv:Value)(r:Rx)(n m:Int)(o:Bool)(j:b<w.heap.size)(c:Hid (Keep w.heap.size b w w2/\w2.heap[w.heap.size]? =some (.cells #[iX 0,iX 0,bool false] 163)))(e:RxAt w2 b s dv r):
  ∃a,a=((w2.setCell ⟨w.heap.size,0,none⟩ (iX n)).setCell ⟨w.heap.size,1,none⟩ (iX m)).setCell ⟨w.heap.size,2,none⟩ (bool o)/\a.cell? ⟨w.heap.size,0,none⟩=some (iX n)/\a.cell? ⟨w.heap.size,1,none⟩=some (iX m)/\a.cell? ⟨w.heap.size,2,none⟩=some (bool o)/\Hid (RxAt a b s dv r/\Keep w.heap.size b w a):=by
 have f:(((w2.setCell ⟨w.heap.size,0,none⟩ (iX n)).setCell ⟨w.heap.size,1,none⟩ (iX m)).setCell ⟨w.heap.size,2,none⟩ (bool o)).heap[w.heap.size]? =some (.cells #[iX n,iX m,bool o] 163):=by
  simp[setCell,lU,c.out.2]
 have d:∀i,i≠w.heap.size->(((w2.setCell ⟨w.heap.size,0,none⟩ (iX n)).setCell ⟨w.heap.size,1,none⟩ (iX m)).setCell ⟨w.heap.size,2,none⟩ (bool o)).heap[i]? =w2.heap[i]? :=λi g=>by
  simp[setCell,lU,Ne.symm g]
 refine⟨_,rfl,?_,?_,?_,RxAt.of_block e (d b (by omega)),c.1.trans ⟨rfl,rfl,by simp[World.setCell],λk l _=>d k (by omega)⟩⟩
 all_goals (unfold cell?;rw[f];rfl)
theorem zKC {w w2:World}{b:Nat}(e:b<w.heap.size)(a:Keep (w.heap.size+1) b (w.alloc (.cells #[iX 0,iX 0,bool false] 163)) w2):Hid (Keep w.heap.size b w w2/\w2.heap[w.heap.size]? =some (.cells #[iX 0,iX 0,bool false] 163))/\w2.cell? ⟨w.heap.size,0,none⟩=some (iX 0)/\w2.cell? ⟨w.heap.size,1,none⟩=some (iX 0)/\w2.cell? ⟨w.heap.size,2,none⟩=some (bool false)/\w2.frozen? ⟨w.heap.size,0,none⟩=false/\w2.frozen? ⟨w.heap.size,1,none⟩=false/\w2.frozen? ⟨w.heap.size,2,none⟩=false:=by
 have d:=gY w (.cells #[iX 0,iX 0,bool false] 163);have c:=(a.block w.heap.size (by omega) (by omega)).trans d;refine⟨⟨(kZ (H:=w.heap.size) (b:=b) _ _ lQ).trans ⟨a.os,a.output,a.size,λk d c=>a.block k (by omega) c⟩,c⟩,?_,?_,?_,?_,?_,?_⟩
 all_goals first|(unfold cell?;rw[c];rfl)|(unfold frozen?;rw[c];simp)
theorem zCL {c:Nat}(a:xZ c=true):zA2 c=((c-48:Nat):Int)/\48<=c/\c<=52:=by
 have b:48<=c:=by
  unfold xZ xH at a;rw[Bool.and_eq_true,Bool.and_eq_true] at a;exact of_decide_eq_true a.1.1
 have d:c<=52:=by
  unfold xZ at a;rw[Bool.and_eq_true] at a;exact of_decide_eq_true a.2
 exact⟨by unfold zA2;rw[if_pos a];omega,b,d⟩
theorem zO4 {a w:World}{b x n:Nat}{s:ByteArray}{dv:Value}{r:Rx}(c:xZ (byt s x)=true)(d:Hid (byt s x-48=n))(f:RxAt w b s dv {r with at_:=x})(g:∀H,Keep H b a w)(i:s.size<=1048576)(j:x<=2000000):
  Calls prog 214 #[pX b] w λe w'=>e=returned (iX (n:Int))/\RxAt w' b s dv {r with at_:=x+1}/\∀H,Keep H b a w':=by
 refine(zEb w b s dv {r with at_:=x} f i j).mono ?_;rintro e w' ⟨rfl,k,l⟩;refine⟨by rw[(zCL c).1,<-d.out],?_,λH=>(g H).trans (l H)⟩;have e:(({r with at_:=x}:Rx).on (xZ (byt s x)))={r with at_:=x+1}:=by rw[c];rfl
 rw[<-e];exact k
theorem zO5 {a w:World}{b x:Nat}{s:ByteArray}{dv:Value}{r:Rx}(c:xZ (byt s x)=false)(d:RxAt w b s dv {r with at_:=x})(f:∀H,Keep H b a w)(g:s.size<=1048576)(i:x<=2000000):
  Calls prog 214 #[pX b] w λe w'=>e=returned (iX (-1))/\RxAt w' b s dv {r with at_:=x}/\∀H,Keep H b a w':=by
 refine(zEb w b s dv {r with at_:=x} d g i).mono ?_;rintro e w' ⟨rfl,j,k⟩;refine⟨by unfold zA2;rw[if_neg (by rw[c];decide)],?_,λH=>(f H).trans (k H)⟩;have e:(({r with at_:=x}:Rx).on (xZ (byt s x)))={r with at_:=x}:=by rw[c];rfl
 rw[<-e];exact j
theorem zDV {w:World}{b:Nat}{s:ByteArray}{dv:Value}{r:Rx}(a:RxAt w b s dv r):∃w1,w1=w.alloc (.cells #[iX 0,iX 0,bool false] 163)/\RxAt w1 b s dv {r with at_:=r.at_}/\Hid (∀w2,Keep (w.heap.size+1) b w1 w2->Hid (Keep w.heap.size b w w2/\w2.heap[w.heap.size]? =some (.cells #[iX 0,iX 0,bool false] 163))/\w2.cell? ⟨w.heap.size,0,none⟩=some (iX 0)/\w2.cell? ⟨w.heap.size,1,none⟩=some (iX 0)/\w2.cell? ⟨w.heap.size,2,none⟩=some (bool false)/\w2.frozen? ⟨w.heap.size,0,none⟩=false/\w2.frozen? ⟨w.heap.size,1,none⟩=false/\w2.frozen? ⟨w.heap.size,2,none⟩=false)/\Hid (w1.heap.size=w.heap.size+1)/\Hid (b<w.heap.size):=⟨_,rfl,RxAt.of_block a (lG _ _ _ a.lt),λw2 c=>zKC a.lt c,by show _=_;simp,a.lt⟩
theorem zKA {w1:World}{b:Nat}{s:ByteArray}{dv:Value}{r:Rx}(a:RxAt w1 b s dv {r with at_:=r.at_}):∃w2,w2=w1.setCell ⟨b,2,none⟩ (iX ((r.at_:Int)+1))/\RxAt w2 b s dv {r with at_:=r.at_+1}/\(∀H,Keep H b w1 w2)/\w1.cell? ⟨b,2,none⟩=some (iX (r.at_:Int))/\w1.frozen? ⟨b,2,none⟩=false:=
 ⟨_,rfl,a.setAt (r.at_+1),λH=>Keep.set _ _ _,a.cells.2.2.1,a.cells.2.2.2.2.2 2⟩
theorem zF0 (w:World)(b:Nat)(s:ByteArray)(dv:Value)(r:Rx)(z:RxAt w b s dv r)(l:s.size<=1048576)(L:r.at_<=s.size):
  Calls prog 207 #[pX b] w (zMK w b s dv r (zBe s r.at_)):=by
 obtain⟨w1,A,o,D,M,p⟩:=zDV z;obtain⟨w2,B,c,d,E,F⟩:=zKA o;clear z o;go_in;apply wp_cut;intro G k;go_wp2;apply k.out;clear k;rw[<-A];clear A;apply wp_cut;intro G k;go_wp2;apply k.out;clear k;rw[<-B];clear B E F;obtain⟨v,C⟩:∃v,v=w2:=⟨_,rfl⟩
 rw[<-C] at c d ⊢;clear C;unfold zBe;obtain⟨n,t⟩:∃n,byt s (r.at_+1)-48=n:=⟨_,rfl⟩
 obtain⟨m,u⟩:∃m,byt s (r.at_+3)-48=m:=⟨_,rfl⟩
 rw[t,u];have H:=zAs s (r.at_+1);rcases o:xZ (byt s (r.at_+1)) with _|_;rotate_left;have I:=(zCL o).2;have N:n<=4:=by omega
 rw[if_pos rfl];rcases O:zK s (r.at_+2) ⟨#[125]⟩ with _|_;rw[if_neg (by decide)];rcases P:zK s (r.at_+2) ⟨#[44]⟩ with _|_;rotate_left;rw[if_pos rfl];rcases Q:zK s (r.at_+3) ⟨#[125]⟩ with _|_;rw[if_neg (by decide)];rcases J:xZ (byt s (r.at_+3)) with _|_;rotate_left;have q2:=(zCL J).2;have R:m<=4:=by omega
 rcases x:decide (byt s (r.at_+1)<=byt s (r.at_+3)) with _|_;rotate_left;rw[if_pos (show (true&&true)=true from rfl)];rcases S:zK s (r.at_+4) ⟨#[125]⟩ with _|_
 all_goals
  try have K:(n:Int)<=(m:Int):=by have:=of_decide_eq_true x;omega
  try have K:(m:Int)<(n:Int):=by have:=of_decide_eq_false x;omega
  have T:=vl t;have U:=vl u;clear t u H
  try clear I
  try clear q2
  try clear x
  go_wp2_with ((first|(go_at_call 189;(first|refine(zNQ (by assumption) c d l (by omega)).mono ?_|refine(zNP (by assumption) c d l (by omega)).mono ?_))|(go_at_call 214;(first|refine(zO5 (by assumption) c d l (by omega)).mono ?_|refine(zO4 (by assumption) (by assumption) c d l (by omega)).mono ?_)));rintro e v ⟨rfl,c,d⟩;obtain⟨q,c0,c1,c2,V,W,X⟩:=D v (d _))
  first
  |(obtain ⟨y,f,g,i,j,a⟩:=qB w v b s dv _ 0 0 false p q c;rw[<-f];refine gJ (v:=tuple #[agg #[iX 0,iX 0,bool false],bool false]) (by simp[results,results207,go_sem,g,i,j]) rfl ?_;exact⟨a.2,_,rfl,a.1⟩)
  |(obtain ⟨y,f,g,i,j,a⟩:=qB w v b s dv _ n n false p q c;rw[<-f];refine gJ (v:=tuple #[agg #[iX n,iX n,bool false],bool true]) (by simp[results,results207,go_sem,g,i,j]) rfl ?_;exact⟨a.2,rfl,a.1⟩)
  |(obtain ⟨y,f,g,i,j,a⟩:=qB w v b s dv _ n 0 true p q c;rw[<-f];refine gJ (v:=tuple #[agg #[iX n,iX 0,bool true],bool true]) (by simp[results,results207,go_sem,g,i,j]) rfl ?_;exact⟨a.2,rfl,a.1⟩)
  |(obtain ⟨y,f,g,i,j,a⟩:=qB w v b s dv _ n m false p q c;rw[<-f];refine gJ (v:=tuple #[agg #[iX n,iX m,bool false],bool true]) (by simp[results,results207,go_sem,g,i,j]) rfl ?_;exact⟨a.2,rfl,a.1⟩)
theorem zFi (w:World)(b:Nat)(s:ByteArray)(dv:Value)(r:Rx)(u:RxAt w b s dv r)(A:s.size<=1048576)(J:r.at_<=s.size):
  Calls prog 198 #[pX b] w (zMK w b s dv r (zDM s r.at_)):=by
 have D:Hid (∀w,RxAt w b s dv r->Ca 207 #[pX b] w (zMK w b s dv r (zBe s r.at_))):=λw u=>zF0 w b s dv r u A J;obtain⟨v,E,d,B,F,p⟩:=zDV u;have l:∀H,Keep H b v v:=λH=>⟨rfl,rfl,lQ,λk _ _=>rfl⟩
 clear u;go_in;apply wp_cut;intro O G;go_wp2;apply G.out;clear G;rw[<-E];clear E;unfold zDM;obtain⟨v0,C⟩:∃v0,v0=v:=⟨_,rfl⟩
 rw[<-C] at B F;have l:∀H,Keep H b v0 v:=by rw[C];exact l
 clear C;rcases K:zK s r.at_ ⟨#[42]⟩ with _|_;rcases I:zK s r.at_ ⟨#[43]⟩ with _|_;rcases P:zK s r.at_ ⟨#[63]⟩ with _|_;rw[if_neg (by decide),if_neg (by decide),if_neg (by decide)];have x:∃a,zBe s r.at_=a:=⟨_,rfl⟩
 obtain⟨a,x⟩:=x;rw[x] at D ⊢;clear x;rcases a with _|⟨o,q⟩
 all_goals
  go_wp2_with (first|(go_at_call 189;(first|refine(zNQ (by assumption) d l A (by omega)).mono ?_|refine(zNP (by assumption) d l A (by omega)).mono ?_);rintro e v ⟨rfl,d,l⟩;obtain⟨m,c0,c1,c2,L,M,N⟩:=B v (l _))|(go_at_call 207;refine(D v d).mono ?_;(first|rintro e y ⟨t,q,rfl,d⟩|rintro e y ⟨t,rfl,d⟩);obtain⟨m,c0,c1,c2,L,M,N⟩:=B y ((l _).trans ⟨t.os,t.output,t.size,λk K I=>t.block k (by have:=F.out;have:=(l 0).size;omega) I⟩)))
  first
  |(obtain ⟨z,f,g,i,j,c⟩:=qB w y b s dv _ 0 0 false p m d;rw[<-f];refine gJ (v:=tuple #[agg #[iX 0,iX 0,bool false],bool false]) (by simp[results,results198,go_sem,g,i,j]) rfl ?_;exact⟨c.2,_,rfl,c.1⟩)
  |(obtain ⟨z,f,g,i,j,c⟩:=qB w y b s dv _ o.least o.most o.endless p m d;rw[<-f];refine gJ (v:=tuple #[agg #[iX o.least,iX o.most,bool o.endless],bool true]) (by simp[results,results198,go_sem,g,i,j]) rfl ?_;exact⟨c.2,rfl,c.1⟩)
  |(obtain ⟨z,f,g,i,j,c⟩:=qB w v b s dv _ 0 0 true p m d;rw[<-f];refine gJ (v:=tuple #[agg #[iX 0,iX 0,bool true],bool true]) (by simp[results,results198,go_sem,g,i,j]) rfl ?_;exact⟨c.2,rfl,c.1⟩)
  |(obtain ⟨z,f,g,i,j,c⟩:=qB w v b s dv _ 1 0 true p m d;rw[<-f];refine gJ (v:=tuple #[agg #[iX 1,iX 0,bool true],bool true]) (by simp[results,results198,go_sem,g,i,j]) rfl ?_;exact⟨c.2,rfl,c.1⟩)
  |(obtain ⟨z,f,g,i,j,c⟩:=qB w v b s dv _ 0 1 false p m d;rw[<-f];refine gJ (v:=tuple #[agg #[iX 0,iX 1,bool false],bool true]) (by simp[results,results198,go_sem,g,i,j]) rfl ?_;exact⟨c.2,rfl,c.1⟩)
end Go.Proofs.YtbjcfkdnjaiclaaGreat
