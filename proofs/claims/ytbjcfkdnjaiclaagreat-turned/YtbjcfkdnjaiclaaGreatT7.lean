import Derived.Deep.DrawnRows
import Derived.Deep.RegionHeld3
import Derived.Deep.RegionLaw
import Derived.Laws.OwnMore
import Derived.Test.YtbjcfkdnjaiclaaGreatT0
import Derived.Test.YtbjcfkdnjaiclaaGreatT6
/- Parts of the proof. -/
set_option linter.unusedVariables false
set_option linter.unusedSimpArgs false
set_option maxHeartbeats 4000000
set_option maxRecDepth 100000
namespace Go.Proofs.YtbjcfkdnjaiclaaGreat
open Go.RowKit Go.Proofs.Tryz Go.World
open Go.Value (int slice bool pointer string agg tuple)
open Go.IntKind (i64)
open Go.Ending (returned)
section
theorem zCF (a:UInt8):(⟨#[a]⟩:ByteArray).size=1:=rfl
def zAl (s:ByteArray)(p:Nat):Option (Cs×Nat):=
 if byt s p=91 then zCZ s p
 else if byt s p=92 then(if (zBp s (p+1)).ok then some (zJS (zBp s (p+1)).num,(zBp s (p+1)).at_) else none)
 else if byt s p=46 then some (zQd,p+1)
 else if zBl (byt s p) then some (zJS (byt s p:Nat),p+1) else none
structure Tm where
 least:Nat
 most:Nat
 endless:Bool
def Tm.copies (o:Tm):Nat:=if o.endless then(if o.least=0 then 1 else o.least) else o.most
def zBW (s:ByteArray)(p:Nat):Option (Tm×Nat):=
 if yN (byt s (p+1)) then
  if zK s (p+2) ⟨#[125]⟩ then some (⟨byt s (p+1)-48,byt s (p+1)-48,false⟩,p+3)
  else if zK s (p+2) ⟨#[44]⟩ then
   if zK s (p+3) ⟨#[125]⟩ then some (⟨byt s (p+1)-48,0,true⟩,p+4)
   else if yN (byt s (p+3))&&decide (byt s (p+1)<=byt s (p+3)) then(if zK s (p+4) ⟨#[125]⟩ then some (⟨byt s (p+1)-48,byt s (p+3)-48,false⟩,p+5) else none)
   else none
  else none
 else none
def zE6 (s:ByteArray)(p:Nat):Option (Tm×Nat):=if zK s p ⟨#[42]⟩ then some (⟨0,0,true⟩,p+1) else if zK s p ⟨#[43]⟩ then some (⟨1,0,true⟩,p+1) else if zK s p ⟨#[63]⟩ then some (⟨0,1,false⟩,p+1) else zBW s p
def braced (n:ByteArray):ByteArray:=⟨#[123]⟩++n++⟨#[125]⟩
def zDw (s:ByteArray)(p:Nat):List (ByteArray×Tr)->Option (Tr×Nat)
 |[]=>none
 |d::ds=>if zK s p (braced d.1) then some (d.2,p+(braced d.1).size) else zDw s p ds
abbrev Reads:=Nat->Bool->Option (Tr×Nat)
def brM (s:ByteArray)(k:Nat)(sub:Reads)(p:Nat)(both:Bool):Option (Tr×Nat):=
 if k=0 then none else if zK s p ⟨#[40,41]⟩ then some (Tr.none,p+2) else
 match sub (if zK s p ⟨#[40,105,58]⟩ then p+3 else p+1) (zK s p ⟨#[40,105,58]⟩||both) with
 |none=>none
 |some (t,q)=>if zK s q ⟨#[41]⟩ then some (t,q+1) else none
def zMp (both:Bool)(c:Cs):Cs:=if both then⟨vA c.ranges,c.others⟩ else c
def zEB (s:ByteArray)(defs:List (ByteArray×Tr))(k:Nat)(sub:Reads)(p:Nat)(both:Bool):Option (Tr×Nat):=if byt s p=40 then brM s k sub p both else if byt s p=123 then zDw s p defs else(zAl s p).map λc=>(zIk (zMp both c.1),c.2)
def zCn (t:Tr)(o:Tm):Tr:=Tr.plain ⟨4,⟨[],false⟩,[t],o.least,o.most,o.endless,xZ (t.chars*o.copies)⟩
def zB4 (s:ByteArray):Nat->Nat->Tr->Option (Tr×Nat)
 |0,_,_=>none
 |f+1,p,t=>if zBw s p then(match zE6 s p with
  |none=>none
  |some (o,q)=>zB4 s f q (zCn t o)) else some (t,p)
def zEJ (s:ByteArray)(defs:List (ByteArray×Tr))(k:Nat)(sub:Reads)(p:Nat)(both:Bool):Option (Tr×Nat):=
 match zEB s defs k sub p both with
 |none=>none
 |some (t,q)=>zB4 s (s.size+1) q t
def zCq (s:ByteArray)(thing:Nat->Option (Tr×Nat)):Nat->Nat->Tr->Option (Tr×Nat)
 |0,_,_=>none
 |f+1,p,t=>match thing p with
  |none=>none
  |some (u,q)=>if zCx s q then some ((t.add u).plain,q) else zCq s thing f q (t.add u)
def zEi (kind:Nat):Tr:=⟨kind,⟨[],false⟩,[],0,0,false,0⟩
def zQB (s:ByteArray)(defs:List (ByteArray×Tr))(k:Nat)(sub:Reads)(p:Nat)(both:Bool):Option (Tr×Nat):=zCq s (λq=>zEJ s defs k sub q both) (s.size+1) p (zEi 2)
def zAW (s:ByteArray)(row:Nat->Option (Tr×Nat)):Nat->Nat->Tr->Option (Tr×Nat)
 |0,_,_=>none
 |f+1,p,t=>match row p with
  |none=>none
  |some (u,q)=>if zK s q ⟨#[124]⟩ then zAW s row f (q+1) (t.add u) else some ((t.add u).plain,q)
def zOw (s:ByteArray)(defs:List (ByteArray×Tr))(k:Nat)(sub:Reads)(p:Nat)(both:Bool):Option (Tr×Nat):=zAW s (λq=>zQB s defs k sub q both) (s.size+1) p (zEi 3)
def zCk (s:ByteArray)(defs:List (ByteArray×Tr)):Nat->Reads
 |0=>zOw s defs 0 λ_ _=>none
 |k+1=>zOw s defs (k+1) (zCk s defs k)
def jN (s:ByteArray)(defs:List (ByteArray×Tr)):Option Tr:=
 match zCk s defs 8 0 false with
 |none=>none
 |some (t,q)=>if q=s.size then some t else none
theorem zFb (n:Nat):xZ n<=25:=by unfold xZ;split <;> omega
theorem zLP (a b:Nat):xZ (xZ a+xZ b)=xZ (a+b):=by
 unfold xZ;by_cases c:24<a <;> by_cases d:24<b <;> by_cases e:24<a+b <;> simp only[c,d,e,if_true,if_false] <;> first|omega|(split <;> omega)
theorem zLO (a k:Nat):xZ (xZ a*k)=xZ (a*k):=by
 rcases Nat.eq_zero_or_pos k with b|b
 ·subst b;rfl
 ·unfold xZ
  by_cases c:24<a
  ·have d:=Nat.mul_le_mul_left a b
   have e:=Nat.mul_le_mul_left 25 b;rw[if_pos c,if_pos (by omega),if_pos (by omega)]
  ·rw[if_neg c]
theorem zKj (f g:Tr->Nat)(parts:List Tr)(a:∀u∈parts,f u=g u)(j:Nat)(d:j<=parts.length):xG f parts j=xG g parts j:=by
 induction j with
 |zero=>rfl
 |succ j b=>
  show xG f parts j+f (parts.getD j Tr.none)=xG g parts j+g (parts.getD j Tr.none);have c:parts.getD j Tr.none∈parts:=by
   rw[lW,lV (by omega:j<parts.length)];exact List.getElem_mem _
  rw[b (by omega),a _ c]
theorem zNs (f:Tr->Nat)(parts:List Tr)(u:Tr)(j:Nat)(b:j<=parts.length):xG f (parts++[u]) j=xG f parts j:=by
 induction j with
 |zero=>rfl
 |succ j a=>
  show xG f (parts++[u]) j+f ((parts++[u]).getD j Tr.none)=xG f parts j+f (parts.getD j Tr.none);rw[a (by omega),lW,lW,kW (by omega)]
def zNE (c:Cs):Prop:=c.ranges.length<=10000000/\∀r∈c.ranges,-100<=r.1/\r.1<=20000000/\ -100<=r.2/\r.2<=20000000
def TrOk:Nat->Tr->Prop
 |0,_=>False
 |d+1,t=>zNE t.set/\(∀u∈t.parts,TrOk d u)/\t.chars=xZ (qI (d+1) t)
theorem zHP:∀a t,TrOk a t->qI (a+1) t=qI a t
 |0,_,b=>False.elim b
 |a+1,t,b=>by
  have e:=zKj _ _ _ (λu c=>zHP a u (b.2.1 u c)) _ lQ;show(if t.kind=1 then 1 else if t.kind=2\/t.kind=3 then xG (qI (a+1)) t.parts t.parts.length else if t.kind=4 then t.copies*xG (qI (a+1)) t.parts t.parts.length else 0)=(if t.kind=1 then 1 else if t.kind=2\/t.kind=3 then xG (qI a) t.parts t.parts.length else if t.kind=4 then t.copies*xG (qI a) t.parts t.parts.length else 0);rw[e]
theorem TrOk.deeper:∀b t,TrOk b t->TrOk (b+1) t
 |0,_,a=>False.elim a
 |b+1,t,a=>⟨a.1,λu c=>TrOk.deeper b u (a.2.1 u c),by rw[zHP (b+1) t a];exact a.2.2⟩
theorem TrOk.deep {a e:Nat}{t:Tr}(b:TrOk a t)(c:a<=e):TrOk e t:=by
 induction c with
 |refl=>exact b
 |step _ f=>exact TrOk.deeper _ _ f
theorem TrOk.few {a:Nat}{t:Tr}(b:TrOk a t):t.chars<=25:=by
 cases a with
 |zero=>exact False.elim b
 |succ a=>rw[b.2.2];exact zFb _
theorem TrOk.chars {a:Nat}{t:Tr}(b:TrOk a t):t.chars=xZ (qI a t):=by
 cases a with
 |zero=>exact False.elim b
 |succ a=>exact b.2.2
theorem zGp (o:Bool):zNE ⟨[],o⟩:=⟨by show 0<=_;omega,λr a=>by cases a⟩
theorem zMb (a:Nat):TrOk (a+1) Tr.none:=⟨zGp false,λu b=>(by cases b),rfl⟩
theorem zP3 (a:Nat)(c:Cs)(b:zNE c):TrOk (a+1) (zIk c):=⟨b,λu e=>(by cases e),rfl⟩
theorem zGm {a:Nat}{t:Tr}(b:TrOk a t):TrOk a t.plain:=by
 cases a with
 |zero=>exact False.elim b
 |succ a=>
  unfold Tr.plain;split
  ·exact zMb a
  ·exact b
theorem zKz {a:Nat}{t:Tr}(o:Tm)(b:TrOk a t):TrOk (a+1) (zCn t o):=by
 refine zGm ⟨zGp false,λu c=>?_,?_⟩
 ·rw[kY.1 c];exact b
 ·show xZ (t.chars*o.copies)=xZ (o.copies*(0+qI a t))
  rw[b.chars,zLO,Nat.zero_add,Nat.mul_comm]
theorem zIs (a k:Nat)(b:k=2\/k=3):TrOk (a+1) (zEi k):=by
 refine⟨zGp false,λu c=>(by cases c),?_⟩;rcases b with e|e <;> subst e <;> rfl
theorem zIV {a:Nat}{t u:Tr}(c:TrOk (a+1) t)(e:t.kind=2\/t.kind=3)(f:TrOk a u):TrOk (a+1) (t.add u):=by
 refine⟨c.1,λv g=>?_,?_⟩
 ·rcases kU.1 g with b|b
  ·exact c.2.1 v b
  ·rw[kY.1 b];exact f
 ·have b:t.kind≠1:=by omega
  have j:qI (a+1) t=xG (qI a) t.parts t.parts.length:=by
   show(if t.kind=1 then _ else if t.kind=2\/t.kind=3 then _ else _)=_;rw[if_neg b,if_pos e]
  have l:qI (a+1) (t.add u)=xG (qI a) (t.parts++[u]) (t.parts++[u]).length:=by
   show(if t.kind=1 then _ else if t.kind=2\/t.kind=3 then _ else _)=_;rw[if_neg b,if_pos e];rfl
  have m:(t.parts++[u]).length=t.parts.length+1:=by simp
  have o:(t.parts++[u]).getD t.parts.length Tr.none=u:=by simp
  show xZ (t.chars+u.chars)=xZ (qI (a+1) (t.add u));rw[l,m];show _=xZ (xG (qI a) (t.parts++[u]) t.parts.length+qI a ((t.parts++[u]).getD t.parts.length Tr.none));rw[o,zNs _ _ _ _ lQ,c.2.2,f.chars,zLP,j]
theorem zEE {t u:Tr}(a:t.kind=2\/t.kind=3):(t.add u).kind=2\/(t.add u).kind=3:=a
theorem zGM (s:ByteArray):∀f p l d q,zBC s f p l=some (d,q)->(∀r∈l,-100<=r.1/\r.1<=20000000/\ -100<=r.2/\r.2<=20000000)->p<q/\q<=s.size/\d.length<=l.length+(q-p)/\∀r∈d,-100<=r.1/\r.1<=20000000/\ -100<=r.2/\r.2<=20000000
 |0,_,_,_,_,j,_=>by cases j
 |f+1,p,l,d,q,j,w=>by
  have ⟨m1,m2,A,B,C,E⟩:=zMd s p;have u:∀r∈l++[((yY s p).low,(yY s p).high)],-100<=r.1/\r.1<=20000000/\ -100<=r.2/\r.2<=20000000:=λr x=>by
   rcases kU.1 x with m|m
   ·exact w r m
   ·rw[kY.1 m]
    show -100<=(yY s p).low/\(yY s p).low<=20000000/\ -100<=(yY s p).high/\(yY s p).high<=20000000;omega
  have g:(if (yY s p).ok then(if zK s (yY s p).at_ ⟨#[93]⟩ then some (l++[((yY s p).low,(yY s p).high)],(yY s p).at_+1) else zBC s f (yY s p).at_ (l++[((yY s p).low,(yY s p).high)])) else none)=some (d,q):=j;by_cases o:(yY s p).ok=true
  ·rw[if_pos o] at g
   have F:=m2 o;by_cases t:zK s (yY s p).at_ ⟨#[93]⟩=true
   ·rw[if_pos t] at g
    have e:=hQ g;have v:l++[((yY s p).low,(yY s p).high)]=d:=congrArg Prod.fst e;have G:(yY s p).at_+1=q:=congrArg Prod.snd e;have y:=jA t;rw[zCF] at y;refine⟨by omega,by omega,?_,by rw[<-v];exact u⟩;rw[<-v,kX];show l.length+1<=_;omega
   ·rw[if_neg t] at g
    have ⟨a,b,c,z⟩:=zGM s f _ _ d q g u;refine⟨by omega,b,?_,z⟩;rw[kX] at c;have H:[((yY s p).low,(yY s p).high)].length=1:=rfl;omega
  ·rw[if_neg o] at g
   cases g
theorem zN1 (n:Int)(b:0<=n/\n<=16777216):zNE (zJS n):=⟨by show 1<=_;omega,λr a=>by rw[kY.1 a];show -100<=n/\n<=20000000/\ -100<=n/\n<=20000000;omega⟩
def zOQ (c:Cs):Prop:=c.ranges.length<=3000000/\∀r∈c.ranges,-100<=r.1/\r.1<=20000000/\ -100<=r.2/\r.2<=20000000
theorem zD9 (s:ByteArray)(A:s.size<=1048576)(p:Nat)(c:Cs)(q:Nat)(d:zAl s p=some (c,q)):p<q/\q<=s.size/\zOQ c:=by
 have v:∀n:Int,0<=n/\n<=16777216->zOQ (zJS n):=λn y=>⟨by show 1<=_;omega,(zN1 n y).2⟩
 have B:=yQ s p;unfold zAl at d;split at d
 ·unfold zCZ at d
  cases l:zBC s (s.size+1) (if zK s (p+1) ⟨#[94]⟩ then p+2 else p+1) [] with
  |none=>rw[l] at d;cases d
  |some g=>
   obtain⟨m,w⟩:=g;rw[l] at d;have e:=hQ d;have f:(⟨m,zK s (p+1) ⟨#[94]⟩⟩:Cs)=c:=congrArg Prod.fst e;have o:w=q:=congrArg Prod.snd e;have ⟨a,b,x,t⟩:=zGM s _ _ _ m w l (λr u=>by cases u);have C:([]:List (Int×Int)).length=0:=rfl;have E:p+1<=(if zK s (p+1) ⟨#[94]⟩ then p+2 else p+1):=by split <;> omega
   refine⟨by omega,by omega,?_⟩;rw[<-f];exact⟨by show m.length<=_;omega,t⟩
 split at d
 ·have ⟨a,b,x,t⟩:=zMo s (p+1)
  split at d
  ·rename_i j
   have e:=hQ d;have f:zJS (zBp s (p+1)).num=c:=congrArg Prod.fst e;have o:(zBp s (p+1)).at_=q:=congrArg Prod.snd e;have:=b j;exact⟨by omega,by omega,by rw[<-f];exact v _ ⟨x,t⟩⟩
  ·cases d
 split at d
 ·rename_i F
  have z:p<s.size:=zC0 (by omega);have e:=hQ d;have f:zQd=c:=congrArg Prod.fst e;have o:p+1=q:=congrArg Prod.snd e;refine⟨by omega,by omega,?_⟩;rw[<-f];exact⟨by show 1<=_;omega,λr u=>by rw[kY.1 u];decide⟩
 split at d
 ·rename_i j
  have z:=zC0 λe=>by rw[e] at j;exact absurd j (by decide)
  have e:=hQ d;have f:zJS (byt s p:Nat)=c:=congrArg Prod.fst e;have o:p+1=q:=congrArg Prod.snd e;exact⟨by omega,by omega,by rw[<-f];exact v _ ⟨by omega,by omega⟩⟩
 ·cases d
theorem zJZ (r:Int×Int)(first last a:Int)(d:0<=first)(e:last<=200)(f:-100<=a/\a<=100):∀x∈qO r first last a,-100<=x.1/\x.1<=20000000/\ -100<=x.2/\x.2<=20000000:=λx b=>by
 unfold qO at b;by_cases c:(if first<r.1 then r.1 else first)<=(if r.2<last then r.2 else last)
 ·rw[if_pos c] at b
  rw[kY.1 b];show -100<=(if first<r.1 then r.1 else first)+a/\(if first<r.1 then r.1 else first)+a<=20000000/\ -100<=(if r.2<last then r.2 else last)+a/\(if r.2<last then r.2 else last)+a<=20000000;have g:first<=(if first<r.1 then r.1 else first):=by split <;> omega
  have h:(if r.2<last then r.2 else last)<=last:=by split <;> omega
  omega
 ·rw[if_neg c] at b
  cases b
theorem zOD (both:Bool)(c:Cs)(a:zOQ c):zNE (zMp both c):=by
 unfold zMp;split
 ·have l:=zHR c.ranges
  refine⟨?_,λx g=>?_⟩
  ·show(vA c.ranges).length<=10000000
   have:=a.1;omega
  ·have e:=g
   unfold vA at e;have ⟨r,j,f⟩:=List.mem_flatMap.1 e;unfold zKo at f;rcases List.mem_cons.1 f with b|b
   ·rw[b];exact a.2 r j
   rcases kU.1 b with d|d
   ·exact zJZ r 65 90 32 (by decide) (by decide) ⟨by decide,by decide⟩ x d
   ·exact zJZ r 97 122 (-32) (by decide) (by decide) ⟨by decide,by decide⟩ x d
 ·exact⟨lY a.1 (by omega),a.2⟩
theorem zIG (s:ByteArray)(p:Nat)(o:Tm)(q:Nat)(a:zE6 s p=some (o,q)):p<q/\q<=s.size/\o.least<=300/\o.most<=300:=by
 have fin:∀(c:Tm) (d i:Nat) (x:UInt8),zK s i ⟨#[x]⟩=true->some (c,d)=some (o,q)->d=i+1->p<=i->c.least<=300->c.most<=300->p<q/\q<=s.size/\o.least<=300/\o.most<=300:=λc d i x b e r t f g=>by
  have e:=hQ e;have j:c=o:=congrArg Prod.fst e;have l:d=q:=congrArg Prod.snd e;have m:=jA b;rw[zCF] at m;subst j l;exact⟨by omega,by omega,f,g⟩
 have u:=yQ s (p+1);have v:=yQ s (p+3);unfold zE6 at a;split at a
 ·rename_i b;exact fin _ _ p _ b a rfl (by omega) (by show 0<=300;omega) (by show 0<=300;omega)
 split at a
 ·rename_i b;exact fin _ _ p _ b a rfl (by omega) (by show 1<=300;omega) (by show 0<=300;omega)
 split at a
 ·rename_i b;exact fin _ _ p _ b a rfl (by omega) (by show 0<=300;omega) (by show 1<=300;omega)
 unfold zBW at a;split at a
 ·split at a
  ·rename_i b;exact fin _ _ (p+2) _ b a rfl (by omega) (by show byt s (p+1)-48<=300;omega) (by show byt s (p+1)-48<=300;omega)
  split at a
  ·split at a
   ·rename_i b;exact fin _ _ (p+3) _ b a rfl (by omega) (by show byt s (p+1)-48<=300;omega) (by show 0<=300;omega)
   split at a
   ·split at a
    ·rename_i b;exact fin _ _ (p+4) _ b a rfl (by omega) (by show byt s (p+1)-48<=300;omega) (by show byt s (p+3)-48<=300;omega)
    ·cases a
   ·cases a
  ·cases a
 ·cases a
theorem zF1 (s:ByteArray)(D:Nat):∀f p t u q,zB4 s f p t=some (u,q)->p<=s.size->TrOk (D+4*p) t->p<=q/\q<=s.size/\TrOk (D+4*q) u
 |0,_,_,_,_,l,_,_=>by cases l
 |f+1,p,t,u,q,l,w,r=>by
  have j:(if zBw s p then(match zE6 s p with|none=>none|some (o,q)=>zB4 s f q (zCn t o)) else some (t,p))=some (u,q):=l;split at j
  ·cases m:zE6 s p with
   |none=>rw[m] at j;cases j
   |some g=>
    obtain⟨o,v⟩:=g;rw[m] at j;obtain⟨a,b,-,-⟩:=zIG s p o v m;have ⟨c,x,e⟩:=zF1 s D f v (zCn t o) u q j b ((zKz o r).deep (by omega));exact⟨by omega,x,e⟩
  ·have e:=hQ j
   have y:t=u:=congrArg Prod.fst e;have z:p=q:=congrArg Prod.snd e;subst y z;exact⟨lQ,w,r⟩
def zC6 (s:ByteArray)(D:Nat)(f:Nat->Option (Tr×Nat)):Prop:=∀p t q,f p=some (t,q)->p<q/\q<=s.size/\TrOk (D+4*q) t
theorem zJx (s:ByteArray)(D:Nat)(j:Nat->Option (Tr×Nat))(w:zC6 s D j):∀f p t u q,zCq s j f p t=some (u,q)->(t.kind=2\/t.kind=3)->TrOk (D+1+4*p) t->p<q/\q<=s.size/\TrOk (D+1+4*q) u
 |0,_,_,_,_,m,_,_=>by cases m
 |f+1,p,t,u,q,m,x,z=>by
  have l:(match j p with|none=>none|some (u,q)=>if zCx s q then some ((t.add u).plain,q) else zCq s j f q (t.add u))=some (u,q):=m;cases o:j p with
  |none=>rw[o] at l;cases l
  |some g=>
   obtain⟨v,d⟩:=g;rw[o] at l;have ⟨a,b,c⟩:=w p v d o;have y:TrOk (D+1+4*d) (t.add v):=by
    rw[show D+1+4*d=D+4*d+1 by omega];exact zIV (z.deep (by omega)) x c
   have r:(if zCx s d then some ((t.add v).plain,d) else zCq s j f d (t.add v))=some (u,q):=l;split at r
   ·have e:=hQ r
    have A:(t.add v).plain=u:=congrArg Prod.fst e;have B:d=q:=congrArg Prod.snd e;subst A B;exact⟨a,b,zGm y⟩
   ·have ⟨c1,c2,C⟩:=zJx s D j w f d (t.add v) u q r (zEE x) y
    exact⟨by omega,c2,C⟩
theorem zHO (s:ByteArray)(D:Nat)(row:Nat->Option (Tr×Nat))(r:zC6 s D row):∀f p t u q,zAW s row f p t=some (u,q)->(t.kind=2\/t.kind=3)->TrOk (D+1+4*p) t->p<q/\q<=s.size/\TrOk (D+1+4*q) u
 |0,_,_,_,_,l,_,_=>by cases l
 |f+1,p,t,u,q,l,w,y=>by
  have j:(match row p with|none=>none|some (u,q)=>if zK s q ⟨#[124]⟩ then zAW s row f (q+1) (t.add u) else some ((t.add u).plain,q))=some (u,q):=l;cases m:row p with
  |none=>rw[m] at j;cases j
  |some g=>
   obtain⟨v,d⟩:=g;rw[m] at j;have ⟨a,b,c⟩:=r p v d m;have x:TrOk (D+1+4*d) (t.add v):=by
    rw[show D+1+4*d=D+4*d+1 by omega];exact zIV (y.deep (by omega)) w c
   have o:(if zK s d ⟨#[124]⟩ then zAW s row f (d+1) (t.add v) else some ((t.add v).plain,d))=some (u,q):=j;split at o
   ·have ⟨c1,c2,z⟩:=zHO s D row r f (d+1) (t.add v) u q o (zEE w) (x.deep (by omega))
    exact⟨by omega,c2,z⟩
   ·have e:=hQ o
    have A:(t.add v).plain=u:=congrArg Prod.fst e;have B:d=q:=congrArg Prod.snd e;subst A B;exact⟨a,b,zGm x⟩
def zBM (D:Nat)(defs:List (ByteArray×Tr)):Prop:=∀d∈defs,TrOk D d.2
theorem zC1 (n:ByteArray):(braced n).size=n.size+2:=by
 unfold braced;rw[ByteArray.size_append,ByteArray.size_append,zCF,zCF];omega
theorem zJY (s:ByteArray)(D p:Nat):∀defs t q,zBM D defs->zDw s p defs=some (t,q)->p<q/\q<=s.size/\TrOk D t
 |[],_,_,_,a=>by cases a
 |d::c,t,q,f,a=>by
  have b:(if zK s p (braced d.1) then some (d.2,p+(braced d.1).size) else zDw s p c)=some (t,q):=a;split at b
  ·rename_i g
   have e:=hQ b;have j:d.2=t:=congrArg Prod.fst e;have m:p+(braced d.1).size=q:=congrArg Prod.snd e;have o:=jA g;have r:=zC1 d.1;subst j;exact⟨by omega,by omega,f d hJ⟩
  ·exact zJY s D p c t q (λx l=>f x (List.mem_cons_of_mem _ l)) b
section
variable {s:ByteArray} {D:Nat} {defs:List (ByteArray×Tr)} {k:Nat} {sub:Reads}
theorem zQg (y:∀both,zC6 s (D+2) λp=>sub p both)(both:Bool):zC6 s D λp=>brM s k sub p both:=λp t q z=>by
 have d:brM s k sub p both=some (t,q):=z;unfold brM at d;split at d
 ·cases d
 split at d
 ·rename_i j
  have u:=jA j;have A:(⟨#[40,41]⟩:ByteArray).size=2:=rfl;have e:=hQ d;have l:Tr.none=t:=congrArg Prod.fst e;have m:p+2=q:=congrArg Prod.snd e;subst l m;exact⟨by omega,by omega,by rw[show D+4*(p+2)=D+4*p+7+1 by omega];exact zMb _⟩
 ·have B:p+1<=(if zK s p ⟨#[40,105,58]⟩ then p+3 else p+1):=by split <;> omega
  generalize (if zK s p ⟨#[40,105,58]⟩ then p+3 else p+1)=w at *;generalize (zK s p ⟨#[40,105,58]⟩||both)=x at *;cases o:sub w x with
  |none=>rw[o] at d;cases d
  |some g=>
   obtain⟨v,f⟩:=g;rw[o] at d;have ⟨a,b,c⟩:=y x w v f o;have r:(if zK s f ⟨#[41]⟩ then some (v,f+1) else none)=some (t,q):=d;split at r
   ·rename_i j
    have u:=jA j;rw[zCF] at u;have e:=hQ r;have l:v=t:=congrArg Prod.fst e;have m:f+1=q:=congrArg Prod.snd e;subst l m;exact⟨by omega,by omega,c.deep (by omega)⟩
   ·cases r
theorem zGS (l:s.size<=1048576)(m:zBM D defs)(o:∀both,zC6 s (D+2) λp=>sub p both)(both:Bool):zC6 s D λp=>zEB s defs k sub p both:=λp t q r=>by
 have d:zEB s defs k sub p both=some (t,q):=r;unfold zEB at d;split at d
 ·exact zQg o both p t q d
 split at d
 ·have ⟨a,b,c⟩:=zJY s D p defs t q m d
  exact⟨a,b,c.deep (by omega)⟩
 ·cases j:zAl s p with
  |none=>rw[j] at d;cases d
  |some g=>
   obtain⟨c,f⟩:=g;rw[j] at d;have e:=hQ d;have u:zIk (zMp both c)=t:=congrArg Prod.fst e;have v:f=q:=congrArg Prod.snd e;have ⟨a,b,w⟩:=zD9 s l p c f j;subst u v;exact⟨a,b,by rw[show D+4*f=D+4*f-1+1 by omega];exact zP3 _ _ (zOD both c w)⟩
theorem zEI (j:s.size<=1048576)(l:zBM D defs)(m:∀both,zC6 s (D+2) λp=>sub p both)(both:Bool):zC6 s D λp=>zEJ s defs k sub p both:=λp t q o=>by
 have d:zEJ s defs k sub p both=some (t,q):=o;unfold zEJ at d;cases e:zEB s defs k sub p both with
 |none=>rw[e] at d;cases d
 |some g=>
  obtain⟨v,f⟩:=g;rw[e] at d;have ⟨a,b,c⟩:=zGS j l m both p v f e;have ⟨r,b2,c2⟩:=zF1 s D _ f v t q d b c;exact⟨by omega,b2,c2⟩
theorem zH7 (a:s.size<=1048576)(b:zBM D defs)(c:∀both,zC6 s (D+2) λp=>sub p both)(both:Bool):zC6 s (D+1) λp=>zQB s defs k sub p both:=λp t q d=>zJx s D _ (zEI a b c both) _ p (zEi 2) t q d (.inl rfl) (by rw[show D+1+4*p=D+4*p+1 by omega];exact zIs _ 2 (.inl rfl))
theorem zKh (a:s.size<=1048576)(b:zBM D defs)(c:∀both,zC6 s (D+2) λp=>sub p both)(both:Bool):zC6 s (D+2) λp=>zOw s defs k sub p both:=λp t q d=>zHO s (D+1) _ (zH7 a b c both) _ p (zEi 3) t q d (.inr rfl) (by rw[show D+1+1+4*p=D+4*p+1+1 by omega];exact zIs _ 3 (.inr rfl))
theorem zAF (a:s.size<=1048576)(b:zBM D defs):∀k both,zC6 s (D+2) λp=>zCk s defs k p both
 |0,both=>zKh a b (λ_ p t q c=>by cases c) both
 |k+1,both=>zKh a b (zAF a b k) both
end
end
section
variable (w:World) (b:Nat) (s:ByteArray) (dv:Value) (r:Rx) (t:RxAt w b s dv r)
theorem zOZ {w w2:World}{b:Nat}(e:b<w.heap.size)(a:Keep (w.heap.size+1) b (w.alloc (.cells #[nX,bool false] 161)) w2):w2.heap[w.heap.size]? =some (.cells #[nX,bool false] 161)/\w2.cell? ⟨w.heap.size,0,none⟩=some nX/\w2.cell? ⟨w.heap.size,1,none⟩=some (bool false)/\w2.frozen? ⟨w.heap.size,0,none⟩=false/\w2.frozen? ⟨w.heap.size,1,none⟩=false/\Keep w.heap.size b w w2:=by
 have d:=gZ w (.cells #[nX,fX] 161);have c:=(a.block w.heap.size (by omega) (by omega)).trans d;refine⟨c,?_,?_,?_,?_,(kZ (H:=w.heap.size) (b:=b) _ _ lQ).trans ⟨a.os,a.output,a.size,λk d c=>a.block k (by omega) c⟩⟩
 all_goals first|(unfold cell?;rw[c];rfl)|(unfold frozen?;rw[c];simp)
theorem zOG {w1:World}{b:Nat}{s:ByteArray}{dv:Value}{r:Rx}(a:RxAt w1 b s dv r):∃w2,w2=w1.setCell ⟨b,2,none⟩ (iX ((r.at_:Int)+1))/\RxAt w2 b s dv {r with at_:=r.at_+1}/\(∀H,Keep H b w1 w2)/\w1.cell? ⟨b,2,none⟩=some (iX (r.at_:Int))/\w1.frozen? ⟨b,2,none⟩=false:=
 ⟨_,rfl,a.setAt (r.at_+1),λH=>Keep.set _ _ _,a.cells.2.2.1,a.cells.2.2.2.2.2 2⟩
theorem zAB {w:World}{b:Nat}{s:ByteArray}{dv:Value}{r:Rx}(a:RxAt w b s dv r)(d:s.size<=1048576)(g:r.at_<=s.size):∃w1,w1=w.alloc (.cells #[nX,bool false] 161)/\RxAt w1 b s dv r/\Hid (∀w2,Keep (w.heap.size+1) b w1 w2->w2.heap[w.heap.size]? =some (.cells #[nX,bool false] 161)/\w2.cell? ⟨w.heap.size,0,none⟩=some nX/\w2.cell? ⟨w.heap.size,1,none⟩=some (bool false)/\w2.frozen? ⟨w.heap.size,0,none⟩=false/\w2.frozen? ⟨w.heap.size,1,none⟩=false/\Keep w.heap.size b w w2)/\Hid (w1.heap.size=w.heap.size+1)/\Hid (b<w.heap.size)/\Hid (Calls prog 200 #[pX b,zX] w1 λe w'=>e=returned (int .u8 (byt s r.at_:Nat))/\w'=w1):=
 have c:=RxAt.of_block a (lG _ _ _ a.lt)
 ⟨_,rfl,c,λw2 f=>zOZ a.lt f,by show _=_;simp,a.lt,(zIh d (by omega)) _ c⟩
theorem zP0 (t:RxAt w b s dv r)(c:s.size<=1048576)(u:r.at_<=s.size)(d:byt s r.at_=91)(f:zCZ s r.at_=none):
  Calls prog 203 #[pX b] w (zAX w b s dv r (zAl s r.at_)):=by
 have ⟨w1,g,x,y,z,A,j⟩:=zAB t c u;have B:Hid (zAl s r.at_=none):=by show _=_;unfold zAl;rw[if_pos d,f]
 have k:=vl (zFx w1 b s dv r x c (zC0 (by omega)));rw[f] at k;rw[B.out];rw[d] at j;go_in;apply wp_cut;intro L C;go_wp2;apply C.out;rw[<-g];clear g;go_wp2_with (first|(go_at_call 200;refine j.mono ?_;rintro e M ⟨rfl,D⟩;have E:=D.symm;subst E)|(go_at_call 208;refine k.mono ?_;rintro e w2 ⟨F,v,n,a,o,q,rfl,G⟩;have H:=vl G;have ⟨l,c0,c1,N,O,m⟩:=y w2 (by rw[<-z.out];exact F);have ⟨P,I,J,K,p⟩:=jK w w2 b s dv {r with at_:=q} _ _ (slice v n a) (o) A l H m;clear l m))
 rw[<-I];refine gU (v:=tuple #[agg #[slice v n a,bool (o)],fX]) (by simp[results,results203,go_sem,J,K]) rfl ?_;exact⟨p.2.1,v,n,a,o,q,rfl,p.1⟩
theorem zPZ (y:RxAt w b s dv r)(d:s.size<=1048576)(z:r.at_<=s.size)(f:byt s r.at_=91)(c:Cs)(q:Nat)(g:zCZ s r.at_=some (c,q)):
  Calls prog 203 #[pX b] w (zAX w b s dv r (zAl s r.at_)):=by
 have ⟨w1,j,A,B,k,C,l⟩:=zAB y d z;have D:Hid (zAl s r.at_=some (c,q)):=by show _=_;unfold zAl;rw[if_pos f,g]
 have m:=vl (zFx w1 b s dv r A d (zC0 (by omega)));rw[g] at m;rw[D.out];rw[f] at l;go_in;apply wp_cut;intro O o;go_wp2;apply o.out;clear o;rw[<-j];clear j;go_wp2_with (first|(go_at_call 200;refine l.mono ?_;rintro e P ⟨rfl,E⟩;have F:=E.symm;subst F)|(go_at_call 208;refine m.mono ?_;rintro e w2 ⟨G,u,rfl,p,H⟩;obtain⟨ao,cap,I,-⟩:=p.at;subst I;have J:=vl H;have K:Hid (RangesIn (λi=>w.heap.size<i) w2 (slice ao c.ranges.length cap) c.ranges):=p.mono (λi _ R=>by have:=k.out;omega);have ⟨t,c0,c1,S,T,x⟩:=B w2 (by rw[<-k.out];exact G);have ⟨U,L,M,N,a⟩:=jK w w2 b s dv {r with at_:=q} _ _ (slice ao c.ranges.length cap) (c.others) C t J x;clear t x))
 rw[<-L];refine gU (v:=tuple #[agg #[slice ao c.ranges.length cap,bool (c.others)],tX]) (by simp[results,results203,go_sem,M,N]) rfl ?_;exact⟨a.2.1,_,rfl,a.2.2 _ K,a.1⟩
theorem zPX (q:RxAt w b s dv r)(t:s.size<=1048576)(H:r.at_<=s.size)(d:byt s r.at_=92)(a:Sg)(f:zBp s (r.at_+1)=a)(j:a.ok=true):
  Calls prog 203 #[pX b] w (zAX w b s dv r (zAl s r.at_)):=by
 have ⟨w1,x,l,I,m,J,y⟩:=zAB q t H;have z:Hid (zAl s r.at_=some (zJS a.num,a.at_)):=by show _=_;unfold zAl;rw[if_neg (by omega),if_pos d,f,j];rfl
 have A:=vl (zCj w1 b s dv r l t (by omega));rw[f,j] at A;rw[z.out];rw[d] at y;clear z d f j;clear q l;go_in;apply wp_cut;intro V B;go_wp2;apply B.out;clear B;rw[<-x];clear x;go_wp2_with (first|(go_at_call 200;refine y.mono ?_;rintro e W ⟨rfl,K⟩;have L:=K.symm;subst L)|(go_at_call 209;refine A.mono ?_;rintro e w2 ⟨rfl,C,D⟩)|(go_at_call 210;refine(zES w2 a.num).mono ?_;rintro e o ⟨u,rfl,⟨g,M,rfl,N⟩,c⟩;have O:=(D 0).size;have E:b<w2.heap.size:=C.lt;have P:=vl <| RxAt.of_block C (c.block b E (by omega));have R:Hid (RangesIn (λi=>w.heap.size<i) o (slice (qX g) 1 1) [(a.num,a.num)]):=zIj N (by have:=m.out;omega);have ⟨F,c0,c1,X,Y,G⟩:=I o ((D _).trans ⟨c.os,c.output,c.size,λk l _=>c.block k (by have:=m.out;omega) (by have:=m.out;omega)⟩);have ⟨aa,S,T,U,p⟩:=jK w o b s dv {r with at_:=a.at_} _ _ (slice (qX g) 1 1) (false) J F P G;clear F G;clear O E M))
 rw[<-S];refine gU (v:=tuple #[agg #[slice (qX g) 1 1,bool (false)],tX]) (by simp[results,results203,go_sem,T,U]) rfl ?_;exact⟨p.2.1,_,rfl,p.2.2 _ R,p.1⟩
theorem zPY (F:RxAt w b s dv r)(f:s.size<=1048576)(G:r.at_<=s.size)(j:byt s r.at_=92)(a:Sg)(l:zBp s (r.at_+1)=a)(m:a.ok=false):
  Calls prog 203 #[pX b] w (zAX w b s dv r (zAl s r.at_)):=by
 have ⟨w1,o,p,H,d,I,q⟩:=zAB F f G;have J:Hid (zAl s r.at_=none):=by show _=_;unfold zAl;rw[if_neg (by omega),if_pos j,l,m];rfl
 have t:=vl (zCj w1 b s dv r p f (by omega));rw[l,m] at t;rw[J.out];rw[j] at q;go_in;apply wp_cut;intro U x;go_wp2;apply x.out;clear x;rw[<-o];clear o;go_wp2_with (first|(go_at_call 200;refine q.mono ?_;rintro e V ⟨rfl,K⟩;have L:=K.symm;subst L)|(go_at_call 209;refine t.mono ?_;rintro e w2 ⟨rfl,y,z⟩)|(go_at_call 210;refine(zES w2 a.num).mono ?_;rintro e A ⟨u,rfl,⟨g,M,rfl,N⟩,c⟩;have O:=(z 0).size;have B:b<w2.heap.size:=y.lt;have P:=vl <| RxAt.of_block y (c.block b B (by omega));have W:=vl <| zIj N (by have:=d.out;omega);have ⟨C,c0,c1,X,Y,D⟩:=H A ((z _).trans ⟨c.os,c.output,c.size,λk p _=>c.block k (by have:=d.out;omega) (by have:=d.out;omega)⟩);have ⟨aa,R,S,T,E⟩:=jK w A b s dv {r with at_:=a.at_} _ _ (slice (qX g) 1 1) (false) I C P D;clear C D;clear O B M))
 rw[<-R];refine gU (v:=tuple #[agg #[slice (qX g) 1 1,bool (false)],fX]) (by simp[results,results203,go_sem,S,T]) rfl ?_;exact⟨E.2.1,some ⟨g,0,none⟩,1,1,false,a.at_,rfl,E.1⟩
theorem zQA (m:RxAt w b s dv r)(C:s.size<=1048576)(D:r.at_<=s.size)(c:byt s r.at_=46):
  Calls prog 203 #[pX b] w (zAX w b s dv r (zAl s r.at_)):=by
 have ⟨w1,o,d,E,f,F,p⟩:=zAB m C D;have q:Hid (zAl s r.at_=some (zQd,r.at_+1)):=by show _=_;unfold zAl;rw[if_neg (by omega),if_neg (by omega),if_pos c]
 rw[q.out];have ⟨w2,G,t,x,c2,S⟩:=zOG d;rw[c] at p;clear c;clear q;clear m d;go_in;apply wp_cut;intro T y;go_wp2;apply y.out;clear y;rw[<-o];clear o;go_wp2_with (first|(go_at_call 200;refine p.mono ?_;rintro e U ⟨rfl,H⟩;have I:=H.symm;subst I)|(rw [<-G];go_at_call 211;refine(zNl w2).mono ?_;rintro e j ⟨u,rfl,⟨g,J,rfl,K⟩,a⟩;have L:=(x 0).size;have z:b<w2.heap.size:=t.lt;have M:=vl <| RxAt.of_block t (a.block b z (by omega));have N:Hid (RangesIn (λi=>w.heap.size<i) j (slice (qX g) 1 1) [(10,10)]):=zIj K (by have:=f.out;omega);have ⟨A,c0,c1,V,W,B⟩:=E j ((x _).trans ⟨a.os,a.output,a.size,λk d _=>a.block k (by have:=f.out;omega) (by have:=f.out;omega)⟩);have ⟨X,O,P,R,l⟩:=jK w j b s dv {r with at_:=r.at_+1} _ _ (slice (qX g) 1 1) (true) F A M B;clear A B;clear L z J))
 rw[<-O];refine gU (v:=tuple #[agg #[slice (qX g) 1 1,bool (true)],tX]) (by simp[results,results203,go_sem,P,R]) rfl ?_;exact⟨l.2.1,_,rfl,l.2.2 _ N,l.1⟩
theorem zQy (t:RxAt w b s dv r)(K:s.size<=1048576)(L:r.at_<=s.size)(c:Nat)(d:byt s r.at_=c)(x:c≠91)(y:c≠92)(z:c≠46)(f:zBl c=true):
  Calls prog 203 #[pX b] w (zAX w b s dv r (zAl s r.at_)):=by
 have ⟨w1,A,j,M,l,N,B⟩:=zAB t K L;have C:Hid (zAl s r.at_=some (zJS (c:Nat),r.at_+1)):=by show _=_;unfold zAl;rw[d,if_neg x,if_neg y,if_neg z,if_pos f]
 rw[C.out];have ⟨w2,O,D,E,c2,ab⟩:=zOG j;have P:=yQ s r.at_;rw[d] at B P;have F:=vl λw=>zDB w c;rw[f] at F;have ac:((c:Int)==91)=false:=by rw[hX];omega
 have ad:((c:Int)==92)=false:=by rw[hX];omega
 have ae:((c:Int)==46)=false:=by rw[hX];omega
 clear d x y z f;clear C;clear t j;go_in;apply wp_cut;intro af G;go_wp2;apply G.out;clear G;rw[<-A];clear A;go_wp2_with (first|(go_at_call 200;refine B.mono ?_;rintro e R ⟨rfl,m⟩;have o:=m.symm;subst o)|(go_at_call 212;refine(F _).mono ?_;rintro e R ⟨rfl,m⟩;have o:=m.symm;subst o)|(rw [<-O];go_at_call 210;refine(zES w2 (c:Int)).mono ?_;rintro e p ⟨u,rfl,⟨g,S,rfl,T⟩,a⟩;have U:=(E 0).size;have H:b<w2.heap.size:=D.lt;have V:=vl <| RxAt.of_block D (a.block b H (by omega));have W:Hid (RangesIn (λi=>w.heap.size<i) p (slice (qX g) 1 1) [((c:Int),(c:Int))]):=zIj T (by have:=l.out;omega);have ⟨I,c0,c1,ag,ah,J⟩:=M p ((E _).trans ⟨a.os,a.output,a.size,λk j _=>a.block k (by have:=l.out;omega) (by have:=l.out;omega)⟩);have ⟨ai,X,Y,aa,q⟩:=jK w p b s dv {r with at_:=r.at_+1} _ _ (slice (qX g) 1 1) (false) N I V J;clear I J;clear U H S))
 rw[<-X];refine gU (v:=tuple #[agg #[slice (qX g) 1 1,bool (false)],tX]) (by simp[results,results203,go_sem,Y,aa]) rfl ?_;exact⟨q.2.1,_,rfl,q.2.2 _ W,q.1⟩
theorem zQz (p:RxAt w b s dv r)(q:s.size<=1048576)(t:r.at_<=s.size)(c:Nat)(f:byt s r.at_=c)(u:c≠91)(x:c≠92)(y:c≠46)(g:zBl c=false):
  Calls prog 203 #[pX b] w (zAX w b s dv r (zAl s r.at_)):=by
 have ⟨w1,j,z,A,L,B,k⟩:=zAB p q t;have C:Hid (zAl s r.at_=none):=by show _=_;unfold zAl;rw[f,if_neg u,if_neg x,if_neg y,if_neg (by rw[g];decide)]
 rw[C.out];have D:=yQ s r.at_;rw[f] at k D;have l:=vl λw=>zDB w c;rw[g] at l;have M:((c:Int)==91)=false:=by rw[hX];omega
 have N:((c:Int)==92)=false:=by rw[hX];omega
 have O:((c:Int)==46)=false:=by rw[hX];omega
 have E:=vl z;have ⟨F,c0,c1,P,R,G⟩:=A w1 (Keep.refl _ _ _);have ⟨S,H,I,J,m⟩:=jK w w1 b s dv r _ _ nX false B F E G;go_in;apply wp_cut;intro T o;go_wp2;apply o.out;clear o;rw[<-j];clear j;go_wp2_with (first|(go_at_call 200;refine k.mono ?_;rintro e K ⟨rfl,a⟩;have d:=a.symm;subst d)|(go_at_call 212;refine(l _).mono ?_;rintro e K ⟨rfl,a⟩;have d:=a.symm;subst d))
 rw[<-H];refine gU (v:=tuple #[agg #[nX,bool (false)],fX]) (by simp[results,results203,go_sem,I,J]) rfl ?_;exact⟨m.2.1,none,0,0,false,r.at_,rfl,m.1⟩
theorem zEM (a:RxAt w b s dv r)(d:s.size<=1048576)(e:r.at_<=s.size):
  Calls prog 203 #[pX b] w (zAX w b s dv r (zAl s r.at_)):=by
 by_cases f:byt s r.at_=91
 ·cases l:zCZ s r.at_ with
  |none=>exact zP0 w b s dv r a d e f l
  |some g=>
   obtain⟨c,q⟩:=g;exact zPZ w b s dv r a d e f c q l
 by_cases j:byt s r.at_=92
 ·cases m:(zBp s (r.at_+1)).ok with
  |true=>exact zPX w b s dv r a d e j _ rfl m
  |false=>exact zPY w b s dv r a d e j _ rfl m
 by_cases k:byt s r.at_=46
 ·exact zQA w b s dv r a d e k
 cases o:zBl (byt s r.at_) with
 |true=>exact zQy w b s dv r a d e _ rfl f j k o
 |false=>exact zQz w b s dv r a d e _ rfl f j k o
end
section
variable {a w:World} {b x n:Nat} {s:ByteArray} {dv:Value} {r:Rx}
def zOL (w:World)(b:Nat)(s:ByteArray)(dv:Value)(r:Rx)(a:Option (Tm×Nat))(e:Ending)(w':World):Prop:=
 Keep w.heap.size b w w'/\match a with
 |none=>∃q,e=returned (tuple #[agg #[int i64 0,int i64 0,bool false],bool false])/\RxAt w' b s dv {r with at_:=q}
 |some (o,q)=>e=returned (tuple #[agg #[int i64 (o.least:Int),int i64 (o.most:Int),bool o.endless],bool true])/\RxAt w' b s dv {r with at_:=q}
theorem qT (w w2:World)(b:Nat)(s:ByteArray)(dv:Value)(r:Rx)(n m:Int)(o:Bool)(j:b<w.heap.size)(c:Hid (Keep w.heap.size b w w2/\w2.heap[w.heap.size]? =some (.cells #[zX,zX,bool false] 163)))(e:RxAt w2 b s dv r):
  ∃a,a=((w2.setCell ⟨w.heap.size,0,none⟩ (iX n)).setCell ⟨w.heap.size,1,none⟩ (iX m)).setCell ⟨w.heap.size,2,none⟩ (bool o)/\a.cell? ⟨w.heap.size,0,none⟩=some (iX n)/\a.cell? ⟨w.heap.size,1,none⟩=some (iX m)/\a.cell? ⟨w.heap.size,2,none⟩=some (bool o)/\Hid (RxAt a b s dv r/\Keep w.heap.size b w a):=by
 have f:(((w2.setCell ⟨w.heap.size,0,none⟩ (iX n)).setCell ⟨w.heap.size,1,none⟩ (iX m)).setCell ⟨w.heap.size,2,none⟩ (bool o)).heap[w.heap.size]? =some (.cells #[iX n,iX m,bool o] 163):=by
  simp[setCell,lU,c.out.2]
 have d:∀i,i≠w.heap.size->(((w2.setCell ⟨w.heap.size,0,none⟩ (iX n)).setCell ⟨w.heap.size,1,none⟩ (iX m)).setCell ⟨w.heap.size,2,none⟩ (bool o)).heap[i]? =w2.heap[i]? :=λi g=>by
  simp[setCell,lU,Ne.symm g]
 refine⟨_,rfl,?_,?_,?_,RxAt.of_block e (d b (by omega)),c.1.trans ⟨rfl,rfl,by simp[World.setCell],λk l _=>d k (by omega)⟩⟩
 all_goals (unfold cell?;rw[f];rfl)
theorem zMD {w w2:World}{b:Nat}(e:b<w.heap.size)(a:Keep (w.heap.size+1) b (w.alloc (.cells #[zX,zX,bool false] 163)) w2):Hid (Keep w.heap.size b w w2/\w2.heap[w.heap.size]? =some (.cells #[zX,zX,bool false] 163))/\w2.cell? ⟨w.heap.size,0,none⟩=some zX/\w2.cell? ⟨w.heap.size,1,none⟩=some zX/\w2.cell? ⟨w.heap.size,2,none⟩=some (bool false)/\w2.frozen? ⟨w.heap.size,0,none⟩=false/\w2.frozen? ⟨w.heap.size,1,none⟩=false/\w2.frozen? ⟨w.heap.size,2,none⟩=false:=by
 have d:=gZ w (.cells #[zX,zX,fX] 163);have c:=(a.block w.heap.size (by omega) (by omega)).trans d;refine⟨⟨(kZ (H:=w.heap.size) (b:=b) _ _ lQ).trans ⟨a.os,a.output,a.size,λk d c=>a.block k (by omega) c⟩,c⟩,?_,?_,?_,?_,?_,?_⟩
 all_goals first|(unfold cell?;rw[c];rfl)|(unfold frozen?;rw[c];simp)
theorem zDS {c:Nat}(a:yN c=true):zBJ c=((c-48:Nat):Int)/\48<=c/\c<=52:=by
 have b:48<=c:=by
  unfold yN xT at a;rw[Bool.and_eq_true,Bool.and_eq_true] at a;exact of_decide_eq_true a.1.1
 have d:c<=52:=by
  unfold yN at a;rw[Bool.and_eq_true] at a;exact of_decide_eq_true a.2
 exact⟨by unfold zBJ;rw[if_pos a];omega,b,d⟩
theorem zQL (c:yN (byt s x)=true)(d:Hid (byt s x-48=n))(f:RxAt w b s dv {r with at_:=x})(g:∀H,Keep H b a w)(j:s.size<=1048576)(k:x<=2000000):
  Calls prog 214 #[pX b] w λe w'=>e=returned (iX (n:Int))/\RxAt w' b s dv {r with at_:=x+1}/\∀H,Keep H b a w':=by
 refine(zFw w b s dv {r with at_:=x} f j k).mono ?_;rintro e w' ⟨rfl,l,m⟩;refine⟨by rw[(zDS c).1,<-d.out],?_,λH=>(g H).trans (m H)⟩;have e:(({r with at_:=x}:Rx).on (yN (byt s x)))={r with at_:=x+1}:=by rw[c];rfl
 rw[<-e];exact l
theorem zQM (c:yN (byt s x)=false)(d:RxAt w b s dv {r with at_:=x})(f:∀H,Keep H b a w)(g:s.size<=1048576)(j:x<=2000000):
  Calls prog 214 #[pX b] w λe w'=>e=returned (iX (-1))/\RxAt w' b s dv {r with at_:=x}/\∀H,Keep H b a w':=by
 refine(zFw w b s dv {r with at_:=x} d g j).mono ?_;rintro e w' ⟨rfl,k,l⟩;refine⟨by unfold zBJ;rw[if_neg (by rw[c];decide)],?_,λH=>(f H).trans (l H)⟩;have e:(({r with at_:=x}:Rx).on (yN (byt s x)))={r with at_:=x}:=by rw[c];rfl
 rw[<-e];exact k
theorem zFg (a:RxAt w b s dv r):∃w1,w1=w.alloc (.cells #[zX,zX,bool false] 163)/\RxAt w1 b s dv {r with at_:=r.at_}/\Hid (∀w2,Keep (w.heap.size+1) b w1 w2->Hid (Keep w.heap.size b w w2/\w2.heap[w.heap.size]? =some (.cells #[zX,zX,bool false] 163))/\w2.cell? ⟨w.heap.size,0,none⟩=some zX/\w2.cell? ⟨w.heap.size,1,none⟩=some zX/\w2.cell? ⟨w.heap.size,2,none⟩=some (bool false)/\w2.frozen? ⟨w.heap.size,0,none⟩=false/\w2.frozen? ⟨w.heap.size,1,none⟩=false/\w2.frozen? ⟨w.heap.size,2,none⟩=false)/\Hid (w1.heap.size=w.heap.size+1)/\Hid (b<w.heap.size):=⟨_,rfl,RxAt.of_block a (lG _ _ _ a.lt),λw2 c=>zMD a.lt c,by show _=_;simp,a.lt⟩
theorem zMB {w1:World}{b:Nat}{s:ByteArray}{dv:Value}{r:Rx}(a:RxAt w1 b s dv {r with at_:=r.at_}):∃w2,w2=w1.setCell ⟨b,2,none⟩ (iX ((r.at_:Int)+1))/\RxAt w2 b s dv {r with at_:=r.at_+1}/\(∀H,Keep H b w1 w2)/\w1.cell? ⟨b,2,none⟩=some (iX (r.at_:Int))/\w1.frozen? ⟨b,2,none⟩=false:=
 ⟨_,rfl,a.setAt (r.at_+1),λH=>Keep.set _ _ _,a.cells.2.2.1,a.cells.2.2.2.2.2 2⟩
theorem zHj (w:World)(b:Nat)(s:ByteArray)(dv:Value)(r:Rx)(A:RxAt w b s dv r)(o:s.size<=1048576)(M:r.at_<=s.size):
  Calls prog 207 #[pX b] w (zOL w b s dv r (zBW s r.at_)):=by
 have ⟨w1,B,p,E,N,q⟩:=zFg A;have ⟨w2,C,c,d,F,G⟩:=zMB p;clear A p;go_in;apply wp_cut;intro H l;go_wp2;apply l.out;clear l;rw[<-B];clear B;apply wp_cut;intro H l;go_wp2;apply l.out;clear l;rw[<-C];clear C F G;obtain⟨v,D⟩:∃v,v=w2:=⟨_,rfl⟩
 rw[<-D] at c d ⊢;clear D;unfold zBW;obtain⟨n,u⟩:∃n,byt s (r.at_+1)-48=n:=⟨_,rfl⟩
 obtain⟨m,x⟩:∃m,byt s (r.at_+3)-48=m:=⟨_,rfl⟩
 rw[u,x];have I:=yQ s (r.at_+1);rcases p:yN (byt s (r.at_+1)) with _|_;rotate_left;have J:=(zDS p).2;have O:n<=4:=by omega
 rw[if_pos rfl];rcases P:zK s (r.at_+2) ⟨#[125]⟩ with _|_;rw[if_neg (by decide)];rcases R:zK s (r.at_+2) ⟨#[44]⟩ with _|_;rotate_left;rw[if_pos rfl];rcases S:zK s (r.at_+3) ⟨#[125]⟩ with _|_;rw[if_neg (by decide)];rcases K:yN (byt s (r.at_+3)) with _|_;rotate_left;have q2:=(zDS K).2;have T:m<=4:=by omega
 rcases y:decide (byt s (r.at_+1)<=byt s (r.at_+3)) with _|_;rotate_left;rw[if_pos (show (true&&true)=true from rfl)];rcases U:zK s (r.at_+4) ⟨#[125]⟩ with _|_
 all_goals
  try have L:(n:Int)<=(m:Int):=by have:=of_decide_eq_true y;omega
  try have L:(m:Int)<(n:Int):=by have:=of_decide_eq_false y;omega
  have V:=vl u;have W:=vl x;clear u x I
  try clear J
  try clear q2
  try clear y
  go_wp2_with ((first|(go_at_call 189;(first|refine(zPR (by assumption) c d o (by omega)).mono ?_|refine(zPQ (by assumption) c d o (by omega)).mono ?_))|(go_at_call 214;(first|refine(zQM (by assumption) c d o (by omega)).mono ?_|refine(zQL (by assumption) (by assumption) c d o (by omega)).mono ?_)));rintro e v ⟨rfl,c,d⟩;have ⟨t,c0,c1,c2,X,Y,aa⟩:=E v (d _))
  first
  |(have ⟨z,f,g,j,k,a⟩:=qT w v b s dv _ 0 0 false q t c;rw[<-f];refine gU (v:=tuple #[agg #[zX,zX,fX],fX]) (by simp[results,results207,go_sem,g,j,k]) rfl ?_;exact⟨a.2,_,rfl,a.1⟩)
  |(have ⟨z,f,g,j,k,a⟩:=qT w v b s dv _ n n false q t c;rw[<-f];refine gU (v:=tuple #[agg #[iX n,iX n,fX],tX]) (by simp[results,results207,go_sem,g,j,k]) rfl ?_;exact⟨a.2,rfl,a.1⟩)
  |(have ⟨z,f,g,j,k,a⟩:=qT w v b s dv _ n 0 true q t c;rw[<-f];refine gU (v:=tuple #[agg #[iX n,zX,tX],tX]) (by simp[results,results207,go_sem,g,j,k]) rfl ?_;exact⟨a.2,rfl,a.1⟩)
  |(have ⟨z,f,g,j,k,a⟩:=qT w v b s dv _ n m false q t c;rw[<-f];refine gU (v:=tuple #[agg #[iX n,iX m,fX],tX]) (by simp[results,results207,go_sem,g,j,k]) rfl ?_;exact⟨a.2,rfl,a.1⟩)
theorem zGB (w:World)(b:Nat)(s:ByteArray)(dv:Value)(r:Rx)(x:RxAt w b s dv r)(B:s.size<=1048576)(K:r.at_<=s.size):
  Calls prog 198 #[pX b] w (zOL w b s dv r (zE6 s r.at_)):=by
 have E:Hid (∀w,RxAt w b s dv r->Ca 207 #[pX b] w (zOL w b s dv r (zBW s r.at_))):=λw x=>zHj w b s dv r x B K;have ⟨v,F,d,C,G,t⟩:=zFg x;have m:∀H,Keep H b v v:=λH=>⟨rfl,rfl,lQ,λk _ _=>rfl⟩
 clear x;go_in;apply wp_cut;intro P I;go_wp2;apply I.out;clear I;rw[<-F];clear F;unfold zE6;obtain⟨v0,D⟩:∃v0,v0=v:=⟨_,rfl⟩
 rw[<-D] at C G;have m:∀H,Keep H b v0 v:=by rw[D];exact m
 clear D;rcases L:zK s r.at_ ⟨#[42]⟩ with _|_;rcases J:zK s r.at_ ⟨#[43]⟩ with _|_;rcases R:zK s r.at_ ⟨#[63]⟩ with _|_;rw[if_neg (by decide),if_neg (by decide),if_neg (by decide)];have y:∃a,zBW s r.at_=a:=⟨_,rfl⟩
 obtain⟨a,y⟩:=y;rw[y] at E ⊢;clear y;rcases a with _|⟨o,q⟩
 all_goals
  go_wp2_with (first|(go_at_call 189;(first|refine(zPR (by assumption) d m B (by omega)).mono ?_|refine(zPQ (by assumption) d m B (by omega)).mono ?_);rintro e v ⟨rfl,d,m⟩;have ⟨p,c0,c1,c2,M,N,O⟩:=C v (m _))|(go_at_call 207;refine(E v d).mono ?_;(first|rintro e z ⟨u,q,rfl,d⟩|rintro e z ⟨u,rfl,d⟩);have ⟨p,c0,c1,c2,M,N,O⟩:=C z ((m _).trans ⟨u.os,u.output,u.size,λk L J=>u.block k (by have:=G.out;have:=(m 0).size;omega) J⟩)))
  first
  |(have ⟨A,f,g,j,l,c⟩:=qT w z b s dv _ 0 0 false t p d;rw[<-f];refine gU (v:=tuple #[agg #[zX,zX,fX],fX]) (by simp[results,results198,go_sem,g,j,l]) rfl ?_;exact⟨c.2,_,rfl,c.1⟩)
  |(have ⟨A,f,g,j,l,c⟩:=qT w z b s dv _ o.least o.most o.endless t p d;rw[<-f];refine gU (v:=tuple #[agg #[iX o.least,iX o.most,bool o.endless],tX]) (by simp[results,results198,go_sem,g,j,l]) rfl ?_;exact⟨c.2,rfl,c.1⟩)
  |(have ⟨A,f,g,j,l,c⟩:=qT w v b s dv _ 0 0 true t p d;rw[<-f];refine gU (v:=tuple #[agg #[zX,zX,tX],tX]) (by simp[results,results198,go_sem,g,j,l]) rfl ?_;exact⟨c.2,rfl,c.1⟩)
  |(have ⟨A,f,g,j,l,c⟩:=qT w v b s dv _ 1 0 true t p d;rw[<-f];refine gU (v:=tuple #[agg #[iX 1,zX,tX],tX]) (by simp[results,results198,go_sem,g,j,l]) rfl ?_;exact⟨c.2,rfl,c.1⟩)
  |(have ⟨A,f,g,j,l,c⟩:=qT w v b s dv _ 0 1 false t p d;rw[<-f];refine gU (v:=tuple #[agg #[zX,iX 1,fX],tX]) (by simp[results,results198,go_sem,g,j,l]) rfl ?_;exact⟨c.2,rfl,c.1⟩)
end
theorem zG9 (w:World)(X:Nat->Prop)(u:Value)(c:Cs)(j:RangesIn X w u c.ranges):
  Calls prog 205 #[agg #[u,bool c.others]] w λe w'=>∃p,e=returned (pX p)/\(∀f,TreeIn (λi=>(X i/\i<w.heap.size)\/w.heap.size<=i) w' (f+1) p (zIk c))/\Grew w w':=by
 obtain⟨ao,cap,rfl,-⟩:=j.at
 obtain⟨w2,l,m,o⟩:∃w2,w2=(w.alloc (Obj.cells #[slice ao c.ranges.length cap,bool c.others] 161)).alloc (Obj.cells #[iX 1,slice ao c.ranges.length cap,bool c.others,nX,zX,zX,fX,iX 1] 165)/\Hid (∀f,TreeIn (λi=>(X i/\i<w.heap.size)\/w.heap.size<=i) w2 (f+1) (w.heap.size+1) (zIk c))/\Hid (Grew w w2):=by
  have s1:(w.alloc (Obj.cells #[slice ao c.ranges.length cap,bool c.others] 161)).heap.size=w.heap.size+1:=by simp
  have k:=gZ (w.alloc (Obj.cells #[slice ao c.ranges.length cap,bool c.others] 161)) (Obj.cells #[iX 1,slice ao c.ranges.length cap,bool c.others,nX,zX,zX,fX,iX 1] 165);rw[s1] at k;have b:Grew w ((w.alloc (Obj.cells #[slice ao c.ranges.length cap,bool c.others] 161)).alloc (Obj.cells #[iX 1,slice ao c.ranges.length cap,bool c.others,nX,zX,zX,fX,iX 1] 165)):=(kZ _ _ lQ).trans (kZ _ _ (by rw[s1];omega));have q:RangesIn (λi=>(X i/\i<w.heap.size)\/w.heap.size<=i) ((w.alloc (Obj.cells #[slice ao c.ranges.length cap,bool c.others] 161)).alloc (Obj.cells #[iX 1,slice ao c.ranges.length cap,bool c.others,nX,zX,zX,fX,iX 1] 165)) (slice ao c.ranges.length cap) c.ranges:=λr a=>j r ⟨a.os.trans b.os,a.output.trans b.output,lY b.size a.size,λi g s=>(a.block i (lZ g b.size) (.inl ⟨s,g⟩)).trans (b.block i g (by omega))⟩;exact⟨_,rfl,λf=>zIB (t:=zIk c) k (.inr (by omega)) q rfl ⟨by show 0<=1000;omega,by show 0<=1000;omega⟩,b⟩
 go_in;go_wp2;rw[<-l];go_ret;exact⟨_,rfl,m,o⟩
theorem zFp (w:World)(X:Nat->Prop)(a p:Nat)(t:Tr)(b:TreeIn X w a p t):
  Calls prog 190 #[pX p] w λe w'=>∃g,e=returned (pX g)/\TreeIn (λi=>(X i/\i<w.heap.size)\/w.heap.size<=i) w' a g t.plain/\Grew w w':=by
 cases a with
 |zero=>exact False.elim b.at
 |succ a=>
 have j:w.cell? ⟨p,7,none⟩=some (iX (t.chars:Int)):=by
  obtain⟨-,rv,q,k,-⟩:=b.at
  unfold cell?;rw[k];rfl
 have l:=vl b;by_cases c:t.chars=0
 ·have f:Hid (t.plain=Tr.none):=by show _=_;unfold Tr.plain;rw[if_pos c]
  rw[c] at j;have r:=j;go_in;go_wp2;go_ret;refine⟨_,rfl,?_,kZ _ _ lQ⟩;rw[f.out];exact zKf (gZ _ _) (.inr lQ)
 ·have f:Hid (t.plain=t):=by show _=_;unfold Tr.plain;rw[if_neg c]
  have s:((t.chars:Int)==0)=false:=by rw[hX];omega
  go_in;go_wp2;go_ret;exact⟨_,rfl,by rw[f.out];exact l.mono λi m o=>.inl ⟨o,m⟩,Keep.refl _ _ _⟩
theorem zE4:(prog.info? 158).map (λi=>(i.zero,i.size,i.bytes))=some (some (pointer none),1,8):=by kernel_rfl
theorem TreeIn.chars {X:Nat->Prop}{w:World}{a p:Nat}{t:Tr}(b:TreeIn X w a p t):w.cell? ⟨p,7,none⟩=some (iX (t.chars:Int)):=by
 cases a with
 |zero=>exact False.elim b.at
 |succ a=>
  obtain⟨-,rv,e,c,-⟩:=b.at
  unfold cell?;rw[c];rfl
theorem zHo (w:World)(v:Nat->Prop)(H p l:Nat)(sv:Value)(m:List Nat)(t:Tr)(b:Tw w v H p l sv m t)(q:Nat)(u:Tr)(x:TreeIn (λj=>v j/\j≠p/\some j≠sv.ownBlock) w l q u)(al:u.chars<=25)(am:t.parts.length<9000000):
  Calls prog 188 #[pX p,pX q] w λe w'=>e=rX/\∃D S,Tw w' v H p l D S (t.add u)/\KeepO p sv D w w':=by
 have ⟨T,U,V,W,X⟩:=info_parts zE4;have ⟨ao,y,aa⟩:=zF b.own;subst aa;have ⟨E,F,G⟩:=b.cells;have I:=G 3;have J:w.ownsRow H 158 1 (slice ao t.parts.length y) t.parts.length (yJ m):=b.own;have K:p<w.heap.size:=lZ b.pH b.lt;have an:H<=w.heap.size:=b.lt;have L:=vl <| zO b.own b.blk (by decide);have ab:=b.small.2.2.2;have z:=vl b;have M:=vl x;have ac:Hid (IntKind.i64.wrap ((t.chars:Int)+(u.chars:Int))=(t.chars:Int)+(u.chars:Int)):=zBt _ (by omega) (by omega);have ad:Hid (∀w,Ca 195 #[iX (IntKind.i64.wrap ((t.chars:Int)+(u.chars:Int)))] w λe w'=>e=returned (iX (xZ (t.chars+u.chars):Int))/\w'=w):=λw=>by
  have:=zDG w (t.chars+u.chars);rw[show ((t.chars+u.chars:Nat):Int)=(t.chars:Int)+(u.chars:Int) by omega] at this;rw[ac.out];exact this
 clear G b x F;go_in;apply wp_cut;intro ap N;go_wp2_with (at_builtin;refine wpList_append_lies _ rfl _ _ 118 rfl (H) 158 T (pointer none) 1 8 underlying118 U V W X rfl (by decide) _ _ _ rfl (J.alloc _) ⟨w.heap.size,0,none⟩ 1 1 [pX q] rfl rfl (cell_one_new _ _ _) (by intro u x;simp at x;subst x;rfl) (by decide) (by unfold maxLen;omega) (by omega) (by simp;omega) _ rfl ?_;intro f cap w2 O A P ae;have B:=A.block p (by simp;omega) L;have af:cX w2 p 3=some (slice ao t.parts.length y):=(gY B).trans ((gV _ _ _ K).trans E);have ag:w2.frozen? ⟨p,3,none⟩=false:=(gW B).trans ((frozen?_alloc_past _ _ _ K).trans I))
 apply N.out;clear N;obtain⟨a,R,o⟩:∃a,a=w2.setCell ⟨p,3,none⟩ (slice (qX f) (t.parts.length+1) cap)/\Hid (Tw a v H p l (slice (qX f) (t.parts.length+1) cap) (m++[q]) {t with parts:=t.parts++[u]}/\KeepO p (slice ao t.parts.length y) (slice (qX f) (t.parts.length+1) cap) w a):=⟨_,rfl,z.app rfl (by omega) M O A (by rcases P with C|C;exact .inl C;right;rw[C];simp)⟩
 rw[<-R];clear R O A P ae B af ag J L E I;have F:cX a p 7=some (iX (t.chars:Int)):=o.1.cells.2.1;have aq:a.frozen? ⟨p,7,none⟩=false:=o.1.cells.2.2 7;have ar:cX a q 7=some (iX (u.chars:Int)):=by
  have c:=o.1.parts t.parts.length (by simp);have ah:(m++[q]).getD t.parts.length 0=q:=by rw[<-z.out.len];simp
  have ai:(t.parts++[u]).getD t.parts.length Tr.none=u:=by simp
  have r:TreeIn _ a l ((m++[q]).getD t.parts.length 0) ((t.parts++[u]).getD t.parts.length Tr.none):=c;rw[ah,ai] at r;exact r.chars
 have aj:Hid (∀i,Tw ((a.setCell ⟨p,7,none⟩ (iX (xZ (t.chars+u.chars):Int))).drewN i) v H p l (slice (qX f) (t.parts.length+1) cap) (m++[q]) (t.add u)/\KeepO p (slice ao t.parts.length y) (slice (qX f) (t.parts.length+1) cap) w ((a.setCell ⟨p,7,none⟩ (iX (xZ (t.chars+u.chars):Int))).drewN i)):=λi=>by
  have c:=o.1.setChars (xZ (t.chars+u.chars)) (zFb _);have r:KeepO p (slice (qX f) (t.parts.length+1) cap) (slice (qX f) (t.parts.length+1) cap) a (a.setCell ⟨p,7,none⟩ (iX (xZ (t.chars+u.chars):Int))):=⟨rfl,rfl,by rw[zC];omega,λk _ r s=>⟨lJ _ _ _ _ r,s⟩⟩
  have s:=o.2.trans r;exact⟨⟨c.blk,c.set,zD c.own λg _ _ _=>rfl,c.len,λi ak=>(c.parts i ak).go ⟨rfl,rfl,lQ,λ_ _ _=>rfl⟩,c.pH,c.lt,c.small⟩,⟨s.os,s.output,s.size,s.block⟩⟩
 clear o z M ab;go_region_with ((go_at_call 195;go_must ((refine (ad _).mono ?_;rintro e au ⟨rfl,rfl⟩))))
 all_goals
  go_end0;exact⟨rfl,_,_,aj _⟩
theorem zKA (w:World)(X:Nat->Prop)(d p:Nat)(t:Tr)(h:TreeIn X w d p t)(hc:t.chars<=25)(o:Tm)(ho:o.least<=300/\o.most<=300):
  Calls prog 199 #[pX p,agg #[iX (o.least:Int),iX (o.most:Int),bool o.endless]] w λe w'=>∃p',e=returned (pX p')/\TreeIn (λi=>(X i/\i<w.heap.size)\/w.heap.size<=i) w' (d+1) p' (zCn t o)/\Grew w w':=by
 obtain⟨i0,hi0,hz0,hz1,hz2⟩:=info_parts zE4;have hC:o.copies<=301:=by
  unfold Tm.copies;split
  ·split <;> omega
  ·omega
 obtain⟨w1,hw1,y0,y1,y2,K1⟩:∃w1,w1=w.alloc (.cells #[iX (o.least:Int),iX (o.most:Int),bool o.endless] 163)/\w1.cell? ⟨w.heap.size,0,none⟩=some (iX (o.least:Int))/\w1.cell? ⟨w.heap.size,1,none⟩=some (iX (o.most:Int))/\w1.cell? ⟨w.heap.size,2,none⟩=some (bool o.endless)/\Hid (Grew w w1/\w1.heap.size=w.heap.size+1):=by
  have hb:=gZ w (.cells #[iX (o.least:Int),iX (o.most:Int),bool o.endless] 163);refine⟨_,rfl,?_,?_,?_,kZ _ _ lQ,by simp⟩
  all_goals (unfold cell?;rw[hb];rfl)
 have hpl:p<w.heap.size:=by
  cases d with
  |zero=>exact False.elim h.at
  |succ d=>exact h.at.1
 have y7:w1.cell? ⟨p,7,none⟩=some (iX (t.chars:Int)):=(gY (K1.1.block p hpl (by omega))).trans h.chars;have HCP:Hid (∀w',Grew w1 w'->Ca 165 #[agg #[iX (o.least:Int),iX (o.most:Int),bool o.endless]] w' λx w2=>x=returned (iX (o.copies:Int))/\Grew w1 w2/\w2.cell? ⟨w.heap.size,0,none⟩=some (iX (o.least:Int))/\w2.cell? ⟨w.heap.size,1,none⟩=some (iX (o.most:Int))/\w2.cell? ⟨w.heap.size,2,none⟩=some (bool o.endless)/\w2.cell? ⟨p,7,none⟩=some (iX (t.chars:Int))):=λw' hk=>by
  refine(zEx w' o.least o.most o.endless).mono ?_;rintro x w2 ⟨rfl,hk2⟩;have hs:=K1.2;have hk3:Grew w1 w2:=hk.trans (hk2.lower hk.size hk.size);exact⟨rfl,hk3,zA y0 (by show w.heap.size<w1.heap.size;omega) hk3,zA y1 (by show w.heap.size<w1.heap.size;omega) hk3,zA y2 (by show w.heap.size<w1.heap.size;omega) hk3,zA y7 (by show p<w1.heap.size;omega) hk3⟩
 have hm0:(0:Int)<=(t.chars:Int)*(o.copies:Int):=Int.mul_nonneg (by omega) (by omega);have hm1:(t.chars:Int)*(o.copies:Int)<=25*301:=by
  rw[<-Int.natCast_mul];have:=Nat.mul_le_mul hc hC;omega
 have HWR:Hid (IntKind.i64.wrap ((t.chars:Int)*(o.copies:Int))=(t.chars:Int)*(o.copies:Int)):=zBt _ (by omega) (by omega);have HBD:Hid (∀w,Ca 195 #[iX (IntKind.i64.wrap ((t.chars:Int)*(o.copies:Int)))] w λe w'=>e=returned (iX (xZ (t.chars*o.copies):Int))/\w'=w):=λw=>by
  have:=zDG w (t.chars*o.copies);rw[show ((t.chars*o.copies:Nat):Int)=(t.chars:Int)*(o.copies:Int) by rw[Int.natCast_mul]] at this;rw[HWR.out];exact this
 have HA:Hid (zCn t o=Tr.plain ⟨4,⟨[],false⟩,[t],o.least,o.most,o.endless,xZ (t.chars*o.copies)⟩):=rfl;have HBL:Hid (xZ (t.chars*o.copies)<=25):=zFb _;have HT:=vl h;clear h hC;generalize xZ (t.chars*o.copies)=bn at *;generalize o.copies=C at *;generalize zCn t o=ag at *;go_in;apply wp_cut;intro K0 HK0;go_wp2;apply HK0.out;clear HK0;rw[<-hw1];clear hw1 hpl;apply wp_cut;intro K0 HK0;go_region_held3 (λw'=>w'.cell? ⟨w.heap.size,0,none⟩=some (iX (o.least:Int))/\w'.cell? ⟨w.heap.size,1,none⟩=some (iX (o.most:Int))/\w'.cell? ⟨w.heap.size,2,none⟩=some (bool o.endless)/\w'.cell? ⟨p,7,none⟩=some (iX (t.chars:Int))) (first|exact⟨z0,z1,z2,z3⟩|go_keep) (first|(go_at_call 165;go_must ((refine (HCP w1.drew (Keep.alike (w':=w1.drew) ⟨rfl,rfl,rfl⟩)).mono ?_;rintro x w3 ⟨rfl,hk3,z0,z1,z2,z3⟩)))|(go_at_call 195;go_must ((refine (HBD _).mono ?_;rintro x w4 ⟨rfl,hw4⟩;have hw5:=hw4.symm;subst hw5))));show K0 _ _;apply HK0.out;clear HK0;have HY:Hid (Grew w w3/\w.heap.size+1<=w3.heap.size):=⟨K1.1.trans (hk3.lower K1.1.size K1.1.size),by have:=K1.2;have:=hk3.size;omega⟩
 obtain⟨P,hP⟩:∃P,P=w3.heap.size:=⟨_,rfl⟩
 obtain⟨w4,hw4,H4,HK4⟩:∃w4,w4=w3.alloc (.cells #[iX 4,nX,fX,nX,iX (o.least:Int),iX (o.most:Int),bool o.endless,iX (bn:Int)] 165)/\Tw w4 (λi=>(X i/\i<w.heap.size)\/w.heap.size<=i) (P+1) P d nX [] ⟨4,⟨[],false⟩,[],o.least,o.most,o.endless,bn⟩/\Hid (Grew w w4/\TreeIn (λj=>((X j/\j<w.heap.size)\/w.heap.size<=j)/\j≠P/\some j≠nX.ownBlock) w4 d p t/\w.heap.size+1<=P):=by
  have hk4:Grew w (w3.alloc (.cells #[iX 4,nX,fX,nX,iX (o.least:Int),iX (o.most:Int),bool o.endless,iX (bn:Int)] 165)):=HY.1.trans (kZ _ _ (by have:=HY.2;omega));have hb:=gZ w3 (.cells #[iX 4,nX,fX,nX,iX (o.least:Int),iX (o.most:Int),bool o.endless,iX (bn:Int)] 165);rw[<-hP] at hb;have h5:=HY.2;refine⟨_,rfl,⟨hb,rfl,ownsRow_nil _ _ _ _,rfl,λi hi=>absurd hi (Nat.not_lt_zero _),by omega,by rw[hP];simp,⟨by show 0<=_;omega,by show o.least<=_;omega,by show o.most<=_;omega,HBL⟩⟩,hk4,?_,by rw[hP];exact h5⟩;exact HT.step (hk4.agree λi hi _=>⟨hi,by omega⟩) λi hi hx=>⟨.inl ⟨hx,hi⟩,by omega,by simp[Value.ownBlock]⟩
 rw[<-hP,<-hw4];have HP:=vl hP;clear hw4 hP HT hk3 HY K1 HCP HBD HWR z0 z1 z2 z3 y0 y1 y2 y7;obtain⟨x3,-,xf⟩:=H4.cells;have xf3:=xf 3;have OW:w4.ownsRow (P+1) 158 1 nX 0 (yJ []):=H4.own;have hlt:P<w4.heap.size:=H4.lt;have HT4:=vl H4;clear H4 xf HP;apply wp_cut;intro K0 HK0;go_wp2_with (first|(at_builtin;refine wpList_append_lies _ rfl _ _ 118 rfl (P+1) 158 i0 (pointer none) 1 8 underlying118 hi0 hz0 hz1 hz2 rfl (by decide) _ _ _ rfl (OW.alloc _) ⟨w4.heap.size,0,none⟩ 1 1 [pX p] rfl rfl (cell_one_new _ _ _) (by intro u hu;simp at hu;subst hu;rfl) (by decide) (by unfold maxLen;omega) (by omega) (by simp;omega) _ rfl ?_;intro gg cap w5 hown hgrow hat hlt2;have hPB:=hgrow.block P (by simp;omega) (by intro e;cases e);have x3b:w5.cell? ⟨P,3,none⟩=some nX:=(gY hPB).trans ((gV _ _ _ hlt).trans x3);have xf3b:w5.frozen? ⟨P,3,none⟩=false:=(gW hPB).trans ((frozen?_alloc_past _ _ _ hlt).trans xf3)))
 apply HK0.out;clear HK0;obtain⟨w6,hw6,H6⟩:∃w6,w6=w5.setCell ⟨P,3,none⟩ (slice (qX gg) 1 cap)/\Hid (Tw w6 (λi=>(X i/\i<w.heap.size)\/w.heap.size<=i) (P+1) P d (slice (qX gg) 1 cap) [p] ⟨4,⟨[],false⟩,[t],o.least,o.most,o.endless,bn⟩/\KeepO P nX (slice (qX gg) 1 cap) w4 w6):=⟨_,rfl,HT4.app (m:=0) (q:=p) (u:=t) rfl (by omega) HK4.2.1 hown hgrow (by rcases hat with ha|ha;exact .inl ha;right;rw[ha];simp)⟩
 rw[<-hw6];clear hw6 hown hgrow hat hlt2 hPB x3b xf3b OW x3 xf3;have HPL:Hid (Ca 190 #[pX P] w6 λe w'=>∃p',e=returned (pX p')/\TreeIn (λi=>(X i/\i<w.heap.size)\/w.heap.size<=i) w' (d+1) p' ag/\Grew w w'):=by
  have hP:=HK4.2.2;have h4:=HK4.1;have hk6:Keep (P+1) P w4 w6:=H6.2.keep HT4.own HT4.lt;refine(zFp w6 _ (d+1) P _ (H6.1.in (.inr (by omega)) λj hj=>.inr (by omega))).mono ?_;rintro e w7 ⟨p',rfl,ht,hk7⟩;have hs6:=hk6.size;have hs4:=h4.size;refine⟨p',rfl,?_,h4.trans (Keep.trans (w':=w6) ⟨hk6.os,hk6.output,hk6.size,λk h1 _=>hk6.block k (by omega) (by omega)⟩ (hk7.lower (by omega) (by omega)))⟩;rw[HA.out];exact ht.mono λi _ hx=>by
   rcases hx with hx|hx
   ·exact hx.1
   ·exact .inr (by omega)
 clear H6 HT4 HK4 HA;go_wp2_with (first|(go_at_call 190;refine HPL.mono ?_;rintro e w7 ⟨p',rfl,ht7,hk7⟩))
 go_ret;exact⟨p',rfl,ht7,hk7⟩
def DefsIn (b:Nat)(X:Nat->Prop)(w:World)(D:Nat)(v:Value)(l:List (ByteArray×Tr)):Prop:=
 ∃ao cap,v=slice ao l.length cap/\l.length<=cap/\cap<=maxLen/\∀i,i<l.length->∃g o p,ao=some ⟨g,o,none⟩/\In w g/\g<b/\w.cell? ⟨g,o+i*2,none⟩=some (string (l.getD i (⟨#[]⟩,Tr.none)).1)/\w.cell? ⟨g,o+i*2+1,none⟩=some (pointer (some ⟨p,0,none⟩))/\TreeIn X w D p (l.getD i (⟨#[]⟩,Tr.none)).2/\(l.getD i (⟨#[]⟩,Tr.none)).1.size<=100000
theorem DefsIn.go {b:Nat}{X:Nat->Prop}{w w2:World}{D:Nat}{v:Value}{l:List (ByteArray×Tr)}(f:DefsIn b X w D v l)(j:∀i,X i->i<b)(a:Agree (·<b) w w2):DefsIn b X w2 D v l:=by
 obtain⟨ao,cap,k,m,q,r⟩:=f;refine⟨ao,cap,k,m,q,λi s=>?_⟩;have ⟨g,o,p,t,d,c,c0,c1,u,x⟩:=r i s;have e:=a.block g d c;exact⟨g,o,p,t,lZ d a.size,c,(gY e).trans c0,(gY e).trans c1,u.go (a.mono λi _ c=>j i c),x⟩
def TrAns (w:World)(X:Nat->Prop)(b:Nat)(s:ByteArray)(dv:Value)(r:Rx)(D:Nat)(a:Option (Tr×Nat))(e:Ending)(w':World):Prop:=
 Keep w.heap.size b w w'/\match a with
 |none=>∃v q,e=returned (tuple #[pointer v,bool false])/\RxAt w' b s dv {r with at_:=q}
 |some (t,q)=>∃p,e=returned (tuple #[pointer (some ⟨p,0,none⟩),bool true])/\TreeIn (λi=>X i\/w.heap.size<=i) w' (D+4*q) p t/\RxAt w' b s dv {r with at_:=q}
theorem zLg (s:ByteArray)(p:Nat)(l:List (ByteArray×Tr))(j:Nat)(a:j<l.length):zDw s p (l.drop j)=if zK s p (braced (l.getD j (⟨#[]⟩,Tr.none)).1) then some ((l.getD j (⟨#[]⟩,Tr.none)).2,p+(braced (l.getD j (⟨#[]⟩,Tr.none)).1).size) else zDw s p (l.drop (j+1)):=by
 rw[List.drop_eq_getElem_cons a,lW,lV a];rfl
theorem zLf (w:World)(X:Nat->Prop)(b:Nat)(s:ByteArray)(dv:Value)(r:Rx)(F:RxAt w b s dv r)(ah:s.size<=1048576)(aI:r.at_<=s.size)(D:Nat)(defs:List (ByteArray×Tr))(ai:DefsIn b X w D dv defs)(I:∀i,X i->i<b)(aJ:defs.length<=1000000):
  Calls prog 202 #[pX b] w (TrAns w X b s dv r D (zDw s r.at_ defs)):=by
 have aj:=F.lt;obtain⟨ao,cap,rfl,O,P,ak⟩:=ai;have al:=vl ak;obtain⟨-,c1,-,-,-,-⟩:=F.cells;have am:=vl F;have R:=vl aj;obtain⟨z,S⟩:∃z,z=zDw s r.at_ defs:=⟨_,rfl⟩
 have an:=vl S.symm;rw[<-S];go_in;go_wp2;go_loopg [11] defs.length (λq i wr=>∃j:Nat,q=defs.length-j/\j<=defs.length/\i=iX (j:Int)/\zDw s r.at_ (defs.drop j)=z/\RxAt wr b s (slice ao defs.length cap) r/\Keep w.heap.size b w wr)
 case atStart=>exact⟨0,rfl,lX,rfl,an,am,Keep.refl _ _ _⟩
 case round=>
  obtain⟨j,T,aK,rfl,J,U,C⟩:=hrel;have m:Hid (gk=defs.length-j/\RxAt wr b s (slice ao defs.length cap) r/\Keep w.heap.size b w wr):=⟨T,U,C⟩
  by_cases V:j<defs.length
  ·have ap:(j:Int)<(defs.length:Int):=by omega
   obtain⟨g,o,p,rfl,aq,ar,au,av,f,aw⟩:=al j V;have W:=R.out;have Y:wr.heap[g]? =w.heap[g]? :=C.block g aq (kJ ar);have aa:=(gY Y).trans au;have K:=(gY Y).trans av;have t:Hid ((if zK s r.at_ (braced (defs.getD j (⟨#[]⟩,Tr.none)).1) then some ((defs.getD j (⟨#[]⟩,Tr.none)).2,r.at_+(braced (defs.getD j (⟨#[]⟩,Tr.none)).1).size) else zDw s r.at_ (defs.drop (j+1)))=z):=by
    show _=_;rw[<-zLg s r.at_ defs j V];exact J
   have ax:=vl <| f.go (C.agree λi A d=>⟨A,kJ (I i d)⟩);generalize defs.getD j (⟨#[]⟩,Tr.none)=ay at *;obtain⟨a,ab⟩:=ay;simp only at aa K aw;have E:Hid (∀w2 v,zK s r.at_ (braced a)=v->RxAt w2 b s (slice (some ⟨g,o,none⟩) defs.length cap) r->Ca 189 #[pX b,string (⟨#[123]⟩++a++⟨#[125]⟩)] w2 λe w'=>e=returned (bool v)/\RxAt w' b s (slice (some ⟨g,o,none⟩) defs.length cap) {r with at_:=if v then r.at_+(braced a).size else r.at_}/\∀H,Keep H b w2 w'):=λw2 v az aA=>zAH (r:=r) (x:=r.at_) (braced a) ah (by omega) (by rw[zC1];omega) az rfl aA;have aB:=zC1 a;have aC:Hid (braced a=⟨#[123]⟩++a++⟨#[125]⟩):=rfl;have aD:w.heap.size<=wr.heap.size:=m.2.2.size;obtain⟨c,ac,L,aL,aE,ad⟩:∃c,c=wr.alloc (.cells #[string a,pX p] 233)/\Hid (RxAt c b s (slice (some ⟨g,o,none⟩) defs.length cap) r/\TreeIn (λi=>X i\/w.heap.size<=i) c D p ab)/\c.cell? ⟨wr.heap.size,0,none⟩=some (string a)/\c.cell? ⟨wr.heap.size,1,none⟩=some (pX p)/\Hid (Keep w.heap.size b w c):=by
    have ae:=gZ wr (.cells #[string a,pX p] 233);refine⟨_,rfl,⟨RxAt.of_block m.2.1 (lG _ _ _ (by omega)),ax.step ((kZ (H:=wr.heap.size) (b:=b) _ _ lQ).agree λi A d=>⟨A,kJ (I i d)⟩) λi _ d=>.inl d⟩,?_,?_,m.2.2.trans (kZ _ _ aD)⟩
    ·unfold cell?;rw[ae];rfl
    ·unfold cell?;rw[ae];rfl
   apply wp_cut;intro af u;go_wp2;apply u.out;apply wp_cut;intro af u;go_wp2;apply u.out;apply wp_cut;intro aM ag;refine wp_block ?_;apply wp_cut;intro af u;go_wp2;apply u.out;clear u;rw[<-ac];clear ac aa K;have aN:((⟨#[123]⟩:ByteArray)).size=1:=rfl;have aO:((⟨#[125]⟩:ByteArray)).size=1:=rfl;clear O P aB aC;cases f:zK s r.at_ (braced a) with
   |true=>
    have B:=E c true f L.1;have M:=vl B;rw[f] at t;have y:=vl t.symm;rw[y.out];have W:=R.out;have aF:Hid (∀k,(∀H,Keep H b c k)->TreeIn (λi=>X i\/w.heap.size<=i) k (D+4*(r.at_+(braced a).size)) p ab/\Keep w.heap.size b w k/\k.cell? ⟨wr.heap.size,1,none⟩=some (pX p)):=λk l=>by
     refine⟨((L.2.go ((l c.heap.size).agree λi A d=>⟨A,by rcases d with d|d;exact kJ (I i d);omega⟩))).deep (by omega),ad.trans (l _),?_⟩;exact(gY ((l (wr.heap.size+1)).block wr.heap.size (by omega) (by omega))).trans aE
    generalize (braced a).size=bs at *;clear f B E t y W;go_wp2_with (go_at_call 189;refine M.mono ?_;rintro e k ⟨rfl,N,l⟩;have ⟨aG,aH,K⟩:=aF k l)
    refine gU (results_tmp2 rfl _ _ _) rfl ?_;exact⟨aH,p,rfl,aG,N⟩
   |false=>
    have B:=E c false f L.1;have M:=vl B;rw[f] at t;have y:=vl t;clear f B E t;go_wp2_with (go_at_call 189;refine M.mono ?_;rintro e k ⟨rfl,N,l⟩)
    apply ag.out;clear ag;go_wp2;go_roundg (defs.length-(j+1))
    case measure=>rw[m.out.1];omega
    case rel=>exact⟨j+1,rfl,by omega,by go_num,y,N,ad.trans (l _)⟩
  ·have ap:(defs.length:Int)<=(j:Int):=by omega
   have y:Hid (z=none):=by
    show _=_;rw[<-J,List.drop_eq_nil_of_le (by omega)];rfl
   clear T U C O P J;go_wp2;rw[y.out];refine gU (results_tmp2 rfl _ _ _) rfl ?_;exact⟨m.2.2,none,r.at_,rfl,m.2.1⟩
section
variable (X:Nat->Prop) (b:Nat) (s:ByteArray) (dv:Value)
def zA5 (fn:Nat)(X:Nat->Prop)(b:Nat)(s:ByteArray)(dv:Value)(D0:Nat)(defs:List (ByteArray×Tr))(D k:Nat)(M:Reads):Prop:=
 ∀w r,RxAt w b s dv r->DefsIn b X w D0 dv defs->r.depth+k=8->r.at_<=s.size->Calls prog fn #[pointer (some ⟨b,0,none⟩)] w (TrAns w X b s dv r D (M r.at_ r.both))
theorem zKt {X f:Nat->Prop}{b:Nat}{s:ByteArray}{dv:Value}{w a:World}{r:Rx}{D q:Nat}{u:Value}{c:Cs}(o:b<w.heap.size)(t:0<q)(j:RxAt a b s dv {r with at_:=q})(k:RangesIn f a u c.ranges)(l:∀i,f i->w.heap.size<=i)(g:Keep w.heap.size b w a):Hid (Calls prog 205 #[agg #[u,bool c.others]] a λe w'=>∃p,e=returned (pX p)/\TreeIn (λi=>X i\/w.heap.size<=i) w' (D+4*q) p (zIk c)/\RxAt w' b s dv {r with at_:=q}/\Keep w.heap.size b w w'):=by
 have v:=g.size;refine(zG9 a _ _ c k).mono ?_;rintro e x ⟨p,rfl,m,h⟩;refine⟨p,rfl,?_,RxAt.of_block j (h.block b (by omega) (by omega)),g.trans (h.lower (by omega) (by omega))⟩;have:=m (D+4*q-1);rw[show D+4*q-1+1=D+4*q by omega] at this;exact this.mono λi _ d=>by
  rcases d with d|d
  ·exact .inr (l i d.1)
  ·exact .inr (by omega)
theorem zQo (c:s.size<=1048576)(D:Nat)(w:World)(r:Rx)(a:RxAt w b s dv r)(f:r.at_<=s.size)(x:byt s r.at_≠40)(y:byt s r.at_≠123)(g:zAl s r.at_=none):
  Calls prog 196 #[pX b] w (TrAns w X b s dv r D none):=by
 have j:=vl <| vC w b s dv r a c (by omega) 0 (by omega);have k:Hid (Ca 203 #[pX b] w (zAX w b s dv r none)):=by have:=zEM w b s dv r a c f;rw[g] at this;exact this
 have l:=vl a.lt;generalize byt s r.at_=c0 at *;have z:((c0:Int)==40)=false:=by rw[hX];omega
 have A:((c0:Int)==123)=false:=by rw[hX];omega
 go_in;go_wp2_with (first|(go_at_call 200;refine j.mono ?_;rintro e B ⟨rfl,m⟩;have p:=m.symm;subst p)|(go_at_call 203;refine k.mono ?_;rintro e w2 ⟨d,v,n,C,o,q,rfl,t⟩))
 refine gU (results_tmp2 rfl _ _ _) rfl ?_;have E:=l.out;have u:=d.size;refine⟨d.trans (kZ _ _ u),none,q,rfl,RxAt.of_block t (lG _ _ _ (by omega))⟩
theorem zQn (k:s.size<=1048576)(D:Nat)(w:World)(r:Rx)(g:RxAt w b s dv r)(F:r.at_<=s.size)(Y:byt s r.at_≠40)(aa:byt s r.at_≠123)(c:Cs)(q:Nat)(l:zAl s r.at_=some (c,q))(G:r.both=false):
  Calls prog 196 #[pX b] w (TrAns w X b s dv r D (some (zIk c,q))):=by
 have H:=vl <| vC w b s dv r g k (by omega) 0 (by omega);have I:Hid (Ca 203 #[pX b] w (zAX w b s dv r (some (c,q)))):=by have:=zEM w b s dv r g k F;rw[l] at this;exact this
 have m:Hid (b<w.heap.size/\0<q/\c.ranges.length<=3000000):=⟨g.lt,by have:=(zD9 s k _ _ _ l).1;omega,(zD9 s k _ _ _ l).2.2.1⟩
 generalize byt s r.at_=c0 at *;have ab:((c0:Int)==40)=false:=by rw[hX];omega
 have ac:((c0:Int)==123)=false:=by rw[hX];omega
 have J:=vl G;go_in;apply wp_cut;intro o f;go_wp2;apply f.out;apply wp_cut;intro o f;go_wp2_with (go_at_call 200;refine H.mono ?_;rintro e ad ⟨rfl,K⟩;have L:=K.symm;subst L)
 apply f.out;apply wp_cut;intro o f;go_wp2_with (go_at_call 203;refine I.mono ?_;rintro e w2 ⟨t,u,rfl,v,y⟩;obtain⟨ao,cap,M,-⟩:=v.at;subst M)
 apply f.out;obtain⟨d,z,N,O,ae,j⟩:∃d,d=w2.alloc (.cells #[slice ao c.ranges.length cap,bool c.others] 161)/\d.cell? ⟨w2.heap.size,0,none⟩=some (slice ao c.ranges.length cap)/\d.cell? ⟨w2.heap.size,1,none⟩=some (bool c.others)/\d.cell? ⟨b,4,none⟩=some (bool false)/\Hid (RxAt d b s dv {r with at_:=q}/\RangesIn (λi=>w.heap.size<=i/\i≠w2.heap.size) d (slice ao c.ranges.length cap) c.ranges/\Keep w.heap.size b w d/\d.heap.size=w2.heap.size+1/\w.heap.size<=w2.heap.size/\d.heap[w2.heap.size]? =some (.cells #[slice ao c.ranges.length cap,bool c.others] 161)):=by
  have af:=m.1;have A:=t.size;have x:=gZ w2 (.cells #[slice ao c.ranges.length cap,bool c.others] 161);have C:RxAt (w2.alloc (.cells #[slice ao c.ranges.length cap,bool c.others] 161)) b s dv {r with at_:=q}:=RxAt.of_block y (lG _ _ _ (by omega));refine⟨_,rfl,?_,?_,?_,C,λP a=>v P ⟨a.os,a.output,lY (by simp) a.size,λi R S=>(a.block i (by simp;omega) ⟨S,by omega⟩).trans (lG _ _ _ R)⟩,t.trans (kZ _ _ A),by simp,A,x⟩
  ·unfold cell?;rw[x];rfl
  ·unfold cell?;rw[x];rfl
  ·have:=C.cells.2.2.2.2.1
   rw[<-J.out];exact this
 rw[<-z];clear z t v y;obtain⟨B,E⟩:∃B,B=w2.heap.size:=⟨_,rfl⟩
 rw[<-E] at N O j ⊢;clear E;apply wp_cut;intro o f;go_wp2;apply f.out;clear f;have T:=zKt (X:=X) (D:=D) m.1 m.2.1 j.1 j.2.1 (λi g=>g.1) j.2.2.1;clear j;go_wp2_with (go_at_call 205;refine T.mono ?_;rintro e ag ⟨p,rfl,U,V,W⟩)
 refine gU (results_tmp2 rfl _ _ _) rfl ?_;exact⟨W,p,rfl,U,V⟩
theorem zQp (z:s.size<=1048576)(D:Nat)(w:World)(r:Rx)(v:RxAt w b s dv r)(ab:r.at_<=s.size)(aA:byt s r.at_≠40)(aB:byt s r.at_≠123)(c:Cs)(q:Nat)(F:zAl s r.at_=some (c,q))(ac:r.both=true):
  Calls prog 196 #[pX b] w (TrAns w X b s dv r D (some (zIk ⟨vA c.ranges,c.others⟩,q))):=by
 have ad:=vl <| vC w b s dv r v z (by omega) 0 (by omega);have ae:Hid (Ca 203 #[pX b] w (zAX w b s dv r (some (c,q)))):=by have:=zEM w b s dv r v z ab;rw[F] at this;exact this
 have x:Hid (b<w.heap.size/\0<q/\c.ranges.length<=3000000):=⟨v.lt,by have:=(zD9 s z _ _ _ F).1;omega,(zD9 s z _ _ _ F).2.2.1⟩
 generalize byt s r.at_=c0 at *;have aC:((c0:Int)==40)=false:=by rw[hX];omega
 have aD:((c0:Int)==123)=false:=by rw[hX];omega
 have af:=vl ac;go_in;apply wp_cut;intro A d;go_wp2;apply d.out;apply wp_cut;intro A d;go_wp2_with (go_at_call 200;refine ad.mono ?_;rintro e aE ⟨rfl,ag⟩;have ah:=ag.symm;subst ah)
 apply d.out;clear d;apply wp_cut;intro A d;go_wp2_with (go_at_call 203;refine ae.mono ?_;rintro e w2 ⟨G,u,rfl,H,O⟩;obtain⟨ao,cap,ai,-⟩:=H.at;subst ai)
 apply d.out;clear d;obtain⟨f,P,R,S,aF,l⟩:∃f,f=w2.alloc (.cells #[slice ao c.ranges.length cap,bool c.others] 161)/\f.cell? ⟨w2.heap.size,0,none⟩=some (slice ao c.ranges.length cap)/\f.cell? ⟨w2.heap.size,1,none⟩=some (bool c.others)/\f.cell? ⟨b,4,none⟩=some (bool true)/\Hid (RxAt f b s dv {r with at_:=q}/\RangesIn (λi=>w.heap.size<=i/\i≠w2.heap.size) f (slice ao c.ranges.length cap) c.ranges/\Keep w.heap.size b w f/\f.heap.size=w2.heap.size+1/\w.heap.size<=w2.heap.size/\f.heap[w2.heap.size]? =some (.cells #[slice ao c.ranges.length cap,bool c.others] 161)):=by
  have aj:=x.1;have T:=G.size;have I:=gZ w2 (.cells #[slice ao c.ranges.length cap,bool c.others] 161);have C:RxAt (w2.alloc (.cells #[slice ao c.ranges.length cap,bool c.others] 161)) b s dv {r with at_:=q}:=RxAt.of_block O (lG _ _ _ (by omega));refine⟨_,rfl,?_,?_,?_,C,λak a=>H ak ⟨a.os,a.output,lY (by simp) a.size,λi al J=>(a.block i (by simp;omega) ⟨J,by omega⟩).trans (lG _ _ _ al)⟩,G.trans (kZ _ _ T),by simp,T,I⟩
  ·unfold cell?;rw[I];rfl
  ·unfold cell?;rw[I];rfl
  ·have:=C.cells.2.2.2.2.1
   rw[<-af.out];exact this
 rw[<-P];clear P G H O;obtain⟨B,U⟩:∃B,B=w2.heap.size:=⟨_,rfl⟩
 rw[<-U] at R S l ⊢;clear U;apply wp_cut;intro A d;go_wp2;apply d.out;clear d;have V:=vl <| zFH f _ c.ranges c.others l.2.1.at (by have:=x.2.2;omega)
 apply wp_cut;intro A d;go_wp2_with (go_at_call 204;refine V.mono ?_;rintro e g ⟨u5,rfl,K,y⟩;obtain⟨m,o,am,-⟩:=K.at;subst am;have t:=(y.block B (by have:=l.2.2.2.1;omega) (by have:=l.2.2.2.1;omega)).trans l.2.2.2.2.2;have an:g.cell? ⟨B,0,none⟩=some (slice ao c.ranges.length cap):=(by unfold cell?;rw[t];rfl);have ap:g.cell? ⟨B,1,none⟩=some (bool c.others):=(by unfold cell?;rw[t];rfl);have aq:g.frozen? ⟨B,0,none⟩=false:=(by unfold frozen?;rw[t];rfl);have ar:g.frozen? ⟨B,1,none⟩=false:=(by unfold frozen?;rw[t];rfl);have W:=vl t;clear t)
 apply d.out;clear d;obtain⟨j,Y,aG,aH,E⟩:∃j,j=(g.setCell ⟨B,0,none⟩ (slice m (vA c.ranges).length o)).setCell ⟨B,1,none⟩ (bool c.others)/\j.cell? ⟨B,0,none⟩=some (slice m (vA c.ranges).length o)/\j.cell? ⟨B,1,none⟩=some (bool c.others)/\Hid (RxAt j b s dv {r with at_:=q}/\RangesIn (λi=>w.heap.size<=i) j (slice m (vA c.ranges).length o) (vA c.ranges)/\Keep w.heap.size b w j/\w.heap.size<=j.heap.size):=by
  have ⟨C,aI,au,aJ,aK,aL⟩:=l.out;have aj:=x.1;have aa:((g.setCell ⟨B,0,none⟩ (slice m (vA c.ranges).length o)).setCell ⟨B,1,none⟩ (bool c.others)).heap[B]? =some (.cells #[slice m (vA c.ranges).length o,bool c.others] 161):=by
   simp[setCell,lU,W.out]
  have M:∀i,i≠B->((g.setCell ⟨B,0,none⟩ (slice m (vA c.ranges).length o)).setCell ⟨B,1,none⟩ (bool c.others)).heap[i]? =g.heap[i]? :=λi av=>by
   simp[setCell,lU,Ne.symm av]
  have aM:=y.size;have N:((g.setCell ⟨B,0,none⟩ (slice m (vA c.ranges).length o)).setCell ⟨B,1,none⟩ (bool c.others)).heap.size=g.heap.size:=by simp[World.setCell]
  refine⟨_,rfl,?_,?_,RxAt.of_block C ((M b (by omega)).trans (y.block b (by omega) (by omega))),RangesIn.mono (X:=λi=>f.heap.size<=i) (K.go ⟨rfl,rfl,by rw[N];omega,λi _ J=>M i (by omega)⟩) (λi _ J=>by omega),(au.trans (y.lower (by omega) (by omega))).trans ⟨rfl,rfl,by rw[N];omega,λk aN _=>M k (by omega)⟩,by rw[N];omega⟩
  ·unfold cell?;rw[aa];rfl
  ·unfold cell?;rw[aa];rfl
 rw[<-Y];clear Y K y an ap aq ar R S;have aw:=zKt (X:=X) (D:=D) (c:=⟨vA c.ranges,c.others⟩) x.1 x.2.1 E.1 E.2.1 (λi v=>v) E.2.2.1;clear l E V W;generalize vA c.ranges=aO at *;go_wp2_with (go_at_call 205;refine aw.mono ?_;rintro e aP ⟨p,rfl,ax,ay,az⟩)
 refine gU (results_tmp2 rfl _ _ _) rfl ?_;exact⟨az,p,rfl,ax,ay⟩
theorem TrAns.any {w w':World}{X:Nat->Prop}{b:Nat}{s:ByteArray}{dv:Value}{r:Rx}{D:Nat}{a:Option (Tr×Nat)}{e:Ending}(f:TrAns w X b s dv r D a e w'):∃(v:Option Addr) (q:Nat) (k:Bool),e=returned (tuple #[pointer v,bool k])/\RxAt w' b s dv {r with at_:=q}/\Hid (Keep w.heap.size b w w'/\(k=false/\a=none\/k=true/\∃p t,v=some ⟨p,0,none⟩/\a=some (t,q)/\TreeIn (λi=>X i\/w.heap.size<=i) w' (D+4*q) p t)):=by
 cases a with
 |none=>
  obtain⟨c,v,q,rfl,d⟩:=f;exact⟨v,q,false,rfl,d,c,.inl ⟨rfl,rfl⟩⟩
 |some g=>
  obtain⟨t,q⟩:=g;obtain⟨c,p,rfl,j,d⟩:=f;exact⟨_,q,true,rfl,d,c,.inr ⟨rfl,p,t,rfl,rfl,j⟩⟩
theorem zPB (f:s.size<=1048576)(D:Nat)(w:World)(r:Rx)(g:RxAt w b s dv r)(t:r.at_<=s.size)(j:byt s r.at_=40)(a:Option (Tr×Nat))(l:Calls prog 201 #[pX b] w (TrAns w X b s dv r D a)):
  Calls prog 196 #[pX b] w (TrAns w X b s dv r D a):=by
 have c:=vl ((zIh f (by omega)) w g);rw[j] at c;have m:=vl l;go_in;go_wp2_with (first|(go_at_call 200;refine c.mono ?_;rintro e u ⟨rfl,o⟩;have p:=o.symm;subst p)|(go_at_call 201;refine m.mono ?_;rintro e w2 d;obtain⟨v,q,k,rfl,-,-⟩:=TrAns.any d))
 refine gU (results_tmp2 rfl _ _ _) rfl ?_;exact d
theorem zPA (f:s.size<=1048576)(D:Nat)(w:World)(r:Rx)(g:RxAt w b s dv r)(t:r.at_<=s.size)(j:byt s r.at_=123)(a:Option (Tr×Nat))(l:Calls prog 202 #[pX b] w (TrAns w X b s dv r D a)):
  Calls prog 196 #[pX b] w (TrAns w X b s dv r D a):=by
 have c:=vl ((zIh f (by omega)) w g);rw[j] at c;have m:=vl l;go_in;go_wp2_with (first|(go_at_call 200;refine c.mono ?_;rintro e u ⟨rfl,o⟩;have p:=o.symm;subst p)|(go_at_call 202;refine m.mono ?_;rintro e w2 d;obtain⟨v,q,k,rfl,-,-⟩:=TrAns.any d))
 refine gU (results_tmp2 rfl _ _ _) rfl ?_;exact d
theorem zGR (f:s.size<=1048576)(t:∀i,X i->i<b)(D:Nat)(defs:List (ByteArray×Tr))(u:defs.length<=1000000)(k:Nat)(m:Reads)(v:∀w r,RxAt w b s dv r->DefsIn b X w D dv defs->r.depth+k=8->r.at_<=s.size->byt s r.at_=40->Calls prog 201 #[pX b] w (TrAns w X b s dv r D (brM s k m r.at_ r.both))):
  zA5 196 X b s dv D defs D k (zEB s defs k m):=λw r a o x d=>by
 unfold zEB;by_cases e:byt s r.at_=40
 ·rw[if_pos e]
  exact zPB X b s dv f D w r a d e _ (v w r a o x d e)
 rw[if_neg e];by_cases j:byt s r.at_=123
 ·rw[if_pos j]
  exact zPA X b s dv f D w r a d j _ (zLf w X b s dv r a f d D defs o t u)
 rw[if_neg j];cases l:zAl s r.at_ with
 |none=>exact zQo X b s dv f D w r a d e j l
 |some g=>
  obtain⟨c,q⟩:=g;cases p:r.both with
  |false=>exact zQn X b s dv f D w r a d e j c q l p
  |true=>exact zQp X b s dv f D w r a d e j c q l p
end
section
section
variable {w:World} {b:Nat} {s:ByteArray} {dv:Value} {r:Rx}
theorem RxAt.setDepth (a:RxAt w b s dv r)(n:Nat):RxAt (w.setCell ⟨b,3,none⟩ (iX (n:Int))) b s dv {r with depth:=n}:=by
 unfold RxAt at *;simp[setCell,lU,a]
theorem RxAt.setBoth (a:RxAt w b s dv r)(x:Bool):RxAt (w.setCell ⟨b,4,none⟩ (bool x)) b s dv {r with both:=x}:=by
 unfold RxAt at *;simp[setCell,lU,a]
end
theorem zPz (X:Nat->Prop)(b:Nat)(s:ByteArray)(dv:Value)(D:Nat)(w:World)(r:Rx)(a:RxAt w b s dv r)(d:r.depth=8):Calls prog 201 #[pX b] w (TrAns w X b s dv r D (none)):=by
 obtain⟨-,-,-,c,-,-⟩:=a.cells;rw[d] at c;have f:=c;have e:=vl a;go_in;go_wp2;refine gU (results_tmp2 rfl _ _ _) rfl ?_;exact⟨Keep.refl _ _ _,none,r.at_,rfl,e⟩
theorem zOC (X:Nat->Prop)(b:Nat)(s:ByteArray)(dv:Value)(f:s.size<=1048576)(D:Nat)(w:World)(r:Rx)(a:RxAt w b s dv r)(m:r.depth<=7)(o:r.at_<=s.size)(g:zK s r.at_ ⟨#[40,41]⟩=true):Calls prog 201 #[pX b] w (TrAns w X b s dv r D (some (Tr.none,r.at_+2))):=by
 obtain⟨-,-,-,p,-,-⟩:=a.cells;have j:=vl a.lt;have q:(r.depth:Int)<8:=by omega
 have k:=vl (zAH (r:=r) (x:=r.at_) (y:=r.at_+2) ⟨#[40,41]⟩ f (by omega) (by decide) g rfl a);go_in;go_wp2_with (go_at_call 189;refine k.mono ?_;rintro e w1 ⟨rfl,l,c⟩)
 refine gU (results_tmp2 rfl _ _ _) rfl ?_;have t:=j.out;have d:=(c 0).size;refine⟨(c _).trans (kZ _ _ d),_,rfl,?_,RxAt.of_block l (lG _ _ _ (by omega))⟩;rw[show D+4*(r.at_+2)=D+4*r.at_+7+1 by omega];exact zKf (gZ _ _) (.inr d)
def zPL (s:ByteArray):Option (Tr×Nat)->Option (Tr×Nat)
 |none=>none
 |some (t,q)=>if zK s q ⟨#[41]⟩ then some (t,q+1) else none
theorem zQU (X:Nat->Prop)(b:Nat)(s:ByteArray)(dv:Value)(hs:s.size<=1048576)(hH:∀i,X i->i<b)(D:Nat)(w:World)(r:Rx)(h:RxAt w b s dv r)(hdp:r.depth<=7)(ha:r.at_<s.size)(h0:zK s r.at_ ⟨#[40,41]⟩=false)(h1:zK s r.at_ ⟨#[40,105,58]⟩=true)(m:Option (Tr×Nat))(hsub:∀w4,RxAt w4 b s dv ⟨r.at_+3,r.depth+1,true⟩->Keep w.heap.size b w w4->Calls prog 182 #[pX b] w4 (TrAns w4 X b s dv ⟨r.at_+3,r.depth+1,true⟩ (D+2) m))(hq:∀t q,m=some (t,q)->q<=s.size):Calls prog 201 #[pX b] w (TrAns w X b s dv r D (zPL s m)):=by
 obtain⟨-,-,-,c3,c4,-⟩:=h.cells;have HLB:=vl h.lt;have i8:(r.depth:Int)<8:=by omega
 have HT0:=vl (zAH (r:=r) (x:=r.at_) (y:=r.at_) ⟨#[40,41]⟩ hs (by omega) (by decide) h0 rfl h);have HT1:=zKM (b:=b) (dv:=dv) (r:=r) (y:=r.at_+3) h1 hs (by omega) (by decide) rfl;have HSB:=vl hsub;have HQ:=vl hq;go_in;apply wp_cut;intro K0 HK0;go_wp2;apply HK0.out;apply wp_cut;intro K0 HK0;go_wp2;apply HK0.out;apply wp_cut;intro K0 HK0;go_wp2_with (first|(go_at_call 189;refine HT0.out.mono ?_;rintro e w1 ⟨rfl,hR1,hk1⟩))
 apply HK0.out;have d4:w1.cell? ⟨b,4,none⟩=some (bool r.both):=hR1.cells.2.2.2.2.1;clear c3 c4;apply wp_cut;intro K0 HK0;go_wp2;apply HK0.out;clear HK0;clear d4;apply wp_cut;intro K0 HK0;go_wp2_with (first|(go_at_call 189;refine(HT1.out w1 hR1).mono ?_;rintro e w2 ⟨rfl,hR2,hk2⟩;have d4:w2.cell? ⟨b,4,none⟩=some (bool r.both):=hR2.cells.2.2.2.2.1;have f4:=hR2.cells.2.2.2.2.2 4))
 apply HK0.out;clear HK0;obtain⟨w3,hw3,hR3,hk3⟩:∃w3,w3=w2.setCell ⟨b,4,none⟩ tX/\RxAt w3 b s dv ⟨r.at_+3,r.depth,true⟩/\Hid (Keep w.heap.size b w w3):=⟨_,rfl,hR2.setBoth true,((hk1 _).trans (hk2 _)).trans (Keep.set _ _ _)⟩
 rw[<-hw3];clear hw3 hR1 hR2 hk1 hk2 d4 f4;have d3:w3.cell? ⟨b,3,none⟩=some (iX (r.depth:Int)):=hR3.cells.2.2.2.1;have f3:=hR3.cells.2.2.2.2.2 3;apply wp_cut;intro K0 HK0;go_wp2;apply HK0.out;clear HK0;obtain⟨w4,hw4,hR4,hk4⟩:∃w4,w4=w3.setCell ⟨b,3,none⟩ (iX ((r.depth:Int)+1))/\RxAt w4 b s dv ⟨r.at_+3,r.depth+1,true⟩/\Hid (Keep w.heap.size b w w4):=⟨_,rfl,hR3.setDepth (r.depth+1),hk3.out.trans (Keep.set _ _ _)⟩
 rw[<-hw4];clear hw4 hR3 hk3 d3 f3;have HEJ:=vl (HSB.out w4 hR4 hk4.out);clear HSB;apply wp_cut;intro K0 HK0;go_wp2_with (first|(go_at_call 182;refine HEJ.out.mono ?_;rintro e w5 ha5;obtain⟨v,q,kk,rfl,hR5,HH⟩:=TrAns.any ha5;clear ha5))
 apply HK0.out;clear HK0;have d3:w5.cell? ⟨b,3,none⟩=some (iX ((r.depth:Int)+1)):=hR5.cells.2.2.2.1;have f3:=hR5.cells.2.2.2.2.2 3;apply wp_cut;intro K0 HK0;go_wp2;apply HK0.out;clear HK0;obtain⟨w6,hw6,hR6,HK6⟩:∃w6,w6=w5.setCell ⟨b,3,none⟩ (iX (r.depth:Int))/\RxAt w6 b s dv ⟨q,r.depth,true⟩/\Hid (∀H,Keep H b w5 w6):=⟨_,rfl,hR5.setDepth r.depth,λH=>Keep.set _ _ _⟩
 rw[<-hw6];clear hw6 d3 f3 hR5;have d4:w6.cell? ⟨b,4,none⟩=some tX:=hR6.cells.2.2.2.2.1;have f4:=hR6.cells.2.2.2.2.2 4;apply wp_cut;intro K0 HK0;go_wp2;apply HK0.out;clear HK0;obtain⟨w7,hw7,hR7,HK7⟩:∃w7,w7=w6.setCell ⟨b,4,none⟩ (bool r.both)/\RxAt w7 b s dv {r with at_:=q}/\Hid (∀H,Keep H b w5 w7):=⟨_,rfl,hR6.setBoth r.both,λH=>(HK6.out H).trans (Keep.set _ _ _)⟩
 rw[<-hw7];clear hw7 d4 f4 hR6 HK6;obtain⟨hk5,hkk⟩:=HH.out;have HKA:Hid (Keep w.heap.size b w w7):=by
  have h1:=hk4.out.size;exact(hk4.out.trans ⟨hk5.os,hk5.output,hk5.size,λk h1 h2=>hk5.block k (by omega) h2⟩).trans (HK7.out _)
 rcases hkk with⟨rfl,rfl⟩|⟨rfl,p,t,rfl,rfl,ht5⟩
 ·clear hk5 HK7 hk4 hR4 HH
  go_wp2;refine gU (results_tmp2 rfl _ _ _) rfl ?_;exact⟨HKA.out,none,q,rfl,hR7⟩
 have HTR:Hid (∀w8,(∀H,Keep H b w7 w8)->TreeIn (λi=>X i\/w.heap.size<=i) w8 (D+4*(q+1)) p t):=λw8 hk8=>by
  have hb:=HLB.out;have h1:=hk4.out.size;refine(((ht5.go ((HK7.out w5.heap.size).agree λi hi hx=>⟨hi,by rcases hx with hx|hx;exact kJ (hH i hx);omega⟩)).go ((hk8 w7.heap.size).agree λi hi hx=>⟨hi,by rcases hx with hx|hx;exact kJ (hH i hx);omega⟩)).mono λi _ hx=>?_).deep (by omega);rcases hx with hx|hx
  ·exact .inl hx
  ·exact .inr (by omega)
 have hq:=HQ.out t q rfl;clear ht5 hk5 HK7 hk4 hR4 HH;show Code.wp _ _ (bodyPost _ _ (TrAns w X b s dv r D (if zK s q ⟨#[41]⟩ then some (t,q+1) else none))) _ _;cases h2:zK s q ⟨#[41]⟩ with
 |true=>
  go_wp2_with (first|(go_at_call 189;refine(zAH (r:=r) (x:=q) (y:=q+1) ⟨#[41]⟩ hs (by omega) (by decide) h2 rfl hR7).mono ?_;rintro e w8 ⟨rfl,hR8,hk8⟩))
  refine gU (results_tmp2 rfl _ _ _) rfl ?_;exact⟨HKA.out.trans (hk8 _),p,rfl,HTR.out w8 hk8,hR8⟩
 |false=>
  go_wp2_with (first|(go_at_call 189;refine(zAH (r:=r) (x:=q) (y:=q) ⟨#[41]⟩ hs (by omega) (by decide) h2 rfl hR7).mono ?_;rintro e w8 ⟨rfl,hR8,hk8⟩))
  refine gU (results_tmp2 rfl _ _ _) rfl ?_;exact⟨HKA.out.trans (hk8 _),none,q,rfl,hR8⟩
theorem zQT (X:Nat->Prop)(b:Nat)(s:ByteArray)(dv:Value)(hs:s.size<=1048576)(hH:∀i,X i->i<b)(D:Nat)(w:World)(r:Rx)(h:RxAt w b s dv r)(hdp:r.depth<=7)(ha:r.at_<s.size)(h0:zK s r.at_ ⟨#[40,41]⟩=false)(h1:zK s r.at_ ⟨#[40,105,58]⟩=false)(m:Option (Tr×Nat))(hsub:∀w4,RxAt w4 b s dv ⟨r.at_+1,r.depth+1,r.both⟩->Keep w.heap.size b w w4->Calls prog 182 #[pX b] w4 (TrAns w4 X b s dv ⟨r.at_+1,r.depth+1,r.both⟩ (D+2) m))(hq:∀t q,m=some (t,q)->q<=s.size):Calls prog 201 #[pX b] w (TrAns w X b s dv r D (zPL s m)):=by
 obtain⟨-,-,-,c3,c4,-⟩:=h.cells;have HLB:=vl h.lt;have i8:(r.depth:Int)<8:=by omega
 have HT0:=vl (zAH (r:=r) (x:=r.at_) (y:=r.at_) ⟨#[40,41]⟩ hs (by omega) (by decide) h0 rfl h);have HT1:=zKM (b:=b) (dv:=dv) (r:=r) (y:=r.at_) h1 hs (by omega) (by decide) rfl;have HSB:=vl hsub;have HQ:=vl hq;go_in;apply wp_cut;intro K0 HK0;go_wp2;apply HK0.out;apply wp_cut;intro K0 HK0;go_wp2;apply HK0.out;apply wp_cut;intro K0 HK0;go_wp2_with (first|(go_at_call 189;refine HT0.out.mono ?_;rintro e w1 ⟨rfl,hR1,hk1⟩))
 apply HK0.out;have d4:w1.cell? ⟨b,4,none⟩=some (bool r.both):=hR1.cells.2.2.2.2.1;clear c3 c4;apply wp_cut;intro K0 HK0;go_wp2;apply HK0.out;clear HK0;clear d4;apply wp_cut;intro K0 HK0;go_wp2_with (first|(go_at_call 189;refine(HT1.out w1 hR1).mono ?_;rintro e w2 ⟨rfl,hR2,hk2⟩;have d2:w2.cell? ⟨b,2,none⟩=some (iX (r.at_:Int)):=hR2.cells.2.2.1;have f2:=hR2.cells.2.2.2.2.2 2))
 apply HK0.out;clear HK0;obtain⟨w3,hw3,hR3,hk3⟩:∃w3,w3=w2.setCell ⟨b,2,none⟩ (iX ((r.at_:Int)+1))/\RxAt w3 b s dv ⟨r.at_+1,r.depth,r.both⟩/\Hid (Keep w.heap.size b w w3):=⟨_,rfl,hR2.setAt (r.at_+1),((hk1 _).trans (hk2 _)).trans (Keep.set _ _ _)⟩
 rw[<-hw3];clear hw3 hR1 hR2 hk1 hk2 d2 f2;have d3:w3.cell? ⟨b,3,none⟩=some (iX (r.depth:Int)):=hR3.cells.2.2.2.1;have f3:=hR3.cells.2.2.2.2.2 3;apply wp_cut;intro K0 HK0;go_wp2;apply HK0.out;clear HK0;obtain⟨w4,hw4,hR4,hk4⟩:∃w4,w4=w3.setCell ⟨b,3,none⟩ (iX ((r.depth:Int)+1))/\RxAt w4 b s dv ⟨r.at_+1,r.depth+1,r.both⟩/\Hid (Keep w.heap.size b w w4):=⟨_,rfl,hR3.setDepth (r.depth+1),hk3.out.trans (Keep.set _ _ _)⟩
 rw[<-hw4];clear hw4 hR3 hk3 d3 f3;have HEJ:=vl (HSB.out w4 hR4 hk4.out);clear HSB;apply wp_cut;intro K0 HK0;go_wp2_with (first|(go_at_call 182;refine HEJ.out.mono ?_;rintro e w5 ha5;obtain⟨v,q,kk,rfl,hR5,HH⟩:=TrAns.any ha5;clear ha5))
 apply HK0.out;clear HK0;have d3:w5.cell? ⟨b,3,none⟩=some (iX ((r.depth:Int)+1)):=hR5.cells.2.2.2.1;have f3:=hR5.cells.2.2.2.2.2 3;apply wp_cut;intro K0 HK0;go_wp2;apply HK0.out;clear HK0;obtain⟨w6,hw6,hR6,HK6⟩:∃w6,w6=w5.setCell ⟨b,3,none⟩ (iX (r.depth:Int))/\RxAt w6 b s dv ⟨q,r.depth,r.both⟩/\Hid (∀H,Keep H b w5 w6):=⟨_,rfl,hR5.setDepth r.depth,λH=>Keep.set _ _ _⟩
 rw[<-hw6];clear hw6 d3 f3 hR5;have d4:w6.cell? ⟨b,4,none⟩=some (bool r.both):=hR6.cells.2.2.2.2.1;have f4:=hR6.cells.2.2.2.2.2 4;apply wp_cut;intro K0 HK0;go_wp2;apply HK0.out;clear HK0;obtain⟨w7,hw7,hR7,HK7⟩:∃w7,w7=w6.setCell ⟨b,4,none⟩ (bool r.both)/\RxAt w7 b s dv {r with at_:=q}/\Hid (∀H,Keep H b w5 w7):=⟨_,rfl,hR6.setBoth r.both,λH=>(HK6.out H).trans (Keep.set _ _ _)⟩
 rw[<-hw7];clear hw7 d4 f4 hR6 HK6;obtain⟨hk5,hkk⟩:=HH.out;have HKA:Hid (Keep w.heap.size b w w7):=by
  have h1:=hk4.out.size;exact(hk4.out.trans ⟨hk5.os,hk5.output,hk5.size,λk h1 h2=>hk5.block k (by omega) h2⟩).trans (HK7.out _)
 rcases hkk with⟨rfl,rfl⟩|⟨rfl,p,t,rfl,rfl,ht5⟩
 ·clear hk5 HK7 hk4 hR4 HH
  go_wp2;refine gU (results_tmp2 rfl _ _ _) rfl ?_;exact⟨HKA.out,none,q,rfl,hR7⟩
 have HTR:Hid (∀w8,(∀H,Keep H b w7 w8)->TreeIn (λi=>X i\/w.heap.size<=i) w8 (D+4*(q+1)) p t):=λw8 hk8=>by
  have hb:=HLB.out;have h1:=hk4.out.size;refine(((ht5.go ((HK7.out w5.heap.size).agree λi hi hx=>⟨hi,by rcases hx with hx|hx;exact kJ (hH i hx);omega⟩)).go ((hk8 w7.heap.size).agree λi hi hx=>⟨hi,by rcases hx with hx|hx;exact kJ (hH i hx);omega⟩)).mono λi _ hx=>?_).deep (by omega);rcases hx with hx|hx
  ·exact .inl hx
  ·exact .inr (by omega)
 have hq:=HQ.out t q rfl;clear ht5 hk5 HK7 hk4 hR4 HH;show Code.wp _ _ (bodyPost _ _ (TrAns w X b s dv r D (if zK s q ⟨#[41]⟩ then some (t,q+1) else none))) _ _;cases h2:zK s q ⟨#[41]⟩ with
 |true=>
  go_wp2_with (first|(go_at_call 189;refine(zAH (r:=r) (x:=q) (y:=q+1) ⟨#[41]⟩ hs (by omega) (by decide) h2 rfl hR7).mono ?_;rintro e w8 ⟨rfl,hR8,hk8⟩))
  refine gU (results_tmp2 rfl _ _ _) rfl ?_;exact⟨HKA.out.trans (hk8 _),p,rfl,HTR.out w8 hk8,hR8⟩
 |false=>
  go_wp2_with (first|(go_at_call 189;refine(zAH (r:=r) (x:=q) (y:=q) ⟨#[41]⟩ hs (by omega) (by decide) h2 rfl hR7).mono ?_;rintro e w8 ⟨rfl,hR8,hk8⟩))
  refine gU (results_tmp2 rfl _ _ _) rfl ?_;exact⟨HKA.out.trans (hk8 _),none,q,rfl,hR8⟩
theorem zHl (X:Nat->Prop)(b:Nat)(s:ByteArray)(dv:Value)(d:s.size<=1048576)(e:∀i,X i->i<b)(D:Nat)(defs:List (ByteArray×Tr))(k:Nat)(f:Reads)(u:∀both,zC6 s (D+2) λp=>f p both)(v:zA5 182 X b s dv D defs (D+2) k f)(w:World)(r:Rx)(c:RxAt w b s dv r)(z:DefsIn b X w D dv defs)(E:r.depth+(k+1)=8)(F:byt s r.at_=40):
  Calls prog 201 #[pX b] w (TrAns w X b s dv r D (brM s (k+1) f r.at_ r.both)):=by
 have x:r.at_<s.size:=zC0 (by omega);have G:=c.lt;have y:∀a,Keep w.heap.size b w a->DefsIn b X a D dv defs:=λa A=>z.go e (A.agree λi B C=>⟨B,kJ C⟩);unfold brM;rw[if_neg (by omega)];cases g:zK s r.at_ ⟨#[40,41]⟩ with
 |true=>exact zOC X b s dv d D w r c (by omega) (by omega) g
 |false=>
 rw[if_neg (by decide)];cases j:zK s r.at_ ⟨#[40,105,58]⟩ with
 |true=>exact zQU X b s dv d e D w r c (by omega) x g j _ (λa l m=>v a _ l (y a m) (by show r.depth+1+k=8;omega) (jA j:r.at_+3<=s.size)) λt q o=>(u _ _ _ _ o).2.1
 |false=>exact zQT X b s dv d e D w r c (by omega) x g j _ (λa l m=>v a _ l (y a m) (by show r.depth+1+k=8;omega) (by show r.at_+1<=_;omega)) λt q o=>(u _ _ _ _ o).2.1
end
def ThW (w:World)(X:Nat->Prop)(b:Nat)(s:ByteArray)(dv:Value)(r:Rx)(D:Nat)(G:Option (Tr×Nat))(n:Nat)(v4 v5:Value)(wr:World):Prop:=
 (∃f pos t p,n=f/\v4=pointer (some ⟨p,0,none⟩)/\v5=bool true/\pos<=s.size/\s.size+1-pos<=f/\zB4 s f pos t=G/\TreeIn (λi=>X i\/w.heap.size<=i) wr (D+4*pos) p t/\TrOk (D+4*pos) t/\RxAt wr b s dv {r with at_:=pos}/\Keep w.heap.size b w wr)\/
 (∃x pos,v4=pointer x/\v5=bool false/\G=none/\n=0/\RxAt wr b s dv {r with at_:=pos}/\Keep w.heap.size b w wr)
theorem zMC (w:World)(x y:Value)(c:Bool):∃a,a=w.alloc (.cells #[x,y,bool c] 163)/\a.cell? ⟨w.heap.size,0,none⟩=some x/\a.cell? ⟨w.heap.size,1,none⟩=some y/\a.cell? ⟨w.heap.size,2,none⟩=some (bool c)/\Hid (∀H b,H<=w.heap.size->Keep H b w a):=by
 have d:=gZ w (.cells #[x,y,bool c] 163);refine⟨_,rfl,?_,?_,?_,λH b e=>kZ _ _ e⟩
 all_goals (unfold cell?;rw[d];rfl)
def zPF (s:ByteArray):Option (Tr×Nat)->Option (Tr×Nat)
 |none=>none
 |some (t,q)=>zB4 s (s.size+1) q t
theorem zPp {w:World}{b:Nat}{s:ByteArray}{dv:Value}{r:Rx}(j:RxAt w b s dv r)(l:s.size<=1048576)(a:r.at_<=s.size):Hid (Calls prog 198 #[pX b] w λe w'=>∃(o:Tm) (q:Nat) (k:Bool),e=returned (tuple #[agg #[iX (o.least:Int),iX (o.most:Int),bool o.endless],bool k])/\Hid (o.least<=300/\o.most<=300/\RxAt w' b s dv {r with at_:=q}/\Keep w.heap.size b w w'/\(k=true/\zE6 s r.at_=some (o,q)\/k=false/\zE6 s r.at_=none))):=by
 refine(zGB w b s dv r j l a).mono ?_;rintro e w' ⟨f,a⟩;cases c:zE6 s r.at_ with
 |none=>
  rw[c] at a;obtain⟨q,rfl,d⟩:=a;exact⟨⟨0,0,false⟩,q,false,rfl,lX,lX,d,f,.inr ⟨rfl,rfl⟩⟩
 |some g=>
  obtain⟨o,q⟩:=g;rw[c] at a;obtain⟨rfl,d⟩:=a;have:=zIG s r.at_ o q c;exact⟨o,q,true,rfl,this.2.2.1,this.2.2.2,d,f,.inl ⟨rfl,rfl⟩⟩
theorem zOU (X:Nat->Prop)(b:Nat)(s:ByteArray)(dv:Value)(ai:s.size<=1048576)(au:∀i,X i->i<b)(D:Nat)(w:World)(r:Rx)(T:RxAt w b s dv r)(a:Option (Tr×Nat))(av:∀t q,a=some (t,q)->q<=s.size/\TrOk (D+4*q) t)(aw:Calls prog 196 #[pX b] w (TrAns w X b s dv r D a)):
  Calls prog 193 #[pX b] w (TrAns w X b s dv r D (zPF s a)):=by
 have aj:=vl T.lt;have ax:=vl aw;obtain⟨l,U⟩:∃l,l=zPF s a:=⟨_,rfl⟩
 have ay:Hid (∀e w2,TrAns w X b s dv r D a e w2->∃z A V,e=returned (tuple #[z,A])/\ThW w X b s dv r D l V z A w2):=λe w2 ak=>by
  cases a with
  |none=>
   obtain⟨W,v,q,rfl,Y⟩:=ak;exact⟨_,_,0,rfl,.inr ⟨v,q,rfl,rfl,U,rfl,Y,W⟩⟩
  |some g=>
   obtain⟨t0,al⟩:=g;obtain⟨W,p,rfl,az,Y⟩:=ak;have ⟨aA,aB⟩:=av t0 al rfl;exact⟨_,_,s.size+1,rfl,.inl ⟨s.size+1,al,t0,p,rfl,rfl,rfl,aA,by omega,U.symm,az,aB,Y,W⟩⟩
 rw[<-U];go_in;apply wp_cut;intro aC aa;go_wp2;apply aa.out;apply wp_cut;intro aC aa;go_wp2_with (go_at_call 196;refine ax.mono ?_;rintro e w2 am;obtain⟨z,A,V,rfl,K⟩:=ay e w2 am;have aD:=vl K;clear am K)
 apply aa.out;apply wp_cut;intro aW ab;refine wp_block ?_;go_loopg [4,5] V (λn z A wr=>ThW w X b s dv r D l n z A wr)
 case atStart=>exact aD
 case round=>
  rcases hrel with⟨f,c,t,B,aE,rfl,rfl,aF,aX,aG,aH,aI,C,E⟩|⟨x,c,rfl,rfl,an,-,C,E⟩
  ·cases f with
   |zero=>omega
   |succ f=>
   have d:Hid (TreeIn (λi=>X i\/w.heap.size<=i) wr (D+4*c) B t/\TrOk (D+4*c) t/\RxAt wr b s dv {r with at_:=c}/\Keep w.heap.size b w wr/\gk=f+1/\w.heap.size<=wr.heap.size):=⟨aH,aI,C,E,aE,E.size⟩
   have m:(if zBw s c then(match zE6 s c with|none=>none|some (o,q)=>zB4 s f q (zCn t o)) else some (t,c))=l:=aG;have L:=vl <| zE2 wr b s dv {r with at_:=c} C ai (by show c<=_;omega);cases ac:zBw s c with
   |false=>
    rw[ac] at m L;have N:=vl m.symm;go_wp2_with (go_at_call 197;refine L.mono ?_;rintro e aJ ⟨rfl,ad⟩;have ae:=ad.symm;subst ae)
    apply ab.out;go_wp2;rw[N.out];refine gU (results_tmp2 rfl _ _ _) rfl ?_;exact⟨d.2.2.2.1,B,rfl,d.1,d.2.2.1⟩
   |true=>
    rw[ac] at m L;rw[if_pos rfl] at m;have N:=vl m;have ao:=zPp d.2.2.1 ai aF;have aK:=vl λo q T=>zIG s c o q T;clear m ac;apply wp_cut;intro aL F;go_wp2_with (go_at_call 197;refine L.mono ?_;rintro e aJ ⟨rfl,ad⟩;have ae:=ad.symm;subst ae)
    apply F.out;clear F;refine wp_block ?_;apply wp_cut;intro aL F;go_wp2_with (go_at_call 198;refine ao.mono ?_;rintro e af ⟨o,u,k,rfl,O⟩)
    apply F.out;clear F ao;have ⟨y,ap,aY,aZ,a0,ag⟩:=zMC af (iX (o.least:Int)) (iX (o.most:Int)) o.endless;have P:Hid (RxAt y b s dv {r with at_:=u}/\TreeIn (λi=>X i\/w.heap.size<=i) y (D+4*c) B t/\Keep w.heap.size b w y):=by
     obtain⟨-,-,aM,aq,-⟩:=O;have K:=aj.out;have aN:=aq.size;have ah:=d.2.2.2.2.2;have H:Keep wr.heap.size b wr y:=aq.trans (ag _ _ aN);refine⟨RxAt.of_block aM ((ag af.heap.size af.heap.size lQ).block b (by omega) (by omega)),d.1.go (H.agree λi aO j=>⟨aO,by rcases j with j|j;exact kJ (au i j);omega⟩),d.2.2.2.1.trans ⟨H.os,H.output,H.size,λk a1 aP=>H.block k (by omega) aP⟩⟩
    have aQ:Hid (Ca 199 #[pX B,agg #[iX (o.least:Int),iX (o.most:Int),bool o.endless]] y λe w'=>∃R,e=returned (pX R)/\TreeIn (λi=>X i\/w.heap.size<=i) w' (D+4*c+1) R (zCn t o)/\RxAt w' b s dv {r with at_:=u}/\Keep w.heap.size b w w'):=by
     have K:=aj.out;have ah:=P.2.2.size;refine(zKA y _ _ B t P.2.1 d.2.1.few o ⟨O.1,O.2.1⟩).mono ?_;rintro e aR ⟨R,rfl,aS,I⟩;refine⟨R,rfl,aS.mono λi _ j=>?_,RxAt.of_block P.1 (I.block b (by omega) (by omega)),P.2.2.trans (I.lower ah ah)⟩;rcases j with j|j
     ·exact j.1
     ·exact .inr (by omega)
    rw[<-ap];clear ap ag;go_wp2_with (go_at_call 199;refine aQ.mono ?_;rintro e aR ⟨aT,rfl,aU,ar,I⟩)
    go_roundg (if k then f else 0)
    case measure=>rw[d.out.2.2.2.2.1];split <;> omega
    case rel=>
     rcases O.out.2.2.2.2 with⟨rfl,S⟩|⟨rfl,S⟩
     ·have J:=N.out
      rw[show zE6 s c=some (o,u) from S] at J;have aV:=aK o u S;exact .inl ⟨f,u,_,aT,rfl,rfl,rfl,aV.2.1,by omega,J,aU.deep (by omega),(zKz o d.2.1).deep (by omega),ar,I⟩
     ·have J:=N.out
      rw[show zE6 s c=none from S] at J;exact .inr ⟨_,u,rfl,rfl,J.symm,rfl,ar,I⟩
  ·have d:Hid (RxAt wr b s dv {r with at_:=c}/\Keep w.heap.size b w wr/\l=none):=⟨C,E,an⟩
   clear C E an;go_wp2;apply ab.out;clear ab;go_wp2;rw[d.out.2.2];refine gU (results_tmp2 rfl _ _ _) rfl ?_;exact⟨d.2.1,x,c,rfl,d.1⟩
theorem zFh (X:Nat->Prop)(b:Nat)(s:ByteArray)(dv:Value)(d:s.size<=1048576)(e:∀i,X i->i<b)(D:Nat)(defs:List (ByteArray×Tr))(k:Nat)(a:Reads)(f:∀both,zC6 s D λp=>zEB s defs k a p both)(g:zA5 196 X b s dv D defs D k (zEB s defs k a)):
  zA5 193 X b s dv D defs D k (zEJ s defs k a):=λw r c j l m=>by
 have:=g w r c j l m;unfold zEJ;exact zOU X b s dv d e D w r c _ (λt q o=>(f r.both r.at_ t q o).2) this
theorem zL5 {X:Nat->Prop}{b:Nat}{s:ByteArray}{dv:Value}{w:World}{r:Rx}(a:RxAt w b s dv r)(D kind:Nat)(c:Int)(d:c=kind):∃w1,w1=w.alloc (.cells #[iX c,nX,bool false,nX,zX,zX,bool false,zX] 165)/\Hid (Tw w1 (λi=>X i\/w.heap.size<=i) (w.heap.size+1) w.heap.size (D+4*r.at_) nX [] (zEi kind)/\RxAt w1 b s dv {r with at_:=r.at_}/\Keep w.heap.size b w w1):=by
 have e:=a.lt;subst d;refine⟨_,rfl,⟨gZ _ _,rfl,ownsRow_nil _ _ _ _,rfl,λi f=>absurd f (Nat.not_lt_zero _),by omega,by simp,⟨by show 0<=_;omega,by show 0<=_;omega,by show 0<=_;omega,by show 0<=_;omega⟩⟩,RxAt.of_block a (lG _ _ _ e),kZ _ _ lQ⟩
theorem zL6 {X:Nat->Prop}{b:Nat}{s:ByteArray}{dv:Value}{w wr w2:World}{r:Rx}{D m q h:Nat}{sv:Value}{x:List Nat}{t u:Tr}(I:b<w.heap.size)(y:∀i,X i->i<b)(o:Tw wr (λi=>X i\/w.heap.size<=i) (w.heap.size+1) w.heap.size (D+4*m) sv x t)(z:Keep w.heap.size b w wr)(c:Keep wr.heap.size b wr w2)(B:TreeIn (λi=>X i\/wr.heap.size<=i) w2 (D+4*q) h u)(C:RxAt w2 b s dv {r with at_:=q})(J:m<q)(E:TrOk (D+4*q) u)(K:t.parts.length<=2000000):
  Hid (Ca 188 #[pX w.heap.size,pX h] w2 λe w'=>e=rX/\RxAt w' b s dv {r with at_:=q}/\Keep w.heap.size b w w'/\∃p v,Tw w' (λi=>X i\/w.heap.size<=i) (w.heap.size+1) w.heap.size (D+4*q) p v (t.add u)):=by
 have L:=z.size;have M:=o.lt;have A:∀g,some g=sv.ownBlock->w.heap.size+1<=g/\g<wr.heap.size:=λg F=>o.own.lt g F.symm;have d:=(o.keep c (.inl (by omega)) (by omega) (λ_ a=>by rcases a with a|a;exact Nat.lt_irrefl _ (y b a);omega)).deep (show D+4*m<=D+4*q by omega);have l:TreeIn (λj=>(X j\/w.heap.size<=j)/\j≠w.heap.size/\some j≠sv.ownBlock) w2 (D+4*q) h u:=B.mono λi _ a=>by
  rcases a with a|a
  ·have N:=y i a
   exact⟨.inl a,by omega,λe=>by have:=(A i e).1;omega⟩
  ·exact⟨.inr (by omega),by omega,λe=>by have:=(A i e).2;omega⟩
 refine(zHo w2 _ _ _ _ sv x t d h u l E.few (by omega)).mono ?_;rintro e O ⟨rfl,p,v,G,H⟩;have f:=H.keep d.own d.lt;exact⟨rfl,RxAt.of_block C (f.block b (by omega) (by omega)),(z.trans ⟨c.os,c.output,c.size,λk d l=>c.block k (by omega) l⟩).trans ⟨f.os,f.output,f.size,λk d l=>f.block k (by omega) (by omega)⟩,p,v,G⟩
theorem zHy {X:Nat->Prop}{b:Nat}{s:ByteArray}{dv:Value}{w f:World}{r:Rx}{D q:Nat}{sv:Value}{l:List Nat}{t:Tr}(x:b<w.heap.size)(m:∀i,X i->i<b)(h:Tw f (λi=>X i\/w.heap.size<=i) (w.heap.size+1) w.heap.size (D+4*q) sv l t)(o:Keep w.heap.size b w f):
  Hid (∀c,RxAt c b s dv {r with at_:=q}->(∀H,Keep H b f c)->Ca 190 #[pX w.heap.size] c λe w'=>∃d,e=returned (pX d)/\TreeIn (λi=>X i\/w.heap.size<=i) w' (D+1+4*q) d t.plain/\RxAt w' b s dv {r with at_:=q}/\Keep w.heap.size b w w'):=λc p g=>by
 have y:=h.lt;have z:=(g 0).size;have u:=h.keep (g _) (.inl (by omega)) (by omega) (λ_ a=>by rcases a with a|a;exact Nat.lt_irrefl _ (m b a);omega);refine(zFp c _ (D+4*q+1) w.heap.size _ (u.in (.inr lQ) λj A=>.inr (by omega))).mono ?_;rintro e B ⟨d,rfl,v,k⟩;refine⟨d,rfl,?_,RxAt.of_block p (k.block b (by omega) (by omega)),(o.trans (g _)).trans (k.lower (by omega) (by omega))⟩;rw[show D+1+4*q=D+4*q+1 by omega];exact v.mono λi _ a=>by
  rcases a with a|a
  ·exact a.1
  ·exact .inr (by omega)
theorem zFk (X:Nat->Prop)(b:Nat)(s:ByteArray)(dv:Value)(ag:s.size<=1048576)(C:∀i,X i->i<b)(Y D:Nat)(defs:List (ByteArray×Tr))(k:Nat)(c:Reads)(ah:∀both,zC6 s D λp=>c p both)(ai:zA5 193 X b s dv Y defs D k c):
  zA5 187 X b s dv Y defs (D+1) k (λp both=>zCq s (λq=>c q both) (s.size+1) p (zEi 2)):=λw r aa aj ak al=>by
 show Calls prog 187 #[pX b] w (TrAns w X b s dv r (D+1) (zCq s (λq=>c q r.both) (s.size+1) r.at_ (zEi 2)));have O:=vl aa.lt;have am:Hid (∀wr a,RxAt wr b s dv {r with at_:=a}->Keep w.heap.size b w wr->a<=s.size->Ca 193 #[pX b] wr (TrAns wr X b s dv {r with at_:=a} D (c a r.both))):=λwr a E F an=>ai wr {r with at_:=a} E (aj.go C (F.agree λi ao o=>⟨ao,kJ o⟩)) ak an;have ap:=vl (ah r.both);obtain⟨z,ab⟩:∃z,z=zCq s (λq=>c q r.both) (s.size+1) r.at_ (zEi 2):=⟨_,rfl⟩
 have aq:=vl ab.symm;rw[<-ab];have ⟨w1,ar,P⟩:=zL5 (X:=X) aa D 2 2 rfl;go_in;apply wp_cut;intro I d;go_wp2;apply d.out;apply wp_cut;intro I d;go_wp2;apply d.out;rw[<-ar];refine wp_block ?_;go_loopg [6] (s.size+1) (λn v wr=>∃f a t sv R,n=f/\a<=s.size/\s.size+1-a<=f/\zCq s (λq=>c q r.both) f a t=z/\Tw wr (λi=>X i\/w.heap.size<=i) (w.heap.size+1) w.heap.size (D+4*a) sv R t/\TrOk (D+1+4*a) t/\(t.kind=2\/t.kind=3)/\t.parts.length<=a/\RxAt wr b s dv {r with at_:=a}/\Keep w.heap.size b w wr)
 case atStart=>exact⟨s.size+1,r.at_,zEi 2,_,_,rfl,al,by omega,aq,P.1,by rw[show D+1+4*r.at_=D+4*r.at_+1 by omega];exact zIs _ 2 (.inl rfl),.inl rfl,lX,P.2.1,P.2.2⟩
 case round=>
  obtain⟨f,a,t,sv,R,au,av,aM,ac,aw,ax,ay,aN,E,F⟩:=hrel;cases f with
  |zero=>omega
  |succ f=>
  have J:=am wr a E F av;have j:Hid (Tw wr (λi=>X i\/w.heap.size<=i) (w.heap.size+1) w.heap.size (D+4*a) sv R t/\TrOk (D+1+4*a) t/\(t.kind=2\/t.kind=3)/\RxAt wr b s dv {r with at_:=a}/\Keep w.heap.size b w wr/\gk=f+1):=⟨aw,ax,ay,E,F,au⟩
  cases A:c a r.both with
  |none=>
   rw[A] at J;have S:=vl J;have B:Hid (z=none):=by
    show _=_;rw[<-ac];unfold zCq;rw[A]
   refine wp_block ?_;go_wp2_with (go_at_call 193;refine S.mono ?_;rintro e w2 ⟨x,v2,q2,rfl,T⟩)
   rw[B.out];refine gU (results_tmp2 rfl _ _ _) rfl ?_;have aO:=j.2.2.2.2.1.size;exact⟨j.2.2.2.2.1.trans ⟨x.os,x.output,x.size,λk aP az=>x.block k (by omega) az⟩,none,q2,rfl,T⟩
  |some g=>
   obtain⟨u,q⟩:=g;rw[A] at J;have S:=vl J;have K:=vl <| ap a u q A;have L:Hid ((if zCx s q then some ((t.add u).plain,q) else zCq s (λq=>c q r.both) f q (t.add u))=z):=by
    show _=_;rw[<-ac]
    conv=>rhs;unfold zCq
    rw[A]
   refine wp_block ?_;apply wp_cut;intro I d;go_wp2_with (go_at_call 193;refine S.mono ?_;rintro e w2 ⟨x,aQ,rfl,aA,T⟩)
   apply d.out;apply wp_cut;intro I d;go_wp2;apply d.out;have aB:=K.1;have aC:=K.2.1;have aD:=zL6 O C j.1 j.2.2.2.2.1 x aA T aB K.2.2 (by omega);apply wp_cut;intro I d;go_wp2_with (go_at_call 188;refine aD.mono ?_;rintro e y ⟨rfl,aE,aF,ad,ae,aG⟩)
   apply d.out;have l:Hid (Tw y (λi=>X i\/w.heap.size<=i) (w.heap.size+1) w.heap.size (D+4*q) ad ae (t.add u)/\RxAt y b s dv {r with at_:=q}/\Keep w.heap.size b w y/\TrOk (D+1+4*q) (t.add u)):=⟨aG,aE,aF,by
    rw[show D+1+4*q=D+4*q+1 by omega];exact zIV (j.2.1.deep (by omega)) j.2.2.1 K.2.2⟩
   have N:Hid (Ca 194 #[pX b] y λe w'=>e=returned (bool (zCx s q))/\RxAt w' b s dv {r with at_:=q}/\∀H,Keep H b y w'):=by
    refine(zG6 y b s dv {r with at_:=q} l.2.1 ag (by show q<=_;omega)).mono ?_;rintro e U ⟨rfl,m⟩;exact⟨rfl,RxAt.of_block l.2.1 ((m (b+1) (b+1)).block b (by omega) (by omega)),λH=>m H b⟩
   cases af:zCx s q with
   |true=>
    rw[af] at N L;have V:=N;have B:=vl L.symm;have aH:=zHy (s:=s) (dv:=dv) (r:=r) O C l.1 l.2.2.1;go_wp2_with (first|(go_at_call 194;refine V.mono ?_;rintro e U ⟨rfl,W,m⟩)|(go_at_call 190;refine(aH U W m).mono ?_;rintro e aR ⟨aI,rfl,aJ,aK,aL⟩))
    rw[B.out];refine gU (results_tmp2 rfl _ _ _) rfl ?_;exact⟨aL,aI,rfl,aJ,aK⟩
   |false=>
    rw[af] at N L;have V:=N;have B:=vl L;go_wp2_with (go_at_call 194;refine V.mono ?_;rintro e U ⟨rfl,W,m⟩)
    have aS:=O.out;go_roundg f
    case measure=>rw[j.out.2.2.2.2.2];omega
    case rel=>exact⟨f,q,t.add u,ad,ae,rfl,aC,by omega,B,l.1.keep (m _) (.inl (by omega)) (by omega) (λ_ o=>by rcases o with o|o;exact Nat.lt_irrefl _ (C b o);omega),l.2.2.2,zEE j.2.2.1,by show(t.parts++[u]).length<=q;rw[kX];show t.parts.length+1<=q;omega,W,l.2.2.1.trans (m _)⟩
theorem zCI (X:Nat->Prop)(b:Nat)(s:ByteArray)(dv:Value)(Y:s.size<=1048576)(E:∀i,X i->i<b)(aa D:Nat)(defs:List (ByteArray×Tr))(k:Nat)(c:Reads)(ah:∀both,zC6 s D λp=>c p both)(ai:zA5 187 X b s dv aa defs D k c):
  zA5 182 X b s dv aa defs (D+1) k (λp both=>zAW s (λq=>c q both) (s.size+1) p (zEi 3)):=λw r ab aj ak al=>by
 show Calls prog 182 #[pX b] w (TrAns w X b s dv r (D+1) (zAW s (λq=>c q r.both) (s.size+1) r.at_ (zEi 3)));have O:=vl ab.lt;have am:Hid (∀wr a,RxAt wr b s dv {r with at_:=a}->Keep w.heap.size b w wr->a<=s.size->Ca 187 #[pX b] wr (TrAns wr X b s dv {r with at_:=a} D (c a r.both))):=λwr a F H an=>ai wr {r with at_:=a} F (aj.go E (H.agree λi ao m=>⟨ao,kJ m⟩)) ak an;have ap:=vl (ah r.both);obtain⟨z,ac⟩:∃z,z=zAW s (λq=>c q r.both) (s.size+1) r.at_ (zEi 3):=⟨_,rfl⟩
 have aq:=vl ac.symm;rw[<-ac];have ⟨w1,ar,P⟩:=zL5 (X:=X) ab D 3 3 rfl;go_in;apply wp_cut;intro I d;go_wp2;apply d.out;apply wp_cut;intro I d;go_wp2;apply d.out;rw[<-ar];refine wp_block ?_;go_loopg [6] (s.size+1) (λn v wr=>∃f a t sv R,n=f/\a<=s.size/\s.size+1-a<=f/\zAW s (λq=>c q r.both) f a t=z/\Tw wr (λi=>X i\/w.heap.size<=i) (w.heap.size+1) w.heap.size (D+4*a) sv R t/\TrOk (D+1+4*a) t/\(t.kind=2\/t.kind=3)/\t.parts.length<=a/\RxAt wr b s dv {r with at_:=a}/\Keep w.heap.size b w wr)
 case atStart=>exact⟨s.size+1,r.at_,zEi 3,_,_,rfl,al,by omega,aq,P.1,by rw[show D+1+4*r.at_=D+4*r.at_+1 by omega];exact zIs _ 3 (.inr rfl),.inr rfl,lX,P.2.1,P.2.2⟩
 case round=>
  obtain⟨f,a,t,sv,R,au,av,aM,ad,aw,ax,ay,aN,F,H⟩:=hrel;cases f with
  |zero=>omega
  |succ f=>
  have J:=am wr a F H av;have j:Hid (Tw wr (λi=>X i\/w.heap.size<=i) (w.heap.size+1) w.heap.size (D+4*a) sv R t/\TrOk (D+1+4*a) t/\(t.kind=2\/t.kind=3)/\RxAt wr b s dv {r with at_:=a}/\Keep w.heap.size b w wr/\gk=f+1):=⟨aw,ax,ay,F,H,au⟩
  cases A:c a r.both with
  |none=>
   rw[A] at J;have S:=vl J;have B:Hid (z=none):=by
    show _=_;rw[<-ad];unfold zAW;rw[A]
   refine wp_block ?_;go_wp2_with (go_at_call 187;refine S.mono ?_;rintro e w2 ⟨o,v2,q2,rfl,T⟩)
   rw[B.out];refine gU (results_tmp2 rfl _ _ _) rfl ?_;have aO:=j.2.2.2.2.1.size;exact⟨j.2.2.2.2.1.trans ⟨o.os,o.output,o.size,λk aP az=>o.block k (by omega) az⟩,none,q2,rfl,T⟩
  |some g=>
   obtain⟨u,q⟩:=g;rw[A] at J;have S:=vl J;have K:=vl <| ap a u q A;have L:Hid ((if zK s q ⟨#[124]⟩ then zAW s (λq=>c q r.both) f (q+1) (t.add u) else some ((t.add u).plain,q))=z):=by
    show _=_;rw[<-ad]
    conv=>rhs;unfold zAW
    rw[A]
   refine wp_block ?_;apply wp_cut;intro I d;go_wp2_with (go_at_call 187;refine S.mono ?_;rintro e w2 ⟨o,aQ,rfl,aA,T⟩)
   apply d.out;apply wp_cut;intro I d;go_wp2;apply d.out;have aB:=K.1;have aR:=K.2.1;have aC:=zL6 O E j.1 j.2.2.2.2.1 o aA T aB K.2.2 (by omega);apply wp_cut;intro I d;go_wp2_with (go_at_call 188;refine aC.mono ?_;rintro e U ⟨rfl,aD,aE,ae,af,aF⟩)
   apply d.out;have l:Hid (Tw U (λi=>X i\/w.heap.size<=i) (w.heap.size+1) w.heap.size (D+4*q) ae af (t.add u)/\RxAt U b s dv {r with at_:=q}/\Keep w.heap.size b w U/\TrOk (D+1+4*q) (t.add u)):=⟨aF,aD,aE,by
    rw[show D+1+4*q=D+4*q+1 by omega];exact zIV (j.2.1.deep (by omega)) j.2.2.1 K.2.2⟩
   cases C:zK s q ⟨#[124]⟩ with
   |false=>
    have V:=vl (zAH (r:=r) (x:=q) (y:=q) ⟨#[124]⟩ Y (by omega) (by decide) C rfl l.2.1);rw[C] at L;have B:=vl L.symm;have aG:=zHy (s:=s) (dv:=dv) (r:=r) O E l.1 l.2.2.1;go_wp2_with (first|(go_at_call 189;refine V.mono ?_;rintro e ag ⟨rfl,W,N⟩)|(go_at_call 190;refine(aG ag W N).mono ?_;rintro e aS ⟨aH,rfl,aI,aJ,aK⟩))
    rw[B.out];refine gU (results_tmp2 rfl _ _ _) rfl ?_;exact⟨aK,aH,rfl,aI,aJ⟩
   |true=>
    have V:=vl (zAH (r:=r) (x:=q) (y:=q+1) ⟨#[124]⟩ Y (by omega) (by decide) C rfl l.2.1);have aL:=jA C;rw[C] at L;have B:=vl L;go_wp2_with (go_at_call 189;refine V.mono ?_;rintro e ag ⟨rfl,W,N⟩)
    have aT:=O.out;go_roundg f
    case measure=>rw[j.out.2.2.2.2.2];omega
    case rel=>exact⟨f,q+1,t.add u,ae,af,rfl,aL,by omega,B,(l.1.keep (N _) (.inl (by omega)) (by omega) (λ_ m=>by rcases m with m|m;exact Nat.lt_irrefl _ (E b m);omega)).deep (by omega),l.2.2.2.deep (by omega),zEE j.2.2.1,by show(t.parts++[u]).length<=q+1;rw[kX];show t.parts.length+1<=q+1;omega,W,l.2.2.1.trans (N _)⟩
theorem zEw (X:Nat->Prop)(b:Nat)(s:ByteArray)(dv:Value)(a:s.size<=1048576)(d:∀i,X i->i<b)(D:Nat)(defs:List (ByteArray×Tr))(f:defs.length<=1000000)(c:zBM D defs):∀k,zA5 182 X b s dv D defs (D+2) k (zCk s defs k)
 |0=>zCI X b s dv a d D (D+1) defs 0 _ (zH7 a c (λ_ p t q e=>by cases e)) (zFk X b s dv a d D D defs 0 _ (zEI a c (λ_ p t q e=>by cases e)) (zFh X b s dv a d D defs 0 _ (zGS a c (λ_ p t q e=>by cases e)) (zGR X b s dv a d D defs f 0 _ λw r e _ g _ _=>zPz X b s dv D w r e g)))
 |k+1=>zCI X b s dv a d D (D+1) defs (k+1) _ (zH7 a c (zAF a c k)) (zFk X b s dv a d D D defs (k+1) _ (zEI a c (zAF a c k)) (zFh X b s dv a d D defs (k+1) _ (zGS a c (zAF a c k)) (zGR X b s dv a d D defs f (k+1) _ λw r e j g _ l=>zHl X b s dv a d D defs k _ (zAF a c k) (zEw X b s dv a d D defs f c k) w r e j g l)))
theorem DefsIn.step {b c:Nat}{X f:Nat->Prop}{w w2:World}{D:Nat}{v:Value}{l:List (ByteArray×Tr)}(m:DefsIn b X w D v l)(a:Grew w w2)(A:b<=c)(q:∀i,i<w.heap.size->X i->f i):DefsIn c f w2 D v l:=by
 obtain⟨ao,cap,r,s,t,u⟩:=m;refine⟨ao,cap,r,s,t,λi d=>?_⟩;have ⟨g,o,p,x,j,B,c0,c1,y,z⟩:=u i d;have k:=j;have e:=a.block g j (kJ k);exact⟨g,o,p,x,lZ k a.size,by omega,(gY e).trans c0,(gY e).trans c1,y.step (a.agree λi d _=>⟨d,kJ d⟩) q,z⟩
def zIZ (w:World)(X:Nat->Prop)(D:Nat)(a:Option Tr)(e:Ending)(w':World):Prop:=
 Grew w w'/\match a with
 |none=>e=returned (tuple #[pointer none,bool false])
 |some t=>∃p,e=returned (tuple #[pointer (some ⟨p,0,none⟩),bool true])/\TreeIn (λi=>(X i/\i<w.heap.size)\/w.heap.size<=i) w' D p t
theorem zAv (w:World)(X:Nat->Prop)(s:ByteArray)(dv:Value)(C:s.size<=1048576)(D:Nat)(defs:List (ByteArray×Tr))(E:DefsIn w.heap.size X w D dv defs)(I:defs.length<=1000000)(F:zBM D defs):
  Calls prog 162 #[string s,dv] w (zIZ w X (D+2+4*s.size) (jN s defs)):=by
 obtain⟨w1,f,c⟩:∃w1,w1=w.alloc (.cells #[string s,dv,zX,zX,fX] 252)/\Hid (Ca 182 #[pX w.heap.size] w1 (TrAns w1 (λi=>X i/\i<w.heap.size) w.heap.size s dv ⟨0,0,false⟩ (D+2) (zCk s defs 8 0 false))/\w1.heap.size=w.heap.size+1/\Grew w w1):=by
  refine⟨_,rfl,?_,by simp,kZ _ _ lQ⟩;exact zEw (λi=>X i/\i<w.heap.size) w.heap.size s dv C (λi y=>y.2) D defs I F 8 _ ⟨0,0,false⟩ (gZ _ _) (E.step (kZ _ _ lQ) lQ λi y h=>⟨h,y⟩) rfl lX
 obtain⟨ao,cap,rfl,-⟩:=E;have z:Hid (∀w2,Keep w1.heap.size w.heap.size w1 w2->Grew w w2):=λw2 r=>c.2.2.trans ⟨r.os,r.output,r.size,λk M J=>r.block k (by have:=c.2.1;omega) J⟩;have l:Hid (jN s defs=match zCk s defs 8 0 false with|none=>none|some (t,q)=>if q=s.size then some t else none):=rfl;have A:Hid (∀t q,zCk s defs 8 0 false=some (t,q)->q<=s.size):=λt q e=>(zAF C F 8 false 0 t q e).2.1;cases b:zCk s defs 8 0 false with
 |none=>
  have u:Hid (Ca 182 #[pX w.heap.size] w1 (TrAns w1 (λi=>X i/\i<w.heap.size) w.heap.size s (slice ao defs.length cap) ⟨0,0,false⟩ (D+2) none)):=by have:=c.1;rw[b] at this;exact this
  have d:Hid (jN s defs=none):=by show _=_;rw[l.out,b]
  rw[d.out];go_in;apply wp_cut;intro m a;go_wp2;apply a.out;apply wp_cut;intro m a;go_wp2;apply a.out;clear a;rw[<-f];clear f;go_wp2_with (go_at_call 182;refine u.mono ?_;rintro e w2 ⟨o,v,q,rfl,x⟩)
  refine gU (results_tmp2 rfl _ _ _) rfl ?_;exact⟨z w2 o,rfl⟩
 |some g=>
  obtain⟨t,q⟩:=g;have u:Hid (Ca 182 #[pX w.heap.size] w1 (TrAns w1 (λi=>X i/\i<w.heap.size) w.heap.size s (slice ao defs.length cap) ⟨0,0,false⟩ (D+2) (some (t,q)))):=by have:=c.1;rw[b] at this;exact this
  have N:=A t q b;have B:=c.2.1;by_cases j:q=s.size
  ·have d:Hid (jN s defs=some t):=by show _=_;rw[l.out,b];exact if_pos j
   rw[d.out];clear b d l c A;have K:((q:Int) != (s.size:Int))=false:=by rw[j];simp
   have G:Hid (w1.heap.size=w.heap.size+1/\q=s.size):=⟨B,j⟩
   clear B j;go_in;apply wp_cut;intro m a;go_wp2;apply a.out;clear a;apply wp_cut;intro m a;go_wp2;apply a.out;clear a;rw[<-f];clear f;go_wp2_with (go_at_call 182;refine u.mono ?_;rintro e w2 ⟨o,p,rfl,H,x⟩;have L:cX w2 w.heap.size 2=some (iX (q:Int)):=x.cells.2.2.1)
   refine gU (results_tmp2 rfl _ _ _) rfl ?_;refine⟨z w2 o,p,rfl,?_⟩;rw[<-G.out.2];exact H.mono λi _ h=>by
    rcases h with h|h
    ·exact .inl h
    ·exact .inr (by have:=G.1;omega)
  ·have d:Hid (jN s defs=none):=by show _=_;rw[l.out,b];exact if_neg j
   rw[d.out];clear b d l c A B;have K:((q:Int) != (s.size:Int))=true:=by simp;omega
   clear j;go_in;apply wp_cut;intro m a;go_wp2;apply a.out;clear a;apply wp_cut;intro m a;go_wp2;apply a.out;clear a;rw[<-f];clear f;go_wp2_with (go_at_call 182;refine u.mono ?_;rintro e w2 ⟨o,p,rfl,H,x⟩;have L:cX w2 w.heap.size 2=some (iX (q:Int)):=x.cells.2.2.1)
   refine gU (results_tmp2 rfl _ _ _) rfl ?_;exact⟨z w2 o,rfl⟩
section
def zBy (f g:Nat->Value)(n:Nat):List Value:=(List.range n).flatMap λi=>[f i,g i]
theorem jC (f g:Nat->Value)(n:Nat):zBy f g (n+1)=zBy f g n++[f n,g n]:=by
 unfold zBy;rw[List.range_succ,List.flatMap_append];rfl
theorem zHB (f g:Nat->Value)(n:Nat):(zBy f g n).length=n*2:=by
 induction n with
 |zero=>rfl
 |succ n a=>rw[jC,kX,a];show n*2+2=_;omega
theorem zBO (f g:Nat->Value)(n i:Nat)(d:i<n):(zBy f g n)[i*2]? =some (f i)/\(zBy f g n)[i*2+1]? =some (g i):=by
 induction n with
 |zero=>omega
 |succ n a=>
  rw[jC];have b:=zHB f g n;by_cases c:i<n
  ·rw[kW (by omega),kW (by omega)]
   exact a c
  ·have e:i=n:=by omega
   subst e;rw[hZ (by omega),hZ (by omega),b,Nat.sub_self,show i*2+1-i*2=1 by omega];exact⟨rfl,rfl⟩
theorem zBx (f g b c:Nat->Value)(n:Nat)(a:∀i,i<n->f i=b i/\g i=c i):zBy f g n=zBy b c n:=by
 induction n with
 |zero=>rfl
 |succ n d=>rw[jC,jC,d λi e=>a i (by omega),(a n (by omega)).1,(a n (by omega)).2]
theorem zMT (f g:Nat->Value)(n k:Nat)(v:Value)(d:k<n):(zBy f g n).set (k*2+1) v=zBy f (λi=>if i=k then v else g i) n:=by
 induction n with
 |zero=>omega
 |succ n a=>
  have b:=zHB f g n;rw[jC,jC];by_cases c:k<n
  ·rw[List.set_append_left _ _ (by omega),a c,if_neg (by omega)]
  ·have e:k=n:=by omega
   subst e;rw[List.set_append_right _ _ (by omega),b,show k*2+1-k*2=1 by omega,if_pos rfl];rw[zBx f (λi=>if i=k then v else g i) f g k λi j=>⟨rfl,if_neg (by omega)⟩];rfl
structure Sh where
 modes:List (ByteArray×List Tr)
 defs:List (ByteArray×Tr)
 acts:List Nat
 pushed:List ByteArray
def Sh.mode (s:Sh)(i:Nat):ByteArray×List Tr:=s.modes.getD i (⟨#[]⟩,[])
def Sh.defn (s:Sh)(i:Nat):ByteArray×Tr:=s.defs.getD i (⟨#[]⟩,Tr.none)
def Sh.none:Sh:=⟨[],[],[],[]⟩
structure Sw (w:World)(X:Nat->Prop)(S D:Nat)(sh:Sh)(mv dv av pv:Value)(rv:Nat->Value)(ps:Nat->List Nat)(dp:Nat->Nat):Prop where
 blk:w.heap[S]? =some (.cells #[mv,dv,av,pv] 114)
 mOwn:w.ownsRow (S+1) 120 2 mv sh.modes.length (zBy (λi=>string (sh.mode i).1) rv sh.modes.length)
 dOwn:w.ownsRow (S+1) 233 2 dv sh.defs.length (zBy (λi=>string (sh.defn i).1) (λi=>pointer (some ⟨dp i,0,none⟩)) sh.defs.length)
 aOwn:w.ownsRow (S+1) 3 1 av sh.acts.length (sh.acts.map λx:Nat=>int i64 (x:Int))
 pOwn:w.ownsRow (S+1) 9 1 pv sh.pushed.length (sh.pushed.map λx=>string x)
 rOwn:∀i,i<sh.modes.length->w.ownsRow (S+1) 158 1 (rv i) (sh.mode i).2.length (yJ (ps i))
 rApart:∀i j g,i<sh.modes.length->j<sh.modes.length->i≠j->(rv i).ownBlock=some g->some g≠(rv j).ownBlock
 rTree:∀i,i<sh.modes.length->∀k,k<(sh.mode i).2.length->TreeIn X w D ((ps i).getD k 0) ((sh.mode i).2.getD k Tr.none)
 dTree:∀i,i<sh.defs.length->TreeIn X w D (dp i) (sh.defn i).2
 xlt:∀g,X g->S<g/\g<w.heap.size
 xm:∀g,X g->some g≠mv.ownBlock/\some g≠dv.ownBlock/\some g≠av.ownBlock/\some g≠pv.ownBlock
 xr:∀g i,X g->i<sh.modes.length->some g≠(rv i).ownBlock
 lt:S<w.heap.size
def SwIs (w:World)(S D:Nat)(sh:Sh):Prop:=∃X mv dv av pv rv ps dp,Sw w X S D sh mv dv av pv rv ps dp
section
variable {w w2:World} {X:Nat->Prop} {S D E:Nat} {sh:Sh} {mv dv av pv:Value} {rv:Nat->Value} {ps:Nat->List Nat} {dp:Nat->Nat}
theorem xJ {H e j n c k l:Nat}{v d:Value}{xs m:List Value}(o:w.ownsRow H e j v n xs)(p:w.ownsRow H c k d l m)(q:e≠c)(g:Nat)(a:v.ownBlock=some g):some g≠d.ownBlock:=by
 rcases o.2 with⟨b,-⟩|⟨r,cap,t,b,u,f,-⟩
 ·rw[b] at a;cases a
 ·rw[b] at a
  have s:r=g:=by simpa[Value.ownBlock] using a
  rw[s] at f;exact zO p f (Ne.symm q)
theorem Sw.cells (a:Sw w X S D sh mv dv av pv rv ps dp):w.cell? ⟨S,0,none⟩=some mv/\w.cell? ⟨S,1,none⟩=some dv/\w.cell? ⟨S,2,none⟩=some av/\w.cell? ⟨S,3,none⟩=some pv/\∀i,w.frozen? ⟨S,i,none⟩=false:=by
 refine⟨?_,?_,?_,?_,λi=>?_⟩
 all_goals first|(unfold cell?;rw[a.blk];rfl)|(unfold frozen?;rw[a.blk];simp)
theorem Sw.grown (a:Sw w X S D sh mv dv av pv rv ps dp)(c:Grew w w2):Sw w2 X S D sh mv dv av pv rv ps dp:=by
 have d:∀{H e j n v xs},w.ownsRow H e j v n xs->w2.ownsRow H e j v n xs:=λm=>zD m λg _ f _=>c.block g f (kJ f);have l:Agree X w w2:=c.agree λi b _=>⟨b,kJ b⟩
 exact⟨(c.block S a.lt (kJ a.lt)).trans a.blk,d a.mOwn,d a.dOwn,d a.aOwn,d a.pOwn,λi b=>d (a.rOwn i b),a.rApart,λi b k o=>(a.rTree i b k o).go l,λi b=>(a.dTree i b).go l,λg f=>⟨(a.xlt g f).1,lZ (a.xlt g f).2 c.size⟩,a.xm,a.xr,lZ a.lt c.size⟩
theorem Sw.deep (a:Sw w X S D sh mv dv av pv rv ps dp)(c:D<=E):Sw w X S E sh mv dv av pv rv ps dp:=⟨a.blk,a.mOwn,a.dOwn,a.aOwn,a.pOwn,a.rOwn,a.rApart,λi b k d=>(a.rTree i b k d).deep c,λi b=>(a.dTree i b).deep c,a.xlt,a.xm,a.xr,a.lt⟩
theorem Sw.more (c:Sw w X S D sh mv dv av pv rv ps dp)(l:Grew w w2):Sw w2 (λi=>X i\/(w.heap.size<=i/\i<w2.heap.size)) S D sh mv dv av pv rv ps dp:=by
 have b:=c.grown l;have q:=c.lt;have f:∀{e m n v xs},w.ownsRow (S+1) e m v n xs->∀g,w.heap.size<=g->some g≠v.ownBlock:=λo g a e=>by have:=(o.lt g e.symm).2;omega
 refine⟨b.blk,b.mOwn,b.dOwn,b.aOwn,b.pOwn,b.rOwn,b.rApart,λi d k p=>(b.rTree i d k p).mono λ_ _ j=>.inl j,λi d=>(b.dTree i d).mono λ_ _ j=>.inl j,λg a=>?_,λg a=>?_,λg i a d=>?_,b.lt⟩
 ·rcases a with a|a
  ·exact b.xlt g a
  ·exact⟨by omega,a.2⟩
 ·rcases a with a|a
  ·exact b.xm g a
  ·exact⟨f c.mOwn g a.1,f c.dOwn g a.1,f c.aOwn g a.1,f c.pOwn g a.1⟩
 ·rcases a with a|a
  ·exact b.xr g i a d
  ·exact f (c.rOwn i d) g a.1
theorem yM {p H e b n:Nat}{u c v:Value}{xs:List Value}(d:KeepO p u c w w2)(f:w.ownsRow H e b v n xs)(l:p<H)(h:∀g,v.ownBlock=some g->some g≠u.ownBlock):w2.ownsRow H e b v n xs/\∀g,v.ownBlock=some g->some g≠c.ownBlock:=by
 refine⟨zD f λg m j a=>(d.block g j (by omega) (h g a)).1,λg a=>?_⟩;have k:=f.lt g a;exact(d.block g k.2 (by omega) (h g a)).2
theorem zAd {p c b:Nat}{u h:Value}{t:Tr}(a:KeepO p u h w w2)(j:TreeIn X w c b t)(e:∀g,X g->g≠p/\some g≠u.ownBlock):TreeIn X w2 c b t:=j.go ⟨a.os,a.output,a.size,λi k f=>(a.block i k (e i f).1 (e i f).2).1⟩
theorem zFM {o:Obj}{H e b n g cap m i:Nat}{v:Value}{xs c:List Value}(l:w.ownsRow H e b v n xs)(d:S<H)(y:H<=w.heap.size)(p:w2.ownsRow H e b (slice (qX g) m cap) m c)(a:(w.alloc o).grownBy w2 v.ownBlock)(q:v.ownBlock=some g\/w.heap.size<=g):
  (w2.setCell ⟨S,i,none⟩ (slice (qX g) m cap)).ownsRow H e b (slice (qX g) m cap) m c/\KeepO S v (slice (qX g) m cap) w (w2.setCell ⟨S,i,none⟩ (slice (qX g) m cap))/\w2.heap[S]? =w.heap[S]? :=by
 have r:∀j,j<H->w2.heap[j]? =w.heap[j]? :=λj A=>(a.block j (by simp;omega) λe=>by have:=(l.lt j e.symm).1;omega).trans (lG _ _ _ (by omega));have s:w.heap.size<=w2.heap.size:=lY (by simp) a.size;refine⟨xI p d,⟨a.os,a.output,by rw[zC];exact s,λk t u f=>⟨(lJ _ _ _ _ u).trans ((a.block k (by simp;omega) f).trans (lG _ _ _ t)),λe=>by
  have x:k=g:=by simpa[Value.ownBlock] using e
  rcases q with h|h
  ·exact f (by rw[h,x])
  ·omega⟩⟩,r S d⟩
end
end
section
section
variable {w w2:World} {X:Nat->Prop} {S D:Nat} {sh:Sh} {mv dv av pv:Value} {rv:Nat->Value} {ps:Nat->List Nat} {dp:Nat->Nat} {o:Obj} {g cap:Nat}
theorem zDg {p H e b n:Nat}{u c v:Value}{xs:List Value}(d:KeepO p u c w w2)(f:w.ownsRow H e b v n xs)(h:∀g,v.ownBlock=some g->g≠p)(j:∀g,v.ownBlock=some g->some g≠u.ownBlock):w2.ownsRow H e b v n xs/\∀g,v.ownBlock=some g->some g≠c.ownBlock:=by
 refine⟨zD f λg m k a=>(d.block g k (h g a) (j g a)).1,λg a=>?_⟩;have l:=f.lt g a;exact(d.block g l.2 (h g a) (j g a)).2
def Sh.addMode (sh:Sh)(nm:ByteArray):Sh:={sh with modes:=sh.modes++[(nm,[])]}
def Sh.addDef (sh:Sh)(nm:ByteArray)(t:Tr):Sh:={sh with defs:=sh.defs++[(nm,t)]}
def Sh.addAct (sh:Sh)(a:Nat):Sh:={sh with acts:=sh.acts++[a]}
def Sh.addPush (sh:Sh)(nm:ByteArray):Sh:={sh with pushed:=sh.pushed++[nm]}
theorem zAS (sh:Sh)(a:ByteArray)(i:Nat)(b:i<sh.modes.length):(sh.addMode a).mode i=sh.mode i:=by
 unfold Sh.mode Sh.addMode;rw[lW,lW];show((sh.modes++[(a,[])])[i]?).getD _=_;rw[kW b]
theorem zAT (sh:Sh)(a:ByteArray):(sh.addMode a).mode sh.modes.length=(a,[]):=by
 unfold Sh.mode Sh.addMode;simp
theorem zAk (sh:Sh)(a:ByteArray):(sh.addMode a).modes.length=sh.modes.length+1:=by unfold Sh.addMode;simp
theorem zDW (sh:Sh)(a:ByteArray)(t:Tr)(i:Nat)(b:i<sh.defs.length):(sh.addDef a t).defn i=sh.defn i:=by
 unfold Sh.defn Sh.addDef;rw[lW,lW];show((sh.defs++[(a,t)])[i]?).getD _=_;rw[kW b]
theorem zDX (sh:Sh)(a:ByteArray)(t:Tr):(sh.addDef a t).defn sh.defs.length=(a,t):=by
 unfold Sh.defn Sh.addDef;simp
theorem zDY (sh:Sh)(a:ByteArray)(t:Tr):(sh.addDef a t).defs.length=sh.defs.length+1:=by unfold Sh.addDef;simp
theorem Sw.appAct (a:Sw w X S D sh mv dv av pv rv ps dp){x:Nat}(s:w2.ownsRow (S+1) 3 1 (slice (qX g) (sh.acts.length+1) cap) (sh.acts.length+1) ((sh.acts.map λx:Nat=>iX (x:Int))++[iX (x:Int)]))(u:(w.alloc o).grownBy w2 av.ownBlock)(v:av.ownBlock=some g\/w.heap.size<=g){e:Value}(y:e=slice (qX g) (sh.acts.length+1) cap:=by rfl):
  Sw (w2.setCell ⟨S,2,none⟩ e) X S D (sh.addAct x) mv dv e pv rv ps dp/\KeepO S av e w (w2.setCell ⟨S,2,none⟩ e):=by
 have ⟨p,f,z⟩:=zFM (i:=2) a.aOwn (Nat.lt_succ_self S) a.lt s u v;rw[<-y] at p f;have A:=yM f a.mOwn (Nat.lt_succ_self S) (xJ a.mOwn a.aOwn (by decide));have B:=yM f a.dOwn (Nat.lt_succ_self S) (xJ a.dOwn a.aOwn (by decide));have C:=yM f a.pOwn (Nat.lt_succ_self S) (xJ a.pOwn a.aOwn (by decide));have E:=λi (j:i<sh.modes.length)=>yM f (a.rOwn i j) (Nat.lt_succ_self S) (xJ (a.rOwn i j) a.aOwn (by decide));have l:∀q,X q->q≠S/\some q≠av.ownBlock:=λq c=>⟨Nat.ne_of_gt (a.xlt q c).1,(a.xm q c).2.2.1⟩
 have r:∀m b t,TreeIn X w m b t->TreeIn X (w2.setCell ⟨S,2,none⟩ e) m b t:=λm b t F=>zAd f F l;have G:∀q,X q->some q≠e.ownBlock:=λq c=>(f.block q (a.xlt q c).2 (l q c).1 (l q c).2).2;have H:(w2.setCell ⟨S,2,none⟩ e).heap[S]? =some (.cells #[mv,dv,e,pv] 114):=by
  have:=z.trans a.blk;simp[setCell,lU,this]
 have I:∀q,X q->S<q/\q<(w2.setCell ⟨S,2,none⟩ e).heap.size:=λq c=>⟨(a.xlt q c).1,lZ (a.xlt q c).2 f.size⟩
 refine⟨⟨H,A.1,B.1,(by show(setCell _ _ _).ownsRow _ _ _ _ (sh.acts++[x]).length ((sh.acts++[x]).map _);rw[kX,List.map_append];exact p),C.1,λi j=>(E i j).1,a.rApart,λi j k J=>r _ _ _ (a.rTree i j k J),λi j=>r _ _ _ (a.dTree i j),I,λq c=>⟨(a.xm q c).1,(a.xm q c).2.1,G q c,(a.xm q c).2.2.2⟩,a.xr,lZ a.lt f.size⟩,f⟩
theorem Sw.appPush (a:Sw w X S D sh mv dv av pv rv ps dp){x:ByteArray}(s:w2.ownsRow (S+1) 9 1 (slice (qX g) (sh.pushed.length+1) cap) (sh.pushed.length+1) ((sh.pushed.map λx=>string x)++[string x]))(u:(w.alloc o).grownBy w2 pv.ownBlock)(v:pv.ownBlock=some g\/w.heap.size<=g){e:Value}(y:e=slice (qX g) (sh.pushed.length+1) cap:=by rfl):
  Sw (w2.setCell ⟨S,3,none⟩ e) X S D (sh.addPush x) mv dv av e rv ps dp/\KeepO S pv e w (w2.setCell ⟨S,3,none⟩ e):=by
 have ⟨p,f,z⟩:=zFM (i:=3) a.pOwn (Nat.lt_succ_self S) a.lt s u v;rw[<-y] at p f;have A:=yM f a.mOwn (Nat.lt_succ_self S) (xJ a.mOwn a.pOwn (by decide));have B:=yM f a.dOwn (Nat.lt_succ_self S) (xJ a.dOwn a.pOwn (by decide));have C:=yM f a.aOwn (Nat.lt_succ_self S) (xJ a.aOwn a.pOwn (by decide));have E:=λi (j:i<sh.modes.length)=>yM f (a.rOwn i j) (Nat.lt_succ_self S) (xJ (a.rOwn i j) a.pOwn (by decide));have l:∀q,X q->q≠S/\some q≠pv.ownBlock:=λq c=>⟨Nat.ne_of_gt (a.xlt q c).1,(a.xm q c).2.2.2⟩
 have r:∀m b t,TreeIn X w m b t->TreeIn X (w2.setCell ⟨S,3,none⟩ e) m b t:=λm b t F=>zAd f F l;have G:∀q,X q->some q≠e.ownBlock:=λq c=>(f.block q (a.xlt q c).2 (l q c).1 (l q c).2).2;have H:(w2.setCell ⟨S,3,none⟩ e).heap[S]? =some (.cells #[mv,dv,av,e] 114):=by
  have:=z.trans a.blk;simp[setCell,lU,this]
 have I:∀q,X q->S<q/\q<(w2.setCell ⟨S,3,none⟩ e).heap.size:=λq c=>⟨(a.xlt q c).1,lZ (a.xlt q c).2 f.size⟩
 refine⟨⟨H,A.1,B.1,C.1,(by show(setCell _ _ _).ownsRow _ _ _ _ (sh.pushed++[x]).length ((sh.pushed++[x]).map _);rw[kX,List.map_append];exact p),λi j=>(E i j).1,a.rApart,λi j k J=>r _ _ _ (a.rTree i j k J),λi j=>r _ _ _ (a.dTree i j),I,λq c=>⟨(a.xm q c).1,(a.xm q c).2.1,(a.xm q c).2.2.1,G q c⟩,a.xr,lZ a.lt f.size⟩,f⟩
theorem Sw.appDef (a:Sw w X S D sh mv dv av pv rv ps dp){m:ByteArray}{t:Tr}{p:Nat}(r:TreeIn X w D p t)(y:w2.ownsRow (S+1) 233 2 (slice (qX g) (sh.defs.length+1) cap) (sh.defs.length+1) (zBy (λi=>string (sh.defn i).1) (λi=>pointer (some ⟨dp i,0,none⟩)) sh.defs.length++[string m,pX p]))(z:(w.alloc o).grownBy w2 dv.ownBlock)(A:dv.ownBlock=some g\/w.heap.size<=g){f:Value}(B:f=slice (qX g) (sh.defs.length+1) cap:=by rfl):
  Sw (w2.setCell ⟨S,1,none⟩ f) X S D (sh.addDef m t) mv f av pv rv ps (λi=>if i=sh.defs.length then p else dp i)/\KeepO S dv f w (w2.setCell ⟨S,1,none⟩ f):=by
 have ⟨x,j,C⟩:=zFM (i:=1) a.dOwn (Nat.lt_succ_self S) a.lt y z A;rw[<-B] at x j;have E:=yM j a.mOwn (Nat.lt_succ_self S) (xJ a.mOwn a.dOwn (by decide));have F:=yM j a.aOwn (Nat.lt_succ_self S) (xJ a.aOwn a.dOwn (by decide));have G:=yM j a.pOwn (Nat.lt_succ_self S) (xJ a.pOwn a.dOwn (by decide));have H:=λi (l:i<sh.modes.length)=>yM j (a.rOwn i l) (Nat.lt_succ_self S) (xJ (a.rOwn i l) a.dOwn (by decide));have s:∀q,X q->q≠S/\some q≠dv.ownBlock:=λq c=>⟨Nat.ne_of_gt (a.xlt q c).1,(a.xm q c).2.1⟩
 have u:∀v b t,TreeIn X w v b t->TreeIn X (w2.setCell ⟨S,1,none⟩ f) v b t:=λv b t r=>zAd j r s;have I:∀q,X q->some q≠f.ownBlock:=λq c=>(j.block q (a.xlt q c).2 (s q c).1 (s q c).2).2;have J:(w2.setCell ⟨S,1,none⟩ f).heap[S]? =some (.cells #[mv,f,av,pv] 114):=by
  have:=C.trans a.blk;simp[setCell,lU,this]
 have K:∀q,X q->S<q/\q<(w2.setCell ⟨S,1,none⟩ f).heap.size:=λq c=>⟨(a.xlt q c).1,lZ (a.xlt q c).2 j.size⟩
 refine⟨⟨J,E.1,(by rw[zDY,jC,zDX,if_pos rfl,zBx (λi=>string ((sh.addDef m t).defn i).1) (λi=>pointer (some ⟨if i=sh.defs.length then p else dp i,0,none⟩)) (λi=>string (sh.defn i).1) (λi=>pointer (some ⟨dp i,0,none⟩)) _ λi l=>⟨by rw[zDW sh m t i l],by rw[if_neg (by omega)]⟩];exact x),F.1,G.1,λi l=>(H i l).1,a.rApart,λi l k L=>u _ _ _ (a.rTree i l k L),λi l=>(by
  rw[zDY] at l;by_cases e:i=sh.defs.length
  ·subst e;rw[zDX];simp only[if_pos];exact u _ _ _ r
  ·rw[zDW sh m t i (by omega)];simp only[if_neg e];exact u _ _ _ (a.dTree i (by omega))),K,λq c=>⟨(a.xm q c).1,I q c,(a.xm q c).2.2.1,(a.xm q c).2.2.2⟩,a.xr,lZ a.lt j.size⟩,j⟩
theorem Sw.appMode (a:Sw w X S D sh mv dv av pv rv ps dp){p:ByteArray}(A:w2.ownsRow (S+1) 120 2 (slice (qX g) (sh.modes.length+1) cap) (sh.modes.length+1) (zBy (λi=>string (sh.mode i).1) rv sh.modes.length++[string p,nX]))(B:(w.alloc o).grownBy w2 mv.ownBlock)(C:mv.ownBlock=some g\/w.heap.size<=g){l:Value}(E:l=slice (qX g) (sh.modes.length+1) cap:=by rfl):
  Sw (w2.setCell ⟨S,0,none⟩ l) X S D (sh.addMode p) l dv av pv (λi=>if i=sh.modes.length then nX else rv i) (λi=>if i=sh.modes.length then[] else ps i) dp/\KeepO S mv l w (w2.setCell ⟨S,0,none⟩ l):=by
 have ⟨x,m,F⟩:=zFM (i:=0) a.mOwn (Nat.lt_succ_self S) a.lt A B C;rw[<-E] at x m;have G:=yM m a.dOwn (Nat.lt_succ_self S) (xJ a.dOwn a.mOwn (by decide));have H:=yM m a.aOwn (Nat.lt_succ_self S) (xJ a.aOwn a.mOwn (by decide));have I:=yM m a.pOwn (Nat.lt_succ_self S) (xJ a.pOwn a.mOwn (by decide));have J:=λi (f:i<sh.modes.length)=>yM m (a.rOwn i f) (Nat.lt_succ_self S) (xJ (a.rOwn i f) a.mOwn (by decide));have s:∀q,X q->q≠S/\some q≠mv.ownBlock:=λq c=>⟨Nat.ne_of_gt (a.xlt q c).1,(a.xm q c).1⟩
 have y:∀u b t,TreeIn X w u b t->TreeIn X (w2.setCell ⟨S,0,none⟩ l) u b t:=λu b t K=>zAd m K s;have L:∀q,X q->some q≠l.ownBlock:=λq c=>(m.block q (a.xlt q c).2 (s q c).1 (s q c).2).2;have M:(w2.setCell ⟨S,0,none⟩ l).heap[S]? =some (.cells #[l,dv,av,pv] 114):=by
  have:=F.trans a.blk;simp[setCell,lU,this]
 have N:∀q,X q->S<q/\q<(w2.setCell ⟨S,0,none⟩ l).heap.size:=λq c=>⟨(a.xlt q c).1,lZ (a.xlt q c).2 m.size⟩
 refine⟨⟨M,(by rw[zAk,jC,zAT,if_pos rfl,zBx (λi=>string ((sh.addMode p).mode i).1) (λi=>if i=sh.modes.length then nX else rv i) (λi=>string (sh.mode i).1) rv _ λi f=>⟨by rw[zAS sh p i f],by rw[if_neg (by omega)]⟩];exact x),G.1,H.1,I.1,λi f=>(by
  rw[zAk] at f;by_cases e:i=sh.modes.length
  ·subst e;rw[zAT];simp only[if_pos];exact ownsRow_nil _ _ _ _
  ·rw[zAS sh p i (by omega)];simp only[if_neg e];exact(J i (by omega)).1),λi j q f O P c=>(by
  rw[zAk] at f O;by_cases e:i=sh.modes.length
  ·simp only[if_pos e] at c;cases c
  ·simp only[if_neg e] at c
   by_cases z:j=sh.modes.length
   ·simp only[if_pos z];intro v;cases v
   ·simp only[if_neg z];exact a.rApart i j q (by omega) (by omega) P c),λi f k r=>(by
  rw[zAk] at f;by_cases e:i=sh.modes.length
  ·subst e;rw[zAT] at r;exact absurd r (Nat.not_lt_zero _)
  ·rw[zAS sh p i (by omega)] at r ⊢;simp only[if_neg e];exact y _ _ _ (a.rTree i (by omega) k r)),λi f=>y _ _ _ (a.dTree i f),N,λq c=>⟨L q c,(a.xm q c).2.1,(a.xm q c).2.2.1,(a.xm q c).2.2.2⟩,λq i c f=>(by
  rw[zAk] at f;by_cases e:i=sh.modes.length
  ·simp only[if_pos e];intro v;cases v
  ·simp only[if_neg e];exact a.xr q i c (by omega)),lZ a.lt m.size⟩,m⟩
end
end
def Sh.addRule (sh:Sh)(k:Nat)(t:Tr):Sh:={sh with modes:=sh.modes.set k ((sh.mode k).1,(sh.mode k).2++[t])}
theorem zFz (sh:Sh)(k:Nat)(t:Tr):(sh.addRule k t).modes.length=sh.modes.length:=by unfold Sh.addRule;simp
theorem zAR (sh:Sh)(k:Nat)(t:Tr)(i:Nat)(a:i≠k):(sh.addRule k t).mode i=sh.mode i:=by
 unfold Sh.addRule
 conv=>lhs;unfold Sh.mode
 conv=>rhs;unfold Sh.mode
 rw[lW,lW];show((sh.modes.set k _)[i]?).getD _=_;rw[List.getElem?_set_ne (Ne.symm a),lW]
theorem zBE (sh:Sh)(k:Nat)(t:Tr)(a:k<sh.modes.length):(sh.addRule k t).mode k=((sh.mode k).1,(sh.mode k).2++[t]):=by
 unfold Sh.addRule
 conv=>lhs;unfold Sh.mode
 rw[lW];show((sh.modes.set k _)[k]?).getD _=_;rw[List.getElem?_set_self a];rfl
theorem zIX (sh:Sh)(k:Nat)(t:Tr)(a:k<sh.modes.length)(i:Nat):((sh.addRule k t).mode i).1=(sh.mode i).1:=by
 by_cases e:i=k
 ·subst e;rw[zBE sh i t a]
 ·rw[zAR sh k t i e]
theorem Sw.appRule {w w2:World}{X:Nat->Prop}{S D:Nat}{sh:Sh}{dv O P:Value}{rv:Nat->Value}{p:Nat->List Nat}{R:Nat->Nat}{o:Obj}{g cap m T k x:Nat}{t:Tr}(a:Sw w X S D sh (slice (qX m) sh.modes.length T) dv O P rv p R)(r:k<sh.modes.length)(G:TreeIn X w D x t)(ad:w2.ownsRow (S+1) 158 1 (slice (qX g) ((sh.mode k).2.length+1) cap) ((sh.mode k).2.length+1) (yJ (p k)++[pX x]))(B:(w.alloc o).grownBy w2 (rv k).ownBlock)(U:(rv k).ownBlock=some g\/w.heap.size<=g):
  Sw (w2.setCell ⟨m,k*2+1,none⟩ (slice (qX g) ((sh.mode k).2.length+1) cap)) X S D (sh.addRule k t) (slice (qX m) sh.modes.length T) dv O P (λi=>if i=k then slice (qX g) ((sh.mode k).2.length+1) cap else rv i) (λi=>if i=k then p k++[x] else p i) R/\KeepO m (rv k) (slice (qX g) ((sh.mode k).2.length+1) cap) w (w2.setCell ⟨m,k*2+1,none⟩ (slice (qX g) ((sh.mode k).2.length+1) cap)):=by
 have V:=a.lt;have aq:=a.mOwn.lt m rfl;have W:=xJ a.mOwn (a.rOwn k r) (by decide) m rfl;have ae:w.heap.size<=w2.heap.size:=lY (by simp) B.size;have af:g≠m:=λe=>by
  rcases U with y|y
  ·exact W (by rw[y,e])
  ·omega
 have Y:∀j,j<w.heap.size->some j≠(rv k).ownBlock->w2.heap[j]? =w.heap[j]? :=λj s ag=>(B.block j (by simp;omega) ag).trans (lG _ _ _ s);have u:KeepO m (rv k) (slice (qX g) ((sh.mode k).2.length+1) cap) w (w2.setCell ⟨m,k*2+1,none⟩ (slice (qX g) ((sh.mode k).2.length+1) cap)):=⟨B.os,B.output,by rw[zC];exact ae,λj H C aa=>⟨(lJ _ _ _ _ C).trans (Y j H aa),λe=>by
  have l:j=g:=by simpa[Value.ownBlock] using e
  rcases U with y|y
  ·exact aa (by rw[y,l])
  ·omega⟩⟩
 have E:∀{e ah n v xs},w.ownsRow (S+1) e ah v n xs->e≠120->∀q,v.ownBlock=some q->q≠m:=λai aj q c l=>xJ ai a.mOwn aj q c (by rw[l];rfl);have ak:=zDg u a.dOwn (E a.dOwn (by decide)) (xJ a.dOwn (a.rOwn k r) (by decide));have al:=zDg u a.aOwn (E a.aOwn (by decide)) (xJ a.aOwn (a.rOwn k r) (by decide));have am:=zDg u a.pOwn (E a.pOwn (by decide)) (xJ a.pOwn (a.rOwn k r) (by decide));have I:=λi (f:i<sh.modes.length) (hik:i≠k)=>zDg u (a.rOwn i f) (E (a.rOwn i f) (by decide)) (λq c=>a.rApart i k q f r hik c);have J:∀q,X q->q≠m/\some q≠(rv k).ownBlock:=λq c=>⟨λe=>(a.xm q c).1 (by rw[e];rfl),a.xr q k c r⟩
 have F:∀K b t,TreeIn X w K b t->TreeIn X (w2.setCell ⟨m,k*2+1,none⟩ (slice (qX g) ((sh.mode k).2.length+1) cap)) K b t:=λK b t G=>zAd u G J;have A:=zFz sh k t;refine⟨⟨?_,?_,ak.1,al.1,am.1,λi f=>?_,λi j q f s ab c=>?_,λi f j s=>?_,λi f=>F _ _ _ (a.dTree i f),λq c=>⟨(a.xlt q c).1,lZ (a.xlt q c).2 u.size⟩,a.xm,λq i c f=>?_,lZ V u.size⟩,u⟩
 ·exact(u.block S V (by omega) λe=>by have:=((a.rOwn k r).lt S e.symm).1;omega).1.trans a.blk
 ·have H:=zD a.mOwn λq _ c L=>Y q c (by
   have e:m=q:=by simpa[Value.ownBlock] using L
   rw[<-e];exact W)
  have C:=H.stored (k*2+1) (slice (qX g) ((sh.mode k).2.length+1) cap);rw[zMT _ _ _ _ _ r] at C;rw[A,zBx (λi=>string ((sh.addRule k t).mode i).1) _ (λi=>string (sh.mode i).1) (λi=>if i=k then slice (qX g) ((sh.mode k).2.length+1) cap else rv i) _ λi _=>⟨by rw[zIX sh k t r],rfl⟩];exact C.1
 ·rw[A] at f
  by_cases e:i=k
  ·subst e
   rw[zBE sh i t r];simp only[if_pos];have l:((sh.mode i).2++[t]).length=(sh.mode i).2.length+1:=by simp
   have M:yJ (p i++[x])=yJ (p i)++[pX x]:=by simp[yJ]
   show World.ownsRow _ _ _ _ _ ((sh.mode i).2++[t]).length _;rw[l,M];exact zD ad λq _ _ L=>lJ _ _ _ _ (by
    have an:g=q:=by simpa[Value.ownBlock] using L
    rw[<-an];exact af)
  ·rw[zAR sh k t i e]
   simp only[if_neg e];exact(I i f e).1
 ·rw[A] at f s
  by_cases e:i=k
  ·simp only[if_pos e] at c
   have l:j≠k:=λl=>ab (by rw[e,l]);simp only[if_neg l];exact λM=>(I j s l).2 q M.symm (c.symm)
  ·simp only[if_neg e] at c
   by_cases l:j=k
   ·simp only[if_pos l]
    exact(I i f e).2 q c
   ·simp only[if_neg l]
    exact a.rApart i j q f s ab c
 ·rw[A] at f
  by_cases e:i=k
  ·subst e
   rw[zBE sh i t r] at s ⊢;simp only[if_pos];have ao:(p i).length=(sh.mode i).2.length:=by
    have:=(a.rOwn i f).1;unfold yJ at this;rw[kV] at this;omega
   have ar:j<(sh.mode i).2.length+1:=by simpa using s
   show TreeIn X _ D ((p i++[x]).getD j 0) (((sh.mode i).2++[t]).getD j Tr.none);by_cases ac:j<(sh.mode i).2.length
   ·have N:(p i++[x]).getD j 0=(p i).getD j 0:=by rw[lW,lW,kW (by omega)]
    have l:((sh.mode i).2++[t]).getD j Tr.none=(sh.mode i).2.getD j Tr.none:=by rw[lW,lW,kW ac]
    rw[N,l];exact F _ _ _ (a.rTree i f j ac)
   ·have ap:j=(sh.mode i).2.length:=by omega
    subst ap;have N:(p i++[x]).getD (sh.mode i).2.length 0=x:=by rw[<-ao];simp
    have l:((sh.mode i).2++[t]).getD (sh.mode i).2.length Tr.none=t:=by simp
    rw[N,l];exact F _ _ _ G
  ·rw[zAR sh k t i e] at s ⊢
   simp only[if_neg e];exact F _ _ _ (a.rTree i f j s)
 ·rw[A] at f
  by_cases e:i=k
  ·simp only[if_pos e]
   exact(u.block q (a.xlt q c).2 (J q c).1 (J q c).2).2
  ·simp only[if_neg e]
   exact a.xr q i c f
theorem vH {w:World}{H e c n:Nat}{v:Value}{xs:List Value}(a:w.ownsRow H e c v n xs)(p:0<n):∃g cap,v=slice (qX g) n cap/\H<=g/\g<w.heap.size/\n<=cap/\cap<=maxLen/\(∀j u,xs[j]? =some u->w.cell? ⟨g,j,none⟩=some u)/\∀j,w.frozen? ⟨g,j,none⟩=false:=by
 rcases a.2 with⟨-,q⟩|⟨g,cap,r,b,d,f,k,l,-⟩
 ·omega
 ·have m:=a.lt g (by rw[b];rfl)
  refine⟨g,cap,b,d,m.2,k,l,λj u o=>?_,λj=>?_⟩
  ·have:=a.cells (g:=g) (by rw[b];rfl) j u o
   rw[Addr.add_lit,Nat.zero_add] at this;exact this
  ·unfold frozen?;rw[f];simp
theorem zEh {w:World}{H e b n:Nat}{v:Value}{xs:List Value}(c:w.ownsRow H e b v n xs):∃ao cap,v=slice ao n cap/\n<=cap/\cap<=maxLen:=by
 rcases c.2 with⟨a,d⟩|⟨g,cap,k,a,l,m,f,j,-⟩
 ·exact⟨none,0,by rw[a,d],by omega,by unfold maxLen;omega⟩
 ·exact⟨_,cap,a,f,j⟩
theorem zHN {a:Type}(l:List a)(p:a->Bool)(b:a)(j:Nat)(c:j<l.length)(g:p (l.getD j b)=true)(m:∀i,i<j->p (l.getD i b)=false):l.findIdx p=j:=by
 have e:∀i (f:i<l.length),l.getD i b=l[i]:=λi f=>by rw[lW,lV f];rfl
 rw[List.findIdx_eq c];refine⟨by rw[<-e j c];exact g,λk o=>?_⟩;rw[<-e k (by omega)];exact m k o
theorem zKb {a:Type}(l:List a)(p:a->Bool)(c:a)(f:∀i,i<l.length->p (l.getD i c)=false):l.findIdx p=l.length:=by
 apply List.findIdx_eq_length_of_false;intro x g;have ⟨i,b,e⟩:=List.getElem_of_mem g;have:=f i b;rw[lW,lV b] at this;rw[<-e];exact this
def Sh.modeIx (sh:Sh)(nm:ByteArray):Nat:=sh.modes.findIdx λm=>eqS m.1 nm
def Sh.modeI (sh:Sh)(nm:ByteArray):Int:=if sh.modeIx nm<sh.modes.length then(sh.modeIx nm:Int) else -1
def Sh.hasDefB (sh:Sh)(nm:ByteArray):Bool:=decide ((sh.defs.findIdx λm=>eqS m.1 nm)<sh.defs.length)
theorem zEj (w:World)(X:Nat->Prop)(S D:Nat)(sh:Sh)(L dv M N:Value)(rv:Nat->Value)(O:Nat->List Nat)(P:Nat->Nat)(m:Sw w X S D sh L dv M N rv O P)(aj:sh.modes.length<=1000000)(a:ByteArray):
  Calls prog 88 #[pX S,string a] w λe w'=>e=returned (iX (sh.modeI a))/\Grew w w':=by
 have R:Hid (∀j,j<sh.modes.length->eqS (sh.mode j).1 a=true->(∀i,i<j->eqS (sh.mode i).1 a=false)->sh.modeI a=(j:Int)):=λj o g p=>by
  have e:sh.modeIx a=j:=zHN sh.modes _ (⟨#[]⟩,[]) j o g p;unfold Sh.modeI;rw[e,if_pos o]
 have T:Hid ((∀i,i<sh.modes.length->eqS (sh.mode i).1 a=false)->sh.modeI a=-1):=λp=>by
  have e:sh.modeIx a=sh.modes.length:=zKb sh.modes _ (⟨#[]⟩,[]) p;unfold Sh.modeI;rw[e,if_neg (by omega)]
 generalize sh.modeI a=U at *;have ⟨ao,ak,x⟩:=zF m.mOwn;obtain⟨c0,-,-,-,-⟩:=m.cells;have y:=vl m;have W:=vl x;rw[x] at c0;go_in;go_wp2;go_loopg [12] sh.modes.length (λq i wr=>∃j:Nat,q=sh.modes.length-j/\j<=sh.modes.length/\i=iX (j:Int)/\(∀k,k<j->eqS (sh.mode k).1 a=false)/\Grew w wr)
 case atStart=>exact⟨0,rfl,lX,rfl,λk b=>by omega,Keep.refl _ _ _⟩
 case round=>
  obtain⟨j,z,o,rfl,r,b⟩:=hrel;have c:Hid (gk=sh.modes.length-j/\(∀k,k<j->eqS (sh.mode k).1 a=false)/\Grew w wr/\w.heap.size<=wr.heap.size):=⟨z,r,b,b.size⟩
  by_cases s:j<sh.modes.length
  ·have Y:(j:Int)<(sh.modes.length:Int):=by omega
   obtain⟨al,am,A,-,B,-,-,C,-⟩:=vH y.mOwn (by omega);rw[W.out] at A;injection A with aa an ab;subst aa ab;have ⟨ac,ad⟩:=zBO (λi=>string (sh.mode i).1) rv sh.modes.length j s;have ae:=zA (C _ _ ac) B b;have E:=zA (C _ _ ad) B b;have ⟨F,G,af⟩:=zF (y.rOwn j s);rw[af] at E;obtain⟨l,H,ap,I⟩:∃l,l=wr.alloc (.cells #[string (sh.mode j).1,(slice F (sh.mode j).2.length G)] 120)/\l.cell? ⟨wr.heap.size,0,none⟩=some (string (sh.mode j).1)/\Hid (Grew w l):=by
    have ag:=gZ wr (.cells #[string (sh.mode j).1,(slice F (sh.mode j).2.length G)] 120);refine⟨_,rfl,?_,c.2.2.1.trans (kZ _ _ c.2.2.2)⟩;unfold cell?;rw[ag];rfl
   have t:Hid (eqS (sh.mode j).1 a=true->U=(j:Int)):=λg=>R j s g c.2.1;have u:Hid (eqS (sh.mode j).1 a=false->∀k,k<j+1->eqS (sh.mode k).1 a=false):=λg k b=>by
    by_cases e:k=j
    ·rw[e];exact g
    ·exact c.2.1 k (by omega)
   apply wp_cut;intro J d;go_wp2;apply d.out;apply wp_cut;intro J d;go_wp2;apply d.out;apply wp_cut;intro aq K;refine wp_block ?_;apply wp_cut;intro J d;go_wp2;apply d.out;clear d;rw[<-H];clear H ae E;cases f:eqS (sh.mode j).1 a with
   |true=>
    have v:=vl <| t f;have ah:((sh.mode j).1.toList==a.toList)=true:=f;clear t u f;go_wp2;go_ret;exact⟨by rw[v.out];rfl,I⟩
   |false=>
    have ai:=u f;have ah:((sh.mode j).1.toList==a.toList)=false:=f;clear t u f;go_wp2;apply K.out;clear K;go_wp2;go_roundg (sh.modes.length-(j+1))
    case measure=>rw[c.out.1];omega
    case rel=>exact⟨j+1,rfl,by omega,by go_num,ai,I⟩
  ·have Y:(sh.modes.length:Int)<=(j:Int):=by omega
   have v:=vl <| T λk b=>r k (by omega);clear z r b;go_wp2;go_ret;exact⟨by rw[v.out];rfl,c.2.2.1⟩
theorem zEq (w:World)(X:Nat->Prop)(S D:Nat)(sh:Sh)(J dv K L:Value)(rv:Nat->Value)(M:Nat->List Nat)(l:Nat->Nat)(p:Sw w X S D sh J dv K L rv M l)(ah:sh.defs.length<=1000000)(a:ByteArray):
  Calls prog 161 #[pX S,string a] w λe w'=>e=returned (bool (sh.hasDefB a))/\Grew w w':=by
 have N:Hid (∀j,j<sh.defs.length->eqS (sh.defn j).1 a=true->(∀i,i<j->eqS (sh.defn i).1 a=false)->sh.hasDefB a=true):=λj r g s=>by
  have e:(sh.defs.findIdx λm=>eqS m.1 a)=j:=zHN sh.defs _ (⟨#[]⟩,Tr.none) j r g s;unfold Sh.hasDefB;rw[e];exact gG r
 have O:Hid ((∀i,i<sh.defs.length->eqS (sh.defn i).1 a=false)->sh.hasDefB a=false):=λs=>by
  have e:(sh.defs.findIdx λm=>eqS m.1 a)=sh.defs.length:=zKb sh.defs _ (⟨#[]⟩,Tr.none) s;unfold Sh.hasDefB;rw[e];exact gJ (by omega)
 generalize sh.hasDefB a=P at *;have ⟨ao,ai,y⟩:=zF p.dOwn;obtain⟨-,c0,-,-,-⟩:=p.cells;have R:=vl p;have T:=vl y;rw[y] at c0;go_in;go_wp2;go_loopg [12] sh.defs.length (λq i wr=>∃j:Nat,q=sh.defs.length-j/\j<=sh.defs.length/\i=iX (j:Int)/\(∀k,k<j->eqS (sh.defn k).1 a=false)/\Grew w wr)
 case atStart=>exact⟨0,rfl,lX,rfl,λk b=>by omega,Keep.refl _ _ _⟩
 case round=>
  obtain⟨j,z,r,rfl,t,b⟩:=hrel;have c:Hid (gk=sh.defs.length-j/\(∀k,k<j->eqS (sh.defn k).1 a=false)/\Grew w wr/\w.heap.size<=wr.heap.size):=⟨z,t,b,b.size⟩
  by_cases A:j<sh.defs.length
  ·have U:(j:Int)<(sh.defs.length:Int):=by omega
   obtain⟨aj,ak,B,-,C,-,-,E,-⟩:=vH R.dOwn (by omega);rw[T.out] at B;injection B with W al Y;subst W Y;have ⟨aa,ab⟩:=zBO (λi=>string (sh.defn i).1) (λi=>pointer (some ⟨l i,0,none⟩)) sh.defs.length j A;have ac:=zA (E _ _ aa) C b;have ad:=zA (E _ _ ab) C b;obtain⟨o,F,am,G⟩:∃o,o=wr.alloc (.cells #[string (sh.defn j).1,(pointer (some ⟨l j,0,none⟩))] 233)/\o.cell? ⟨wr.heap.size,0,none⟩=some (string (sh.defn j).1)/\Hid (Grew w o):=by
    have ae:=gZ wr (.cells #[string (sh.defn j).1,(pointer (some ⟨l j,0,none⟩))] 233);refine⟨_,rfl,?_,c.2.2.1.trans (kZ _ _ c.2.2.2)⟩;unfold cell?;rw[ae];rfl
   have u:Hid (eqS (sh.defn j).1 a=true->P=true):=λg=>N j A g c.2.1;have v:Hid (eqS (sh.defn j).1 a=false->∀k,k<j+1->eqS (sh.defn k).1 a=false):=λg k b=>by
    by_cases e:k=j
    ·rw[e];exact g
    ·exact c.2.1 k (by omega)
   apply wp_cut;intro H d;go_wp2;apply d.out;apply wp_cut;intro H d;go_wp2;apply d.out;apply wp_cut;intro an I;refine wp_block ?_;apply wp_cut;intro H d;go_wp2;apply d.out;clear d;rw[<-F];clear F ac ad;cases f:eqS (sh.defn j).1 a with
   |true=>
    have x:=vl <| u f;have af:((sh.defn j).1.toList==a.toList)=true:=f;clear u v f;go_wp2;go_ret;exact⟨by rw[x.out];rfl,G⟩
   |false=>
    have ag:=v f;have af:((sh.defn j).1.toList==a.toList)=false:=f;clear u v f;go_wp2;apply I.out;clear I;go_wp2;go_roundg (sh.defs.length-(j+1))
    case measure=>rw[c.out.1];omega
    case rel=>exact⟨j+1,rfl,by omega,by go_num,ag,G⟩
  ·have U:(sh.defs.length:Int)<=(j:Int):=by omega
   have x:=vl <| O λk b=>t k (by omega);clear z t b;go_wp2;go_ret;exact⟨by rw[x.out];rfl,c.2.2.1⟩
theorem zLs:(prog.info? 120).map (λi=>(i.zero,i.size,i.bytes))=some (some (agg #[string ⟨#[]⟩,nX]),2,40):=by kernel_rfl
def qB (sh:Sh)(nm:ByteArray):Option Sh:=if 3<=sh.modes.length then none else if 0<=sh.modeI nm then none else if xV nm then some (sh.addMode nm) else none
def LnAns (w:World)(S D:Nat)(a:Option Sh)(e:Ending)(w':World):Prop:=
 Keep S S w w'/\match a with
 |none=>e=returned (bool false)
 |some sh=>e=returned (bool true)/\SwIs w' S D sh
theorem zFq (sh:Sh)(a:ByteArray):sh.modeI a=-1\/(0<=sh.modeI a/\sh.modeI a<sh.modes.length):=by
 unfold Sh.modeI;split
 ·right;omega
 ·left;rfl
theorem zGh (w:World)(X:Nat->Prop)(S D:Nat)(sh:Sh)(L dv k l:Value)(rv:Nat->Value)(v:Nat->List Nat)(m:Nat->Nat)(f:Sw w X S D sh L dv k l rv v m)(M:sh.modes.length<=1000000)(a:ByteArray)(N:a.size<=1048576):
  Calls prog 120 #[pX S,string a] w (LnAns w S D (qB sh a)):=by
 obtain⟨O,P,R,T,U⟩:=info_parts zLs;obtain⟨ao,V,W⟩:=zF f.mOwn;subst W;obtain⟨c0,-,-,-,-⟩:=f.cells;have x:=vl <| zEj w X S D sh _ dv k l rv v m f M a;have o:Hid (∀w,Ca 160 #[string a] w λe w'=>e=returned (bool (xV a))/\w'=w):=λw=>jL w a N;have Y:=vl f;have E:=f.lt;have y:Hid (∀w1,Grew w w1->Keep S S w w1):=λw1 aa=>aa.lower (Nat.le_of_lt E) (Nat.le_of_lt E);have p:Hid (qB sh a=if 3<=sh.modes.length then none else if 0<=sh.modeI a then none else if xV a then some (sh.addMode a) else none):=rfl;by_cases q:3<=sh.modes.length
 ·have b:Hid (qB sh a=none):=by show _=_;rw[p.out,if_pos q]
  have ab:(3:Int)<=(sh.modes.length:Int):=by omega
  rw[b.out];go_in;go_wp2;go_ret;exact⟨Keep.refl _ _ _,rfl⟩
 have ab:(sh.modes.length:Int)<3:=by omega
 rcases zFq sh a with g|⟨g,-⟩
 ·rw[g] at x
  have F:=vl x;cases r:xV a with
  |false=>
   rw[r] at o;have z:=vl o;have b:Hid (qB sh a=none):=by show _=_;rw[p.out,if_neg q,if_neg (by rw[g];decide),r];rfl
   rw[b.out];go_in;go_wp2_with (first|(go_at_call 88;refine F.mono ?_;rintro e w1 ⟨rfl,c⟩)|(go_at_call 160;refine(z _).mono ?_;rintro e ac ⟨rfl,A⟩;have B:=A.symm;subst B))
   go_ret;exact⟨y _ c,rfl⟩
  |true=>
   rw[r] at o;have z:=vl o;have b:Hid (qB sh a=some (sh.addMode a)):=by show _=_;rw[p.out,if_neg q,if_neg (by rw[g];decide),r];rfl
   rw[b.out];go_in;apply wp_cut;intro G j;go_wp2;apply j.out;apply wp_cut;intro G j;go_wp2_with (first|(go_at_call 88;refine F.mono ?_;rintro e w1 ⟨rfl,c⟩)|(go_at_call 160;refine(z _).mono ?_;rintro e ac ⟨rfl,A⟩;have B:=A.symm;subst B))
   apply j.out;have d:=Y.grown c;have s:Hid (Sw w1 X S D sh (slice ao sh.modes.length V) dv k l rv v m/\Keep S S w w1):=⟨d,y _ c⟩
   obtain⟨ad,-,-,-,ae⟩:=d.cells;have af:=ae 0;have ag:=d.mOwn;have H:=d.lt;have ah:=vl <| zO d.mOwn d.blk (by decide);apply wp_cut;intro G j;go_wp2_with (at_builtin;refine wpList_append_lies _ rfl _ _ 77 rfl (S+1) 120 O (agg #[string ⟨#[]⟩,nX]) 2 40 underlying77 P R T U rfl (by decide) _ _ _ rfl (ag.alloc _) ⟨w1.heap.size,0,none⟩ 1 1 [string a,nX] rfl rfl (news_of_block (cs:=#[string a,nX]) (t:=120) (fr:=(0,0)) (gZ w1 _)) (by simp[Value.oneCell']) (by decide) (by unfold maxLen;omega) (by omega) (by simp;omega) _ rfl ?_;intro ai cap w2 aj I ak an;have J:=I.block S (by simp;omega) ah;have ap:=(gY J).trans ((gV _ _ _ H).trans ad);have aq:=(gW J).trans ((frozen?_alloc_past _ _ _ H).trans af))
   apply j.out;obtain⟨u,al,K⟩:∃u,u=w2.setCell ⟨S,0,none⟩ (slice (qX ai) (sh.modes.length+1) cap)/\Hid (SwIs u S D (sh.addMode a)/\Keep S S w u):=by
    obtain⟨am,q2⟩:=s.1.appMode aj I (by rcases ak with C|C;exact .inl C;right;rw[C];simp);exact⟨_,rfl,⟨X,_,dv,k,l,_,_,m,am⟩,s.2.trans ((q2.keep s.1.mOwn s.1.lt).lower (Nat.le_succ S) (Nat.le_refl S))⟩
   rw[<-al];go_wp2;go_ret;exact⟨K.2,rfl,K.1⟩
 ·have b:Hid (qB sh a=none):=by show _=_;rw[p.out,if_neg q,if_pos g]
  rw[b.out];generalize sh.modeI a=ar at *;go_in;go_wp2_with (go_at_call 88;refine x.mono ?_;rintro e w1 ⟨rfl,c⟩)
  go_ret;exact⟨y _ c,rfl⟩
theorem zPn:(prog.info? 233).map (λi=>(i.zero,i.size,i.bytes))=some (some (agg #[string ⟨#[]⟩,pointer none]),2,24):=by kernel_rfl
structure ShOk (sh:Sh)(D:Nat):Prop where
 modes:sh.modes.length<=3
 defs:sh.defs.length<=4
 acts:sh.acts.length<=8
 same:sh.pushed.length=sh.acts.length
 names:∀i,i<sh.defs.length->(sh.defn i).1.size<=6
 trees:zBM D sh.defs
 rules:∀i,i<sh.modes.length->∀t∈(sh.mode i).2,TrOk D t
theorem Sw.defsIn {w:World}{X:Nat->Prop}{S D:Nat}{sh:Sh}{k dv l m:Value}{rv:Nat->Value}{o:Nat->List Nat}{a:Nat->Nat}(b:Sw w X S D sh k dv l m rv o a)(p:∀i,i<sh.defs.length->(sh.defn i).1.size<=6):DefsIn w.heap.size X w D dv sh.defs:=by
 have ⟨ao,cap,d,q,r⟩:=zEh b.dOwn;refine⟨ao,cap,d,q,r,λi c=>?_⟩;obtain⟨g,v,e,-,f,-,-,j,-⟩:=vH b.dOwn (by omega);rw[d] at e;injection e with s x y;have ⟨t,u⟩:=zBO (λi=>string (sh.defn i).1) (λi=>pointer (some ⟨a i,0,none⟩)) sh.defs.length i c;refine⟨g,0,a i,s,f,f,?_,?_,b.dTree i c,lY (p i c) (by omega)⟩
 ·rw[Nat.zero_add];exact j _ _ t
 ·rw[Nat.zero_add];exact j _ _ u
theorem zCg {w w1 w2:World}(a:Grew w w1)(b:Grew w1 w2):Grew w w2:=a.th b
def jV (sh:Sh)(s:ByteArray):Option Sh:=
 if zAG s 32 then if 4<=sh.defs.length then none else if sh.hasDefB (qH s 32) then none else if xV (qH s 32) then(match jN (vE s 32) sh.defs with
  |none=>none
  |some t=>some (sh.addDef (qH s 32) t)) else none else none
theorem zFa (s:ByteArray)(c:Nat):(qH s c).size<=s.size:=by
 unfold qH;split
 ·rw[ByteArray.size_extract];omega
 ·exact lQ
theorem zAh (s:ByteArray)(c:Nat):(vE s c).size<=s.size:=by
 unfold vE;split
 ·rw[ByteArray.size_extract];omega
 ·exact lX
theorem zOb (w:World)(X:Nat->Prop)(S D:Nat)(sh:Sh)(u dv j k:Value)(rv:Nat->Value)(l:Nat->List Nat)(m:Nat->Nat)(o:Sw w X S D sh u dv j k rv l m)(ok:ShOk sh D)(s:ByteArray)(T:s.size<=1000)(a B:ByteArray)(p:Bool)(U:a.size<=1000)(V:B.size<=1000)(hcut:∀w,Calls prog 86 #[string s,int .u8 32] w λe w'=>e=returned (tuple #[string a,string B,bool p])/\Grew w w')(I:¬(p=true/\¬4<=sh.defs.length/\sh.hasDefB a=false/\xV a=true/\∃t,jN B sh.defs=some t)):
  Calls prog 121 #[pX S,string s] w (LnAns w S (D+2+4*s.size) (none)):=by
 have ⟨ao,v,J⟩:=zF o.dOwn;subst J;have x:=o.lt;have q:Hid (∀w1,Grew w w1->Keep S S w w1):=λw1 b=>b.lower (Nat.le_of_lt x) (Nat.le_of_lt x);have c:Hid (∀w1,Grew w w1->Sw w1 X S D sh u (slice ao sh.defs.length v) j k rv l m):=λw1 b=>o.grown b;have y:=vl λw1 w2=>zCg (w:=w) (w1:=w1) (w2:=w2);have L:=vl (hcut w);have d:=vl ok;have r:=Nat.lt_or_ge sh.defs.length 4;have z:=vl λ(w1:World) (b:Grew w w1)=>zEq w1 X S D sh _ _ j k rv l m (c w1 b) (by have:=d.defs;omega) a;have C:=vl λw=>jL w a (by omega);have E:=vl λ(w2:World) (b:Grew w w2)=>zAv w2 X B (slice ao sh.defs.length v) (by omega) D sh.defs ((c w2 b).defsIn d.names) (by have:=d.defs;omega) d.trees;go_in;rcases p with _|_;rotate_left;rcases r with r|r;rcases F:sh.hasDefB a with _|_;rcases G:xV a with _|_;rotate_left;rcases H:jN B sh.defs with _|t;rotate_left
 ·exact absurd ⟨rfl,by omega,F,G,t,H⟩ I
 all_goals
  try rw[F] at z
  try rw[G] at C
  try rw[H] at E
  try have M:(sh.defs.length:Int)<4:=by omega
  try have M:(4:Int)<=(sh.defs.length:Int):=by omega
  go_wp2_with (first|(go_at_call 86;refine L.mono ?_;rintro e w1 ⟨rfl,f⟩;have W:=(c w1 f).cells.2.1)|(go_at_call 161;refine(z w1 f).mono ?_;rintro e w2 ⟨rfl,N⟩;have g:=vl (y _ _ f N);have Y:=(c w2 g).cells.2.1)|(go_at_call 160;refine(C _).mono ?_;rintro e aa ⟨rfl,O⟩;have P:=O.symm;subst P)|(go_at_call 162;refine(E w2 g).mono ?_;rintro e ab ⟨R,rfl⟩))
  go_ret
  first|exact⟨q _ (y _ _ g R),rfl⟩|exact⟨q _ g,rfl⟩|exact⟨q _ f,rfl⟩
theorem zQE (w:World)(X:Nat->Prop)(S D:Nat)(sh:Sh)(q dv f g:Value)(rv:Nat->Value)(j:Nat->List Nat)(r:Nat->Nat)(z:Sw w X S D sh q dv f g rv j r)(ok:ShOk sh D)(s:ByteArray)(aD:s.size<=1000)(a B:ByteArray)(G:Bool)(aE:a.size<=1000)(aF:B.size<=1000)(hcut:∀w,Calls prog 86 #[string s,int .u8 32] w λe w'=>e=returned (tuple #[string a,string B,bool G])/\Grew w w')(aG:B.size<=s.size)(P:G=true)(aH:¬4<=sh.defs.length)(R:sh.hasDefB a=false)(T:xV a=true)(t:Tr)(U:jN B sh.defs=some t):
  Calls prog 121 #[pX S,string s] w (LnAns w S (D+2+4*s.size) (some (sh.addDef a t))):=by
 obtain⟨ao,C,V⟩:=zF z.dOwn;subst V;have H:=z.lt;have W:Hid (∀w1,Grew w w1->Keep S S w w1):=λw1 d=>d.lower (Nat.le_of_lt H) (Nat.le_of_lt H);have k:Hid (∀w1,Grew w w1->Sw w1 X S D sh q (slice ao sh.defs.length C) f g rv j r):=λw1 d=>z.grown d;have I:=vl λw1 w2=>zCg (w:=w) (w1:=w1) (w2:=w2);have aa:=vl (hcut w);have u:=vl ok;subst P;obtain⟨ab,ac,ad,ae,af⟩:=info_parts zPn;have aI:(sh.defs.length:Int)<4:=by omega
 have ag:Hid (∀w1,Grew w w1->Ca 161 #[pX S,string a] w1 λe w'=>e=returned fX/\Grew w1 w'):=λw1 d=>by have:=zEq w1 X S D sh _ _ f g rv j r (k w1 d) (by have:=u.defs;omega) a;rw[R] at this;exact this
 have ah:Hid (∀w,Ca 160 #[string a] w λe w'=>e=returned tX/\w'=w):=λw=>by have:=jL w a (by omega);rw[T] at this;exact this
 have ai:Hid (∀w2,Grew w w2->Ca 162 #[string B,slice ao sh.defs.length C] w2 (zIZ w2 X (D+2+4*B.size) (some t))):=λw2 d=>by have:=zAv w2 X B _ (by omega) D sh.defs ((k w2 d).defsIn u.names) (by have:=u.defs;omega) u.trees;rw[U] at this;exact this
 go_in;apply wp_cut;intro l b;go_wp2;apply b.out;apply wp_cut;intro l b;go_wp2_with (go_at_call 86;refine aa.mono ?_;rintro e w1 ⟨rfl,E⟩;have aJ:=(k w1 E).cells.2.1)
 apply b.out;apply wp_cut;intro l b;go_wp2_with (first|(go_at_call 161;refine(ag w1 E).mono ?_;rintro e w2 ⟨rfl,aj⟩)|(go_at_call 160;refine(ah _).mono ?_;rintro e aK ⟨rfl,ak⟩;have al:=ak.symm;subst al))
 apply b.out;have v:=vl <| I _ _ E aj;have aL:=(k w2 v).cells.2.1;apply wp_cut;intro l b;go_wp2_with (go_at_call 162;refine(ai w2 v).mono ?_;rintro e m ⟨J,p,rfl,am⟩)
 apply b.out;apply wp_cut;intro l b;go_wp2;apply b.out;obtain⟨x,c⟩:∃x,Hid (Sw m x S (D+2+4*s.size) sh q (slice ao sh.defs.length C) f g rv j r/\TreeIn x m (D+2+4*s.size) p t/\Keep S S w m):=by
  refine⟨_,((k w2 v).more J).deep (by omega),(TreeIn.deep am (by omega)).mono λi an o=>?_,W _ (I _ _ v J)⟩;rcases o with o|o
  ·exact .inl o.1
  ·exact .inr ⟨o,an⟩
 obtain⟨-,ap,-,-,aq⟩:=c.1.cells;have ar:=aq 1;have au:=c.1.dOwn;have L:=c.1.lt;have aw:=vl <| zO c.1.dOwn c.1.blk (by decide);apply wp_cut;intro l b;go_wp2_with (at_builtin;refine wpList_append_lies _ rfl _ _ 112 rfl (S+1) 233 ab (agg #[string ⟨#[]⟩,pointer none]) 2 24 underlying112 ac ad ae af rfl (by decide) _ _ _ rfl (au.alloc _) ⟨m.heap.size,0,none⟩ 1 1 [string a,pX p] rfl rfl (news_of_block (cs:=#[string a,pX p]) (t:=233) (fr:=(0,0)) (gZ m _)) (by simp[Value.oneCell']) (by decide) (by unfold maxLen;omega) (by omega) (by simp;omega) _ rfl ?_;intro ax cap ay az M aA aM;have N:=M.block S (by simp;omega) aw;have aN:=(gY N).trans ((gV _ _ _ L).trans ap);have aO:=(gW N).trans ((frozen?_alloc_past _ _ _ L).trans ar))
 apply b.out;obtain⟨y,aB,O⟩:∃y,y=ay.setCell ⟨S,1,none⟩ (slice (qX ax) (sh.defs.length+1) cap)/\Hid (SwIs y S (D+2+4*s.size) (sh.addDef a t)/\Keep S S w y):=by
  obtain⟨aC,q2⟩:=c.1.appDef c.2.1 az M (by rcases aA with F|F;exact .inl F;right;rw[F];simp);exact⟨_,rfl,⟨x,q,_,f,g,rv,j,_,aC⟩,c.2.2.trans ((q2.keep c.1.dOwn c.1.lt).lower (Nat.le_succ S) (Nat.le_refl S))⟩
 rw[<-aB];go_wp2;go_ret;exact⟨O.2,rfl,O.1⟩
theorem zG7 (w:World)(X:Nat->Prop)(S D:Nat)(sh:Sh)(c dv d f:Value)(rv:Nat->Value)(j:Nat->List Nat)(k:Nat->Nat)(l:Sw w X S D sh c dv d f rv j k)(ok:ShOk sh D)(s:ByteArray)(a:s.size<=1000):
  Calls prog 121 #[pX S,string s] w (LnAns w S (D+2+4*s.size) (jV sh s)):=by
 have m:=lY (zFa s 32) a;have o:=lY (zAh s 32) a;have hcut:∀w,Calls prog 86 #[string s,int .u8 32] w λe w'=>e=returned (tuple #[string (qH s 32),string (vE s 32),bool (zAG s 32)])/\Grew w w':=λw=>zDo w s (by omega) 32;have no:=zOb w X S D sh c dv d f rv j k l ok s a _ _ _ m o hcut;unfold jV;cases p:zAG s 32 with
 |false=>exact no λg=>by rw[p] at g;exact Bool.noConfusion g.1
 |true=>
 rw[if_pos rfl];by_cases b:4<=sh.defs.length
 ·rw[if_pos b]
  exact no λg=>g.2.1 b
 rw[if_neg b];cases q:sh.hasDefB (qH s 32) with
 |true=>exact no λg=>by rw[q] at g;exact Bool.noConfusion g.2.2.1
 |false=>
 rw[if_neg (by decide)];cases r:xV (qH s 32) with
 |false=>exact no λg=>by rw[r] at g;exact Bool.noConfusion g.2.2.2.1
 |true=>
 rw[if_pos rfl];cases u:jN (vE s 32) sh.defs with
 |none=>exact no λg=>by have ⟨t,v⟩:=g.2.2.2.2;rw[u] at v;cases v
 |some t=>exact zQE w X S D sh c dv d f rv j k l ok s a _ _ _ m o hcut (zAh s 32) p b q r t u
def vT (sh:Sh)(nm s:ByteArray):Option Sh:=
 if zAG s 32 then if sh.modes.length=0 then none else if 8<=sh.acts.length then none else if xV nm then(if (zBL (qH s 32)).ok then(match jN (vE s 32) sh.defs with
  |none=>none
  |some t=>some (((sh.addAct (zBL (qH s 32)).act).addPush (zBL (qH s 32)).name).addRule (sh.modes.length-1) t)) else none) else none else none
theorem zJE (w:World)(X:Nat->Prop)(S D:Nat)(sh:Sh)(L dv M N:Value)(rv:Nat->Value)(r:Nat->List Nat)(u:Nat->Nat)(a:Sw w X S D sh L dv M N rv r u)(ok:ShOk sh D)(b s:ByteArray)(aq:s.size<=1000)(ar:b.size<=1000)(c B:ByteArray)(j:Bool)(au:c.size<=1000)(aw:B.size<=1000)(hcut:∀w,Calls prog 86 #[string s,int .u8 32] w λe w'=>e=returned (tuple #[string c,string B,bool j])/\Grew w w')(O:¬(j=true/\¬sh.modes.length=0/\¬8<=sh.acts.length/\xV b=true/\(zBL c).ok=true/\∃t,jN B sh.defs=some t)):
  Calls prog 122 #[pX S,string b,string s] w (LnAns w S (D+2+4*s.size) (none)):=by
 have ⟨P,R,T⟩:=zF a.mOwn;have ⟨v,x,U⟩:=zF a.dOwn;have ⟨V,W,Y⟩:=zF a.aOwn;have ⟨ab,ae,af⟩:=zF a.pOwn;subst T U Y af;have y:=a.lt;have z:Hid (∀w1,Grew w w1->Keep S S w w1):=λw1 d=>d.lower (Nat.le_of_lt y) (Nat.le_of_lt y);have f:Hid (∀w1,Grew w w1->Sw w1 X S D sh (slice P sh.modes.length R) (slice v sh.defs.length x) (slice V sh.acts.length W) (slice ab sh.pushed.length ae) rv r u):=λw1 d=>a.grown d;have C:=vl λw1 w2=>zCg (w:=w) (w1:=w1) (w2:=w2);have ag:=vl (hcut w);have k:=vl ok;have ax:=ok.modes;have ay:=ok.acts;have l:=Nat.eq_zero_or_pos sh.modes.length;have m:=Nat.lt_or_ge sh.acts.length 8;have E:=vl λw=>jL w b (by omega);have F:=vl λw=>zDs w c (by omega);have G:=vl λ(w2:World) (d:Grew w w2)=>zAv w2 X B (slice v sh.defs.length x) (by omega) D sh.defs ((f w2 d).defsIn k.names) (by have:=k.defs;omega) k.trees;generalize zBL c=ah at *;go_in;rcases j with _|_;rotate_left;rcases l with l|l;rotate_left;rcases m with m|m;rcases H:xV b with _|_;rotate_left;rcases I:ah.ok with _|_;rcases o:jN B sh.defs with _|t;rotate_left 2;rcases o:jN B sh.defs with _|t;rotate_left
 ·exact absurd ⟨rfl,by omega,by omega,H,I,t,o⟩ O
 all_goals
  try rw[H] at E
  try rw[I] at F
  try rw[o] at G
  try have ai:((sh.modes.length:Int)-1)<0:=by omega
  try have ai:¬((sh.modes.length:Int)-1)<0:=by omega
  try have aj:(sh.acts.length:Int)<8:=by omega
  try have aj:(8:Int)<=(sh.acts.length:Int):=by omega
  go_wp2_with (first|(go_at_call 86;refine ag.mono ?_;rintro e w1 ⟨rfl,g⟩;have az:=(f w1 g).cells.1;have aA:=(f w1 g).cells.2.2.1)|(go_at_call 160;refine(E _).mono ?_;rintro e aB ⟨rfl,ak⟩;have al:=ak.symm;subst al)|(go_at_call 163;refine(F w1).mono ?_;rintro e w2 ⟨rfl,an⟩;have q:=vl <| C _ _ g an;have aC:=(f w2 q).cells.2.1)|(go_at_call 162;refine(G w2 q).mono ?_;first|rintro e ao ⟨J,rfl⟩|rintro e ao ⟨J,p,rfl,aD⟩))
  go_ret
  first|exact⟨z _ (C _ _ q J),rfl⟩|exact⟨z _ g,rfl⟩
section
attribute [local go_sem ↓] Go.wp_at_zero Go.wp_at_succ
theorem zP1 (w:World)(X:Nat->Prop)(S D:Nat)(sh:Sh)(bb dv bc bd:Value)(rv:Nat->Value)(G:Nat->List Nat)(R:Nat->Nat)(M:Sw w X S D sh bb dv bc bd rv G R)(ok:ShOk sh D)(ab s:ByteArray)(bU:s.size<=1000)(bV:ab.size<=1000)(ae B:ByteArray)(aS:Bool)(bW:ae.size<=1000)(bX:B.size<=1000)(hcut:∀w,Calls prog 86 #[string s,int .u8 32] w λe w'=>e=returned (tuple #[string ae,string B,bool aS])/\Grew w w')(bY:B.size<=s.size)(be:aS=true)(k:Nat)(N:sh.modes.length=k+1)(bf:(sh.mode k).2.length<=1000000)(bg:¬8<=sh.acts.length)(aT:xV ab=true)(b:Ac)(aU:zBL ae=b)(aV:b.ok=true)(t:Tr)(aW:jN B sh.defs=some t):
  Calls prog 122 #[pX S,string ab,string s] w (LnAns w S (D+2+4*s.size) (some (((sh.addAct b.act).addPush b.name).addRule k t))):=by
 obtain⟨af,T,bh⟩:=zF M.mOwn;obtain⟨U,V,bi⟩:=zF M.dOwn;obtain⟨ag,ah,bj⟩:=zF M.aOwn;obtain⟨ai,aj,bk⟩:=zF M.pOwn;subst bh bi bj bk;have aL:S<w.heap.size:=M.lt;have bl:Hid (∀w1,Grew w w1->Keep S S w w1):=λw1 N=>N.lower (Nat.le_of_lt aL) (Nat.le_of_lt aL);have ak:Hid (∀w1,Grew w w1->Sw w1 X S D sh (slice af sh.modes.length T) (slice U sh.defs.length V) (slice ag sh.acts.length ah) (slice ai sh.pushed.length aj) rv G R):=λw1 N=>M.grown N;have aX:=vl λw1 w2=>zCg (w:=w) (w1:=w1) (w2:=w2);have bm:=vl (hcut w);have aB:=vl ok;have bZ:=ok.modes;have b0:=ok.acts;subst be;have b1:¬((k:Int))<0:=by omega
 have bn:Hid (((sh.modes.length:Int)-1)=(k:Int)):=by show _=_;omega
 have al:k<sh.modes.length:=by omega
 have b3:(k:Int)<(sh.modes.length:Int):=by omega
 have bo:Hid (0<sh.modes.length):=by show 0<_;omega
 clear N;obtain⟨aM,aC,aD,aE,aF⟩:=info_parts yG;have b4:(sh.acts.length:Int)<8:=by omega
 clear bg;have bp:Hid (∀w,Ca 160 #[string ab] w λe w'=>e=returned tX/\w'=w):=λw=>by have:=jL w ab (by omega);rw[aT] at this;exact this
 have bq:Hid (∀w,Ca 163 #[string ae] w λe w'=>e=returned (tuple #[iX (b.act:Int),string b.name,tX])/\Grew w w'):=λw=>by have:=zDs w ae (by omega);rw[aU,aV] at this;exact this
 have br:Hid (∀w2,Grew w w2->Ca 162 #[string B,slice U sh.defs.length V] w2 (zIZ w2 X (D+2+4*B.size) (some t))):=λw2 N=>by have:=zAv w2 X B _ (by omega) D sh.defs ((ak w2 N).defsIn aB.names) (by have:=aB.defs;omega) aB.trees;rw[aW] at this;exact this
 clear aT aU aV aW;clear M aL hcut ok;go_in;apply wp_cut;intro z a;go_wp2;apply a.out;clear a;apply wp_cut;intro z a;go_wp2_with (go_at_call 86;refine bm.mono ?_;rintro e w1 ⟨rfl,aG⟩;have bs:cX w1 S 0=some (slice af sh.modes.length T):=(ak w1 aG).cells.1;have bt:cX w1 S 2=some (slice ag sh.acts.length ah):=(ak w1 aG).cells.2.2.1)
 apply a.out;clear a;apply wp_cut;intro z a;go_wp2;apply a.out;clear a;rw[bn.out];apply wp_cut;intro z a;go_wp2_with (go_at_call 160;refine(bp _).mono ?_;rintro e an ⟨rfl,aH⟩;have bu:=aH.symm;subst bu)
 apply a.out;clear a;apply wp_cut;intro z a;go_wp2_with (go_at_call 163;refine(bq w1).mono ?_;rintro e w2 ⟨rfl,aY⟩;have aI:=vl <| aX _ _ aG aY;have bv:cX w2 S 1=some (slice U sh.defs.length V):=(ak w2 aI).cells.2.1)
 apply a.out;clear a;clear bs bt aG aY;apply wp_cut;intro z a;go_wp2_with (go_at_call 162;refine(br w2 aI).mono ?_;rintro e W ⟨aN,p,rfl,aZ⟩)
 apply a.out;clear a;apply wp_cut;intro z a;go_wp2;apply a.out;clear a;obtain⟨H,f⟩:∃H,Hid (Sw W H S (D+2+4*s.size) sh (slice af sh.modes.length T) (slice U sh.defs.length V) (slice ag sh.acts.length ah) (slice ai sh.pushed.length aj) rv G R/\TreeIn H W (D+2+4*s.size) p t/\Keep S S w W):=by
  refine⟨_,((ak w2 aI).more aN).deep (by omega),(TreeIn.deep aZ (by omega)).mono λi bw ao=>?_,bl _ (aX _ _ aI aN)⟩;rcases ao with ao|ao
  ·exact .inl ao.1
  ·exact .inr ⟨ao,bw⟩
 clear bv aN aZ;obtain⟨-,-,aq,-,ar⟩:=f.1.cells;have au:=ar 2;have C:W.ownsRow (S+1) 3 1 (slice ag sh.acts.length ah) sh.acts.length (sh.acts.map λx:Nat=>iX (x:Int)):=f.1.aOwn;have O:S<W.heap.size:=f.1.lt;have aw:=vl <| zO f.1.aOwn f.1.blk (by decide);clear ar;apply wp_cut;intro z a;go_wp2_with (at_builtin;refine wpList_append_lies _ rfl _ _ 45 rfl (S+1) 3 aM zX 1 8 underlying45 aC aD aE aF rfl (by decide) _ _ _ rfl (C.alloc _) ⟨W.heap.size,0,none⟩ 1 1 [iX (b.act:Int)] rfl rfl (cell_one_new _ _ _) (by intro u ax;simp at ax;subst ax;rfl) (by decide) (by unfold maxLen;omega) (by omega) (by simp;omega) _ rfl ?_;intro d cap P I m J ay;have o:=m.block S (by simp;omega) aw;have aO:cX P S 2=some (slice ag sh.acts.length ah):=(gY o).trans ((gV _ _ _ O).trans aq);have aP:P.frozen? ⟨S,2,none⟩=false:=(gW o).trans ((frozen?_alloc_past _ _ _ O).trans au))
 apply a.out;clear a;obtain⟨L,a0,aJ,g⟩:∃L,L=P.setCell ⟨S,2,none⟩ (slice (qX d) (sh.acts.length+1) cap)/\∃aJ,Hid (Sw L H S (D+2+4*s.size) (sh.addAct b.act) (slice af sh.modes.length T) (slice U sh.defs.length V) aJ (slice ai sh.pushed.length aj) rv G R/\TreeIn H L (D+2+4*s.size) p t/\Keep S S w L):=by
  obtain⟨az,q2⟩:=f.1.appAct (x:=b.act) I m (by rcases J with l|l;exact .inl l;right;rw[l];simp);exact⟨_,rfl,_,az,zAd q2 f.2.1 (λq aA=>⟨Nat.ne_of_gt (f.1.xlt q aA).1,(f.1.xm q aA).2.2.1⟩),f.2.2.trans ((q2.keep f.1.aOwn f.1.lt).lower (Nat.le_succ S) (Nat.le_refl S))⟩
 rw[<-a0];clear a0 I m J ay o aO aP C aw O aq au f;obtain⟨-,-,-,aq,ar⟩:=g.1.cells;have au:=ar 3;have C:L.ownsRow (S+1) 9 1 (slice ai sh.pushed.length aj) sh.pushed.length (sh.pushed.map λx=>string x):=g.1.pOwn;have O:S<L.heap.size:=g.1.lt;have aw:=vl <| zO g.1.pOwn g.1.blk (by decide);have b5:sh.pushed.length<=8:=by have:=aB.same;omega
 clear ar;obtain⟨aM,aC,aD,aE,aF⟩:=info_parts zMh;apply wp_cut;intro z a;go_wp2_with (at_builtin;refine wpList_append_lies _ rfl _ _ 108 rfl (S+1) 9 aM (string ⟨#[]⟩) 1 16 underlying108 aC aD aE aF rfl (by decide) _ _ _ rfl (C.alloc _) ⟨L.heap.size,0,none⟩ 1 1 [string b.name] rfl rfl (cell_one_new _ _ _) (by intro u ax;simp at ax;subst ax;rfl) (by decide) (by unfold maxLen;omega) (by omega) (by simp;omega) _ rfl ?_;intro d cap P I m J ay;have o:=m.block S (by simp;omega) aw;have aO:cX P S 3=some (slice ai sh.pushed.length aj):=(gY o).trans ((gV _ _ _ O).trans aq);have aP:P.frozen? ⟨S,3,none⟩=false:=(gW o).trans ((frozen?_alloc_past _ _ _ O).trans au))
 apply a.out;clear a;obtain⟨c,a1,aQ,r⟩:∃c,c=P.setCell ⟨S,3,none⟩ (slice (qX d) (sh.pushed.length+1) cap)/\∃aQ,Hid (Sw c H S (D+2+4*s.size) ((sh.addAct b.act).addPush b.name) (slice af sh.modes.length T) (slice U sh.defs.length V) aJ aQ rv G R/\TreeIn H c (D+2+4*s.size) p t/\Keep S S w c):=by
  obtain⟨az,q2⟩:=g.1.appPush (x:=b.name) I m (by rcases J with l|l;exact .inl l;right;rw[l];simp);exact⟨_,rfl,_,az,zAd q2 g.2.1 (λq aA=>⟨Nat.ne_of_gt (g.1.xlt q aA).1,(g.1.xm q aA).2.2.2⟩),g.2.2.trans ((q2.keep g.1.pOwn g.1.lt).lower (Nat.le_succ S) (Nat.le_refl S))⟩
 rw[<-a1];clear a1 I m J ay o aO aP C aw O aq au g aC aD aE aF;obtain⟨bx,bz,bA,bB,bC⟩:=info_parts zE4;obtain⟨v,b6,bD,-,a2,-,-,a3,a4⟩:=vH r.1.mOwn (show 0<((sh.addAct b.act).addPush b.name).modes.length from bo);injection bD with bE bF bG;subst bE bG;clear bF;obtain⟨E,F,aK⟩:=zF (r.1.rOwn k al);have bH:cX c v (k*2+1)=some (slice E (sh.mode k).2.length F):=by
  have a5:=(zBO (λi=>string (((sh.addAct b.act).addPush b.name).mode i).1) rv sh.modes.length k al).2;rw[aK] at a5;exact a3 _ _ a5
 have bI:=a4 (k*2+1);obtain⟨bJ,-,-,-,-⟩:=r.1.cells;have aR:=r.1.rOwn k al;rw[aK] at aR;have C:c.ownsRow (S+1) 158 1 (slice E (sh.mode k).2.length F) (sh.mode k).2.length (yJ (G k)):=aR;have bK:=vl <| xJ r.1.mOwn C (by decide) v rfl;have bL:Hid (rv k=slice E (sh.mode k).2.length F):=aK;have b7:(sh.mode k).2.length<=1000000:=bf;have a6:v<c.heap.size:=a2;have b8:S+1<=c.heap.size:=r.1.lt;clear a3 a4 aK aR a2;generalize bM:(sh.mode k).2.length=rl at *;have a7:some S≠(Value.slice E rl F).ownBlock:=λe=>by have:=(C.lt S e.symm).1;omega
 have bN:Hid (some S≠(Value.slice E rl F).ownBlock):=a7;have bO:S<c.heap.size:=by omega
 clear a7;have bP:Hid (∀d cap y,y.ownsRow (S+1) 158 1 (slice (qX d) (rl+1) cap) (rl+1) (yJ (G k)++[pX p])->(c.drew.alloc (Obj.cells #[pX p] 158)).grownBy y (Value.slice E rl F).ownBlock->((Value.slice E rl F).ownBlock=some d\/c.heap.size<=d)->SwIs (y.setCell ⟨v,k*2+1,none⟩ (slice (qX d) (rl+1) cap)) S (D+2+4*s.size) (((sh.addAct b.act).addPush b.name).addRule k t)/\Keep S S w (y.setCell ⟨v,k*2+1,none⟩ (slice (qX d) (rl+1) cap))):=λd cap y bQ a8 l=>by
  subst bM;rw[<-bL.out] at a8 l;have b9:=(r.1.mOwn.lt v rfl).1;obtain⟨az,q2⟩:=Sw.appRule (w:=c.drew) (sh:=(sh.addAct b.act).addPush b.name) (r.1.grown (Keep.drew _)) al (r.2.1.go ⟨rfl,rfl,lQ,λ_ _ _=>rfl⟩) bQ a8 l;refine⟨⟨H,_,_,aJ,aQ,_,_,R,az⟩,r.2.2.trans ⟨q2.os,q2.output,q2.size,λj cb _=>?_⟩⟩;exact(q2.block j (by show j<c.heap.size;omega) (by omega) λe=>by have:=((r.1.rOwn k al).lt j e.symm).1;omega).1
 apply wp_cut;intro z a;go_region_law ((refine step_append_lies _ (by rfl) (.tmp 100) (.tmp 102) 118 (by rfl) (S+1) 158 bx _ 1 8 underlying118 bz bA bB bC rfl (by decide) (slice E rl F) rl (yJ (G k)) (by simp[Act.eval,Act.put]) ((C.alloc _).drew) ⟨c.heap.size,0,none⟩ 1 1 [pX p] (by simp[Act.eval,Act.put]) (by rfl) (news_of_block (cs:=#[pX p]) (t:=158) (fr:=(0,0)) (gZ c _)) (by simp[Value.oneCell']) (by decide) (by unfold maxLen;omega) (by omega) (by simp;omega) (c.heap.size+1) (by simp) ?_;intro d cap y I m J ay;have o:=m.block v (by simp;omega) bK;have bR:cX y v (k*2+1)=some (slice E rl F):=(gY o).trans ((gV _ _ _ a6).trans bH);have bS:y.frozen? ⟨v,k*2+1,none⟩=false:=(gW o).trans ((frozen?_alloc_past _ _ _ a6).trans bI);have a9:=m.block S (by simp;omega) bN;have bT:cX y S 0=some (slice (qX v) sh.modes.length T):=(gY a9).trans ((gV _ _ _ bO).trans bJ)))
 all_goals
  obtain⟨an,aH,ba⟩:∃an,an=y.setCell ⟨v,k*2+1,none⟩ (slice (qX d) (rl+1) cap)/\Hid (SwIs an S (D+2+4*s.size) (((sh.addAct b.act).addPush b.name).addRule k t)/\Keep S S w an):=⟨_,rfl,bP d cap y I m (by rcases J with l|l;exact .inl l;right;show c.heap.size<=d;omega)⟩
  rw[<-aH];clear aH I m J ay o bR bS a9 bT;show z _ _;apply a.out;clear a;go_wp2;go_ret;exact⟨ba.2,rfl,ba.1⟩
theorem zGg (w:World)(X:Nat->Prop)(S D:Nat)(sh:Sh)(d dv f j:Value)(rv:Nat->Value)(l:Nat->List Nat)(m:Nat->Nat)(p:Sw w X S D sh d dv f j rv l m)(ok:ShOk sh D)(B:∀k,k<sh.modes.length->(sh.mode k).2.length<=1000000)(a s:ByteArray)(b:s.size<=1000)(q:a.size<=1000):
  Calls prog 122 #[pX S,string a,string s] w (LnAns w S (D+2+4*s.size) (vT sh a s)):=by
 have r:=lY (zFa s 32) b;have u:=lY (zAh s 32) b;have hcut:∀w,Calls prog 86 #[string s,int .u8 32] w λe w'=>e=returned (tuple #[string (qH s 32),string (vE s 32),bool (zAG s 32)])/\Grew w w':=λw=>zDo w s (by omega) 32;have no:=zJE w X S D sh d dv f j rv l m p ok a s b q _ _ _ r u hcut;unfold vT;cases v:zAG s 32 with
 |false=>exact no λg=>by rw[v] at g;exact Bool.noConfusion g.1
 |true=>
 rw[if_pos rfl];by_cases o:sh.modes.length=0
 ·rw[if_pos o]
  exact no λg=>g.2.1 o
 rw[if_neg o];by_cases c:8<=sh.acts.length
 ·rw[if_pos c]
  exact no λg=>g.2.2.1 c
 rw[if_neg c];cases x:xV a with
 |false=>exact no λg=>by rw[x] at g;exact Bool.noConfusion g.2.2.2.1
 |true=>
 rw[if_pos rfl];cases y:(zBL (qH s 32)).ok with
 |false=>exact no λg=>by rw[y] at g;exact Bool.noConfusion g.2.2.2.2.1
 |true=>
  rw[if_pos rfl];cases z:jN (vE s 32) sh.defs with
  |none=>exact no λg=>by have ⟨t,A⟩:=g.2.2.2.2.2;rw[z] at A;cases A
  |some t=>exact zP1 w X S D sh d dv f j rv l m p ok a s b q _ _ _ r u hcut (zAh s 32) v (sh.modes.length-1) (by omega) (B _ (by omega)) c x _ rfl y t z
end
def yL (sh:Sh)(s:ByteArray):Option Sh:=if zAG s 32 then(if eqS (qH s 32) ⟨#[109,111,100,101]⟩ then qB sh (vE s 32) else if eqS (qH s 32) ⟨#[108,101,116]⟩ then jV sh (vE s 32) else vT sh (qH s 32) (vE s 32)) else none
def jY (sh:Sh):Prop:=∀i,i<sh.modes.length->(sh.mode i).2.length<=sh.acts.length
theorem SwIs.deep {w:World}{S D b:Nat}{sh:Sh}(a:SwIs w S D sh)(c:D<=b):SwIs w S b sh:=by
 obtain⟨X,d,dv,e,f,rv,g,j,a⟩:=a;exact⟨X,d,dv,e,f,rv,g,j,a.deep c⟩
theorem LnAns.deep {w w':World}{S D c:Nat}{a:Option Sh}{e:Ending}(b:LnAns w S D a e w')(d:D<=c):LnAns w S c a e w':=by
 refine⟨b.1,?_⟩;cases a with
 |none=>exact b.2
 |some sh=>exact⟨b.2.1,b.2.2.deep d⟩
theorem LnAns.from {w w1 w':World}{S D:Nat}{a:Option Sh}{e:Ending}(b:LnAns w1 S D a e w')(c:Keep S S w w1):LnAns w S D a e w':=⟨c.trans b.1,b.2⟩
theorem zGi (w:World)(X:Nat->Prop)(S D:Nat)(sh:Sh)(F dv G H:Value)(rv:Nat->Value)(m:Nat->List Nat)(o:Nat->Nat)(p:Sw w X S D sh F dv G H rv m o)(ok:ShOk sh D)(few:jY sh)(s:ByteArray)(v:s.size<=1000):
  Calls prog 87 #[pX S,string s] w (LnAns w S (D+2+4*s.size) (yL sh s)):=by
 have I:=lY (zFa s 32) v;have J:=zAh s 32;have y:=lY J v;have q:=vl <| zDo w s (by omega) 32;have c:Hid (yL sh s=if zAG s 32 then(if eqS (qH s 32) ⟨#[109,111,100,101]⟩ then qB sh (vE s 32) else if eqS (qH s 32) ⟨#[108,101,116]⟩ then jV sh (vE s 32) else vT sh (qH s 32) (vE s 32)) else none):=rfl;have z:=p.lt;have r:Hid (∀w1,Grew w w1->Keep S S w w1):=λw1 b=>b.lower (Nat.le_of_lt z) (Nat.le_of_lt z);generalize yL sh s=W at *;generalize zAG s 32=L at *;have M:Hid (∀w1,Grew w w1->Ca 120 #[pX S,string (vE s 32)] w1 (LnAns w S (D+2+4*s.size) (qB sh (vE s 32)))):=λw1 b=>(zGh w1 X S D sh _ _ _ _ rv m o (p.grown b) (by have:=ok.modes;omega) (vE s 32) (by omega)).mono λe w2 a=>(a.from (r w1 b)).deep (by omega);have N:Hid (∀w1,Grew w w1->Ca 121 #[pX S,string (vE s 32)] w1 (LnAns w S (D+2+4*s.size) (jV sh (vE s 32)))):=λw1 b=>(zG7 w1 X S D sh _ _ _ _ rv m o (p.grown b) ok (vE s 32) y).mono λe w2 a=>(a.from (r w1 b)).deep (by omega);have O:Hid (∀w1,Grew w w1->Ca 122 #[pX S,string (qH s 32),string (vE s 32)] w1 (LnAns w S (D+2+4*s.size) (vT sh (qH s 32) (vE s 32)))):=λw1 b=>(zGg w1 X S D sh _ _ _ _ rv m o (p.grown b) ok (λk P=>by have:=few k P;have:=ok.acts;omega) (qH s 32) (vE s 32) y I).mono λe w2 a=>(a.from (r w1 b)).deep (by omega);generalize qH s 32=d at *;generalize vE s 32=B at *;have C:(⟨#[109,111,100,101]⟩:ByteArray).toList=[109,111,100,101]:=by rw[ByteArray.toList_eq]
 have E:(⟨#[108,101,116]⟩:ByteArray).toList=[108,101,116]:=by rw[ByteArray.toList_eq]
 cases L with
 |false=>
  have f:=vl c;rw[f.out];go_in;go_wp2_with (go_at_call 86;refine q.mono ?_;rintro e w1 ⟨rfl,g⟩)
  go_ret;exact⟨r _ g,rfl⟩
 |true=>
 cases t:eqS d ⟨#[109,111,100,101]⟩ with
 |true=>
  rw[t] at c;have f:=vl c;have T:(d.toList==[109,111,100,101])=true:=by rw[<-C];exact t
  rw[f.out];generalize qB sh B=j at *;go_in;go_wp2_with (first|(go_at_call 86;refine q.mono ?_;rintro e w1 ⟨rfl,g⟩)|(go_at_call 120;refine(M w1 g).mono ?_;intro e w2 a;obtain⟨v2,l⟩:∃v2,e=returned (bool v2):=(by have:=a.2;cases j with|none=>exact⟨false,this⟩|some x=>exact⟨true,this.1⟩);subst l))
  go_ret;exact a
 |false=>
 have T:(d.toList==[109,111,100,101])=false:=by rw[<-C];exact t
 rw[t] at c;cases u:eqS d ⟨#[108,101,116]⟩ with
 |true=>
  rw[u] at c;have f:=vl c;have U:(d.toList==[108,101,116])=true:=by rw[<-E];exact u
  rw[f.out];generalize jV sh B=j at *;go_in;go_wp2_with (first|(go_at_call 86;refine q.mono ?_;rintro e w1 ⟨rfl,g⟩)|(go_at_call 121;refine(N w1 g).mono ?_;intro e w2 a;obtain⟨v2,l⟩:∃v2,e=returned (bool v2):=(by have:=a.2;cases j with|none=>exact⟨false,this⟩|some x=>exact⟨true,this.1⟩);subst l))
  go_ret;exact a
 |false=>
  rw[u] at c;have f:=vl c;have U:(d.toList==[108,101,116])=false:=by rw[<-E];exact u
  rw[f.out];generalize vT sh d B=j at *;go_in;go_wp2_with (first|(go_at_call 86;refine q.mono ?_;rintro e w1 ⟨rfl,g⟩)|(go_at_call 122;refine(O w1 g).mono ?_;intro e w2 a;obtain⟨v2,l⟩:∃v2,e=returned (bool v2):=(by have:=a.2;cases j with|none=>exact⟨false,this⟩|some x=>exact⟨true,this.1⟩);subst l))
  go_ret;exact a
end Go.Proofs.YtbjcfkdnjaiclaaGreat
