import Derived.Deep.RegionHeld3
import Derived.Test.YtbjcfkdnjaiclaaGreatS0
import Derived.Test.YtbjcfkdnjaiclaaGreatS19
/- Parts of the proof. -/
set_option linter.unusedVariables false
set_option linter.unusedSimpArgs false
set_option maxHeartbeats 4000000
set_option maxRecDepth 100000
namespace Go.Proofs.YtbjcfkdnjaiclaaGreat
open Go.RowKit Go.Proofs.Tryz Go.World
open Go.Value (int slice bool pointer string agg tuple)
open Go.IntKind (i64)
open Go.Ending (returned)
section
theorem zCu (a:UInt8):(⟨#[a]⟩:ByteArray).size=1:=rfl
def zAk (s:ByteArray)(p:Nat):Option (Cs×Nat):=
 if byt s p=91 then zCN s p
 else if byt s p=92 then(if (zBk s (p+1)).ok then some (zJG (zBk s (p+1)).num,(zBk s (p+1)).at_) else none)
 else if byt s p=46 then some (zP8,p+1)
 else if zBf (byt s p) then some (zJG (byt s p:Nat),p+1) else none
structure Tm where
 least:Nat
 most:Nat
 endless:Bool
def Tm.copies (o:Tm):Nat:=if o.endless then(if o.least=0 then 1 else o.least) else o.most
def zBQ (s:ByteArray)(p:Nat):Option (Tm×Nat):=
 if yM (byt s (p+1)) then
  if zJ s (p+2) ⟨#[125]⟩ then some (⟨byt s (p+1)-48,byt s (p+1)-48,false⟩,p+3)
  else if zJ s (p+2) ⟨#[44]⟩ then
   if zJ s (p+3) ⟨#[125]⟩ then some (⟨byt s (p+1)-48,0,true⟩,p+4)
   else if yM (byt s (p+3))&&decide (byt s (p+1)<=byt s (p+3)) then(if zJ s (p+4) ⟨#[125]⟩ then some (⟨byt s (p+1)-48,byt s (p+3)-48,false⟩,p+5) else none)
   else none
  else none
 else none
def zEP (s:ByteArray)(p:Nat):Option (Tm×Nat):=if zJ s p ⟨#[42]⟩ then some (⟨0,0,true⟩,p+1) else if zJ s p ⟨#[43]⟩ then some (⟨1,0,true⟩,p+1) else if zJ s p ⟨#[63]⟩ then some (⟨0,1,false⟩,p+1) else zBQ s p
def braced (n:ByteArray):ByteArray:=⟨#[123]⟩++n++⟨#[125]⟩
def zDl (s:ByteArray)(p:Nat):List (ByteArray×Tr)->Option (Tr×Nat)
 |[]=>none
 |d::ds=>if zJ s p (braced d.1) then some (d.2,p+(braced d.1).size) else zDl s p ds
abbrev Reads:=Nat->Bool->Option (Tr×Nat)
def brM (s:ByteArray)(k:Nat)(sub:Reads)(p:Nat)(both:Bool):Option (Tr×Nat):=
 if k=0 then none else if zJ s p ⟨#[40,41]⟩ then some (Tr.none,p+2) else
 match sub (if zJ s p ⟨#[40,105,58]⟩ then p+3 else p+1) (zJ s p ⟨#[40,105,58]⟩||both) with
 |none=>none
 |some (t,q)=>if zJ s q ⟨#[41]⟩ then some (t,q+1) else none
def zMd (both:Bool)(c:Cs):Cs:=if both then⟨qV c.ranges,c.others⟩ else c
def zEl (s:ByteArray)(defs:List (ByteArray×Tr))(k:Nat)(sub:Reads)(p:Nat)(both:Bool):Option (Tr×Nat):=if byt s p=40 then brM s k sub p both else if byt s p=123 then zDl s p defs else(zAk s p).map λc=>(zH7 (zMd both c.1),c.2)
def zCg (t:Tr)(o:Tm):Tr:=Tr.plain ⟨4,⟨[],false⟩,[t],o.least,o.most,o.endless,xY (t.chars*o.copies)⟩
def zBX (s:ByteArray):Nat->Nat->Tr->Option (Tr×Nat)
 |0,_,_=>none
 |f+1,p,t=>if zBs s p then(match zEP s p with
  |none=>none
  |some (o,q)=>zBX s f q (zCg t o)) else some (t,p)
def zEt (s:ByteArray)(defs:List (ByteArray×Tr))(k:Nat)(sub:Reads)(p:Nat)(both:Bool):Option (Tr×Nat):=
 match zEl s defs k sub p both with
 |none=>none
 |some (t,q)=>zBX s (s.size+1) q t
def zCi (s:ByteArray)(thing:Nat->Option (Tr×Nat)):Nat->Nat->Tr->Option (Tr×Nat)
 |0,_,_=>none
 |f+1,p,t=>match thing p with
  |none=>none
  |some (u,q)=>if zCn s q then some ((t.add u).plain,q) else zCi s thing f q (t.add u)
def zD4 (kind:Nat):Tr:=⟨kind,⟨[],false⟩,[],0,0,false,0⟩
def zQw (s:ByteArray)(defs:List (ByteArray×Tr))(k:Nat)(sub:Reads)(p:Nat)(both:Bool):Option (Tr×Nat):=zCi s (λq=>zEt s defs k sub q both) (s.size+1) p (zD4 2)
def zAS (s:ByteArray)(row:Nat->Option (Tr×Nat)):Nat->Nat->Tr->Option (Tr×Nat)
 |0,_,_=>none
 |f+1,p,t=>match row p with
  |none=>none
  |some (u,q)=>if zJ s q ⟨#[124]⟩ then zAS s row f (q+1) (t.add u) else some ((t.add u).plain,q)
def zOw (s:ByteArray)(defs:List (ByteArray×Tr))(k:Nat)(sub:Reads)(p:Nat)(both:Bool):Option (Tr×Nat):=zAS s (λq=>zQw s defs k sub q both) (s.size+1) p (zD4 3)
def zCd (s:ByteArray)(defs:List (ByteArray×Tr)):Nat->Reads
 |0=>zOw s defs 0 λ_ _=>none
 |k+1=>zOw s defs (k+1) (zCd s defs k)
def jN (s:ByteArray)(defs:List (ByteArray×Tr)):Option Tr:=
 match zCd s defs 8 0 false with
 |none=>none
 |some (t,q)=>if q=s.size then some t else none
theorem zEU (n:Nat):xY n<=25:=by unfold xY;split <;> omega
theorem zLC (a b:Nat):xY (xY a+xY b)=xY (a+b):=by
 unfold xY;by_cases c:24<a <;> by_cases d:24<b <;> by_cases e:24<a+b <;> simp only[c,d,e,if_true,if_false] <;> first|omega|(split <;> omega)
theorem zLB (a k:Nat):xY (xY a*k)=xY (a*k):=by
 rcases Nat.eq_zero_or_pos k with b|b
 ·subst b;rfl
 ·unfold xY
  by_cases c:24<a
  ·have d:=Nat.mul_le_mul_left a b
   have e:=Nat.mul_le_mul_left 25 b;rw[if_pos c,if_pos (by omega),if_pos (by omega)]
  ·rw[if_neg c]
theorem zJ8 (f g:Tr->Nat)(parts:List Tr)(a:∀u∈parts,f u=g u)(j:Nat)(d:j<=parts.length):xE f parts j=xE g parts j:=by
 induction j with
 |zero=>rfl
 |succ j b=>
  show xE f parts j+f (parts.getD j Tr.none)=xE g parts j+g (parts.getD j Tr.none);have c:parts.getD j Tr.none∈parts:=by
   rw[lW,lV (by omega:j<parts.length)];exact List.getElem_mem _
  rw[b (by omega),a _ c]
theorem zNq (f:Tr->Nat)(parts:List Tr)(u:Tr)(j:Nat)(b:j<=parts.length):xE f (parts++[u]) j=xE f parts j:=by
 induction j with
 |zero=>rfl
 |succ j a=>
  show xE f (parts++[u]) j+f ((parts++[u]).getD j Tr.none)=xE f parts j+f (parts.getD j Tr.none);rw[a (by omega),lW,lW,kW (by omega)]
def zNE (c:Cs):Prop:=c.ranges.length<=10000000/\∀r∈c.ranges,-100<=r.1/\r.1<=20000000/\ -100<=r.2/\r.2<=20000000
def TrOk:Nat->Tr->Prop
 |0,_=>False
 |d+1,t=>zNE t.set/\(∀u∈t.parts,TrOk d u)/\t.chars=xY (qE (d+1) t)
theorem zHB:∀a t,TrOk a t->qE (a+1) t=qE a t
 |0,_,b=>False.elim b
 |a+1,t,b=>by
  have e:=zJ8 _ _ _ (λu c=>zHB a u (b.2.1 u c)) _ lQ;show(if t.kind=1 then 1 else if t.kind=2\/t.kind=3 then xE (qE (a+1)) t.parts t.parts.length else if t.kind=4 then t.copies*xE (qE (a+1)) t.parts t.parts.length else 0)=(if t.kind=1 then 1 else if t.kind=2\/t.kind=3 then xE (qE a) t.parts t.parts.length else if t.kind=4 then t.copies*xE (qE a) t.parts t.parts.length else 0);rw[e]
theorem TrOk.deeper:∀b t,TrOk b t->TrOk (b+1) t
 |0,_,a=>False.elim a
 |b+1,t,a=>⟨a.1,λu c=>TrOk.deeper b u (a.2.1 u c),by rw[zHB (b+1) t a];exact a.2.2⟩
theorem TrOk.deep {a e:Nat}{t:Tr}(b:TrOk a t)(c:a<=e):TrOk e t:=by
 induction c with
 |refl=>exact b
 |step _ f=>exact TrOk.deeper _ _ f
theorem TrOk.few {a:Nat}{t:Tr}(b:TrOk a t):t.chars<=25:=by
 cases a with
 |zero=>exact False.elim b
 |succ a=>rw[b.2.2];exact zEU _
theorem TrOk.chars {a:Nat}{t:Tr}(b:TrOk a t):t.chars=xY (qE a t):=by
 cases a with
 |zero=>exact False.elim b
 |succ a=>exact b.2.2
theorem zGe (o:Bool):zNE ⟨[],o⟩:=⟨by show 0<=_;omega,λr a=>by cases a⟩
theorem zLX (a:Nat):TrOk (a+1) Tr.none:=⟨zGe false,λu b=>(by cases b),rfl⟩
theorem zPY (a:Nat)(c:Cs)(b:zNE c):TrOk (a+1) (zH7 c):=⟨b,λu e=>(by cases e),rfl⟩
theorem zGa {a:Nat}{t:Tr}(b:TrOk a t):TrOk a t.plain:=by
 cases a with
 |zero=>exact False.elim b
 |succ a=>
  unfold Tr.plain;split
  ·exact zLX a
  ·exact b
theorem zKq {a:Nat}{t:Tr}(o:Tm)(b:TrOk a t):TrOk (a+1) (zCg t o):=by
 refine zGa ⟨zGe false,λu c=>?_,?_⟩
 ·rw[kY.1 c];exact b
 ·show xY (t.chars*o.copies)=xY (o.copies*(0+qE a t))
  rw[b.chars,zLB,Nat.zero_add,Nat.mul_comm]
theorem zIe (a k:Nat)(b:k=2\/k=3):TrOk (a+1) (zD4 k):=by
 refine⟨zGe false,λu c=>(by cases c),?_⟩;rcases b with e|e <;> subst e <;> rfl
theorem zIH {a:Nat}{t u:Tr}(c:TrOk (a+1) t)(e:t.kind=2\/t.kind=3)(f:TrOk a u):TrOk (a+1) (t.add u):=by
 refine⟨c.1,λv g=>?_,?_⟩
 ·rcases kU.1 g with b|b
  ·exact c.2.1 v b
  ·rw[kY.1 b];exact f
 ·have b:t.kind≠1:=by omega
  have i:qE (a+1) t=xE (qE a) t.parts t.parts.length:=by
   show(if t.kind=1 then _ else if t.kind=2\/t.kind=3 then _ else _)=_;rw[if_neg b,if_pos e]
  have j:qE (a+1) (t.add u)=xE (qE a) (t.parts++[u]) (t.parts++[u]).length:=by
   show(if t.kind=1 then _ else if t.kind=2\/t.kind=3 then _ else _)=_;rw[if_neg b,if_pos e];rfl
  have l:(t.parts++[u]).length=t.parts.length+1:=by simp
  have m:(t.parts++[u]).getD t.parts.length Tr.none=u:=by simp
  show xY (t.chars+u.chars)=xY (qE (a+1) (t.add u));rw[j,l];show _=xY (xE (qE a) (t.parts++[u]) t.parts.length+qE a ((t.parts++[u]).getD t.parts.length Tr.none));rw[m,zNq _ _ _ _ lQ,c.2.2,f.chars,zLC,i]
theorem zEo {t u:Tr}(a:t.kind=2\/t.kind=3):(t.add u).kind=2\/(t.add u).kind=3:=a
theorem zGC (s:ByteArray):∀f p l d q,zBy s f p l=some (d,q)->(∀r∈l,-100<=r.1/\r.1<=20000000/\ -100<=r.2/\r.2<=20000000)->p<q/\q<=s.size/\d.length<=l.length+(q-p)/\∀r∈d,-100<=r.1/\r.1<=20000000/\ -100<=r.2/\r.2<=20000000
 |0,_,_,_,_,i,_=>by cases i
 |f+1,p,l,d,q,i,v=>by
  obtain⟨m1,m2,z,A,B,C⟩:=zL0 s p;have t:∀r∈l++[((yU s p).low,(yU s p).high)],-100<=r.1/\r.1<=20000000/\ -100<=r.2/\r.2<=20000000:=λr w=>by
   rcases kU.1 w with j|j
   ·exact v r j
   ·rw[kY.1 j]
    show -100<=(yU s p).low/\(yU s p).low<=20000000/\ -100<=(yU s p).high/\(yU s p).high<=20000000;omega
  have g:(if (yU s p).ok then(if zJ s (yU s p).at_ ⟨#[93]⟩ then some (l++[((yU s p).low,(yU s p).high)],(yU s p).at_+1) else zBy s f (yU s p).at_ (l++[((yU s p).low,(yU s p).high)])) else none)=some (d,q):=i;by_cases m:(yU s p).ok=true
  ·rw[if_pos m] at g
   have E:=m2 m;by_cases o:zJ s (yU s p).at_ ⟨#[93]⟩=true
   ·rw[if_pos o] at g
    have e:=hQ g;have u:l++[((yU s p).low,(yU s p).high)]=d:=congrArg Prod.fst e;have F:(yU s p).at_+1=q:=congrArg Prod.snd e;have x:=vY o;rw[zCu] at x;refine⟨by omega,by omega,?_,by rw[<-u];exact t⟩;rw[<-u,kX];show l.length+1<=_;omega
   ·rw[if_neg o] at g
    obtain⟨a,b,c,y⟩:=zGC s f _ _ d q g t;refine⟨by omega,b,?_,y⟩;rw[kX] at c;have G:[((yU s p).low,(yU s p).high)].length=1:=rfl;omega
  ·rw[if_neg m] at g
   cases g
theorem zN3 (n:Int)(b:0<=n/\n<=16777216):zNE (zJG n):=⟨by show 1<=_;omega,λr a=>by rw[kY.1 a];show -100<=n/\n<=20000000/\ -100<=n/\n<=20000000;omega⟩
def zOQ (c:Cs):Prop:=c.ranges.length<=3000000/\∀r∈c.ranges,-100<=r.1/\r.1<=20000000/\ -100<=r.2/\r.2<=20000000
theorem zDW (s:ByteArray)(z:s.size<=1048576)(p:Nat)(c:Cs)(q:Nat)(d:zAk s p=some (c,q)):p<q/\q<=s.size/\zOQ c:=by
 have u:∀n:Int,0<=n/\n<=16777216->zOQ (zJG n):=λn x=>⟨by show 1<=_;omega,(zN3 n x).2⟩
 have A:=vT s p;unfold zAk at d;split at d
 ·unfold zCN at d
  cases j:zBy s (s.size+1) (if zJ s (p+1) ⟨#[94]⟩ then p+2 else p+1) [] with
  |none=>rw[j] at d;cases d
  |some g=>
   obtain⟨l,v⟩:=g;rw[j] at d;have e:=hQ d;have f:(⟨l,zJ s (p+1) ⟨#[94]⟩⟩:Cs)=c:=congrArg Prod.fst e;have m:v=q:=congrArg Prod.snd e;obtain⟨a,b,w,o⟩:=zGC s _ _ _ l v j (λr t=>by cases t);have B:([]:List (Int×Int)).length=0:=rfl;have C:p+1<=(if zJ s (p+1) ⟨#[94]⟩ then p+2 else p+1):=by split <;> omega
   refine⟨by omega,by omega,?_⟩;rw[<-f];exact⟨by show l.length<=_;omega,o⟩
 split at d
 ·obtain⟨a,b,w,o⟩:=zMc s (p+1)
  split at d
  ·rename_i i
   have e:=hQ d;have f:zJG (zBk s (p+1)).num=c:=congrArg Prod.fst e;have m:(zBk s (p+1)).at_=q:=congrArg Prod.snd e;have:=b i;exact⟨by omega,by omega,by rw[<-f];exact u _ ⟨w,o⟩⟩
  ·cases d
 split at d
 ·rename_i E
  have y:p<s.size:=zCO (by omega);have e:=hQ d;have f:zP8=c:=congrArg Prod.fst e;have m:p+1=q:=congrArg Prod.snd e;refine⟨by omega,by omega,?_⟩;rw[<-f];exact⟨by show 1<=_;omega,λr t=>by rw[kY.1 t];decide⟩
 split at d
 ·rename_i i
  have y:=zCO λe=>by rw[e] at i;exact absurd i (by decide)
  have e:=hQ d;have f:zJG (byt s p:Nat)=c:=congrArg Prod.fst e;have m:p+1=q:=congrArg Prod.snd e;exact⟨by omega,by omega,by rw[<-f];exact u _ ⟨by omega,by omega⟩⟩
 ·cases d
theorem zJM (r:Int×Int)(first last a:Int)(d:0<=first)(e:last<=200)(f:-100<=a/\a<=100):∀x∈qI r first last a,-100<=x.1/\x.1<=20000000/\ -100<=x.2/\x.2<=20000000:=λx b=>by
 unfold qI at b;by_cases c:(if first<r.1 then r.1 else first)<=(if r.2<last then r.2 else last)
 ·rw[if_pos c] at b
  rw[kY.1 b];show -100<=(if first<r.1 then r.1 else first)+a/\(if first<r.1 then r.1 else first)+a<=20000000/\ -100<=(if r.2<last then r.2 else last)+a/\(if r.2<last then r.2 else last)+a<=20000000;have g:first<=(if first<r.1 then r.1 else first):=by split <;> omega
  have h:(if r.2<last then r.2 else last)<=last:=by split <;> omega
  omega
 ·rw[if_neg c] at b
  cases b
theorem zOC (both:Bool)(c:Cs)(a:zOQ c):zNE (zMd both c):=by
 unfold zMd;split
 ·have j:=zHD c.ranges
  refine⟨?_,λx g=>?_⟩
  ·show(qV c.ranges).length<=10000000
   have:=a.1;omega
  ·have e:=g
   unfold qV at e;obtain⟨r,i,f⟩:=List.mem_flatMap.1 e;unfold zKe at f;rcases List.mem_cons.1 f with b|b
   ·rw[b];exact a.2 r i
   rcases kU.1 b with d|d
   ·exact zJM r 65 90 32 (by decide) (by decide) ⟨by decide,by decide⟩ x d
   ·exact zJM r 97 122 (-32) (by decide) (by decide) ⟨by decide,by decide⟩ x d
 ·exact⟨lY a.1 (by omega),a.2⟩
theorem zIr (s:ByteArray)(p:Nat)(o:Tm)(q:Nat)(a:zEP s p=some (o,q)):p<q/\q<=s.size/\o.least<=300/\o.most<=300:=by
 have fin:∀(c:Tm) (d i:Nat) (x:UInt8),zJ s i ⟨#[x]⟩=true->some (c,d)=some (o,q)->d=i+1->p<=i->c.least<=300->c.most<=300->p<q/\q<=s.size/\o.least<=300/\o.most<=300:=λc d i x b e r t f g=>by
  have e:=hQ e;have j:c=o:=congrArg Prod.fst e;have l:d=q:=congrArg Prod.snd e;have m:=vY b;rw[zCu] at m;subst j l;exact⟨by omega,by omega,f,g⟩
 have u:=vT s (p+1);have v:=vT s (p+3);unfold zEP at a;split at a
 ·rename_i b;exact fin _ _ p _ b a rfl (by omega) (by show 0<=300;omega) (by show 0<=300;omega)
 split at a
 ·rename_i b;exact fin _ _ p _ b a rfl (by omega) (by show 1<=300;omega) (by show 0<=300;omega)
 split at a
 ·rename_i b;exact fin _ _ p _ b a rfl (by omega) (by show 0<=300;omega) (by show 1<=300;omega)
 unfold zBQ at a;split at a
 ·split at a
  ·rename_i b;exact fin _ _ (p+2) _ b a rfl (by omega) (by show byt s (p+1)-48<=300;omega) (by show byt s (p+1)-48<=300;omega)
  split at a
  ·split at a
   ·rename_i b;exact fin _ _ (p+3) _ b a rfl (by omega) (by show byt s (p+1)-48<=300;omega) (by show 0<=300;omega)
   split at a
   ·split at a
    ·rename_i b;exact fin _ _ (p+4) _ b a rfl (by omega) (by show byt s (p+1)-48<=300;omega) (by show byt s (p+3)-48<=300;omega)
    ·cases a
   ·cases a
  ·cases a
 ·cases a
theorem zFN (s:ByteArray)(D:Nat):∀f p t u q,zBX s f p t=some (u,q)->p<=s.size->TrOk (D+4*p) t->p<=q/\q<=s.size/\TrOk (D+4*q) u
 |0,_,_,_,_,j,_,_=>by cases j
 |f+1,p,t,u,q,j,v,m=>by
  have i:(if zBs s p then(match zEP s p with|none=>none|some (o,q)=>zBX s f q (zCg t o)) else some (t,p))=some (u,q):=j;split at i
  ·cases l:zEP s p with
   |none=>rw[l] at i;cases i
   |some g=>
    obtain⟨o,r⟩:=g;rw[l] at i;obtain⟨a,b,-,-⟩:=zIr s p o r l;obtain⟨c,w,e⟩:=zFN s D f r (zCg t o) u q i b ((zKq o m).deep (by omega));exact⟨by omega,w,e⟩
  ·have e:=hQ i
   have x:t=u:=congrArg Prod.fst e;have y:p=q:=congrArg Prod.snd e;subst x y;exact⟨lQ,v,m⟩
def zCU (s:ByteArray)(D:Nat)(f:Nat->Option (Tr×Nat)):Prop:=∀p t q,f p=some (t,q)->p<q/\q<=s.size/\TrOk (D+4*q) t
theorem zJm (s:ByteArray)(D:Nat)(i:Nat->Option (Tr×Nat))(r:zCU s D i):∀f p t u q,zCi s i f p t=some (u,q)->(t.kind=2\/t.kind=3)->TrOk (D+1+4*p) t->p<q/\q<=s.size/\TrOk (D+1+4*q) u
 |0,_,_,_,_,l,_,_=>by cases l
 |f+1,p,t,u,q,l,w,y=>by
  have j:(match i p with|none=>none|some (u,q)=>if zCn s q then some ((t.add u).plain,q) else zCi s i f q (t.add u))=some (u,q):=l;cases m:i p with
  |none=>rw[m] at j;cases j
  |some g=>
   obtain⟨v,d⟩:=g;rw[m] at j;obtain⟨a,b,c⟩:=r p v d m;have x:TrOk (D+1+4*d) (t.add v):=by
    rw[show D+1+4*d=D+4*d+1 by omega];exact zIH (y.deep (by omega)) w c
   have o:(if zCn s d then some ((t.add v).plain,d) else zCi s i f d (t.add v))=some (u,q):=j;split at o
   ·have e:=hQ o
    have z:(t.add v).plain=u:=congrArg Prod.fst e;have A:d=q:=congrArg Prod.snd e;subst z A;exact⟨a,b,zGa x⟩
   ·obtain⟨c1,c2,B⟩:=zJm s D i r f d (t.add v) u q o (zEo w) x
    exact⟨by omega,c2,B⟩
theorem zHA (s:ByteArray)(D:Nat)(row:Nat->Option (Tr×Nat))(o:zCU s D row):∀f p t u q,zAS s row f p t=some (u,q)->(t.kind=2\/t.kind=3)->TrOk (D+1+4*p) t->p<q/\q<=s.size/\TrOk (D+1+4*q) u
 |0,_,_,_,_,j,_,_=>by cases j
 |f+1,p,t,u,q,j,r,x=>by
  have i:(match row p with|none=>none|some (u,q)=>if zJ s q ⟨#[124]⟩ then zAS s row f (q+1) (t.add u) else some ((t.add u).plain,q))=some (u,q):=j;cases l:row p with
  |none=>rw[l] at i;cases i
  |some g=>
   obtain⟨v,d⟩:=g;rw[l] at i;obtain⟨a,b,c⟩:=o p v d l;have w:TrOk (D+1+4*d) (t.add v):=by
    rw[show D+1+4*d=D+4*d+1 by omega];exact zIH (x.deep (by omega)) r c
   have m:(if zJ s d ⟨#[124]⟩ then zAS s row f (d+1) (t.add v) else some ((t.add v).plain,d))=some (u,q):=i;split at m
   ·obtain⟨c1,c2,y⟩:=zHA s D row o f (d+1) (t.add v) u q m (zEo r) (w.deep (by omega))
    exact⟨by omega,c2,y⟩
   ·have e:=hQ m
    have z:(t.add v).plain=u:=congrArg Prod.fst e;have A:d=q:=congrArg Prod.snd e;subst z A;exact⟨a,b,zGa w⟩
def zBI (D:Nat)(defs:List (ByteArray×Tr)):Prop:=∀d∈defs,TrOk D d.2
theorem zCP (n:ByteArray):(braced n).size=n.size+2:=by
 unfold braced;rw[ByteArray.size_append,ByteArray.size_append,zCu,zCu];omega
theorem zJL (s:ByteArray)(D p:Nat):∀defs t q,zBI D defs->zDl s p defs=some (t,q)->p<q/\q<=s.size/\TrOk D t
 |[],_,_,_,a=>by cases a
 |d::c,t,q,f,a=>by
  have b:(if zJ s p (braced d.1) then some (d.2,p+(braced d.1).size) else zDl s p c)=some (t,q):=a;split at b
  ·rename_i g
   have e:=hQ b;have i:d.2=t:=congrArg Prod.fst e;have l:p+(braced d.1).size=q:=congrArg Prod.snd e;have m:=vY g;have o:=zCP d.1;subst i;exact⟨by omega,by omega,f d hU⟩
  ·exact zJL s D p c t q (λx j=>f x (List.mem_cons_of_mem _ j)) b
section
variable {s:ByteArray} {D:Nat} {defs:List (ByteArray×Tr)} {k:Nat} {sub:Reads}
theorem zQb (x:∀both,zCU s (D+2) λp=>sub p both)(both:Bool):zCU s D λp=>brM s k sub p both:=λp t q y=>by
 have d:brM s k sub p both=some (t,q):=y;unfold brM at d;split at d
 ·cases d
 split at d
 ·rename_i i
  have r:=vY i;have z:(⟨#[40,41]⟩:ByteArray).size=2:=rfl;have e:=hQ d;have j:Tr.none=t:=congrArg Prod.fst e;have l:p+2=q:=congrArg Prod.snd e;subst j l;exact⟨by omega,by omega,by rw[show D+4*(p+2)=D+4*p+7+1 by omega];exact zLX _⟩
 ·have A:p+1<=(if zJ s p ⟨#[40,105,58]⟩ then p+3 else p+1):=by split <;> omega
  generalize (if zJ s p ⟨#[40,105,58]⟩ then p+3 else p+1)=u at *;generalize (zJ s p ⟨#[40,105,58]⟩||both)=w at *;cases m:sub u w with
  |none=>rw[m] at d;cases d
  |some g=>
   obtain⟨v,f⟩:=g;rw[m] at d;obtain⟨a,b,c⟩:=x w u v f m;have o:(if zJ s f ⟨#[41]⟩ then some (v,f+1) else none)=some (t,q):=d;split at o
   ·rename_i i
    have r:=vY i;rw[zCu] at r;have e:=hQ o;have j:v=t:=congrArg Prod.fst e;have l:f+1=q:=congrArg Prod.snd e;subst j l;exact⟨by omega,by omega,c.deep (by omega)⟩
   ·cases o
theorem zGH (j:s.size<=1048576)(l:zBI D defs)(m:∀both,zCU s (D+2) λp=>sub p both)(both:Bool):zCU s D λp=>zEl s defs k sub p both:=λp t q o=>by
 have d:zEl s defs k sub p both=some (t,q):=o;unfold zEl at d;split at d
 ·exact zQb m both p t q d
 split at d
 ·obtain⟨a,b,c⟩:=zJL s D p defs t q l d
  exact⟨a,b,c.deep (by omega)⟩
 ·cases i:zAk s p with
  |none=>rw[i] at d;cases d
  |some g=>
   obtain⟨c,f⟩:=g;rw[i] at d;have e:=hQ d;have r:zH7 (zMd both c)=t:=congrArg Prod.fst e;have u:f=q:=congrArg Prod.snd e;obtain⟨a,b,v⟩:=zDW s j p c f i;subst r u;exact⟨a,b,by rw[show D+4*f=D+4*f-1+1 by omega];exact zPY _ _ (zOC both c v)⟩
theorem zEs (i:s.size<=1048576)(j:zBI D defs)(l:∀both,zCU s (D+2) λp=>sub p both)(both:Bool):zCU s D λp=>zEt s defs k sub p both:=λp t q m=>by
 have d:zEt s defs k sub p both=some (t,q):=m;unfold zEt at d;cases e:zEl s defs k sub p both with
 |none=>rw[e] at d;cases d
 |some g=>
  obtain⟨v,f⟩:=g;rw[e] at d;obtain⟨a,b,c⟩:=zGH i j l both p v f e;obtain⟨o,b2,c2⟩:=zFN s D _ f v t q d b c;exact⟨by omega,b2,c2⟩
theorem zHV (a:s.size<=1048576)(b:zBI D defs)(c:∀both,zCU s (D+2) λp=>sub p both)(both:Bool):zCU s (D+1) λp=>zQw s defs k sub p both:=λp t q d=>zJm s D _ (zEs a b c both) _ p (zD4 2) t q d (.inl rfl) (by rw[show D+1+4*p=D+4*p+1 by omega];exact zIe _ 2 (.inl rfl))
theorem zJ6 (a:s.size<=1048576)(b:zBI D defs)(c:∀both,zCU s (D+2) λp=>sub p both)(both:Bool):zCU s (D+2) λp=>zOw s defs k sub p both:=λp t q d=>zHA s (D+1) _ (zHV a b c both) _ p (zD4 3) t q d (.inr rfl) (by rw[show D+1+1+4*p=D+4*p+1+1 by omega];exact zIe _ 3 (.inr rfl))
theorem zAC (a:s.size<=1048576)(b:zBI D defs):∀k both,zCU s (D+2) λp=>zCd s defs k p both
 |0,both=>zJ6 a b (λ_ p t q c=>by cases c) both
 |k+1,both=>zJ6 a b (zAC a b k) both
end
end
theorem zOY {w w2:World}{b:Nat}(e:b<w.heap.size)(a:Keep (w.heap.size+1) b (w.alloc (.cells #[slice none 0 0,bool false] 161)) w2):w2.heap[w.heap.size]? =some (.cells #[slice none 0 0,bool false] 161)/\w2.cell? ⟨w.heap.size,0,none⟩=some (slice none 0 0)/\w2.cell? ⟨w.heap.size,1,none⟩=some (bool false)/\w2.frozen? ⟨w.heap.size,0,none⟩=false/\w2.frozen? ⟨w.heap.size,1,none⟩=false/\Keep w.heap.size b w w2:=by
 have d:=gX w (.cells #[slice none 0 0,bool false] 161);have c:=(a.block w.heap.size (by omega) (by omega)).trans d;refine⟨c,?_,?_,?_,?_,(kZ (H:=w.heap.size) (b:=b) _ _ lQ).trans ⟨a.os,a.output,a.size,λk d c=>a.block k (by omega) c⟩⟩
 all_goals first|(unfold cell?;rw[c];rfl)|(unfold frozen?;rw[c];simp)
theorem zOF {w1:World}{b:Nat}{s:ByteArray}{dv:Value}{r:Rx}(a:RxAt w1 b s dv r):∃w2,w2=w1.setCell ⟨b,2,none⟩ (iX ((r.at_:Int)+1))/\RxAt w2 b s dv {r with at_:=r.at_+1}/\(∀H,Keep H b w1 w2)/\w1.cell? ⟨b,2,none⟩=some (iX (r.at_:Int))/\w1.frozen? ⟨b,2,none⟩=false:=
 ⟨_,rfl,a.setAt (r.at_+1),λH=>Keep.set _ _ _,a.cells.2.2.1,a.cells.2.2.2.2.2 2⟩
theorem zAz {w:World}{b:Nat}{s:ByteArray}{dv:Value}{r:Rx}(a:RxAt w b s dv r)(d:s.size<=1048576)(g:r.at_<=s.size):∃w1,w1=w.alloc (.cells #[slice none 0 0,bool false] 161)/\RxAt w1 b s dv r/\Hid (∀w2,Keep (w.heap.size+1) b w1 w2->w2.heap[w.heap.size]? =some (.cells #[slice none 0 0,bool false] 161)/\w2.cell? ⟨w.heap.size,0,none⟩=some (slice none 0 0)/\w2.cell? ⟨w.heap.size,1,none⟩=some (bool false)/\w2.frozen? ⟨w.heap.size,0,none⟩=false/\w2.frozen? ⟨w.heap.size,1,none⟩=false/\Keep w.heap.size b w w2)/\Hid (w1.heap.size=w.heap.size+1)/\Hid (b<w.heap.size)/\Hid (Calls prog 200 #[pX b,iX 0] w1 λe w'=>e=returned (int .u8 (byt s r.at_:Nat))/\w'=w1):=
 have c:=RxAt.of_block a (lG _ _ _ a.lt)
 ⟨_,rfl,c,λw2 f=>zOY a.lt f,by show _=_;simp,a.lt,(zH4 d (by omega)) _ c⟩
theorem zPV (w:World)(b:Nat)(s:ByteArray)(dv:Value)(r:Rx)(p:RxAt w b s dv r)(c:s.size<=1048576)(t:r.at_<=s.size)(d:byt s r.at_=91)(f:zCN s r.at_=none):
  Calls prog 203 #[pX b] w (zAT w b s dv r (zAk s r.at_)):=by
 obtain⟨w1,g,u,x,y,z,i⟩:=zAz p c t;have A:Hid (zAk s r.at_=none):=by show _=_;unfold zAk;rw[if_pos d,f]
 have j:=vl (zFg w1 b s dv r u c (zCO (by omega)));rw[f] at j;rw[A.out];rw[d] at i;go_in;apply wp_cut;intro K B;go_wp2;apply B.out;rw[<-g];clear g;go_wp2_with (first|(go_at_call 200;refine i.mono ?_;rintro e L ⟨rfl,C⟩;have D:=C.symm;subst D)|(go_at_call 208;refine j.mono ?_;rintro e w2 ⟨E,v,n,a,o,q,rfl,F⟩;have G:=vl F;obtain⟨k,c0,c1,M,N,l⟩:=x w2 (by rw[<-y.out];exact E);obtain⟨O,H,I,J,m⟩:=jK w w2 b s dv {r with at_:=q} _ _ (slice v n a) (o) z k G l;clear k l))
 rw[<-H];refine gV (v:=tuple #[agg #[slice v n a,bool (o)],bool false]) (by simp[results,results203,go_sem,I,J]) rfl ?_;exact⟨m.2.1,v,n,a,o,q,rfl,m.1⟩
theorem zPU (w:World)(b:Nat)(s:ByteArray)(dv:Value)(r:Rx)(y:RxAt w b s dv r)(d:s.size<=1048576)(z:r.at_<=s.size)(f:byt s r.at_=91)(c:Cs)(q:Nat)(g:zCN s r.at_=some (c,q)):
  Calls prog 203 #[pX b] w (zAT w b s dv r (zAk s r.at_)):=by
 obtain⟨w1,j,A,B,k,C,l⟩:=zAz y d z;have D:Hid (zAk s r.at_=some (c,q)):=by show _=_;unfold zAk;rw[if_pos f,g]
 have m:=vl (zFg w1 b s dv r A d (zCO (by omega)));rw[g] at m;rw[D.out];rw[f] at l;go_in;apply wp_cut;intro O o;go_wp2;apply o.out;clear o;rw[<-j];clear j;go_wp2_with (first|(go_at_call 200;refine l.mono ?_;rintro e P ⟨rfl,E⟩;have F:=E.symm;subst F)|(go_at_call 208;refine m.mono ?_;rintro e w2 ⟨G,u,rfl,p,H⟩;obtain⟨ao,cap,I,-⟩:=p.at;subst I;have J:=vl H;have K:Hid (RangesIn (λi=>w.heap.size<i) w2 (slice ao c.ranges.length cap) c.ranges):=p.mono (λi _ Q=>by have:=k.out;omega);obtain⟨t,c0,c1,R,S,x⟩:=B w2 (by rw[<-k.out];exact G);obtain⟨T,L,M,N,a⟩:=jK w w2 b s dv {r with at_:=q} _ _ (slice ao c.ranges.length cap) (c.others) C t J x;clear t x))
 rw[<-L];refine gV (v:=tuple #[agg #[slice ao c.ranges.length cap,bool (c.others)],bool true]) (by simp[results,results203,go_sem,M,N]) rfl ?_;exact⟨a.2.1,_,rfl,a.2.2 _ K,a.1⟩
theorem zPS (w:World)(b:Nat)(s:ByteArray)(dv:Value)(r:Rx)(q:RxAt w b s dv r)(t:s.size<=1048576)(H:r.at_<=s.size)(d:byt s r.at_=92)(a:Sg)(f:zBk s (r.at_+1)=a)(j:a.ok=true):
  Calls prog 203 #[pX b] w (zAT w b s dv r (zAk s r.at_)):=by
 obtain⟨w1,x,l,I,m,J,y⟩:=zAz q t H;have z:Hid (zAk s r.at_=some (zJG a.num,a.at_)):=by show _=_;unfold zAk;rw[if_neg (by omega),if_pos d,f,j];rfl
 have A:=vl (zCc w1 b s dv r l t (by omega));rw[f,j] at A;rw[z.out];rw[d] at y;clear z d f j;clear q l;go_in;apply wp_cut;intro U B;go_wp2;apply B.out;clear B;rw[<-x];clear x;go_wp2_with (first|(go_at_call 200;refine y.mono ?_;rintro e V ⟨rfl,K⟩;have L:=K.symm;subst L)|(go_at_call 209;refine A.mono ?_;rintro e w2 ⟨rfl,C,D⟩)|(go_at_call 210;refine(zEB w2 a.num).mono ?_;rintro e o ⟨u,rfl,⟨g,M,rfl,N⟩,c⟩;have O:=(D 0).size;have E:b<w2.heap.size:=C.lt;have P:=vl <| RxAt.of_block C (c.block b E (by omega));have Q:Hid (RangesIn (λi=>w.heap.size<i) o (slice (qX g) 1 1) [(a.num,a.num)]):=zH6 N (by have:=m.out;omega);obtain⟨F,c0,c1,W,X,G⟩:=I o ((D _).trans ⟨c.os,c.output,c.size,λk l _=>c.block k (by have:=m.out;omega) (by have:=m.out;omega)⟩);obtain⟨Y,R,S,T,p⟩:=jK w o b s dv {r with at_:=a.at_} _ _ (slice (qX g) 1 1) (false) J F P G;clear F G;clear O E M))
 rw[<-R];refine gV (v:=tuple #[agg #[slice (qX g) 1 1,bool (false)],bool true]) (by simp[results,results203,go_sem,S,T]) rfl ?_;exact⟨p.2.1,_,rfl,p.2.2 _ Q,p.1⟩
theorem zPT (w:World)(b:Nat)(s:ByteArray)(dv:Value)(r:Rx)(E:RxAt w b s dv r)(f:s.size<=1048576)(F:r.at_<=s.size)(i:byt s r.at_=92)(a:Sg)(j:zBk s (r.at_+1)=a)(l:a.ok=false):
  Calls prog 203 #[pX b] w (zAT w b s dv r (zAk s r.at_)):=by
 obtain⟨w1,m,o,G,d,H,p⟩:=zAz E f F;have I:Hid (zAk s r.at_=none):=by show _=_;unfold zAk;rw[if_neg (by omega),if_pos i,j,l];rfl
 have q:=vl (zCc w1 b s dv r o f (by omega));rw[j,l] at q;rw[I.out];rw[i] at p;go_in;apply wp_cut;intro S t;go_wp2;apply t.out;clear t;rw[<-m];clear m;go_wp2_with (first|(go_at_call 200;refine p.mono ?_;rintro e T ⟨rfl,J⟩;have K:=J.symm;subst K)|(go_at_call 209;refine q.mono ?_;rintro e w2 ⟨rfl,x,y⟩)|(go_at_call 210;refine(zEB w2 a.num).mono ?_;rintro e z ⟨u,rfl,⟨g,L,rfl,M⟩,c⟩;have N:=(y 0).size;have A:b<w2.heap.size:=x.lt;have O:=vl <| RxAt.of_block x (c.block b A (by omega));have U:=vl <| zH6 M (by have:=d.out;omega);obtain⟨B,c0,c1,V,W,C⟩:=G z ((y _).trans ⟨c.os,c.output,c.size,λk o _=>c.block k (by have:=d.out;omega) (by have:=d.out;omega)⟩);obtain⟨X,P,Q,R,D⟩:=jK w z b s dv {r with at_:=a.at_} _ _ (slice (qX g) 1 1) (false) H B O C;clear B C;clear N A L))
 rw[<-P];refine gV (v:=tuple #[agg #[slice (qX g) 1 1,bool (false)],bool false]) (by simp[results,results203,go_sem,Q,R]) rfl ?_;exact⟨D.2.1,some ⟨g,0,none⟩,1,1,false,a.at_,rfl,D.1⟩
theorem zQv (w:World)(b:Nat)(s:ByteArray)(dv:Value)(r:Rx)(m:RxAt w b s dv r)(C:s.size<=1048576)(D:r.at_<=s.size)(c:byt s r.at_=46):
  Calls prog 203 #[pX b] w (zAT w b s dv r (zAk s r.at_)):=by
 obtain⟨w1,o,d,E,f,F,p⟩:=zAz m C D;have q:Hid (zAk s r.at_=some (zP8,r.at_+1)):=by show _=_;unfold zAk;rw[if_neg (by omega),if_neg (by omega),if_pos c]
 rw[q.out];obtain⟨w2,G,t,x,c2,R⟩:=zOF d;rw[c] at p;clear c;clear q;clear m d;go_in;apply wp_cut;intro S y;go_wp2;apply y.out;clear y;rw[<-o];clear o;go_wp2_with (first|(go_at_call 200;refine p.mono ?_;rintro e T ⟨rfl,H⟩;have I:=H.symm;subst I)|(rw [<-G];go_at_call 211;refine(zNj w2).mono ?_;rintro e j ⟨u,rfl,⟨g,J,rfl,K⟩,a⟩;have L:=(x 0).size;have z:b<w2.heap.size:=t.lt;have M:=vl <| RxAt.of_block t (a.block b z (by omega));have N:Hid (RangesIn (λi=>w.heap.size<i) j (slice (qX g) 1 1) [(10,10)]):=zH6 K (by have:=f.out;omega);obtain⟨A,c0,c1,U,V,B⟩:=E j ((x _).trans ⟨a.os,a.output,a.size,λk d _=>a.block k (by have:=f.out;omega) (by have:=f.out;omega)⟩);obtain⟨W,O,P,Q,l⟩:=jK w j b s dv {r with at_:=r.at_+1} _ _ (slice (qX g) 1 1) (true) F A M B;clear A B;clear L z J))
 rw[<-O];refine gV (v:=tuple #[agg #[slice (qX g) 1 1,bool (true)],bool true]) (by simp[results,results203,go_sem,P,Q]) rfl ?_;exact⟨l.2.1,_,rfl,l.2.2 _ N,l.1⟩
theorem zQt (w:World)(b:Nat)(s:ByteArray)(dv:Value)(r:Rx)(t:RxAt w b s dv r)(K:s.size<=1048576)(L:r.at_<=s.size)(c:Nat)(d:byt s r.at_=c)(x:c≠91)(y:c≠92)(z:c≠46)(f:zBf c=true):
  Calls prog 203 #[pX b] w (zAT w b s dv r (zAk s r.at_)):=by
 obtain⟨w1,A,j,M,l,N,B⟩:=zAz t K L;have C:Hid (zAk s r.at_=some (zJG (c:Nat),r.at_+1)):=by show _=_;unfold zAk;rw[d,if_neg x,if_neg y,if_neg z,if_pos f]
 rw[C.out];obtain⟨w2,O,D,E,c2,aa⟩:=zOF j;have P:=vT s r.at_;rw[d] at B P;have F:=vl λw=>zDq w c;rw[f] at F;have ab:((c:Int)==91)=false:=by rw[hX];omega
 have ac:((c:Int)==92)=false:=by rw[hX];omega
 have ad:((c:Int)==46)=false:=by rw[hX];omega
 clear d x y z f;clear C;clear t j;go_in;apply wp_cut;intro ae G;go_wp2;apply G.out;clear G;rw[<-A];clear A;go_wp2_with (first|(go_at_call 200;refine B.mono ?_;rintro e Q ⟨rfl,m⟩;have o:=m.symm;subst o)|(go_at_call 212;refine(F _).mono ?_;rintro e Q ⟨rfl,m⟩;have o:=m.symm;subst o)|(rw [<-O];go_at_call 210;refine(zEB w2 (c:Int)).mono ?_;rintro e p ⟨u,rfl,⟨g,R,rfl,S⟩,a⟩;have T:=(E 0).size;have H:b<w2.heap.size:=D.lt;have U:=vl <| RxAt.of_block D (a.block b H (by omega));have V:Hid (RangesIn (λi=>w.heap.size<i) p (slice (qX g) 1 1) [((c:Int),(c:Int))]):=zH6 S (by have:=l.out;omega);obtain⟨I,c0,c1,af,ag,J⟩:=M p ((E _).trans ⟨a.os,a.output,a.size,λk j _=>a.block k (by have:=l.out;omega) (by have:=l.out;omega)⟩);obtain⟨ah,W,X,Y,q⟩:=jK w p b s dv {r with at_:=r.at_+1} _ _ (slice (qX g) 1 1) (false) N I U J;clear I J;clear T H R))
 rw[<-W];refine gV (v:=tuple #[agg #[slice (qX g) 1 1,bool (false)],bool true]) (by simp[results,results203,go_sem,X,Y]) rfl ?_;exact⟨q.2.1,_,rfl,q.2.2 _ V,q.1⟩
theorem zQu (w:World)(b:Nat)(s:ByteArray)(dv:Value)(r:Rx)(o:RxAt w b s dv r)(p:s.size<=1048576)(q:r.at_<=s.size)(c:Nat)(f:byt s r.at_=c)(t:c≠91)(u:c≠92)(x:c≠46)(g:zBf c=false):
  Calls prog 203 #[pX b] w (zAT w b s dv r (zAk s r.at_)):=by
 obtain⟨w1,i,y,z,K,A,j⟩:=zAz o p q;have B:Hid (zAk s r.at_=none):=by show _=_;unfold zAk;rw[f,if_neg t,if_neg u,if_neg x,if_neg (by rw[g];decide)]
 rw[B.out];have C:=vT s r.at_;rw[f] at j C;have k:=vl λw=>zDq w c;rw[g] at k;have L:((c:Int)==91)=false:=by rw[hX];omega
 have M:((c:Int)==92)=false:=by rw[hX];omega
 have N:((c:Int)==46)=false:=by rw[hX];omega
 have D:=vl y;obtain⟨E,c0,c1,O,P,F⟩:=z w1 (Keep.refl _ _ _);obtain⟨Q,G,H,I,l⟩:=jK w w1 b s dv r _ _ (slice none 0 0) false A E D F;go_in;apply wp_cut;intro R m;go_wp2;apply m.out;clear m;rw[<-i];clear i;go_wp2_with (first|(go_at_call 200;refine j.mono ?_;rintro e J ⟨rfl,a⟩;have d:=a.symm;subst d)|(go_at_call 212;refine(k _).mono ?_;rintro e J ⟨rfl,a⟩;have d:=a.symm;subst d))
 rw[<-G];refine gV (v:=tuple #[agg #[slice none 0 0,bool (false)],bool false]) (by simp[results,results203,go_sem,H,I]) rfl ?_;exact⟨l.2.1,none,0,0,false,r.at_,rfl,l.1⟩
theorem zEw (w:World)(b:Nat)(s:ByteArray)(dv:Value)(r:Rx)(a:RxAt w b s dv r)(d:s.size<=1048576)(e:r.at_<=s.size):
  Calls prog 203 #[pX b] w (zAT w b s dv r (zAk s r.at_)):=by
 by_cases f:byt s r.at_=91
 ·cases k:zCN s r.at_ with
  |none=>exact zPV w b s dv r a d e f k
  |some g=>
   obtain⟨c,q⟩:=g;exact zPU w b s dv r a d e f c q k
 by_cases i:byt s r.at_=92
 ·cases l:(zBk s (r.at_+1)).ok with
  |true=>exact zPS w b s dv r a d e i _ rfl l
  |false=>exact zPT w b s dv r a d e i _ rfl l
 by_cases j:byt s r.at_=46
 ·exact zQv w b s dv r a d e j
 cases m:zBf (byt s r.at_) with
 |true=>exact zQt w b s dv r a d e _ rfl f i j m
 |false=>exact zQu w b s dv r a d e _ rfl f i j m
def zOL (w:World)(b:Nat)(s:ByteArray)(dv:Value)(r:Rx)(a:Option (Tm×Nat))(e:Ending)(w':World):Prop:=
 Keep w.heap.size b w w'/\match a with
 |none=>∃q,e=returned (tuple #[agg #[int i64 0,int i64 0,bool false],bool false])/\RxAt w' b s dv {r with at_:=q}
 |some (o,q)=>e=returned (tuple #[agg #[int i64 (o.least:Int),int i64 (o.most:Int),bool o.endless],bool true])/\RxAt w' b s dv {r with at_:=q}
theorem qP (w w2:World)(b:Nat)(s:ByteArray)(dv:Value)(r:Rx)(n m:Int)(o:Bool)(j:b<w.heap.size)(c:Hid (Keep w.heap.size b w w2/\w2.heap[w.heap.size]? =some (.cells #[iX 0,iX 0,bool false] 163)))(e:RxAt w2 b s dv r):
  ∃a,a=((w2.setCell ⟨w.heap.size,0,none⟩ (iX n)).setCell ⟨w.heap.size,1,none⟩ (iX m)).setCell ⟨w.heap.size,2,none⟩ (bool o)/\a.cell? ⟨w.heap.size,0,none⟩=some (iX n)/\a.cell? ⟨w.heap.size,1,none⟩=some (iX m)/\a.cell? ⟨w.heap.size,2,none⟩=some (bool o)/\Hid (RxAt a b s dv r/\Keep w.heap.size b w a):=by
 have f:(((w2.setCell ⟨w.heap.size,0,none⟩ (iX n)).setCell ⟨w.heap.size,1,none⟩ (iX m)).setCell ⟨w.heap.size,2,none⟩ (bool o)).heap[w.heap.size]? =some (.cells #[iX n,iX m,bool o] 163):=by
  simp[setCell,lU,c.out.2]
 have d:∀i,i≠w.heap.size->(((w2.setCell ⟨w.heap.size,0,none⟩ (iX n)).setCell ⟨w.heap.size,1,none⟩ (iX m)).setCell ⟨w.heap.size,2,none⟩ (bool o)).heap[i]? =w2.heap[i]? :=λi g=>by
  simp[setCell,lU,Ne.symm g]
 refine⟨_,rfl,?_,?_,?_,RxAt.of_block e (d b (by omega)),c.1.trans ⟨rfl,rfl,by simp[World.setCell],λk l _=>d k (by omega)⟩⟩
 all_goals (unfold cell?;rw[f];rfl)
theorem zMs {w w2:World}{b:Nat}(e:b<w.heap.size)(a:Keep (w.heap.size+1) b (w.alloc (.cells #[iX 0,iX 0,bool false] 163)) w2):Hid (Keep w.heap.size b w w2/\w2.heap[w.heap.size]? =some (.cells #[iX 0,iX 0,bool false] 163))/\w2.cell? ⟨w.heap.size,0,none⟩=some (iX 0)/\w2.cell? ⟨w.heap.size,1,none⟩=some (iX 0)/\w2.cell? ⟨w.heap.size,2,none⟩=some (bool false)/\w2.frozen? ⟨w.heap.size,0,none⟩=false/\w2.frozen? ⟨w.heap.size,1,none⟩=false/\w2.frozen? ⟨w.heap.size,2,none⟩=false:=by
 have d:=gX w (.cells #[iX 0,iX 0,bool false] 163);have c:=(a.block w.heap.size (by omega) (by omega)).trans d;refine⟨⟨(kZ (H:=w.heap.size) (b:=b) _ _ lQ).trans ⟨a.os,a.output,a.size,λk d c=>a.block k (by omega) c⟩,c⟩,?_,?_,?_,?_,?_,?_⟩
 all_goals first|(unfold cell?;rw[c];rfl)|(unfold frozen?;rw[c];simp)
theorem zDH {c:Nat}(a:yM c=true):zBF c=((c-48:Nat):Int)/\48<=c/\c<=52:=by
 have b:48<=c:=by
  unfold yM xS at a;rw[Bool.and_eq_true,Bool.and_eq_true] at a;exact of_decide_eq_true a.1.1
 have d:c<=52:=by
  unfold yM at a;rw[Bool.and_eq_true] at a;exact of_decide_eq_true a.2
 exact⟨by unfold zBF;rw[if_pos a];omega,b,d⟩
theorem zQE {a w:World}{b x n:Nat}{s:ByteArray}{dv:Value}{r:Rx}(c:yM (byt s x)=true)(d:Hid (byt s x-48=n))(f:RxAt w b s dv {r with at_:=x})(g:∀H,Keep H b a w)(i:s.size<=1048576)(j:x<=2000000):
  Calls prog 214 #[pX b] w λe w'=>e=returned (iX (n:Int))/\RxAt w' b s dv {r with at_:=x+1}/\∀H,Keep H b a w':=by
 refine(zFf w b s dv {r with at_:=x} f i j).mono ?_;rintro e w' ⟨rfl,k,l⟩;refine⟨by rw[(zDH c).1,<-d.out],?_,λH=>(g H).trans (l H)⟩;have e:(({r with at_:=x}:Rx).on (yM (byt s x)))={r with at_:=x+1}:=by rw[c];rfl
 rw[<-e];exact k
theorem zQF {a w:World}{b x:Nat}{s:ByteArray}{dv:Value}{r:Rx}(c:yM (byt s x)=false)(d:RxAt w b s dv {r with at_:=x})(f:∀H,Keep H b a w)(g:s.size<=1048576)(i:x<=2000000):
  Calls prog 214 #[pX b] w λe w'=>e=returned (iX (-1))/\RxAt w' b s dv {r with at_:=x}/\∀H,Keep H b a w':=by
 refine(zFf w b s dv {r with at_:=x} d g i).mono ?_;rintro e w' ⟨rfl,j,k⟩;refine⟨by unfold zBF;rw[if_neg (by rw[c];decide)],?_,λH=>(f H).trans (k H)⟩;have e:(({r with at_:=x}:Rx).on (yM (byt s x)))={r with at_:=x}:=by rw[c];rfl
 rw[<-e];exact j
theorem zEZ {w:World}{b:Nat}{s:ByteArray}{dv:Value}{r:Rx}(a:RxAt w b s dv r):∃w1,w1=w.alloc (.cells #[iX 0,iX 0,bool false] 163)/\RxAt w1 b s dv {r with at_:=r.at_}/\Hid (∀w2,Keep (w.heap.size+1) b w1 w2->Hid (Keep w.heap.size b w w2/\w2.heap[w.heap.size]? =some (.cells #[iX 0,iX 0,bool false] 163))/\w2.cell? ⟨w.heap.size,0,none⟩=some (iX 0)/\w2.cell? ⟨w.heap.size,1,none⟩=some (iX 0)/\w2.cell? ⟨w.heap.size,2,none⟩=some (bool false)/\w2.frozen? ⟨w.heap.size,0,none⟩=false/\w2.frozen? ⟨w.heap.size,1,none⟩=false/\w2.frozen? ⟨w.heap.size,2,none⟩=false)/\Hid (w1.heap.size=w.heap.size+1)/\Hid (b<w.heap.size):=⟨_,rfl,RxAt.of_block a (lG _ _ _ a.lt),λw2 c=>zMs a.lt c,by show _=_;simp,a.lt⟩
theorem zMq {w1:World}{b:Nat}{s:ByteArray}{dv:Value}{r:Rx}(a:RxAt w1 b s dv {r with at_:=r.at_}):∃w2,w2=w1.setCell ⟨b,2,none⟩ (iX ((r.at_:Int)+1))/\RxAt w2 b s dv {r with at_:=r.at_+1}/\(∀H,Keep H b w1 w2)/\w1.cell? ⟨b,2,none⟩=some (iX (r.at_:Int))/\w1.frozen? ⟨b,2,none⟩=false:=
 ⟨_,rfl,a.setAt (r.at_+1),λH=>Keep.set _ _ _,a.cells.2.2.1,a.cells.2.2.2.2.2 2⟩
theorem zG4 (w:World)(b:Nat)(s:ByteArray)(dv:Value)(r:Rx)(z:RxAt w b s dv r)(l:s.size<=1048576)(L:r.at_<=s.size):
  Calls prog 207 #[pX b] w (zOL w b s dv r (zBQ s r.at_)):=by
 obtain⟨w1,A,o,D,M,p⟩:=zEZ z;obtain⟨w2,B,c,d,E,F⟩:=zMq o;clear z o;go_in;apply wp_cut;intro G k;go_wp2;apply k.out;clear k;rw[<-A];clear A;apply wp_cut;intro G k;go_wp2;apply k.out;clear k;rw[<-B];clear B E F;obtain⟨v,C⟩:∃v,v=w2:=⟨_,rfl⟩
 rw[<-C] at c d ⊢;clear C;unfold zBQ;obtain⟨n,t⟩:∃n,byt s (r.at_+1)-48=n:=⟨_,rfl⟩
 obtain⟨m,u⟩:∃m,byt s (r.at_+3)-48=m:=⟨_,rfl⟩
 rw[t,u];have H:=vT s (r.at_+1);rcases o:yM (byt s (r.at_+1)) with _|_;rotate_left;have I:=(zDH o).2;have N:n<=4:=by omega
 rw[if_pos rfl];rcases O:zJ s (r.at_+2) ⟨#[125]⟩ with _|_;rw[if_neg (by decide)];rcases P:zJ s (r.at_+2) ⟨#[44]⟩ with _|_;rotate_left;rw[if_pos rfl];rcases Q:zJ s (r.at_+3) ⟨#[125]⟩ with _|_;rw[if_neg (by decide)];rcases J:yM (byt s (r.at_+3)) with _|_;rotate_left;have q2:=(zDH J).2;have R:m<=4:=by omega
 rcases x:decide (byt s (r.at_+1)<=byt s (r.at_+3)) with _|_;rotate_left;rw[if_pos (show (true&&true)=true from rfl)];rcases S:zJ s (r.at_+4) ⟨#[125]⟩ with _|_
 all_goals
  try have K:(n:Int)<=(m:Int):=by have:=of_decide_eq_true x;omega
  try have K:(m:Int)<(n:Int):=by have:=of_decide_eq_false x;omega
  have T:=vl t;have U:=vl u;clear t u H
  try clear I
  try clear q2
  try clear x
  go_wp2_with ((first|(go_at_call 189;(first|refine(zPM (by assumption) c d l (by omega)).mono ?_|refine(zPL (by assumption) c d l (by omega)).mono ?_))|(go_at_call 214;(first|refine(zQF (by assumption) c d l (by omega)).mono ?_|refine(zQE (by assumption) (by assumption) c d l (by omega)).mono ?_)));rintro e v ⟨rfl,c,d⟩;obtain⟨q,c0,c1,c2,V,W,X⟩:=D v (d _))
  first
  |(obtain ⟨y,f,g,i,j,a⟩:=qP w v b s dv _ 0 0 false p q c;rw[<-f];refine gV (v:=tuple #[agg #[iX 0,iX 0,bool false],bool false]) (by simp[results,results207,go_sem,g,i,j]) rfl ?_;exact⟨a.2,_,rfl,a.1⟩)
  |(obtain ⟨y,f,g,i,j,a⟩:=qP w v b s dv _ n n false p q c;rw[<-f];refine gV (v:=tuple #[agg #[iX n,iX n,bool false],bool true]) (by simp[results,results207,go_sem,g,i,j]) rfl ?_;exact⟨a.2,rfl,a.1⟩)
  |(obtain ⟨y,f,g,i,j,a⟩:=qP w v b s dv _ n 0 true p q c;rw[<-f];refine gV (v:=tuple #[agg #[iX n,iX 0,bool true],bool true]) (by simp[results,results207,go_sem,g,i,j]) rfl ?_;exact⟨a.2,rfl,a.1⟩)
  |(obtain ⟨y,f,g,i,j,a⟩:=qP w v b s dv _ n m false p q c;rw[<-f];refine gV (v:=tuple #[agg #[iX n,iX m,bool false],bool true]) (by simp[results,results207,go_sem,g,i,j]) rfl ?_;exact⟨a.2,rfl,a.1⟩)
theorem zGs (w:World)(b:Nat)(s:ByteArray)(dv:Value)(r:Rx)(u:RxAt w b s dv r)(A:s.size<=1048576)(J:r.at_<=s.size):
  Calls prog 198 #[pX b] w (zOL w b s dv r (zEP s r.at_)):=by
 have D:Hid (∀w,RxAt w b s dv r->Ca 207 #[pX b] w (zOL w b s dv r (zBQ s r.at_))):=λw u=>zG4 w b s dv r u A J;obtain⟨v,E,d,B,F,p⟩:=zEZ u;have l:∀H,Keep H b v v:=λH=>⟨rfl,rfl,lQ,λk _ _=>rfl⟩
 clear u;go_in;apply wp_cut;intro O G;go_wp2;apply G.out;clear G;rw[<-E];clear E;unfold zEP;obtain⟨v0,C⟩:∃v0,v0=v:=⟨_,rfl⟩
 rw[<-C] at B F;have l:∀H,Keep H b v0 v:=by rw[C];exact l
 clear C;rcases K:zJ s r.at_ ⟨#[42]⟩ with _|_;rcases I:zJ s r.at_ ⟨#[43]⟩ with _|_;rcases P:zJ s r.at_ ⟨#[63]⟩ with _|_;rw[if_neg (by decide),if_neg (by decide),if_neg (by decide)];have x:∃a,zBQ s r.at_=a:=⟨_,rfl⟩
 obtain⟨a,x⟩:=x;rw[x] at D ⊢;clear x;rcases a with _|⟨o,q⟩
 all_goals
  go_wp2_with (first|(go_at_call 189;(first|refine(zPM (by assumption) d l A (by omega)).mono ?_|refine(zPL (by assumption) d l A (by omega)).mono ?_);rintro e v ⟨rfl,d,l⟩;obtain⟨m,c0,c1,c2,L,M,N⟩:=B v (l _))|(go_at_call 207;refine(D v d).mono ?_;(first|rintro e y ⟨t,q,rfl,d⟩|rintro e y ⟨t,rfl,d⟩);obtain⟨m,c0,c1,c2,L,M,N⟩:=B y ((l _).trans ⟨t.os,t.output,t.size,λk K I=>t.block k (by have:=F.out;have:=(l 0).size;omega) I⟩)))
  first
  |(obtain ⟨z,f,g,i,j,c⟩:=qP w y b s dv _ 0 0 false p m d;rw[<-f];refine gV (v:=tuple #[agg #[iX 0,iX 0,bool false],bool false]) (by simp[results,results198,go_sem,g,i,j]) rfl ?_;exact⟨c.2,_,rfl,c.1⟩)
  |(obtain ⟨z,f,g,i,j,c⟩:=qP w y b s dv _ o.least o.most o.endless p m d;rw[<-f];refine gV (v:=tuple #[agg #[iX o.least,iX o.most,bool o.endless],bool true]) (by simp[results,results198,go_sem,g,i,j]) rfl ?_;exact⟨c.2,rfl,c.1⟩)
  |(obtain ⟨z,f,g,i,j,c⟩:=qP w v b s dv _ 0 0 true p m d;rw[<-f];refine gV (v:=tuple #[agg #[iX 0,iX 0,bool true],bool true]) (by simp[results,results198,go_sem,g,i,j]) rfl ?_;exact⟨c.2,rfl,c.1⟩)
  |(obtain ⟨z,f,g,i,j,c⟩:=qP w v b s dv _ 1 0 true p m d;rw[<-f];refine gV (v:=tuple #[agg #[iX 1,iX 0,bool true],bool true]) (by simp[results,results198,go_sem,g,i,j]) rfl ?_;exact⟨c.2,rfl,c.1⟩)
  |(obtain ⟨z,f,g,i,j,c⟩:=qP w v b s dv _ 0 1 false p m d;rw[<-f];refine gV (v:=tuple #[agg #[iX 0,iX 1,bool false],bool true]) (by simp[results,results198,go_sem,g,i,j]) rfl ?_;exact⟨c.2,rfl,c.1⟩)
theorem zGW (w:World)(X:Nat->Prop)(u:Value)(c:Cs)(j:RangesIn X w u c.ranges):
  Calls prog 205 #[agg #[u,bool c.others]] w λe w'=>∃p,e=returned (pX p)/\(∀f,TreeIn (λi=>(X i/\i<w.heap.size)\/w.heap.size<=i) w' (f+1) p (zH7 c))/\Grew w w':=by
 obtain⟨ao,cap,rfl,-⟩:=j.at
 obtain⟨w2,l,m,o⟩:∃w2,w2=(w.alloc (Obj.cells #[slice ao c.ranges.length cap,bool c.others] 161)).alloc (Obj.cells #[iX 1,slice ao c.ranges.length cap,bool c.others,slice none 0 0,iX 0,iX 0,bool false,iX 1] 165)/\Hid (∀f,TreeIn (λi=>(X i/\i<w.heap.size)\/w.heap.size<=i) w2 (f+1) (w.heap.size+1) (zH7 c))/\Hid (Grew w w2):=by
  have s1:(w.alloc (Obj.cells #[slice ao c.ranges.length cap,bool c.others] 161)).heap.size=w.heap.size+1:=by simp
  have k:=gX (w.alloc (Obj.cells #[slice ao c.ranges.length cap,bool c.others] 161)) (Obj.cells #[iX 1,slice ao c.ranges.length cap,bool c.others,slice none 0 0,iX 0,iX 0,bool false,iX 1] 165);rw[s1] at k;have b:Grew w ((w.alloc (Obj.cells #[slice ao c.ranges.length cap,bool c.others] 161)).alloc (Obj.cells #[iX 1,slice ao c.ranges.length cap,bool c.others,slice none 0 0,iX 0,iX 0,bool false,iX 1] 165)):=(kZ _ _ lQ).trans (kZ _ _ (by rw[s1];omega));have q:RangesIn (λi=>(X i/\i<w.heap.size)\/w.heap.size<=i) ((w.alloc (Obj.cells #[slice ao c.ranges.length cap,bool c.others] 161)).alloc (Obj.cells #[iX 1,slice ao c.ranges.length cap,bool c.others,slice none 0 0,iX 0,iX 0,bool false,iX 1] 165)) (slice ao c.ranges.length cap) c.ranges:=λr a=>j r ⟨a.os.trans b.os,a.output.trans b.output,lY b.size a.size,λi g s=>(a.block i (lZ g b.size) (.inl ⟨s,g⟩)).trans (b.block i g (by omega))⟩;exact⟨_,rfl,λf=>zIm (t:=zH7 c) k (.inr (by omega)) q rfl ⟨by show 0<=1000;omega,by show 0<=1000;omega⟩,b⟩
 go_in;go_wp2;rw[<-l];go_ret;exact⟨_,rfl,m,o⟩
theorem zE8 (w:World)(X:Nat->Prop)(a p:Nat)(t:Tr)(b:TreeIn X w a p t):
  Calls prog 190 #[pX p] w λe w'=>∃g,e=returned (pX g)/\TreeIn (λi=>(X i/\i<w.heap.size)\/w.heap.size<=i) w' a g t.plain/\Grew w w':=by
 cases a with
 |zero=>exact False.elim b.at
 |succ a=>
 have j:w.cell? ⟨p,7,none⟩=some (iX (t.chars:Int)):=by
  obtain⟨-,rv,q,k,-⟩:=b.at
  unfold cell?;rw[k];rfl
 have l:=vl b;by_cases c:t.chars=0
 ·have f:Hid (t.plain=Tr.none):=by show _=_;unfold Tr.plain;rw[if_pos c]
  rw[c] at j;have r:=j;go_in;go_wp2;go_ret;refine⟨_,rfl,?_,kZ _ _ lQ⟩;rw[f.out];exact zJ4 (gX _ _) (.inr lQ)
 ·have f:Hid (t.plain=t):=by show _=_;unfold Tr.plain;rw[if_neg c]
  have s:((t.chars:Int)==0)=false:=by rw[hX];omega
  go_in;go_wp2;go_ret;exact⟨_,rfl,by rw[f.out];exact l.mono λi m o=>.inl ⟨o,m⟩,Keep.refl _ _ _⟩
theorem zEN:(prog.info? 158).map (λi=>(i.zero,i.size,i.bytes))=some (some (pointer none),1,8):=by kernel_rfl
theorem TreeIn.chars {X:Nat->Prop}{w:World}{a p:Nat}{t:Tr}(b:TreeIn X w a p t):w.cell? ⟨p,7,none⟩=some (iX (t.chars:Int)):=by
 cases a with
 |zero=>exact False.elim b.at
 |succ a=>
  obtain⟨-,rv,e,c,-⟩:=b.at
  unfold cell?;rw[c];rfl
theorem zG8 (w:World)(v:Nat->Prop)(H p l:Nat)(sv:Value)(m:List Nat)(t:Tr)(b:Tw w v H p l sv m t)(q:Nat)(u:Tr)(x:TreeIn (λj=>v j/\j≠p/\some j≠sv.ownBlock) w l q u)(ak:u.chars<=25)(al:t.parts.length<9000000):
  Calls prog 188 #[pX p,pX q] w λe w'=>e=returned (tuple #[])/\∃D R,Tw w' v H p l D R (t.add u)/\KeepO p sv D w w':=by
 obtain⟨S,T,U,V,W⟩:=info_parts zEN;obtain⟨ao,y,X⟩:=zE b.own;subst X;obtain⟨E,F,G⟩:=b.cells;have I:=G 3;have J:w.ownsRow H 158 1 (slice ao t.parts.length y) t.parts.length (yI m):=b.own;have K:p<w.heap.size:=lZ b.pH b.lt;have am:H<=w.heap.size:=b.lt;have L:=vl <| zM b.own b.blk (by decide);have aa:=b.small.2.2.2;have z:=vl b;have M:=vl x;have ab:Hid (IntKind.i64.wrap ((t.chars:Int)+(u.chars:Int))=(t.chars:Int)+(u.chars:Int)):=zBo _ (by omega) (by omega);have ac:Hid (∀w,Ca 195 #[iX (IntKind.i64.wrap ((t.chars:Int)+(u.chars:Int)))] w λe w'=>e=returned (iX (xY (t.chars+u.chars):Int))/\w'=w):=λw=>by
  have:=zDv w (t.chars+u.chars);rw[show ((t.chars+u.chars:Nat):Int)=(t.chars:Int)+(u.chars:Int) by omega] at this;rw[ab.out];exact this
 clear G b x F;go_in;apply wp_cut;intro an N;go_wp2_with (first|(at_builtin;refine wpList_append_lies _ rfl _ _ 118 rfl (H) 158 S (pointer none) 1 8 underlying118 T U V W rfl (by decide) _ _ _ rfl (J.alloc _) ⟨w.heap.size,0,none⟩ 1 1 [pX q] rfl rfl (cell_one_new _ _ _) (by intro u x;simp at x;subst x;rfl) (by decide) (by unfold maxLen;omega) (by omega) (by simp;omega) _ rfl ?_;intro f cap w2 O A P ad;have B:=A.block p (by simp;omega) L;have ae:cX w2 p 3=some (slice ao t.parts.length y):=(gZ B).trans ((gW _ _ _ K).trans E);have af:w2.frozen? ⟨p,3,none⟩=false:=(gY B).trans ((frozen?_alloc_past _ _ _ K).trans I)))
 apply N.out;clear N;obtain⟨a,Q,o⟩:∃a,a=w2.setCell ⟨p,3,none⟩ (slice (qX f) (t.parts.length+1) cap)/\Hid (Tw a v H p l (slice (qX f) (t.parts.length+1) cap) (m++[q]) {t with parts:=t.parts++[u]}/\KeepO p (slice ao t.parts.length y) (slice (qX f) (t.parts.length+1) cap) w a):=⟨_,rfl,z.app rfl (by omega) M O A (by rcases P with C|C;exact .inl C;right;rw[C];simp)⟩
 rw[<-Q];clear Q O A P ad B ae af J L E I;have F:cX a p 7=some (iX (t.chars:Int)):=o.1.cells.2.1;have ap:a.frozen? ⟨p,7,none⟩=false:=o.1.cells.2.2 7;have aq:cX a q 7=some (iX (u.chars:Int)):=by
  have c:=o.1.parts t.parts.length (by simp);have ag:(m++[q]).getD t.parts.length 0=q:=by rw[<-z.out.len];simp
  have ah:(t.parts++[u]).getD t.parts.length Tr.none=u:=by simp
  have r:TreeIn _ a l ((m++[q]).getD t.parts.length 0) ((t.parts++[u]).getD t.parts.length Tr.none):=c;rw[ag,ah] at r;exact r.chars
 have ai:Hid (∀i,Tw ((a.setCell ⟨p,7,none⟩ (iX (xY (t.chars+u.chars):Int))).drewN i) v H p l (slice (qX f) (t.parts.length+1) cap) (m++[q]) (t.add u)/\KeepO p (slice ao t.parts.length y) (slice (qX f) (t.parts.length+1) cap) w ((a.setCell ⟨p,7,none⟩ (iX (xY (t.chars+u.chars):Int))).drewN i)):=λi=>by
  have c:=o.1.setChars (xY (t.chars+u.chars)) (zEU _);have r:KeepO p (slice (qX f) (t.parts.length+1) cap) (slice (qX f) (t.parts.length+1) cap) a (a.setCell ⟨p,7,none⟩ (iX (xY (t.chars+u.chars):Int))):=⟨rfl,rfl,by rw[zC];omega,λk _ r s=>⟨lJ _ _ _ _ r,s⟩⟩
  have s:=o.2.trans r;exact⟨⟨c.blk,c.set,zD c.own λg _ _ _=>rfl,c.len,λi aj=>(c.parts i aj).go ⟨rfl,rfl,lQ,λ_ _ _=>rfl⟩,c.pH,c.lt,c.small⟩,⟨s.os,s.output,s.size,s.block⟩⟩
 clear o z M aa;go_region_with ((go_at_call 195;go_must ((refine (ac _).mono ?_;rintro e ar ⟨rfl,rfl⟩))))
 all_goals
  go_end0;exact⟨rfl,_,_,ai _⟩
end Go.Proofs.YtbjcfkdnjaiclaaGreat
