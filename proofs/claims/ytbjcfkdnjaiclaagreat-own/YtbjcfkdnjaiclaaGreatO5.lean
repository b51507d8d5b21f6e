import Derived.Deep.DrawnRows
import Derived.Deep.RegionHeld3
import Derived.Deep.RegionLaw
import Derived.Laws.OwnMore
import Derived.Test.YtbjcfkdnjaiclaaGreatO0
import Derived.Test.YtbjcfkdnjaiclaaGreatO4
/- Parts of the proof. -/
set_option linter.unusedVariables false
set_option linter.unusedSimpArgs false
set_option maxHeartbeats 4000000
set_option maxRecDepth 100000
namespace Go.Proofs.YtbjcfkdnjaiclaaGreat
open Go.RowKit Go.Proofs.Tryz Go.World
open Go.Value (int slice bool pointer string agg tuple)
open Go.IntKind (i64)
open Go.Ending (returned)
theorem zAN (s:ByteArray):s.toList.isEmpty=decide (s.size=0):=by
 rw[ByteArray.toList_eq];have e:s.size=s.data.toList.length:=rfl;cases b:s.data.toList with
 |nil=>rw[e,b];rfl
 |cons a l=>rw[e,b];rfl
def jS (c:Nat):Bool:=qQ c||xP c
def xM (s:ByteArray):Bool:=decide (0<s.size)&&(decide (s.size<=6)&&(qQ (byt s 0)&&decide (∀i,i<s.size->i=0\/jS (byt s i)=true)))
theorem jG (w:World)(s:ByteArray)(S:s.size<=1048576):Calls prog 160 #[string s] w λe w'=>e=returned (bool (xM s))/\w'=w:=by
 have A:=zAN s;by_cases B:s.size=0
 ·have f:Hid (xM s=false):=by show _=_;unfold xM;rw[gG (show¬0<s.size by omega),Bool.false_and]
  rw[dQ B] at A;go_in;go_wp2;go_ret;exact⟨by rw[f.out];rfl,rfl⟩
 rw[gG B] at A;by_cases T:6<s.size
 ·have f:Hid (xM s=false):=by show _=_;unfold xM;rw[gG (show¬s.size<=6 by omega),Bool.false_and,Bool.and_false]
  have J:6<(s.size:Int):=by omega
  go_in;go_wp2;go_ret;exact⟨by rw[f.out];rfl,rfl⟩
 have J:(s.size:Int)<=6:=by omega
 have u:0<s.size:=by omega
 have U:(0:Int)<(s.size:Int):=by omega
 have K:=zCn s 0 u;have C:Hid (xM s=(qQ (byt s 0)&&decide (∀i,i<s.size->i=0\/jS (byt s i)=true))):=by show _=_;unfold xM;rw[dQ u,dQ (show s.size<=6 by omega),Bool.true_and,Bool.true_and]
 have o:Hid (∀w,Ca 181 #[int .u8 (byt s 0:Nat)] w λe w'=>e=returned (bool (qQ (byt s 0)))/\w'=w):=λw=>zCZ w (byt s 0);cases p:qQ (byt s 0) with
 |false=>
  have f:Hid (xM s=false):=by show _=_;rw[C.out,p,Bool.false_and]
  rw[p] at o;have r:=vl o;generalize byt s 0=c0 at *;go_in;go_wp2_with (go_at_call 181;refine(r _).mono ?_;rintro e l ⟨rfl,a⟩;have b:=a.symm;subst b)
  go_ret;exact⟨by rw[f.out];rfl,rfl⟩
 |true=>
  have f:Hid (xM s=decide (∀i,i<s.size->i=0\/jS (byt s i)=true)):=by show _=_;rw[C.out,p,Bool.true_and]
  rw[p] at o;have r:=vl o;generalize xM s=D at *;go_in;apply wp_cut;intro L v;go_wp2;apply v.out;generalize byt s 0=c0 at K r;apply wp_cut;intro L v;go_wp2_with (go_at_call 181;refine(r _).mono ?_;rintro e l ⟨rfl,a⟩;have b:=a.symm;subst b)
  apply v.out;go_wp2;go_loopg [3] (s.size-1) (λq i wr=>∃j:Nat,q=s.size-j/\1<=j/\j<=s.size/\i=iX (j:Int)/\(∀k,k<j->k=0\/jS (byt s k)=true)/\wr=w)
  case atStart=>exact⟨1,rfl,lQ,u,rfl,λk M=>.inl (by omega),rfl⟩
  case round=>
   obtain⟨j,N,W,X,rfl,E,rfl⟩:=hrel;have x:Hid (gk=s.size-j/\(∀k,k<j->k=0\/jS (byt s k)=true)):=⟨N,E⟩
   by_cases F:j<s.size
   ·have O:(j:Int)<(s.size:Int):=by omega
    have Y:¬(j:Int)<0:=by omega
    have aa:=zCn s j F;have t:Hid (∀w,Ca 181 #[int .u8 (byt s j:Nat)] w λe w'=>e=returned (bool (qQ (byt s j)))/\w'=w):=λw=>zCZ w (byt s j);have G:Hid (jS (byt s j)=true->∀k,k<j+1->k=0\/jS (byt s k)=true):=λy k M=>by
     by_cases e:k=j
     ·rw[e];exact .inr y
     ·exact x.2 k (by omega)
    have H:Hid (jS (byt s j)=false->D=false):=λy=>by
     rw[f.out];exact gG λP=>by
      rcases P j F with z|z
      ·omega
      ·rw[y] at z;cases z
    generalize byt s j=c at *;cases g:qQ c with
    |true=>
     rw[g] at t;have m:=vl t;have d:=G (by unfold jS;rw[g];rfl);go_wp2_with (go_at_call 181;refine(m _).mono ?_;rintro e l ⟨rfl,a⟩;have b:=a.symm;subst b)
     go_roundg (s.size-(j+1))
     case measure=>rw[x.out.1];omega
     case rel=>exact⟨j+1,rfl,by omega,by omega,by go_num,d,rfl⟩
    |false=>
     rw[g] at t;have m:=vl t;by_cases c1:c<48
     ·have I:(c:Int)<48:=by omega
      have d:=vl <| H (by unfold jS xP;rw[g,gG (show¬48<=c by omega)];rfl);go_wp2_with (go_at_call 181;refine(m _).mono ?_;rintro e l ⟨rfl,a⟩;have b:=a.symm;subst b)
      go_ret;exact⟨by rw[d.out];rfl,rfl⟩
     by_cases c2:57<c
     ·have I:¬(c:Int)<48:=by omega
      have R:57<(c:Int):=by omega
      have d:=vl <| H (by unfold jS xP;rw[g,gG (show¬c<=57 by omega),Bool.and_false];rfl);go_wp2_with (go_at_call 181;refine(m _).mono ?_;rintro e l ⟨rfl,a⟩;have b:=a.symm;subst b)
      go_ret;exact⟨by rw[d.out];rfl,rfl⟩
     ·have I:¬(c:Int)<48:=by omega
      have R:¬57<(c:Int):=by omega
      have d:=G (by unfold jS xP;rw[g,dQ (show 48<=c by omega),dQ (show c<=57 by omega)];rfl);go_wp2_with (go_at_call 181;refine(m _).mono ?_;rintro e l ⟨rfl,a⟩;have b:=a.symm;subst b)
      go_roundg (s.size-(j+1))
      case measure=>rw[x.out.1];omega
      case rel=>exact⟨j+1,rfl,by omega,by omega,by go_num,d,rfl⟩
   ·have O:(s.size:Int)<=(j:Int):=by omega
    have d:Hid (D=true):=by
     show _=_;rw[f.out];exact dQ λi ab=>E i (by omega)
    go_wp2;go_ret;exact⟨by rw[d.out];rfl,rfl⟩
structure Ac where
 act:Nat
 name:ByteArray
 ok:Bool
def eqS (a b:ByteArray):Bool:=a.toList==b.toList
def zG3 (s:ByteArray):Ac:=if byt s 0=62&&xM (s.extract 1 s.size) then⟨2,s.extract 1 s.size,true⟩ else⟨0,⟨#[]⟩,false⟩
def zAG (s:ByteArray):Ac:=if s.size=0 then⟨0,⟨#[]⟩,false⟩ else if eqS s ⟨#[46]⟩ then⟨0,⟨#[]⟩,true⟩ else if eqS s ⟨#[45]⟩ then⟨1,⟨#[]⟩,true⟩ else if eqS s ⟨#[60]⟩ then⟨3,⟨#[]⟩,true⟩ else zG3 s
theorem zCU (w:World)(s:ByteArray)(B:s.size<=1048576):Calls prog 163 #[string s] w λe w'=>e=returned (tuple #[iX ((zAG s).act:Int),string (zAG s).name,bool (zAG s).ok])/\Grew w w':=by
 have m:=zAN s;have o:(⟨#[46]⟩:ByteArray).toList=[46]:=by rw[ByteArray.toList_eq]
 have p:(⟨#[45]⟩:ByteArray).toList=[45]:=by rw[ByteArray.toList_eq]
 have q:(⟨#[60]⟩:ByteArray).toList=[60]:=by rw[ByteArray.toList_eq]
 by_cases f:s.size=0
 ·have a:Hid (zAG s=⟨0,⟨#[]⟩,false⟩):=by show _=_;unfold zAG;rw[if_pos f]
  rw[dQ f] at m;rw[a.out];go_in;go_wp2;refine gJ (v:=tuple #[zX,string ⟨#[]⟩,fX]) (by simp[results,results163,go_sem]) rfl ?_;exact⟨rfl,Keep.refl _ _ _⟩
 rw[gG f] at m;have b:Hid (zAG s=if eqS s ⟨#[46]⟩ then⟨0,⟨#[]⟩,true⟩ else if eqS s ⟨#[45]⟩ then⟨1,⟨#[]⟩,true⟩ else if eqS s ⟨#[60]⟩ then⟨3,⟨#[]⟩,true⟩ else zG3 s):=by show _=_;unfold zAG;rw[if_neg f]
 cases g:eqS s ⟨#[46]⟩ with
 |true=>
  have a:Hid (zAG s=⟨0,⟨#[]⟩,true⟩):=by show _=_;rw[b.out,g];rfl
  have d:(s.toList==[46])=true:=by rw[<-o];exact g
  rw[a.out];go_in;go_wp2;refine gJ (v:=tuple #[zX,string ⟨#[]⟩,tX]) (by simp[results,results163,go_sem]) rfl ?_;exact⟨rfl,Keep.refl _ _ _⟩
 |false=>
 have C:(s.toList==[46])=false:=by rw[<-o];exact g
 rw[g] at b;cases d:eqS s ⟨#[45]⟩ with
 |true=>
  have a:Hid (zAG s=⟨1,⟨#[]⟩,true⟩):=by show _=_;rw[b.out,d];rfl
  have D:(s.toList==[45])=true:=by rw[<-p];exact d
  rw[a.out];go_in;go_wp2;refine gJ (v:=tuple #[iX 1,string ⟨#[]⟩,tX]) (by simp[results,results163,go_sem]) rfl ?_;exact⟨rfl,Keep.refl _ _ _⟩
 |false=>
 have E:(s.toList==[45])=false:=by rw[<-p];exact d
 rw[d] at b;cases h:eqS s ⟨#[60]⟩ with
 |true=>
  have a:Hid (zAG s=⟨3,⟨#[]⟩,true⟩):=by show _=_;rw[b.out,h];rfl
  have F:(s.toList==[60])=true:=by rw[<-q];exact h
  rw[a.out];go_in;go_wp2;refine gJ (v:=tuple #[iX 3,string ⟨#[]⟩,tX]) (by simp[results,results163,go_sem]) rfl ?_;exact⟨rfl,Keep.refl _ _ _⟩
 |false=>
 have G:(s.toList==[60])=false:=by rw[<-q];exact h
 rw[h] at b;have u:=vl b;have x:0<s.size:=by omega
 have H:(0:Int)<(s.size:Int):=by omega
 have I:(1:Int)<=(s.size:Int):=by omega
 have J:=zCn s 0 x;have j:Hid (zG3 s=if byt s 0=62&&xM (s.extract 1 s.size) then⟨2,s.extract 1 s.size,true⟩ else⟨0,⟨#[]⟩,false⟩):=rfl;have r:Hid (∀w,Ca 160 #[string (s.extract 1 s.size)] w λe w'=>e=returned (bool (xM (s.extract 1 s.size)))/\w'=w):=λw=>jG w _ (by rw[ByteArray.size_extract];omega);rw[u.out];generalize xM (s.extract 1 s.size)=y at *;generalize zG3 s=z at *;generalize byt s 0=c at *;by_cases t:c=62
 ·subst t
  cases y with
  |true=>
   have a:=vl j;rw[a.out];go_in;go_wp2_with (go_at_call 160;refine(r _).mono ?_;rintro e A ⟨rfl,k⟩;have l:=k.symm;subst l)
   go_quiet (fail);go_wp2;refine gJ (v:=tuple #[iX 2,string (s.extract 1 s.size),tX]) (by simp[results,results163,go_sem]) rfl ?_;exact⟨rfl,Keep.alike (w':=w.drewN nq) ⟨rfl,rfl,rfl⟩⟩
  |false=>
   have a:=vl j;rw[a.out];go_in;go_wp2_with (go_at_call 160;refine(r _).mono ?_;rintro e A ⟨rfl,k⟩;have l:=k.symm;subst l)
   refine gJ (v:=tuple #[zX,string ⟨#[]⟩,fX]) (by simp[results,results163,go_sem]) rfl ?_;exact⟨rfl,Keep.refl _ _ _⟩
 ·have a:Hid (z=⟨0,⟨#[]⟩,false⟩):=by show _=_;rw[j.out,gG t];rfl
  have K:((c:Int) != 62)=true:=by simp;omega
  rw[a.out];go_in;go_wp2;refine gJ (v:=tuple #[zX,string ⟨#[]⟩,fX]) (by simp[results,results163,go_sem]) rfl ?_;exact⟨rfl,Keep.refl _ _ _⟩
section
structure Rx where
 at_:Nat
 depth:Nat
 both:Bool
def RxAt (w:World)(b:Nat)(s:ByteArray)(dv:Value)(r:Rx):Prop:=w.heap[b]? =some (.cells #[string s,dv,int i64 (r.at_:Int),int i64 (r.depth:Int),bool r.both] 252)
namespace RxAt
variable {w w':World} {b:Nat} {s:ByteArray} {dv:Value} {r:Rx}
theorem lt (a:RxAt w b s dv r):b<w.heap.size:=(kQ.1 a).1
theorem cells (a:RxAt w b s dv r):w.cell? ⟨b,0,none⟩=some (string s)/\w.cell? ⟨b,1,none⟩=some dv/\w.cell? ⟨b,2,none⟩=some (iX (r.at_:Int))/\w.cell? ⟨b,3,none⟩=some (iX (r.depth:Int))/\w.cell? ⟨b,4,none⟩=some (bool r.both)/\∀i,w.frozen? ⟨b,i,none⟩=false:=by
 unfold RxAt at a;refine⟨?_,?_,?_,?_,?_,λi=>?_⟩
 all_goals first|(unfold cell?;rw[a];rfl)|(unfold frozen?;rw[a];simp)
theorem of_block (a:RxAt w b s dv r)(e:w'.heap[b]? =w.heap[b]?):RxAt w' b s dv r:=e.trans a
theorem setAt (a:RxAt w b s dv r)(q:Nat):RxAt (w.setCell ⟨b,2,none⟩ (iX (q:Int))) b s dv {r with at_:=q}:=by
 unfold RxAt at *;simp[setCell,lU,a]
end RxAt
theorem qW (w:World)(b:Nat)(s:ByteArray)(dv:Value)(r:Rx)(c:RxAt w b s dv r)(j:s.size<=1048576)(l:r.at_<=2000000)(k:Nat)(m:k<=1):
  Calls prog 200 #[pX b,iX (k:Int)] w λe w'=>e=returned (int .u8 (byt s (r.at_+k):Nat))/\w'=w:=by
 obtain⟨c0,-,c2,-,-,-⟩:=c.cells;by_cases d:r.at_+k<s.size
 ·have a:Hid (byt s (r.at_+k)=byt s (r.at_+k)):=rfl
  have f:¬((r.at_:Int)+(k:Int)<0):=by omega
  have g:(r.at_:Int)+(k:Int)<(s.size:Int):=by omega
  go_in;go_wp2;go_ret;exact⟨by rw[<-zCn s _ d];rfl,rfl⟩
 ·have a:Hid (byt s (r.at_+k)=0):=zLT s _ (by omega)
  have f:¬((r.at_:Int)+(k:Int)<0):=by omega
  have g:(s.size:Int)<=(r.at_:Int)+(k:Int):=by omega
  go_in;go_wp2;go_ret;exact⟨by rw[a.out];rfl,rfl⟩
def zM (s:ByteArray)(i:Nat)(t:ByteArray):Bool:=decide (i+t.size<=s.size)&&((s.extract i (i+t.size)).toList==t.toList)
def Rx.take (r:Rx)(s t:ByteArray):Rx:=if zM s r.at_ t then{r with at_:=r.at_+t.size} else r
theorem zAc (w:World)(b:Nat)(s:ByteArray)(dv:Value)(r:Rx)(j:RxAt w b s dv r)(q:s.size<=1048576)(u:r.at_<=2000000)(t:ByteArray)(v:t.size<=1000000):
  Calls prog 189 #[pX b,string t] w λe w'=>e=returned (bool (zM s r.at_ t))/\RxAt w' b s dv (r.take s t)/\∀H,Keep H b w w':=by
 obtain⟨c0,-,c2,-,-,m⟩:=j.cells;have x:=m 2;have f:=vl j;have k:((r.at_:Int)+(t.size:Int)).toNat=r.at_+t.size:=by omega
 by_cases g:r.at_+t.size<=s.size
 ·have y:¬((s.size:Int)<(r.at_:Int)+(t.size:Int)):=by omega
  have o:(r.at_:Int)+(t.size:Int)<=(s.size:Int):=by omega
  have z:(0:Int)<=(r.at_:Int):=by omega
  have A:(r.at_:Int)<=(r.at_:Int)+(t.size:Int):=by omega
  cases d:((s.extract r.at_ (r.at_+t.size)).toList==t.toList) with
  |true=>
   have a:zM s r.at_ t=true:=by unfold zM;rw[dQ g,d];rfl
   have c:Hid (zM s r.at_ t=true/\r.take s t={r with at_:=r.at_+t.size}):=⟨a,by unfold Rx.take;rw[if_pos a]⟩
   have p:((s.extract r.at_ ((r.at_:Int)+(t.size:Int)).toNat).toList==t.toList)=true:=by rw[k];exact d
   go_in;go_wp2;go_quiet (fail);go_wp2;go_ret;refine⟨by rw[c.out.1];rfl,?_,λH=>Keep.drewSet w _ _ _⟩;rw[c.out.2];have l:=(RxAt.of_block (w':=w.drewN nq) f rfl).setAt (r.at_+t.size);rw[show ((r.at_+t.size:Nat):Int)=(r.at_:Int)+(t.size:Int) by omega] at l;exact l
  |false=>
   have a:zM s r.at_ t=false:=by unfold zM;rw[dQ g,d];rfl
   have c:Hid (zM s r.at_ t=false/\r.take s t=r):=⟨a,by unfold Rx.take;rw[if_neg (by rw[a];decide)]⟩
   have p:((s.extract r.at_ ((r.at_:Int)+(t.size:Int)).toNat).toList==t.toList)=false:=by rw[k];exact d
   go_in;go_wp2;go_quiet (fail);go_wp2;go_ret;exact⟨by rw[c.out.1];rfl,by rw[c.out.2];exact RxAt.of_block f rfl,λH=>Keep.alike (w':=w.drewN nq) ⟨rfl,rfl,rfl⟩⟩
 ·have a:zM s r.at_ t=false:=by unfold zM;rw[gG g];rfl
  have c:Hid (zM s r.at_ t=false/\r.take s t=r):=⟨a,by unfold Rx.take;rw[if_neg (by rw[a];decide)]⟩
  have o:(s.size:Int)<(r.at_:Int)+(t.size:Int):=by omega
  go_in;go_wp2;go_quiet (fail);go_wp2;go_ret;exact⟨by rw[c.out.1];rfl,by rw[c.out.2];exact RxAt.of_block f rfl,λH=>Keep.alike (w':=w.drewN nq) ⟨rfl,rfl,rfl⟩⟩
end
def yN (c:Nat):Bool:=xP c&&decide (c<=52)
def zBm (c:Nat):Int:=if yN c then(c:Int)-48 else -1
def Rx.on (r:Rx)(k:Bool):Rx:=if k then{r with at_:=r.at_+1} else r
theorem zEP (w:World)(b:Nat)(s:ByteArray)(dv:Value)(r:Rx)(o:RxAt w b s dv r)(v:s.size<=1048576)(x:r.at_<=2000000):
  Calls prog 214 #[pX b] w λe w'=>e=returned (iX (zBm (byt s r.at_)))/\RxAt w' b s dv (r.on (yN (byt s r.at_)))/\∀H,Keep H b w w':=by
 obtain⟨-,-,c2,-,-,y⟩:=o.cells;have B:=y 2;have p:=vl o;have q:=vl <| qW w b s dv r o v x 0 (by omega);have C:=zAK s r.at_;generalize byt s r.at_=c at *;have l:Hid (∀w,Ca 206 #[int .u8 (c:Int)] w λe w'=>e=returned (bool (xP c))/\w'=w):=λw=>zAv w c;cases j:xP c with
 |false=>
  have f:yN c=false:=by unfold yN;rw[j];rfl
  have g:Hid (zBm c=-1/\r.on (yN c)=r):=⟨by unfold zBm;rw[if_neg (by rw[f];decide)],by unfold Rx.on;rw[if_neg (by rw[f];decide)]⟩
  rw[j] at l;have m:=vl l;go_in;go_wp2_with (first|(go_at_call 200;refine q.mono ?_;rintro e k ⟨rfl,a⟩;have d:=a.symm;subst d)|(go_at_call 206;refine(m _).mono ?_;rintro e k ⟨rfl,a⟩;have d:=a.symm;subst d))
  go_ret;exact⟨by rw[g.out.1];rfl,by rw[g.out.2];exact p,λH=>Keep.refl _ _ _⟩
 |true=>
  have D:48<=c/\c<=57:=by unfold xP at j;simpa using j
  rw[j] at l;have m:=vl l;have z:IntKind.u8.wrap ((c:Int)-48)=(c:Int)-48:=by rw[IntKind.wrap_u8];omega
  by_cases t:c<=52
  ·have f:yN c=true:=by unfold yN;rw[j,dQ t];rfl
   have g:Hid (zBm c=(c:Int)-48/\r.on (yN c)={r with at_:=r.at_+1}):=⟨by unfold zBm;rw[if_pos f],by unfold Rx.on;rw[if_pos f]⟩
   have A:(c:Int)-48<=4:=by omega
   go_in;go_wp2_with (first|(go_at_call 200;refine q.mono ?_;rintro e k ⟨rfl,a⟩;have d:=a.symm;subst d)|(go_at_call 206;refine(m _).mono ?_;rintro e k ⟨rfl,a⟩;have d:=a.symm;subst d))
   go_ret;refine⟨by rw[g.out.1];first|rfl|(simp [z];done)|(simp;omega),?_,λH=>Keep.set _ _ _⟩;rw[g.out.2];have u:=p.setAt (r.at_+1);rw[show ((r.at_+1:Nat):Int)=(r.at_:Int)+1 by omega] at u;exact u
  ·have f:yN c=false:=by unfold yN;rw[j,gG t];rfl
   have g:Hid (zBm c=-1/\r.on (yN c)=r):=⟨by unfold zBm;rw[if_neg (by rw[f];decide)],by unfold Rx.on;rw[if_neg (by rw[f];decide)]⟩
   have A:4<(c:Int)-48:=by omega
   go_in;go_wp2_with (first|(go_at_call 200;refine q.mono ?_;rintro e k ⟨rfl,a⟩;have d:=a.symm;subst d)|(go_at_call 206;refine(m _).mono ?_;rintro e k ⟨rfl,a⟩;have d:=a.symm;subst d))
   go_ret;exact⟨by rw[g.out.1];rfl,by rw[g.out.2];exact p,λH=>Keep.refl _ _ _⟩
def zB2 (s:ByteArray)(i:Nat):Bool:=decide (s.size<=i)||(byt s i==124||byt s i==41)
theorem zGC (w:World)(b:Nat)(s:ByteArray)(dv:Value)(r:Rx)(d:RxAt w b s dv r)(l:s.size<=1048576)(m:r.at_<=2000000):
  Calls prog 194 #[pX b] w λe w'=>e=returned (bool (zB2 s r.at_))/\∀H c,Keep H c w w':=by
 obtain⟨c0,-,c2,-,-,-⟩:=d.cells;by_cases f:s.size<=r.at_
 ·have a:Hid (zB2 s r.at_=true):=by show _=_;unfold zB2;rw[dQ f];rfl
  have o:(r.at_:Int)>=(s.size:Int):=by omega
  go_in;go_wp2;go_quiet (fail);go_wp2;go_ret;exact⟨by rw[a.out];rfl,λH c=>Keep.alike (w':=w.drewN nq) ⟨rfl,rfl,rfl⟩⟩
 ·have a:Hid (zB2 s r.at_=(byt s r.at_==124||byt s r.at_==41)):=by show _=_;unfold zB2;rw[gG f];rfl
  have o:(r.at_:Int)<(s.size:Int):=by omega
  have g:Hid (∀nq,Ca 200 #[pX b,zX] (w.drewN nq) λe w'=>e=returned (int .u8 (byt s r.at_:Nat))/\w'=w.drewN nq):=λnq=>qW (w.drewN nq) b s dv r (RxAt.of_block d rfl) l m 0 (by omega);generalize byt s r.at_=c at *;by_cases j:c=124
  ·subst j
   go_in;go_wp2;go_quiet (fail);go_wp2_with (go_at_call 200;refine(g _).mono ?_;rintro e p ⟨rfl,q⟩)
   go_ret;exact⟨by rw[a.out];rfl,λH c=>Keep.alike (w':=w.drewN nq) ⟨rfl,rfl,rfl⟩⟩
  ·have v:((c:Int)==124)=false:=by rw[hX];omega
   have t:(c==124)=false:=by rw[hX];exact j
   have u:Hid (zB2 s r.at_=((c:Int)==41)):=by
    show _=_;rw[a.out,t,Bool.false_or];by_cases k:c=41
    ·rw[k];rfl
    ·rw[show (c==41)=false by rw[hX];exact k,show((c:Int)==41)=false by rw[hX];omega]
   go_in;go_wp2;go_quiet (fail);go_wp2_with (go_at_call 200;refine(g _).mono ?_;rintro e p ⟨rfl,q⟩)
   go_ret;exact⟨by rw[u.out];rfl,λH c=>Keep.alike (w':=w.drewN nq) ⟨rfl,rfl,rfl⟩⟩
def zA7 (s:ByteArray)(i:Nat):Nat->Nat
 |0=>0
 |j+1=>zA7 s i j*16+(jU (byt s (i+j))).toNat
def yU (s:ByteArray)(i most:Nat):Nat:=(List.range most).findIdx λj=>decide (jU (byt s (i+j))<0)
theorem zLN (c:Nat):jU c<16/\ -1<=jU c:=by
 unfold jU;by_cases a:xP c=true
 ·have b:48<=c/\c<=57:=by unfold xP at a;simpa using a
  rw[if_pos a];omega
 ·rw[if_neg a]
  split <;> omega
theorem zLL (s:ByteArray)(i j:Nat):zA7 s i j<16^j:=by
 induction j with
 |zero=>exact Nat.one_pos
 |succ j a=>
  have:=(zLN (byt s (i+j))).1;show zA7 s i j*16+(jU (byt s (i+j))).toNat<16^(j+1);rw[Nat.pow_succ];omega
theorem zPq (s:ByteArray)(i most j:Nat)(a:j<most)(b:jU (byt s (i+j))<0)(c:∀k,k<j->0<=jU (byt s (i+k))):yU s i most=j:=
 zDM _ _ j (by rw[List.length_range];exact a) (by rw[vH _ _ a];exact dQ b) λk d=>by rw[vH _ _ (by omega)];exact gG (by have:=c k d;omega)
theorem zOk (s:ByteArray)(i most:Nat)(c:∀k,k<most->0<=jU (byt s (i+k))):yU s i most=most:=by
 have b:=zBs (List.range most) (λj=>decide (jU (byt s (i+j))<0)) λk a=>by
  rw[List.length_range] at a;rw[vH _ _ a];exact gG (by have:=c k a;omega)
 rw[List.length_range] at b;exact b
theorem zMM (w:World)(b:Nat)(s:ByteArray)(dv:Value)(r:Rx)(l:RxAt w b s dv r)(B:s.size<=1048576)(aa:r.at_<=1900000)(most:Nat)(ab:most<=6):
  Calls prog 216 #[pX b,iX (most:Int)] w λe w'=>e=returned (tuple #[iX (zA7 s r.at_ (yU s r.at_ most):Nat),iX (yU s r.at_ most:Nat)])/\RxAt w' b s dv {r with at_:=r.at_+yU s r.at_ most}/\∀H,Keep H b w w':=by
 have C:=vl l;have D:Hid (∀j,j<=most->zA7 s r.at_ j<=16777216):=λj E=>Nat.le_of_lt (lZ (zLL s r.at_ j) (kG (by omega) (by omega:j<=6)));have F:Hid (∀j,j<most->jU (byt s (r.at_+j))<0->(∀k,k<j->0<=jU (byt s (r.at_+k)))->yU s r.at_ most=j):=λj=>zPq s r.at_ most j;have G:=vl <| zOk s r.at_ most;have I:Hid (∀j,zA7 s r.at_ (j+1)=zA7 s r.at_ j*16+(jU (byt s (r.at_+j))).toNat):=λj=>rfl;have J:Hid (zA7 s r.at_ 0=0):=rfl;generalize ac:zA7 s r.at_=o at *;go_in;go_wp2;go_loopg [6,7] most (λq n i wr=>∃j:Nat,q=most-j/\j<=most/\n=iX (o j:Int)/\i=iX (j:Int)/\(∀k,k<j->0<=jU (byt s (r.at_+k)))/\RxAt wr b s dv {r with at_:=r.at_+j}/\∀H,Keep H b w wr)
 case atStart=>exact⟨0,rfl,lX,by rw[J.out];rfl,rfl,λk v=>by omega,C,λH=>Keep.refl _ _ _⟩
 case round=>
  obtain⟨j,K,E,rfl,rfl,x,p,L⟩:=hrel;have a:Hid (gk=most-j/\(∀k,k<j->0<=jU (byt s (r.at_+k)))/\RxAt wr b s dv {r with at_:=r.at_+j}/\∀H,Keep H b w wr):=⟨K,x,p,L⟩
  by_cases M:j<most
  ·have N:(j:Int)<(most:Int):=by omega
   have O:=qW wr b s dv {r with at_:=r.at_+j} p B (by show r.at_+j<=2000000;omega) 0 (by omega);have y:=vl O;have z:Hid (∀w2,Ca 220 #[int .u8 (byt s (r.at_+j):Nat)] w2 λe w'=>e=returned (iX (jU (byt s (r.at_+j))))/\w'=w2):=λw2=>zF5 w2 _ (zAK s _);obtain⟨-,-,c2,-,-,P⟩:=p.cells;have R:=c2;have ad:=P 2;have ae:=zLN (byt s (r.at_+j));have S:Hid (jU (byt s (r.at_+j))<0->yU s r.at_ most=j):=λl=>F j M l a.2.1;have T:Hid (0<=jU (byt s (r.at_+j))->∀k,k<j+1->0<=jU (byt s (r.at_+k))):=λl k v=>by
    by_cases e:k=j
    ·rw[e];exact l
    ·exact a.2.1 k (by omega)
   have U:=vl <| I j;have af:=D j (by omega);have A:=vl <| p.setAt (r.at_+(j+1));generalize jU (byt s (r.at_+j))=t at *;generalize byt s (r.at_+j)=c at *;by_cases V:t<0
   ·have m:=vl <| S V
    go_wp2_with (first|(go_at_call 200;refine y.mono ?_;rintro e u ⟨rfl,f⟩;have g:=f.symm;subst g)|(go_at_call 220;refine(z _).mono ?_;rintro e u ⟨rfl,f⟩;have g:=f.symm;subst g))
    refine gJ (results_tmp2 rfl _ _ _) rfl ?_;exact⟨by rw[m.out];rfl,by rw[m.out];exact a.2.2.1,a.2.2.2⟩
   ·have W:=vl <| T (by omega)
    have ag:0<=t:=by omega
    have X:Hid ((o (j+1):Int)=(o j:Int)*16+t):=by show _=_;rw[U.out];omega
    have ah:wr.cell? ⟨b,2,none⟩=some (iX ((r.at_:Int)+(j:Int))):=by rw[R];congr 2
    have Y:Hid (((r.at_+(j+1):Nat):Int)=(r.at_:Int)+(j:Int)+1):=by show _=_;omega
    rw[Y.out] at A;generalize o j=ai at *;go_wp2_with (first|(go_at_call 200;refine y.mono ?_;rintro e u ⟨rfl,f⟩;have g:=f.symm;subst g)|(go_at_call 220;refine(z _).mono ?_;rintro e u ⟨rfl,f⟩;have g:=f.symm;subst g))
    go_roundg (most-(j+1))
    case measure=>rw[a.out.1];omega
    case rel=>exact⟨j+1,rfl,by omega,by rw[X.out],by go_num,W,A,λH=>(a.2.2.2 H).trans (Keep.set _ _ _)⟩
  ·have N:(most:Int)<=(j:Int):=by omega
   have e:j=most:=by omega
   have m:=vl <| G λk v=>x k (by omega);subst e;go_wp2;refine gJ (results_tmp2 rfl _ _ _) rfl ?_;exact⟨by rw[m.out];rfl,by rw[m.out];exact a.2.2.1,a.2.2.2⟩
def zBc (s:ByteArray)(i:Nat):Bool:=byt s i==42||byt s i==43||byt s i==63||(byt s i==123&&xP (byt s (i+1)))
theorem zEe (w:World)(b:Nat)(s:ByteArray)(dv:Value)(r:Rx)(l:RxAt w b s dv r)(m:s.size<=1048576)(o:r.at_<=2000000):
  Calls prog 197 #[pX b] w λe w'=>e=returned (bool (zBc s r.at_))/\w'=w:=by
 have g:=vl <| qW w b s dv r l m o 0 (by omega);have v:=vl <| qW w b s dv r l m o 1 (by omega);have x:Hid (∀w2,Ca 206 #[int .u8 (byt s (r.at_+1):Nat)] w2 λe w'=>e=returned (bool (xP (byt s (r.at_+1))))/\w'=w2):=λw2=>zAv w2 _;have j:Hid (zBc s r.at_=(byt s r.at_==42||byt s r.at_==43||byt s r.at_==63||(byt s r.at_==123&&xP (byt s (r.at_+1))))):=rfl;generalize xP (byt s (r.at_+1))=y at *;generalize byt s (r.at_+1)=c1 at *;generalize byt s r.at_=c at *;by_cases p:c=42
 ·subst p
  go_in;go_wp2_with (go_at_call 200;refine g.mono ?_;rintro e f ⟨rfl,a⟩;have d:=a.symm;subst d)
  go_ret;exact⟨by rw[j.out];rfl,rfl⟩
 by_cases q:c=43
 ·subst q
  go_in;go_wp2_with (go_at_call 200;refine g.mono ?_;rintro e f ⟨rfl,a⟩;have d:=a.symm;subst d)
  go_ret;exact⟨by rw[j.out];rfl,rfl⟩
 by_cases t:c=63
 ·subst t
  go_in;go_wp2_with (go_at_call 200;refine g.mono ?_;rintro e f ⟨rfl,a⟩;have d:=a.symm;subst d)
  go_ret;exact⟨by rw[j.out];rfl,rfl⟩
 by_cases u:c=123
 ·subst u
  have k:Hid (zBc s r.at_=y):=by show _=_;rw[j.out];rfl
  go_in;go_wp2_with (first|(go_at_call 200;first|(have m2:=z;refine v.mono ?_;rintro e f ⟨rfl,a⟩;have d:=a.symm;subst d)|(refine g.mono ?_;rintro e f ⟨rfl,a⟩;have d:=a.symm;subst d;have z:=trivial))|(go_at_call 206;refine(x _).mono ?_;rintro e f ⟨rfl,a⟩;have d:=a.symm;subst d))
  go_ret;exact⟨by rw[k.out];rfl,rfl⟩
 ·have k:Hid (zBc s r.at_=false):=by
   show _=_;rw[j.out,show(c==42)=false by rw[hX];exact p,show(c==43)=false by rw[hX];exact q,show(c==63)=false by rw[hX];exact t,show(c==123)=false by rw[hX];exact u];rfl
  have A:((c:Int)==42)=false:=by rw[hX];omega
  have B:((c:Int)==43)=false:=by rw[hX];omega
  have C:((c:Int)==63)=false:=by rw[hX];omega
  have D:((c:Int)==123)=false:=by rw[hX];omega
  go_in;go_wp2_with (go_at_call 200;refine g.mono ?_;rintro e f ⟨rfl,a⟩;have d:=a.symm;subst d)
  go_ret;exact⟨by rw[k.out];rfl,rfl⟩
def zJi (c:Int):Cs:=⟨[(c,c)],false⟩
def zQr:Cs:=⟨[(10,10)],true⟩
theorem zMx (w:World)(c:Int)(b:Nat)(a:w.heap[b]? =some (.cells #[iX c,iX c] 255)):RangesAt w (slice (qX b) 1 1) [(c,c)]:=by
 have d:=(kQ.1 a).1;refine⟨_,1,rfl,lQ,by unfold maxLen;omega,λi f=>?_⟩;have e:i=0:=by simp at f;omega
 subst e;refine⟨b,0,rfl,d,?_,?_⟩
 ·unfold cell?;rw[a];rfl
 ·unfold cell?;rw[a];rfl
theorem zD7 (w:World)(c:Int):
  Calls prog 210 #[iX c] w λe w'=>∃u,e=returned (agg #[u,bool false])/\(∃g,w.heap.size<=g/\u=slice (qX g) 1 1/\w'.heap[g]? =some (.cells #[iX c,iX c] 255))/\Grew w w':=by
 obtain⟨w2,d,f,h,j,k⟩:∃w2,w2=(w.alloc (Obj.cells #[slice (some ⟨w.heap.size+1,0,none⟩) 1 1,fX] 161)).alloc (Obj.cells #[iX c,iX c] 255)/\w2.cell? ⟨w.heap.size,0,none⟩=some (slice (some ⟨w.heap.size+1,0,none⟩) 1 1)/\w2.cell? ⟨w.heap.size,1,none⟩=some fX/\Hid (w2.heap[w.heap.size+1]? =some (.cells #[iX c,iX c] 255))/\Hid (Grew w w2):=by
  have s1:(w.alloc (Obj.cells #[slice (some ⟨w.heap.size+1,0,none⟩) 1 1,fX] 161)).heap.size=w.heap.size+1:=by simp
  have a:((w.alloc (Obj.cells #[slice (some ⟨w.heap.size+1,0,none⟩) 1 1,fX] 161)).alloc (Obj.cells #[iX c,iX c] 255)).heap[w.heap.size]? =some (Obj.cells #[slice (some ⟨w.heap.size+1,0,none⟩) 1 1,fX] 161):=(lG _ _ _ (by rw[s1];omega)).trans (gY _ _);have b:=gY (w.alloc (Obj.cells #[slice (some ⟨w.heap.size+1,0,none⟩) 1 1,fX] 161)) (Obj.cells #[iX c,iX c] 255);rw[s1] at b;refine⟨_,rfl,?_,?_,b,(kZ _ _ lQ).trans (kZ _ _ (by rw[s1];omega))⟩
  ·unfold cell?;rw[a];rfl
  ·unfold cell?;rw[a];rfl
 go_in;go_wp2;rw[<-d];refine gJ (v:=agg #[slice (some ⟨w.heap.size+1,0,none⟩) 1 1,fX]) (by simp[results,results210,go_sem,f,h]) rfl ?_;exact⟨_,rfl,⟨_,by omega,rfl,j⟩,k⟩
theorem zM3 (w:World):
  Calls prog 211 #[] w λe w'=>∃u,e=returned (agg #[u,bool true])/\(∃g,w.heap.size<=g/\u=slice (qX g) 1 1/\w'.heap[g]? =some (.cells #[iX 10,iX 10] 255))/\Grew w w':=by
 obtain⟨w2,c,d,f,h,j⟩:∃w2,w2=(w.alloc (Obj.cells #[slice (some ⟨w.heap.size+1,0,none⟩) 1 1,tX] 161)).alloc (Obj.cells #[iX 10,iX 10] 255)/\w2.cell? ⟨w.heap.size,0,none⟩=some (slice (some ⟨w.heap.size+1,0,none⟩) 1 1)/\w2.cell? ⟨w.heap.size,1,none⟩=some tX/\Hid (w2.heap[w.heap.size+1]? =some (.cells #[iX 10,iX 10] 255))/\Hid (Grew w w2):=by
  have s1:(w.alloc (Obj.cells #[slice (some ⟨w.heap.size+1,0,none⟩) 1 1,tX] 161)).heap.size=w.heap.size+1:=by simp
  have a:((w.alloc (Obj.cells #[slice (some ⟨w.heap.size+1,0,none⟩) 1 1,tX] 161)).alloc (Obj.cells #[iX 10,iX 10] 255)).heap[w.heap.size]? =some (Obj.cells #[slice (some ⟨w.heap.size+1,0,none⟩) 1 1,tX] 161):=(lG _ _ _ (by rw[s1];omega)).trans (gY _ _);have b:=gY (w.alloc (Obj.cells #[slice (some ⟨w.heap.size+1,0,none⟩) 1 1,tX] 161)) (Obj.cells #[iX 10,iX 10] 255);rw[s1] at b;refine⟨_,rfl,?_,?_,b,(kZ _ _ lQ).trans (kZ _ _ (by rw[s1];omega))⟩
  ·unfold cell?;rw[a];rfl
  ·unfold cell?;rw[a];rfl
 go_in;go_wp2;rw[<-c];refine gJ (v:=agg #[slice (some ⟨w.heap.size+1,0,none⟩) 1 1,tX]) (by simp[results,results211,go_sem,d,f]) rfl ?_;exact⟨_,rfl,⟨_,by omega,rfl,h⟩,j⟩
def xT (n:Nat):Nat:=if 24<n then 25 else n
theorem zC9 (w:World)(n:Nat):Calls prog 195 #[iX (n:Int)] w λe w'=>e=returned (iX (xT n:Int))/\w'=w:=by
 by_cases b:24<n
 ·have a:Hid (xT n=25):=by show _=_;unfold xT;rw[if_pos b]
  have c:(n:Int)>24:=by omega
  go_in;go_wp2;go_ret;exact⟨by rw[a.out];rfl,rfl⟩
 ·have a:Hid (xT n=n):=by show _=_;unfold xT;rw[if_neg b]
  have c:(n:Int)<=24:=by omega
  go_in;go_wp2;go_ret;exact⟨by rw[a.out];rfl,rfl⟩
section
variable {a w:World} {b:Nat} {s t:ByteArray} {dv:Value} {r:Rx}
theorem zIF (a:zM s r.at_ t=true):r.take s t={r with at_:=r.at_+t.size}:=by unfold Rx.take;rw[if_pos a]
theorem zLn (a:zM s r.at_ t=false):r.take s t=r:=by unfold Rx.take;rw[if_neg (by rw[a];decide)]
theorem zPX (c:zM s r.at_ t=true)(f:RxAt w b s dv r)(g:∀H,Keep H b a w)(j:s.size<=1048576)(k:r.at_<=2000000)(l:t.size<=1000000):
  Calls prog 189 #[pX b,string t] w λe w'=>e=returned (bool true)/\RxAt w' b s dv {r with at_:=r.at_+t.size}/\∀H,Keep H b a w':=by
 refine(zAc w b s dv r f j k t l).mono ?_;rintro e w' ⟨rfl,d,m⟩;rw[zIF c] at d;exact⟨by rw[c],d,λH=>(g H).trans (m H)⟩
theorem zPY (c:zM s r.at_ t=false)(f:RxAt w b s dv r)(g:∀H,Keep H b a w)(j:s.size<=1048576)(k:r.at_<=2000000)(l:t.size<=1000000):
  Calls prog 189 #[pX b,string t] w λe w'=>e=returned (bool false)/\RxAt w' b s dv r/\∀H,Keep H b a w':=by
 refine(zAc w b s dv r f j k t l).mono ?_;rintro e w' ⟨rfl,d,m⟩;rw[zLn c] at d;exact⟨by rw[c],d,λH=>(g H).trans (m H)⟩
theorem zKf {x y:Nat}{v:Bool}{t:ByteArray}(a:zM s x t=v)(c:s.size<=1048576)(d:x<=2000000)(f:t.size<=1000000)(j:y=if v then x+t.size else x):Hid (∀w,RxAt w b s dv {r with at_:=x}->Calls prog 189 #[pX b,string t] w λe w'=>e=returned (bool v)/\RxAt w' b s dv {r with at_:=y}/\∀H,Keep H b w w'):=λw g=>by
 subst j;cases v with
 |true=>exact zPX (r:={r with at_:=x}) a g (λH=>Keep.refl _ _ _) c d f
 |false=>exact zPY (r:={r with at_:=x}) a g (λH=>Keep.refl _ _ _) c d f
theorem zAs {x y:Nat}{v:Bool}(t:ByteArray)(a:s.size<=1048576)(c:x<=2000000)(d:t.size<=1000000)(f:zM s x t=v)(g:y=if v then x+t.size else x)(j:RxAt w b s dv {r with at_:=x}):
  Calls prog 189 #[pX b,string t] w λe w'=>e=returned (bool v)/\RxAt w' b s dv {r with at_:=y}/\∀H,Keep H b w w':=(zKf f a c d g) w j
theorem zPV {b x:Nat}{s:ByteArray}{c:UInt8}{dv:Value}{r:Rx}(d:zM s x ⟨#[c]⟩=true)(f:RxAt w b s dv {r with at_:=x})(g:∀H,Keep H b a w)(j:s.size<=1048576)(k:x<=2000000):
  Calls prog 189 #[pX b,string ⟨#[c]⟩] w λe w'=>e=returned (bool true)/\RxAt w' b s dv {r with at_:=x+1}/\∀H,Keep H b a w':=zPX (r:={r with at_:=x}) d f g j k (by show 1<=1000000;decide)
theorem zPW {b x:Nat}{s:ByteArray}{c:UInt8}{dv:Value}{r:Rx}(d:zM s x ⟨#[c]⟩=false)(f:RxAt w b s dv {r with at_:=x})(g:∀H,Keep H b a w)(j:s.size<=1048576)(k:x<=2000000):
  Calls prog 189 #[pX b,string ⟨#[c]⟩] w λe w'=>e=returned (bool false)/\RxAt w' b s dv {r with at_:=x}/\∀H,Keep H b a w':=zPY (r:={r with at_:=x}) d f g j k (by show 1<=1000000;decide)
theorem zE9 (s:ByteArray)(p m:Nat):yU s p m<=m:=by
 have a:(List.range m).findIdx (λj=>decide (jU (byt s (p+j))<0))<=(List.range m).length:=List.findIdx_le_length;rw[List.length_range] at a;exact a
theorem zPP (x m:Nat)(a:s.size<=1048576)(c:x<=1900000)(d:m<=6):Hid (∀w,RxAt w b s dv {r with at_:=x}->Calls prog 216 #[pX b,iX (m:Int)] w λe w'=>e=returned (tuple #[iX (zA7 s x (yU s x m):Nat),iX (yU s x m:Nat)])/\RxAt w' b s dv {r with at_:=x+yU s x m}/\∀H,Keep H b w w'):=λw f=>zMM w b s dv _ f a c m d
theorem zHZ (a:s.size<=1048576)(c:r.at_<=2000000):Hid (∀w,RxAt w b s dv r->Calls prog 200 #[pX b,zX] w λe w'=>e=returned (int .u8 (byt s r.at_:Nat))/\w'=w):=λw d=>qW w b s dv r d a c 0 (by omega)
theorem zP0:Hid (∀w,RxAt w b s dv r->RxAt (w.setCell ⟨b,2,none⟩ (iX ((r.at_:Int)+1))) b s dv {r with at_:=r.at_+1}):=λw a=>a.setAt (r.at_+1)
theorem zOF (a:RxAt w b s dv r):∃c d,c.at_=r.at_+1/\d=w.setCell ⟨b,2,none⟩ (iX ((r.at_:Int)+1))/\RxAt d b s dv c/\(∀H,Keep H b w d)/\Hid (∀q:Nat,({c with at_:=q}:Rx)={r with at_:=q})/\w.cell? ⟨b,2,none⟩=some (iX (r.at_:Int))/\w.frozen? ⟨b,2,none⟩=false:=by
 have e:=a.setAt (r.at_+1);rw[show ((r.at_+1:Nat):Int)=(r.at_:Int)+1 by omega] at e;exact⟨_,_,rfl,rfl,e,λH=>Keep.set _ _ _,λq=>rfl,a.cells.2.2.1,a.cells.2.2.2.2.2 2⟩
structure Sg where
 num:Int
 ok:Bool
 at_:Nat
def zIg (s:ByteArray)(p:Nat):Sg:=⟨(zA7 s p (yU s p 2):Nat),yU s p 2==2,p+yU s p 2⟩
def zHG (s:ByteArray)(p:Nat):Sg:=⟨(zA7 s p (yU s p 6):Nat),zM s (p+yU s p 6) ⟨#[125]⟩&&decide (0<yU s p 6)&&zCR (zA7 s p (yU s p 6):Nat),if zM s (p+yU s p 6) ⟨#[125]⟩ then p+yU s p 6+1 else p+yU s p 6⟩
def zLW (c:Nat):Bool:=decide (c<33)||decide (126<c)||xP c||zCH c
def zA4 (s:ByteArray)(p:Nat):Sg:=if zM s p ⟨#[110]⟩ then⟨10,true,p+1⟩ else if zM s p ⟨#[116]⟩ then⟨9,true,p+1⟩ else if zM s p ⟨#[120]⟩ then zIg s (p+1) else if zM s p ⟨#[117,123]⟩ then zHG s (p+2) else if zLW (byt s p) then⟨0,false,p⟩ else⟨(byt s p:Nat),true,p+1⟩
theorem zBN (w:World)(b:Nat)(s:ByteArray)(dv:Value)(r:Rx)(h:RxAt w b s dv r)(hs:s.size<=1048576)(ha:r.at_<=1800000):
  Calls prog 209 #[pX b] w λe w'=>e=returned (tuple #[iX (zA4 s (r.at_+1)).num,bool (zA4 s (r.at_+1)).ok])/\RxAt w' b s dv {r with at_:=(zA4 s (r.at_+1)).at_}/\∀H,Keep H b w w':=by
 obtain⟨r1,w0,hat1,hw0,hR,hk,HFR,c2,cf2⟩:=zOF h;have ha1:r1.at_<=2000000:=by omega
 have ha2:r1.at_+8<=2000000:=by omega
 obtain⟨es,hes⟩:∃es,es=zA4 s (r.at_+1):=⟨_,rfl⟩
 rw[<-hes];rw[<-hat1] at hes;unfold zA4 zIg zHG zLW at hes;have HV:=vl hes;have HX2:=zPP (b:=b) (dv:=dv) (r:=r1) (r1.at_+1) 2 hs (by omega) (by omega);have HX6:=zPP (b:=b) (dv:=dv) (r:=r1) (r1.at_+2) 6 hs (by omega) (by omega);have hk6:=zE9 s (r1.at_+2) 6;have HIS:=vl λw=>zFV w ((zA7 s (r1.at_+2) (yU s (r1.at_+2) 6):Nat):Int);have HP:=zHZ (b:=b) (dv:=dv) (r:=r1) hs ha1;have HS:=zP0 (b:=b) (s:=s) (dv:=dv) (r:=r1);have hcl:=zAK s r1.at_;have HDG:=vl λw=>zAv w (byt s r1.at_);have HLT:=vl λw=>zFY w (byt s r1.at_);clear h hes hat1;generalize zCR ((zA7 s (r1.at_+2) (yU s (r1.at_+2) 6):Nat):Int)=ic at *;generalize zA7 s (r1.at_+2) (yU s (r1.at_+2) 6)=n6 at *;generalize yU s (r1.at_+2) 6=k6 at *;generalize zA7 s (r1.at_+1) (yU s (r1.at_+1) 2)=n2 at *;generalize yU s (r1.at_+1) 2=k2 at *;generalize byt s r1.at_=c at *;have HB:Hid (((k2:Int)==2)=(k2==2)):=by
  show _=_;by_cases e:k2=2
  ·rw[e];rfl
  ·rw[show (k2==2)=false by rw[hX];exact e,hX];omega
 go_in;apply wp_cut;intro K0 HK0;go_wp2;apply HK0.out;clear HK0;apply wp_cut;intro K0 HK0;go_wp2;apply HK0.out;clear HK0;rw[<-hw0];clear hw0 c2 cf2;rcases hn:zM s r1.at_ ⟨#[110]⟩ with _|_;rcases ht:zM s r1.at_ ⟨#[116]⟩ with _|_;rcases hx:zM s r1.at_ ⟨#[120]⟩ with _|_;rcases hu:zM s r1.at_ ⟨#[117,123]⟩ with _|_;rcases Nat.lt_or_ge c 33 with q1|q1;rotate_left;rcases Nat.lt_or_ge 126 c with q2|q2;rotate_left;rcases hdg:xP c with _|_;rcases hlt:zCH c with _|_;rotate_left 3;rcases hc:zM s (r1.at_+2+k6) ⟨#[125]⟩ with _|_;rotate_left;rcases Nat.lt_or_ge 0 k6 with q6|q6
 all_goals
  try rw[hn] at HV
  try rw[ht] at HV
  try rw[hx] at HV
  try rw[hu] at HV
  try rw[hc] at HV
  try rw[dQ q6] at HV
  try rw[gG (Nat.not_lt.2 q6)] at HV
  try rw[dQ q1] at HV
  try rw[gG (Nat.not_lt.2 q1)] at HV
  try rw[dQ q2] at HV
  try rw[gG (Nat.not_lt.2 q2)] at HV
  try rw[hdg] at HV HDG
  try rw[hlt] at HV HLT
  try clear hdg
  try clear hlt
  try have i6:(k6:Int)>0:=by omega
  try have i6:(k6:Int)<=0:=by omega
  try have i1:(c:Int)<33:=by omega
  try have i1:33<=(c:Int):=by omega
  try have i2:126<(c:Int):=by omega
  try have i2:(c:Int)<=126:=by omega
  go_wp2_with (first|(go_at_call 189;(first|refine(zPY (by assumption) hR hk hs (by first|exact ha1|(show r1.at_+2+k6<=2000000;omega)) (by decide)).mono ?_|refine(zPX (by assumption) hR hk hs (by first|exact ha1|(show r1.at_+2+k6<=2000000;omega)) (by decide)).mono ?_);rintro e v ⟨rfl,hR,hk⟩)|(go_at_call 216;(first|refine(HX2 v hR).mono ?_|refine(HX6 v hR).mono ?_);rintro e v ⟨rfl,hR,hk2⟩;replace hk:=λH=>(hk H).trans (hk2 H))|(go_at_call 200;refine(HP v hR).mono ?_;rintro e w9 ⟨rfl,hw9⟩;have hw8:=hw9.symm;subst hw8;obtain⟨-,-,c2,-,-,cf⟩:=hR.cells;have cf2:=cf 2;clear cf)|(go_at_call 191;refine(HIS _).mono ?_;rintro e w9 ⟨rfl,hw9⟩;have hw8:=hw9.symm;subst hw8)|(go_at_call 206;refine(HDG _).mono ?_;rintro e w9 ⟨rfl,hw9⟩;have hw8:=hw9.symm;subst hw8)|(go_at_call 217;refine(HLT _).mono ?_;rintro e w9 ⟨rfl,hw9⟩;have hw8:=hw9.symm;subst hw8))
  refine gJ (results_tmp2 rfl _ _ _) rfl ?_
  first
  |exact⟨by rw[HV.out];rfl,by rw[HV.out,<-HFR.out];exact hR,λH=>hk H⟩
  |exact⟨by rw[HV.out,HB.out];rfl,by rw[HV.out,<-HFR.out];exact hR,λH=>hk H⟩
  |exact⟨by rw[HV.out];first|rfl|(simp;done),by rw[HV.out,<-HFR.out];exact HS _ hR,λH=>(hk H).trans (Keep.set _ _ _)⟩
end
def zE6 (c:Nat):Bool:=c==91||c==93||c==94||c==45|| !isPrintedB c
def xO (s:ByteArray)(p:Nat):Sg:=if byt s p=92 then zA4 s (p+1) else if zE6 (byt s p) then⟨0,false,p⟩ else⟨(byt s p:Nat),true,p+1⟩
theorem zDw (w:World)(b:Nat)(s:ByteArray)(dv:Value)(r:Rx)(j:RxAt w b s dv r)(v:s.size<=1048576)(z:r.at_<=1800000):
  Calls prog 219 #[pX b] w λe w'=>e=returned (tuple #[iX (xO s r.at_).num,bool (xO s r.at_).ok])/\RxAt w' b s dv {r with at_:=(xO s r.at_).at_}/\∀H,Keep H b w w':=by
 obtain⟨-,-,c2,-,-,A⟩:=j.cells;have M:=A 2;have q:=vl j;have k:=vl <| qW w b s dv r j v (by omega) 0 (by omega);have B:=vl <| zBN w b s dv r j v z;have l:Hid (xO s r.at_=if byt s r.at_=92 then zA4 s (r.at_+1) else if zE6 (byt s r.at_) then⟨0,false,r.at_⟩ else⟨(byt s r.at_:Nat),true,r.at_+1⟩):=rfl;have N:=zAK s r.at_;generalize byt s r.at_=c at *;generalize zA4 s (r.at_+1)=C at *;generalize xO s r.at_=m at *;by_cases t:c=92
 ·subst t
  have a:Hid (m=C):=by show _=_;rw[l.out,if_pos rfl]
  go_in;go_wp2_with (first|(go_at_call 200;refine k.mono ?_;rintro e g ⟨rfl,d⟩;have f:=d.symm;subst f)|(go_at_call 209;refine B.mono ?_;rintro e w2 ⟨rfl,D,E⟩))
  refine gJ (results_tmp2 rfl _ _ _) rfl ?_;exact⟨by rw[a.out];rfl,by rw[a.out];exact D,E⟩
 by_cases F:c=91\/c=93\/c=94\/c=45
 ·rcases F with rfl|rfl|rfl|rfl
  all_goals
   have a:Hid (m=⟨0,false,r.at_⟩):=by show _=_;rw[l.out,if_neg (by decide),if_pos (by decide)]
   go_in;go_wp2_with (go_at_call 200;refine k.mono ?_;rintro e g ⟨rfl,d⟩;have f:=d.symm;subst f)
   refine gJ (results_tmp2 rfl _ _ _) rfl ?_;exact⟨by rw[a.out];rfl,by rw[a.out];exact q,λH=>Keep.refl _ _ _⟩
 have G:c≠91:=by omega
 have I:c≠93:=by omega
 have J:c≠94:=by omega
 have K:c≠45:=by omega
 have o:Hid (∀w,Ca 218 #[int .u8 (c:Int)] w λe w'=>e=returned (bool (isPrintedB c))/\w'=w):=λw=>zB1 w c;have x:Hid (zE6 c= !isPrintedB c):=by
  show _=_;unfold zE6;rw[show (c==91)=false by rw[hX];exact G,show(c==93)=false by rw[hX];exact I,show(c==94)=false by rw[hX];exact J,show(c==45)=false by rw[hX];exact K];rfl
 have O:((c:Int)==92)=false:=by rw[hX];omega
 have P:((c:Int)==91)=false:=by rw[hX];omega
 have R:((c:Int)==93)=false:=by rw[hX];omega
 have S:((c:Int)==94)=false:=by rw[hX];omega
 have T:((c:Int)==45)=false:=by rw[hX];omega
 cases p:isPrintedB c with
 |false=>
  have a:Hid (m=⟨0,false,r.at_⟩):=by show _=_;rw[l.out,if_neg t,if_pos (by rw[x.out,p];rfl)]
  rw[p] at o;have u:=vl o;go_in;go_wp2_with (first|(go_at_call 200;refine k.mono ?_;rintro e g ⟨rfl,d⟩;have f:=d.symm;subst f)|(go_at_call 218;refine(u _).mono ?_;rintro e g ⟨rfl,d⟩;have f:=d.symm;subst f))
  refine gJ (results_tmp2 rfl _ _ _) rfl ?_;exact⟨by rw[a.out];rfl,by rw[a.out];exact q,λH=>Keep.refl _ _ _⟩
 |true=>
  have a:Hid (m=⟨(c:Nat),true,r.at_+1⟩):=by show _=_;rw[l.out,if_neg t,if_neg (by rw[x.out,p];decide)]
  rw[p] at o;have u:=vl o;have L:Hid (RxAt (w.setCell ⟨b,2,none⟩ (iX ((r.at_:Int)+1))) b s dv {r with at_:=r.at_+1}):=by
   have y:=q.setAt (r.at_+1);rw[show ((r.at_+1:Nat):Int)=(r.at_:Int)+1 by omega] at y;exact y
  go_in;go_wp2_with (first|(go_at_call 200;refine k.mono ?_;rintro e g ⟨rfl,d⟩;have f:=d.symm;subst f)|(go_at_call 218;refine(u _).mono ?_;rintro e g ⟨rfl,d⟩;have f:=d.symm;subst f))
  refine gJ (results_tmp2 rfl _ _ _) rfl ?_;exact⟨by rw[a.out];first|rfl|(simp;done),by rw[a.out];exact L,λH=>Keep.set _ _ _⟩
structure Mb where
 low:Int
 high:Int
 ok:Bool
 at_:Nat
def toM (a e:Sg):Mb:=⟨a.num,e.num,e.ok&&decide (a.num<=e.num),e.at_⟩
def yT (s:ByteArray)(p:Nat):Mb:=if(xO s p).ok&&zM s (xO s p).at_ ⟨#[45]⟩ then toM (xO s p) (xO s ((xO s p).at_+1)) else⟨(xO s p).num,(xO s p).num,(xO s p).ok,(xO s p).at_⟩
theorem zI7 (a w:World)(b q:Nat)(s:ByteArray)(dv:Value)(r:Rx)(c d:Int)(p:a.heap.size=q)(j:RxAt w b s dv r)(l:b≠q)(e:∃x y,w.heap[q]? =some (.cells #[x,y] 255))(m:Keep a.heap.size b a w):
  ∃w2,w2=(w.setCell ⟨q,0,none⟩ (iX c)).setCell ⟨q,1,none⟩ (iX d)/\w2.cell? ⟨q,0,none⟩=some (iX c)/\w2.cell? ⟨q,1,none⟩=some (iX d)/\Hid (RxAt w2 b s dv r/\Keep a.heap.size b a w2):=by
 obtain⟨x,y,e⟩:=e;have f:((w.setCell ⟨q,0,none⟩ (iX c)).setCell ⟨q,1,none⟩ (iX d)).heap[q]? =some (.cells #[iX c,iX d] 255):=by
  simp[setCell,lU,e]
 have g:∀i,i≠q->((w.setCell ⟨q,0,none⟩ (iX c)).setCell ⟨q,1,none⟩ (iX d)).heap[i]? =w.heap[i]? :=λi o=>by
  simp[setCell,lU,Ne.symm o]
 refine⟨_,rfl,?_,?_,RxAt.of_block j (g b l),m.trans ⟨rfl,rfl,by simp[World.setCell],λk t _=>g k (by omega)⟩⟩
 ·unfold cell?;rw[f];rfl
 ·unfold cell?;rw[f];rfl
theorem zGj {w:World}{q:Nat}(a:∃x y,w.heap[q]? =some (.cells #[x,y] 255)):(∀i,w.frozen? ⟨q,i,none⟩=false)/\∃x y,w.cell? ⟨q,0,none⟩=some x/\w.cell? ⟨q,1,none⟩=some y:=by
 obtain⟨x,y,a⟩:=a;refine⟨λi=>?_,x,y,?_,?_⟩
 all_goals first|(unfold cell?;rw[a];rfl)|(unfold frozen?;rw[a];simp)
theorem zH4 (w:World)(b:Nat)(s:ByteArray)(dv:Value)(r:Rx)(t:RxAt w b s dv r)(o:s.size<=1048576)(R:r.at_<=1700000)(S:(xO s r.at_).at_<=1700000):
  Calls prog 215 #[pX b] w λe w'=>e=returned (tuple #[agg #[iX (yT s r.at_).low,iX (yT s r.at_).high],bool (yT s r.at_).ok])/\RxAt w' b s dv {r with at_:=(yT s r.at_).at_}/\Keep w.heap.size b w w':=by
 obtain⟨g,z,I,A,J⟩:∃g,g=w.alloc (.cells #[zX,zX] 255)/\RxAt g b s dv r/\g.heap[w.heap.size]? =some (.cells #[zX,zX] 255)/\Hid (Keep w.heap.size b w g):=⟨_,rfl,RxAt.of_block t (lG _ _ _ t.lt),gY _ _,kZ _ _ lQ⟩
 have B:b≠w.heap.size:=kJ t.lt;have K:w.heap.size<g.heap.size:=(kQ.1 A).1;have C:Hid (∀c,(∀H,Keep H b g c)->∃x y,c.heap[w.heap.size]? =some (.cells #[x,y] 255)):=λc d=>⟨_,_,((d g.heap.size).block _ K (Ne.symm B)).trans A⟩
 have D:=vl <| zDw g b s dv r I o (by omega);have E:=vl λ(w2:World) (h9:RxAt w2 b s dv {r with at_:=(xO s r.at_).at_+1})=>zDw w2 b s dv {r with at_:=(xO s r.at_).at_+1} h9 o (by show(xO s r.at_).at_+1<=1800000;omega);have a:Hid (yT s r.at_=if(xO s r.at_).ok&&zM s (xO s r.at_).at_ ⟨#[45]⟩ then toM (xO s r.at_) (xO s ((xO s r.at_).at_+1)) else⟨(xO s r.at_).num,(xO s r.at_).num,(xO s r.at_).ok,(xO s r.at_).at_⟩):=rfl;have p:=vl λ(c:World) (r9:Rx) (lo hi:Int) (h9:RxAt c b s dv r9) (hk9:∀H,Keep H b g c)=>zI7 w c b w.heap.size s dv r9 lo hi rfl h9 B (C c hk9) (J.trans (hk9 _));go_in;apply wp_cut;intro T L;go_wp2;apply L.out;rw[<-z];clear z;generalize yT s r.at_=U at *;generalize xO s ((xO s r.at_).at_+1)=s2 at *;generalize xO s r.at_=s1 at *;rcases F:s1.ok with _|_;rotate_left;rcases M:zM s s1.at_ ⟨#[45]⟩ with _|_;rotate_left;rcases G:s2.ok with _|_;rotate_left;rcases q:decide (s1.num<=s2.num) with _|_
 all_goals
  rw[F] at D a;clear F
  try rw[M] at a
  try unfold toM at a
  try rw[G] at E a
  try clear G
  try have N:=of_decide_eq_true q
  try have N:s2.num<s1.num:=by have:=of_decide_eq_false q;omega
  try rw[q] at a
  try clear q
  go_wp2_with (((first|(go_at_call 219;first|(have m2:=O;refine(E v j).mono ?_;rintro e v ⟨rfl,j,P⟩;replace d:=λH=>(d H).trans (P H))|(refine D.mono ?_;rintro e v ⟨rfl,j,d⟩;have O:=trivial))|(go_at_call 189;(first|refine(zPW (by assumption) j d o (by omega)).mono ?_|refine(zPV (by assumption) j d o (by omega)).mono ?_);rintro e v ⟨rfl,j,d⟩)));have ⟨u,V,W,X,Y⟩:=zGj (C v d);have aa:=u 0;have ab:=u 1;clear u)
  first
  |(have ⟨c,m,k,l,f⟩:=p v _ s1.num s1.num j d;rw[<-m];refine gJ (v:=tuple #[agg #[iX s1.num,iX s1.num],fX]) (by simp[results,results215,go_sem,k,l];done) rfl ?_;exact⟨by rw[a.out];rfl,by rw[a.out];exact f.1,f.2⟩)
  |(have ⟨c,m,k,l,f⟩:=p v _ s1.num s1.num j d;rw[<-m];refine gJ (v:=tuple #[agg #[iX s1.num,iX s1.num],tX]) (by simp[results,results215,go_sem,k,l];done) rfl ?_;exact⟨by rw[a.out];rfl,by rw[a.out];exact f.1,f.2⟩)
  |(have ⟨c,m,k,l,f⟩:=p v _ s1.num s2.num j d;rw[<-m];refine gJ (v:=tuple #[agg #[iX s1.num,iX s2.num],fX]) (by first|(simp [results,results215,go_sem,k,l];done)|(simp [results,results215,go_sem,k,l];omega)) rfl ?_;exact⟨by rw[a.out];rfl,by rw[a.out];exact f.1,f.2⟩)
  |(have ⟨c,m,k,l,f⟩:=p v _ s1.num s2.num j d;rw[<-m];refine gJ (v:=tuple #[agg #[iX s1.num,iX s2.num],tX]) (by first|(simp [results,results215,go_sem,k,l];done)|(simp [results,results215,go_sem,k,l];omega)) rfl ?_;exact⟨by rw[a.out];rfl,by rw[a.out];exact f.1,f.2⟩)
section
attribute [local go_sem ↓] Go.wp_at_zero Go.wp_at_succ
structure Agree (X:Nat->Prop)(w w2:World):Prop where
 os:w2.os=w.os
 output:w2.output=w.output
 size:w.heap.size<=w2.heap.size
 block:∀i,i<w.heap.size->X i->w2.heap[i]? =w.heap[i]?
theorem Agree.refl (X:Nat->Prop)(w:World):Agree X w w:=⟨rfl,rfl,lQ,λ_ _ _=>rfl⟩
theorem Agree.trans {X:Nat->Prop}{w w2 c:World}(a:Agree X w w2)(k:Agree X w2 c):Agree X w c:=⟨k.os.trans a.os,k.output.trans a.output,lY a.size k.size,λi d e=>(k.block i (lZ d a.size) e).trans (a.block i d e)⟩
theorem Agree.mono {X c:Nat->Prop}{w w2:World}(a:Agree X w w2)(e:∀i,i<w.heap.size->c i->X i):Agree c w w2:=⟨a.os,a.output,a.size,λi d f=>a.block i d (e i d f)⟩
theorem Keep.agree {H b:Nat}{X:Nat->Prop}{w w2:World}(a:Keep H b w w2)(c:∀i,i<w.heap.size->X i->i<H/\i≠b):Agree X w w2:=⟨a.os,a.output,a.size,λi d e=>a.block i (c i d e).1 (c i d e).2⟩
def RangesIn (X:Nat->Prop)(w:World)(v:Value)(l:List (Int×Int)):Prop:=∀w2,Agree X w w2->RangesAt w2 v l
theorem RangesIn.at {X:Nat->Prop}{w:World}{v:Value}{l:List (Int×Int)}(a:RangesIn X w v l):RangesAt w v l:=a w (Agree.refl X w)
theorem RangesIn.go {X:Nat->Prop}{w w2:World}{v:Value}{l:List (Int×Int)}(c:RangesIn X w v l)(a:Agree X w w2):RangesIn X w2 v l:=λd e=>c d (a.trans e)
theorem RangesIn.mono {X a:Nat->Prop}{w:World}{v:Value}{l:List (Int×Int)}(c:RangesIn X w v l)(d:∀i,i<w.heap.size->X i->a i):RangesIn a w v l:=λe f=>c e (f.mono d)
theorem zH1 {X:Nat->Prop}{w:World}{c:Int}{b:Nat}(d:w.heap[b]? =some (.cells #[iX c,iX c] 255))(e:X b):RangesIn X w (slice (qX b) 1 1) [(c,c)]:=λw2 a=>zMx w2 c b ((a.block b (kQ.1 d).1 e).trans d)
theorem zKD (X:Nat->Prop)(w:World):RangesIn X w nX []:=λw2 _=>⟨none,0,rfl,lQ,by unfold maxLen;omega,λi a=>absurd a (Nat.not_lt_zero _)⟩
def qK (ps:List (Int×Int)):List Value:=ps.flatMap λp=>[int i64 p.1,int i64 p.2]
theorem zFH (a:List (Int×Int))(x y:Int):qK (a++[(x,y)])=qK a++[iX x,iX y]:=by simp[qK]
theorem zCW (a:List (Int×Int))(i:Nat)(c:i<a.length):(qK a)[i*2]? =some (iX (a.getD i (0,0)).1)/\(qK a)[i*2+1]? =some (iX (a.getD i (0,0)).2):=by
 induction a generalizing i with
 |nil=>simp at c
 |cons p a d=>
  cases i with
  |zero=>exact⟨rfl,rfl⟩
  |succ i=>
   have:=d i (by simpa using c);have e:qK (p::a)=iX p.1::iX p.2::qK a:=rfl;rw[e,show(i+1)*2=i*2+1+1 by omega];exact this
structure Rw (w:World)(H p:Nat)(sv:Value)(l:List (Int×Int))(o:Bool):Prop where
 blk:w.heap[p]? =some (.cells #[sv,bool o] 161)
 own:w.ownsRow H 255 2 sv l.length (qK l)
 pH:p<H
 lt:H<=w.heap.size
def zQz (w:World)(H p:Nat)(l:List (Int×Int))(o:Bool):Prop:=∃sv,Rw w H p sv l o
structure KeepO (p:Nat)(sv sv':Value)(w w':World):Prop where
 os:w'.os=w.os
 output:w'.output=w.output
 size:w.heap.size<=w'.heap.size
 block:∀k,k<w.heap.size->k≠p->some k≠sv.ownBlock->w'.heap[k]? =w.heap[k]? /\some k≠sv'.ownBlock
theorem KeepO.trans {p:Nat}{sv c d:Value}{w w2 e:World}(a:KeepO p sv c w w2)(k:KeepO p c d w2 e):KeepO p sv d w e:=⟨k.os.trans a.os,k.output.trans a.output,lY a.size k.size,λi f g j=>by
 have ⟨m,q⟩:=a.block i f g j;have ⟨r,b2⟩:=k.block i (lZ f a.size) g q;exact⟨r.trans m,b2⟩⟩
theorem KeepO.of_keep {p:Nat}{sv:Value}{w w2:World}(a:Grew w w2):KeepO p sv sv w w2:=⟨a.os,a.output,a.size,λk c _ d=>⟨a.block k c (kJ c),d⟩⟩
theorem KeepO.keep {p H e d n:Nat}{sv f:Value}{xs:List Value}{w w2:World}(a:KeepO p sv f w w2)(g:w.ownsRow H e d sv n xs)(j:H<=w.heap.size):Keep H p w w2:=⟨a.os,a.output,a.size,λk c m=>(a.block k (lZ c j) m λe=>absurd (g.lt k e.symm).1 (Nat.not_le_of_lt c)).1⟩
theorem zEh:(prog.info? 255).map (λi=>(i.zero,i.size,i.bytes))=some (some (agg #[zX,zX]),2,16):=by kernel_rfl
section
variable {w w2:World} {H p b:Nat} {sv:Value} {l:List (Int×Int)} {o:Bool}
theorem Rw.cells (a:Rw w H p sv l o):w.cell? ⟨p,0,none⟩=some sv/\w.cell? ⟨p,1,none⟩=some (bool o)/\∀i,w.frozen? ⟨p,i,none⟩=false:=by
 refine⟨?_,?_,λi=>?_⟩
 all_goals first|(unfold cell?;rw[a.blk];rfl)|(unfold frozen?;rw[a.blk];simp)
theorem Rw.keep (a:Rw w H p sv l o)(c:Keep w.heap.size b w w2)(k:b<H\/b=w.heap.size)(d:b≠p):Rw w2 H p sv l o:=by
 have e:=a.pH;have f:=a.lt;refine⟨(c.block p (by omega) (Ne.symm d)).trans a.blk,zE a.own λg m j _=>c.block g j (by omega),e,lY f c.size⟩
theorem Rw.in (d:Rw w H p sv l o):RangesIn (λi=>H<=i) w sv l:=λr a=>by
 rcases d.own.2 with⟨c,k⟩|⟨g,cap,s,c,t,u,m,q,v,x⟩
 ·exact⟨none,0,by rw[c,k],by omega,by unfold maxLen;omega,λi e=>by omega⟩
 ·have f:=d.own.lt g (by rw[c];rfl)
  have j:=a.block g f.2 f.1;refine⟨some ⟨g,0,none⟩,cap,c,m,q,λi e=>⟨g,0,rfl,lZ f.2 a.size,?_,?_⟩⟩
  ·have:=d.own.cells (g:=g) (by rw[c];rfl) (i*2) _ (zCW l i e).1
   rw[Addr.add_lit] at this;rw[Nat.zero_add] at this ⊢;exact(gW j).trans this
  ·have:=d.own.cells (g:=g) (by rw[c];rfl) (i*2+1) _ (zCW l i e).2
   rw[Addr.add_lit] at this;rw[Nat.zero_add] at this ⊢;exact(gW j).trans this
theorem Rw.app {r:Obj}{g cap m:Nat}{x y:Int}(c:Rw w H p sv l o)(s:m=l.length)(t:w2.ownsRow H 255 2 (slice (qX g) (m+1) cap) (m+1) (qK l++[iX x,iX y]))(a:(w.alloc r).grownBy w2 sv.ownBlock)(u:sv.ownBlock=some g\/w.heap.size<=g):
  Rw (w2.setCell ⟨p,0,none⟩ (slice (qX g) (m+1) cap)) H p (slice (qX g) (m+1) cap) (l++[(x,y)]) o/\KeepO p sv (slice (qX g) (m+1) cap) w (w2.setCell ⟨p,0,none⟩ (slice (qX g) (m+1) cap)):=by
 subst s;have d:=c.pH;have E:=c.lt;have v:∀j,j<H->w2.heap[j]? =w.heap[j]? :=λj F=>(a.block j (by simp;omega) λe=>by have:=(c.own.lt j e.symm).1;omega).trans (lG _ _ _ (by omega));have z:=(v p d).trans c.blk;have A:w.heap.size<=w2.heap.size:=lY (by simp) a.size;refine⟨⟨?_,?_,d,by rw[zD];omega⟩,⟨a.os,a.output,by rw[zD];exact A,λk B C f=>⟨(lJ _ _ _ _ C).trans ((a.block k (by simp;omega) f).trans (lG _ _ _ B)),λe=>by
  have D:k=g:=by simpa[Value.ownBlock] using e
  rcases u with q|q
  ·exact f (by rw[q,D])
  ·omega⟩⟩⟩
 ·simp[setCell,lU,z]
 ·rw[zFH,show(l++[(x,y)]).length=l.length+1 by simp]
  exact xB t d
end
def qI (r:Int×Int)(first last far:Int):List (Int×Int):=if(if first<r.1 then r.1 else first)<=(if r.2<last then r.2 else last) then[((if first<r.1 then r.1 else first)+far,(if r.2<last then r.2 else last)+far)] else[]
theorem zCr (w:World)(H p:Nat)(sv:Value)(l:List (Int×Int))(o:Bool)(P:Rw w H p sv l o)(ak:l.length<=1000000000)(c d first last a:Int)(al:0<=first/\first<=1000)(am:0<=last/\last<=1000)(an:-100<=a/\a<=100):
  Calls prog 213 #[pX p,agg #[iX c,iX d],iX first,iX last,iX a] w λe w'=>e=rX/\∃u,Rw w' H p u (l++qI (c,d) first last a) o/\KeepO p sv u w w':=by
 have ⟨R,S,T,U,V⟩:=info_parts zEh;obtain⟨w1,m,j,ao,ap,G⟩:∃w1,w1=w.alloc (.cells #[iX c,iX d] 255)/\Hid (Rw w1 H p sv l o)/\w1.cell? ⟨w.heap.size,0,none⟩=some (iX c)/\w1.cell? ⟨w.heap.size,1,none⟩=some (iX d)/\Hid (KeepO p sv sv w w1):=by
  have ah:=gY w (.cells #[iX c,iX d] 255);have W:=P.lt;have aq:=P.pH;refine⟨_,rfl,P.keep (kZ (b:=w.heap.size) _ _ lQ) (.inr rfl) (by omega),?_,?_,KeepO.of_keep (kZ _ _ lQ)⟩
  ·unfold cell?;rw[ah];rfl
  ·unfold cell?;rw[ah];rfl
 clear P;obtain⟨C,A⟩:∃C,C=(if first<c then c else first):=⟨_,rfl⟩
 obtain⟨D,B⟩:∃D,D=(if d<last then d else last):=⟨_,rfl⟩
 have q:Hid (qI (c,d) first last a=if C<=D then[(C+a,D+a)] else[]):=by show _=_;unfold qI;rw[A,B]
 have ar:first<=C:=by rw[A];split <;> omega
 have au:D<=last:=by rw[B];split <;> omega
 obtain⟨X,-,ai⟩:=j.cells;have Y:=ai 0;have ⟨E,F,aj⟩:=zF j.own;subst aj;have aa:w1.ownsRow H 255 2 (slice E l.length F) l.length (qK l):=j.own;have I:p<w1.heap.size:=lZ j.pH j.lt;have av:H<=w1.heap.size:=j.lt;have ab:=vl <| zO j.own j.blk (by decide);clear ai;rcases Int.lt_or_le first c with ac|ac <;> rcases Int.lt_or_le d last with ad|ad
 ·
  have J:c=C:=by rw[A];exact(if_pos ac).symm
  have K:d=D:=by rw[B];exact(if_pos ad).symm
  clear A B;subst J K;by_cases v:c<=d
  ·have r:Hid (qI (c,d) first last a=[(c+a,d+a)]):=by show _=_;rw[q.out,if_pos v]
   clear q;go_in;apply wp_cut;intro L g;go_wp2;apply g.out;clear g;rw[<-m];clear m;go_wp2_with (at_builtin;refine wpList_append_lies _ rfl _ _ 159 rfl (H) 255 R (agg #[zX,zX]) 2 16 underlying159 S T U V rfl (by decide) _ _ _ rfl (aa.alloc _) ⟨w1.heap.size,0,none⟩ 1 1 [iX (c+a),iX (d+a)] rfl rfl (news_of_block (cs:=#[iX (c+a),iX (d+a)]) (t:=255) (fr:=(0,0)) (gY w1 _)) (by simp[Value.oneCell']) (by decide) (by unfold maxLen;omega) (by omega) (by simp;omega) _ rfl ?_;intro M cap w2 x s y W;have z:=s.block p (by simp;omega) ab;have ae:w2.cell? ⟨p,0,none⟩=some (slice E l.length F):=(gW z).trans ((gU _ _ _ I).trans X);have af:w2.frozen? ⟨p,0,none⟩=false:=(gV z).trans ((frozen?_alloc_past _ _ _ I).trans Y))
   obtain⟨k,N,O⟩:∃k,k=w2.setCell ⟨p,0,none⟩ (slice (qX M) (l.length+1) cap)/\Hid (∃u,Rw k H p u (l++qI (c,d) first last a) o/\KeepO p (slice E l.length F) u w k):=⟨_,rfl,_,by rw[r.out];exact(j.app rfl x s (by rcases y with f|f;exact .inl f;right;rw[f];simp)).1,G.trans (j.app rfl x s (by rcases y with f|f;exact .inl f;right;rw[f];simp)).2⟩
   rw[<-N];go_end0;exact⟨rfl,O⟩
  ·have ag:d<c:=by omega
   have r:Hid (qI (c,d) first last a=[]):=by show _=_;rw[q.out,if_neg v]
   clear q;go_in;apply wp_cut;intro L g;go_wp2;apply g.out;clear g;rw[<-m];clear m;go_wp2;go_end0;exact⟨rfl,_,by rw[r.out,dX];exact j,G⟩
 ·
  have J:c=C:=by rw[A];exact(if_pos ac).symm
  have K:last=D:=by rw[B];exact(if_neg (by omega)).symm
  clear A B;subst J K;by_cases v:c<=last
  ·have r:Hid (qI (c,d) first last a=[(c+a,last+a)]):=by show _=_;rw[q.out,if_pos v]
   clear q;go_in;apply wp_cut;intro L g;go_wp2;apply g.out;clear g;rw[<-m];clear m;go_wp2_with (at_builtin;refine wpList_append_lies _ rfl _ _ 159 rfl (H) 255 R (agg #[zX,zX]) 2 16 underlying159 S T U V rfl (by decide) _ _ _ rfl (aa.alloc _) ⟨w1.heap.size,0,none⟩ 1 1 [iX (c+a),iX (last+a)] rfl rfl (news_of_block (cs:=#[iX (c+a),iX (last+a)]) (t:=255) (fr:=(0,0)) (gY w1 _)) (by simp[Value.oneCell']) (by decide) (by unfold maxLen;omega) (by omega) (by simp;omega) _ rfl ?_;intro M cap w2 x s y W;have z:=s.block p (by simp;omega) ab;have ae:w2.cell? ⟨p,0,none⟩=some (slice E l.length F):=(gW z).trans ((gU _ _ _ I).trans X);have af:w2.frozen? ⟨p,0,none⟩=false:=(gV z).trans ((frozen?_alloc_past _ _ _ I).trans Y))
   obtain⟨k,N,O⟩:∃k,k=w2.setCell ⟨p,0,none⟩ (slice (qX M) (l.length+1) cap)/\Hid (∃u,Rw k H p u (l++qI (c,d) first last a) o/\KeepO p (slice E l.length F) u w k):=⟨_,rfl,_,by rw[r.out];exact(j.app rfl x s (by rcases y with f|f;exact .inl f;right;rw[f];simp)).1,G.trans (j.app rfl x s (by rcases y with f|f;exact .inl f;right;rw[f];simp)).2⟩
   rw[<-N];go_end0;exact⟨rfl,O⟩
  ·have ag:last<c:=by omega
   have r:Hid (qI (c,d) first last a=[]):=by show _=_;rw[q.out,if_neg v]
   clear q;go_in;apply wp_cut;intro L g;go_wp2;apply g.out;clear g;rw[<-m];clear m;go_wp2;go_end0;exact⟨rfl,_,by rw[r.out,dX];exact j,G⟩
 ·
  have J:first=C:=by rw[A];exact(if_neg (by omega)).symm
  have K:d=D:=by rw[B];exact(if_pos ad).symm
  clear A B;subst J K;by_cases v:first<=d
  ·have r:Hid (qI (c,d) first last a=[(first+a,d+a)]):=by show _=_;rw[q.out,if_pos v]
   clear q;go_in;apply wp_cut;intro L g;go_wp2;apply g.out;clear g;rw[<-m];clear m;go_wp2_with (at_builtin;refine wpList_append_lies _ rfl _ _ 159 rfl (H) 255 R (agg #[zX,zX]) 2 16 underlying159 S T U V rfl (by decide) _ _ _ rfl (aa.alloc _) ⟨w1.heap.size,0,none⟩ 1 1 [iX (first+a),iX (d+a)] rfl rfl (news_of_block (cs:=#[iX (first+a),iX (d+a)]) (t:=255) (fr:=(0,0)) (gY w1 _)) (by simp[Value.oneCell']) (by decide) (by unfold maxLen;omega) (by omega) (by simp;omega) _ rfl ?_;intro M cap w2 x s y W;have z:=s.block p (by simp;omega) ab;have ae:w2.cell? ⟨p,0,none⟩=some (slice E l.length F):=(gW z).trans ((gU _ _ _ I).trans X);have af:w2.frozen? ⟨p,0,none⟩=false:=(gV z).trans ((frozen?_alloc_past _ _ _ I).trans Y))
   obtain⟨k,N,O⟩:∃k,k=w2.setCell ⟨p,0,none⟩ (slice (qX M) (l.length+1) cap)/\Hid (∃u,Rw k H p u (l++qI (c,d) first last a) o/\KeepO p (slice E l.length F) u w k):=⟨_,rfl,_,by rw[r.out];exact(j.app rfl x s (by rcases y with f|f;exact .inl f;right;rw[f];simp)).1,G.trans (j.app rfl x s (by rcases y with f|f;exact .inl f;right;rw[f];simp)).2⟩
   rw[<-N];go_end0;exact⟨rfl,O⟩
  ·have ag:d<first:=by omega
   have r:Hid (qI (c,d) first last a=[]):=by show _=_;rw[q.out,if_neg v]
   clear q;go_in;apply wp_cut;intro L g;go_wp2;apply g.out;clear g;rw[<-m];clear m;go_wp2;go_end0;exact⟨rfl,_,by rw[r.out,dX];exact j,G⟩
 ·
  have J:first=C:=by rw[A];exact(if_neg (by omega)).symm
  have K:last=D:=by rw[B];exact(if_neg (by omega)).symm
  clear A B;subst J K;by_cases v:first<=last
  ·have r:Hid (qI (c,d) first last a=[(first+a,last+a)]):=by show _=_;rw[q.out,if_pos v]
   clear q;go_in;apply wp_cut;intro L g;go_wp2;apply g.out;clear g;rw[<-m];clear m;go_wp2_with (at_builtin;refine wpList_append_lies _ rfl _ _ 159 rfl (H) 255 R (agg #[zX,zX]) 2 16 underlying159 S T U V rfl (by decide) _ _ _ rfl (aa.alloc _) ⟨w1.heap.size,0,none⟩ 1 1 [iX (first+a),iX (last+a)] rfl rfl (news_of_block (cs:=#[iX (first+a),iX (last+a)]) (t:=255) (fr:=(0,0)) (gY w1 _)) (by simp[Value.oneCell']) (by decide) (by unfold maxLen;omega) (by omega) (by simp;omega) _ rfl ?_;intro M cap w2 x s y W;have z:=s.block p (by simp;omega) ab;have ae:w2.cell? ⟨p,0,none⟩=some (slice E l.length F):=(gW z).trans ((gU _ _ _ I).trans X);have af:w2.frozen? ⟨p,0,none⟩=false:=(gV z).trans ((frozen?_alloc_past _ _ _ I).trans Y))
   obtain⟨k,N,O⟩:∃k,k=w2.setCell ⟨p,0,none⟩ (slice (qX M) (l.length+1) cap)/\Hid (∃u,Rw k H p u (l++qI (c,d) first last a) o/\KeepO p (slice E l.length F) u w k):=⟨_,rfl,_,by rw[r.out];exact(j.app rfl x s (by rcases y with f|f;exact .inl f;right;rw[f];simp)).1,G.trans (j.app rfl x s (by rcases y with f|f;exact .inl f;right;rw[f];simp)).2⟩
   rw[<-N];go_end0;exact⟨rfl,O⟩
  ·have ag:last<first:=by omega
   have r:Hid (qI (c,d) first last a=[]):=by show _=_;rw[q.out,if_neg v]
   clear q;go_in;apply wp_cut;intro L g;go_wp2;apply g.out;clear g;rw[<-m];clear m;go_wp2;go_end0;exact⟨rfl,_,by rw[r.out,dX];exact j,G⟩
end
def zJN (r:Int×Int):List (Int×Int):=r::(qI r 65 90 32++qI r 97 122 (-32))
def qS (l:List (Int×Int)):List (Int×Int):=l.flatMap zJN
theorem zD8 (r:Int×Int)(a b c:Int):(qI r a b c).length<=1:=by
 have h:∀(p:Prop) [Decidable p] (x:Int×Int),(if p then[x] else[]).length<=1:=by intro p _ x;split <;> simp
 exact h _ _
theorem zHA (l:List (Int×Int)):(qS l).length<=3*l.length:=by
 induction l with
 |nil=>exact lX
 |cons r l a=>
  have b:=zD8 r 65 90 32;have c:=zD8 r 97 122 (-32);have e:qS (r::l)=zJN r++qS l:=rfl;rw[e,kX];unfold zJN;simp only[hU,kX];omega
theorem zLa (l:List (Int×Int))(j:Nat)(a:j<l.length):qS (l.take (j+1))=((qS (l.take j)++[l.getD j (0,0)])++qI (l.getD j (0,0)) 65 90 32)++qI (l.getD j (0,0)) 97 122 (-32):=by
 have e:l.take (j+1)=l.take j++[l.getD j (0,0)]:=by rw[List.take_add_one,lV a,lW,lV a];rfl
 rw[e];unfold qS;rw[List.flatMap_append];simp[zJN]
theorem zE3 (w:World)(u:Value)(l:List (Int×Int))(o:Bool)(aI:RangesAt w u l)(bg:l.length<=10000000):
  Calls prog 204 #[agg #[u,bool o]] w λe w'=>∃af,e=returned (agg #[af,bool o])/\RangesIn (λi=>w.heap.size<=i) w' af (qS l)/\Grew w w':=by
 have ⟨aJ,aK,aL,aM,aN⟩:=info_parts zEh;obtain⟨ao,cap,rfl,_,_,aO⟩:=aI;have aP:=vl aO;obtain⟨s,ah,aQ,I,J,aR,P⟩:∃s,s=((w.alloc (.cells #[slice ao l.length cap,bool o] 161)).alloc (.cells #[nX,fX] 161)).alloc (.cells #[nX,bool o] 161)/\Hid (Rw s (w.heap.size+3) (w.heap.size+1+1) nX [] o)/\s.cell? ⟨w.heap.size,0,none⟩=some (slice ao l.length cap)/\s.cell? ⟨w.heap.size,1,none⟩=some (bool o)/\Hid (s.heap[w.heap.size+1]? =some (.cells #[nX,fX] 161))/\Hid (Grew w s):=by
  have s1:(w.alloc (.cells #[slice ao l.length cap,bool o] 161)).heap.size=w.heap.size+1:=by simp
  have s2:((w.alloc (.cells #[slice ao l.length cap,bool o] 161)).alloc (.cells #[nX,fX] 161)).heap.size=w.heap.size+1+1:=by simp
  have aS:=gY w (.cells #[slice ao l.length cap,bool o] 161);have b2:=gY (w.alloc (.cells #[slice ao l.length cap,bool o] 161)) (.cells #[nX,fX] 161);rw[s1] at b2;have ai:=gY ((w.alloc (.cells #[slice ao l.length cap,bool o] 161)).alloc (.cells #[nX,fX] 161)) (.cells #[nX,bool o] 161);rw[s2] at ai;have aj:=(lG ((w.alloc (.cells #[slice ao l.length cap,bool o] 161)).alloc (.cells #[nX,fX] 161)) (.cells #[nX,bool o] 161) w.heap.size (by rw[s2];omega)).trans ((lG _ _ _ (by rw[s1];omega)).trans aS);have aT:=(lG ((w.alloc (.cells #[slice ao l.length cap,bool o] 161)).alloc (.cells #[nX,fX] 161)) (.cells #[nX,bool o] 161) (w.heap.size+1) (by rw[s2];omega)).trans b2;refine⟨_,rfl,⟨ai,ownsRow_nil _ _ _ _,by omega,by simp⟩,?_,?_,aT,((kZ _ _ lQ).trans (kZ _ _ (by rw[s1];omega))).trans (kZ _ _ (by rw[s2];omega))⟩
  ·unfold cell?;rw[aj];rfl
  ·unfold cell?;rw[aj];rfl
 go_in;apply wp_cut;intro A c;go_wp2;apply c.out;apply wp_cut;intro A c;go_wp2;apply c.out;clear c;rw[<-ah];clear ah;go_wp2;clear I J;go_loopg [12] l.length (λq i wr=>∃j:Nat,q=l.length-j/\j<=l.length/\i=iX (j:Int)/\zQz wr (w.heap.size+3) (w.heap.size+1+1) (qS (l.take j)) o/\Keep (w.heap.size+3) (w.heap.size+1+1) s wr)
 case atStart=>exact⟨0,rfl,lX,rfl,⟨_,by rw[List.take_zero];exact aQ⟩,Keep.refl _ _ _⟩
 case round=>
  obtain⟨j,R,bh,rfl,⟨sv,B⟩,x⟩:=hrel;have z:Hid (gk=l.length-j/\Rw wr (w.heap.size+3) (w.heap.size+1+1) sv (qS (l.take j)) o/\Keep (w.heap.size+3) (w.heap.size+1+1) s wr):=⟨R,B,x⟩
  by_cases ak:j<l.length
  ·have aU:(j:Int)<(l.length:Int):=by omega
   obtain⟨b,bi,rfl,aV,al,am⟩:=aP j ak;have bj:=P.size;have aW:b<w.heap.size:=aV;have S:wr.heap[b]? =w.heap[b]? :=(x.block b (by omega) (by omega)).trans (P.block b aW (by omega));have I:=(gW S).trans al;have J:=(gW S).trans am;have aX:=vl <| zLa l j ak;have bk:(qS (l.take j)).length<=30000000:=by
    have an:=zHA (l.take j);rw[List.length_take] at an;omega
   clear al am S R x B;generalize l.getD j (0,0)=r at *;generalize aY:qS (l.take j)=a at *;clear aY;obtain⟨d,f⟩:=r;simp only at I J;have ⟨g,m,T⟩:=zF z.2.1.own;subst T;obtain⟨p,ap,C,K,aZ,bl⟩:∃p,p=wr.alloc (.cells #[iX d,iX f] 255)/\Rw p (w.heap.size+3) (w.heap.size+1+1) (slice g a.length m) a o/\Hid (p.heap[wr.heap.size]? =some (.cells #[iX d,iX f] 255)/\some wr.heap.size≠(Value.slice g a.length m).ownBlock)/\Hid (Keep (w.heap.size+3) (w.heap.size+1+1) wr p)/\wr.heap.size+1<=p.heap.size:=by
    have U:=z.2.1.lt;refine⟨_,rfl,z.2.1.keep (kZ (b:=wr.heap.size) _ _ lQ) (.inr rfl) (by omega),⟨gY _ _,λe=>by have:=(z.2.1.own.lt _ e.symm).2;omega⟩,kZ _ _ U,by simp⟩
   have bm:w.heap.size+3<=wr.heap.size:=z.2.1.lt;apply wp_cut;intro A c;go_wp2;apply c.out;clear c;apply wp_cut;intro A c;go_wp2;apply c.out;clear c;apply wp_cut;intro bn aq;refine wp_block ?_;apply wp_cut;intro A c;go_wp2;apply c.out;clear c;rw[<-ap];clear ap I J;obtain⟨ar,-,au⟩:=C.cells;have av:=au 0;have aw:p.ownsRow (w.heap.size+3) 255 2 (slice g a.length m) a.length (qK a):=C.own;have V:w.heap.size+1+1<p.heap.size:=by omega
   have ax:=vl <| zO C.own C.blk (by decide);have c0:p.cell? ⟨wr.heap.size,0,none⟩=some (iX d):=by unfold cell?;rw[K.out.1];rfl
   have c1:p.cell? ⟨wr.heap.size,1,none⟩=some (iX f):=by unfold cell?;rw[K.out.1];rfl
   have W:=vl C;clear au C;apply wp_cut;intro A c;go_wp2_with (at_builtin;refine wpList_append_lies _ rfl _ _ 159 rfl (w.heap.size+3) 255 aJ (agg #[zX,zX]) 2 16 underlying159 aK aL aM aN rfl (by decide) _ _ _ rfl (aw.alloc _) ⟨p.heap.size,0,none⟩ 1 1 [iX d,iX f] rfl rfl (news_of_block (cs:=#[iX d,iX f]) (t:=255) (fr:=(0,0)) (gY p _)) (by simp[Value.oneCell']) (by decide) (by unfold maxLen;omega) (by omega) (by simp;omega) _ rfl ?_;intro M cap w2 ay X az U;have Y:=X.block (w.heap.size+1+1) (by simp;omega) ax;have a0:w2.cell? ⟨w.heap.size+1+1,0,none⟩=some (slice g a.length m):=(gW Y).trans ((gU _ _ _ V).trans ar);have a1:w2.frozen? ⟨w.heap.size+1+1,0,none⟩=false:=(gV Y).trans ((frozen?_alloc_past _ _ _ V).trans av))
   apply c.out;clear c;obtain⟨y,aA,N⟩:∃y,y=w2.setCell ⟨w.heap.size+1+1,0,none⟩ (slice (qX M) (a.length+1) cap)/\Hid (Rw y (w.heap.size+3) (w.heap.size+1+1) (slice (qX M) (a.length+1) cap) (a++[(d,f)]) o/\KeepO (w.heap.size+1+1) (slice g a.length m) (slice (qX M) (a.length+1) cap) p y):=⟨_,rfl,W.app rfl ay X (by rcases az with aa|aa;exact .inl aa;right;rw[aa];simp)⟩
   rw[<-aA];clear aA ay X az U Y a0 a1 aw ax V;generalize (Value.slice (qX M) (a.length+1) cap)=ab at *;have ⟨D,O⟩:=N.2.block wr.heap.size (by omega) (by omega) K.2;have G:Hid (y.heap[wr.heap.size]? =some (.cells #[iX d,iX f] 255)/\some wr.heap.size≠ab.ownBlock):=⟨D.trans K.1,O⟩
   have a2:y.cell? ⟨wr.heap.size,0,none⟩=some (iX d):=by unfold cell?;rw[G.out.1];rfl
   have a3:y.cell? ⟨wr.heap.size,1,none⟩=some (iX f):=by unfold cell?;rw[G.out.1];rfl
   clear D O c0 c1 ar av;have a4:=vl <| zCr y _ _ ab _ o N.1 (by simp;omega) d f 65 90 32 (by omega) (by omega) (by omega);apply wp_cut;intro A c;go_wp2_with (go_at_call 213;refine a4.mono ?_;rintro e H ⟨rfl,ac,ad,ae⟩)
   apply c.out;clear c;have bo:=N.2.size;have ⟨D,O⟩:=ae.block wr.heap.size (by omega) (by omega) G.2;have v0:H.cell? ⟨wr.heap.size,0,none⟩=some (iX d):=by unfold cell?;rw[D,G.out.1];rfl
   have v1:H.cell? ⟨wr.heap.size,1,none⟩=some (iX f):=by unfold cell?;rw[D,G.out.1];rfl
   have a5:Hid (Rw H (w.heap.size+3) (w.heap.size+1+1) ac ((a++[(d,f)])++qI (d,f) 65 90 32) o/\KeepO (w.heap.size+1+1) ab ac y H):=⟨ad,ae⟩
   have a6:=vl <| zCr H _ _ ac _ o ad (by have:=zD8 (d,f) 65 90 32;simp;omega) d f 97 122 (-32) (by omega) (by omega) (by omega);clear D O ad ae a2 a3;go_wp2_with (go_at_call 213;refine a6.mono ?_;rintro e aB ⟨rfl,a7,aC,aD⟩)
   apply aq.out;clear aq;have a8:Hid (zQz aB (w.heap.size+3) (w.heap.size+1+1) (qS (l.take (j+1))) o/\Keep (w.heap.size+3) (w.heap.size+1+1) s aB):=⟨⟨a7,by rw[aX.out];exact aC⟩,z.2.2.trans (aZ.trans (((N.2.trans a5.2).trans aD).keep W.own W.lt))⟩
   clear aC aD v0 v1;go_wp2;go_roundg (l.length-(j+1))
   case measure=>rw[z.out.1];omega
   case rel=>exact⟨j+1,rfl,by omega,by go_num,a8⟩
  ·have aU:(l.length:Int)<=(j:Int):=by omega
   have e:j=l.length:=by omega
   subst e;obtain⟨c0,c1,-⟩:=B.cells;have ⟨g,m,T⟩:=zF B.own;subst T;have aE:=vl B.in;have E:wr.heap[w.heap.size+1]? =some (.cells #[nX,fX] 161):=(x.block _ (by omega) (by omega)).trans aR;have bp:wr.cell? ⟨w.heap.size+1,0,none⟩=some nX:=by unfold cell?;rw[E];rfl
   have bq:wr.cell? ⟨w.heap.size+1,1,none⟩=some fX:=by unfold cell?;rw[E];rfl
   have br:wr.frozen? ⟨w.heap.size+1,0,none⟩=false:=by unfold frozen?;rw[E];rfl
   have bs:wr.frozen? ⟨w.heap.size+1,1,none⟩=false:=by unfold frozen?;rw[E];rfl
   have a9:Hid (qS (l.take l.length)=qS l):=by show _=_;rw[List.take_length]
   generalize qS (l.take l.length)=a at *;obtain⟨F,ba,bb,bc,aF⟩:∃F,F=(wr.setCell ⟨w.heap.size+1,0,none⟩ (slice g a.length m)).setCell ⟨w.heap.size+1,1,none⟩ (bool o)/\F.cell? ⟨w.heap.size+1,0,none⟩=some (slice g a.length m)/\F.cell? ⟨w.heap.size+1,1,none⟩=some (bool o)/\Hid (RangesIn (λi=>w.heap.size<=i) F (slice g a.length m) a/\Grew w F):=by
    have aG:((wr.setCell ⟨w.heap.size+1,0,none⟩ (slice g a.length m)).setCell ⟨w.heap.size+1,1,none⟩ (bool o)).heap[w.heap.size+1]? =some (.cells #[slice g a.length m,bool o] 161):=by
     simp[setCell,lU,E]
    have aH:∀i,i≠w.heap.size+1->((wr.setCell ⟨w.heap.size+1,0,none⟩ (slice g a.length m)).setCell ⟨w.heap.size+1,1,none⟩ (bool o)).heap[i]? =wr.heap[i]? :=λi bd=>by
     simp[setCell,lU,Ne.symm bd]
    refine⟨_,rfl,?_,?_,?_,?_⟩
    ·unfold cell?;rw[aG];rfl
    ·unfold cell?;rw[aG];rfl
    ·have be:Agree (λi=>w.heap.size+3<=i) wr ((wr.setCell ⟨w.heap.size+1,0,none⟩ (slice g a.length m)).setCell ⟨w.heap.size+1,1,none⟩ (bool o)):=⟨rfl,rfl,by simp[World.setCell],λi _ bf=>aH i (by omega)⟩
     exact(aE.go be).mono (λi _ bf=>by omega)
    ·exact(P.trans ⟨x.os,x.output,x.size,λk bt _=>x.block k (by omega) (by omega)⟩).trans ⟨rfl,rfl,by simp[World.setCell],λk an _=>aH k (by omega)⟩
   clear R B x E aE;go_wp2;rw[<-ba];refine gJ (v:=agg #[slice g a.length m,bool o]) (by simp[results,results204,go_sem,bb,bc]) rfl ?_;exact⟨_,rfl,by rw[<-a9.out];exact aF.1,aF.2⟩
section
variable (s:ByteArray) (p:Nat)
theorem vS {s t:ByteArray}{i:Nat}(a:zM s i t=true):i+t.size<=s.size:=by
 unfold zM at a;rw[Bool.and_eq_true] at a;exact of_decide_eq_true a.1
theorem zCm {s:ByteArray}{i:Nat}(b:byt s i≠0):i<s.size:=by
 rcases Nat.lt_or_ge i s.size with a|a
 ·exact a
 ·exact absurd (zLT s i a) b
theorem zMN:jU 0<0:=by decide
theorem zLO (i most:Nat)(d:0<yU s i most):i+yU s i most<=s.size:=by
 obtain⟨k,f⟩:∃k,yU s i most=k+1:=⟨yU s i most-1,by omega⟩
 have g:=zE9 s i most;have b:¬jU (byt s (i+k))<0:=by
  have c:k<(List.range most).findIdx λj=>decide (jU (byt s (i+j))<0):=by
   show k<yU s i most;omega
  have a:=List.not_of_lt_findIdx c;rw[List.getElem_range] at a;exact of_decide_eq_false a
 have l:=zCm (λe=>b (by rw[e];exact zMN));omega
theorem zLM (p k:Nat)(a:k<=6):zA7 s p k<=16777216:=Nat.le_of_lt (lZ (zLL s p k) (kG (by omega) (by omega:k<=6)))
theorem zPp:(zIg s p).at_<=p+2/\((zIg s p).ok=true->p<(zIg s p).at_/\(zIg s p).at_<=s.size)/\0<=(zIg s p).num/\(zIg s p).num<=16777216:=by
 have a:=zE9 s p 2;have b:=zLO s p 2;have c:=zLM s p (yU s p 2) (by omega);unfold zIg;refine⟨by show p+yU s p 2<=p+2;omega,λe=>?_,by show(0:Int)<=(zA7 s p (yU s p 2):Nat);omega,by show((zA7 s p (yU s p 2):Nat):Int)<=16777216;omega⟩;have d:yU s p 2=2:=by simpa using e
 show p<p+yU s p 2/\p+yU s p 2<=s.size;omega
theorem zOT:(zHG s p).at_<=p+7/\((zHG s p).ok=true->p<(zHG s p).at_/\(zHG s p).at_<=s.size)/\0<=(zHG s p).num/\(zHG s p).num<=16777216:=by
 have c:=zE9 s p 6;have d:=zLO s p 6;have f:=zLM s p (yU s p 6) c;unfold zHG;refine⟨?_,λe=>?_,by show(0:Int)<=(zA7 s p (yU s p 6):Nat);omega,by show((zA7 s p (yU s p 6):Nat):Int)<=16777216;omega⟩
 ·show(if zM s (p+yU s p 6) ⟨#[125]⟩ then p+yU s p 6+1 else p+yU s p 6)<=p+7
  split <;> omega
 ·have a:zM s (p+yU s p 6) ⟨#[125]⟩=true:=by
   have b:=e;rw[Bool.and_eq_true,Bool.and_eq_true] at b;exact b.1.1
  show p<(if zM s (p+yU s p 6) ⟨#[125]⟩ then p+yU s p 6+1 else p+yU s p 6)/\(if zM s (p+yU s p 6) ⟨#[125]⟩ then p+yU s p 6+1 else p+yU s p 6)<=s.size;rw[if_pos a];have:=vS a;have g:(⟨#[125]⟩:ByteArray).size=1:=rfl;omega
theorem zLP:(zA4 s p).at_<=p+10/\((zA4 s p).ok=true->p<(zA4 s p).at_/\(zA4 s p).at_<=s.size)/\0<=(zA4 s p).num/\(zA4 s p).num<=16777216:=by
 unfold zA4;split
 ·rename_i f
  have:=vS f;have j:(⟨#[110]⟩:ByteArray).size=1:=rfl;exact⟨by show p+1<=_;omega,λ_=>⟨by show p<p+1;omega,by show p+1<=_;omega⟩,by show(0:Int)<=10;omega,by show(10:Int)<=16777216;omega⟩
 split
 ·rename_i f
  have:=vS f;have j:(⟨#[116]⟩:ByteArray).size=1:=rfl;exact⟨by show p+1<=_;omega,λ_=>⟨by show p<p+1;omega,by show p+1<=_;omega⟩,by show(0:Int)<=9;omega,by show(9:Int)<=16777216;omega⟩
 split
 ·have ⟨a,b,c,g⟩:=zPp s (p+1)
  exact⟨by omega,λe=>by have:=b e;omega,c,g⟩
 split
 ·have ⟨a,b,c,g⟩:=zOT s (p+2)
  exact⟨by omega,λe=>by have:=b e;omega,c,g⟩
 have l:=zAK s p;split
 ·exact⟨by show p<=_;omega,λe=>(by cases e),by show(0:Int)<=0;omega,by show(0:Int)<=16777216;omega⟩
 ·rename_i f
  have k:byt s p≠0:=λe=>f (by rw[e];decide);have:=zCm k;refine⟨by show p+1<=_;omega,λ_=>⟨by show p<p+1;omega,by show p+1<=_;omega⟩,?_,?_⟩
  ·show(0:Int)<=(byt s p:Nat);omega
  ·show((byt s p:Nat):Int)<=16777216;omega
theorem zFv:(xO s p).at_<=p+11/\((xO s p).ok=true->p<(xO s p).at_/\(xO s p).at_<=s.size)/\0<=(xO s p).num/\(xO s p).num<=16777216:=by
 unfold xO;split
 ·have ⟨a,b,c,f⟩:=zLP s (p+1)
  exact⟨by omega,λe=>by have:=b e;omega,c,f⟩
 have k:=zAK s p;split
 ·exact⟨by show p<=_;omega,λe=>(by cases e),by show(0:Int)<=0;omega,by show(0:Int)<=16777216;omega⟩
 ·rename_i g
  have j:byt s p≠0:=λe=>g (by rw[e];decide);have:=zCm j;refine⟨by show p+1<=_;omega,λ_=>⟨by show p<p+1;omega,by show p+1<=_;omega⟩,?_,?_⟩
  ·show(0:Int)<=(byt s p:Nat);omega
  ·show((byt s p:Nat):Int)<=16777216;omega
theorem zLC:(yT s p).at_<=p+30/\((yT s p).ok=true->p<(yT s p).at_/\(yT s p).at_<=s.size)/\0<=(yT s p).low/\(yT s p).low<=16777216/\0<=(yT s p).high/\(yT s p).high<=16777216:=by
 have ⟨a,b,c,f⟩:=zFv s p;unfold yT;split
 ·rename_i g
  rw[Bool.and_eq_true] at g;have ⟨l,b2,c2,k⟩:=zFv s ((xO s p).at_+1);have m:=b g.1;refine⟨?_,λe=>?_,c,f,c2,k⟩
  ·show(xO s ((xO s p).at_+1)).at_<=p+30
   omega
  ·have j:((xO s ((xO s p).at_+1)).ok&&decide ((xO s p).num<=(xO s ((xO s p).at_+1)).num))=true:=e
   rw[Bool.and_eq_true] at j;have:=b2 j.1;show p<(xO s ((xO s p).at_+1)).at_/\(xO s ((xO s p).at_+1)).at_<=s.size;omega
 ·exact⟨by show(xO s p).at_<=p+30;omega,b,c,f,c,f⟩
def zBh (s:ByteArray):Nat->Nat->List (Int×Int)->Option (List (Int×Int)×Nat)
 |0,_,_=>none
 |f+1,p,l=>if(yT s p).ok then(if zM s (yT s p).at_ ⟨#[93]⟩ then some (l++[((yT s p).low,(yT s p).high)],(yT s p).at_+1) else zBh s f (yT s p).at_ (l++[((yT s p).low,(yT s p).high)])) else none
def zCl (s:ByteArray)(p:Nat):Option (Cs×Nat):=(zBh s (s.size+1) (if zM s (p+1) ⟨#[94]⟩ then p+2 else p+1) []).map λg=>(⟨g.1,zM s (p+1) ⟨#[94]⟩⟩,g.2)
def zAL (w:World)(b:Nat)(s:ByteArray)(dv:Value)(r:Rx)(a:Option (Cs×Nat))(e:Ending)(w':World):Prop:=
 Keep w.heap.size b w w'/\match a with
 |none=>∃v n c o q,e=returned (tuple #[agg #[slice v n c,bool o],bool false])/\RxAt w' b s dv {r with at_:=q}
 |some (c,q)=>∃u,e=returned (tuple #[agg #[u,bool c.others],bool true])/\RangesIn (λi=>w.heap.size<=i) w' u c.ranges/\RxAt w' b s dv {r with at_:=q}
end
theorem zHI (s t:ByteArray)(r:Rx):r.take s t={r with at_:=if zM s r.at_ t then r.at_+t.size else r.at_}:=by
 cases a:zM s r.at_ t with
 |true=>rw[zIF a];rfl
 |false=>rw[zLn a];rfl
structure Cw (w w':World)(b:Nat)(s:ByteArray)(dv:Value)(r:Rx)(pos:Nat)(L:List (Int×Int))(o:Bool):Prop where
 set:zQz w' (w.heap.size+2) (w.heap.size+1) L o
 box:w'.heap[w.heap.size]? =some (.cells #[slice none 0 0,bool false] 161)
 rx:RxAt w' b s dv {r with at_:=pos}
 keep:Keep w.heap.size b w w'
theorem jF (w w2:World)(b:Nat)(s:ByteArray)(dv:Value)(r:Rx)(x y u:Value)(o:Bool)(q:b<w.heap.size)(f:w2.heap[w.heap.size]? =some (.cells #[x,y] 161))(g:RxAt w2 b s dv r)(j:Keep w.heap.size b w w2):
  ∃a,a=(w2.setCell ⟨w.heap.size,0,none⟩ u).setCell ⟨w.heap.size,1,none⟩ (bool o)/\a.cell? ⟨w.heap.size,0,none⟩=some u/\a.cell? ⟨w.heap.size,1,none⟩=some (bool o)/\Hid (RxAt a b s dv r/\Keep w.heap.size b w a/\∀l,RangesIn (λi=>w.heap.size<i) w2 u l->RangesIn (λi=>w.heap.size<=i) a u l):=by
 have e:((w2.setCell ⟨w.heap.size,0,none⟩ u).setCell ⟨w.heap.size,1,none⟩ (bool o)).heap[w.heap.size]? =some (.cells #[u,bool o] 161):=by
  simp[setCell,lU,f]
 have c:∀i,i≠w.heap.size->((w2.setCell ⟨w.heap.size,0,none⟩ u).setCell ⟨w.heap.size,1,none⟩ (bool o)).heap[i]? =w2.heap[i]? :=λi m=>by
  simp[setCell,lU,Ne.symm m]
 refine⟨_,rfl,?_,?_,RxAt.of_block g (c b (by omega)),j.trans ⟨rfl,rfl,by simp[World.setCell],λk t _=>c k (by omega)⟩,λl p=>RangesIn.mono (X:=λi=>w.heap.size<i) (p.go ⟨rfl,rfl,by simp[World.setCell],λi _ d=>c i (Nat.ne_of_gt d)⟩) (λi _ d=>Nat.le_of_lt d)⟩
 ·unfold cell?;rw[e];rfl
 ·unfold cell?;rw[e];rfl
theorem zJJ (w:World)(b:Nat)(s:ByteArray)(dv:Value)(r:Rx)(d:RxAt w b s dv r):
  ∃a,a=(((w.alloc (.cells #[nX,bool false] 161)).setCell ⟨b,2,none⟩ (iX ((r.at_:Int)+1))).alloc (.cells #[nX,bool false] 161))/\Cw w a b s dv r (r.at_+1) [] false/\w.heap.size+2<=a.heap.size/\a.heap[w.heap.size+1]? =some (.cells #[nX,bool false] 161):=by
 have f:=d.lt;have s1:(w.alloc (.cells #[nX,fX] 161)).heap.size=w.heap.size+1:=by simp
 have g:=gY w (.cells #[nX,fX] 161);have j:RxAt (w.alloc (.cells #[nX,fX] 161)) b s dv r:=RxAt.of_block d (lG _ _ _ f);have e:=j.setAt (r.at_+1);rw[show ((r.at_+1:Nat):Int)=(r.at_:Int)+1 by omega] at e;have k:Keep w.heap.size b w (w.alloc (.cells #[nX,fX] 161)):=kZ _ _ lQ;generalize (w.alloc (.cells #[nX,fX] 161))=w1 at *;have b2:(w1.setCell ⟨b,2,none⟩ (iX ((r.at_:Int)+1))).heap[w.heap.size]? =some (.cells #[nX,fX] 161):=(lJ _ _ _ _ (by show w.heap.size≠b;omega)).trans g;have s2:(w1.setCell ⟨b,2,none⟩ (iX ((r.at_:Int)+1))).heap.size=w.heap.size+1:=by rw[zD];exact s1
 have l:Keep w.heap.size b w (w1.setCell ⟨b,2,none⟩ (iX ((r.at_:Int)+1))):=k.trans (Keep.set _ _ _);generalize (w1.setCell ⟨b,2,none⟩ (iX ((r.at_:Int)+1)))=w2 at *;have c:=gY w2 (.cells #[nX,fX] 161);rw[s2] at c;refine⟨_,rfl,⟨⟨nX,c,ownsRow_nil _ _ _ _,by omega,by simp;omega⟩,(lG _ _ _ (by omega)).trans b2,RxAt.of_block e (lG _ _ _ (by omega)),l.trans (kZ _ _ (by omega))⟩,by simp;omega,c⟩
theorem zEQ (w:World)(b:Nat)(s:ByteArray)(dv:Value)(r:Rx)(ae:RxAt w b s dv r)(af:s.size<=1048576)(ag:r.at_<s.size):
  Calls prog 208 #[pX b] w (zAL w b s dv r (zCl s r.at_)):=by
 have ah:=ae.lt;have ⟨bm,bn,bo,bp,bq⟩:=info_parts zEh;have ⟨V,aI,ar,br,aJ⟩:=zJJ w b s dv r ae;have aK:=vl aJ;obtain⟨o,au⟩:∃o,o=zM s (r.at_+1) ⟨#[94]⟩:=⟨_,rfl⟩
 obtain⟨K,ai⟩:∃K,K=(if zM s (r.at_+1) ⟨#[94]⟩ then r.at_+2 else r.at_+1):=⟨_,rfl⟩
 have bs:K<=s.size:=by
  rw[ai];split
  ·rename_i e
   have:=vS e;have bR:(⟨#[94]⟩:ByteArray).size=1:=rfl;omega
  ·omega
 obtain⟨W,av⟩:∃W,W=zBh s (s.size+1) K []:=⟨_,rfl⟩
 have aL:Hid (zCl s r.at_=W.map λg=>(⟨g.1,o⟩,g.2)):=by
  show _=_;unfold zCl;rw[av,au,ai]
 have aM:Hid (Ca 189 #[pX b,string ⟨#[94]⟩] V λe w'=>e=returned (bool o)/\RxAt w' b s dv {r with at_:=K}/\∀H,Keep H b V w'):=by
  have:=zAc V b s dv {r with at_:=r.at_+1} ar.rx af (by show r.at_+1<=_;omega) ⟨#[94]⟩ (by decide);rw[zHI] at this;rw[ai,au];exact this
 have bt:=vl av;have aw:=vl ar;obtain⟨-,-,c2,-,-,aN⟩:=ae.cells;have aO:=aN 2;rw[aL.out];clear ai au av aN aL ae ar aJ;have E:=vl ah;have bu:(w.alloc (.cells #[nX,fX] 161)).cell? ⟨b,2,none⟩=some (iX (r.at_:Int)):=(gU _ _ _ ah).trans c2;have bv:(w.alloc (.cells #[nX,fX] 161)).frozen? ⟨b,2,none⟩=false:=(frozen?_alloc_past _ _ _ ah).trans aO;clear ah c2 aO;go_in;apply wp_cut;intro ax u;go_wp2;apply u.out;clear u;apply wp_cut;intro ax u;go_wp2;apply u.out;clear u;apply wp_cut;intro ax u;go_wp2;apply u.out;clear u;rw[<-aI];clear aI;apply wp_cut;intro ax u;go_wp2_with (go_at_call 189;refine aM.mono ?_;rintro e aj ⟨rfl,aP,ak⟩;have al:aj.heap[w.heap.size+1]? =some (.cells #[nX,fX] 161):=((ak V.heap.size).block _ (by omega) (by have:=E.out;omega)).trans aK;have bw:aj.cell? ⟨w.heap.size+1,1,none⟩=some fX:=(by unfold cell?;rw[al];rfl);have bx:aj.frozen? ⟨w.heap.size+1,1,none⟩=false:=(by unfold frozen?;rw[al];rfl);have aQ:=vl al;clear al)
 apply u.out;clear u;obtain⟨ay,aR,bz⟩:∃ay,ay=aj.setCell ⟨w.heap.size+1,1,none⟩ (bool o)/\Hid (Cw w ay b s dv r K [] o):=by
  have M:=E.out;have aS:=ak V.heap.size;have bA:=aQ.out;refine⟨_,rfl,⟨⟨nX,⟨by simp[setCell,lU,bA],ownsRow_nil _ _ _ _,by omega,by rw[zD];have:=aS.size;omega⟩⟩,(lJ _ _ _ _ (by show w.heap.size≠w.heap.size+1;omega)).trans ((aS.block _ (by omega) (by omega)).trans aw.box),RxAt.of_block aP (lJ _ _ _ _ (by show b≠w.heap.size+1;omega)),aw.keep.trans ((ak _).trans ⟨rfl,rfl,by rw[zD];omega,λk aT _=>lJ _ _ _ _ (by show k≠w.heap.size+1;omega)⟩)⟩⟩
 rw[<-aR];clear aR aP ak bx bw aw aM br bu bv aK aQ;refine wp_block ?_;go_loopg [6] (s.size+1) (λq v wr=>∃f c a,q=f/\c<=s.size/\s.size+1-c<=f/\zBh s f c a=W/\Cw w wr b s dv r c a o/\a.length<=c)
 case atStart=>exact⟨s.size+1,K,[],rfl,bs,by omega,bt.symm,bz,lX⟩
 case round=>
  obtain⟨f,c,a,aU,bS,bT,aV,am,bU⟩:=hrel;cases f with
  |zero=>omega
  |succ f=>
  have ⟨m1,m2,bB,bC,bD,bE⟩:=zLC s c;have aW:=vl <| zH4 wr b s dv {r with at_:=c} am.rx af (by show c<=_;omega) (by show(xO s c).at_<=_;have:=(zFv s c).1;omega);have aX:(if (yT s c).ok then(if zM s (yT s c).at_ ⟨#[93]⟩ then some (a++[((yT s c).low,(yT s c).high)],(yT s c).at_+1) else zBh s f (yT s c).at_ (a++[((yT s c).low,(yT s c).high)])) else none)=W:=aV;clear aV;have ⟨sv,az⟩:=am.set;have ⟨P,R,bF⟩:=zF az.own;subst bF;have X:Hid (Cw w wr b s dv r c a o/\Rw wr (w.heap.size+2) (w.heap.size+1) (slice P a.length R) a o/\gk=f+1):=⟨am,az,aU⟩
  clear am az aU;generalize yT s c=m at *;obtain⟨B,x,ok,j⟩:=m;have bV:j<=c+30:=m1;have aY:=vl m2;have an:=vl aX;have aZ:=vl aW;clear m1 m2 bB bC bD bE aX aW;have a0:w.heap.size+2<=wr.heap.size:=X.2.1.lt;refine wp_block ?_;apply wp_cut;intro a1 F;go_wp2_with (go_at_call 215;refine aZ.mono ?_;rintro e I ⟨rfl,a2,ao⟩)
  apply F.out;clear F aZ;obtain⟨d,a3,N,aA,S,a4,ap,a5⟩:∃d,d=I.alloc (.cells #[iX B,iX x] 255)/\Rw d (w.heap.size+2) (w.heap.size+1) (slice P a.length R) a o/\Hid (d.heap[I.heap.size]? =some (.cells #[iX B,iX x] 255))/\Hid (Keep wr.heap.size b wr d)/\I.heap.size+1<=d.heap.size/\RxAt d b s dv {r with at_:=j}/\wr.heap.size<=I.heap.size:=by
   have M:=E.out;have a6:=ao.size;have bG:Rw I (w.heap.size+2) (w.heap.size+1) (slice P a.length R) a o:=X.2.1.keep ao (.inl (by omega)) (by omega);refine⟨_,rfl,bG.keep (kZ (b:=I.heap.size) _ _ lQ) (.inr rfl) (by omega),gY _ _,ao.trans (kZ _ _ a6),by simp,RxAt.of_block a2 (lG _ _ _ (by omega)),a6⟩
  rw[<-a3];clear a3 a2 ao;have M:=E.out;have a7:d.heap[w.heap.size]? =some (.cells #[nX,fX] 161):=(S.block _ (by omega) (by omega)).trans X.1.box;have C:Hid (d.heap[w.heap.size]? =some (.cells #[nX,fX] 161)/\Keep w.heap.size b w d):=⟨a7,X.1.keep.trans ⟨S.os,S.output,S.size,λk aT bH=>S.block k (by omega) bH⟩⟩
  clear a7 M;cases ok with
  |false=>
   have a8:=vl an.symm;have ⟨y,Y,aa,ab,z⟩:=jF w d b s dv {r with at_:=j} _ _ nX false E C.1 ap C.2;have bI:d.cell? ⟨w.heap.size,0,none⟩=some nX:=by unfold cell?;rw[C.out.1];rfl
   have bJ:d.cell? ⟨w.heap.size,1,none⟩=some fX:=by unfold cell?;rw[C.out.1];rfl
   have bK:d.frozen? ⟨w.heap.size,0,none⟩=false:=by unfold frozen?;rw[C.out.1];rfl
   have bL:d.frozen? ⟨w.heap.size,1,none⟩=false:=by unfold frozen?;rw[C.out.1];rfl
   rw[a8.out];clear ap N a4 a5 a0 an a8;go_wp2;rw[<-Y];refine gJ (v:=tuple #[agg #[nX,fX],fX]) (by simp[results,results208,go_sem,aa,ab]) rfl ?_;exact⟨z.2.1,none,0,0,false,j,rfl,z.1⟩
  |true=>
   have bM:=aY rfl;have T:=vl an;clear an aY;apply wp_cut;intro a1 F;go_wp2;apply F.out;clear F;obtain⟨a9,-,ba⟩:=N.cells;have bb:=ba 0;have bc:d.ownsRow (w.heap.size+2) 255 2 (slice P a.length R) a.length (qK a):=N.own;have aB:w.heap.size+1<d.heap.size:=by omega
   have bd:=vl <| zO N.own N.blk (by decide);have c0:d.cell? ⟨I.heap.size,0,none⟩=some (iX B):=by unfold cell?;rw[aA.out];rfl
   have c1:d.cell? ⟨I.heap.size,1,none⟩=some (iX x):=by unfold cell?;rw[aA.out];rfl
   have aC:=vl N;have be:=vl ap;clear ba N ap;apply wp_cut;intro a1 F;go_wp2_with (at_builtin;refine wpList_append_lies _ rfl _ _ 159 rfl (w.heap.size+2) 255 bm (agg #[zX,zX]) 2 16 underlying159 bn bo bp bq rfl (by decide) _ _ _ rfl (bc.alloc _) ⟨d.heap.size,0,none⟩ 1 1 [iX B,iX x] rfl rfl (news_of_block (cs:=#[iX B,iX x]) (t:=255) (fr:=(0,0)) (gY d _)) (by simp[Value.oneCell']) (by decide) (by unfold maxLen;omega) (by omega) (by simp;omega) _ rfl ?_;intro A cap w2 bf aD bg bN;have aE:=aD.block (w.heap.size+1) (by simp;omega) bd;have bO:w2.cell? ⟨w.heap.size+1,0,none⟩=some (slice P a.length R):=(gW aE).trans ((gU _ _ _ aB).trans a9);have bP:w2.frozen? ⟨w.heap.size+1,0,none⟩=false:=(gV aE).trans ((frozen?_alloc_past _ _ _ aB).trans bb))
   apply F.out;clear F;obtain⟨p,bh,ac⟩:∃p,p=w2.setCell ⟨w.heap.size+1,0,none⟩ (slice (qX A) (a.length+1) cap)/\Hid (Rw p (w.heap.size+2) (w.heap.size+1) (slice (qX A) (a.length+1) cap) (a++[(B,x)]) o/\KeepO (w.heap.size+1) (slice P a.length R) (slice (qX A) (a.length+1) cap) d p):=⟨_,rfl,aC.app rfl bf aD (by rcases bg with ag|ag;exact .inl ag;right;rw[ag];simp)⟩
   rw[<-bh];clear bh bf aD bg bN aE bO bP bc bd aB c0 c1 a9 bb;have O:=vl <| ac.2.keep aC.own aC.lt;have J:Hid (RxAt p b s dv {r with at_:=j}/\p.heap[w.heap.size]? =some (.cells #[nX,fX] 161)/\Keep w.heap.size b w p/\w.heap.size+2<=p.heap.size):=by
    have M:=E.out;refine⟨RxAt.of_block be (O.block b (by omega) (by omega)),(O.block _ (by omega) (by omega)).trans C.1,C.2.trans ⟨O.os,O.output,O.size,λk aT _=>O.block k (by omega) (by omega)⟩,ac.1.lt⟩
   clear be C S aA a4 a5 a0;cases U:zM s j ⟨#[93]⟩ with
   |true=>
    rw[U] at T;have aq:=vl T.symm;have aF:Hid (Ca 189 #[pX b,string ⟨#[93]⟩] p λe w'=>e=returned tX/\RxAt w' b s dv {r with at_:=j+1}/\∀H,Keep H b p w'):=by
     have:=zAc p b s dv {r with at_:=j} J.1 af (by show j<=_;omega) ⟨#[93]⟩ (by decide);rw[zHI] at this;have aG:zM s ({r with at_:=j}:Rx).at_ ⟨#[93]⟩=true:=U;rw[aG] at this;exact this
    rw[aq.out];clear U T aq;have bi:=J.2.2.2;have bQ:Hid (∀l,(∀H,Keep H b p l)->RxAt l b s dv {r with at_:=j+1}->l.cell? ⟨w.heap.size+1,0,none⟩=some (slice (qX A) (a.length+1) cap)/\l.cell? ⟨w.heap.size+1,1,none⟩=some (bool o)/\l.cell? ⟨w.heap.size,0,none⟩=some nX/\l.cell? ⟨w.heap.size,1,none⟩=some fX/\l.frozen? ⟨w.heap.size,0,none⟩=false/\l.frozen? ⟨w.heap.size,1,none⟩=false/\∃y,y=(l.setCell ⟨w.heap.size,0,none⟩ (slice (qX A) (a.length+1) cap)).setCell ⟨w.heap.size,1,none⟩ (bool o)/\y.cell? ⟨w.heap.size,0,none⟩=some (slice (qX A) (a.length+1) cap)/\y.cell? ⟨w.heap.size,1,none⟩=some (bool o)/\Hid (RxAt y b s dv {r with at_:=j+1}/\Keep w.heap.size b w y/\RangesIn (λi=>w.heap.size<=i) y (slice (qX A) (a.length+1) cap) (a++[(B,x)]))):=λl D ad=>by
     have M:=E.out;have aH:l.heap[w.heap.size]? =some (.cells #[nX,fX] 161):=((D (w.heap.size+1)).block _ (by omega) (by omega)).trans J.2.1;have bj:Rw l (w.heap.size+2) (w.heap.size+1) (slice (qX A) (a.length+1) cap) (a++[(B,x)]) o:=ac.1.keep (D _) (.inl (by omega)) (by omega);obtain⟨bk,bl,-⟩:=bj.cells;have ⟨y,Y,aa,ab,z⟩:=jF w l b s dv {r with at_:=j+1} _ _ (slice (qX A) (a.length+1) cap) o M aH ad (J.2.2.1.trans (D _));refine⟨bk,bl,?_,?_,?_,?_,y,Y,aa,ab,z.1,z.2.1,z.2.2 _ (bj.in.mono λi _ x=>by omega)⟩
     all_goals first|(unfold cell?;rw[aH];rfl)|(unfold frozen?;rw[aH];rfl)
    clear bi ac O;go_wp2_with (go_at_call 189;refine aF.mono ?_;rintro e l ⟨rfl,ad,D⟩;have ⟨bk,bl,bI,bJ,bK,bL,y,Y,aa,ab,z⟩:=bQ l D ad)
    rw[<-Y];refine gJ (v:=tuple #[agg #[slice (qX A) (a.length+1) cap,bool o],tX]) (by simp[results,results208,go_sem,aa,ab]) rfl ?_;exact⟨z.2.1,_,rfl,z.2.2,z.1⟩
   |false=>
    rw[U] at T;have aq:=vl T;have aF:Hid (Ca 189 #[pX b,string ⟨#[93]⟩] p λe w'=>e=returned fX/\RxAt w' b s dv {r with at_:=j}/\∀H,Keep H b p w'):=by
     have:=zAc p b s dv {r with at_:=j} J.1 af (by show j<=_;omega) ⟨#[93]⟩ (by decide);rw[zHI] at this;have aG:zM s ({r with at_:=j}:Rx).at_ ⟨#[93]⟩=false:=U;rw[aG] at this;exact this
    clear U T;go_wp2_with (go_at_call 189;refine aF.mono ?_;rintro e l ⟨rfl,ad,D⟩)
    have M:=E.out;have bi:=J.2.2.2;go_roundg f
    case measure=>rw[X.out.2.2];omega
    case rel=>exact⟨f,j,a++[(B,x)],rfl,bM.2,by omega,aq,⟨⟨_,ac.1.keep (D _) (.inl (by omega)) (by omega)⟩,((D (w.heap.size+1)).block _ (by omega) (by omega)).trans J.2.1,ad,J.2.2.1.trans (D _)⟩,by simp;omega⟩
section
theorem TreeAt.deeper {w:World}:∀d b t,TreeAt w d b t->TreeAt w (d+1) b t
 |0,_,_,a=>False.elim a
 |d+1,b,t,a=>by
  obtain⟨c,rv,f,j,k,ao,cap,l,m,q,r⟩:=a;refine⟨c,rv,f,j,k,ao,cap,l,m,q,λi s=>?_⟩;have ⟨g,o,p,v,x,y,z⟩:=r i s;exact⟨g,o,p,v,x,y,TreeAt.deeper d p _ z⟩
theorem TreeAt.deep {w:World}{d e b:Nat}{t:Tr}(a:TreeAt w d b t)(c:d<=e):TreeAt w e b t:=by
 induction c with
 |refl=>exact a
 |step _ f=>exact TreeAt.deeper _ _ _ f
def TreeIn (X:Nat->Prop)(w:World)(d b:Nat)(t:Tr):Prop:=∀w2,Agree X w w2->TreeAt w2 d b t
section
variable {X Y:Nat->Prop} {w w2:World} {d e b:Nat} {t:Tr}
theorem TreeIn.at (a:TreeIn X w d b t):TreeAt w d b t:=a w (Agree.refl X w)
theorem TreeIn.go (c:TreeIn X w d b t)(a:Agree X w w2):TreeIn X w2 d b t:=λf g=>c f (a.trans g)
theorem TreeIn.mono (a:TreeIn X w d b t)(c:∀i,i<w.heap.size->X i->Y i):TreeIn Y w d b t:=λf g=>a f (g.mono c)
theorem TreeIn.deep (a:TreeIn X w d b t)(c:d<=e):TreeIn X w e b t:=λf g=>(a f g).deep c
theorem TreeIn.step (j:TreeIn X w d b t)(a:Agree X w w2)(k:∀i,i<w.heap.size->X i->Y i):TreeIn Y w2 d b t:=λl c=>j l ⟨c.os.trans a.os,c.output.trans a.output,lY a.size c.size,λi f g=>(c.block i (lZ f a.size) (k i f g)).trans (a.block i f g)⟩
theorem zLz {rv:Value}{ao:Option Addr}{cap:Nat}(c:w.heap[b]? =some (.cells #[iX (t.kind:Int),rv,bool t.set.others,slice ao t.parts.length cap,iX (t.least:Int),iX (t.most:Int),bool t.endless,iX (t.chars:Int)] 165))(j:X b)(k:RangesIn X w rv t.set.ranges)
  (l:t.parts.length<=cap/\t.parts.length<=1000000000000/\t.least<=1000/\t.most<=1000) (m:cap<=maxLen) (q:∀i,i<t.parts.length->∃g o p,ao=some ⟨g,o,none⟩/\In w g/\X g/\w.cell? ⟨g,o+i,none⟩=some (pX p)/\TreeIn X w d p (t.parts.getD i Tr.none)):TreeIn X w (d+1) b t:=λw2 a=>by
 have f:=(kQ.1 c).1;refine⟨lZ f a.size,rv,_,(a.block b f j).trans c,k w2 a,ao,cap,rfl,l,m,λi r=>?_⟩;have ⟨g,o,p,s,h,v,x,y⟩:=q i r;exact⟨g,o,p,s,lZ h a.size,(gW (a.block g h v)).trans x,y w2 a⟩
theorem zH8 {rv:Value}{t:Tr}(c:w.heap[b]? =some (.cells #[iX (t.kind:Int),rv,bool t.set.others,nX,iX (t.least:Int),iX (t.most:Int),bool t.endless,iX (t.chars:Int)] 165))(f:X b)(g:RangesIn X w rv t.set.ranges)(h:t.parts=[])(a:t.least<=1000/\t.most<=1000):TreeIn X w (d+1) b t:=by
 have e:t.parts.length=0:=by rw[h];rfl
 refine zLz (ao:=none) (cap:=0) (by rw[e];exact c) f g ⟨by omega,by omega,a.1,a.2⟩ (by unfold maxLen;omega) λi j=>by omega
theorem zJD (a:w.heap[b]? =some (.cells #[zX,nX,bool false,nX,zX,zX,bool false,zX] 165))(c:X b):TreeIn X w (d+1) b Tr.none:=zH8 (t:=Tr.none) a c (zKD X w) rfl ⟨by decide,by decide⟩
end
def zH2 (c:Cs):Tr:=⟨1,c,[],0,0,false,1⟩
def Tr.add (t u:Tr):Tr:={t with parts:=t.parts++[u],chars:=xT (t.chars+u.chars)}
def Tr.plain (t:Tr):Tr:=if t.chars=0 then Tr.none else t
def yI (ps:List Nat):List Value:=ps.map λp=>pointer (some ⟨p,0,none⟩)
structure Tw (w:World)(Y:Nat->Prop)(H p d:Nat)(sv:Value)(ps:List Nat)(t:Tr):Prop where
 blk:w.heap[p]? =some (.cells #[int i64 (t.kind:Int),slice none 0 0,bool false,sv,int i64 (t.least:Int),int i64 (t.most:Int),bool t.endless,int i64 (t.chars:Int)] 165)
 set:t.set=⟨[],false⟩
 own:w.ownsRow H 158 1 sv t.parts.length (yI ps)
 len:ps.length=t.parts.length
 parts:∀i,i<t.parts.length->TreeIn (λj=>Y j/\j≠p/\some j≠sv.ownBlock) w d (ps.getD i 0) (t.parts.getD i Tr.none)
 pH:p<H
 lt:H<=w.heap.size
 small:t.parts.length<=10000000/\t.least<=1000/\t.most<=1000/\t.chars<=25
section
variable {w w2:World} {Y:Nat->Prop} {H p d e b:Nat} {sv:Value} {ps:List Nat} {t u:Tr}
theorem Tw.cells (a:Tw w Y H p d sv ps t):w.cell? ⟨p,3,none⟩=some sv/\w.cell? ⟨p,7,none⟩=some (iX (t.chars:Int))/\∀i,w.frozen? ⟨p,i,none⟩=false:=by
 refine⟨?_,?_,λi=>?_⟩
 all_goals first|(unfold cell?;rw[a.blk];rfl)|(unfold frozen?;rw[a.blk];simp)
theorem Tw.deep (a:Tw w Y H p d sv ps t)(c:d<=e):Tw w Y H p e sv ps t:=⟨a.blk,a.set,a.own,a.len,λi f=>(a.parts i f).deep c,a.pH,a.lt,a.small⟩
theorem Tw.keep (a:Tw w Y H p d sv ps t)(c:Keep w.heap.size b w w2)(v:b<H\/b=w.heap.size)(f:b≠p)(k:b<w.heap.size->¬Y b):Tw w2 Y H p d sv ps t:=by
 have l:=a.pH;have m:=a.lt;refine⟨(c.block p (by omega) (Ne.symm f)).trans a.blk,a.set,zE a.own λg x o _=>c.block g o (by omega),a.len,λi q=>(a.parts i q).go (c.agree λj r s=>⟨r,λe=>k (by omega) (e ▸ s.1)⟩),l,lY m c.size,a.small⟩
theorem Tw.in (a:Tw w Y H p d sv ps t)(o:Y p)(A:∀j,H<=j->Y j):TreeIn Y w (d+1) p t:=by
 have ⟨ao,cap,B⟩:=zF a.own;subst B;have c:=a.blk;have q:t.set.ranges=[]:=by rw[a.set]
 have r:t.set.others=false:=by rw[a.set]
 obtain⟨K,s,v,-⟩:=a.small;rcases a.own.2 with⟨f,k⟩|⟨g,L,M,f,C,N,D,E,O,P⟩
 ·injection f with l F m
  subst l m;have G:=List.length_eq_zero_iff.1 k;refine zH8 (rv:=nX) (by rw[r,<-k];rw[k] at c ⊢;exact c) o (by rw[q];exact zKD Y w) G ⟨s,v⟩
 ·injection f with l F m
  subst l m;refine zLz (rv:=nX) (by rw[r];exact c) o (by rw[q];exact zKD Y w) ⟨D,by omega,s,v⟩ E λi x=>?_;have I:=a.own.lt g rfl;refine⟨g,0,ps.getD i 0,rfl,I.2,A g C,?_,(a.parts i x).mono λj _ J=>J.1⟩;have y:i<ps.length:=by rw[a.len];exact x
  have z:=a.own.cells (g:=g) rfl i (pointer (some ⟨ps.getD i 0,0,none⟩)) (by unfold yI;rw[gZ,lV y,lW,lV y];rfl);rw[Addr.add_lit] at z;exact z
theorem Tw.setChars (a:Tw w Y H p d sv ps t)(n:Nat)(f:n<=25):Tw (w.setCell ⟨p,7,none⟩ (iX (n:Int))) Y H p d sv ps {t with chars:=n}:=by
 have c:=a.pH;refine⟨?_,a.set,xB a.own c,a.len,λi g=>(a.parts i g).go ⟨rfl,rfl,by rw[zD];omega,λj l k=>lJ _ _ _ _ k.2.1⟩,c,by rw[zD];exact a.lt,⟨a.small.1,a.small.2.1,a.small.2.2.1,f⟩⟩;simp[setCell,lU,a.blk]
theorem Tw.app {F:Obj}{g cap m q:Nat}(f:Tw w Y H p d sv ps t)(G:m=t.parts.length)(R:m<10000000)(I:TreeIn (λj=>Y j/\j≠p/\some j≠sv.ownBlock) w d q u)(J:w2.ownsRow H 158 1 (slice (qX g) (m+1) cap) (m+1) (yI ps++[pX q]))(s:(w.alloc F).grownBy w2 sv.ownBlock)(K:sv.ownBlock=some g\/w.heap.size<=g):
  Tw (w2.setCell ⟨p,3,none⟩ (slice (qX g) (m+1) cap)) Y H p d (slice (qX g) (m+1) cap) (ps++[q]) {t with parts:=t.parts++[u]}/\KeepO p sv (slice (qX g) (m+1) cap) w (w2.setCell ⟨p,3,none⟩ (slice (qX g) (m+1) cap)):=by
 subst G;have y:=f.pH;have S:=f.lt;have L:∀j,j<H->w2.heap[j]? =w.heap[j]? :=λj T=>(s.block j (by simp;omega) λe=>by have:=(f.own.lt j e.symm).1;omega).trans (lG _ _ _ (by omega));have M:=(L p y).trans f.blk;have N:w.heap.size<=w2.heap.size:=lY (by simp) s.size;have r:KeepO p sv (slice (qX g) (t.parts.length+1) cap) w (w2.setCell ⟨p,3,none⟩ (slice (qX g) (t.parts.length+1) cap)):=⟨s.os,s.output,by rw[zD];exact N,λk O z C=>⟨(lJ _ _ _ _ z).trans ((s.block k (by simp;omega) C).trans (lG _ _ _ O)),λe=>by
  have l:k=g:=by simpa[Value.ownBlock] using e
  rcases K with D|D
  ·exact C (by rw[D,l])
  ·omega⟩⟩
 have E:∀q2 A,TreeIn (λj=>Y j/\j≠p/\some j≠sv.ownBlock) w d q2 A->TreeIn (λj=>Y j/\j≠p/\some j≠(Value.slice (qX g) (t.parts.length+1) cap).ownBlock) (w2.setCell ⟨p,3,none⟩ (slice (qX g) (t.parts.length+1) cap)) d q2 A:=λq2 A z=>z.step ⟨r.os,r.output,r.size,λi v o=>(r.block i v o.2.1 o.2.2).1⟩ λi v o=>⟨o.1,o.2.1,(r.block i v o.2.1 o.2.2).2⟩
 refine⟨⟨?_,f.set,?_,?_,λi v=>?_,y,by rw[zD];omega,?_⟩,r⟩
 ·simp[setCell,lU,M]
 ·have x:({t with parts:=t.parts++[u]}:Tr).parts.length=t.parts.length+1:=by simp
  have l:yI (ps++[q])=yI ps++[pX q]:=by simp[yI]
  rw[x,l];exact xB J y
 ·simp[f.len]
 ·have U:i<t.parts.length+1:=by simpa using v
  show TreeIn _ _ d ((ps++[q]).getD i 0) ((t.parts++[u]).getD i Tr.none);by_cases B:i<t.parts.length
  ·have x:(ps++[q]).getD i 0=ps.getD i 0:=by rw[lW,lW,kW (by rw[f.len];exact B)]
   have l:(t.parts++[u]).getD i Tr.none=t.parts.getD i Tr.none:=by rw[lW,lW,kW B]
   rw[x,l];exact E _ _ (f.parts i B)
  ·have e:i=t.parts.length:=by omega
   subst e;have x:(ps++[q]).getD t.parts.length 0=q:=by rw[<-f.len];simp
   have l:(t.parts++[u]).getD t.parts.length Tr.none=u:=by simp
   rw[x,l];exact E _ _ I
 ·have ⟨a,b,c,P⟩:=f.small
  refine⟨?_,b,c,P⟩;show(t.parts++[u]).length<=10000000;simp;omega
end
end
section
theorem zB7 (a:UInt8):(⟨#[a]⟩:ByteArray).size=1:=rfl
def jZ (s:ByteArray)(p:Nat):Option (Cs×Nat):=
 if byt s p=91 then zCl s p
 else if byt s p=92 then(if (zA4 s (p+1)).ok then some (zJi (zA4 s (p+1)).num,(zA4 s (p+1)).at_) else none)
 else if byt s p=46 then some (zQr,p+1)
 else if zA2 (byt s p) then some (zJi (byt s p:Nat),p+1) else none
structure Tm where
 least:Nat
 most:Nat
 endless:Bool
def Tm.copies (o:Tm):Nat:=if o.endless then(if o.least=0 then 1 else o.least) else o.most
def zBt (s:ByteArray)(p:Nat):Option (Tm×Nat):=
 if yN (byt s (p+1)) then
  if zM s (p+2) ⟨#[125]⟩ then some (⟨byt s (p+1)-48,byt s (p+1)-48,false⟩,p+3)
  else if zM s (p+2) ⟨#[44]⟩ then
   if zM s (p+3) ⟨#[125]⟩ then some (⟨byt s (p+1)-48,0,true⟩,p+4)
   else if yN (byt s (p+3))&&decide (byt s (p+1)<=byt s (p+3)) then(if zM s (p+4) ⟨#[125]⟩ then some (⟨byt s (p+1)-48,byt s (p+3)-48,false⟩,p+5) else none)
   else none
  else none
 else none
def zEj (s:ByteArray)(p:Nat):Option (Tm×Nat):=if zM s p ⟨#[42]⟩ then some (⟨0,0,true⟩,p+1) else if zM s p ⟨#[43]⟩ then some (⟨1,0,true⟩,p+1) else if zM s p ⟨#[63]⟩ then some (⟨0,1,false⟩,p+1) else zBt s p
def braced (n:ByteArray):ByteArray:=⟨#[123]⟩++n++⟨#[125]⟩
def zCX (s:ByteArray)(p:Nat):List (ByteArray×Tr)->Option (Tr×Nat)
 |[]=>none
 |d::ds=>if zM s p (braced d.1) then some (d.2,p+(braced d.1).size) else zCX s p ds
abbrev Reads:=Nat->Bool->Option (Tr×Nat)
def brM (s:ByteArray)(k:Nat)(sub:Reads)(p:Nat)(both:Bool):Option (Tr×Nat):=
 if k=0 then none else if zM s p ⟨#[40,41]⟩ then some (Tr.none,p+2) else
 match sub (if zM s p ⟨#[40,105,58]⟩ then p+3 else p+1) (zM s p ⟨#[40,105,58]⟩||both) with
 |none=>none
 |some (t,q)=>if zM s q ⟨#[41]⟩ then some (t,q+1) else none
def zLU (both:Bool)(c:Cs):Cs:=if both then⟨qS c.ranges,c.others⟩ else c
def zDR (s:ByteArray)(defs:List (ByteArray×Tr))(k:Nat)(sub:Reads)(p:Nat)(both:Bool):Option (Tr×Nat):=if byt s p=40 then brM s k sub p both else if byt s p=123 then zCX s p defs else(jZ s p).map λc=>(zH2 (zLU both c.1),c.2)
def zBU (t:Tr)(o:Tm):Tr:=Tr.plain ⟨4,⟨[],false⟩,[t],o.least,o.most,o.endless,xT (t.chars*o.copies)⟩
def zBz (s:ByteArray):Nat->Nat->Tr->Option (Tr×Nat)
 |0,_,_=>none
 |f+1,p,t=>if zBc s p then(match zEj s p with
  |none=>none
  |some (o,q)=>zBz s f q (zBU t o)) else some (t,p)
def zDZ (s:ByteArray)(defs:List (ByteArray×Tr))(k:Nat)(sub:Reads)(p:Nat)(both:Bool):Option (Tr×Nat):=
 match zDR s defs k sub p both with
 |none=>none
 |some (t,q)=>zBz s (s.size+1) q t
def zBX (s:ByteArray)(thing:Nat->Option (Tr×Nat)):Nat->Nat->Tr->Option (Tr×Nat)
 |0,_,_=>none
 |f+1,p,t=>match thing p with
  |none=>none
  |some (u,q)=>if zB2 s q then some ((t.add u).plain,q) else zBX s thing f q (t.add u)
def zDD (kind:Nat):Tr:=⟨kind,⟨[],false⟩,[],0,0,false,0⟩
def zQI (s:ByteArray)(defs:List (ByteArray×Tr))(k:Nat)(sub:Reads)(p:Nat)(both:Bool):Option (Tr×Nat):=zBX s (λq=>zDZ s defs k sub q both) (s.size+1) p (zDD 2)
def zAJ (s:ByteArray)(row:Nat->Option (Tr×Nat)):Nat->Nat->Tr->Option (Tr×Nat)
 |0,_,_=>none
 |f+1,p,t=>match row p with
  |none=>none
  |some (u,q)=>if zM s q ⟨#[124]⟩ then zAJ s row f (q+1) (t.add u) else some ((t.add u).plain,q)
def zOy (s:ByteArray)(defs:List (ByteArray×Tr))(k:Nat)(sub:Reads)(p:Nat)(both:Bool):Option (Tr×Nat):=zAJ s (λq=>zQI s defs k sub q both) (s.size+1) p (zDD 3)
def zBO (s:ByteArray)(defs:List (ByteArray×Tr)):Nat->Reads
 |0=>zOy s defs 0 λ_ _=>none
 |k+1=>zOy s defs (k+1) (zBO s defs k)
def vQ (s:ByteArray)(defs:List (ByteArray×Tr)):Option Tr:=
 match zBO s defs 8 0 false with
 |none=>none
 |some (t,q)=>if q=s.size then some t else none
theorem zEr (n:Nat):xT n<=25:=by unfold xT;split <;> omega
theorem zK9 (a b:Nat):xT (xT a+xT b)=xT (a+b):=by
 unfold xT;by_cases c:24<a <;> by_cases d:24<b <;> by_cases e:24<a+b <;> simp only[c,d,e,if_true,if_false] <;> first|omega|(split <;> omega)
theorem zK8 (a k:Nat):xT (xT a*k)=xT (a*k):=by
 rcases Nat.eq_zero_or_pos k with b|b
 ·subst b;rfl
 ·unfold xT
  by_cases c:24<a
  ·have d:=Nat.mul_le_mul_left a b
   have e:=Nat.mul_le_mul_left 25 b;rw[if_pos c,if_pos (by omega),if_pos (by omega)]
  ·rw[if_neg c]
theorem zJH (f g:Tr->Nat)(parts:List Tr)(a:∀u∈parts,f u=g u)(j:Nat)(d:j<=parts.length):zS f parts j=zS g parts j:=by
 induction j with
 |zero=>rfl
 |succ j b=>
  show zS f parts j+f (parts.getD j Tr.none)=zS g parts j+g (parts.getD j Tr.none);have c:parts.getD j Tr.none∈parts:=by
   rw[lW,lV (by omega:j<parts.length)];exact List.getElem_mem _
  rw[b (by omega),a _ c]
theorem zM9 (f:Tr->Nat)(parts:List Tr)(u:Tr)(j:Nat)(b:j<=parts.length):zS f (parts++[u]) j=zS f parts j:=by
 induction j with
 |zero=>rfl
 |succ j a=>
  show zS f (parts++[u]) j+f ((parts++[u]).getD j Tr.none)=zS f parts j+f (parts.getD j Tr.none);rw[a (by omega),lW,lW,kW (by omega)]
def zNr (c:Cs):Prop:=c.ranges.length<=10000000/\∀r∈c.ranges,-100<=r.1/\r.1<=20000000/\ -100<=r.2/\r.2<=20000000
def TrOk:Nat->Tr->Prop
 |0,_=>False
 |d+1,t=>zNr t.set/\(∀u∈t.parts,TrOk d u)/\t.chars=xT (xW (d+1) t)
theorem zHx:∀a t,TrOk a t->xW (a+1) t=xW a t
 |0,_,b=>False.elim b
 |a+1,t,b=>by
  have e:=zJH _ _ _ (λu c=>zHx a u (b.2.1 u c)) _ lQ;show(if t.kind=1 then 1 else if t.kind=2\/t.kind=3 then zS (xW (a+1)) t.parts t.parts.length else if t.kind=4 then t.copies*zS (xW (a+1)) t.parts t.parts.length else 0)=(if t.kind=1 then 1 else if t.kind=2\/t.kind=3 then zS (xW a) t.parts t.parts.length else if t.kind=4 then t.copies*zS (xW a) t.parts t.parts.length else 0);rw[e]
theorem TrOk.deeper:∀b t,TrOk b t->TrOk (b+1) t
 |0,_,a=>False.elim a
 |b+1,t,a=>⟨a.1,λu c=>TrOk.deeper b u (a.2.1 u c),by rw[zHx (b+1) t a];exact a.2.2⟩
theorem TrOk.deep {a e:Nat}{t:Tr}(b:TrOk a t)(c:a<=e):TrOk e t:=by
 induction c with
 |refl=>exact b
 |step _ f=>exact TrOk.deeper _ _ f
theorem TrOk.few {a:Nat}{t:Tr}(b:TrOk a t):t.chars<=25:=by
 cases a with
 |zero=>exact False.elim b
 |succ a=>rw[b.2.2];exact zEr _
theorem TrOk.chars {a:Nat}{t:Tr}(b:TrOk a t):t.chars=xT (xW a t):=by
 cases a with
 |zero=>exact False.elim b
 |succ a=>exact b.2.2
theorem zFN (o:Bool):zNr ⟨[],o⟩:=⟨by show 0<=_;omega,λr a=>by cases a⟩
theorem zLy (a:Nat):TrOk (a+1) Tr.none:=⟨zFN false,λu b=>(by cases b),rfl⟩
theorem zP9 (a:Nat)(c:Cs)(b:zNr c):TrOk (a+1) (zH2 c):=⟨b,λu e=>(by cases e),rfl⟩
theorem zFK {a:Nat}{t:Tr}(b:TrOk a t):TrOk a t.plain:=by
 cases a with
 |zero=>exact False.elim b
 |succ a=>
  unfold Tr.plain;split
  ·exact zLy a
  ·exact b
theorem zJ1 {a:Nat}{t:Tr}(o:Tm)(b:TrOk a t):TrOk (a+1) (zBU t o):=by
 refine zFK ⟨zFN false,λu c=>?_,?_⟩
 ·rw[kY.1 c];exact b
 ·show xT (t.chars*o.copies)=xT (o.copies*(0+xW a t))
  rw[b.chars,zK8,Nat.zero_add,Nat.mul_comm]
theorem zH3 (a k:Nat)(b:k=2\/k=3):TrOk (a+1) (zDD k):=by
 refine⟨zFN false,λu c=>(by cases c),?_⟩;rcases b with e|e <;> subst e <;> rfl
theorem zIq {a:Nat}{t u:Tr}(c:TrOk (a+1) t)(e:t.kind=2\/t.kind=3)(f:TrOk a u):TrOk (a+1) (t.add u):=by
 refine⟨c.1,λv g=>?_,?_⟩
 ·rcases kU.1 g with b|b
  ·exact c.2.1 v b
  ·rw[kY.1 b];exact f
 ·have b:t.kind≠1:=by omega
  have j:xW (a+1) t=zS (xW a) t.parts t.parts.length:=by
   show(if t.kind=1 then _ else if t.kind=2\/t.kind=3 then _ else _)=_;rw[if_neg b,if_pos e]
  have l:xW (a+1) (t.add u)=zS (xW a) (t.parts++[u]) (t.parts++[u]).length:=by
   show(if t.kind=1 then _ else if t.kind=2\/t.kind=3 then _ else _)=_;rw[if_neg b,if_pos e];rfl
  have m:(t.parts++[u]).length=t.parts.length+1:=by simp
  have o:(t.parts++[u]).getD t.parts.length Tr.none=u:=by simp
  show xT (t.chars+u.chars)=xT (xW (a+1) (t.add u));rw[l,m];show _=xT (zS (xW a) (t.parts++[u]) t.parts.length+xW a ((t.parts++[u]).getD t.parts.length Tr.none));rw[o,zM9 _ _ _ _ lQ,c.2.2,f.chars,zK9,j]
theorem zDT {t u:Tr}(a:t.kind=2\/t.kind=3):(t.add u).kind=2\/(t.add u).kind=3:=a
theorem zGh (s:ByteArray):∀f p l d q,zBh s f p l=some (d,q)->(∀r∈l,-100<=r.1/\r.1<=20000000/\ -100<=r.2/\r.2<=20000000)->p<q/\q<=s.size/\d.length<=l.length+(q-p)/\∀r∈d,-100<=r.1/\r.1<=20000000/\ -100<=r.2/\r.2<=20000000
 |0,_,_,_,_,j,_=>by cases j
 |f+1,p,l,d,q,j,w=>by
  have ⟨m1,m2,A,B,C,E⟩:=zLC s p;have u:∀r∈l++[((yT s p).low,(yT s p).high)],-100<=r.1/\r.1<=20000000/\ -100<=r.2/\r.2<=20000000:=λr x=>by
   rcases kU.1 x with m|m
   ·exact w r m
   ·rw[kY.1 m]
    show -100<=(yT s p).low/\(yT s p).low<=20000000/\ -100<=(yT s p).high/\(yT s p).high<=20000000;omega
  have g:(if (yT s p).ok then(if zM s (yT s p).at_ ⟨#[93]⟩ then some (l++[((yT s p).low,(yT s p).high)],(yT s p).at_+1) else zBh s f (yT s p).at_ (l++[((yT s p).low,(yT s p).high)])) else none)=some (d,q):=j;by_cases o:(yT s p).ok=true
  ·rw[if_pos o] at g
   have F:=m2 o;by_cases t:zM s (yT s p).at_ ⟨#[93]⟩=true
   ·rw[if_pos t] at g
    have e:=hQ g;have v:l++[((yT s p).low,(yT s p).high)]=d:=congrArg Prod.fst e;have G:(yT s p).at_+1=q:=congrArg Prod.snd e;have y:=vS t;rw[zB7] at y;refine⟨by omega,by omega,?_,by rw[<-v];exact u⟩;rw[<-v,kX];show l.length+1<=_;omega
   ·rw[if_neg t] at g
    have ⟨a,b,c,z⟩:=zGh s f _ _ d q g u;refine⟨by omega,b,?_,z⟩;rw[kX] at c;have H:[((yT s p).low,(yT s p).high)].length=1:=rfl;omega
  ·rw[if_neg o] at g
   cases g
theorem zNT (n:Int)(b:0<=n/\n<=16777216):zNr (zJi n):=⟨by show 1<=_;omega,λr a=>by rw[kY.1 a];show -100<=n/\n<=20000000/\ -100<=n/\n<=20000000;omega⟩
def zOP (c:Cs):Prop:=c.ranges.length<=3000000/\∀r∈c.ranges,-100<=r.1/\r.1<=20000000/\ -100<=r.2/\r.2<=20000000
theorem zDv (s:ByteArray)(A:s.size<=1048576)(p:Nat)(c:Cs)(q:Nat)(d:jZ s p=some (c,q)):p<q/\q<=s.size/\zOP c:=by
 have v:∀n:Int,0<=n/\n<=16777216->zOP (zJi n):=λn y=>⟨by show 1<=_;omega,(zNT n y).2⟩
 have B:=zAK s p;unfold jZ at d;split at d
 ·unfold zCl at d
  cases l:zBh s (s.size+1) (if zM s (p+1) ⟨#[94]⟩ then p+2 else p+1) [] with
  |none=>rw[l] at d;cases d
  |some g=>
   obtain⟨m,w⟩:=g;rw[l] at d;have e:=hQ d;have f:(⟨m,zM s (p+1) ⟨#[94]⟩⟩:Cs)=c:=congrArg Prod.fst e;have o:w=q:=congrArg Prod.snd e;have ⟨a,b,x,t⟩:=zGh s _ _ _ m w l (λr u=>by cases u);have C:([]:List (Int×Int)).length=0:=rfl;have E:p+1<=(if zM s (p+1) ⟨#[94]⟩ then p+2 else p+1):=by split <;> omega
   refine⟨by omega,by omega,?_⟩;rw[<-f];exact⟨by show m.length<=_;omega,t⟩
 split at d
 ·have ⟨a,b,x,t⟩:=zLP s (p+1)
  split at d
  ·rename_i j
   have e:=hQ d;have f:zJi (zA4 s (p+1)).num=c:=congrArg Prod.fst e;have o:(zA4 s (p+1)).at_=q:=congrArg Prod.snd e;have:=b j;exact⟨by omega,by omega,by rw[<-f];exact v _ ⟨x,t⟩⟩
  ·cases d
 split at d
 ·rename_i F
  have z:p<s.size:=zCm (by omega);have e:=hQ d;have f:zQr=c:=congrArg Prod.fst e;have o:p+1=q:=congrArg Prod.snd e;refine⟨by omega,by omega,?_⟩;rw[<-f];exact⟨by show 1<=_;omega,λr u=>by rw[kY.1 u];decide⟩
 split at d
 ·rename_i j
  have z:=zCm λe=>by rw[e] at j;exact absurd j (by decide)
  have e:=hQ d;have f:zJi (byt s p:Nat)=c:=congrArg Prod.fst e;have o:p+1=q:=congrArg Prod.snd e;exact⟨by omega,by omega,by rw[<-f];exact v _ ⟨by omega,by omega⟩⟩
 ·cases d
theorem zJl (r:Int×Int)(first last a:Int)(d:0<=first)(e:last<=200)(f:-100<=a/\a<=100):∀x∈qI r first last a,-100<=x.1/\x.1<=20000000/\ -100<=x.2/\x.2<=20000000:=λx b=>by
 unfold qI at b;by_cases c:(if first<r.1 then r.1 else first)<=(if r.2<last then r.2 else last)
 ·rw[if_pos c] at b
  rw[kY.1 b];show -100<=(if first<r.1 then r.1 else first)+a/\(if first<r.1 then r.1 else first)+a<=20000000/\ -100<=(if r.2<last then r.2 else last)+a/\(if r.2<last then r.2 else last)+a<=20000000;have g:first<=(if first<r.1 then r.1 else first):=by split <;> omega
  have h:(if r.2<last then r.2 else last)<=last:=by split <;> omega
  omega
 ·rw[if_neg c] at b
  cases b
theorem zOE (both:Bool)(c:Cs)(a:zOP c):zNr (zLU both c):=by
 unfold zLU;split
 ·have l:=zHA c.ranges
  refine⟨?_,λx g=>?_⟩
  ·show(qS c.ranges).length<=10000000
   have:=a.1;omega
  ·have e:=g
   unfold qS at e;have ⟨r,j,f⟩:=List.mem_flatMap.1 e;unfold zJN at f;rcases List.mem_cons.1 f with b|b
   ·rw[b];exact a.2 r j
   rcases kU.1 b with d|d
   ·exact zJl r 65 90 32 (by decide) (by decide) ⟨by decide,by decide⟩ x d
   ·exact zJl r 97 122 (-32) (by decide) (by decide) ⟨by decide,by decide⟩ x d
 ·exact⟨lY a.1 (by omega),a.2⟩
theorem zIf (s:ByteArray)(p:Nat)(o:Tm)(q:Nat)(a:zEj s p=some (o,q)):p<q/\q<=s.size/\o.least<=300/\o.most<=300:=by
 have fin:∀(c:Tm) (d i:Nat) (x:UInt8),zM s i ⟨#[x]⟩=true->some (c,d)=some (o,q)->d=i+1->p<=i->c.least<=300->c.most<=300->p<q/\q<=s.size/\o.least<=300/\o.most<=300:=λc d i x b e r t f g=>by
  have e:=hQ e;have j:c=o:=congrArg Prod.fst e;have l:d=q:=congrArg Prod.snd e;have m:=vS b;rw[zB7] at m;subst j l;exact⟨by omega,by omega,f,g⟩
 have u:=zAK s (p+1);have v:=zAK s (p+3);unfold zEj at a;split at a
 ·rename_i b;exact fin _ _ p _ b a rfl (by omega) (by show 0<=300;omega) (by show 0<=300;omega)
 split at a
 ·rename_i b;exact fin _ _ p _ b a rfl (by omega) (by show 1<=300;omega) (by show 0<=300;omega)
 split at a
 ·rename_i b;exact fin _ _ p _ b a rfl (by omega) (by show 0<=300;omega) (by show 1<=300;omega)
 unfold zBt at a;split at a
 ·split at a
  ·rename_i b;exact fin _ _ (p+2) _ b a rfl (by omega) (by show byt s (p+1)-48<=300;omega) (by show byt s (p+1)-48<=300;omega)
  split at a
  ·split at a
   ·rename_i b;exact fin _ _ (p+3) _ b a rfl (by omega) (by show byt s (p+1)-48<=300;omega) (by show 0<=300;omega)
   split at a
   ·split at a
    ·rename_i b;exact fin _ _ (p+4) _ b a rfl (by omega) (by show byt s (p+1)-48<=300;omega) (by show byt s (p+3)-48<=300;omega)
    ·cases a
   ·cases a
  ·cases a
 ·cases a
theorem zFn (s:ByteArray)(D:Nat):∀f p t u q,zBz s f p t=some (u,q)->p<=s.size->TrOk (D+4*p) t->p<=q/\q<=s.size/\TrOk (D+4*q) u
 |0,_,_,_,_,l,_,_=>by cases l
 |f+1,p,t,u,q,l,w,r=>by
  have j:(if zBc s p then(match zEj s p with|none=>none|some (o,q)=>zBz s f q (zBU t o)) else some (t,p))=some (u,q):=l;split at j
  ·cases m:zEj s p with
   |none=>rw[m] at j;cases j
   |some g=>
    obtain⟨o,v⟩:=g;rw[m] at j;obtain⟨a,b,-,-⟩:=zIf s p o v m;have ⟨c,x,e⟩:=zFn s D f v (zBU t o) u q j b ((zJ1 o r).deep (by omega));exact⟨by omega,x,e⟩
  ·have e:=hQ j
   have y:t=u:=congrArg Prod.fst e;have z:p=q:=congrArg Prod.snd e;subst y z;exact⟨lQ,w,r⟩
def zCt (s:ByteArray)(D:Nat)(f:Nat->Option (Tr×Nat)):Prop:=∀p t q,f p=some (t,q)->p<q/\q<=s.size/\TrOk (D+4*q) t
theorem zI0 (s:ByteArray)(D:Nat)(j:Nat->Option (Tr×Nat))(w:zCt s D j):∀f p t u q,zBX s j f p t=some (u,q)->(t.kind=2\/t.kind=3)->TrOk (D+1+4*p) t->p<q/\q<=s.size/\TrOk (D+1+4*q) u
 |0,_,_,_,_,m,_,_=>by cases m
 |f+1,p,t,u,q,m,x,z=>by
  have l:(match j p with|none=>none|some (u,q)=>if zB2 s q then some ((t.add u).plain,q) else zBX s j f q (t.add u))=some (u,q):=m;cases o:j p with
  |none=>rw[o] at l;cases l
  |some g=>
   obtain⟨v,d⟩:=g;rw[o] at l;have ⟨a,b,c⟩:=w p v d o;have y:TrOk (D+1+4*d) (t.add v):=by
    rw[show D+1+4*d=D+4*d+1 by omega];exact zIq (z.deep (by omega)) x c
   have r:(if zB2 s d then some ((t.add v).plain,d) else zBX s j f d (t.add v))=some (u,q):=l;split at r
   ·have e:=hQ r
    have A:(t.add v).plain=u:=congrArg Prod.fst e;have B:d=q:=congrArg Prod.snd e;subst A B;exact⟨a,b,zFK y⟩
   ·have ⟨c1,c2,C⟩:=zI0 s D j w f d (t.add v) u q r (zDT x) y
    exact⟨by omega,c2,C⟩
theorem zHs (s:ByteArray)(D:Nat)(row:Nat->Option (Tr×Nat))(r:zCt s D row):∀f p t u q,zAJ s row f p t=some (u,q)->(t.kind=2\/t.kind=3)->TrOk (D+1+4*p) t->p<q/\q<=s.size/\TrOk (D+1+4*q) u
 |0,_,_,_,_,l,_,_=>by cases l
 |f+1,p,t,u,q,l,w,y=>by
  have j:(match row p with|none=>none|some (u,q)=>if zM s q ⟨#[124]⟩ then zAJ s row f (q+1) (t.add u) else some ((t.add u).plain,q))=some (u,q):=l;cases m:row p with
  |none=>rw[m] at j;cases j
  |some g=>
   obtain⟨v,d⟩:=g;rw[m] at j;have ⟨a,b,c⟩:=r p v d m;have x:TrOk (D+1+4*d) (t.add v):=by
    rw[show D+1+4*d=D+4*d+1 by omega];exact zIq (y.deep (by omega)) w c
   have o:(if zM s d ⟨#[124]⟩ then zAJ s row f (d+1) (t.add v) else some ((t.add v).plain,d))=some (u,q):=j;split at o
   ·have ⟨c1,c2,z⟩:=zHs s D row r f (d+1) (t.add v) u q o (zDT w) (x.deep (by omega))
    exact⟨by omega,c2,z⟩
   ·have e:=hQ o
    have A:(t.add v).plain=u:=congrArg Prod.fst e;have B:d=q:=congrArg Prod.snd e;subst A B;exact⟨a,b,zFK x⟩
def zBn (D:Nat)(defs:List (ByteArray×Tr)):Prop:=∀d∈defs,TrOk D d.2
theorem zCo (n:ByteArray):(braced n).size=n.size+2:=by
 unfold braced;rw[ByteArray.size_append,ByteArray.size_append,zB7,zB7];omega
theorem zJk (s:ByteArray)(D p:Nat):∀defs t q,zBn D defs->zCX s p defs=some (t,q)->p<q/\q<=s.size/\TrOk D t
 |[],_,_,_,a=>by cases a
 |d::c,t,q,f,a=>by
  have b:(if zM s p (braced d.1) then some (d.2,p+(braced d.1).size) else zCX s p c)=some (t,q):=a;split at b
  ·rename_i g
   have e:=hQ b;have j:d.2=t:=congrArg Prod.fst e;have m:p+(braced d.1).size=q:=congrArg Prod.snd e;have o:=vS g;have r:=zCo d.1;subst j;exact⟨by omega,by omega,f d gQ⟩
  ·exact zJk s D p c t q (λx l=>f x (List.mem_cons_of_mem _ l)) b
section
variable {s:ByteArray} {D:Nat} {defs:List (ByteArray×Tr)} {k:Nat} {sub:Reads}
theorem zQt (y:∀both,zCt s (D+2) λp=>sub p both)(both:Bool):zCt s D λp=>brM s k sub p both:=λp t q z=>by
 have d:brM s k sub p both=some (t,q):=z;unfold brM at d;split at d
 ·cases d
 split at d
 ·rename_i j
  have u:=vS j;have A:(⟨#[40,41]⟩:ByteArray).size=2:=rfl;have e:=hQ d;have l:Tr.none=t:=congrArg Prod.fst e;have m:p+2=q:=congrArg Prod.snd e;subst l m;exact⟨by omega,by omega,by rw[show D+4*(p+2)=D+4*p+7+1 by omega];exact zLy _⟩
 ·have B:p+1<=(if zM s p ⟨#[40,105,58]⟩ then p+3 else p+1):=by split <;> omega
  generalize (if zM s p ⟨#[40,105,58]⟩ then p+3 else p+1)=w at *;generalize (zM s p ⟨#[40,105,58]⟩||both)=x at *;cases o:sub w x with
  |none=>rw[o] at d;cases d
  |some g=>
   obtain⟨v,f⟩:=g;rw[o] at d;have ⟨a,b,c⟩:=y x w v f o;have r:(if zM s f ⟨#[41]⟩ then some (v,f+1) else none)=some (t,q):=d;split at r
   ·rename_i j
    have u:=vS j;rw[zB7] at u;have e:=hQ r;have l:v=t:=congrArg Prod.fst e;have m:f+1=q:=congrArg Prod.snd e;subst l m;exact⟨by omega,by omega,c.deep (by omega)⟩
   ·cases r
theorem zGn (l:s.size<=1048576)(m:zBn D defs)(o:∀both,zCt s (D+2) λp=>sub p both)(both:Bool):zCt s D λp=>zDR s defs k sub p both:=λp t q r=>by
 have d:zDR s defs k sub p both=some (t,q):=r;unfold zDR at d;split at d
 ·exact zQt o both p t q d
 split at d
 ·have ⟨a,b,c⟩:=zJk s D p defs t q m d
  exact⟨a,b,c.deep (by omega)⟩
 ·cases j:jZ s p with
  |none=>rw[j] at d;cases d
  |some g=>
   obtain⟨c,f⟩:=g;rw[j] at d;have e:=hQ d;have u:zH2 (zLU both c)=t:=congrArg Prod.fst e;have v:f=q:=congrArg Prod.snd e;have ⟨a,b,w⟩:=zDv s l p c f j;subst u v;exact⟨a,b,by rw[show D+4*f=D+4*f-1+1 by omega];exact zP9 _ _ (zOE both c w)⟩
theorem zDY (j:s.size<=1048576)(l:zBn D defs)(m:∀both,zCt s (D+2) λp=>sub p both)(both:Bool):zCt s D λp=>zDZ s defs k sub p both:=λp t q o=>by
 have d:zDZ s defs k sub p both=some (t,q):=o;unfold zDZ at d;cases e:zDR s defs k sub p both with
 |none=>rw[e] at d;cases d
 |some g=>
  obtain⟨v,f⟩:=g;rw[e] at d;have ⟨a,b,c⟩:=zGn j l m both p v f e;have ⟨r,b2,c2⟩:=zFn s D _ f v t q d b c;exact⟨by omega,b2,c2⟩
theorem zHR (a:s.size<=1048576)(b:zBn D defs)(c:∀both,zCt s (D+2) λp=>sub p both)(both:Bool):zCt s (D+1) λp=>zQI s defs k sub p both:=λp t q d=>zI0 s D _ (zDY a b c both) _ p (zDD 2) t q d (.inl rfl) (by rw[show D+1+4*p=D+4*p+1 by omega];exact zH3 _ 2 (.inl rfl))
theorem zJF (a:s.size<=1048576)(b:zBn D defs)(c:∀both,zCt s (D+2) λp=>sub p both)(both:Bool):zCt s (D+2) λp=>zOy s defs k sub p both:=λp t q d=>zHs s (D+1) _ (zHR a b c both) _ p (zDD 3) t q d (.inr rfl) (by rw[show D+1+1+4*p=D+4*p+1+1 by omega];exact zH3 _ 3 (.inr rfl))
theorem zAr (a:s.size<=1048576)(b:zBn D defs):∀k both,zCt s (D+2) λp=>zBO s defs k p both
 |0,both=>zJF a b (λ_ p t q c=>by cases c) both
 |k+1,both=>zJF a b (zAr a b k) both
end
end
section
variable (w:World) (b:Nat) (s:ByteArray) (dv:Value) (r:Rx) (t:RxAt w b s dv r)
theorem zOZ {w w2:World}{b:Nat}(e:b<w.heap.size)(a:Keep (w.heap.size+1) b (w.alloc (.cells #[nX,bool false] 161)) w2):w2.heap[w.heap.size]? =some (.cells #[nX,bool false] 161)/\w2.cell? ⟨w.heap.size,0,none⟩=some nX/\w2.cell? ⟨w.heap.size,1,none⟩=some (bool false)/\w2.frozen? ⟨w.heap.size,0,none⟩=false/\w2.frozen? ⟨w.heap.size,1,none⟩=false/\Keep w.heap.size b w w2:=by
 have d:=gY w (.cells #[nX,fX] 161);have c:=(a.block w.heap.size (by omega) (by omega)).trans d;refine⟨c,?_,?_,?_,?_,(kZ (H:=w.heap.size) (b:=b) _ _ lQ).trans ⟨a.os,a.output,a.size,λk d c=>a.block k (by omega) c⟩⟩
 all_goals first|(unfold cell?;rw[c];rfl)|(unfold frozen?;rw[c];simp)
theorem zOG {w1:World}{b:Nat}{s:ByteArray}{dv:Value}{r:Rx}(a:RxAt w1 b s dv r):∃w2,w2=w1.setCell ⟨b,2,none⟩ (iX ((r.at_:Int)+1))/\RxAt w2 b s dv {r with at_:=r.at_+1}/\(∀H,Keep H b w1 w2)/\w1.cell? ⟨b,2,none⟩=some (iX (r.at_:Int))/\w1.frozen? ⟨b,2,none⟩=false:=
 ⟨_,rfl,a.setAt (r.at_+1),λH=>Keep.set _ _ _,a.cells.2.2.1,a.cells.2.2.2.2.2 2⟩
theorem zAl {w:World}{b:Nat}{s:ByteArray}{dv:Value}{r:Rx}(a:RxAt w b s dv r)(d:s.size<=1048576)(g:r.at_<=s.size):∃w1,w1=w.alloc (.cells #[nX,bool false] 161)/\RxAt w1 b s dv r/\Hid (∀w2,Keep (w.heap.size+1) b w1 w2->w2.heap[w.heap.size]? =some (.cells #[nX,bool false] 161)/\w2.cell? ⟨w.heap.size,0,none⟩=some nX/\w2.cell? ⟨w.heap.size,1,none⟩=some (bool false)/\w2.frozen? ⟨w.heap.size,0,none⟩=false/\w2.frozen? ⟨w.heap.size,1,none⟩=false/\Keep w.heap.size b w w2)/\Hid (w1.heap.size=w.heap.size+1)/\Hid (b<w.heap.size)/\Hid (Calls prog 200 #[pX b,zX] w1 λe w'=>e=returned (int .u8 (byt s r.at_:Nat))/\w'=w1):=
 have c:=RxAt.of_block a (lG _ _ _ a.lt)
 ⟨_,rfl,c,λw2 f=>zOZ a.lt f,by show _=_;simp,a.lt,(zHZ d (by omega)) _ c⟩
theorem zP5 (t:RxAt w b s dv r)(c:s.size<=1048576)(u:r.at_<=s.size)(d:byt s r.at_=91)(f:zCl s r.at_=none):
  Calls prog 203 #[pX b] w (zAL w b s dv r (jZ s r.at_)):=by
 have ⟨w1,g,x,y,z,A,j⟩:=zAl t c u;have B:Hid (jZ s r.at_=none):=by show _=_;unfold jZ;rw[if_pos d,f]
 have k:=vl (zEQ w1 b s dv r x c (zCm (by omega)));rw[f] at k;rw[B.out];rw[d] at j;go_in;apply wp_cut;intro L C;go_wp2;apply C.out;rw[<-g];clear g;go_wp2_with (first|(go_at_call 200;refine j.mono ?_;rintro e M ⟨rfl,D⟩;have E:=D.symm;subst E)|(go_at_call 208;refine k.mono ?_;rintro e w2 ⟨F,v,n,a,o,q,rfl,G⟩;have H:=vl G;have ⟨l,c0,c1,N,O,m⟩:=y w2 (by rw[<-z.out];exact F);have ⟨P,I,J,K,p⟩:=jF w w2 b s dv {r with at_:=q} _ _ (slice v n a) (o) A l H m;clear l m))
 rw[<-I];refine gJ (v:=tuple #[agg #[slice v n a,bool (o)],fX]) (by simp[results,results203,go_sem,J,K]) rfl ?_;exact⟨p.2.1,v,n,a,o,q,rfl,p.1⟩
theorem zP4 (y:RxAt w b s dv r)(d:s.size<=1048576)(z:r.at_<=s.size)(f:byt s r.at_=91)(c:Cs)(q:Nat)(g:zCl s r.at_=some (c,q)):
  Calls prog 203 #[pX b] w (zAL w b s dv r (jZ s r.at_)):=by
 have ⟨w1,j,A,B,k,C,l⟩:=zAl y d z;have D:Hid (jZ s r.at_=some (c,q)):=by show _=_;unfold jZ;rw[if_pos f,g]
 have m:=vl (zEQ w1 b s dv r A d (zCm (by omega)));rw[g] at m;rw[D.out];rw[f] at l;go_in;apply wp_cut;intro O o;go_wp2;apply o.out;clear o;rw[<-j];clear j;go_wp2_with (first|(go_at_call 200;refine l.mono ?_;rintro e P ⟨rfl,E⟩;have F:=E.symm;subst F)|(go_at_call 208;refine m.mono ?_;rintro e w2 ⟨G,u,rfl,p,H⟩;obtain⟨ao,cap,I,-⟩:=p.at;subst I;have J:=vl H;have K:Hid (RangesIn (λi=>w.heap.size<i) w2 (slice ao c.ranges.length cap) c.ranges):=p.mono (λi _ R=>by have:=k.out;omega);have ⟨t,c0,c1,S,T,x⟩:=B w2 (by rw[<-k.out];exact G);have ⟨U,L,M,N,a⟩:=jF w w2 b s dv {r with at_:=q} _ _ (slice ao c.ranges.length cap) (c.others) C t J x;clear t x))
 rw[<-L];refine gJ (v:=tuple #[agg #[slice ao c.ranges.length cap,bool (c.others)],tX]) (by simp[results,results203,go_sem,M,N]) rfl ?_;exact⟨a.2.1,_,rfl,a.2.2 _ K,a.1⟩
theorem zP2 (q:RxAt w b s dv r)(t:s.size<=1048576)(H:r.at_<=s.size)(d:byt s r.at_=92)(a:Sg)(f:zA4 s (r.at_+1)=a)(j:a.ok=true):
  Calls prog 203 #[pX b] w (zAL w b s dv r (jZ s r.at_)):=by
 have ⟨w1,x,l,I,m,J,y⟩:=zAl q t H;have z:Hid (jZ s r.at_=some (zJi a.num,a.at_)):=by show _=_;unfold jZ;rw[if_neg (by omega),if_pos d,f,j];rfl
 have A:=vl (zBN w1 b s dv r l t (by omega));rw[f,j] at A;rw[z.out];rw[d] at y;clear z d f j;clear q l;go_in;apply wp_cut;intro V B;go_wp2;apply B.out;clear B;rw[<-x];clear x;go_wp2_with (first|(go_at_call 200;refine y.mono ?_;rintro e W ⟨rfl,K⟩;have L:=K.symm;subst L)|(go_at_call 209;refine A.mono ?_;rintro e w2 ⟨rfl,C,D⟩)|(go_at_call 210;refine(zD7 w2 a.num).mono ?_;rintro e o ⟨u,rfl,⟨g,M,rfl,N⟩,c⟩;have O:=(D 0).size;have E:b<w2.heap.size:=C.lt;have P:=vl <| RxAt.of_block C (c.block b E (by omega));have R:Hid (RangesIn (λi=>w.heap.size<i) o (slice (qX g) 1 1) [(a.num,a.num)]):=zH1 N (by have:=m.out;omega);have ⟨F,c0,c1,X,Y,G⟩:=I o ((D _).trans ⟨c.os,c.output,c.size,λk l _=>c.block k (by have:=m.out;omega) (by have:=m.out;omega)⟩);have ⟨aa,S,T,U,p⟩:=jF w o b s dv {r with at_:=a.at_} _ _ (slice (qX g) 1 1) (false) J F P G;clear F G;clear O E M))
 rw[<-S];refine gJ (v:=tuple #[agg #[slice (qX g) 1 1,bool (false)],tX]) (by simp[results,results203,go_sem,T,U]) rfl ?_;exact⟨p.2.1,_,rfl,p.2.2 _ R,p.1⟩
theorem zP3 (F:RxAt w b s dv r)(f:s.size<=1048576)(G:r.at_<=s.size)(j:byt s r.at_=92)(a:Sg)(l:zA4 s (r.at_+1)=a)(m:a.ok=false):
  Calls prog 203 #[pX b] w (zAL w b s dv r (jZ s r.at_)):=by
 have ⟨w1,o,p,H,d,I,q⟩:=zAl F f G;have J:Hid (jZ s r.at_=none):=by show _=_;unfold jZ;rw[if_neg (by omega),if_pos j,l,m];rfl
 have t:=vl (zBN w1 b s dv r p f (by omega));rw[l,m] at t;rw[J.out];rw[j] at q;go_in;apply wp_cut;intro U x;go_wp2;apply x.out;clear x;rw[<-o];clear o;go_wp2_with (first|(go_at_call 200;refine q.mono ?_;rintro e V ⟨rfl,K⟩;have L:=K.symm;subst L)|(go_at_call 209;refine t.mono ?_;rintro e w2 ⟨rfl,y,z⟩)|(go_at_call 210;refine(zD7 w2 a.num).mono ?_;rintro e A ⟨u,rfl,⟨g,M,rfl,N⟩,c⟩;have O:=(z 0).size;have B:b<w2.heap.size:=y.lt;have P:=vl <| RxAt.of_block y (c.block b B (by omega));have W:=vl <| zH1 N (by have:=d.out;omega);have ⟨C,c0,c1,X,Y,D⟩:=H A ((z _).trans ⟨c.os,c.output,c.size,λk p _=>c.block k (by have:=d.out;omega) (by have:=d.out;omega)⟩);have ⟨aa,R,S,T,E⟩:=jF w A b s dv {r with at_:=a.at_} _ _ (slice (qX g) 1 1) (false) I C P D;clear C D;clear O B M))
 rw[<-R];refine gJ (v:=tuple #[agg #[slice (qX g) 1 1,bool (false)],fX]) (by simp[results,results203,go_sem,S,T]) rfl ?_;exact⟨E.2.1,some ⟨g,0,none⟩,1,1,false,a.at_,rfl,E.1⟩
theorem zQH (m:RxAt w b s dv r)(C:s.size<=1048576)(D:r.at_<=s.size)(c:byt s r.at_=46):
  Calls prog 203 #[pX b] w (zAL w b s dv r (jZ s r.at_)):=by
 have ⟨w1,o,d,E,f,F,p⟩:=zAl m C D;have q:Hid (jZ s r.at_=some (zQr,r.at_+1)):=by show _=_;unfold jZ;rw[if_neg (by omega),if_neg (by omega),if_pos c]
 rw[q.out];have ⟨w2,G,t,x,c2,S⟩:=zOG d;rw[c] at p;clear c;clear q;clear m d;go_in;apply wp_cut;intro T y;go_wp2;apply y.out;clear y;rw[<-o];clear o;go_wp2_with (first|(go_at_call 200;refine p.mono ?_;rintro e U ⟨rfl,H⟩;have I:=H.symm;subst I)|(rw [<-G];go_at_call 211;refine(zM3 w2).mono ?_;rintro e j ⟨u,rfl,⟨g,J,rfl,K⟩,a⟩;have L:=(x 0).size;have z:b<w2.heap.size:=t.lt;have M:=vl <| RxAt.of_block t (a.block b z (by omega));have N:Hid (RangesIn (λi=>w.heap.size<i) j (slice (qX g) 1 1) [(10,10)]):=zH1 K (by have:=f.out;omega);have ⟨A,c0,c1,V,W,B⟩:=E j ((x _).trans ⟨a.os,a.output,a.size,λk d _=>a.block k (by have:=f.out;omega) (by have:=f.out;omega)⟩);have ⟨X,O,P,R,l⟩:=jF w j b s dv {r with at_:=r.at_+1} _ _ (slice (qX g) 1 1) (true) F A M B;clear A B;clear L z J))
 rw[<-O];refine gJ (v:=tuple #[agg #[slice (qX g) 1 1,bool (true)],tX]) (by simp[results,results203,go_sem,P,R]) rfl ?_;exact⟨l.2.1,_,rfl,l.2.2 _ N,l.1⟩
theorem zQF (t:RxAt w b s dv r)(K:s.size<=1048576)(L:r.at_<=s.size)(c:Nat)(d:byt s r.at_=c)(x:c≠91)(y:c≠92)(z:c≠46)(f:zA2 c=true):
  Calls prog 203 #[pX b] w (zAL w b s dv r (jZ s r.at_)):=by
 have ⟨w1,A,j,M,l,N,B⟩:=zAl t K L;have C:Hid (jZ s r.at_=some (zJi (c:Nat),r.at_+1)):=by show _=_;unfold jZ;rw[d,if_neg x,if_neg y,if_neg z,if_pos f]
 rw[C.out];have ⟨w2,O,D,E,c2,ab⟩:=zOG j;have P:=zAK s r.at_;rw[d] at B P;have F:=vl λw=>zC0 w c;rw[f] at F;have ac:((c:Int)==91)=false:=by rw[hX];omega
 have ad:((c:Int)==92)=false:=by rw[hX];omega
 have ae:((c:Int)==46)=false:=by rw[hX];omega
 clear d x y z f;clear C;clear t j;go_in;apply wp_cut;intro af G;go_wp2;apply G.out;clear G;rw[<-A];clear A;go_wp2_with (first|(go_at_call 200;refine B.mono ?_;rintro e R ⟨rfl,m⟩;have o:=m.symm;subst o)|(go_at_call 212;refine(F _).mono ?_;rintro e R ⟨rfl,m⟩;have o:=m.symm;subst o)|(rw [<-O];go_at_call 210;refine(zD7 w2 (c:Int)).mono ?_;rintro e p ⟨u,rfl,⟨g,S,rfl,T⟩,a⟩;have U:=(E 0).size;have H:b<w2.heap.size:=D.lt;have V:=vl <| RxAt.of_block D (a.block b H (by omega));have W:Hid (RangesIn (λi=>w.heap.size<i) p (slice (qX g) 1 1) [((c:Int),(c:Int))]):=zH1 T (by have:=l.out;omega);have ⟨I,c0,c1,ag,ah,J⟩:=M p ((E _).trans ⟨a.os,a.output,a.size,λk j _=>a.block k (by have:=l.out;omega) (by have:=l.out;omega)⟩);have ⟨ai,X,Y,aa,q⟩:=jF w p b s dv {r with at_:=r.at_+1} _ _ (slice (qX g) 1 1) (false) N I V J;clear I J;clear U H S))
 rw[<-X];refine gJ (v:=tuple #[agg #[slice (qX g) 1 1,bool (false)],tX]) (by simp[results,results203,go_sem,Y,aa]) rfl ?_;exact⟨q.2.1,_,rfl,q.2.2 _ W,q.1⟩
theorem zQG (p:RxAt w b s dv r)(q:s.size<=1048576)(t:r.at_<=s.size)(c:Nat)(f:byt s r.at_=c)(u:c≠91)(x:c≠92)(y:c≠46)(g:zA2 c=false):
  Calls prog 203 #[pX b] w (zAL w b s dv r (jZ s r.at_)):=by
 have ⟨w1,j,z,A,L,B,k⟩:=zAl p q t;have C:Hid (jZ s r.at_=none):=by show _=_;unfold jZ;rw[f,if_neg u,if_neg x,if_neg y,if_neg (by rw[g];decide)]
 rw[C.out];have D:=zAK s r.at_;rw[f] at k D;have l:=vl λw=>zC0 w c;rw[g] at l;have M:((c:Int)==91)=false:=by rw[hX];omega
 have N:((c:Int)==92)=false:=by rw[hX];omega
 have O:((c:Int)==46)=false:=by rw[hX];omega
 have E:=vl z;have ⟨F,c0,c1,P,R,G⟩:=A w1 (Keep.refl _ _ _);have ⟨S,H,I,J,m⟩:=jF w w1 b s dv r _ _ nX false B F E G;go_in;apply wp_cut;intro T o;go_wp2;apply o.out;clear o;rw[<-j];clear j;go_wp2_with (first|(go_at_call 200;refine k.mono ?_;rintro e K ⟨rfl,a⟩;have d:=a.symm;subst d)|(go_at_call 212;refine(l _).mono ?_;rintro e K ⟨rfl,a⟩;have d:=a.symm;subst d))
 rw[<-H];refine gJ (v:=tuple #[agg #[nX,bool (false)],fX]) (by simp[results,results203,go_sem,I,J]) rfl ?_;exact⟨m.2.1,none,0,0,false,r.at_,rfl,m.1⟩
theorem zD3 (a:RxAt w b s dv r)(d:s.size<=1048576)(e:r.at_<=s.size):
  Calls prog 203 #[pX b] w (zAL w b s dv r (jZ s r.at_)):=by
 by_cases f:byt s r.at_=91
 ·cases l:zCl s r.at_ with
  |none=>exact zP5 w b s dv r a d e f l
  |some g=>
   obtain⟨c,q⟩:=g;exact zP4 w b s dv r a d e f c q l
 by_cases j:byt s r.at_=92
 ·cases m:(zA4 s (r.at_+1)).ok with
  |true=>exact zP2 w b s dv r a d e j _ rfl m
  |false=>exact zP3 w b s dv r a d e j _ rfl m
 by_cases k:byt s r.at_=46
 ·exact zQH w b s dv r a d e k
 cases o:zA2 (byt s r.at_) with
 |true=>exact zQF w b s dv r a d e _ rfl f j k o
 |false=>exact zQG w b s dv r a d e _ rfl f j k o
end
section
variable {a w:World} {b x n:Nat} {s:ByteArray} {dv:Value} {r:Rx}
def zOL (w:World)(b:Nat)(s:ByteArray)(dv:Value)(r:Rx)(a:Option (Tm×Nat))(e:Ending)(w':World):Prop:=
 Keep w.heap.size b w w'/\match a with
 |none=>∃q,e=returned (tuple #[agg #[int i64 0,int i64 0,bool false],bool false])/\RxAt w' b s dv {r with at_:=q}
 |some (o,q)=>e=returned (tuple #[agg #[int i64 (o.least:Int),int i64 (o.most:Int),bool o.endless],bool true])/\RxAt w' b s dv {r with at_:=q}
theorem qM (w w2:World)(b:Nat)(s:ByteArray)(dv:Value)(r:Rx)(n m:Int)(o:Bool)(j:b<w.heap.size)(c:Hid (Keep w.heap.size b w w2/\w2.heap[w.heap.size]? =some (.cells #[zX,zX,bool false] 163)))(e:RxAt w2 b s dv r):
  ∃a,a=((w2.setCell ⟨w.heap.size,0,none⟩ (iX n)).setCell ⟨w.heap.size,1,none⟩ (iX m)).setCell ⟨w.heap.size,2,none⟩ (bool o)/\a.cell? ⟨w.heap.size,0,none⟩=some (iX n)/\a.cell? ⟨w.heap.size,1,none⟩=some (iX m)/\a.cell? ⟨w.heap.size,2,none⟩=some (bool o)/\Hid (RxAt a b s dv r/\Keep w.heap.size b w a):=by
 have f:(((w2.setCell ⟨w.heap.size,0,none⟩ (iX n)).setCell ⟨w.heap.size,1,none⟩ (iX m)).setCell ⟨w.heap.size,2,none⟩ (bool o)).heap[w.heap.size]? =some (.cells #[iX n,iX m,bool o] 163):=by
  simp[setCell,lU,c.out.2]
 have d:∀i,i≠w.heap.size->(((w2.setCell ⟨w.heap.size,0,none⟩ (iX n)).setCell ⟨w.heap.size,1,none⟩ (iX m)).setCell ⟨w.heap.size,2,none⟩ (bool o)).heap[i]? =w2.heap[i]? :=λi g=>by
  simp[setCell,lU,Ne.symm g]
 refine⟨_,rfl,?_,?_,?_,RxAt.of_block e (d b (by omega)),c.1.trans ⟨rfl,rfl,by simp[World.setCell],λk l _=>d k (by omega)⟩⟩
 all_goals (unfold cell?;rw[f];rfl)
theorem zL7 {w w2:World}{b:Nat}(e:b<w.heap.size)(a:Keep (w.heap.size+1) b (w.alloc (.cells #[zX,zX,bool false] 163)) w2):Hid (Keep w.heap.size b w w2/\w2.heap[w.heap.size]? =some (.cells #[zX,zX,bool false] 163))/\w2.cell? ⟨w.heap.size,0,none⟩=some zX/\w2.cell? ⟨w.heap.size,1,none⟩=some zX/\w2.cell? ⟨w.heap.size,2,none⟩=some (bool false)/\w2.frozen? ⟨w.heap.size,0,none⟩=false/\w2.frozen? ⟨w.heap.size,1,none⟩=false/\w2.frozen? ⟨w.heap.size,2,none⟩=false:=by
 have d:=gY w (.cells #[zX,zX,fX] 163);have c:=(a.block w.heap.size (by omega) (by omega)).trans d;refine⟨⟨(kZ (H:=w.heap.size) (b:=b) _ _ lQ).trans ⟨a.os,a.output,a.size,λk d c=>a.block k (by omega) c⟩,c⟩,?_,?_,?_,?_,?_,?_⟩
 all_goals first|(unfold cell?;rw[c];rfl)|(unfold frozen?;rw[c];simp)
theorem zDk {c:Nat}(a:yN c=true):zBm c=((c-48:Nat):Int)/\48<=c/\c<=52:=by
 have b:48<=c:=by
  unfold yN xP at a;rw[Bool.and_eq_true,Bool.and_eq_true] at a;exact of_decide_eq_true a.1.1
 have d:c<=52:=by
  unfold yN at a;rw[Bool.and_eq_true] at a;exact of_decide_eq_true a.2
 exact⟨by unfold zBm;rw[if_pos a];omega,b,d⟩
theorem zQS (c:yN (byt s x)=true)(d:Hid (byt s x-48=n))(f:RxAt w b s dv {r with at_:=x})(g:∀H,Keep H b a w)(j:s.size<=1048576)(k:x<=2000000):
  Calls prog 214 #[pX b] w λe w'=>e=returned (iX (n:Int))/\RxAt w' b s dv {r with at_:=x+1}/\∀H,Keep H b a w':=by
 refine(zEP w b s dv {r with at_:=x} f j k).mono ?_;rintro e w' ⟨rfl,l,m⟩;refine⟨by rw[(zDk c).1,<-d.out],?_,λH=>(g H).trans (m H)⟩;have e:(({r with at_:=x}:Rx).on (yN (byt s x)))={r with at_:=x+1}:=by rw[c];rfl
 rw[<-e];exact l
theorem zQT (c:yN (byt s x)=false)(d:RxAt w b s dv {r with at_:=x})(f:∀H,Keep H b a w)(g:s.size<=1048576)(j:x<=2000000):
  Calls prog 214 #[pX b] w λe w'=>e=returned (iX (-1))/\RxAt w' b s dv {r with at_:=x}/\∀H,Keep H b a w':=by
 refine(zEP w b s dv {r with at_:=x} d g j).mono ?_;rintro e w' ⟨rfl,k,l⟩;refine⟨by unfold zBm;rw[if_neg (by rw[c];decide)],?_,λH=>(f H).trans (l H)⟩;have e:(({r with at_:=x}:Rx).on (yN (byt s x)))={r with at_:=x}:=by rw[c];rfl
 rw[<-e];exact k
theorem zEy (a:RxAt w b s dv r):∃w1,w1=w.alloc (.cells #[zX,zX,bool false] 163)/\RxAt w1 b s dv {r with at_:=r.at_}/\Hid (∀w2,Keep (w.heap.size+1) b w1 w2->Hid (Keep w.heap.size b w w2/\w2.heap[w.heap.size]? =some (.cells #[zX,zX,bool false] 163))/\w2.cell? ⟨w.heap.size,0,none⟩=some zX/\w2.cell? ⟨w.heap.size,1,none⟩=some zX/\w2.cell? ⟨w.heap.size,2,none⟩=some (bool false)/\w2.frozen? ⟨w.heap.size,0,none⟩=false/\w2.frozen? ⟨w.heap.size,1,none⟩=false/\w2.frozen? ⟨w.heap.size,2,none⟩=false)/\Hid (w1.heap.size=w.heap.size+1)/\Hid (b<w.heap.size):=⟨_,rfl,RxAt.of_block a (lG _ _ _ a.lt),λw2 c=>zL7 a.lt c,by show _=_;simp,a.lt⟩
theorem zL5 {w1:World}{b:Nat}{s:ByteArray}{dv:Value}{r:Rx}(a:RxAt w1 b s dv {r with at_:=r.at_}):∃w2,w2=w1.setCell ⟨b,2,none⟩ (iX ((r.at_:Int)+1))/\RxAt w2 b s dv {r with at_:=r.at_+1}/\(∀H,Keep H b w1 w2)/\w1.cell? ⟨b,2,none⟩=some (iX (r.at_:Int))/\w1.frozen? ⟨b,2,none⟩=false:=
 ⟨_,rfl,a.setAt (r.at_+1),λH=>Keep.set _ _ _,a.cells.2.2.1,a.cells.2.2.2.2.2 2⟩
theorem zGN (w:World)(b:Nat)(s:ByteArray)(dv:Value)(r:Rx)(A:RxAt w b s dv r)(o:s.size<=1048576)(M:r.at_<=s.size):
  Calls prog 207 #[pX b] w (zOL w b s dv r (zBt s r.at_)):=by
 have ⟨w1,B,p,E,N,q⟩:=zEy A;have ⟨w2,C,c,d,F,G⟩:=zL5 p;clear A p;go_in;apply wp_cut;intro H l;go_wp2;apply l.out;clear l;rw[<-B];clear B;apply wp_cut;intro H l;go_wp2;apply l.out;clear l;rw[<-C];clear C F G;obtain⟨v,D⟩:∃v,v=w2:=⟨_,rfl⟩
 rw[<-D] at c d ⊢;clear D;unfold zBt;obtain⟨n,u⟩:∃n,byt s (r.at_+1)-48=n:=⟨_,rfl⟩
 obtain⟨m,x⟩:∃m,byt s (r.at_+3)-48=m:=⟨_,rfl⟩
 rw[u,x];have I:=zAK s (r.at_+1);rcases p:yN (byt s (r.at_+1)) with _|_;rotate_left;have J:=(zDk p).2;have O:n<=4:=by omega
 rw[if_pos rfl];rcases P:zM s (r.at_+2) ⟨#[125]⟩ with _|_;rw[if_neg (by decide)];rcases R:zM s (r.at_+2) ⟨#[44]⟩ with _|_;rotate_left;rw[if_pos rfl];rcases S:zM s (r.at_+3) ⟨#[125]⟩ with _|_;rw[if_neg (by decide)];rcases K:yN (byt s (r.at_+3)) with _|_;rotate_left;have q2:=(zDk K).2;have T:m<=4:=by omega
 rcases y:decide (byt s (r.at_+1)<=byt s (r.at_+3)) with _|_;rotate_left;rw[if_pos (show (true&&true)=true from rfl)];rcases U:zM s (r.at_+4) ⟨#[125]⟩ with _|_
 all_goals
  try have L:(n:Int)<=(m:Int):=by have:=of_decide_eq_true y;omega
  try have L:(m:Int)<(n:Int):=by have:=of_decide_eq_false y;omega
  have V:=vl u;have W:=vl x;clear u x I
  try clear J
  try clear q2
  try clear y
  go_wp2_with ((first|(go_at_call 189;(first|refine(zPW (by assumption) c d o (by omega)).mono ?_|refine(zPV (by assumption) c d o (by omega)).mono ?_))|(go_at_call 214;(first|refine(zQT (by assumption) c d o (by omega)).mono ?_|refine(zQS (by assumption) (by assumption) c d o (by omega)).mono ?_)));rintro e v ⟨rfl,c,d⟩;have ⟨t,c0,c1,c2,X,Y,aa⟩:=E v (d _))
  first
  |(have ⟨z,f,g,j,k,a⟩:=qM w v b s dv _ 0 0 false q t c;rw[<-f];refine gJ (v:=tuple #[agg #[zX,zX,fX],fX]) (by simp[results,results207,go_sem,g,j,k]) rfl ?_;exact⟨a.2,_,rfl,a.1⟩)
  |(have ⟨z,f,g,j,k,a⟩:=qM w v b s dv _ n n false q t c;rw[<-f];refine gJ (v:=tuple #[agg #[iX n,iX n,fX],tX]) (by simp[results,results207,go_sem,g,j,k]) rfl ?_;exact⟨a.2,rfl,a.1⟩)
  |(have ⟨z,f,g,j,k,a⟩:=qM w v b s dv _ n 0 true q t c;rw[<-f];refine gJ (v:=tuple #[agg #[iX n,zX,tX],tX]) (by simp[results,results207,go_sem,g,j,k]) rfl ?_;exact⟨a.2,rfl,a.1⟩)
  |(have ⟨z,f,g,j,k,a⟩:=qM w v b s dv _ n m false q t c;rw[<-f];refine gJ (v:=tuple #[agg #[iX n,iX m,fX],tX]) (by simp[results,results207,go_sem,g,j,k]) rfl ?_;exact⟨a.2,rfl,a.1⟩)
theorem zF4 (w:World)(b:Nat)(s:ByteArray)(dv:Value)(r:Rx)(x:RxAt w b s dv r)(B:s.size<=1048576)(K:r.at_<=s.size):
  Calls prog 198 #[pX b] w (zOL w b s dv r (zEj s r.at_)):=by
 have E:Hid (∀w,RxAt w b s dv r->Ca 207 #[pX b] w (zOL w b s dv r (zBt s r.at_))):=λw x=>zGN w b s dv r x B K;have ⟨v,F,d,C,G,t⟩:=zEy x;have m:∀H,Keep H b v v:=λH=>⟨rfl,rfl,lQ,λk _ _=>rfl⟩
 clear x;go_in;apply wp_cut;intro P I;go_wp2;apply I.out;clear I;rw[<-F];clear F;unfold zEj;obtain⟨v0,D⟩:∃v0,v0=v:=⟨_,rfl⟩
 rw[<-D] at C G;have m:∀H,Keep H b v0 v:=by rw[D];exact m
 clear D;rcases L:zM s r.at_ ⟨#[42]⟩ with _|_;rcases J:zM s r.at_ ⟨#[43]⟩ with _|_;rcases R:zM s r.at_ ⟨#[63]⟩ with _|_;rw[if_neg (by decide),if_neg (by decide),if_neg (by decide)];have y:∃a,zBt s r.at_=a:=⟨_,rfl⟩
 obtain⟨a,y⟩:=y;rw[y] at E ⊢;clear y;rcases a with _|⟨o,q⟩
 all_goals
  go_wp2_with (first|(go_at_call 189;(first|refine(zPW (by assumption) d m B (by omega)).mono ?_|refine(zPV (by assumption) d m B (by omega)).mono ?_);rintro e v ⟨rfl,d,m⟩;have ⟨p,c0,c1,c2,M,N,O⟩:=C v (m _))|(go_at_call 207;refine(E v d).mono ?_;(first|rintro e z ⟨u,q,rfl,d⟩|rintro e z ⟨u,rfl,d⟩);have ⟨p,c0,c1,c2,M,N,O⟩:=C z ((m _).trans ⟨u.os,u.output,u.size,λk L J=>u.block k (by have:=G.out;have:=(m 0).size;omega) J⟩)))
  first
  |(have ⟨A,f,g,j,l,c⟩:=qM w z b s dv _ 0 0 false t p d;rw[<-f];refine gJ (v:=tuple #[agg #[zX,zX,fX],fX]) (by simp[results,results198,go_sem,g,j,l]) rfl ?_;exact⟨c.2,_,rfl,c.1⟩)
  |(have ⟨A,f,g,j,l,c⟩:=qM w z b s dv _ o.least o.most o.endless t p d;rw[<-f];refine gJ (v:=tuple #[agg #[iX o.least,iX o.most,bool o.endless],tX]) (by simp[results,results198,go_sem,g,j,l]) rfl ?_;exact⟨c.2,rfl,c.1⟩)
  |(have ⟨A,f,g,j,l,c⟩:=qM w v b s dv _ 0 0 true t p d;rw[<-f];refine gJ (v:=tuple #[agg #[zX,zX,tX],tX]) (by simp[results,results198,go_sem,g,j,l]) rfl ?_;exact⟨c.2,rfl,c.1⟩)
  |(have ⟨A,f,g,j,l,c⟩:=qM w v b s dv _ 1 0 true t p d;rw[<-f];refine gJ (v:=tuple #[agg #[iX 1,zX,tX],tX]) (by simp[results,results198,go_sem,g,j,l]) rfl ?_;exact⟨c.2,rfl,c.1⟩)
  |(have ⟨A,f,g,j,l,c⟩:=qM w v b s dv _ 0 1 false t p d;rw[<-f];refine gJ (v:=tuple #[agg #[zX,iX 1,fX],tX]) (by simp[results,results198,go_sem,g,j,l]) rfl ?_;exact⟨c.2,rfl,c.1⟩)
end
theorem zGF (w:World)(X:Nat->Prop)(u:Value)(c:Cs)(j:RangesIn X w u c.ranges):
  Calls prog 205 #[agg #[u,bool c.others]] w λe w'=>∃p,e=returned (pX p)/\(∀f,TreeIn (λi=>(X i/\i<w.heap.size)\/w.heap.size<=i) w' (f+1) p (zH2 c))/\Grew w w':=by
 obtain⟨ao,cap,rfl,-⟩:=j.at
 obtain⟨w2,l,m,o⟩:∃w2,w2=(w.alloc (Obj.cells #[slice ao c.ranges.length cap,bool c.others] 161)).alloc (Obj.cells #[iX 1,slice ao c.ranges.length cap,bool c.others,nX,zX,zX,fX,iX 1] 165)/\Hid (∀f,TreeIn (λi=>(X i/\i<w.heap.size)\/w.heap.size<=i) w2 (f+1) (w.heap.size+1) (zH2 c))/\Hid (Grew w w2):=by
  have s1:(w.alloc (Obj.cells #[slice ao c.ranges.length cap,bool c.others] 161)).heap.size=w.heap.size+1:=by simp
  have k:=gY (w.alloc (Obj.cells #[slice ao c.ranges.length cap,bool c.others] 161)) (Obj.cells #[iX 1,slice ao c.ranges.length cap,bool c.others,nX,zX,zX,fX,iX 1] 165);rw[s1] at k;have b:Grew w ((w.alloc (Obj.cells #[slice ao c.ranges.length cap,bool c.others] 161)).alloc (Obj.cells #[iX 1,slice ao c.ranges.length cap,bool c.others,nX,zX,zX,fX,iX 1] 165)):=(kZ _ _ lQ).trans (kZ _ _ (by rw[s1];omega));have q:RangesIn (λi=>(X i/\i<w.heap.size)\/w.heap.size<=i) ((w.alloc (Obj.cells #[slice ao c.ranges.length cap,bool c.others] 161)).alloc (Obj.cells #[iX 1,slice ao c.ranges.length cap,bool c.others,nX,zX,zX,fX,iX 1] 165)) (slice ao c.ranges.length cap) c.ranges:=λr a=>j r ⟨a.os.trans b.os,a.output.trans b.output,lY b.size a.size,λi g s=>(a.block i (lZ g b.size) (.inl ⟨s,g⟩)).trans (b.block i g (by omega))⟩;exact⟨_,rfl,λf=>zH8 (t:=zH2 c) k (.inr (by omega)) q rfl ⟨by show 0<=1000;omega,by show 0<=1000;omega⟩,b⟩
 go_in;go_wp2;rw[<-l];go_ret;exact⟨_,rfl,m,o⟩
theorem zEH (w:World)(X:Nat->Prop)(a p:Nat)(t:Tr)(b:TreeIn X w a p t):
  Calls prog 190 #[pX p] w λe w'=>∃g,e=returned (pX g)/\TreeIn (λi=>(X i/\i<w.heap.size)\/w.heap.size<=i) w' a g t.plain/\Grew w w':=by
 cases a with
 |zero=>exact False.elim b.at
 |succ a=>
 have j:w.cell? ⟨p,7,none⟩=some (iX (t.chars:Int)):=by
  obtain⟨-,rv,q,k,-⟩:=b.at
  unfold cell?;rw[k];rfl
 have l:=vl b;by_cases c:t.chars=0
 ·have f:Hid (t.plain=Tr.none):=by show _=_;unfold Tr.plain;rw[if_pos c]
  rw[c] at j;have r:=j;go_in;go_wp2;go_ret;refine⟨_,rfl,?_,kZ _ _ lQ⟩;rw[f.out];exact zJD (gY _ _) (.inr lQ)
 ·have f:Hid (t.plain=t):=by show _=_;unfold Tr.plain;rw[if_neg c]
  have s:((t.chars:Int)==0)=false:=by rw[hX];omega
  go_in;go_wp2;go_ret;exact⟨_,rfl,by rw[f.out];exact l.mono λi m o=>.inl ⟨o,m⟩,Keep.refl _ _ _⟩
theorem zEg:(prog.info? 158).map (λi=>(i.zero,i.size,i.bytes))=some (some (pointer none),1,8):=by kernel_rfl
theorem TreeIn.chars {X:Nat->Prop}{w:World}{a p:Nat}{t:Tr}(b:TreeIn X w a p t):w.cell? ⟨p,7,none⟩=some (iX (t.chars:Int)):=by
 cases a with
 |zero=>exact False.elim b.at
 |succ a=>
  obtain⟨-,rv,e,c,-⟩:=b.at
  unfold cell?;rw[c];rfl
theorem zGQ (w:World)(v:Nat->Prop)(H p l:Nat)(sv:Value)(m:List Nat)(t:Tr)(b:Tw w v H p l sv m t)(q:Nat)(u:Tr)(x:TreeIn (λj=>v j/\j≠p/\some j≠sv.ownBlock) w l q u)(al:u.chars<=25)(am:t.parts.length<9000000):
  Calls prog 188 #[pX p,pX q] w λe w'=>e=rX/\∃D S,Tw w' v H p l D S (t.add u)/\KeepO p sv D w w':=by
 have ⟨T,U,V,W,X⟩:=info_parts zEg;have ⟨ao,y,aa⟩:=zF b.own;subst aa;have ⟨E,F,G⟩:=b.cells;have I:=G 3;have J:w.ownsRow H 158 1 (slice ao t.parts.length y) t.parts.length (yI m):=b.own;have K:p<w.heap.size:=lZ b.pH b.lt;have an:H<=w.heap.size:=b.lt;have L:=vl <| zO b.own b.blk (by decide);have ab:=b.small.2.2.2;have z:=vl b;have M:=vl x;have ac:Hid (IntKind.i64.wrap ((t.chars:Int)+(u.chars:Int))=(t.chars:Int)+(u.chars:Int)):=zA8 _ (by omega) (by omega);have ad:Hid (∀w,Ca 195 #[iX (IntKind.i64.wrap ((t.chars:Int)+(u.chars:Int)))] w λe w'=>e=returned (iX (xT (t.chars+u.chars):Int))/\w'=w):=λw=>by
  have:=zC9 w (t.chars+u.chars);rw[show ((t.chars+u.chars:Nat):Int)=(t.chars:Int)+(u.chars:Int) by omega] at this;rw[ac.out];exact this
 clear G b x F;go_in;apply wp_cut;intro ap N;go_wp2_with (at_builtin;refine wpList_append_lies _ rfl _ _ 118 rfl (H) 158 T (pointer none) 1 8 underlying118 U V W X rfl (by decide) _ _ _ rfl (J.alloc _) ⟨w.heap.size,0,none⟩ 1 1 [pX q] rfl rfl (cell_one_new _ _ _) (by intro u x;simp at x;subst x;rfl) (by decide) (by unfold maxLen;omega) (by omega) (by simp;omega) _ rfl ?_;intro f cap w2 O A P ae;have B:=A.block p (by simp;omega) L;have af:cX w2 p 3=some (slice ao t.parts.length y):=(gW B).trans ((gU _ _ _ K).trans E);have ag:w2.frozen? ⟨p,3,none⟩=false:=(gV B).trans ((frozen?_alloc_past _ _ _ K).trans I))
 apply N.out;clear N;obtain⟨a,R,o⟩:∃a,a=w2.setCell ⟨p,3,none⟩ (slice (qX f) (t.parts.length+1) cap)/\Hid (Tw a v H p l (slice (qX f) (t.parts.length+1) cap) (m++[q]) {t with parts:=t.parts++[u]}/\KeepO p (slice ao t.parts.length y) (slice (qX f) (t.parts.length+1) cap) w a):=⟨_,rfl,z.app rfl (by omega) M O A (by rcases P with C|C;exact .inl C;right;rw[C];simp)⟩
 rw[<-R];clear R O A P ae B af ag J L E I;have F:cX a p 7=some (iX (t.chars:Int)):=o.1.cells.2.1;have aq:a.frozen? ⟨p,7,none⟩=false:=o.1.cells.2.2 7;have ar:cX a q 7=some (iX (u.chars:Int)):=by
  have c:=o.1.parts t.parts.length (by simp);have ah:(m++[q]).getD t.parts.length 0=q:=by rw[<-z.out.len];simp
  have ai:(t.parts++[u]).getD t.parts.length Tr.none=u:=by simp
  have r:TreeIn _ a l ((m++[q]).getD t.parts.length 0) ((t.parts++[u]).getD t.parts.length Tr.none):=c;rw[ah,ai] at r;exact r.chars
 have aj:Hid (∀i,Tw ((a.setCell ⟨p,7,none⟩ (iX (xT (t.chars+u.chars):Int))).drewN i) v H p l (slice (qX f) (t.parts.length+1) cap) (m++[q]) (t.add u)/\KeepO p (slice ao t.parts.length y) (slice (qX f) (t.parts.length+1) cap) w ((a.setCell ⟨p,7,none⟩ (iX (xT (t.chars+u.chars):Int))).drewN i)):=λi=>by
  have c:=o.1.setChars (xT (t.chars+u.chars)) (zEr _);have r:KeepO p (slice (qX f) (t.parts.length+1) cap) (slice (qX f) (t.parts.length+1) cap) a (a.setCell ⟨p,7,none⟩ (iX (xT (t.chars+u.chars):Int))):=⟨rfl,rfl,by rw[zD];omega,λk _ r s=>⟨lJ _ _ _ _ r,s⟩⟩
  have s:=o.2.trans r;exact⟨⟨c.blk,c.set,zE c.own λg _ _ _=>rfl,c.len,λi ak=>(c.parts i ak).go ⟨rfl,rfl,lQ,λ_ _ _=>rfl⟩,c.pH,c.lt,c.small⟩,⟨s.os,s.output,s.size,s.block⟩⟩
 clear o z M ab;go_region_with ((go_at_call 195;go_must ((refine (ad _).mono ?_;rintro e au ⟨rfl,rfl⟩))))
 all_goals
  go_end0;exact⟨rfl,_,_,aj _⟩
theorem zJ2 (w:World)(X:Nat->Prop)(d p:Nat)(t:Tr)(h:TreeIn X w d p t)(hc:t.chars<=25)(o:Tm)(ho:o.least<=300/\o.most<=300):
  Calls prog 199 #[pX p,agg #[iX (o.least:Int),iX (o.most:Int),bool o.endless]] w λe w'=>∃p',e=returned (pX p')/\TreeIn (λi=>(X i/\i<w.heap.size)\/w.heap.size<=i) w' (d+1) p' (zBU t o)/\Grew w w':=by
 obtain⟨i0,hi0,hz0,hz1,hz2⟩:=info_parts zEg;have hC:o.copies<=301:=by
  unfold Tm.copies;split
  ·split <;> omega
  ·omega
 obtain⟨w1,hw1,y0,y1,y2,K1⟩:∃w1,w1=w.alloc (.cells #[iX (o.least:Int),iX (o.most:Int),bool o.endless] 163)/\w1.cell? ⟨w.heap.size,0,none⟩=some (iX (o.least:Int))/\w1.cell? ⟨w.heap.size,1,none⟩=some (iX (o.most:Int))/\w1.cell? ⟨w.heap.size,2,none⟩=some (bool o.endless)/\Hid (Grew w w1/\w1.heap.size=w.heap.size+1):=by
  have hb:=gY w (.cells #[iX (o.least:Int),iX (o.most:Int),bool o.endless] 163);refine⟨_,rfl,?_,?_,?_,kZ _ _ lQ,by simp⟩
  all_goals (unfold cell?;rw[hb];rfl)
 have hpl:p<w.heap.size:=by
  cases d with
  |zero=>exact False.elim h.at
  |succ d=>exact h.at.1
 have y7:w1.cell? ⟨p,7,none⟩=some (iX (t.chars:Int)):=(gW (K1.1.block p hpl (by omega))).trans h.chars;have HCP:Hid (∀w',Grew w1 w'->Ca 165 #[agg #[iX (o.least:Int),iX (o.most:Int),bool o.endless]] w' λx w2=>x=returned (iX (o.copies:Int))/\Grew w1 w2/\w2.cell? ⟨w.heap.size,0,none⟩=some (iX (o.least:Int))/\w2.cell? ⟨w.heap.size,1,none⟩=some (iX (o.most:Int))/\w2.cell? ⟨w.heap.size,2,none⟩=some (bool o.endless)/\w2.cell? ⟨p,7,none⟩=some (iX (t.chars:Int))):=λw' hk=>by
  refine(zDO w' o.least o.most o.endless).mono ?_;rintro x w2 ⟨rfl,hk2⟩;have hs:=K1.2;have hk3:Grew w1 w2:=hk.trans (hk2.lower hk.size hk.size);exact⟨rfl,hk3,zA y0 (by show w.heap.size<w1.heap.size;omega) hk3,zA y1 (by show w.heap.size<w1.heap.size;omega) hk3,zA y2 (by show w.heap.size<w1.heap.size;omega) hk3,zA y7 (by show p<w1.heap.size;omega) hk3⟩
 have hm0:(0:Int)<=(t.chars:Int)*(o.copies:Int):=Int.mul_nonneg (by omega) (by omega);have hm1:(t.chars:Int)*(o.copies:Int)<=25*301:=by
  rw[<-Int.natCast_mul];have:=Nat.mul_le_mul hc hC;omega
 have HWR:Hid (IntKind.i64.wrap ((t.chars:Int)*(o.copies:Int))=(t.chars:Int)*(o.copies:Int)):=zA8 _ (by omega) (by omega);have HBD:Hid (∀w,Ca 195 #[iX (IntKind.i64.wrap ((t.chars:Int)*(o.copies:Int)))] w λe w'=>e=returned (iX (xT (t.chars*o.copies):Int))/\w'=w):=λw=>by
  have:=zC9 w (t.chars*o.copies);rw[show ((t.chars*o.copies:Nat):Int)=(t.chars:Int)*(o.copies:Int) by rw[Int.natCast_mul]] at this;rw[HWR.out];exact this
 have HA:Hid (zBU t o=Tr.plain ⟨4,⟨[],false⟩,[t],o.least,o.most,o.endless,xT (t.chars*o.copies)⟩):=rfl;have HBL:Hid (xT (t.chars*o.copies)<=25):=zEr _;have HT:=vl h;clear h hC;generalize xT (t.chars*o.copies)=bn at *;generalize o.copies=C at *;generalize zBU t o=ag at *;go_in;apply wp_cut;intro K0 HK0;go_wp2;apply HK0.out;clear HK0;rw[<-hw1];clear hw1 hpl;apply wp_cut;intro K0 HK0;go_region_held3 (λw'=>w'.cell? ⟨w.heap.size,0,none⟩=some (iX (o.least:Int))/\w'.cell? ⟨w.heap.size,1,none⟩=some (iX (o.most:Int))/\w'.cell? ⟨w.heap.size,2,none⟩=some (bool o.endless)/\w'.cell? ⟨p,7,none⟩=some (iX (t.chars:Int))) (first|exact⟨z0,z1,z2,z3⟩|go_keep) (first|(go_at_call 165;go_must ((refine (HCP w1.drew (Keep.alike (w':=w1.drew) ⟨rfl,rfl,rfl⟩)).mono ?_;rintro x w3 ⟨rfl,hk3,z0,z1,z2,z3⟩)))|(go_at_call 195;go_must ((refine (HBD _).mono ?_;rintro x w4 ⟨rfl,hw4⟩;have hw5:=hw4.symm;subst hw5))));show K0 _ _;apply HK0.out;clear HK0;have HY:Hid (Grew w w3/\w.heap.size+1<=w3.heap.size):=⟨K1.1.trans (hk3.lower K1.1.size K1.1.size),by have:=K1.2;have:=hk3.size;omega⟩
 obtain⟨P,hP⟩:∃P,P=w3.heap.size:=⟨_,rfl⟩
 obtain⟨w4,hw4,H4,HK4⟩:∃w4,w4=w3.alloc (.cells #[iX 4,nX,fX,nX,iX (o.least:Int),iX (o.most:Int),bool o.endless,iX (bn:Int)] 165)/\Tw w4 (λi=>(X i/\i<w.heap.size)\/w.heap.size<=i) (P+1) P d nX [] ⟨4,⟨[],false⟩,[],o.least,o.most,o.endless,bn⟩/\Hid (Grew w w4/\TreeIn (λj=>((X j/\j<w.heap.size)\/w.heap.size<=j)/\j≠P/\some j≠nX.ownBlock) w4 d p t/\w.heap.size+1<=P):=by
  have hk4:Grew w (w3.alloc (.cells #[iX 4,nX,fX,nX,iX (o.least:Int),iX (o.most:Int),bool o.endless,iX (bn:Int)] 165)):=HY.1.trans (kZ _ _ (by have:=HY.2;omega));have hb:=gY w3 (.cells #[iX 4,nX,fX,nX,iX (o.least:Int),iX (o.most:Int),bool o.endless,iX (bn:Int)] 165);rw[<-hP] at hb;have h5:=HY.2;refine⟨_,rfl,⟨hb,rfl,ownsRow_nil _ _ _ _,rfl,λi hi=>absurd hi (Nat.not_lt_zero _),by omega,by rw[hP];simp,⟨by show 0<=_;omega,by show o.least<=_;omega,by show o.most<=_;omega,HBL⟩⟩,hk4,?_,by rw[hP];exact h5⟩;exact HT.step (hk4.agree λi hi _=>⟨hi,by omega⟩) λi hi hx=>⟨.inl ⟨hx,hi⟩,by omega,by simp[Value.ownBlock]⟩
 rw[<-hP,<-hw4];have HP:=vl hP;clear hw4 hP HT hk3 HY K1 HCP HBD HWR z0 z1 z2 z3 y0 y1 y2 y7;obtain⟨x3,-,xf⟩:=H4.cells;have xf3:=xf 3;have OW:w4.ownsRow (P+1) 158 1 nX 0 (yI []):=H4.own;have hlt:P<w4.heap.size:=H4.lt;have HT4:=vl H4;clear H4 xf HP;apply wp_cut;intro K0 HK0;go_wp2_with (first|(at_builtin;refine wpList_append_lies _ rfl _ _ 118 rfl (P+1) 158 i0 (pointer none) 1 8 underlying118 hi0 hz0 hz1 hz2 rfl (by decide) _ _ _ rfl (OW.alloc _) ⟨w4.heap.size,0,none⟩ 1 1 [pX p] rfl rfl (cell_one_new _ _ _) (by intro u hu;simp at hu;subst hu;rfl) (by decide) (by unfold maxLen;omega) (by omega) (by simp;omega) _ rfl ?_;intro gg cap w5 hown hgrow hat hlt2;have hPB:=hgrow.block P (by simp;omega) (by intro e;cases e);have x3b:w5.cell? ⟨P,3,none⟩=some nX:=(gW hPB).trans ((gU _ _ _ hlt).trans x3);have xf3b:w5.frozen? ⟨P,3,none⟩=false:=(gV hPB).trans ((frozen?_alloc_past _ _ _ hlt).trans xf3)))
 apply HK0.out;clear HK0;obtain⟨w6,hw6,H6⟩:∃w6,w6=w5.setCell ⟨P,3,none⟩ (slice (qX gg) 1 cap)/\Hid (Tw w6 (λi=>(X i/\i<w.heap.size)\/w.heap.size<=i) (P+1) P d (slice (qX gg) 1 cap) [p] ⟨4,⟨[],false⟩,[t],o.least,o.most,o.endless,bn⟩/\KeepO P nX (slice (qX gg) 1 cap) w4 w6):=⟨_,rfl,HT4.app (m:=0) (q:=p) (u:=t) rfl (by omega) HK4.2.1 hown hgrow (by rcases hat with ha|ha;exact .inl ha;right;rw[ha];simp)⟩
 rw[<-hw6];clear hw6 hown hgrow hat hlt2 hPB x3b xf3b OW x3 xf3;have HPL:Hid (Ca 190 #[pX P] w6 λe w'=>∃p',e=returned (pX p')/\TreeIn (λi=>(X i/\i<w.heap.size)\/w.heap.size<=i) w' (d+1) p' ag/\Grew w w'):=by
  have hP:=HK4.2.2;have h4:=HK4.1;have hk6:Keep (P+1) P w4 w6:=H6.2.keep HT4.own HT4.lt;refine(zEH w6 _ (d+1) P _ (H6.1.in (.inr (by omega)) λj hj=>.inr (by omega))).mono ?_;rintro e w7 ⟨p',rfl,ht,hk7⟩;have hs6:=hk6.size;have hs4:=h4.size;refine⟨p',rfl,?_,h4.trans (Keep.trans (w':=w6) ⟨hk6.os,hk6.output,hk6.size,λk h1 _=>hk6.block k (by omega) (by omega)⟩ (hk7.lower (by omega) (by omega)))⟩;rw[HA.out];exact ht.mono λi _ hx=>by
   rcases hx with hx|hx
   ·exact hx.1
   ·exact .inr (by omega)
 clear H6 HT4 HK4 HA;go_wp2_with (first|(go_at_call 190;refine HPL.mono ?_;rintro e w7 ⟨p',rfl,ht7,hk7⟩))
 go_ret;exact⟨p',rfl,ht7,hk7⟩
def DefsIn (b:Nat)(X:Nat->Prop)(w:World)(D:Nat)(v:Value)(l:List (ByteArray×Tr)):Prop:=
 ∃ao cap,v=slice ao l.length cap/\l.length<=cap/\cap<=maxLen/\∀i,i<l.length->∃g o p,ao=some ⟨g,o,none⟩/\In w g/\g<b/\w.cell? ⟨g,o+i*2,none⟩=some (string (l.getD i (⟨#[]⟩,Tr.none)).1)/\w.cell? ⟨g,o+i*2+1,none⟩=some (pointer (some ⟨p,0,none⟩))/\TreeIn X w D p (l.getD i (⟨#[]⟩,Tr.none)).2/\(l.getD i (⟨#[]⟩,Tr.none)).1.size<=100000
theorem DefsIn.go {b:Nat}{X:Nat->Prop}{w w2:World}{D:Nat}{v:Value}{l:List (ByteArray×Tr)}(f:DefsIn b X w D v l)(j:∀i,X i->i<b)(a:Agree (·<b) w w2):DefsIn b X w2 D v l:=by
 obtain⟨ao,cap,k,m,q,r⟩:=f;refine⟨ao,cap,k,m,q,λi s=>?_⟩;have ⟨g,o,p,t,d,c,c0,c1,u,x⟩:=r i s;have e:=a.block g d c;exact⟨g,o,p,t,lZ d a.size,c,(gW e).trans c0,(gW e).trans c1,u.go (a.mono λi _ c=>j i c),x⟩
def TrAns (w:World)(X:Nat->Prop)(b:Nat)(s:ByteArray)(dv:Value)(r:Rx)(D:Nat)(a:Option (Tr×Nat))(e:Ending)(w':World):Prop:=
 Keep w.heap.size b w w'/\match a with
 |none=>∃v q,e=returned (tuple #[pointer v,bool false])/\RxAt w' b s dv {r with at_:=q}
 |some (t,q)=>∃p,e=returned (tuple #[pointer (some ⟨p,0,none⟩),bool true])/\TreeIn (λi=>X i\/w.heap.size<=i) w' (D+4*q) p t/\RxAt w' b s dv {r with at_:=q}
theorem zKH (s:ByteArray)(p:Nat)(l:List (ByteArray×Tr))(j:Nat)(a:j<l.length):zCX s p (l.drop j)=if zM s p (braced (l.getD j (⟨#[]⟩,Tr.none)).1) then some ((l.getD j (⟨#[]⟩,Tr.none)).2,p+(braced (l.getD j (⟨#[]⟩,Tr.none)).1).size) else zCX s p (l.drop (j+1)):=by
 rw[List.drop_eq_getElem_cons a,lW,lV a];rfl
theorem zKG (w:World)(X:Nat->Prop)(b:Nat)(s:ByteArray)(dv:Value)(r:Rx)(F:RxAt w b s dv r)(ah:s.size<=1048576)(aI:r.at_<=s.size)(D:Nat)(defs:List (ByteArray×Tr))(ai:DefsIn b X w D dv defs)(I:∀i,X i->i<b)(aJ:defs.length<=1000000):
  Calls prog 202 #[pX b] w (TrAns w X b s dv r D (zCX s r.at_ defs)):=by
 have aj:=F.lt;obtain⟨ao,cap,rfl,O,P,ak⟩:=ai;have al:=vl ak;obtain⟨-,c1,-,-,-,-⟩:=F.cells;have am:=vl F;have R:=vl aj;obtain⟨z,S⟩:∃z,z=zCX s r.at_ defs:=⟨_,rfl⟩
 have an:=vl S.symm;rw[<-S];go_in;go_wp2;go_loopg [11] defs.length (λq i wr=>∃j:Nat,q=defs.length-j/\j<=defs.length/\i=iX (j:Int)/\zCX s r.at_ (defs.drop j)=z/\RxAt wr b s (slice ao defs.length cap) r/\Keep w.heap.size b w wr)
 case atStart=>exact⟨0,rfl,lX,rfl,an,am,Keep.refl _ _ _⟩
 case round=>
  obtain⟨j,T,aK,rfl,J,U,C⟩:=hrel;have m:Hid (gk=defs.length-j/\RxAt wr b s (slice ao defs.length cap) r/\Keep w.heap.size b w wr):=⟨T,U,C⟩
  by_cases V:j<defs.length
  ·have ap:(j:Int)<(defs.length:Int):=by omega
   obtain⟨g,o,p,rfl,aq,ar,au,av,f,aw⟩:=al j V;have W:=R.out;have Y:wr.heap[g]? =w.heap[g]? :=C.block g aq (kJ ar);have aa:=(gW Y).trans au;have K:=(gW Y).trans av;have t:Hid ((if zM s r.at_ (braced (defs.getD j (⟨#[]⟩,Tr.none)).1) then some ((defs.getD j (⟨#[]⟩,Tr.none)).2,r.at_+(braced (defs.getD j (⟨#[]⟩,Tr.none)).1).size) else zCX s r.at_ (defs.drop (j+1)))=z):=by
    show _=_;rw[<-zKH s r.at_ defs j V];exact J
   have ax:=vl <| f.go (C.agree λi A d=>⟨A,kJ (I i d)⟩);generalize defs.getD j (⟨#[]⟩,Tr.none)=ay at *;obtain⟨a,ab⟩:=ay;simp only at aa K aw;have E:Hid (∀w2 v,zM s r.at_ (braced a)=v->RxAt w2 b s (slice (some ⟨g,o,none⟩) defs.length cap) r->Ca 189 #[pX b,string (⟨#[123]⟩++a++⟨#[125]⟩)] w2 λe w'=>e=returned (bool v)/\RxAt w' b s (slice (some ⟨g,o,none⟩) defs.length cap) {r with at_:=if v then r.at_+(braced a).size else r.at_}/\∀H,Keep H b w2 w'):=λw2 v az aA=>zAs (r:=r) (x:=r.at_) (braced a) ah (by omega) (by rw[zCo];omega) az rfl aA;have aB:=zCo a;have aC:Hid (braced a=⟨#[123]⟩++a++⟨#[125]⟩):=rfl;have aD:w.heap.size<=wr.heap.size:=m.2.2.size;obtain⟨c,ac,L,aL,aE,ad⟩:∃c,c=wr.alloc (.cells #[string a,pX p] 233)/\Hid (RxAt c b s (slice (some ⟨g,o,none⟩) defs.length cap) r/\TreeIn (λi=>X i\/w.heap.size<=i) c D p ab)/\c.cell? ⟨wr.heap.size,0,none⟩=some (string a)/\c.cell? ⟨wr.heap.size,1,none⟩=some (pX p)/\Hid (Keep w.heap.size b w c):=by
    have ae:=gY wr (.cells #[string a,pX p] 233);refine⟨_,rfl,⟨RxAt.of_block m.2.1 (lG _ _ _ (by omega)),ax.step ((kZ (H:=wr.heap.size) (b:=b) _ _ lQ).agree λi A d=>⟨A,kJ (I i d)⟩) λi _ d=>.inl d⟩,?_,?_,m.2.2.trans (kZ _ _ aD)⟩
    ·unfold cell?;rw[ae];rfl
    ·unfold cell?;rw[ae];rfl
   apply wp_cut;intro af u;go_wp2;apply u.out;apply wp_cut;intro af u;go_wp2;apply u.out;apply wp_cut;intro aM ag;refine wp_block ?_;apply wp_cut;intro af u;go_wp2;apply u.out;clear u;rw[<-ac];clear ac aa K;have aN:((⟨#[123]⟩:ByteArray)).size=1:=rfl;have aO:((⟨#[125]⟩:ByteArray)).size=1:=rfl;clear O P aB aC;cases f:zM s r.at_ (braced a) with
   |true=>
    have B:=E c true f L.1;have M:=vl B;rw[f] at t;have y:=vl t.symm;rw[y.out];have W:=R.out;have aF:Hid (∀k,(∀H,Keep H b c k)->TreeIn (λi=>X i\/w.heap.size<=i) k (D+4*(r.at_+(braced a).size)) p ab/\Keep w.heap.size b w k/\k.cell? ⟨wr.heap.size,1,none⟩=some (pX p)):=λk l=>by
     refine⟨((L.2.go ((l c.heap.size).agree λi A d=>⟨A,by rcases d with d|d;exact kJ (I i d);omega⟩))).deep (by omega),ad.trans (l _),?_⟩;exact(gW ((l (wr.heap.size+1)).block wr.heap.size (by omega) (by omega))).trans aE
    generalize (braced a).size=bs at *;clear f B E t y W;go_wp2_with (go_at_call 189;refine M.mono ?_;rintro e k ⟨rfl,N,l⟩;have ⟨aG,aH,K⟩:=aF k l)
    refine gJ (results_tmp2 rfl _ _ _) rfl ?_;exact⟨aH,p,rfl,aG,N⟩
   |false=>
    have B:=E c false f L.1;have M:=vl B;rw[f] at t;have y:=vl t;clear f B E t;go_wp2_with (go_at_call 189;refine M.mono ?_;rintro e k ⟨rfl,N,l⟩)
    apply ag.out;clear ag;go_wp2;go_roundg (defs.length-(j+1))
    case measure=>rw[m.out.1];omega
    case rel=>exact⟨j+1,rfl,by omega,by go_num,y,N,ad.trans (l _)⟩
  ·have ap:(defs.length:Int)<=(j:Int):=by omega
   have y:Hid (z=none):=by
    show _=_;rw[<-J,List.drop_eq_nil_of_le (by omega)];rfl
   clear T U C O P J;go_wp2;rw[y.out];refine gJ (results_tmp2 rfl _ _ _) rfl ?_;exact⟨m.2.2,none,r.at_,rfl,m.2.1⟩
section
variable (X:Nat->Prop) (b:Nat) (s:ByteArray) (dv:Value)
def zAQ (fn:Nat)(X:Nat->Prop)(b:Nat)(s:ByteArray)(dv:Value)(D0:Nat)(defs:List (ByteArray×Tr))(D k:Nat)(M:Reads):Prop:=
 ∀w r,RxAt w b s dv r->DefsIn b X w D0 dv defs->r.depth+k=8->r.at_<=s.size->Calls prog fn #[pointer (some ⟨b,0,none⟩)] w (TrAns w X b s dv r D (M r.at_ r.both))
theorem zJV {X f:Nat->Prop}{b:Nat}{s:ByteArray}{dv:Value}{w a:World}{r:Rx}{D q:Nat}{u:Value}{c:Cs}(o:b<w.heap.size)(t:0<q)(j:RxAt a b s dv {r with at_:=q})(k:RangesIn f a u c.ranges)(l:∀i,f i->w.heap.size<=i)(g:Keep w.heap.size b w a):Hid (Calls prog 205 #[agg #[u,bool c.others]] a λe w'=>∃p,e=returned (pX p)/\TreeIn (λi=>X i\/w.heap.size<=i) w' (D+4*q) p (zH2 c)/\RxAt w' b s dv {r with at_:=q}/\Keep w.heap.size b w w'):=by
 have v:=g.size;refine(zGF a _ _ c k).mono ?_;rintro e x ⟨p,rfl,m,h⟩;refine⟨p,rfl,?_,RxAt.of_block j (h.block b (by omega) (by omega)),g.trans (h.lower (by omega) (by omega))⟩;have:=m (D+4*q-1);rw[show D+4*q-1+1=D+4*q by omega] at this;exact this.mono λi _ d=>by
  rcases d with d|d
  ·exact .inr (l i d.1)
  ·exact .inr (by omega)
theorem zQw (c:s.size<=1048576)(D:Nat)(w:World)(r:Rx)(a:RxAt w b s dv r)(f:r.at_<=s.size)(x:byt s r.at_≠40)(y:byt s r.at_≠123)(g:jZ s r.at_=none):
  Calls prog 196 #[pX b] w (TrAns w X b s dv r D none):=by
 have j:=vl <| qW w b s dv r a c (by omega) 0 (by omega);have k:Hid (Ca 203 #[pX b] w (zAL w b s dv r none)):=by have:=zD3 w b s dv r a c f;rw[g] at this;exact this
 have l:=vl a.lt;generalize byt s r.at_=c0 at *;have z:((c0:Int)==40)=false:=by rw[hX];omega
 have A:((c0:Int)==123)=false:=by rw[hX];omega
 go_in;go_wp2_with (first|(go_at_call 200;refine j.mono ?_;rintro e B ⟨rfl,m⟩;have p:=m.symm;subst p)|(go_at_call 203;refine k.mono ?_;rintro e w2 ⟨d,v,n,C,o,q,rfl,t⟩))
 refine gJ (results_tmp2 rfl _ _ _) rfl ?_;have E:=l.out;have u:=d.size;refine⟨d.trans (kZ _ _ u),none,q,rfl,RxAt.of_block t (lG _ _ _ (by omega))⟩
theorem zQv (k:s.size<=1048576)(D:Nat)(w:World)(r:Rx)(g:RxAt w b s dv r)(F:r.at_<=s.size)(Y:byt s r.at_≠40)(aa:byt s r.at_≠123)(c:Cs)(q:Nat)(l:jZ s r.at_=some (c,q))(G:r.both=false):
  Calls prog 196 #[pX b] w (TrAns w X b s dv r D (some (zH2 c,q))):=by
 have H:=vl <| qW w b s dv r g k (by omega) 0 (by omega);have I:Hid (Ca 203 #[pX b] w (zAL w b s dv r (some (c,q)))):=by have:=zD3 w b s dv r g k F;rw[l] at this;exact this
 have m:Hid (b<w.heap.size/\0<q/\c.ranges.length<=3000000):=⟨g.lt,by have:=(zDv s k _ _ _ l).1;omega,(zDv s k _ _ _ l).2.2.1⟩
 generalize byt s r.at_=c0 at *;have ab:((c0:Int)==40)=false:=by rw[hX];omega
 have ac:((c0:Int)==123)=false:=by rw[hX];omega
 have J:=vl G;go_in;apply wp_cut;intro o f;go_wp2;apply f.out;apply wp_cut;intro o f;go_wp2_with (go_at_call 200;refine H.mono ?_;rintro e ad ⟨rfl,K⟩;have L:=K.symm;subst L)
 apply f.out;apply wp_cut;intro o f;go_wp2_with (go_at_call 203;refine I.mono ?_;rintro e w2 ⟨t,u,rfl,v,y⟩;obtain⟨ao,cap,M,-⟩:=v.at;subst M)
 apply f.out;obtain⟨d,z,N,O,ae,j⟩:∃d,d=w2.alloc (.cells #[slice ao c.ranges.length cap,bool c.others] 161)/\d.cell? ⟨w2.heap.size,0,none⟩=some (slice ao c.ranges.length cap)/\d.cell? ⟨w2.heap.size,1,none⟩=some (bool c.others)/\d.cell? ⟨b,4,none⟩=some (bool false)/\Hid (RxAt d b s dv {r with at_:=q}/\RangesIn (λi=>w.heap.size<=i/\i≠w2.heap.size) d (slice ao c.ranges.length cap) c.ranges/\Keep w.heap.size b w d/\d.heap.size=w2.heap.size+1/\w.heap.size<=w2.heap.size/\d.heap[w2.heap.size]? =some (.cells #[slice ao c.ranges.length cap,bool c.others] 161)):=by
  have af:=m.1;have A:=t.size;have x:=gY w2 (.cells #[slice ao c.ranges.length cap,bool c.others] 161);have C:RxAt (w2.alloc (.cells #[slice ao c.ranges.length cap,bool c.others] 161)) b s dv {r with at_:=q}:=RxAt.of_block y (lG _ _ _ (by omega));refine⟨_,rfl,?_,?_,?_,C,λP a=>v P ⟨a.os,a.output,lY (by simp) a.size,λi R S=>(a.block i (by simp;omega) ⟨S,by omega⟩).trans (lG _ _ _ R)⟩,t.trans (kZ _ _ A),by simp,A,x⟩
  ·unfold cell?;rw[x];rfl
  ·unfold cell?;rw[x];rfl
  ·have:=C.cells.2.2.2.2.1
   rw[<-J.out];exact this
 rw[<-z];clear z t v y;obtain⟨B,E⟩:∃B,B=w2.heap.size:=⟨_,rfl⟩
 rw[<-E] at N O j ⊢;clear E;apply wp_cut;intro o f;go_wp2;apply f.out;clear f;have T:=zJV (X:=X) (D:=D) m.1 m.2.1 j.1 j.2.1 (λi g=>g.1) j.2.2.1;clear j;go_wp2_with (go_at_call 205;refine T.mono ?_;rintro e ag ⟨p,rfl,U,V,W⟩)
 refine gJ (results_tmp2 rfl _ _ _) rfl ?_;exact⟨W,p,rfl,U,V⟩
theorem zQx (z:s.size<=1048576)(D:Nat)(w:World)(r:Rx)(v:RxAt w b s dv r)(ab:r.at_<=s.size)(aA:byt s r.at_≠40)(aB:byt s r.at_≠123)(c:Cs)(q:Nat)(F:jZ s r.at_=some (c,q))(ac:r.both=true):
  Calls prog 196 #[pX b] w (TrAns w X b s dv r D (some (zH2 ⟨qS c.ranges,c.others⟩,q))):=by
 have ad:=vl <| qW w b s dv r v z (by omega) 0 (by omega);have ae:Hid (Ca 203 #[pX b] w (zAL w b s dv r (some (c,q)))):=by have:=zD3 w b s dv r v z ab;rw[F] at this;exact this
 have x:Hid (b<w.heap.size/\0<q/\c.ranges.length<=3000000):=⟨v.lt,by have:=(zDv s z _ _ _ F).1;omega,(zDv s z _ _ _ F).2.2.1⟩
 generalize byt s r.at_=c0 at *;have aC:((c0:Int)==40)=false:=by rw[hX];omega
 have aD:((c0:Int)==123)=false:=by rw[hX];omega
 have af:=vl ac;go_in;apply wp_cut;intro A d;go_wp2;apply d.out;apply wp_cut;intro A d;go_wp2_with (go_at_call 200;refine ad.mono ?_;rintro e aE ⟨rfl,ag⟩;have ah:=ag.symm;subst ah)
 apply d.out;clear d;apply wp_cut;intro A d;go_wp2_with (go_at_call 203;refine ae.mono ?_;rintro e w2 ⟨G,u,rfl,H,O⟩;obtain⟨ao,cap,ai,-⟩:=H.at;subst ai)
 apply d.out;clear d;obtain⟨f,P,R,S,aF,l⟩:∃f,f=w2.alloc (.cells #[slice ao c.ranges.length cap,bool c.others] 161)/\f.cell? ⟨w2.heap.size,0,none⟩=some (slice ao c.ranges.length cap)/\f.cell? ⟨w2.heap.size,1,none⟩=some (bool c.others)/\f.cell? ⟨b,4,none⟩=some (bool true)/\Hid (RxAt f b s dv {r with at_:=q}/\RangesIn (λi=>w.heap.size<=i/\i≠w2.heap.size) f (slice ao c.ranges.length cap) c.ranges/\Keep w.heap.size b w f/\f.heap.size=w2.heap.size+1/\w.heap.size<=w2.heap.size/\f.heap[w2.heap.size]? =some (.cells #[slice ao c.ranges.length cap,bool c.others] 161)):=by
  have aj:=x.1;have T:=G.size;have I:=gY w2 (.cells #[slice ao c.ranges.length cap,bool c.others] 161);have C:RxAt (w2.alloc (.cells #[slice ao c.ranges.length cap,bool c.others] 161)) b s dv {r with at_:=q}:=RxAt.of_block O (lG _ _ _ (by omega));refine⟨_,rfl,?_,?_,?_,C,λak a=>H ak ⟨a.os,a.output,lY (by simp) a.size,λi al J=>(a.block i (by simp;omega) ⟨J,by omega⟩).trans (lG _ _ _ al)⟩,G.trans (kZ _ _ T),by simp,T,I⟩
  ·unfold cell?;rw[I];rfl
  ·unfold cell?;rw[I];rfl
  ·have:=C.cells.2.2.2.2.1
   rw[<-af.out];exact this
 rw[<-P];clear P G H O;obtain⟨B,U⟩:∃B,B=w2.heap.size:=⟨_,rfl⟩
 rw[<-U] at R S l ⊢;clear U;apply wp_cut;intro A d;go_wp2;apply d.out;clear d;have V:=vl <| zE3 f _ c.ranges c.others l.2.1.at (by have:=x.2.2;omega)
 apply wp_cut;intro A d;go_wp2_with (go_at_call 204;refine V.mono ?_;rintro e g ⟨u5,rfl,K,y⟩;obtain⟨m,o,am,-⟩:=K.at;subst am;have t:=(y.block B (by have:=l.2.2.2.1;omega) (by have:=l.2.2.2.1;omega)).trans l.2.2.2.2.2;have an:g.cell? ⟨B,0,none⟩=some (slice ao c.ranges.length cap):=(by unfold cell?;rw[t];rfl);have ap:g.cell? ⟨B,1,none⟩=some (bool c.others):=(by unfold cell?;rw[t];rfl);have aq:g.frozen? ⟨B,0,none⟩=false:=(by unfold frozen?;rw[t];rfl);have ar:g.frozen? ⟨B,1,none⟩=false:=(by unfold frozen?;rw[t];rfl);have W:=vl t;clear t)
 apply d.out;clear d;obtain⟨j,Y,aG,aH,E⟩:∃j,j=(g.setCell ⟨B,0,none⟩ (slice m (qS c.ranges).length o)).setCell ⟨B,1,none⟩ (bool c.others)/\j.cell? ⟨B,0,none⟩=some (slice m (qS c.ranges).length o)/\j.cell? ⟨B,1,none⟩=some (bool c.others)/\Hid (RxAt j b s dv {r with at_:=q}/\RangesIn (λi=>w.heap.size<=i) j (slice m (qS c.ranges).length o) (qS c.ranges)/\Keep w.heap.size b w j/\w.heap.size<=j.heap.size):=by
  have ⟨C,aI,au,aJ,aK,aL⟩:=l.out;have aj:=x.1;have aa:((g.setCell ⟨B,0,none⟩ (slice m (qS c.ranges).length o)).setCell ⟨B,1,none⟩ (bool c.others)).heap[B]? =some (.cells #[slice m (qS c.ranges).length o,bool c.others] 161):=by
   simp[setCell,lU,W.out]
  have M:∀i,i≠B->((g.setCell ⟨B,0,none⟩ (slice m (qS c.ranges).length o)).setCell ⟨B,1,none⟩ (bool c.others)).heap[i]? =g.heap[i]? :=λi av=>by
   simp[setCell,lU,Ne.symm av]
  have aM:=y.size;have N:((g.setCell ⟨B,0,none⟩ (slice m (qS c.ranges).length o)).setCell ⟨B,1,none⟩ (bool c.others)).heap.size=g.heap.size:=by simp[World.setCell]
  refine⟨_,rfl,?_,?_,RxAt.of_block C ((M b (by omega)).trans (y.block b (by omega) (by omega))),RangesIn.mono (X:=λi=>f.heap.size<=i) (K.go ⟨rfl,rfl,by rw[N];omega,λi _ J=>M i (by omega)⟩) (λi _ J=>by omega),(au.trans (y.lower (by omega) (by omega))).trans ⟨rfl,rfl,by rw[N];omega,λk aN _=>M k (by omega)⟩,by rw[N];omega⟩
  ·unfold cell?;rw[aa];rfl
  ·unfold cell?;rw[aa];rfl
 rw[<-Y];clear Y K y an ap aq ar R S;have aw:=zJV (X:=X) (D:=D) (c:=⟨qS c.ranges,c.others⟩) x.1 x.2.1 E.1 E.2.1 (λi v=>v) E.2.2.1;clear l E V W;generalize qS c.ranges=aO at *;go_wp2_with (go_at_call 205;refine aw.mono ?_;rintro e aP ⟨p,rfl,ax,ay,az⟩)
 refine gJ (results_tmp2 rfl _ _ _) rfl ?_;exact⟨az,p,rfl,ax,ay⟩
theorem TrAns.any {w w':World}{X:Nat->Prop}{b:Nat}{s:ByteArray}{dv:Value}{r:Rx}{D:Nat}{a:Option (Tr×Nat)}{e:Ending}(f:TrAns w X b s dv r D a e w'):∃(v:Option Addr) (q:Nat) (k:Bool),e=returned (tuple #[pointer v,bool k])/\RxAt w' b s dv {r with at_:=q}/\Hid (Keep w.heap.size b w w'/\(k=false/\a=none\/k=true/\∃p t,v=some ⟨p,0,none⟩/\a=some (t,q)/\TreeIn (λi=>X i\/w.heap.size<=i) w' (D+4*q) p t)):=by
 cases a with
 |none=>
  obtain⟨c,v,q,rfl,d⟩:=f;exact⟨v,q,false,rfl,d,c,.inl ⟨rfl,rfl⟩⟩
 |some g=>
  obtain⟨t,q⟩:=g;obtain⟨c,p,rfl,j,d⟩:=f;exact⟨_,q,true,rfl,d,c,.inr ⟨rfl,p,t,rfl,rfl,j⟩⟩
theorem zPG (f:s.size<=1048576)(D:Nat)(w:World)(r:Rx)(g:RxAt w b s dv r)(t:r.at_<=s.size)(j:byt s r.at_=40)(a:Option (Tr×Nat))(l:Calls prog 201 #[pX b] w (TrAns w X b s dv r D a)):
  Calls prog 196 #[pX b] w (TrAns w X b s dv r D a):=by
 have c:=vl ((zHZ f (by omega)) w g);rw[j] at c;have m:=vl l;go_in;go_wp2_with (first|(go_at_call 200;refine c.mono ?_;rintro e u ⟨rfl,o⟩;have p:=o.symm;subst p)|(go_at_call 201;refine m.mono ?_;rintro e w2 d;obtain⟨v,q,k,rfl,-,-⟩:=TrAns.any d))
 refine gJ (results_tmp2 rfl _ _ _) rfl ?_;exact d
theorem zPF (f:s.size<=1048576)(D:Nat)(w:World)(r:Rx)(g:RxAt w b s dv r)(t:r.at_<=s.size)(j:byt s r.at_=123)(a:Option (Tr×Nat))(l:Calls prog 202 #[pX b] w (TrAns w X b s dv r D a)):
  Calls prog 196 #[pX b] w (TrAns w X b s dv r D a):=by
 have c:=vl ((zHZ f (by omega)) w g);rw[j] at c;have m:=vl l;go_in;go_wp2_with (first|(go_at_call 200;refine c.mono ?_;rintro e u ⟨rfl,o⟩;have p:=o.symm;subst p)|(go_at_call 202;refine m.mono ?_;rintro e w2 d;obtain⟨v,q,k,rfl,-,-⟩:=TrAns.any d))
 refine gJ (results_tmp2 rfl _ _ _) rfl ?_;exact d
theorem zGm (f:s.size<=1048576)(t:∀i,X i->i<b)(D:Nat)(defs:List (ByteArray×Tr))(u:defs.length<=1000000)(k:Nat)(m:Reads)(v:∀w r,RxAt w b s dv r->DefsIn b X w D dv defs->r.depth+k=8->r.at_<=s.size->byt s r.at_=40->Calls prog 201 #[pX b] w (TrAns w X b s dv r D (brM s k m r.at_ r.both))):
  zAQ 196 X b s dv D defs D k (zDR s defs k m):=λw r a o x d=>by
 unfold zDR;by_cases e:byt s r.at_=40
 ·rw[if_pos e]
  exact zPG X b s dv f D w r a d e _ (v w r a o x d e)
 rw[if_neg e];by_cases j:byt s r.at_=123
 ·rw[if_pos j]
  exact zPF X b s dv f D w r a d j _ (zKG w X b s dv r a f d D defs o t u)
 rw[if_neg j];cases l:jZ s r.at_ with
 |none=>exact zQw X b s dv f D w r a d e j l
 |some g=>
  obtain⟨c,q⟩:=g;cases p:r.both with
  |false=>exact zQv X b s dv f D w r a d e j c q l p
  |true=>exact zQx X b s dv f D w r a d e j c q l p
end
section
section
variable {w:World} {b:Nat} {s:ByteArray} {dv:Value} {r:Rx}
theorem RxAt.setDepth (a:RxAt w b s dv r)(n:Nat):RxAt (w.setCell ⟨b,3,none⟩ (iX (n:Int))) b s dv {r with depth:=n}:=by
 unfold RxAt at *;simp[setCell,lU,a]
theorem RxAt.setBoth (a:RxAt w b s dv r)(x:Bool):RxAt (w.setCell ⟨b,4,none⟩ (bool x)) b s dv {r with both:=x}:=by
 unfold RxAt at *;simp[setCell,lU,a]
end
theorem zPC (X:Nat->Prop)(b:Nat)(s:ByteArray)(dv:Value)(D:Nat)(w:World)(r:Rx)(a:RxAt w b s dv r)(d:r.depth=8):Calls prog 201 #[pX b] w (TrAns w X b s dv r D (none)):=by
 obtain⟨-,-,-,c,-,-⟩:=a.cells;rw[d] at c;have f:=c;have e:=vl a;go_in;go_wp2;refine gJ (results_tmp2 rfl _ _ _) rfl ?_;exact⟨Keep.refl _ _ _,none,r.at_,rfl,e⟩
theorem zOD (X:Nat->Prop)(b:Nat)(s:ByteArray)(dv:Value)(f:s.size<=1048576)(D:Nat)(w:World)(r:Rx)(a:RxAt w b s dv r)(m:r.depth<=7)(o:r.at_<=s.size)(g:zM s r.at_ ⟨#[40,41]⟩=true):Calls prog 201 #[pX b] w (TrAns w X b s dv r D (some (Tr.none,r.at_+2))):=by
 obtain⟨-,-,-,p,-,-⟩:=a.cells;have j:=vl a.lt;have q:(r.depth:Int)<8:=by omega
 have k:=vl (zAs (r:=r) (x:=r.at_) (y:=r.at_+2) ⟨#[40,41]⟩ f (by omega) (by decide) g rfl a);go_in;go_wp2_with (go_at_call 189;refine k.mono ?_;rintro e w1 ⟨rfl,l,c⟩)
 refine gJ (results_tmp2 rfl _ _ _) rfl ?_;have t:=j.out;have d:=(c 0).size;refine⟨(c _).trans (kZ _ _ d),_,rfl,?_,RxAt.of_block l (lG _ _ _ (by omega))⟩;rw[show D+4*(r.at_+2)=D+4*r.at_+7+1 by omega];exact zJD (gY _ _) (.inr d)
def zPQ (s:ByteArray):Option (Tr×Nat)->Option (Tr×Nat)
 |none=>none
 |some (t,q)=>if zM s q ⟨#[41]⟩ then some (t,q+1) else none
theorem zQV (X:Nat->Prop)(b:Nat)(s:ByteArray)(dv:Value)(hs:s.size<=1048576)(hH:∀i,X i->i<b)(D:Nat)(w:World)(r:Rx)(h:RxAt w b s dv r)(hdp:r.depth<=7)(ha:r.at_<s.size)(h0:zM s r.at_ ⟨#[40,41]⟩=false)(h1:zM s r.at_ ⟨#[40,105,58]⟩=true)(m:Option (Tr×Nat))(hsub:∀w4,RxAt w4 b s dv ⟨r.at_+3,r.depth+1,true⟩->Keep w.heap.size b w w4->Calls prog 182 #[pX b] w4 (TrAns w4 X b s dv ⟨r.at_+3,r.depth+1,true⟩ (D+2) m))(hq:∀t q,m=some (t,q)->q<=s.size):Calls prog 201 #[pX b] w (TrAns w X b s dv r D (zPQ s m)):=by
 obtain⟨-,-,-,c3,c4,-⟩:=h.cells;have HLB:=vl h.lt;have i8:(r.depth:Int)<8:=by omega
 have HT0:=vl (zAs (r:=r) (x:=r.at_) (y:=r.at_) ⟨#[40,41]⟩ hs (by omega) (by decide) h0 rfl h);have HT1:=zKf (b:=b) (dv:=dv) (r:=r) (y:=r.at_+3) h1 hs (by omega) (by decide) rfl;have HSB:=vl hsub;have HQ:=vl hq;go_in;apply wp_cut;intro K0 HK0;go_wp2;apply HK0.out;apply wp_cut;intro K0 HK0;go_wp2;apply HK0.out;apply wp_cut;intro K0 HK0;go_wp2_with (first|(go_at_call 189;refine HT0.out.mono ?_;rintro e w1 ⟨rfl,hR1,hk1⟩))
 apply HK0.out;have d4:w1.cell? ⟨b,4,none⟩=some (bool r.both):=hR1.cells.2.2.2.2.1;clear c3 c4;apply wp_cut;intro K0 HK0;go_wp2;apply HK0.out;clear HK0;clear d4;apply wp_cut;intro K0 HK0;go_wp2_with (first|(go_at_call 189;refine(HT1.out w1 hR1).mono ?_;rintro e w2 ⟨rfl,hR2,hk2⟩;have d4:w2.cell? ⟨b,4,none⟩=some (bool r.both):=hR2.cells.2.2.2.2.1;have f4:=hR2.cells.2.2.2.2.2 4))
 apply HK0.out;clear HK0;obtain⟨w3,hw3,hR3,hk3⟩:∃w3,w3=w2.setCell ⟨b,4,none⟩ tX/\RxAt w3 b s dv ⟨r.at_+3,r.depth,true⟩/\Hid (Keep w.heap.size b w w3):=⟨_,rfl,hR2.setBoth true,((hk1 _).trans (hk2 _)).trans (Keep.set _ _ _)⟩
 rw[<-hw3];clear hw3 hR1 hR2 hk1 hk2 d4 f4;have d3:w3.cell? ⟨b,3,none⟩=some (iX (r.depth:Int)):=hR3.cells.2.2.2.1;have f3:=hR3.cells.2.2.2.2.2 3;apply wp_cut;intro K0 HK0;go_wp2;apply HK0.out;clear HK0;obtain⟨w4,hw4,hR4,hk4⟩:∃w4,w4=w3.setCell ⟨b,3,none⟩ (iX ((r.depth:Int)+1))/\RxAt w4 b s dv ⟨r.at_+3,r.depth+1,true⟩/\Hid (Keep w.heap.size b w w4):=⟨_,rfl,hR3.setDepth (r.depth+1),hk3.out.trans (Keep.set _ _ _)⟩
 rw[<-hw4];clear hw4 hR3 hk3 d3 f3;have HEJ:=vl (HSB.out w4 hR4 hk4.out);clear HSB;apply wp_cut;intro K0 HK0;go_wp2_with (first|(go_at_call 182;refine HEJ.out.mono ?_;rintro e w5 ha5;obtain⟨v,q,kk,rfl,hR5,HH⟩:=TrAns.any ha5;clear ha5))
 apply HK0.out;clear HK0;have d3:w5.cell? ⟨b,3,none⟩=some (iX ((r.depth:Int)+1)):=hR5.cells.2.2.2.1;have f3:=hR5.cells.2.2.2.2.2 3;apply wp_cut;intro K0 HK0;go_wp2;apply HK0.out;clear HK0;obtain⟨w6,hw6,hR6,HK6⟩:∃w6,w6=w5.setCell ⟨b,3,none⟩ (iX (r.depth:Int))/\RxAt w6 b s dv ⟨q,r.depth,true⟩/\Hid (∀H,Keep H b w5 w6):=⟨_,rfl,hR5.setDepth r.depth,λH=>Keep.set _ _ _⟩
 rw[<-hw6];clear hw6 d3 f3 hR5;have d4:w6.cell? ⟨b,4,none⟩=some tX:=hR6.cells.2.2.2.2.1;have f4:=hR6.cells.2.2.2.2.2 4;apply wp_cut;intro K0 HK0;go_wp2;apply HK0.out;clear HK0;obtain⟨w7,hw7,hR7,HK7⟩:∃w7,w7=w6.setCell ⟨b,4,none⟩ (bool r.both)/\RxAt w7 b s dv {r with at_:=q}/\Hid (∀H,Keep H b w5 w7):=⟨_,rfl,hR6.setBoth r.both,λH=>(HK6.out H).trans (Keep.set _ _ _)⟩
 rw[<-hw7];clear hw7 d4 f4 hR6 HK6;obtain⟨hk5,hkk⟩:=HH.out;have HKA:Hid (Keep w.heap.size b w w7):=by
  have h1:=hk4.out.size;exact(hk4.out.trans ⟨hk5.os,hk5.output,hk5.size,λk h1 h2=>hk5.block k (by omega) h2⟩).trans (HK7.out _)
 rcases hkk with⟨rfl,rfl⟩|⟨rfl,p,t,rfl,rfl,ht5⟩
 ·clear hk5 HK7 hk4 hR4 HH
  go_wp2;refine gJ (results_tmp2 rfl _ _ _) rfl ?_;exact⟨HKA.out,none,q,rfl,hR7⟩
 have HTR:Hid (∀w8,(∀H,Keep H b w7 w8)->TreeIn (λi=>X i\/w.heap.size<=i) w8 (D+4*(q+1)) p t):=λw8 hk8=>by
  have hb:=HLB.out;have h1:=hk4.out.size;refine(((ht5.go ((HK7.out w5.heap.size).agree λi hi hx=>⟨hi,by rcases hx with hx|hx;exact kJ (hH i hx);omega⟩)).go ((hk8 w7.heap.size).agree λi hi hx=>⟨hi,by rcases hx with hx|hx;exact kJ (hH i hx);omega⟩)).mono λi _ hx=>?_).deep (by omega);rcases hx with hx|hx
  ·exact .inl hx
  ·exact .inr (by omega)
 have hq:=HQ.out t q rfl;clear ht5 hk5 HK7 hk4 hR4 HH;show Code.wp _ _ (bodyPost _ _ (TrAns w X b s dv r D (if zM s q ⟨#[41]⟩ then some (t,q+1) else none))) _ _;cases h2:zM s q ⟨#[41]⟩ with
 |true=>
  go_wp2_with (first|(go_at_call 189;refine(zAs (r:=r) (x:=q) (y:=q+1) ⟨#[41]⟩ hs (by omega) (by decide) h2 rfl hR7).mono ?_;rintro e w8 ⟨rfl,hR8,hk8⟩))
  refine gJ (results_tmp2 rfl _ _ _) rfl ?_;exact⟨HKA.out.trans (hk8 _),p,rfl,HTR.out w8 hk8,hR8⟩
 |false=>
  go_wp2_with (first|(go_at_call 189;refine(zAs (r:=r) (x:=q) (y:=q) ⟨#[41]⟩ hs (by omega) (by decide) h2 rfl hR7).mono ?_;rintro e w8 ⟨rfl,hR8,hk8⟩))
  refine gJ (results_tmp2 rfl _ _ _) rfl ?_;exact⟨HKA.out.trans (hk8 _),none,q,rfl,hR8⟩
theorem zQU (X:Nat->Prop)(b:Nat)(s:ByteArray)(dv:Value)(hs:s.size<=1048576)(hH:∀i,X i->i<b)(D:Nat)(w:World)(r:Rx)(h:RxAt w b s dv r)(hdp:r.depth<=7)(ha:r.at_<s.size)(h0:zM s r.at_ ⟨#[40,41]⟩=false)(h1:zM s r.at_ ⟨#[40,105,58]⟩=false)(m:Option (Tr×Nat))(hsub:∀w4,RxAt w4 b s dv ⟨r.at_+1,r.depth+1,r.both⟩->Keep w.heap.size b w w4->Calls prog 182 #[pX b] w4 (TrAns w4 X b s dv ⟨r.at_+1,r.depth+1,r.both⟩ (D+2) m))(hq:∀t q,m=some (t,q)->q<=s.size):Calls prog 201 #[pX b] w (TrAns w X b s dv r D (zPQ s m)):=by
 obtain⟨-,-,-,c3,c4,-⟩:=h.cells;have HLB:=vl h.lt;have i8:(r.depth:Int)<8:=by omega
 have HT0:=vl (zAs (r:=r) (x:=r.at_) (y:=r.at_) ⟨#[40,41]⟩ hs (by omega) (by decide) h0 rfl h);have HT1:=zKf (b:=b) (dv:=dv) (r:=r) (y:=r.at_) h1 hs (by omega) (by decide) rfl;have HSB:=vl hsub;have HQ:=vl hq;go_in;apply wp_cut;intro K0 HK0;go_wp2;apply HK0.out;apply wp_cut;intro K0 HK0;go_wp2;apply HK0.out;apply wp_cut;intro K0 HK0;go_wp2_with (first|(go_at_call 189;refine HT0.out.mono ?_;rintro e w1 ⟨rfl,hR1,hk1⟩))
 apply HK0.out;have d4:w1.cell? ⟨b,4,none⟩=some (bool r.both):=hR1.cells.2.2.2.2.1;clear c3 c4;apply wp_cut;intro K0 HK0;go_wp2;apply HK0.out;clear HK0;clear d4;apply wp_cut;intro K0 HK0;go_wp2_with (first|(go_at_call 189;refine(HT1.out w1 hR1).mono ?_;rintro e w2 ⟨rfl,hR2,hk2⟩;have d2:w2.cell? ⟨b,2,none⟩=some (iX (r.at_:Int)):=hR2.cells.2.2.1;have f2:=hR2.cells.2.2.2.2.2 2))
 apply HK0.out;clear HK0;obtain⟨w3,hw3,hR3,hk3⟩:∃w3,w3=w2.setCell ⟨b,2,none⟩ (iX ((r.at_:Int)+1))/\RxAt w3 b s dv ⟨r.at_+1,r.depth,r.both⟩/\Hid (Keep w.heap.size b w w3):=⟨_,rfl,hR2.setAt (r.at_+1),((hk1 _).trans (hk2 _)).trans (Keep.set _ _ _)⟩
 rw[<-hw3];clear hw3 hR1 hR2 hk1 hk2 d2 f2;have d3:w3.cell? ⟨b,3,none⟩=some (iX (r.depth:Int)):=hR3.cells.2.2.2.1;have f3:=hR3.cells.2.2.2.2.2 3;apply wp_cut;intro K0 HK0;go_wp2;apply HK0.out;clear HK0;obtain⟨w4,hw4,hR4,hk4⟩:∃w4,w4=w3.setCell ⟨b,3,none⟩ (iX ((r.depth:Int)+1))/\RxAt w4 b s dv ⟨r.at_+1,r.depth+1,r.both⟩/\Hid (Keep w.heap.size b w w4):=⟨_,rfl,hR3.setDepth (r.depth+1),hk3.out.trans (Keep.set _ _ _)⟩
 rw[<-hw4];clear hw4 hR3 hk3 d3 f3;have HEJ:=vl (HSB.out w4 hR4 hk4.out);clear HSB;apply wp_cut;intro K0 HK0;go_wp2_with (first|(go_at_call 182;refine HEJ.out.mono ?_;rintro e w5 ha5;obtain⟨v,q,kk,rfl,hR5,HH⟩:=TrAns.any ha5;clear ha5))
 apply HK0.out;clear HK0;have d3:w5.cell? ⟨b,3,none⟩=some (iX ((r.depth:Int)+1)):=hR5.cells.2.2.2.1;have f3:=hR5.cells.2.2.2.2.2 3;apply wp_cut;intro K0 HK0;go_wp2;apply HK0.out;clear HK0;obtain⟨w6,hw6,hR6,HK6⟩:∃w6,w6=w5.setCell ⟨b,3,none⟩ (iX (r.depth:Int))/\RxAt w6 b s dv ⟨q,r.depth,r.both⟩/\Hid (∀H,Keep H b w5 w6):=⟨_,rfl,hR5.setDepth r.depth,λH=>Keep.set _ _ _⟩
 rw[<-hw6];clear hw6 d3 f3 hR5;have d4:w6.cell? ⟨b,4,none⟩=some (bool r.both):=hR6.cells.2.2.2.2.1;have f4:=hR6.cells.2.2.2.2.2 4;apply wp_cut;intro K0 HK0;go_wp2;apply HK0.out;clear HK0;obtain⟨w7,hw7,hR7,HK7⟩:∃w7,w7=w6.setCell ⟨b,4,none⟩ (bool r.both)/\RxAt w7 b s dv {r with at_:=q}/\Hid (∀H,Keep H b w5 w7):=⟨_,rfl,hR6.setBoth r.both,λH=>(HK6.out H).trans (Keep.set _ _ _)⟩
 rw[<-hw7];clear hw7 d4 f4 hR6 HK6;obtain⟨hk5,hkk⟩:=HH.out;have HKA:Hid (Keep w.heap.size b w w7):=by
  have h1:=hk4.out.size;exact(hk4.out.trans ⟨hk5.os,hk5.output,hk5.size,λk h1 h2=>hk5.block k (by omega) h2⟩).trans (HK7.out _)
 rcases hkk with⟨rfl,rfl⟩|⟨rfl,p,t,rfl,rfl,ht5⟩
 ·clear hk5 HK7 hk4 hR4 HH
  go_wp2;refine gJ (results_tmp2 rfl _ _ _) rfl ?_;exact⟨HKA.out,none,q,rfl,hR7⟩
 have HTR:Hid (∀w8,(∀H,Keep H b w7 w8)->TreeIn (λi=>X i\/w.heap.size<=i) w8 (D+4*(q+1)) p t):=λw8 hk8=>by
  have hb:=HLB.out;have h1:=hk4.out.size;refine(((ht5.go ((HK7.out w5.heap.size).agree λi hi hx=>⟨hi,by rcases hx with hx|hx;exact kJ (hH i hx);omega⟩)).go ((hk8 w7.heap.size).agree λi hi hx=>⟨hi,by rcases hx with hx|hx;exact kJ (hH i hx);omega⟩)).mono λi _ hx=>?_).deep (by omega);rcases hx with hx|hx
  ·exact .inl hx
  ·exact .inr (by omega)
 have hq:=HQ.out t q rfl;clear ht5 hk5 HK7 hk4 hR4 HH;show Code.wp _ _ (bodyPost _ _ (TrAns w X b s dv r D (if zM s q ⟨#[41]⟩ then some (t,q+1) else none))) _ _;cases h2:zM s q ⟨#[41]⟩ with
 |true=>
  go_wp2_with (first|(go_at_call 189;refine(zAs (r:=r) (x:=q) (y:=q+1) ⟨#[41]⟩ hs (by omega) (by decide) h2 rfl hR7).mono ?_;rintro e w8 ⟨rfl,hR8,hk8⟩))
  refine gJ (results_tmp2 rfl _ _ _) rfl ?_;exact⟨HKA.out.trans (hk8 _),p,rfl,HTR.out w8 hk8,hR8⟩
 |false=>
  go_wp2_with (first|(go_at_call 189;refine(zAs (r:=r) (x:=q) (y:=q) ⟨#[41]⟩ hs (by omega) (by decide) h2 rfl hR7).mono ?_;rintro e w8 ⟨rfl,hR8,hk8⟩))
  refine gJ (results_tmp2 rfl _ _ _) rfl ?_;exact⟨HKA.out.trans (hk8 _),none,q,rfl,hR8⟩
theorem zGO (X:Nat->Prop)(b:Nat)(s:ByteArray)(dv:Value)(d:s.size<=1048576)(e:∀i,X i->i<b)(D:Nat)(defs:List (ByteArray×Tr))(k:Nat)(f:Reads)(u:∀both,zCt s (D+2) λp=>f p both)(v:zAQ 182 X b s dv D defs (D+2) k f)(w:World)(r:Rx)(c:RxAt w b s dv r)(z:DefsIn b X w D dv defs)(E:r.depth+(k+1)=8)(F:byt s r.at_=40):
  Calls prog 201 #[pX b] w (TrAns w X b s dv r D (brM s (k+1) f r.at_ r.both)):=by
 have x:r.at_<s.size:=zCm (by omega);have G:=c.lt;have y:∀a,Keep w.heap.size b w a->DefsIn b X a D dv defs:=λa A=>z.go e (A.agree λi B C=>⟨B,kJ C⟩);unfold brM;rw[if_neg (by omega)];cases g:zM s r.at_ ⟨#[40,41]⟩ with
 |true=>exact zOD X b s dv d D w r c (by omega) (by omega) g
 |false=>
 rw[if_neg (by decide)];cases j:zM s r.at_ ⟨#[40,105,58]⟩ with
 |true=>exact zQV X b s dv d e D w r c (by omega) x g j _ (λa l m=>v a _ l (y a m) (by show r.depth+1+k=8;omega) (vS j:r.at_+3<=s.size)) λt q o=>(u _ _ _ _ o).2.1
 |false=>exact zQU X b s dv d e D w r c (by omega) x g j _ (λa l m=>v a _ l (y a m) (by show r.depth+1+k=8;omega) (by show r.at_+1<=_;omega)) λt q o=>(u _ _ _ _ o).2.1
end
def ThW (w:World)(X:Nat->Prop)(b:Nat)(s:ByteArray)(dv:Value)(r:Rx)(D:Nat)(G:Option (Tr×Nat))(n:Nat)(v4 v5:Value)(wr:World):Prop:=
 (∃f pos t p,n=f/\v4=pointer (some ⟨p,0,none⟩)/\v5=bool true/\pos<=s.size/\s.size+1-pos<=f/\zBz s f pos t=G/\TreeIn (λi=>X i\/w.heap.size<=i) wr (D+4*pos) p t/\TrOk (D+4*pos) t/\RxAt wr b s dv {r with at_:=pos}/\Keep w.heap.size b w wr)\/
 (∃x pos,v4=pointer x/\v5=bool false/\G=none/\n=0/\RxAt wr b s dv {r with at_:=pos}/\Keep w.heap.size b w wr)
theorem zL6 (w:World)(x y:Value)(c:Bool):∃a,a=w.alloc (.cells #[x,y,bool c] 163)/\a.cell? ⟨w.heap.size,0,none⟩=some x/\a.cell? ⟨w.heap.size,1,none⟩=some y/\a.cell? ⟨w.heap.size,2,none⟩=some (bool c)/\Hid (∀H b,H<=w.heap.size->Keep H b w a):=by
 have d:=gY w (.cells #[x,y,bool c] 163);refine⟨_,rfl,?_,?_,?_,λH b e=>kZ _ _ e⟩
 all_goals (unfold cell?;rw[d];rfl)
def zPL (s:ByteArray):Option (Tr×Nat)->Option (Tr×Nat)
 |none=>none
 |some (t,q)=>zBz s (s.size+1) q t
theorem zPo {w:World}{b:Nat}{s:ByteArray}{dv:Value}{r:Rx}(j:RxAt w b s dv r)(l:s.size<=1048576)(a:r.at_<=s.size):Hid (Calls prog 198 #[pX b] w λe w'=>∃(o:Tm) (q:Nat) (k:Bool),e=returned (tuple #[agg #[iX (o.least:Int),iX (o.most:Int),bool o.endless],bool k])/\Hid (o.least<=300/\o.most<=300/\RxAt w' b s dv {r with at_:=q}/\Keep w.heap.size b w w'/\(k=true/\zEj s r.at_=some (o,q)\/k=false/\zEj s r.at_=none))):=by
 refine(zF4 w b s dv r j l a).mono ?_;rintro e w' ⟨f,a⟩;cases c:zEj s r.at_ with
 |none=>
  rw[c] at a;obtain⟨q,rfl,d⟩:=a;exact⟨⟨0,0,false⟩,q,false,rfl,lX,lX,d,f,.inr ⟨rfl,rfl⟩⟩
 |some g=>
  obtain⟨o,q⟩:=g;rw[c] at a;obtain⟨rfl,d⟩:=a;have:=zIf s r.at_ o q c;exact⟨o,q,true,rfl,this.2.2.1,this.2.2.2,d,f,.inl ⟨rfl,rfl⟩⟩
theorem zOU (X:Nat->Prop)(b:Nat)(s:ByteArray)(dv:Value)(ai:s.size<=1048576)(au:∀i,X i->i<b)(D:Nat)(w:World)(r:Rx)(T:RxAt w b s dv r)(a:Option (Tr×Nat))(av:∀t q,a=some (t,q)->q<=s.size/\TrOk (D+4*q) t)(aw:Calls prog 196 #[pX b] w (TrAns w X b s dv r D a)):
  Calls prog 193 #[pX b] w (TrAns w X b s dv r D (zPL s a)):=by
 have aj:=vl T.lt;have ax:=vl aw;obtain⟨l,U⟩:∃l,l=zPL s a:=⟨_,rfl⟩
 have ay:Hid (∀e w2,TrAns w X b s dv r D a e w2->∃z A V,e=returned (tuple #[z,A])/\ThW w X b s dv r D l V z A w2):=λe w2 ak=>by
  cases a with
  |none=>
   obtain⟨W,v,q,rfl,Y⟩:=ak;exact⟨_,_,0,rfl,.inr ⟨v,q,rfl,rfl,U,rfl,Y,W⟩⟩
  |some g=>
   obtain⟨t0,al⟩:=g;obtain⟨W,p,rfl,az,Y⟩:=ak;have ⟨aA,aB⟩:=av t0 al rfl;exact⟨_,_,s.size+1,rfl,.inl ⟨s.size+1,al,t0,p,rfl,rfl,rfl,aA,by omega,U.symm,az,aB,Y,W⟩⟩
 rw[<-U];go_in;apply wp_cut;intro aC aa;go_wp2;apply aa.out;apply wp_cut;intro aC aa;go_wp2_with (go_at_call 196;refine ax.mono ?_;rintro e w2 am;obtain⟨z,A,V,rfl,K⟩:=ay e w2 am;have aD:=vl K;clear am K)
 apply aa.out;apply wp_cut;intro aW ab;refine wp_block ?_;go_loopg [4,5] V (λn z A wr=>ThW w X b s dv r D l n z A wr)
 case atStart=>exact aD
 case round=>
  rcases hrel with⟨f,c,t,B,aE,rfl,rfl,aF,aX,aG,aH,aI,C,E⟩|⟨x,c,rfl,rfl,an,-,C,E⟩
  ·cases f with
   |zero=>omega
   |succ f=>
   have d:Hid (TreeIn (λi=>X i\/w.heap.size<=i) wr (D+4*c) B t/\TrOk (D+4*c) t/\RxAt wr b s dv {r with at_:=c}/\Keep w.heap.size b w wr/\gk=f+1/\w.heap.size<=wr.heap.size):=⟨aH,aI,C,E,aE,E.size⟩
   have m:(if zBc s c then(match zEj s c with|none=>none|some (o,q)=>zBz s f q (zBU t o)) else some (t,c))=l:=aG;have L:=vl <| zEe wr b s dv {r with at_:=c} C ai (by show c<=_;omega);cases ac:zBc s c with
   |false=>
    rw[ac] at m L;have N:=vl m.symm;go_wp2_with (go_at_call 197;refine L.mono ?_;rintro e aJ ⟨rfl,ad⟩;have ae:=ad.symm;subst ae)
    apply ab.out;go_wp2;rw[N.out];refine gJ (results_tmp2 rfl _ _ _) rfl ?_;exact⟨d.2.2.2.1,B,rfl,d.1,d.2.2.1⟩
   |true=>
    rw[ac] at m L;rw[if_pos rfl] at m;have N:=vl m;have ao:=zPo d.2.2.1 ai aF;have aK:=vl λo q T=>zIf s c o q T;clear m ac;apply wp_cut;intro aL F;go_wp2_with (go_at_call 197;refine L.mono ?_;rintro e aJ ⟨rfl,ad⟩;have ae:=ad.symm;subst ae)
    apply F.out;clear F;refine wp_block ?_;apply wp_cut;intro aL F;go_wp2_with (go_at_call 198;refine ao.mono ?_;rintro e af ⟨o,u,k,rfl,O⟩)
    apply F.out;clear F ao;have ⟨y,ap,aY,aZ,a0,ag⟩:=zL6 af (iX (o.least:Int)) (iX (o.most:Int)) o.endless;have P:Hid (RxAt y b s dv {r with at_:=u}/\TreeIn (λi=>X i\/w.heap.size<=i) y (D+4*c) B t/\Keep w.heap.size b w y):=by
     obtain⟨-,-,aM,aq,-⟩:=O;have K:=aj.out;have aN:=aq.size;have ah:=d.2.2.2.2.2;have H:Keep wr.heap.size b wr y:=aq.trans (ag _ _ aN);refine⟨RxAt.of_block aM ((ag af.heap.size af.heap.size lQ).block b (by omega) (by omega)),d.1.go (H.agree λi aO j=>⟨aO,by rcases j with j|j;exact kJ (au i j);omega⟩),d.2.2.2.1.trans ⟨H.os,H.output,H.size,λk a1 aP=>H.block k (by omega) aP⟩⟩
    have aQ:Hid (Ca 199 #[pX B,agg #[iX (o.least:Int),iX (o.most:Int),bool o.endless]] y λe w'=>∃R,e=returned (pX R)/\TreeIn (λi=>X i\/w.heap.size<=i) w' (D+4*c+1) R (zBU t o)/\RxAt w' b s dv {r with at_:=u}/\Keep w.heap.size b w w'):=by
     have K:=aj.out;have ah:=P.2.2.size;refine(zJ2 y _ _ B t P.2.1 d.2.1.few o ⟨O.1,O.2.1⟩).mono ?_;rintro e aR ⟨R,rfl,aS,I⟩;refine⟨R,rfl,aS.mono λi _ j=>?_,RxAt.of_block P.1 (I.block b (by omega) (by omega)),P.2.2.trans (I.lower ah ah)⟩;rcases j with j|j
     ·exact j.1
     ·exact .inr (by omega)
    rw[<-ap];clear ap ag;go_wp2_with (go_at_call 199;refine aQ.mono ?_;rintro e aR ⟨aT,rfl,aU,ar,I⟩)
    go_roundg (if k then f else 0)
    case measure=>rw[d.out.2.2.2.2.1];split <;> omega
    case rel=>
     rcases O.out.2.2.2.2 with⟨rfl,S⟩|⟨rfl,S⟩
     ·have J:=N.out
      rw[show zEj s c=some (o,u) from S] at J;have aV:=aK o u S;exact .inl ⟨f,u,_,aT,rfl,rfl,rfl,aV.2.1,by omega,J,aU.deep (by omega),(zJ1 o d.2.1).deep (by omega),ar,I⟩
     ·have J:=N.out
      rw[show zEj s c=none from S] at J;exact .inr ⟨_,u,rfl,rfl,J.symm,rfl,ar,I⟩
  ·have d:Hid (RxAt wr b s dv {r with at_:=c}/\Keep w.heap.size b w wr/\l=none):=⟨C,E,an⟩
   clear C E an;go_wp2;apply ab.out;clear ab;go_wp2;rw[d.out.2.2];refine gJ (results_tmp2 rfl _ _ _) rfl ?_;exact⟨d.2.1,x,c,rfl,d.1⟩
theorem zEz (X:Nat->Prop)(b:Nat)(s:ByteArray)(dv:Value)(d:s.size<=1048576)(e:∀i,X i->i<b)(D:Nat)(defs:List (ByteArray×Tr))(k:Nat)(a:Reads)(f:∀both,zCt s D λp=>zDR s defs k a p both)(g:zAQ 196 X b s dv D defs D k (zDR s defs k a)):
  zAQ 193 X b s dv D defs D k (zDZ s defs k a):=λw r c j l m=>by
 have:=g w r c j l m;unfold zDZ;exact zOU X b s dv d e D w r c _ (λt q o=>(f r.both r.at_ t q o).2) this
theorem zLs {X:Nat->Prop}{b:Nat}{s:ByteArray}{dv:Value}{w:World}{r:Rx}(a:RxAt w b s dv r)(D kind:Nat)(c:Int)(d:c=kind):∃w1,w1=w.alloc (.cells #[iX c,nX,bool false,nX,zX,zX,bool false,zX] 165)/\Hid (Tw w1 (λi=>X i\/w.heap.size<=i) (w.heap.size+1) w.heap.size (D+4*r.at_) nX [] (zDD kind)/\RxAt w1 b s dv {r with at_:=r.at_}/\Keep w.heap.size b w w1):=by
 have e:=a.lt;subst d;refine⟨_,rfl,⟨gY _ _,rfl,ownsRow_nil _ _ _ _,rfl,λi f=>absurd f (Nat.not_lt_zero _),by omega,by simp,⟨by show 0<=_;omega,by show 0<=_;omega,by show 0<=_;omega,by show 0<=_;omega⟩⟩,RxAt.of_block a (lG _ _ _ e),kZ _ _ lQ⟩
theorem zLt {X:Nat->Prop}{b:Nat}{s:ByteArray}{dv:Value}{w wr w2:World}{r:Rx}{D m q h:Nat}{sv:Value}{x:List Nat}{t u:Tr}(I:b<w.heap.size)(y:∀i,X i->i<b)(o:Tw wr (λi=>X i\/w.heap.size<=i) (w.heap.size+1) w.heap.size (D+4*m) sv x t)(z:Keep w.heap.size b w wr)(c:Keep wr.heap.size b wr w2)(B:TreeIn (λi=>X i\/wr.heap.size<=i) w2 (D+4*q) h u)(C:RxAt w2 b s dv {r with at_:=q})(J:m<q)(E:TrOk (D+4*q) u)(K:t.parts.length<=2000000):
  Hid (Ca 188 #[pX w.heap.size,pX h] w2 λe w'=>e=rX/\RxAt w' b s dv {r with at_:=q}/\Keep w.heap.size b w w'/\∃p v,Tw w' (λi=>X i\/w.heap.size<=i) (w.heap.size+1) w.heap.size (D+4*q) p v (t.add u)):=by
 have L:=z.size;have M:=o.lt;have A:∀g,some g=sv.ownBlock->w.heap.size+1<=g/\g<wr.heap.size:=λg F=>o.own.lt g F.symm;have d:=(o.keep c (.inl (by omega)) (by omega) (λ_ a=>by rcases a with a|a;exact Nat.lt_irrefl _ (y b a);omega)).deep (show D+4*m<=D+4*q by omega);have l:TreeIn (λj=>(X j\/w.heap.size<=j)/\j≠w.heap.size/\some j≠sv.ownBlock) w2 (D+4*q) h u:=B.mono λi _ a=>by
  rcases a with a|a
  ·have N:=y i a
   exact⟨.inl a,by omega,λe=>by have:=(A i e).1;omega⟩
  ·exact⟨.inr (by omega),by omega,λe=>by have:=(A i e).2;omega⟩
 refine(zGQ w2 _ _ _ _ sv x t d h u l E.few (by omega)).mono ?_;rintro e O ⟨rfl,p,v,G,H⟩;have f:=H.keep d.own d.lt;exact⟨rfl,RxAt.of_block C (f.block b (by omega) (by omega)),(z.trans ⟨c.os,c.output,c.size,λk d l=>c.block k (by omega) l⟩).trans ⟨f.os,f.output,f.size,λk d l=>f.block k (by omega) (by omega)⟩,p,v,G⟩
theorem zG1 {X:Nat->Prop}{b:Nat}{s:ByteArray}{dv:Value}{w f:World}{r:Rx}{D q:Nat}{sv:Value}{l:List Nat}{t:Tr}(x:b<w.heap.size)(m:∀i,X i->i<b)(h:Tw f (λi=>X i\/w.heap.size<=i) (w.heap.size+1) w.heap.size (D+4*q) sv l t)(o:Keep w.heap.size b w f):
  Hid (∀c,RxAt c b s dv {r with at_:=q}->(∀H,Keep H b f c)->Ca 190 #[pX w.heap.size] c λe w'=>∃d,e=returned (pX d)/\TreeIn (λi=>X i\/w.heap.size<=i) w' (D+1+4*q) d t.plain/\RxAt w' b s dv {r with at_:=q}/\Keep w.heap.size b w w'):=λc p g=>by
 have y:=h.lt;have z:=(g 0).size;have u:=h.keep (g _) (.inl (by omega)) (by omega) (λ_ a=>by rcases a with a|a;exact Nat.lt_irrefl _ (m b a);omega);refine(zEH c _ (D+4*q+1) w.heap.size _ (u.in (.inr lQ) λj A=>.inr (by omega))).mono ?_;rintro e B ⟨d,rfl,v,k⟩;refine⟨d,rfl,?_,RxAt.of_block p (k.block b (by omega) (by omega)),(o.trans (g _)).trans (k.lower (by omega) (by omega))⟩;rw[show D+1+4*q=D+4*q+1 by omega];exact v.mono λi _ a=>by
  rcases a with a|a
  ·exact a.1
  ·exact .inr (by omega)
theorem zEC (X:Nat->Prop)(b:Nat)(s:ByteArray)(dv:Value)(ag:s.size<=1048576)(C:∀i,X i->i<b)(Y D:Nat)(defs:List (ByteArray×Tr))(k:Nat)(c:Reads)(ah:∀both,zCt s D λp=>c p both)(ai:zAQ 193 X b s dv Y defs D k c):
  zAQ 187 X b s dv Y defs (D+1) k (λp both=>zBX s (λq=>c q both) (s.size+1) p (zDD 2)):=λw r aa aj ak al=>by
 show Calls prog 187 #[pX b] w (TrAns w X b s dv r (D+1) (zBX s (λq=>c q r.both) (s.size+1) r.at_ (zDD 2)));have O:=vl aa.lt;have am:Hid (∀wr a,RxAt wr b s dv {r with at_:=a}->Keep w.heap.size b w wr->a<=s.size->Ca 193 #[pX b] wr (TrAns wr X b s dv {r with at_:=a} D (c a r.both))):=λwr a E F an=>ai wr {r with at_:=a} E (aj.go C (F.agree λi ao o=>⟨ao,kJ o⟩)) ak an;have ap:=vl (ah r.both);obtain⟨z,ab⟩:∃z,z=zBX s (λq=>c q r.both) (s.size+1) r.at_ (zDD 2):=⟨_,rfl⟩
 have aq:=vl ab.symm;rw[<-ab];have ⟨w1,ar,P⟩:=zLs (X:=X) aa D 2 2 rfl;go_in;apply wp_cut;intro I d;go_wp2;apply d.out;apply wp_cut;intro I d;go_wp2;apply d.out;rw[<-ar];refine wp_block ?_;go_loopg [6] (s.size+1) (λn v wr=>∃f a t sv R,n=f/\a<=s.size/\s.size+1-a<=f/\zBX s (λq=>c q r.both) f a t=z/\Tw wr (λi=>X i\/w.heap.size<=i) (w.heap.size+1) w.heap.size (D+4*a) sv R t/\TrOk (D+1+4*a) t/\(t.kind=2\/t.kind=3)/\t.parts.length<=a/\RxAt wr b s dv {r with at_:=a}/\Keep w.heap.size b w wr)
 case atStart=>exact⟨s.size+1,r.at_,zDD 2,_,_,rfl,al,by omega,aq,P.1,by rw[show D+1+4*r.at_=D+4*r.at_+1 by omega];exact zH3 _ 2 (.inl rfl),.inl rfl,lX,P.2.1,P.2.2⟩
 case round=>
  obtain⟨f,a,t,sv,R,au,av,aM,ac,aw,ax,ay,aN,E,F⟩:=hrel;cases f with
  |zero=>omega
  |succ f=>
  have J:=am wr a E F av;have j:Hid (Tw wr (λi=>X i\/w.heap.size<=i) (w.heap.size+1) w.heap.size (D+4*a) sv R t/\TrOk (D+1+4*a) t/\(t.kind=2\/t.kind=3)/\RxAt wr b s dv {r with at_:=a}/\Keep w.heap.size b w wr/\gk=f+1):=⟨aw,ax,ay,E,F,au⟩
  cases A:c a r.both with
  |none=>
   rw[A] at J;have S:=vl J;have B:Hid (z=none):=by
    show _=_;rw[<-ac];unfold zBX;rw[A]
   refine wp_block ?_;go_wp2_with (go_at_call 193;refine S.mono ?_;rintro e w2 ⟨x,v2,q2,rfl,T⟩)
   rw[B.out];refine gJ (results_tmp2 rfl _ _ _) rfl ?_;have aO:=j.2.2.2.2.1.size;exact⟨j.2.2.2.2.1.trans ⟨x.os,x.output,x.size,λk aP az=>x.block k (by omega) az⟩,none,q2,rfl,T⟩
  |some g=>
   obtain⟨u,q⟩:=g;rw[A] at J;have S:=vl J;have K:=vl <| ap a u q A;have L:Hid ((if zB2 s q then some ((t.add u).plain,q) else zBX s (λq=>c q r.both) f q (t.add u))=z):=by
    show _=_;rw[<-ac]
    conv=>rhs;unfold zBX
    rw[A]
   refine wp_block ?_;apply wp_cut;intro I d;go_wp2_with (go_at_call 193;refine S.mono ?_;rintro e w2 ⟨x,aQ,rfl,aA,T⟩)
   apply d.out;apply wp_cut;intro I d;go_wp2;apply d.out;have aB:=K.1;have aC:=K.2.1;have aD:=zLt O C j.1 j.2.2.2.2.1 x aA T aB K.2.2 (by omega);apply wp_cut;intro I d;go_wp2_with (go_at_call 188;refine aD.mono ?_;rintro e y ⟨rfl,aE,aF,ad,ae,aG⟩)
   apply d.out;have l:Hid (Tw y (λi=>X i\/w.heap.size<=i) (w.heap.size+1) w.heap.size (D+4*q) ad ae (t.add u)/\RxAt y b s dv {r with at_:=q}/\Keep w.heap.size b w y/\TrOk (D+1+4*q) (t.add u)):=⟨aG,aE,aF,by
    rw[show D+1+4*q=D+4*q+1 by omega];exact zIq (j.2.1.deep (by omega)) j.2.2.1 K.2.2⟩
   have N:Hid (Ca 194 #[pX b] y λe w'=>e=returned (bool (zB2 s q))/\RxAt w' b s dv {r with at_:=q}/\∀H,Keep H b y w'):=by
    refine(zGC y b s dv {r with at_:=q} l.2.1 ag (by show q<=_;omega)).mono ?_;rintro e U ⟨rfl,m⟩;exact⟨rfl,RxAt.of_block l.2.1 ((m (b+1) (b+1)).block b (by omega) (by omega)),λH=>m H b⟩
   cases af:zB2 s q with
   |true=>
    rw[af] at N L;have V:=N;have B:=vl L.symm;have aH:=zG1 (s:=s) (dv:=dv) (r:=r) O C l.1 l.2.2.1;go_wp2_with (first|(go_at_call 194;refine V.mono ?_;rintro e U ⟨rfl,W,m⟩)|(go_at_call 190;refine(aH U W m).mono ?_;rintro e aR ⟨aI,rfl,aJ,aK,aL⟩))
    rw[B.out];refine gJ (results_tmp2 rfl _ _ _) rfl ?_;exact⟨aL,aI,rfl,aJ,aK⟩
   |false=>
    rw[af] at N L;have V:=N;have B:=vl L;go_wp2_with (go_at_call 194;refine V.mono ?_;rintro e U ⟨rfl,W,m⟩)
    have aS:=O.out;go_roundg f
    case measure=>rw[j.out.2.2.2.2.2];omega
    case rel=>exact⟨f,q,t.add u,ad,ae,rfl,aC,by omega,B,l.1.keep (m _) (.inl (by omega)) (by omega) (λ_ o=>by rcases o with o|o;exact Nat.lt_irrefl _ (C b o);omega),l.2.2.2,zDT j.2.2.1,by show(t.parts++[u]).length<=q;rw[kX];show t.parts.length+1<=q;omega,W,l.2.2.1.trans (m _)⟩
theorem zB9 (X:Nat->Prop)(b:Nat)(s:ByteArray)(dv:Value)(Y:s.size<=1048576)(E:∀i,X i->i<b)(aa D:Nat)(defs:List (ByteArray×Tr))(k:Nat)(c:Reads)(ah:∀both,zCt s D λp=>c p both)(ai:zAQ 187 X b s dv aa defs D k c):
  zAQ 182 X b s dv aa defs (D+1) k (λp both=>zAJ s (λq=>c q both) (s.size+1) p (zDD 3)):=λw r ab aj ak al=>by
 show Calls prog 182 #[pX b] w (TrAns w X b s dv r (D+1) (zAJ s (λq=>c q r.both) (s.size+1) r.at_ (zDD 3)));have O:=vl ab.lt;have am:Hid (∀wr a,RxAt wr b s dv {r with at_:=a}->Keep w.heap.size b w wr->a<=s.size->Ca 187 #[pX b] wr (TrAns wr X b s dv {r with at_:=a} D (c a r.both))):=λwr a F H an=>ai wr {r with at_:=a} F (aj.go E (H.agree λi ao m=>⟨ao,kJ m⟩)) ak an;have ap:=vl (ah r.both);obtain⟨z,ac⟩:∃z,z=zAJ s (λq=>c q r.both) (s.size+1) r.at_ (zDD 3):=⟨_,rfl⟩
 have aq:=vl ac.symm;rw[<-ac];have ⟨w1,ar,P⟩:=zLs (X:=X) ab D 3 3 rfl;go_in;apply wp_cut;intro I d;go_wp2;apply d.out;apply wp_cut;intro I d;go_wp2;apply d.out;rw[<-ar];refine wp_block ?_;go_loopg [6] (s.size+1) (λn v wr=>∃f a t sv R,n=f/\a<=s.size/\s.size+1-a<=f/\zAJ s (λq=>c q r.both) f a t=z/\Tw wr (λi=>X i\/w.heap.size<=i) (w.heap.size+1) w.heap.size (D+4*a) sv R t/\TrOk (D+1+4*a) t/\(t.kind=2\/t.kind=3)/\t.parts.length<=a/\RxAt wr b s dv {r with at_:=a}/\Keep w.heap.size b w wr)
 case atStart=>exact⟨s.size+1,r.at_,zDD 3,_,_,rfl,al,by omega,aq,P.1,by rw[show D+1+4*r.at_=D+4*r.at_+1 by omega];exact zH3 _ 3 (.inr rfl),.inr rfl,lX,P.2.1,P.2.2⟩
 case round=>
  obtain⟨f,a,t,sv,R,au,av,aM,ad,aw,ax,ay,aN,F,H⟩:=hrel;cases f with
  |zero=>omega
  |succ f=>
  have J:=am wr a F H av;have j:Hid (Tw wr (λi=>X i\/w.heap.size<=i) (w.heap.size+1) w.heap.size (D+4*a) sv R t/\TrOk (D+1+4*a) t/\(t.kind=2\/t.kind=3)/\RxAt wr b s dv {r with at_:=a}/\Keep w.heap.size b w wr/\gk=f+1):=⟨aw,ax,ay,F,H,au⟩
  cases A:c a r.both with
  |none=>
   rw[A] at J;have S:=vl J;have B:Hid (z=none):=by
    show _=_;rw[<-ad];unfold zAJ;rw[A]
   refine wp_block ?_;go_wp2_with (go_at_call 187;refine S.mono ?_;rintro e w2 ⟨o,v2,q2,rfl,T⟩)
   rw[B.out];refine gJ (results_tmp2 rfl _ _ _) rfl ?_;have aO:=j.2.2.2.2.1.size;exact⟨j.2.2.2.2.1.trans ⟨o.os,o.output,o.size,λk aP az=>o.block k (by omega) az⟩,none,q2,rfl,T⟩
  |some g=>
   obtain⟨u,q⟩:=g;rw[A] at J;have S:=vl J;have K:=vl <| ap a u q A;have L:Hid ((if zM s q ⟨#[124]⟩ then zAJ s (λq=>c q r.both) f (q+1) (t.add u) else some ((t.add u).plain,q))=z):=by
    show _=_;rw[<-ad]
    conv=>rhs;unfold zAJ
    rw[A]
   refine wp_block ?_;apply wp_cut;intro I d;go_wp2_with (go_at_call 187;refine S.mono ?_;rintro e w2 ⟨o,aQ,rfl,aA,T⟩)
   apply d.out;apply wp_cut;intro I d;go_wp2;apply d.out;have aB:=K.1;have aR:=K.2.1;have aC:=zLt O E j.1 j.2.2.2.2.1 o aA T aB K.2.2 (by omega);apply wp_cut;intro I d;go_wp2_with (go_at_call 188;refine aC.mono ?_;rintro e U ⟨rfl,aD,aE,ae,af,aF⟩)
   apply d.out;have l:Hid (Tw U (λi=>X i\/w.heap.size<=i) (w.heap.size+1) w.heap.size (D+4*q) ae af (t.add u)/\RxAt U b s dv {r with at_:=q}/\Keep w.heap.size b w U/\TrOk (D+1+4*q) (t.add u)):=⟨aF,aD,aE,by
    rw[show D+1+4*q=D+4*q+1 by omega];exact zIq (j.2.1.deep (by omega)) j.2.2.1 K.2.2⟩
   cases C:zM s q ⟨#[124]⟩ with
   |false=>
    have V:=vl (zAs (r:=r) (x:=q) (y:=q) ⟨#[124]⟩ Y (by omega) (by decide) C rfl l.2.1);rw[C] at L;have B:=vl L.symm;have aG:=zG1 (s:=s) (dv:=dv) (r:=r) O E l.1 l.2.2.1;go_wp2_with (first|(go_at_call 189;refine V.mono ?_;rintro e ag ⟨rfl,W,N⟩)|(go_at_call 190;refine(aG ag W N).mono ?_;rintro e aS ⟨aH,rfl,aI,aJ,aK⟩))
    rw[B.out];refine gJ (results_tmp2 rfl _ _ _) rfl ?_;exact⟨aK,aH,rfl,aI,aJ⟩
   |true=>
    have V:=vl (zAs (r:=r) (x:=q) (y:=q+1) ⟨#[124]⟩ Y (by omega) (by decide) C rfl l.2.1);have aL:=vS C;rw[C] at L;have B:=vl L;go_wp2_with (go_at_call 189;refine V.mono ?_;rintro e ag ⟨rfl,W,N⟩)
    have aT:=O.out;go_roundg f
    case measure=>rw[j.out.2.2.2.2.2];omega
    case rel=>exact⟨f,q+1,t.add u,ae,af,rfl,aL,by omega,B,(l.1.keep (N _) (.inl (by omega)) (by omega) (λ_ m=>by rcases m with m|m;exact Nat.lt_irrefl _ (E b m);omega)).deep (by omega),l.2.2.2.deep (by omega),zDT j.2.2.1,by show(t.parts++[u]).length<=q+1;rw[kX];show t.parts.length+1<=q+1;omega,W,l.2.2.1.trans (N _)⟩
theorem zDN (X:Nat->Prop)(b:Nat)(s:ByteArray)(dv:Value)(a:s.size<=1048576)(d:∀i,X i->i<b)(D:Nat)(defs:List (ByteArray×Tr))(f:defs.length<=1000000)(c:zBn D defs):∀k,zAQ 182 X b s dv D defs (D+2) k (zBO s defs k)
 |0=>zB9 X b s dv a d D (D+1) defs 0 _ (zHR a c (λ_ p t q e=>by cases e)) (zEC X b s dv a d D D defs 0 _ (zDY a c (λ_ p t q e=>by cases e)) (zEz X b s dv a d D defs 0 _ (zGn a c (λ_ p t q e=>by cases e)) (zGm X b s dv a d D defs f 0 _ λw r e _ g _ _=>zPC X b s dv D w r e g)))
 |k+1=>zB9 X b s dv a d D (D+1) defs (k+1) _ (zHR a c (zAr a c k)) (zEC X b s dv a d D D defs (k+1) _ (zDY a c (zAr a c k)) (zEz X b s dv a d D defs (k+1) _ (zGn a c (zAr a c k)) (zGm X b s dv a d D defs f (k+1) _ λw r e j g _ l=>zGO X b s dv a d D defs k _ (zAr a c k) (zDN X b s dv a d D defs f c k) w r e j g l)))
theorem DefsIn.step {b c:Nat}{X f:Nat->Prop}{w w2:World}{D:Nat}{v:Value}{l:List (ByteArray×Tr)}(m:DefsIn b X w D v l)(a:Grew w w2)(A:b<=c)(q:∀i,i<w.heap.size->X i->f i):DefsIn c f w2 D v l:=by
 obtain⟨ao,cap,r,s,t,u⟩:=m;refine⟨ao,cap,r,s,t,λi d=>?_⟩;have ⟨g,o,p,x,j,B,c0,c1,y,z⟩:=u i d;have k:=j;have e:=a.block g j (kJ k);exact⟨g,o,p,x,lZ k a.size,by omega,(gW e).trans c0,(gW e).trans c1,y.step (a.agree λi d _=>⟨d,kJ d⟩) q,z⟩
def zIt (w:World)(X:Nat->Prop)(D:Nat)(a:Option Tr)(e:Ending)(w':World):Prop:=
 Grew w w'/\match a with
 |none=>e=returned (tuple #[pointer none,bool false])
 |some t=>∃p,e=returned (tuple #[pointer (some ⟨p,0,none⟩),bool true])/\TreeIn (λi=>(X i/\i<w.heap.size)\/w.heap.size<=i) w' D p t
theorem zAg (w:World)(X:Nat->Prop)(s:ByteArray)(dv:Value)(C:s.size<=1048576)(D:Nat)(defs:List (ByteArray×Tr))(E:DefsIn w.heap.size X w D dv defs)(I:defs.length<=1000000)(F:zBn D defs):
  Calls prog 162 #[string s,dv] w (zIt w X (D+2+4*s.size) (vQ s defs)):=by
 obtain⟨w1,f,c⟩:∃w1,w1=w.alloc (.cells #[string s,dv,zX,zX,fX] 252)/\Hid (Ca 182 #[pX w.heap.size] w1 (TrAns w1 (λi=>X i/\i<w.heap.size) w.heap.size s dv ⟨0,0,false⟩ (D+2) (zBO s defs 8 0 false))/\w1.heap.size=w.heap.size+1/\Grew w w1):=by
  refine⟨_,rfl,?_,by simp,kZ _ _ lQ⟩;exact zDN (λi=>X i/\i<w.heap.size) w.heap.size s dv C (λi y=>y.2) D defs I F 8 _ ⟨0,0,false⟩ (gY _ _) (E.step (kZ _ _ lQ) lQ λi y h=>⟨h,y⟩) rfl lX
 obtain⟨ao,cap,rfl,-⟩:=E;have z:Hid (∀w2,Keep w1.heap.size w.heap.size w1 w2->Grew w w2):=λw2 r=>c.2.2.trans ⟨r.os,r.output,r.size,λk M J=>r.block k (by have:=c.2.1;omega) J⟩;have l:Hid (vQ s defs=match zBO s defs 8 0 false with|none=>none|some (t,q)=>if q=s.size then some t else none):=rfl;have A:Hid (∀t q,zBO s defs 8 0 false=some (t,q)->q<=s.size):=λt q e=>(zAr C F 8 false 0 t q e).2.1;cases b:zBO s defs 8 0 false with
 |none=>
  have u:Hid (Ca 182 #[pX w.heap.size] w1 (TrAns w1 (λi=>X i/\i<w.heap.size) w.heap.size s (slice ao defs.length cap) ⟨0,0,false⟩ (D+2) none)):=by have:=c.1;rw[b] at this;exact this
  have d:Hid (vQ s defs=none):=by show _=_;rw[l.out,b]
  rw[d.out];go_in;apply wp_cut;intro m a;go_wp2;apply a.out;apply wp_cut;intro m a;go_wp2;apply a.out;clear a;rw[<-f];clear f;go_wp2_with (go_at_call 182;refine u.mono ?_;rintro e w2 ⟨o,v,q,rfl,x⟩)
  refine gJ (results_tmp2 rfl _ _ _) rfl ?_;exact⟨z w2 o,rfl⟩
 |some g=>
  obtain⟨t,q⟩:=g;have u:Hid (Ca 182 #[pX w.heap.size] w1 (TrAns w1 (λi=>X i/\i<w.heap.size) w.heap.size s (slice ao defs.length cap) ⟨0,0,false⟩ (D+2) (some (t,q)))):=by have:=c.1;rw[b] at this;exact this
  have N:=A t q b;have B:=c.2.1;by_cases j:q=s.size
  ·have d:Hid (vQ s defs=some t):=by show _=_;rw[l.out,b];exact if_pos j
   rw[d.out];clear b d l c A;have K:((q:Int) != (s.size:Int))=false:=by rw[j];simp
   have G:Hid (w1.heap.size=w.heap.size+1/\q=s.size):=⟨B,j⟩
   clear B j;go_in;apply wp_cut;intro m a;go_wp2;apply a.out;clear a;apply wp_cut;intro m a;go_wp2;apply a.out;clear a;rw[<-f];clear f;go_wp2_with (go_at_call 182;refine u.mono ?_;rintro e w2 ⟨o,p,rfl,H,x⟩;have L:cX w2 w.heap.size 2=some (iX (q:Int)):=x.cells.2.2.1)
   refine gJ (results_tmp2 rfl _ _ _) rfl ?_;refine⟨z w2 o,p,rfl,?_⟩;rw[<-G.out.2];exact H.mono λi _ h=>by
    rcases h with h|h
    ·exact .inl h
    ·exact .inr (by have:=G.1;omega)
  ·have d:Hid (vQ s defs=none):=by show _=_;rw[l.out,b];exact if_neg j
   rw[d.out];clear b d l c A B;have K:((q:Int) != (s.size:Int))=true:=by simp;omega
   clear j;go_in;apply wp_cut;intro m a;go_wp2;apply a.out;clear a;apply wp_cut;intro m a;go_wp2;apply a.out;clear a;rw[<-f];clear f;go_wp2_with (go_at_call 182;refine u.mono ?_;rintro e w2 ⟨o,p,rfl,H,x⟩;have L:cX w2 w.heap.size 2=some (iX (q:Int)):=x.cells.2.2.1)
   refine gJ (results_tmp2 rfl _ _ _) rfl ?_;exact⟨z w2 o,rfl⟩
section
def zBe (f g:Nat->Value)(n:Nat):List Value:=(List.range n).flatMap λi=>[f i,g i]
theorem vT (f g:Nat->Value)(n:Nat):zBe f g (n+1)=zBe f g n++[f n,g n]:=by
 unfold zBe;rw[List.range_succ,List.flatMap_append];rfl
theorem zG4 (f g:Nat->Value)(n:Nat):(zBe f g n).length=n*2:=by
 induction n with
 |zero=>rfl
 |succ n a=>rw[vT,kX,a];show n*2+2=_;omega
theorem zBp (f g:Nat->Value)(n i:Nat)(d:i<n):(zBe f g n)[i*2]? =some (f i)/\(zBe f g n)[i*2+1]? =some (g i):=by
 induction n with
 |zero=>omega
 |succ n a=>
  rw[vT];have b:=zG4 f g n;by_cases c:i<n
  ·rw[kW (by omega),kW (by omega)]
   exact a c
  ·have e:i=n:=by omega
   subst e;rw[hZ (by omega),hZ (by omega),b,Nat.sub_self,show i*2+1-i*2=1 by omega];exact⟨rfl,rfl⟩
theorem zBd (f g b c:Nat->Value)(n:Nat)(a:∀i,i<n->f i=b i/\g i=c i):zBe f g n=zBe b c n:=by
 induction n with
 |zero=>rfl
 |succ n d=>rw[vT,vT,d λi e=>a i (by omega),(a n (by omega)).1,(a n (by omega)).2]
theorem zMs (f g:Nat->Value)(n k:Nat)(v:Value)(d:k<n):(zBe f g n).set (k*2+1) v=zBe f (λi=>if i=k then v else g i) n:=by
 induction n with
 |zero=>omega
 |succ n a=>
  have b:=zG4 f g n;rw[vT,vT];by_cases c:k<n
  ·rw[List.set_append_left _ _ (by omega),a c,if_neg (by omega)]
  ·have e:k=n:=by omega
   subst e;rw[List.set_append_right _ _ (by omega),b,show k*2+1-k*2=1 by omega,if_pos rfl];rw[zBd f (λi=>if i=k then v else g i) f g k λi j=>⟨rfl,if_neg (by omega)⟩];rfl
structure Sh where
 modes:List (ByteArray×List Tr)
 defs:List (ByteArray×Tr)
 acts:List Nat
 pushed:List ByteArray
def Sh.mode (s:Sh)(i:Nat):ByteArray×List Tr:=s.modes.getD i (⟨#[]⟩,[])
def Sh.defn (s:Sh)(i:Nat):ByteArray×Tr:=s.defs.getD i (⟨#[]⟩,Tr.none)
def Sh.none:Sh:=⟨[],[],[],[]⟩
structure Sw (w:World)(X:Nat->Prop)(S D:Nat)(sh:Sh)(mv dv av pv:Value)(rv:Nat->Value)(ps:Nat->List Nat)(dp:Nat->Nat):Prop where
 blk:w.heap[S]? =some (.cells #[mv,dv,av,pv] 114)
 mOwn:w.ownsRow (S+1) 120 2 mv sh.modes.length (zBe (λi=>string (sh.mode i).1) rv sh.modes.length)
 dOwn:w.ownsRow (S+1) 233 2 dv sh.defs.length (zBe (λi=>string (sh.defn i).1) (λi=>pointer (some ⟨dp i,0,none⟩)) sh.defs.length)
 aOwn:w.ownsRow (S+1) 3 1 av sh.acts.length (sh.acts.map λx:Nat=>int i64 (x:Int))
 pOwn:w.ownsRow (S+1) 9 1 pv sh.pushed.length (sh.pushed.map λx=>string x)
 rOwn:∀i,i<sh.modes.length->w.ownsRow (S+1) 158 1 (rv i) (sh.mode i).2.length (yI (ps i))
 rApart:∀i j g,i<sh.modes.length->j<sh.modes.length->i≠j->(rv i).ownBlock=some g->some g≠(rv j).ownBlock
 rTree:∀i,i<sh.modes.length->∀k,k<(sh.mode i).2.length->TreeIn X w D ((ps i).getD k 0) ((sh.mode i).2.getD k Tr.none)
 dTree:∀i,i<sh.defs.length->TreeIn X w D (dp i) (sh.defn i).2
 xlt:∀g,X g->S<g/\g<w.heap.size
 xm:∀g,X g->some g≠mv.ownBlock/\some g≠dv.ownBlock/\some g≠av.ownBlock/\some g≠pv.ownBlock
 xr:∀g i,X g->i<sh.modes.length->some g≠(rv i).ownBlock
 lt:S<w.heap.size
def SwIs (w:World)(S D:Nat)(sh:Sh):Prop:=∃X mv dv av pv rv ps dp,Sw w X S D sh mv dv av pv rv ps dp
section
variable {w w2:World} {X:Nat->Prop} {S D E:Nat} {sh:Sh} {mv dv av pv:Value} {rv:Nat->Value} {ps:Nat->List Nat} {dp:Nat->Nat}
theorem xF {H e j n c k l:Nat}{v d:Value}{xs m:List Value}(o:w.ownsRow H e j v n xs)(p:w.ownsRow H c k d l m)(q:e≠c)(g:Nat)(a:v.ownBlock=some g):some g≠d.ownBlock:=by
 rcases o.2 with⟨b,-⟩|⟨r,cap,t,b,u,f,-⟩
 ·rw[b] at a;cases a
 ·rw[b] at a
  have s:r=g:=by simpa[Value.ownBlock] using a
  rw[s] at f;exact zO p f (Ne.symm q)
theorem Sw.cells (a:Sw w X S D sh mv dv av pv rv ps dp):w.cell? ⟨S,0,none⟩=some mv/\w.cell? ⟨S,1,none⟩=some dv/\w.cell? ⟨S,2,none⟩=some av/\w.cell? ⟨S,3,none⟩=some pv/\∀i,w.frozen? ⟨S,i,none⟩=false:=by
 refine⟨?_,?_,?_,?_,λi=>?_⟩
 all_goals first|(unfold cell?;rw[a.blk];rfl)|(unfold frozen?;rw[a.blk];simp)
theorem Sw.grown (a:Sw w X S D sh mv dv av pv rv ps dp)(c:Grew w w2):Sw w2 X S D sh mv dv av pv rv ps dp:=by
 have d:∀{H e j n v xs},w.ownsRow H e j v n xs->w2.ownsRow H e j v n xs:=λm=>zE m λg _ f _=>c.block g f (kJ f);have l:Agree X w w2:=c.agree λi b _=>⟨b,kJ b⟩
 exact⟨(c.block S a.lt (kJ a.lt)).trans a.blk,d a.mOwn,d a.dOwn,d a.aOwn,d a.pOwn,λi b=>d (a.rOwn i b),a.rApart,λi b k o=>(a.rTree i b k o).go l,λi b=>(a.dTree i b).go l,λg f=>⟨(a.xlt g f).1,lZ (a.xlt g f).2 c.size⟩,a.xm,a.xr,lZ a.lt c.size⟩
theorem Sw.deep (a:Sw w X S D sh mv dv av pv rv ps dp)(c:D<=E):Sw w X S E sh mv dv av pv rv ps dp:=⟨a.blk,a.mOwn,a.dOwn,a.aOwn,a.pOwn,a.rOwn,a.rApart,λi b k d=>(a.rTree i b k d).deep c,λi b=>(a.dTree i b).deep c,a.xlt,a.xm,a.xr,a.lt⟩
theorem Sw.more (c:Sw w X S D sh mv dv av pv rv ps dp)(l:Grew w w2):Sw w2 (λi=>X i\/(w.heap.size<=i/\i<w2.heap.size)) S D sh mv dv av pv rv ps dp:=by
 have b:=c.grown l;have q:=c.lt;have f:∀{e m n v xs},w.ownsRow (S+1) e m v n xs->∀g,w.heap.size<=g->some g≠v.ownBlock:=λo g a e=>by have:=(o.lt g e.symm).2;omega
 refine⟨b.blk,b.mOwn,b.dOwn,b.aOwn,b.pOwn,b.rOwn,b.rApart,λi d k p=>(b.rTree i d k p).mono λ_ _ j=>.inl j,λi d=>(b.dTree i d).mono λ_ _ j=>.inl j,λg a=>?_,λg a=>?_,λg i a d=>?_,b.lt⟩
 ·rcases a with a|a
  ·exact b.xlt g a
  ·exact⟨by omega,a.2⟩
 ·rcases a with a|a
  ·exact b.xm g a
  ·exact⟨f c.mOwn g a.1,f c.dOwn g a.1,f c.aOwn g a.1,f c.pOwn g a.1⟩
 ·rcases a with a|a
  ·exact b.xr g i a d
  ·exact f (c.rOwn i d) g a.1
theorem yK {p H e b n:Nat}{u c v:Value}{xs:List Value}(d:KeepO p u c w w2)(f:w.ownsRow H e b v n xs)(l:p<H)(h:∀g,v.ownBlock=some g->some g≠u.ownBlock):w2.ownsRow H e b v n xs/\∀g,v.ownBlock=some g->some g≠c.ownBlock:=by
 refine⟨zE f λg m j a=>(d.block g j (by omega) (h g a)).1,λg a=>?_⟩;have k:=f.lt g a;exact(d.block g k.2 (by omega) (h g a)).2
theorem jT {p c b:Nat}{u h:Value}{t:Tr}(a:KeepO p u h w w2)(j:TreeIn X w c b t)(e:∀g,X g->g≠p/\some g≠u.ownBlock):TreeIn X w2 c b t:=j.go ⟨a.os,a.output,a.size,λi k f=>(a.block i k (e i f).1 (e i f).2).1⟩
theorem zE7 {o:Obj}{H e b n g cap m i:Nat}{v:Value}{xs c:List Value}(l:w.ownsRow H e b v n xs)(d:S<H)(y:H<=w.heap.size)(p:w2.ownsRow H e b (slice (qX g) m cap) m c)(a:(w.alloc o).grownBy w2 v.ownBlock)(q:v.ownBlock=some g\/w.heap.size<=g):
  (w2.setCell ⟨S,i,none⟩ (slice (qX g) m cap)).ownsRow H e b (slice (qX g) m cap) m c/\KeepO S v (slice (qX g) m cap) w (w2.setCell ⟨S,i,none⟩ (slice (qX g) m cap))/\w2.heap[S]? =w.heap[S]? :=by
 have r:∀j,j<H->w2.heap[j]? =w.heap[j]? :=λj A=>(a.block j (by simp;omega) λe=>by have:=(l.lt j e.symm).1;omega).trans (lG _ _ _ (by omega));have s:w.heap.size<=w2.heap.size:=lY (by simp) a.size;refine⟨xB p d,⟨a.os,a.output,by rw[zD];exact s,λk t u f=>⟨(lJ _ _ _ _ u).trans ((a.block k (by simp;omega) f).trans (lG _ _ _ t)),λe=>by
  have x:k=g:=by simpa[Value.ownBlock] using e
  rcases q with h|h
  ·exact f (by rw[h,x])
  ·omega⟩⟩,r S d⟩
end
end
section
section
variable {w w2:World} {X:Nat->Prop} {S D:Nat} {sh:Sh} {mv dv av pv:Value} {rv:Nat->Value} {ps:Nat->List Nat} {dp:Nat->Nat} {o:Obj} {g cap:Nat}
theorem zCB {p H e b n:Nat}{u c v:Value}{xs:List Value}(d:KeepO p u c w w2)(f:w.ownsRow H e b v n xs)(h:∀g,v.ownBlock=some g->g≠p)(j:∀g,v.ownBlock=some g->some g≠u.ownBlock):w2.ownsRow H e b v n xs/\∀g,v.ownBlock=some g->some g≠c.ownBlock:=by
 refine⟨zE f λg m k a=>(d.block g k (h g a) (j g a)).1,λg a=>?_⟩;have l:=f.lt g a;exact(d.block g l.2 (h g a) (j g a)).2
def Sh.addMode (sh:Sh)(nm:ByteArray):Sh:={sh with modes:=sh.modes++[(nm,[])]}
def Sh.addDef (sh:Sh)(nm:ByteArray)(t:Tr):Sh:={sh with defs:=sh.defs++[(nm,t)]}
def Sh.addAct (sh:Sh)(a:Nat):Sh:={sh with acts:=sh.acts++[a]}
def Sh.addPush (sh:Sh)(nm:ByteArray):Sh:={sh with pushed:=sh.pushed++[nm]}
theorem zAE (sh:Sh)(a:ByteArray)(i:Nat)(b:i<sh.modes.length):(sh.addMode a).mode i=sh.mode i:=by
 unfold Sh.mode Sh.addMode;rw[lW,lW];show((sh.modes++[(a,[])])[i]?).getD _=_;rw[kW b]
theorem zAF (sh:Sh)(a:ByteArray):(sh.addMode a).mode sh.modes.length=(a,[]):=by
 unfold Sh.mode Sh.addMode;simp
theorem jY (sh:Sh)(a:ByteArray):(sh.addMode a).modes.length=sh.modes.length+1:=by unfold Sh.addMode;simp
theorem zDo (sh:Sh)(a:ByteArray)(t:Tr)(i:Nat)(b:i<sh.defs.length):(sh.addDef a t).defn i=sh.defn i:=by
 unfold Sh.defn Sh.addDef;rw[lW,lW];show((sh.defs++[(a,t)])[i]?).getD _=_;rw[kW b]
theorem zDp (sh:Sh)(a:ByteArray)(t:Tr):(sh.addDef a t).defn sh.defs.length=(a,t):=by
 unfold Sh.defn Sh.addDef;simp
theorem zDq (sh:Sh)(a:ByteArray)(t:Tr):(sh.addDef a t).defs.length=sh.defs.length+1:=by unfold Sh.addDef;simp
theorem Sw.appAct (a:Sw w X S D sh mv dv av pv rv ps dp){x:Nat}(s:w2.ownsRow (S+1) 3 1 (slice (qX g) (sh.acts.length+1) cap) (sh.acts.length+1) ((sh.acts.map λx:Nat=>iX (x:Int))++[iX (x:Int)]))(u:(w.alloc o).grownBy w2 av.ownBlock)(v:av.ownBlock=some g\/w.heap.size<=g){e:Value}(y:e=slice (qX g) (sh.acts.length+1) cap:=by rfl):
  Sw (w2.setCell ⟨S,2,none⟩ e) X S D (sh.addAct x) mv dv e pv rv ps dp/\KeepO S av e w (w2.setCell ⟨S,2,none⟩ e):=by
 have ⟨p,f,z⟩:=zE7 (i:=2) a.aOwn (Nat.lt_succ_self S) a.lt s u v;rw[<-y] at p f;have A:=yK f a.mOwn (Nat.lt_succ_self S) (xF a.mOwn a.aOwn (by decide));have B:=yK f a.dOwn (Nat.lt_succ_self S) (xF a.dOwn a.aOwn (by decide));have C:=yK f a.pOwn (Nat.lt_succ_self S) (xF a.pOwn a.aOwn (by decide));have E:=λi (j:i<sh.modes.length)=>yK f (a.rOwn i j) (Nat.lt_succ_self S) (xF (a.rOwn i j) a.aOwn (by decide));have l:∀q,X q->q≠S/\some q≠av.ownBlock:=λq c=>⟨Nat.ne_of_gt (a.xlt q c).1,(a.xm q c).2.2.1⟩
 have r:∀m b t,TreeIn X w m b t->TreeIn X (w2.setCell ⟨S,2,none⟩ e) m b t:=λm b t F=>jT f F l;have G:∀q,X q->some q≠e.ownBlock:=λq c=>(f.block q (a.xlt q c).2 (l q c).1 (l q c).2).2;have H:(w2.setCell ⟨S,2,none⟩ e).heap[S]? =some (.cells #[mv,dv,e,pv] 114):=by
  have:=z.trans a.blk;simp[setCell,lU,this]
 have I:∀q,X q->S<q/\q<(w2.setCell ⟨S,2,none⟩ e).heap.size:=λq c=>⟨(a.xlt q c).1,lZ (a.xlt q c).2 f.size⟩
 refine⟨⟨H,A.1,B.1,(by show(setCell _ _ _).ownsRow _ _ _ _ (sh.acts++[x]).length ((sh.acts++[x]).map _);rw[kX,List.map_append];exact p),C.1,λi j=>(E i j).1,a.rApart,λi j k J=>r _ _ _ (a.rTree i j k J),λi j=>r _ _ _ (a.dTree i j),I,λq c=>⟨(a.xm q c).1,(a.xm q c).2.1,G q c,(a.xm q c).2.2.2⟩,a.xr,lZ a.lt f.size⟩,f⟩
theorem Sw.appPush (a:Sw w X S D sh mv dv av pv rv ps dp){x:ByteArray}(s:w2.ownsRow (S+1) 9 1 (slice (qX g) (sh.pushed.length+1) cap) (sh.pushed.length+1) ((sh.pushed.map λx=>string x)++[string x]))(u:(w.alloc o).grownBy w2 pv.ownBlock)(v:pv.ownBlock=some g\/w.heap.size<=g){e:Value}(y:e=slice (qX g) (sh.pushed.length+1) cap:=by rfl):
  Sw (w2.setCell ⟨S,3,none⟩ e) X S D (sh.addPush x) mv dv av e rv ps dp/\KeepO S pv e w (w2.setCell ⟨S,3,none⟩ e):=by
 have ⟨p,f,z⟩:=zE7 (i:=3) a.pOwn (Nat.lt_succ_self S) a.lt s u v;rw[<-y] at p f;have A:=yK f a.mOwn (Nat.lt_succ_self S) (xF a.mOwn a.pOwn (by decide));have B:=yK f a.dOwn (Nat.lt_succ_self S) (xF a.dOwn a.pOwn (by decide));have C:=yK f a.aOwn (Nat.lt_succ_self S) (xF a.aOwn a.pOwn (by decide));have E:=λi (j:i<sh.modes.length)=>yK f (a.rOwn i j) (Nat.lt_succ_self S) (xF (a.rOwn i j) a.pOwn (by decide));have l:∀q,X q->q≠S/\some q≠pv.ownBlock:=λq c=>⟨Nat.ne_of_gt (a.xlt q c).1,(a.xm q c).2.2.2⟩
 have r:∀m b t,TreeIn X w m b t->TreeIn X (w2.setCell ⟨S,3,none⟩ e) m b t:=λm b t F=>jT f F l;have G:∀q,X q->some q≠e.ownBlock:=λq c=>(f.block q (a.xlt q c).2 (l q c).1 (l q c).2).2;have H:(w2.setCell ⟨S,3,none⟩ e).heap[S]? =some (.cells #[mv,dv,av,e] 114):=by
  have:=z.trans a.blk;simp[setCell,lU,this]
 have I:∀q,X q->S<q/\q<(w2.setCell ⟨S,3,none⟩ e).heap.size:=λq c=>⟨(a.xlt q c).1,lZ (a.xlt q c).2 f.size⟩
 refine⟨⟨H,A.1,B.1,C.1,(by show(setCell _ _ _).ownsRow _ _ _ _ (sh.pushed++[x]).length ((sh.pushed++[x]).map _);rw[kX,List.map_append];exact p),λi j=>(E i j).1,a.rApart,λi j k J=>r _ _ _ (a.rTree i j k J),λi j=>r _ _ _ (a.dTree i j),I,λq c=>⟨(a.xm q c).1,(a.xm q c).2.1,(a.xm q c).2.2.1,G q c⟩,a.xr,lZ a.lt f.size⟩,f⟩
theorem Sw.appDef (a:Sw w X S D sh mv dv av pv rv ps dp){m:ByteArray}{t:Tr}{p:Nat}(r:TreeIn X w D p t)(y:w2.ownsRow (S+1) 233 2 (slice (qX g) (sh.defs.length+1) cap) (sh.defs.length+1) (zBe (λi=>string (sh.defn i).1) (λi=>pointer (some ⟨dp i,0,none⟩)) sh.defs.length++[string m,pX p]))(z:(w.alloc o).grownBy w2 dv.ownBlock)(A:dv.ownBlock=some g\/w.heap.size<=g){f:Value}(B:f=slice (qX g) (sh.defs.length+1) cap:=by rfl):
  Sw (w2.setCell ⟨S,1,none⟩ f) X S D (sh.addDef m t) mv f av pv rv ps (λi=>if i=sh.defs.length then p else dp i)/\KeepO S dv f w (w2.setCell ⟨S,1,none⟩ f):=by
 have ⟨x,j,C⟩:=zE7 (i:=1) a.dOwn (Nat.lt_succ_self S) a.lt y z A;rw[<-B] at x j;have E:=yK j a.mOwn (Nat.lt_succ_self S) (xF a.mOwn a.dOwn (by decide));have F:=yK j a.aOwn (Nat.lt_succ_self S) (xF a.aOwn a.dOwn (by decide));have G:=yK j a.pOwn (Nat.lt_succ_self S) (xF a.pOwn a.dOwn (by decide));have H:=λi (l:i<sh.modes.length)=>yK j (a.rOwn i l) (Nat.lt_succ_self S) (xF (a.rOwn i l) a.dOwn (by decide));have s:∀q,X q->q≠S/\some q≠dv.ownBlock:=λq c=>⟨Nat.ne_of_gt (a.xlt q c).1,(a.xm q c).2.1⟩
 have u:∀v b t,TreeIn X w v b t->TreeIn X (w2.setCell ⟨S,1,none⟩ f) v b t:=λv b t r=>jT j r s;have I:∀q,X q->some q≠f.ownBlock:=λq c=>(j.block q (a.xlt q c).2 (s q c).1 (s q c).2).2;have J:(w2.setCell ⟨S,1,none⟩ f).heap[S]? =some (.cells #[mv,f,av,pv] 114):=by
  have:=C.trans a.blk;simp[setCell,lU,this]
 have K:∀q,X q->S<q/\q<(w2.setCell ⟨S,1,none⟩ f).heap.size:=λq c=>⟨(a.xlt q c).1,lZ (a.xlt q c).2 j.size⟩
 refine⟨⟨J,E.1,(by rw[zDq,vT,zDp,if_pos rfl,zBd (λi=>string ((sh.addDef m t).defn i).1) (λi=>pointer (some ⟨if i=sh.defs.length then p else dp i,0,none⟩)) (λi=>string (sh.defn i).1) (λi=>pointer (some ⟨dp i,0,none⟩)) _ λi l=>⟨by rw[zDo sh m t i l],by rw[if_neg (by omega)]⟩];exact x),F.1,G.1,λi l=>(H i l).1,a.rApart,λi l k L=>u _ _ _ (a.rTree i l k L),λi l=>(by
  rw[zDq] at l;by_cases e:i=sh.defs.length
  ·subst e;rw[zDp];simp only[if_pos];exact u _ _ _ r
  ·rw[zDo sh m t i (by omega)];simp only[if_neg e];exact u _ _ _ (a.dTree i (by omega))),K,λq c=>⟨(a.xm q c).1,I q c,(a.xm q c).2.2.1,(a.xm q c).2.2.2⟩,a.xr,lZ a.lt j.size⟩,j⟩
theorem Sw.appMode (a:Sw w X S D sh mv dv av pv rv ps dp){p:ByteArray}(A:w2.ownsRow (S+1) 120 2 (slice (qX g) (sh.modes.length+1) cap) (sh.modes.length+1) (zBe (λi=>string (sh.mode i).1) rv sh.modes.length++[string p,nX]))(B:(w.alloc o).grownBy w2 mv.ownBlock)(C:mv.ownBlock=some g\/w.heap.size<=g){l:Value}(E:l=slice (qX g) (sh.modes.length+1) cap:=by rfl):
  Sw (w2.setCell ⟨S,0,none⟩ l) X S D (sh.addMode p) l dv av pv (λi=>if i=sh.modes.length then nX else rv i) (λi=>if i=sh.modes.length then[] else ps i) dp/\KeepO S mv l w (w2.setCell ⟨S,0,none⟩ l):=by
 have ⟨x,m,F⟩:=zE7 (i:=0) a.mOwn (Nat.lt_succ_self S) a.lt A B C;rw[<-E] at x m;have G:=yK m a.dOwn (Nat.lt_succ_self S) (xF a.dOwn a.mOwn (by decide));have H:=yK m a.aOwn (Nat.lt_succ_self S) (xF a.aOwn a.mOwn (by decide));have I:=yK m a.pOwn (Nat.lt_succ_self S) (xF a.pOwn a.mOwn (by decide));have J:=λi (f:i<sh.modes.length)=>yK m (a.rOwn i f) (Nat.lt_succ_self S) (xF (a.rOwn i f) a.mOwn (by decide));have s:∀q,X q->q≠S/\some q≠mv.ownBlock:=λq c=>⟨Nat.ne_of_gt (a.xlt q c).1,(a.xm q c).1⟩
 have y:∀u b t,TreeIn X w u b t->TreeIn X (w2.setCell ⟨S,0,none⟩ l) u b t:=λu b t K=>jT m K s;have L:∀q,X q->some q≠l.ownBlock:=λq c=>(m.block q (a.xlt q c).2 (s q c).1 (s q c).2).2;have M:(w2.setCell ⟨S,0,none⟩ l).heap[S]? =some (.cells #[l,dv,av,pv] 114):=by
  have:=F.trans a.blk;simp[setCell,lU,this]
 have N:∀q,X q->S<q/\q<(w2.setCell ⟨S,0,none⟩ l).heap.size:=λq c=>⟨(a.xlt q c).1,lZ (a.xlt q c).2 m.size⟩
 refine⟨⟨M,(by rw[jY,vT,zAF,if_pos rfl,zBd (λi=>string ((sh.addMode p).mode i).1) (λi=>if i=sh.modes.length then nX else rv i) (λi=>string (sh.mode i).1) rv _ λi f=>⟨by rw[zAE sh p i f],by rw[if_neg (by omega)]⟩];exact x),G.1,H.1,I.1,λi f=>(by
  rw[jY] at f;by_cases e:i=sh.modes.length
  ·subst e;rw[zAF];simp only[if_pos];exact ownsRow_nil _ _ _ _
  ·rw[zAE sh p i (by omega)];simp only[if_neg e];exact(J i (by omega)).1),λi j q f O P c=>(by
  rw[jY] at f O;by_cases e:i=sh.modes.length
  ·simp only[if_pos e] at c;cases c
  ·simp only[if_neg e] at c
   by_cases z:j=sh.modes.length
   ·simp only[if_pos z];intro v;cases v
   ·simp only[if_neg z];exact a.rApart i j q (by omega) (by omega) P c),λi f k r=>(by
  rw[jY] at f;by_cases e:i=sh.modes.length
  ·subst e;rw[zAF] at r;exact absurd r (Nat.not_lt_zero _)
  ·rw[zAE sh p i (by omega)] at r ⊢;simp only[if_neg e];exact y _ _ _ (a.rTree i (by omega) k r)),λi f=>y _ _ _ (a.dTree i f),N,λq c=>⟨L q c,(a.xm q c).2.1,(a.xm q c).2.2.1,(a.xm q c).2.2.2⟩,λq i c f=>(by
  rw[jY] at f;by_cases e:i=sh.modes.length
  ·simp only[if_pos e];intro v;cases v
  ·simp only[if_neg e];exact a.xr q i c (by omega)),lZ a.lt m.size⟩,m⟩
end
end
end Go.Proofs.YtbjcfkdnjaiclaaGreat
