import Derived.Deep.DrawnRows
import Derived.Deep.RegionLaw
import Derived.Test.YtbjcfkdnjaiclaaGreatS0
import Derived.Test.YtbjcfkdnjaiclaaGreatS17
/- Parts of the proof. -/
set_option linter.unusedVariables false
set_option linter.unusedSimpArgs false
set_option maxHeartbeats 4000000
set_option maxRecDepth 100000
namespace Go.Proofs.YtbjcfkdnjaiclaaGreat
open Go.RowKit Go.Proofs.Tryz Go.World
open Go.Value (int slice bool pointer string agg tuple)
open Go.IntKind (i64)
open Go.Ending (returned)
section
structure Rx where
 at_:Nat
 depth:Nat
 both:Bool
def RxAt (w:World)(b:Nat)(s:ByteArray)(dv:Value)(r:Rx):Prop:=w.heap[b]? =some (.cells #[string s,dv,int i64 (r.at_:Int),int i64 (r.depth:Int),bool r.both] 252)
namespace RxAt
variable {w w':World} {b:Nat} {s:ByteArray} {dv:Value} {r:Rx}
theorem lt (a:RxAt w b s dv r):b<w.heap.size:=(kQ.1 a).1
theorem cells (a:RxAt w b s dv r):w.cell? ⟨b,0,none⟩=some (string s)/\w.cell? ⟨b,1,none⟩=some dv/\w.cell? ⟨b,2,none⟩=some (iX (r.at_:Int))/\w.cell? ⟨b,3,none⟩=some (iX (r.depth:Int))/\w.cell? ⟨b,4,none⟩=some (bool r.both)/\∀i,w.frozen? ⟨b,i,none⟩=false:=by
 unfold RxAt at a;refine⟨?_,?_,?_,?_,?_,λi=>?_⟩
 all_goals first|(unfold cell?;rw[a];rfl)|(unfold frozen?;rw[a];simp)
theorem of_block (a:RxAt w b s dv r)(e:w'.heap[b]? =w.heap[b]?):RxAt w' b s dv r:=e.trans a
theorem setAt (a:RxAt w b s dv r)(q:Nat):RxAt (w.setCell ⟨b,2,none⟩ (iX (q:Int))) b s dv {r with at_:=q}:=by
 unfold RxAt at *;simp[setCell,lU,a]
end RxAt
theorem qY (w:World)(b:Nat)(s:ByteArray)(dv:Value)(r:Rx)(c:RxAt w b s dv r)(i:s.size<=1048576)(j:r.at_<=2000000)(k:Nat)(l:k<=1):
  Calls prog 200 #[pX b,iX (k:Int)] w λe w'=>e=returned (int .u8 (byt s (r.at_+k):Nat))/\w'=w:=by
 obtain⟨c0,-,c2,-,-,-⟩:=c.cells;by_cases d:r.at_+k<s.size
 ·have a:Hid (byt s (r.at_+k)=byt s (r.at_+k)):=rfl
  have f:¬((r.at_:Int)+(k:Int)<0):=by omega
  have g:(r.at_:Int)+(k:Int)<(s.size:Int):=by omega
  go_in;go_wp2;go_ret;exact⟨by rw[<-zBG s _ d];rfl,rfl⟩
 ·have a:Hid (byt s (r.at_+k)=0):=zID s _ (by omega)
  have f:¬((r.at_:Int)+(k:Int)<0):=by omega
  have g:(s.size:Int)<=(r.at_:Int)+(k:Int):=by omega
  go_in;go_wp2;go_ret;exact⟨by rw[a.out];rfl,rfl⟩
def zJ (s:ByteArray)(i:Nat)(t:ByteArray):Bool:=decide (i+t.size<=s.size)&&((s.extract i (i+t.size)).toList==t.toList)
def Rx.take (r:Rx)(s t:ByteArray):Rx:=if zJ s r.at_ t then{r with at_:=r.at_+t.size} else r
theorem zAn (w:World)(b:Nat)(s:ByteArray)(dv:Value)(r:Rx)(i:RxAt w b s dv r)(p:s.size<=1048576)(q:r.at_<=2000000)(t:ByteArray)(u:t.size<=1000000):
  Calls prog 189 #[pX b,string t] w λe w'=>e=returned (bool (zJ s r.at_ t))/\RxAt w' b s dv (r.take s t)/\∀H,Keep H b w w':=by
 obtain⟨c0,-,c2,-,-,l⟩:=i.cells;have v:=l 2;have f:=vl i;have j:((r.at_:Int)+(t.size:Int)).toNat=r.at_+t.size:=by omega
 by_cases g:r.at_+t.size<=s.size
 ·have x:¬((s.size:Int)<(r.at_:Int)+(t.size:Int)):=by omega
  have m:(r.at_:Int)+(t.size:Int)<=(s.size:Int):=by omega
  have y:(0:Int)<=(r.at_:Int):=by omega
  have z:(r.at_:Int)<=(r.at_:Int)+(t.size:Int):=by omega
  cases d:((s.extract r.at_ (r.at_+t.size)).toList==t.toList) with
  |true=>
   have a:zJ s r.at_ t=true:=by unfold zJ;rw[gJ g,d];rfl
   have c:Hid (zJ s r.at_ t=true/\r.take s t={r with at_:=r.at_+t.size}):=⟨a,by unfold Rx.take;rw[if_pos a]⟩
   have o:((s.extract r.at_ ((r.at_:Int)+(t.size:Int)).toNat).toList==t.toList)=true:=by rw[j];exact d
   go_in;go_wp2;go_quiet (fail);go_wp2;go_ret;refine⟨by rw[c.out.1];rfl,?_,λH=>Keep.drewSet w _ _ _⟩;rw[c.out.2];have k:=(RxAt.of_block (w':=w.drewN nq) f rfl).setAt (r.at_+t.size);rw[show ((r.at_+t.size:Nat):Int)=(r.at_:Int)+(t.size:Int) by omega] at k;exact k
  |false=>
   have a:zJ s r.at_ t=false:=by unfold zJ;rw[gJ g,d];rfl
   have c:Hid (zJ s r.at_ t=false/\r.take s t=r):=⟨a,by unfold Rx.take;rw[if_neg (by rw[a];decide)]⟩
   have o:((s.extract r.at_ ((r.at_:Int)+(t.size:Int)).toNat).toList==t.toList)=false:=by rw[j];exact d
   go_in;go_wp2;go_quiet (fail);go_wp2;go_ret;exact⟨by rw[c.out.1];rfl,by rw[c.out.2];exact RxAt.of_block f rfl,λH=>Keep.alike (w':=w.drewN nq) ⟨rfl,rfl,rfl⟩⟩
 ·have a:zJ s r.at_ t=false:=by unfold zJ;rw[gU g];rfl
  have c:Hid (zJ s r.at_ t=false/\r.take s t=r):=⟨a,by unfold Rx.take;rw[if_neg (by rw[a];decide)]⟩
  have m:(s.size:Int)<(r.at_:Int)+(t.size:Int):=by omega
  go_in;go_wp2;go_quiet (fail);go_wp2;go_ret;exact⟨by rw[c.out.1];rfl,by rw[c.out.2];exact RxAt.of_block f rfl,λH=>Keep.alike (w':=w.drewN nq) ⟨rfl,rfl,rfl⟩⟩
end
def yM (c:Nat):Bool:=xS c&&decide (c<=52)
def zBF (c:Nat):Int:=if yM c then(c:Int)-48 else -1
def Rx.on (r:Rx)(k:Bool):Rx:=if k then{r with at_:=r.at_+1} else r
theorem zFf (w:World)(b:Nat)(s:ByteArray)(dv:Value)(r:Rx)(m:RxAt w b s dv r)(u:s.size<=1048576)(v:r.at_<=2000000):
  Calls prog 214 #[pX b] w λe w'=>e=returned (iX (zBF (byt s r.at_)))/\RxAt w' b s dv (r.on (yM (byt s r.at_)))/\∀H,Keep H b w w':=by
 obtain⟨-,-,c2,-,-,x⟩:=m.cells;have A:=x 2;have o:=vl m;have p:=vl <| qY w b s dv r m u v 0 (by omega);have B:=vT s r.at_;generalize byt s r.at_=c at *;have k:Hid (∀w,Ca 206 #[int .u8 (c:Int)] w λe w'=>e=returned (bool (xS c))/\w'=w):=λw=>zAG w c;cases i:xS c with
 |false=>
  have f:yM c=false:=by unfold yM;rw[i];rfl
  have g:Hid (zBF c=-1/\r.on (yM c)=r):=⟨by unfold zBF;rw[if_neg (by rw[f];decide)],by unfold Rx.on;rw[if_neg (by rw[f];decide)]⟩
  rw[i] at k;have l:=vl k;go_in;go_wp2_with (first|(go_at_call 200;refine p.mono ?_;rintro e j ⟨rfl,a⟩;have d:=a.symm;subst d)|(go_at_call 206;refine(l _).mono ?_;rintro e j ⟨rfl,a⟩;have d:=a.symm;subst d))
  go_ret;exact⟨by rw[g.out.1];rfl,by rw[g.out.2];exact o,λH=>Keep.refl _ _ _⟩
 |true=>
  have C:48<=c/\c<=57:=by unfold xS at i;simpa using i
  rw[i] at k;have l:=vl k;have y:IntKind.u8.wrap ((c:Int)-48)=(c:Int)-48:=by rw[IntKind.wrap_u8];omega
  by_cases q:c<=52
  ·have f:yM c=true:=by unfold yM;rw[i,gJ q];rfl
   have g:Hid (zBF c=(c:Int)-48/\r.on (yM c)={r with at_:=r.at_+1}):=⟨by unfold zBF;rw[if_pos f],by unfold Rx.on;rw[if_pos f]⟩
   have z:(c:Int)-48<=4:=by omega
   go_in;go_wp2_with (first|(go_at_call 200;refine p.mono ?_;rintro e j ⟨rfl,a⟩;have d:=a.symm;subst d)|(go_at_call 206;refine(l _).mono ?_;rintro e j ⟨rfl,a⟩;have d:=a.symm;subst d))
   go_ret;refine⟨by rw[g.out.1];first|rfl|(simp [y];done)|(simp;omega),?_,λH=>Keep.set _ _ _⟩;rw[g.out.2];have t:=o.setAt (r.at_+1);rw[show ((r.at_+1:Nat):Int)=(r.at_:Int)+1 by omega] at t;exact t
  ·have f:yM c=false:=by unfold yM;rw[i,gU q];rfl
   have g:Hid (zBF c=-1/\r.on (yM c)=r):=⟨by unfold zBF;rw[if_neg (by rw[f];decide)],by unfold Rx.on;rw[if_neg (by rw[f];decide)]⟩
   have z:4<(c:Int)-48:=by omega
   go_in;go_wp2_with (first|(go_at_call 200;refine p.mono ?_;rintro e j ⟨rfl,a⟩;have d:=a.symm;subst d)|(go_at_call 206;refine(l _).mono ?_;rintro e j ⟨rfl,a⟩;have d:=a.symm;subst d))
   go_ret;exact⟨by rw[g.out.1];rfl,by rw[g.out.2];exact o,λH=>Keep.refl _ _ _⟩
def zCn (s:ByteArray)(i:Nat):Bool:=decide (s.size<=i)||(byt s i==124||byt s i==41)
theorem zGT (w:World)(b:Nat)(s:ByteArray)(dv:Value)(r:Rx)(d:RxAt w b s dv r)(k:s.size<=1048576)(l:r.at_<=2000000):
  Calls prog 194 #[pX b] w λe w'=>e=returned (bool (zCn s r.at_))/\∀H c,Keep H c w w':=by
 obtain⟨c0,-,c2,-,-,-⟩:=d.cells;by_cases f:s.size<=r.at_
 ·have a:Hid (zCn s r.at_=true):=by show _=_;unfold zCn;rw[gJ f];rfl
  have m:(r.at_:Int)>=(s.size:Int):=by omega
  go_in;go_wp2;go_quiet (fail);go_wp2;go_ret;exact⟨by rw[a.out];rfl,λH c=>Keep.alike (w':=w.drewN nq) ⟨rfl,rfl,rfl⟩⟩
 ·have a:Hid (zCn s r.at_=(byt s r.at_==124||byt s r.at_==41)):=by show _=_;unfold zCn;rw[gU f];rfl
  have m:(r.at_:Int)<(s.size:Int):=by omega
  have g:Hid (∀nq,Ca 200 #[pX b,iX 0] (w.drewN nq) λe w'=>e=returned (int .u8 (byt s r.at_:Nat))/\w'=w.drewN nq):=λnq=>qY (w.drewN nq) b s dv r (RxAt.of_block d rfl) k l 0 (by omega);generalize byt s r.at_=c at *;by_cases i:c=124
  ·subst i
   go_in;go_wp2;go_quiet (fail);go_wp2_with (first|(go_at_call 200;refine(g _).mono ?_;rintro e o ⟨rfl,p⟩))
   go_ret;exact⟨by rw[a.out];rfl,λH c=>Keep.alike (w':=w.drewN nq) ⟨rfl,rfl,rfl⟩⟩
  ·have u:((c:Int)==124)=false:=by rw[hX];omega
   have q:(c==124)=false:=by rw[hX];exact i
   have t:Hid (zCn s r.at_=((c:Int)==41)):=by
    show _=_;rw[a.out,q,Bool.false_or];by_cases j:c=41
    ·rw[j];rfl
    ·rw[show (c==41)=false by rw[hX];exact j,show((c:Int)==41)=false by rw[hX];omega]
   go_in;go_wp2;go_quiet (fail);go_wp2_with (first|(go_at_call 200;refine(g _).mono ?_;rintro e o ⟨rfl,p⟩))
   go_ret;exact⟨by rw[t.out];rfl,λH c=>Keep.alike (w':=w.drewN nq) ⟨rfl,rfl,rfl⟩⟩
def zBl (s:ByteArray)(i:Nat):Nat->Nat
 |0=>0
 |j+1=>zBl s i j*16+(zAd (byt s (i+j))).toNat
def yV (s:ByteArray)(i most:Nat):Nat:=(List.range most).findIdx λj=>decide (zAd (byt s (i+j))<0)
theorem zL9 (c:Nat):zAd c<16/\ -1<=zAd c:=by
 unfold zAd;by_cases a:xS c=true
 ·have b:48<=c/\c<=57:=by unfold xS at a;simpa using a
  rw[if_pos a];omega
 ·rw[if_neg a]
  split <;> omega
theorem zL7 (s:ByteArray)(i j:Nat):zBl s i j<16^j:=by
 induction j with
 |zero=>exact Nat.one_pos
 |succ j a=>
  have:=(zL9 (byt s (i+j))).1;show zBl s i j*16+(zAd (byt s (i+j))).toNat<16^(j+1);rw[Nat.pow_succ];omega
theorem zPn (s:ByteArray)(i most j:Nat)(a:j<most)(b:zAd (byt s (i+j))<0)(c:∀k,k<j->0<=zAd (byt s (i+k))):yV s i most=j:=
 zEd _ _ j (by rw[List.length_range];exact a) (by rw[vK _ _ a];exact gJ b) λk d=>by rw[vK _ _ (by omega)];exact gU (by have:=c k d;omega)
theorem zOj (s:ByteArray)(i most:Nat)(c:∀k,k<most->0<=zAd (byt s (i+k))):yV s i most=most:=by
 have b:=zBP (List.range most) (λj=>decide (zAd (byt s (i+j))<0)) λk a=>by
  rw[List.length_range] at a;rw[vK _ _ a];exact gU (by have:=c k a;omega)
 rw[List.length_range] at b;exact b
theorem zM2 (w:World)(b:Nat)(s:ByteArray)(dv:Value)(r:Rx)(l:RxAt w b s dv r)(B:s.size<=1048576)(Y:r.at_<=1900000)(most:Nat)(aa:most<=6):
  Calls prog 216 #[pX b,iX (most:Int)] w λe w'=>e=returned (tuple #[iX (zBl s r.at_ (yV s r.at_ most):Nat),iX (yV s r.at_ most:Nat)])/\RxAt w' b s dv {r with at_:=r.at_+yV s r.at_ most}/\∀H,Keep H b w w':=by
 have C:=vl l;have D:Hid (∀j,j<=most->zBl s r.at_ j<=16777216):=λj E=>Nat.le_of_lt (lZ (zL7 s r.at_ j) (kG (by omega) (by omega:j<=6)));have F:Hid (∀j,j<most->zAd (byt s (r.at_+j))<0->(∀k,k<j->0<=zAd (byt s (r.at_+k)))->yV s r.at_ most=j):=λj=>zPn s r.at_ most j;have G:=vl <| zOj s r.at_ most;have I:Hid (∀j,zBl s r.at_ (j+1)=zBl s r.at_ j*16+(zAd (byt s (r.at_+j))).toNat):=λj=>rfl;have J:Hid (zBl s r.at_ 0=0):=rfl;generalize ab:zBl s r.at_=o at *;go_in;go_wp2;go_loopg [6,7] most (λq n i wr=>∃j:Nat,q=most-j/\j<=most/\n=iX (o j:Int)/\i=iX (j:Int)/\(∀k,k<j->0<=zAd (byt s (r.at_+k)))/\RxAt wr b s dv {r with at_:=r.at_+j}/\∀H,Keep H b w wr)
 case atStart=>exact⟨0,rfl,lX,by rw[J.out];rfl,rfl,λk v=>by omega,C,λH=>Keep.refl _ _ _⟩
 case round=>
  obtain⟨j,K,E,rfl,rfl,x,p,L⟩:=hrel;have a:Hid (gk=most-j/\(∀k,k<j->0<=zAd (byt s (r.at_+k)))/\RxAt wr b s dv {r with at_:=r.at_+j}/\∀H,Keep H b w wr):=⟨K,x,p,L⟩
  by_cases M:j<most
  ·have N:(j:Int)<(most:Int):=by omega
   have O:=qY wr b s dv {r with at_:=r.at_+j} p B (by show r.at_+j<=2000000;omega) 0 (by omega);have y:=vl O;have z:Hid (∀w2,Ca 220 #[int .u8 (byt s (r.at_+j):Nat)] w2 λe w'=>e=returned (iX (zAd (byt s (r.at_+j))))/\w'=w2):=λw2=>zGt w2 _ (vT s _);obtain⟨-,-,c2,-,-,P⟩:=p.cells;have Q:=c2;have ac:=P 2;have ad:=zL9 (byt s (r.at_+j));have R:Hid (zAd (byt s (r.at_+j))<0->yV s r.at_ most=j):=λl=>F j M l a.2.1;have S:Hid (0<=zAd (byt s (r.at_+j))->∀k,k<j+1->0<=zAd (byt s (r.at_+k))):=λl k v=>by
    by_cases e:k=j
    ·rw[e];exact l
    ·exact a.2.1 k (by omega)
   have T:=vl <| I j;have ae:=D j (by omega);have A:=vl <| p.setAt (r.at_+(j+1));generalize zAd (byt s (r.at_+j))=t at *;generalize byt s (r.at_+j)=c at *;by_cases U:t<0
   ·have m:=vl <| R U
    go_wp2_with (first|(go_at_call 200;refine y.mono ?_;rintro e u ⟨rfl,f⟩;have g:=f.symm;subst g)|(go_at_call 220;refine(z _).mono ?_;rintro e u ⟨rfl,f⟩;have g:=f.symm;subst g))
    refine gV (results_tmp2 rfl _ _ _) rfl ?_;exact⟨by rw[m.out];rfl,by rw[m.out];exact a.2.2.1,a.2.2.2⟩
   ·have V:=vl <| S (by omega)
    have af:0<=t:=by omega
    have W:Hid ((o (j+1):Int)=(o j:Int)*16+t):=by show _=_;rw[T.out];omega
    have ag:wr.cell? ⟨b,2,none⟩=some (iX ((r.at_:Int)+(j:Int))):=by rw[Q];congr 2
    have X:Hid (((r.at_+(j+1):Nat):Int)=(r.at_:Int)+(j:Int)+1):=by show _=_;omega
    rw[X.out] at A;generalize o j=ah at *;go_wp2_with (first|(go_at_call 200;refine y.mono ?_;rintro e u ⟨rfl,f⟩;have g:=f.symm;subst g)|(go_at_call 220;refine(z _).mono ?_;rintro e u ⟨rfl,f⟩;have g:=f.symm;subst g))
    go_roundg (most-(j+1))
    case measure=>rw[a.out.1];omega
    case rel=>exact⟨j+1,rfl,by omega,by rw[W.out],by go_num,V,A,λH=>(a.2.2.2 H).trans (Keep.set _ _ _)⟩
  ·have N:(most:Int)<=(j:Int):=by omega
   have e:j=most:=by omega
   have m:=vl <| G λk v=>x k (by omega);subst e;go_wp2;refine gV (results_tmp2 rfl _ _ _) rfl ?_;exact⟨by rw[m.out];rfl,by rw[m.out];exact a.2.2.1,a.2.2.2⟩
def zBs (s:ByteArray)(i:Nat):Bool:=byt s i==42||byt s i==43||byt s i==63||(byt s i==123&&xS (byt s (i+1)))
theorem zEL (w:World)(b:Nat)(s:ByteArray)(dv:Value)(r:Rx)(k:RxAt w b s dv r)(l:s.size<=1048576)(m:r.at_<=2000000):
  Calls prog 197 #[pX b] w λe w'=>e=returned (bool (zBs s r.at_))/\w'=w:=by
 have g:=vl <| qY w b s dv r k l m 0 (by omega);have u:=vl <| qY w b s dv r k l m 1 (by omega);have v:Hid (∀w2,Ca 206 #[int .u8 (byt s (r.at_+1):Nat)] w2 λe w'=>e=returned (bool (xS (byt s (r.at_+1))))/\w'=w2):=λw2=>zAG w2 _;have i:Hid (zBs s r.at_=(byt s r.at_==42||byt s r.at_==43||byt s r.at_==63||(byt s r.at_==123&&xS (byt s (r.at_+1))))):=rfl;generalize xS (byt s (r.at_+1))=x at *;generalize byt s (r.at_+1)=c1 at *;generalize byt s r.at_=c at *;by_cases o:c=42
 ·subst o
  go_in;go_wp2_with (first|(go_at_call 200;refine g.mono ?_;rintro e f ⟨rfl,a⟩;have d:=a.symm;subst d))
  go_ret;exact⟨by rw[i.out];rfl,rfl⟩
 by_cases p:c=43
 ·subst p
  go_in;go_wp2_with (first|(go_at_call 200;refine g.mono ?_;rintro e f ⟨rfl,a⟩;have d:=a.symm;subst d))
  go_ret;exact⟨by rw[i.out];rfl,rfl⟩
 by_cases q:c=63
 ·subst q
  go_in;go_wp2_with (first|(go_at_call 200;refine g.mono ?_;rintro e f ⟨rfl,a⟩;have d:=a.symm;subst d))
  go_ret;exact⟨by rw[i.out];rfl,rfl⟩
 by_cases t:c=123
 ·subst t
  have j:Hid (zBs s r.at_=x):=by show _=_;rw[i.out];rfl
  go_in;go_wp2_with (first|(go_at_call 200;first|(have m2:=y;refine u.mono ?_;rintro e f ⟨rfl,a⟩;have d:=a.symm;subst d)|(refine g.mono ?_;rintro e f ⟨rfl,a⟩;have d:=a.symm;subst d;have y:=trivial))|(go_at_call 206;refine(v _).mono ?_;rintro e f ⟨rfl,a⟩;have d:=a.symm;subst d))
  go_ret;exact⟨by rw[j.out];rfl,rfl⟩
 ·have j:Hid (zBs s r.at_=false):=by
   show _=_;rw[i.out,show(c==42)=false by rw[hX];exact o,show(c==43)=false by rw[hX];exact p,show(c==63)=false by rw[hX];exact q,show(c==123)=false by rw[hX];exact t];rfl
  have z:((c:Int)==42)=false:=by rw[hX];omega
  have A:((c:Int)==43)=false:=by rw[hX];omega
  have B:((c:Int)==63)=false:=by rw[hX];omega
  have C:((c:Int)==123)=false:=by rw[hX];omega
  go_in;go_wp2_with (first|(go_at_call 200;refine g.mono ?_;rintro e f ⟨rfl,a⟩;have d:=a.symm;subst d))
  go_ret;exact⟨by rw[j.out];rfl,rfl⟩
def zJG (c:Int):Cs:=⟨[(c,c)],false⟩
def zP8:Cs:=⟨[(10,10)],true⟩
theorem zMP (w:World)(c:Int)(b:Nat)(a:w.heap[b]? =some (.cells #[iX c,iX c] 255)):RangesAt w (slice (qX b) 1 1) [(c,c)]:=by
 have d:=(kQ.1 a).1;refine⟨_,1,rfl,lQ,by unfold maxLen;omega,λi f=>?_⟩;have e:i=0:=by simp at f;omega
 subst e;refine⟨b,0,rfl,d,?_,?_⟩
 ·unfold cell?;rw[a];rfl
 ·unfold cell?;rw[a];rfl
theorem zEB (w:World)(c:Int):
  Calls prog 210 #[iX c] w λe w'=>∃u,e=returned (agg #[u,bool false])/\(∃g,w.heap.size<=g/\u=slice (qX g) 1 1/\w'.heap[g]? =some (.cells #[iX c,iX c] 255))/\Grew w w':=by
 obtain⟨w2,d,f,h,i,j⟩:∃w2,w2=(w.alloc (Obj.cells #[slice (some ⟨w.heap.size+1,0,none⟩) 1 1,bool false] 161)).alloc (Obj.cells #[iX c,iX c] 255)/\w2.cell? ⟨w.heap.size,0,none⟩=some (slice (some ⟨w.heap.size+1,0,none⟩) 1 1)/\w2.cell? ⟨w.heap.size,1,none⟩=some (bool false)/\Hid (w2.heap[w.heap.size+1]? =some (.cells #[iX c,iX c] 255))/\Hid (Grew w w2):=by
  have s1:(w.alloc (Obj.cells #[slice (some ⟨w.heap.size+1,0,none⟩) 1 1,bool false] 161)).heap.size=w.heap.size+1:=by simp
  have a:((w.alloc (Obj.cells #[slice (some ⟨w.heap.size+1,0,none⟩) 1 1,bool false] 161)).alloc (Obj.cells #[iX c,iX c] 255)).heap[w.heap.size]? =some (Obj.cells #[slice (some ⟨w.heap.size+1,0,none⟩) 1 1,bool false] 161):=(lG _ _ _ (by rw[s1];omega)).trans (gX _ _);have b:=gX (w.alloc (Obj.cells #[slice (some ⟨w.heap.size+1,0,none⟩) 1 1,bool false] 161)) (Obj.cells #[iX c,iX c] 255);rw[s1] at b;refine⟨_,rfl,?_,?_,b,(kZ _ _ lQ).trans (kZ _ _ (by rw[s1];omega))⟩
  ·unfold cell?;rw[a];rfl
  ·unfold cell?;rw[a];rfl
 go_in;go_wp2;rw[<-d];refine gV (v:=agg #[slice (some ⟨w.heap.size+1,0,none⟩) 1 1,bool false]) (by simp[results,results210,go_sem,f,h]) rfl ?_;exact⟨_,rfl,⟨_,by omega,rfl,i⟩,j⟩
theorem zNj (w:World):
  Calls prog 211 #[] w λe w'=>∃u,e=returned (agg #[u,bool true])/\(∃g,w.heap.size<=g/\u=slice (qX g) 1 1/\w'.heap[g]? =some (.cells #[iX 10,iX 10] 255))/\Grew w w':=by
 obtain⟨w2,c,d,f,h,i⟩:∃w2,w2=(w.alloc (Obj.cells #[slice (some ⟨w.heap.size+1,0,none⟩) 1 1,bool true] 161)).alloc (Obj.cells #[iX 10,iX 10] 255)/\w2.cell? ⟨w.heap.size,0,none⟩=some (slice (some ⟨w.heap.size+1,0,none⟩) 1 1)/\w2.cell? ⟨w.heap.size,1,none⟩=some (bool true)/\Hid (w2.heap[w.heap.size+1]? =some (.cells #[iX 10,iX 10] 255))/\Hid (Grew w w2):=by
  have s1:(w.alloc (Obj.cells #[slice (some ⟨w.heap.size+1,0,none⟩) 1 1,bool true] 161)).heap.size=w.heap.size+1:=by simp
  have a:((w.alloc (Obj.cells #[slice (some ⟨w.heap.size+1,0,none⟩) 1 1,bool true] 161)).alloc (Obj.cells #[iX 10,iX 10] 255)).heap[w.heap.size]? =some (Obj.cells #[slice (some ⟨w.heap.size+1,0,none⟩) 1 1,bool true] 161):=(lG _ _ _ (by rw[s1];omega)).trans (gX _ _);have b:=gX (w.alloc (Obj.cells #[slice (some ⟨w.heap.size+1,0,none⟩) 1 1,bool true] 161)) (Obj.cells #[iX 10,iX 10] 255);rw[s1] at b;refine⟨_,rfl,?_,?_,b,(kZ _ _ lQ).trans (kZ _ _ (by rw[s1];omega))⟩
  ·unfold cell?;rw[a];rfl
  ·unfold cell?;rw[a];rfl
 go_in;go_wp2;rw[<-c];refine gV (v:=agg #[slice (some ⟨w.heap.size+1,0,none⟩) 1 1,bool true]) (by simp[results,results211,go_sem,d,f]) rfl ?_;exact⟨_,rfl,⟨_,by omega,rfl,h⟩,i⟩
def xY (n:Nat):Nat:=if 24<n then 25 else n
theorem zDv (w:World)(n:Nat):Calls prog 195 #[iX (n:Int)] w λe w'=>e=returned (iX (xY n:Int))/\w'=w:=by
 by_cases b:24<n
 ·have a:Hid (xY n=25):=by show _=_;unfold xY;rw[if_pos b]
  have c:(n:Int)>24:=by omega
  go_in;go_wp2;go_ret;exact⟨by rw[a.out];rfl,rfl⟩
 ·have a:Hid (xY n=n):=by show _=_;unfold xY;rw[if_neg b]
  have c:(n:Int)<=24:=by omega
  go_in;go_wp2;go_ret;exact⟨by rw[a.out];rfl,rfl⟩
theorem zI1 {s t:ByteArray}{r:Rx}(a:zJ s r.at_ t=true):r.take s t={r with at_:=r.at_+t.size}:=by unfold Rx.take;rw[if_pos a]
theorem zLO {s t:ByteArray}{r:Rx}(a:zJ s r.at_ t=false):r.take s t=r:=by unfold Rx.take;rw[if_neg (by rw[a];decide)]
theorem zPN {a w:World}{b:Nat}{s t:ByteArray}{dv:Value}{r:Rx}(c:zJ s r.at_ t=true)(f:RxAt w b s dv r)(g:∀H,Keep H b a w)(i:s.size<=1048576)(j:r.at_<=2000000)(k:t.size<=1000000):
  Calls prog 189 #[pX b,string t] w λe w'=>e=returned (bool true)/\RxAt w' b s dv {r with at_:=r.at_+t.size}/\∀H,Keep H b a w':=by
 refine(zAn w b s dv r f i j t k).mono ?_;rintro e w' ⟨rfl,d,l⟩;rw[zI1 c] at d;exact⟨by rw[c],d,λH=>(g H).trans (l H)⟩
theorem zPO {a w:World}{b:Nat}{s t:ByteArray}{dv:Value}{r:Rx}(c:zJ s r.at_ t=false)(f:RxAt w b s dv r)(g:∀H,Keep H b a w)(i:s.size<=1048576)(j:r.at_<=2000000)(k:t.size<=1000000):
  Calls prog 189 #[pX b,string t] w λe w'=>e=returned (bool false)/\RxAt w' b s dv r/\∀H,Keep H b a w':=by
 refine(zAn w b s dv r f i j t k).mono ?_;rintro e w' ⟨rfl,d,l⟩;rw[zLO c] at d;exact⟨by rw[c],d,λH=>(g H).trans (l H)⟩
theorem zKD {b:Nat}{s:ByteArray}{dv:Value}{r:Rx}{x y:Nat}{v:Bool}{t:ByteArray}(a:zJ s x t=v)(c:s.size<=1048576)(d:x<=2000000)(f:t.size<=1000000)(i:y=if v then x+t.size else x):Hid (∀w,RxAt w b s dv {r with at_:=x}->Calls prog 189 #[pX b,string t] w λe w'=>e=returned (bool v)/\RxAt w' b s dv {r with at_:=y}/\∀H,Keep H b w w'):=λw g=>by
 subst i;cases v with
 |true=>exact zPN (r:={r with at_:=x}) a g (λH=>Keep.refl _ _ _) c d f
 |false=>exact zPO (r:={r with at_:=x}) a g (λH=>Keep.refl _ _ _) c d f
theorem zAE {w:World}{b:Nat}{s:ByteArray}{dv:Value}{r:Rx}{x y:Nat}{v:Bool}(t:ByteArray)(a:s.size<=1048576)(c:x<=2000000)(d:t.size<=1000000)(f:zJ s x t=v)(g:y=if v then x+t.size else x)(i:RxAt w b s dv {r with at_:=x}):
  Calls prog 189 #[pX b,string t] w λe w'=>e=returned (bool v)/\RxAt w' b s dv {r with at_:=y}/\∀H,Keep H b w w':=(zKD f a c d g) w i
theorem zPL {a w:World}{b x:Nat}{s:ByteArray}{c:UInt8}{dv:Value}{r:Rx}(d:zJ s x ⟨#[c]⟩=true)(f:RxAt w b s dv {r with at_:=x})(g:∀H,Keep H b a w)(i:s.size<=1048576)(j:x<=2000000):
  Calls prog 189 #[pX b,string ⟨#[c]⟩] w λe w'=>e=returned (bool true)/\RxAt w' b s dv {r with at_:=x+1}/\∀H,Keep H b a w':=zPN (r:={r with at_:=x}) d f g i j (by show 1<=1000000;decide)
theorem zPM {a w:World}{b x:Nat}{s:ByteArray}{c:UInt8}{dv:Value}{r:Rx}(d:zJ s x ⟨#[c]⟩=false)(f:RxAt w b s dv {r with at_:=x})(g:∀H,Keep H b a w)(i:s.size<=1048576)(j:x<=2000000):
  Calls prog 189 #[pX b,string ⟨#[c]⟩] w λe w'=>e=returned (bool false)/\RxAt w' b s dv {r with at_:=x}/\∀H,Keep H b a w':=zPO (r:={r with at_:=x}) d f g i j (by show 1<=1000000;decide)
theorem zFB (s:ByteArray)(p m:Nat):yV s p m<=m:=by
 have a:(List.range m).findIdx (λj=>decide (zAd (byt s (p+j))<0))<=(List.range m).length:=List.findIdx_le_length;rw[List.length_range] at a;exact a
theorem zPF {b:Nat}{s:ByteArray}{dv:Value}{r:Rx}(x m:Nat)(a:s.size<=1048576)(c:x<=1900000)(d:m<=6):Hid (∀w,RxAt w b s dv {r with at_:=x}->Calls prog 216 #[pX b,iX (m:Int)] w λe w'=>e=returned (tuple #[iX (zBl s x (yV s x m):Nat),iX (yV s x m:Nat)])/\RxAt w' b s dv {r with at_:=x+yV s x m}/\∀H,Keep H b w w'):=λw f=>zM2 w b s dv _ f a c m d
theorem zH4 {b:Nat}{s:ByteArray}{dv:Value}{r:Rx}(a:s.size<=1048576)(c:r.at_<=2000000):Hid (∀w,RxAt w b s dv r->Calls prog 200 #[pX b,iX 0] w λe w'=>e=returned (int .u8 (byt s r.at_:Nat))/\w'=w):=λw d=>qY w b s dv r d a c 0 (by omega)
theorem zPQ {b:Nat}{s:ByteArray}{dv:Value}{r:Rx}:Hid (∀w,RxAt w b s dv r->RxAt (w.setCell ⟨b,2,none⟩ (iX ((r.at_:Int)+1))) b s dv {r with at_:=r.at_+1}):=λw a=>a.setAt (r.at_+1)
theorem zOE {w:World}{b:Nat}{s:ByteArray}{dv:Value}{r:Rx}(a:RxAt w b s dv r):∃c d,c.at_=r.at_+1/\d=w.setCell ⟨b,2,none⟩ (iX ((r.at_:Int)+1))/\RxAt d b s dv c/\(∀H,Keep H b w d)/\Hid (∀q:Nat,({c with at_:=q}:Rx)={r with at_:=q})/\w.cell? ⟨b,2,none⟩=some (iX (r.at_:Int))/\w.frozen? ⟨b,2,none⟩=false:=by
 have e:=a.setAt (r.at_+1);rw[show ((r.at_+1:Nat):Int)=(r.at_:Int)+1 by omega] at e;exact⟨_,_,rfl,rfl,e,λH=>Keep.set _ _ _,λq=>rfl,a.cells.2.2.1,a.cells.2.2.2.2.2 2⟩
structure Sg where
 num:Int
 ok:Bool
 at_:Nat
def zIs (s:ByteArray)(p:Nat):Sg:=⟨(zBl s p (yV s p 2):Nat),yV s p 2==2,p+yV s p 2⟩
def zHH (s:ByteArray)(p:Nat):Sg:=⟨(zBl s p (yV s p 6):Nat),zJ s (p+yV s p 6) ⟨#[125]⟩&&decide (0<yV s p 6)&&zEM (zBl s p (yV s p 6):Nat),if zJ s (p+yV s p 6) ⟨#[125]⟩ then p+yV s p 6+1 else p+yV s p 6⟩
def zMf (c:Nat):Bool:=decide (c<33)||decide (126<c)||xS c||zC8 c
def zBk (s:ByteArray)(p:Nat):Sg:=if zJ s p ⟨#[110]⟩ then⟨10,true,p+1⟩ else if zJ s p ⟨#[116]⟩ then⟨9,true,p+1⟩ else if zJ s p ⟨#[120]⟩ then zIs s (p+1) else if zJ s p ⟨#[117,123]⟩ then zHH s (p+2) else if zMf (byt s p) then⟨0,false,p⟩ else⟨(byt s p:Nat),true,p+1⟩
theorem zCc (w:World)(b:Nat)(s:ByteArray)(dv:Value)(r:Rx)(h:RxAt w b s dv r)(hs:s.size<=1048576)(ha:r.at_<=1800000):
  Calls prog 209 #[pX b] w λe w'=>e=returned (tuple #[iX (zBk s (r.at_+1)).num,bool (zBk s (r.at_+1)).ok])/\RxAt w' b s dv {r with at_:=(zBk s (r.at_+1)).at_}/\∀H,Keep H b w w':=by
 obtain⟨r1,w0,hat1,hw0,hR,hk,HFR,c2,cf2⟩:=zOE h;have ha1:r1.at_<=2000000:=by omega
 have ha2:r1.at_+8<=2000000:=by omega
 obtain⟨es,hes⟩:∃es,es=zBk s (r.at_+1):=⟨_,rfl⟩
 rw[<-hes];rw[<-hat1] at hes;unfold zBk zIs zHH zMf at hes;have HV:=vl hes;have HX2:=zPF (b:=b) (dv:=dv) (r:=r1) (r1.at_+1) 2 hs (by omega) (by omega);have HX6:=zPF (b:=b) (dv:=dv) (r:=r1) (r1.at_+2) 6 hs (by omega) (by omega);have hk6:=zFB s (r1.at_+2) 6;have HIS:=vl λw=>zGo w ((zBl s (r1.at_+2) (yV s (r1.at_+2) 6):Nat):Int);have HP:=zH4 (b:=b) (dv:=dv) (r:=r1) hs ha1;have HS:=zPQ (b:=b) (s:=s) (dv:=dv) (r:=r1);have hcl:=vT s r1.at_;have HDG:=vl λw=>zAG w (byt s r1.at_);have HLT:=vl λw=>zGq w (byt s r1.at_);clear h hes hat1;generalize zEM ((zBl s (r1.at_+2) (yV s (r1.at_+2) 6):Nat):Int)=ic at *;generalize zBl s (r1.at_+2) (yV s (r1.at_+2) 6)=n6 at *;generalize yV s (r1.at_+2) 6=k6 at *;generalize zBl s (r1.at_+1) (yV s (r1.at_+1) 2)=n2 at *;generalize yV s (r1.at_+1) 2=k2 at *;generalize byt s r1.at_=c at *;have HB:Hid (((k2:Int)==2)=(k2==2)):=by
  show _=_;by_cases e:k2=2
  ·rw[e];rfl
  ·rw[show (k2==2)=false by rw[hX];exact e,hX];omega
 go_in;apply wp_cut;intro K0 HK0;go_wp2;apply HK0.out;clear HK0;apply wp_cut;intro K0 HK0;go_wp2;apply HK0.out;clear HK0;rw[<-hw0];clear hw0 c2 cf2;rcases hn:zJ s r1.at_ ⟨#[110]⟩ with _|_;rcases ht:zJ s r1.at_ ⟨#[116]⟩ with _|_;rcases hx:zJ s r1.at_ ⟨#[120]⟩ with _|_;rcases hu:zJ s r1.at_ ⟨#[117,123]⟩ with _|_;rcases Nat.lt_or_ge c 33 with q1|q1;rotate_left;rcases Nat.lt_or_ge 126 c with q2|q2;rotate_left;rcases hdg:xS c with _|_;rcases hlt:zC8 c with _|_;rotate_left 3;rcases hc:zJ s (r1.at_+2+k6) ⟨#[125]⟩ with _|_;rotate_left;rcases Nat.lt_or_ge 0 k6 with q6|q6
 all_goals
  try rw[hn] at HV
  try rw[ht] at HV
  try rw[hx] at HV
  try rw[hu] at HV
  try rw[hc] at HV
  try rw[gJ q6] at HV
  try rw[gU (Nat.not_lt.2 q6)] at HV
  try rw[gJ q1] at HV
  try rw[gU (Nat.not_lt.2 q1)] at HV
  try rw[gJ q2] at HV
  try rw[gU (Nat.not_lt.2 q2)] at HV
  try rw[hdg] at HV HDG
  try rw[hlt] at HV HLT
  try clear hdg
  try clear hlt
  try have i6:(k6:Int)>0:=by omega
  try have i6:(k6:Int)<=0:=by omega
  try have i1:(c:Int)<33:=by omega
  try have i1:33<=(c:Int):=by omega
  try have i2:126<(c:Int):=by omega
  try have i2:(c:Int)<=126:=by omega
  go_wp2_with (first|(go_at_call 189;(first|refine(zPO (by assumption) hR hk hs (by first|exact ha1|(show r1.at_+2+k6<=2000000;omega)) (by decide)).mono ?_|refine(zPN (by assumption) hR hk hs (by first|exact ha1|(show r1.at_+2+k6<=2000000;omega)) (by decide)).mono ?_);rintro e v ⟨rfl,hR,hk⟩)|(go_at_call 216;(first|refine(HX2 v hR).mono ?_|refine(HX6 v hR).mono ?_);rintro e v ⟨rfl,hR,hk2⟩;replace hk:=λH=>(hk H).trans (hk2 H))|(go_at_call 200;refine(HP v hR).mono ?_;rintro e w9 ⟨rfl,hw9⟩;have hw8:=hw9.symm;subst hw8;obtain⟨-,-,c2,-,-,cf⟩:=hR.cells;have cf2:=cf 2;clear cf)|(go_at_call 191;refine(HIS _).mono ?_;rintro e w9 ⟨rfl,hw9⟩;have hw8:=hw9.symm;subst hw8)|(go_at_call 206;refine(HDG _).mono ?_;rintro e w9 ⟨rfl,hw9⟩;have hw8:=hw9.symm;subst hw8)|(go_at_call 217;refine(HLT _).mono ?_;rintro e w9 ⟨rfl,hw9⟩;have hw8:=hw9.symm;subst hw8))
  refine gV (results_tmp2 rfl _ _ _) rfl ?_
  first
  |exact⟨by rw[HV.out];rfl,by rw[HV.out,<-HFR.out];exact hR,λH=>hk H⟩
  |exact⟨by rw[HV.out,HB.out];rfl,by rw[HV.out,<-HFR.out];exact hR,λH=>hk H⟩
  |exact⟨by rw[HV.out];first|rfl|(simp;done),by rw[HV.out,<-HFR.out];exact HS _ hR,λH=>(hk H).trans (Keep.set _ _ _)⟩
def zFx (c:Nat):Bool:=c==91||c==93||c==94||c==45|| !isPrintedB c
def xR (s:ByteArray)(p:Nat):Sg:=if byt s p=92 then zBk s (p+1) else if zFx (byt s p) then⟨0,false,p⟩ else⟨(byt s p:Nat),true,p+1⟩
theorem zDX (w:World)(b:Nat)(s:ByteArray)(dv:Value)(r:Rx)(i:RxAt w b s dv r)(u:s.size<=1048576)(y:r.at_<=1800000):
  Calls prog 219 #[pX b] w λe w'=>e=returned (tuple #[iX (xR s r.at_).num,bool (xR s r.at_).ok])/\RxAt w' b s dv {r with at_:=(xR s r.at_).at_}/\∀H,Keep H b w w':=by
 obtain⟨-,-,c2,-,-,z⟩:=i.cells;have L:=z 2;have p:=vl i;have j:=vl <| qY w b s dv r i u (by omega) 0 (by omega);have A:=vl <| zCc w b s dv r i u y;have k:Hid (xR s r.at_=if byt s r.at_=92 then zBk s (r.at_+1) else if zFx (byt s r.at_) then⟨0,false,r.at_⟩ else⟨(byt s r.at_:Nat),true,r.at_+1⟩):=rfl;have M:=vT s r.at_;generalize byt s r.at_=c at *;generalize zBk s (r.at_+1)=B at *;generalize xR s r.at_=l at *;by_cases q:c=92
 ·subst q
  have a:Hid (l=B):=by show _=_;rw[k.out,if_pos rfl]
  go_in;go_wp2_with (first|(go_at_call 200;refine j.mono ?_;rintro e g ⟨rfl,d⟩;have f:=d.symm;subst f)|(go_at_call 209;refine A.mono ?_;rintro e w2 ⟨rfl,C,D⟩))
  refine gV (results_tmp2 rfl _ _ _) rfl ?_;exact⟨by rw[a.out];rfl,by rw[a.out];exact C,D⟩
 by_cases E:c=91\/c=93\/c=94\/c=45
 ·rcases E with rfl|rfl|rfl|rfl
  all_goals
   have a:Hid (l=⟨0,false,r.at_⟩):=by show _=_;rw[k.out,if_neg (by decide),if_pos (by decide)]
   go_in;go_wp2_with (first|(go_at_call 200;refine j.mono ?_;rintro e g ⟨rfl,d⟩;have f:=d.symm;subst f))
   refine gV (results_tmp2 rfl _ _ _) rfl ?_;exact⟨by rw[a.out];rfl,by rw[a.out];exact p,λH=>Keep.refl _ _ _⟩
 have F:c≠91:=by omega
 have G:c≠93:=by omega
 have I:c≠94:=by omega
 have J:c≠45:=by omega
 have m:Hid (∀w,Ca 218 #[int .u8 (c:Int)] w λe w'=>e=returned (bool (isPrintedB c))/\w'=w):=λw=>zCl w c;have v:Hid (zFx c= !isPrintedB c):=by
  show _=_;unfold zFx;rw[show (c==91)=false by rw[hX];exact F,show(c==93)=false by rw[hX];exact G,show(c==94)=false by rw[hX];exact I,show(c==45)=false by rw[hX];exact J];rfl
 have N:((c:Int)==92)=false:=by rw[hX];omega
 have O:((c:Int)==91)=false:=by rw[hX];omega
 have P:((c:Int)==93)=false:=by rw[hX];omega
 have Q:((c:Int)==94)=false:=by rw[hX];omega
 have R:((c:Int)==45)=false:=by rw[hX];omega
 cases o:isPrintedB c with
 |false=>
  have a:Hid (l=⟨0,false,r.at_⟩):=by show _=_;rw[k.out,if_neg q,if_pos (by rw[v.out,o];rfl)]
  rw[o] at m;have t:=vl m;go_in;go_wp2_with (first|(go_at_call 200;refine j.mono ?_;rintro e g ⟨rfl,d⟩;have f:=d.symm;subst f)|(go_at_call 218;refine(t _).mono ?_;rintro e g ⟨rfl,d⟩;have f:=d.symm;subst f))
  refine gV (results_tmp2 rfl _ _ _) rfl ?_;exact⟨by rw[a.out];rfl,by rw[a.out];exact p,λH=>Keep.refl _ _ _⟩
 |true=>
  have a:Hid (l=⟨(c:Nat),true,r.at_+1⟩):=by show _=_;rw[k.out,if_neg q,if_neg (by rw[v.out,o];decide)]
  rw[o] at m;have t:=vl m;have K:Hid (RxAt (w.setCell ⟨b,2,none⟩ (iX ((r.at_:Int)+1))) b s dv {r with at_:=r.at_+1}):=by
   have x:=p.setAt (r.at_+1);rw[show ((r.at_+1:Nat):Int)=(r.at_:Int)+1 by omega] at x;exact x
  go_in;go_wp2_with (first|(go_at_call 200;refine j.mono ?_;rintro e g ⟨rfl,d⟩;have f:=d.symm;subst f)|(go_at_call 218;refine(t _).mono ?_;rintro e g ⟨rfl,d⟩;have f:=d.symm;subst f))
  refine gV (results_tmp2 rfl _ _ _) rfl ?_;exact⟨by rw[a.out];first|rfl|(simp;done),by rw[a.out];exact K,λH=>Keep.set _ _ _⟩
structure Mb where
 low:Int
 high:Int
 ok:Bool
 at_:Nat
def toM (a e:Sg):Mb:=⟨a.num,e.num,e.ok&&decide (a.num<=e.num),e.at_⟩
def yU (s:ByteArray)(p:Nat):Mb:=if(xR s p).ok&&zJ s (xR s p).at_ ⟨#[45]⟩ then toM (xR s p) (xR s ((xR s p).at_+1)) else⟨(xR s p).num,(xR s p).num,(xR s p).ok,(xR s p).at_⟩
theorem zJu (a w:World)(b q:Nat)(s:ByteArray)(dv:Value)(r:Rx)(c d:Int)(p:a.heap.size=q)(j:RxAt w b s dv r)(l:b≠q)(e:∃x y,w.heap[q]? =some (.cells #[x,y] 255))(m:Keep a.heap.size b a w):
  ∃w2,w2=(w.setCell ⟨q,0,none⟩ (iX c)).setCell ⟨q,1,none⟩ (iX d)/\w2.cell? ⟨q,0,none⟩=some (iX c)/\w2.cell? ⟨q,1,none⟩=some (iX d)/\Hid (RxAt w2 b s dv r/\Keep a.heap.size b a w2):=by
 obtain⟨x,y,e⟩:=e;have f:((w.setCell ⟨q,0,none⟩ (iX c)).setCell ⟨q,1,none⟩ (iX d)).heap[q]? =some (.cells #[iX c,iX d] 255):=by
  simp[setCell,lU,e]
 have g:∀i,i≠q->((w.setCell ⟨q,0,none⟩ (iX c)).setCell ⟨q,1,none⟩ (iX d)).heap[i]? =w.heap[i]? :=λi o=>by
  simp[setCell,lU,Ne.symm o]
 refine⟨_,rfl,?_,?_,RxAt.of_block j (g b l),m.trans ⟨rfl,rfl,by simp[World.setCell],λk t _=>g k (by omega)⟩⟩
 ·unfold cell?;rw[f];rfl
 ·unfold cell?;rw[f];rfl
theorem zGE {w:World}{q:Nat}(a:∃x y,w.heap[q]? =some (.cells #[x,y] 255)):(∀i,w.frozen? ⟨q,i,none⟩=false)/\∃x y,w.cell? ⟨q,0,none⟩=some x/\w.cell? ⟨q,1,none⟩=some y:=by
 obtain⟨x,y,a⟩:=a;refine⟨λi=>?_,x,y,?_,?_⟩
 all_goals first|(unfold cell?;rw[a];rfl)|(unfold frozen?;rw[a];simp)
theorem zIf (w:World)(b:Nat)(s:ByteArray)(dv:Value)(r:Rx)(q:RxAt w b s dv r)(m:s.size<=1048576)(P:r.at_<=1700000)(Q:(xR s r.at_).at_<=1700000):
  Calls prog 215 #[pX b] w λe w'=>e=returned (tuple #[agg #[iX (yU s r.at_).low,iX (yU s r.at_).high],bool (yU s r.at_).ok])/\RxAt w' b s dv {r with at_:=(yU s r.at_).at_}/\Keep w.heap.size b w w':=by
 obtain⟨g,u,G,z,I⟩:∃g,g=w.alloc (.cells #[iX 0,iX 0] 255)/\RxAt g b s dv r/\g.heap[w.heap.size]? =some (.cells #[iX 0,iX 0] 255)/\Hid (Keep w.heap.size b w g):=⟨_,rfl,RxAt.of_block q (lG _ _ _ q.lt),gX _ _,kZ _ _ lQ⟩
 have A:b≠w.heap.size:=kJ q.lt;have J:w.heap.size<g.heap.size:=(kQ.1 z).1;have B:Hid (∀c,(∀H,Keep H b g c)->∃x y,c.heap[w.heap.size]? =some (.cells #[x,y] 255)):=λc d=>⟨_,_,((d g.heap.size).block _ J (Ne.symm A)).trans z⟩
 have C:=vl <| zDX g b s dv r G m (by omega);have D:=vl λ(w2:World) (h9:RxAt w2 b s dv {r with at_:=(xR s r.at_).at_+1})=>zDX w2 b s dv {r with at_:=(xR s r.at_).at_+1} h9 m (by show(xR s r.at_).at_+1<=1800000;omega);have a:Hid (yU s r.at_=if(xR s r.at_).ok&&zJ s (xR s r.at_).at_ ⟨#[45]⟩ then toM (xR s r.at_) (xR s ((xR s r.at_).at_+1)) else⟨(xR s r.at_).num,(xR s r.at_).num,(xR s r.at_).ok,(xR s r.at_).at_⟩):=rfl;have o:=vl λ(c:World) (r9:Rx) (lo hi:Int) (h9:RxAt c b s dv r9) (hk9:∀H,Keep H b g c)=>zJu w c b w.heap.size s dv r9 lo hi rfl h9 A (B c hk9) (I.trans (hk9 _));go_in;apply wp_cut;intro R K;go_wp2;apply K.out;rw[<-u];clear u;generalize yU s r.at_=S at *;generalize xR s ((xR s r.at_).at_+1)=s2 at *;generalize xR s r.at_=s1 at *;rcases E:s1.ok with _|_;rotate_left;rcases L:zJ s s1.at_ ⟨#[45]⟩ with _|_;rotate_left;rcases F:s2.ok with _|_;rotate_left;rcases p:decide (s1.num<=s2.num) with _|_
 all_goals
  rw[E] at C a;clear E
  try rw[L] at a
  try unfold toM at a
  try rw[F] at D a
  try clear F
  try have M:=of_decide_eq_true p
  try have M:s2.num<s1.num:=by have:=of_decide_eq_false p;omega
  try rw[p] at a
  try clear p
  go_wp2_with (((first|(go_at_call 219;first|(have m2:=N;refine(D v i).mono ?_;rintro e v ⟨rfl,i,O⟩;replace d:=λH=>(d H).trans (O H))|(refine C.mono ?_;rintro e v ⟨rfl,i,d⟩;have N:=trivial))|(go_at_call 189;(first|refine(zPM (by assumption) i d m (by omega)).mono ?_|refine(zPL (by assumption) i d m (by omega)).mono ?_);rintro e v ⟨rfl,i,d⟩)));obtain⟨t,T,U,V,W⟩:=zGE (B v d);have X:=t 0;have Y:=t 1;clear t)
  first
  |(obtain ⟨c,l,j,k,f⟩:=o v _ s1.num s1.num i d;rw[<-l];refine gV (v:=tuple #[agg #[iX s1.num,iX s1.num],bool false]) (by simp[results,results215,go_sem,j,k];done) rfl ?_;exact⟨by rw[a.out];rfl,by rw[a.out];exact f.1,f.2⟩)
  |(obtain ⟨c,l,j,k,f⟩:=o v _ s1.num s1.num i d;rw[<-l];refine gV (v:=tuple #[agg #[iX s1.num,iX s1.num],bool true]) (by simp[results,results215,go_sem,j,k];done) rfl ?_;exact⟨by rw[a.out];rfl,by rw[a.out];exact f.1,f.2⟩)
  |(obtain ⟨c,l,j,k,f⟩:=o v _ s1.num s2.num i d;rw[<-l];refine gV (v:=tuple #[agg #[iX s1.num,iX s2.num],bool false]) (by first|(simp [results,results215,go_sem,j,k];done)|(simp [results,results215,go_sem,j,k];omega)) rfl ?_;exact⟨by rw[a.out];rfl,by rw[a.out];exact f.1,f.2⟩)
  |(obtain ⟨c,l,j,k,f⟩:=o v _ s1.num s2.num i d;rw[<-l];refine gV (v:=tuple #[agg #[iX s1.num,iX s2.num],bool true]) (by first|(simp [results,results215,go_sem,j,k];done)|(simp [results,results215,go_sem,j,k];omega)) rfl ?_;exact⟨by rw[a.out];rfl,by rw[a.out];exact f.1,f.2⟩)
section
attribute [local go_sem ↓] Go.wp_at_zero Go.wp_at_succ
structure Agree (X:Nat->Prop)(w w2:World):Prop where
 os:w2.os=w.os
 output:w2.output=w.output
 size:w.heap.size<=w2.heap.size
 block:∀i,i<w.heap.size->X i->w2.heap[i]? =w.heap[i]?
theorem Agree.refl (X:Nat->Prop)(w:World):Agree X w w:=⟨rfl,rfl,lQ,λ_ _ _=>rfl⟩
theorem Agree.trans {X:Nat->Prop}{w w2 c:World}(a:Agree X w w2)(k:Agree X w2 c):Agree X w c:=⟨k.os.trans a.os,k.output.trans a.output,lY a.size k.size,λi d e=>(k.block i (lZ d a.size) e).trans (a.block i d e)⟩
theorem Agree.mono {X c:Nat->Prop}{w w2:World}(a:Agree X w w2)(e:∀i,i<w.heap.size->c i->X i):Agree c w w2:=⟨a.os,a.output,a.size,λi d f=>a.block i d (e i d f)⟩
theorem Keep.agree {H b:Nat}{X:Nat->Prop}{w w2:World}(a:Keep H b w w2)(c:∀i,i<w.heap.size->X i->i<H/\i≠b):Agree X w w2:=⟨a.os,a.output,a.size,λi d e=>a.block i (c i d e).1 (c i d e).2⟩
def RangesIn (X:Nat->Prop)(w:World)(v:Value)(l:List (Int×Int)):Prop:=∀w2,Agree X w w2->RangesAt w2 v l
theorem RangesIn.at {X:Nat->Prop}{w:World}{v:Value}{l:List (Int×Int)}(a:RangesIn X w v l):RangesAt w v l:=a w (Agree.refl X w)
theorem RangesIn.go {X:Nat->Prop}{w w2:World}{v:Value}{l:List (Int×Int)}(c:RangesIn X w v l)(a:Agree X w w2):RangesIn X w2 v l:=λd e=>c d (a.trans e)
theorem RangesIn.mono {X a:Nat->Prop}{w:World}{v:Value}{l:List (Int×Int)}(c:RangesIn X w v l)(d:∀i,i<w.heap.size->X i->a i):RangesIn a w v l:=λe f=>c e (f.mono d)
theorem zH6 {X:Nat->Prop}{w:World}{c:Int}{b:Nat}(d:w.heap[b]? =some (.cells #[iX c,iX c] 255))(e:X b):RangesIn X w (slice (qX b) 1 1) [(c,c)]:=λw2 a=>zMP w2 c b ((a.block b (kQ.1 d).1 e).trans d)
theorem zK5 (X:Nat->Prop)(w:World):RangesIn X w (slice none 0 0) []:=λw2 _=>⟨none,0,rfl,lQ,by unfold maxLen;omega,λi a=>absurd a (Nat.not_lt_zero _)⟩
def qM (ps:List (Int×Int)):List Value:=ps.flatMap λp=>[int i64 p.1,int i64 p.2]
theorem zF7 (a:List (Int×Int))(x y:Int):qM (a++[(x,y)])=qM a++[iX x,iX y]:=by simp[qM]
theorem zDj (a:List (Int×Int))(i:Nat)(c:i<a.length):(qM a)[i*2]? =some (iX (a.getD i (0,0)).1)/\(qM a)[i*2+1]? =some (iX (a.getD i (0,0)).2):=by
 induction a generalizing i with
 |nil=>simp at c
 |cons p a d=>
  cases i with
  |zero=>exact⟨rfl,rfl⟩
  |succ i=>
   have:=d i (by simpa using c);have e:qM (p::a)=iX p.1::iX p.2::qM a:=rfl;rw[e,show(i+1)*2=i*2+1+1 by omega];exact this
structure Rw (w:World)(H p:Nat)(sv:Value)(l:List (Int×Int))(o:Bool):Prop where
 blk:w.heap[p]? =some (.cells #[sv,bool o] 161)
 own:w.ownsRow H 255 2 sv l.length (qM l)
 pH:p<H
 lt:H<=w.heap.size
def zQn (w:World)(H p:Nat)(l:List (Int×Int))(o:Bool):Prop:=∃sv,Rw w H p sv l o
structure KeepO (p:Nat)(sv sv':Value)(w w':World):Prop where
 os:w'.os=w.os
 output:w'.output=w.output
 size:w.heap.size<=w'.heap.size
 block:∀k,k<w.heap.size->k≠p->some k≠sv.ownBlock->w'.heap[k]? =w.heap[k]? /\some k≠sv'.ownBlock
theorem KeepO.trans {p:Nat}{sv c d:Value}{w w2 e:World}(a:KeepO p sv c w w2)(k:KeepO p c d w2 e):KeepO p sv d w e:=⟨k.os.trans a.os,k.output.trans a.output,lY a.size k.size,λi f g j=>by
 obtain⟨m,q⟩:=a.block i f g j;obtain⟨r,b2⟩:=k.block i (lZ f a.size) g q;exact⟨r.trans m,b2⟩⟩
theorem KeepO.of_keep {p:Nat}{sv:Value}{w w2:World}(a:Grew w w2):KeepO p sv sv w w2:=⟨a.os,a.output,a.size,λk c _ d=>⟨a.block k c (kJ c),d⟩⟩
theorem KeepO.keep {p H e d n:Nat}{sv f:Value}{xs:List Value}{w w2:World}(a:KeepO p sv f w w2)(g:w.ownsRow H e d sv n xs)(i:H<=w.heap.size):Keep H p w w2:=⟨a.os,a.output,a.size,λk c j=>(a.block k (lZ c i) j λe=>absurd (g.lt k e.symm).1 (Nat.not_le_of_lt c)).1⟩
theorem zEO:(prog.info? 255).map (λi=>(i.zero,i.size,i.bytes))=some (some (agg #[iX 0,iX 0]),2,16):=by kernel_rfl
section
variable {w w2:World} {H p b:Nat} {sv:Value} {l:List (Int×Int)} {o:Bool}
theorem Rw.cells (a:Rw w H p sv l o):w.cell? ⟨p,0,none⟩=some sv/\w.cell? ⟨p,1,none⟩=some (bool o)/\∀i,w.frozen? ⟨p,i,none⟩=false:=by
 refine⟨?_,?_,λi=>?_⟩
 all_goals first|(unfold cell?;rw[a.blk];rfl)|(unfold frozen?;rw[a.blk];simp)
theorem Rw.keep (a:Rw w H p sv l o)(c:Keep w.heap.size b w w2)(j:b<H\/b=w.heap.size)(d:b≠p):Rw w2 H p sv l o:=by
 have e:=a.pH;have f:=a.lt;refine⟨(c.block p (by omega) (Ne.symm d)).trans a.blk,zD a.own λg k i _=>c.block g i (by omega),e,lY f c.size⟩
theorem Rw.in (d:Rw w H p sv l o):RangesIn (λi=>H<=i) w sv l:=λr a=>by
 rcases d.own.2 with⟨c,k⟩|⟨g,cap,s,c,t,u,m,q,v,x⟩
 ·exact⟨none,0,by rw[c,k],by omega,by unfold maxLen;omega,λi e=>by omega⟩
 ·have f:=d.own.lt g (by rw[c];rfl)
  have j:=a.block g f.2 f.1;refine⟨some ⟨g,0,none⟩,cap,c,m,q,λi e=>⟨g,0,rfl,lZ f.2 a.size,?_,?_⟩⟩
  ·have:=d.own.cells (g:=g) (by rw[c];rfl) (i*2) _ (zDj l i e).1
   rw[Addr.add_lit] at this;rw[Nat.zero_add] at this ⊢;exact(gZ j).trans this
  ·have:=d.own.cells (g:=g) (by rw[c];rfl) (i*2+1) _ (zDj l i e).2
   rw[Addr.add_lit] at this;rw[Nat.zero_add] at this ⊢;exact(gZ j).trans this
theorem Rw.app {q:Obj}{g cap m:Nat}{x y:Int}(c:Rw w H p sv l o)(r:m=l.length)(s:w2.ownsRow H 255 2 (slice (qX g) (m+1) cap) (m+1) (qM l++[iX x,iX y]))(a:(w.alloc q).grownBy w2 sv.ownBlock)(t:sv.ownBlock=some g\/w.heap.size<=g):
  Rw (w2.setCell ⟨p,0,none⟩ (slice (qX g) (m+1) cap)) H p (slice (qX g) (m+1) cap) (l++[(x,y)]) o/\KeepO p sv (slice (qX g) (m+1) cap) w (w2.setCell ⟨p,0,none⟩ (slice (qX g) (m+1) cap)):=by
 subst r;have d:=c.pH;have D:=c.lt;have u:∀j,j<H->w2.heap[j]? =w.heap[j]? :=λj E=>(a.block j (by simp;omega) λe=>by have:=(c.own.lt j e.symm).1;omega).trans (lG _ _ _ (by omega));have v:=(u p d).trans c.blk;have z:w.heap.size<=w2.heap.size:=lY (by simp) a.size;refine⟨⟨?_,?_,d,by rw[zC];omega⟩,⟨a.os,a.output,by rw[zC];exact z,λk A B f=>⟨(lJ _ _ _ _ B).trans ((a.block k (by simp;omega) f).trans (lG _ _ _ A)),λe=>by
  have C:k=g:=by simpa[Value.ownBlock] using e
  rcases t with i|i
  ·exact f (by rw[i,C])
  ·omega⟩⟩⟩
 ·simp[setCell,lU,v]
 ·rw[zF7,show(l++[(x,y)]).length=l.length+1 by simp]
  exact xG s d
end
def qI (r:Int×Int)(first last far:Int):List (Int×Int):=if(if first<r.1 then r.1 else first)<=(if r.2<last then r.2 else last) then[((if first<r.1 then r.1 else first)+far,(if r.2<last then r.2 else last)+far)] else[]
theorem zCS (w:World)(H p:Nat)(sv:Value)(l:List (Int×Int))(o:Bool)(O:Rw w H p sv l o)(ai:l.length<=1000000000)(c d first last a:Int)(aj:0<=first/\first<=1000)(ak:0<=last/\last<=1000)(al:-100<=a/\a<=100):
  Calls prog 213 #[pX p,agg #[iX c,iX d],iX first,iX last,iX a] w λe w'=>e=returned (tuple #[])/\∃s,Rw w' H p s (l++qI (c,d) first last a) o/\KeepO p sv s w w':=by
 obtain⟨P,Q,R,S,T⟩:=info_parts zEO;obtain⟨w1,k,i,am,an,F⟩:∃w1,w1=w.alloc (.cells #[iX c,iX d] 255)/\Hid (Rw w1 H p sv l o)/\w1.cell? ⟨w.heap.size,0,none⟩=some (iX c)/\w1.cell? ⟨w.heap.size,1,none⟩=some (iX d)/\Hid (KeepO p sv sv w w1):=by
  have af:=gX w (.cells #[iX c,iX d] 255);have U:=O.lt;have ao:=O.pH;refine⟨_,rfl,O.keep (kZ (b:=w.heap.size) _ _ lQ) (.inr rfl) (by omega),?_,?_,KeepO.of_keep (kZ _ _ lQ)⟩
  ·unfold cell?;rw[af];rfl
  ·unfold cell?;rw[af];rfl
 clear O;obtain⟨B,z⟩:∃B,B=(if first<c then c else first):=⟨_,rfl⟩
 obtain⟨C,A⟩:∃C,C=(if d<last then d else last):=⟨_,rfl⟩
 have m:Hid (qI (c,d) first last a=if B<=C then[(B+a,C+a)] else[]):=by show _=_;unfold qI;rw[z,A]
 have ap:first<=B:=by rw[z];split <;> omega
 have aq:C<=last:=by rw[A];split <;> omega
 obtain⟨V,-,ag⟩:=i.cells;have W:=ag 0;obtain⟨D,E,ah⟩:=zE i.own;subst ah;have X:w1.ownsRow H 255 2 (slice D l.length E) l.length (qM l):=i.own;have G:p<w1.heap.size:=lZ i.pH i.lt;have ar:H<=w1.heap.size:=i.lt;have Y:=vl <| zM i.own i.blk (by decide);clear ag;rcases Int.lt_or_le first c with aa|aa <;> rcases Int.lt_or_le d last with ab|ab
 ·
  have I:c=B:=by rw[z];exact(if_pos aa).symm
  have J:d=C:=by rw[A];exact(if_pos ab).symm
  clear z A;subst I J;by_cases u:c<=d
  ·have q:Hid (qI (c,d) first last a=[(c+a,d+a)]):=by show _=_;rw[m.out,if_pos u]
   clear m;go_in;apply wp_cut;intro K g;go_wp2;apply g.out;clear g;rw[<-k];clear k;go_wp2_with (first|(at_builtin;refine wpList_append_lies _ rfl _ _ 159 rfl (H) 255 P (agg #[iX 0,iX 0]) 2 16 underlying159 Q R S T rfl (by decide) _ _ _ rfl (X.alloc _) ⟨w1.heap.size,0,none⟩ 1 1 [iX (c+a),iX (d+a)] rfl rfl (news_of_block (cs:=#[iX (c+a),iX (d+a)]) (t:=255) (fr:=(0,0)) (gX w1 _)) (by simp[Value.oneCell']) (by decide) (by unfold maxLen;omega) (by omega) (by simp;omega) _ rfl ?_;intro L cap w2 v r x U;have y:=r.block p (by simp;omega) Y;have ac:w2.cell? ⟨p,0,none⟩=some (slice D l.length E):=(gZ y).trans ((gW _ _ _ G).trans V);have ad:w2.frozen? ⟨p,0,none⟩=false:=(gY y).trans ((frozen?_alloc_past _ _ _ G).trans W)))
   obtain⟨j,M,N⟩:∃j,j=w2.setCell ⟨p,0,none⟩ (slice (qX L) (l.length+1) cap)/\Hid (∃s,Rw j H p s (l++qI (c,d) first last a) o/\KeepO p (slice D l.length E) s w j):=⟨_,rfl,_,by rw[q.out];exact(i.app rfl v r (by rcases x with f|f;exact .inl f;right;rw[f];simp)).1,F.trans (i.app rfl v r (by rcases x with f|f;exact .inl f;right;rw[f];simp)).2⟩
   rw[<-M];go_end0;exact⟨rfl,N⟩
  ·have ae:d<c:=by omega
   have q:Hid (qI (c,d) first last a=[]):=by show _=_;rw[m.out,if_neg u]
   clear m;go_in;apply wp_cut;intro K g;go_wp2;apply g.out;clear g;rw[<-k];clear k;go_wp2;go_end0;exact⟨rfl,_,by rw[q.out,gG];exact i,F⟩
 ·
  have I:c=B:=by rw[z];exact(if_pos aa).symm
  have J:last=C:=by rw[A];exact(if_neg (by omega)).symm
  clear z A;subst I J;by_cases u:c<=last
  ·have q:Hid (qI (c,d) first last a=[(c+a,last+a)]):=by show _=_;rw[m.out,if_pos u]
   clear m;go_in;apply wp_cut;intro K g;go_wp2;apply g.out;clear g;rw[<-k];clear k;go_wp2_with (first|(at_builtin;refine wpList_append_lies _ rfl _ _ 159 rfl (H) 255 P (agg #[iX 0,iX 0]) 2 16 underlying159 Q R S T rfl (by decide) _ _ _ rfl (X.alloc _) ⟨w1.heap.size,0,none⟩ 1 1 [iX (c+a),iX (last+a)] rfl rfl (news_of_block (cs:=#[iX (c+a),iX (last+a)]) (t:=255) (fr:=(0,0)) (gX w1 _)) (by simp[Value.oneCell']) (by decide) (by unfold maxLen;omega) (by omega) (by simp;omega) _ rfl ?_;intro L cap w2 v r x U;have y:=r.block p (by simp;omega) Y;have ac:w2.cell? ⟨p,0,none⟩=some (slice D l.length E):=(gZ y).trans ((gW _ _ _ G).trans V);have ad:w2.frozen? ⟨p,0,none⟩=false:=(gY y).trans ((frozen?_alloc_past _ _ _ G).trans W)))
   obtain⟨j,M,N⟩:∃j,j=w2.setCell ⟨p,0,none⟩ (slice (qX L) (l.length+1) cap)/\Hid (∃s,Rw j H p s (l++qI (c,d) first last a) o/\KeepO p (slice D l.length E) s w j):=⟨_,rfl,_,by rw[q.out];exact(i.app rfl v r (by rcases x with f|f;exact .inl f;right;rw[f];simp)).1,F.trans (i.app rfl v r (by rcases x with f|f;exact .inl f;right;rw[f];simp)).2⟩
   rw[<-M];go_end0;exact⟨rfl,N⟩
  ·have ae:last<c:=by omega
   have q:Hid (qI (c,d) first last a=[]):=by show _=_;rw[m.out,if_neg u]
   clear m;go_in;apply wp_cut;intro K g;go_wp2;apply g.out;clear g;rw[<-k];clear k;go_wp2;go_end0;exact⟨rfl,_,by rw[q.out,gG];exact i,F⟩
 ·
  have I:first=B:=by rw[z];exact(if_neg (by omega)).symm
  have J:d=C:=by rw[A];exact(if_pos ab).symm
  clear z A;subst I J;by_cases u:first<=d
  ·have q:Hid (qI (c,d) first last a=[(first+a,d+a)]):=by show _=_;rw[m.out,if_pos u]
   clear m;go_in;apply wp_cut;intro K g;go_wp2;apply g.out;clear g;rw[<-k];clear k;go_wp2_with (first|(at_builtin;refine wpList_append_lies _ rfl _ _ 159 rfl (H) 255 P (agg #[iX 0,iX 0]) 2 16 underlying159 Q R S T rfl (by decide) _ _ _ rfl (X.alloc _) ⟨w1.heap.size,0,none⟩ 1 1 [iX (first+a),iX (d+a)] rfl rfl (news_of_block (cs:=#[iX (first+a),iX (d+a)]) (t:=255) (fr:=(0,0)) (gX w1 _)) (by simp[Value.oneCell']) (by decide) (by unfold maxLen;omega) (by omega) (by simp;omega) _ rfl ?_;intro L cap w2 v r x U;have y:=r.block p (by simp;omega) Y;have ac:w2.cell? ⟨p,0,none⟩=some (slice D l.length E):=(gZ y).trans ((gW _ _ _ G).trans V);have ad:w2.frozen? ⟨p,0,none⟩=false:=(gY y).trans ((frozen?_alloc_past _ _ _ G).trans W)))
   obtain⟨j,M,N⟩:∃j,j=w2.setCell ⟨p,0,none⟩ (slice (qX L) (l.length+1) cap)/\Hid (∃s,Rw j H p s (l++qI (c,d) first last a) o/\KeepO p (slice D l.length E) s w j):=⟨_,rfl,_,by rw[q.out];exact(i.app rfl v r (by rcases x with f|f;exact .inl f;right;rw[f];simp)).1,F.trans (i.app rfl v r (by rcases x with f|f;exact .inl f;right;rw[f];simp)).2⟩
   rw[<-M];go_end0;exact⟨rfl,N⟩
  ·have ae:d<first:=by omega
   have q:Hid (qI (c,d) first last a=[]):=by show _=_;rw[m.out,if_neg u]
   clear m;go_in;apply wp_cut;intro K g;go_wp2;apply g.out;clear g;rw[<-k];clear k;go_wp2;go_end0;exact⟨rfl,_,by rw[q.out,gG];exact i,F⟩
 ·
  have I:first=B:=by rw[z];exact(if_neg (by omega)).symm
  have J:last=C:=by rw[A];exact(if_neg (by omega)).symm
  clear z A;subst I J;by_cases u:first<=last
  ·have q:Hid (qI (c,d) first last a=[(first+a,last+a)]):=by show _=_;rw[m.out,if_pos u]
   clear m;go_in;apply wp_cut;intro K g;go_wp2;apply g.out;clear g;rw[<-k];clear k;go_wp2_with (first|(at_builtin;refine wpList_append_lies _ rfl _ _ 159 rfl (H) 255 P (agg #[iX 0,iX 0]) 2 16 underlying159 Q R S T rfl (by decide) _ _ _ rfl (X.alloc _) ⟨w1.heap.size,0,none⟩ 1 1 [iX (first+a),iX (last+a)] rfl rfl (news_of_block (cs:=#[iX (first+a),iX (last+a)]) (t:=255) (fr:=(0,0)) (gX w1 _)) (by simp[Value.oneCell']) (by decide) (by unfold maxLen;omega) (by omega) (by simp;omega) _ rfl ?_;intro L cap w2 v r x U;have y:=r.block p (by simp;omega) Y;have ac:w2.cell? ⟨p,0,none⟩=some (slice D l.length E):=(gZ y).trans ((gW _ _ _ G).trans V);have ad:w2.frozen? ⟨p,0,none⟩=false:=(gY y).trans ((frozen?_alloc_past _ _ _ G).trans W)))
   obtain⟨j,M,N⟩:∃j,j=w2.setCell ⟨p,0,none⟩ (slice (qX L) (l.length+1) cap)/\Hid (∃s,Rw j H p s (l++qI (c,d) first last a) o/\KeepO p (slice D l.length E) s w j):=⟨_,rfl,_,by rw[q.out];exact(i.app rfl v r (by rcases x with f|f;exact .inl f;right;rw[f];simp)).1,F.trans (i.app rfl v r (by rcases x with f|f;exact .inl f;right;rw[f];simp)).2⟩
   rw[<-M];go_end0;exact⟨rfl,N⟩
  ·have ae:last<first:=by omega
   have q:Hid (qI (c,d) first last a=[]):=by show _=_;rw[m.out,if_neg u]
   clear m;go_in;apply wp_cut;intro K g;go_wp2;apply g.out;clear g;rw[<-k];clear k;go_wp2;go_end0;exact⟨rfl,_,by rw[q.out,gG];exact i,F⟩
end
end Go.Proofs.YtbjcfkdnjaiclaaGreat
