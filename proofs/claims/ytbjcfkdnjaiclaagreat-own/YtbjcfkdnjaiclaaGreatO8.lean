import Derived.Deep.LoopGhost
import Derived.Test.YtbjcfkdnjaiclaaGreatO0
import Derived.Test.YtbjcfkdnjaiclaaGreatO2
import Derived.Test.YtbjcfkdnjaiclaaGreatO4
import Derived.Test.YtbjcfkdnjaiclaaGreatO6
import Derived.Test.YtbjcfkdnjaiclaaGreatO7
/- Own: of a specification of one mode a token is the longest that any rule by itself makes, and of the first of these rules, and where nothing matches none makes any; for every specification and text (up to 65536 bytes, as the statement itself says). -/
set_option linter.unusedVariables false
set_option linter.unusedSimpArgs false
set_option maxHeartbeats 4000000
set_option maxRecDepth 100000
namespace Go.Proofs.YtbjcfkdnjaiclaaGreat
open Go.RowKit Go.Proofs.Tryz Go.World
open Go.Value (int slice bool pointer string agg tuple)
open Go.IntKind (i64)
open Go.Ending (returned)
def xR (s:ByteArray):Nat->List ByteArray×Nat
 |0=>([],0)
 |j+1=>if byt s j=10 then((xR s j).1++[s.extract (xR s j).2 (j+1)],j+1) else xR s j
theorem zJq (s:ByteArray)(j:Nat):(xR s j).2<=j/\(xR s j).1.length<=j:=by
 induction j with
 |zero=>exact⟨lQ,lQ⟩
 |succ j a=>
  rw[xR];split
  ·exact⟨lQ,by rw[kX];simp;omega⟩
  ·omega
theorem zJs (w:World)(s:ByteArray)(X:s.size<=65536):Calls prog 53 #[string s] w λe w'=>∃v,e=returned v/\w'.ownsRow w.heap.size 9 1 v (xR s s.size).1.length ((xR s s.size).1.map Value.string)/\Grew w w':=by
 have ⟨z,A,B,C,D⟩:=info_parts zId;have E:Hid (∀j,(xR s j).2<=j/\(xR s j).1.length<=j):=zJq s;have G:Hid (∀j,xR s (j+1)=if byt s j=10 then((xR s j).1++[s.extract (xR s j).2 (j+1)],j+1) else xR s j):=λj=>rfl;have r:Hid (xR s 0=([],0)):=rfl;generalize xR s=b at *;go_in;go_wp2;go_loopg [3,4,5] s.size (λq H fr i wr=>∃j:Nat,q=s.size-j/\j<=s.size/\i=iX (j:Int)/\fr=iX ((b j).2:Nat)/\wr.ownsRow w.heap.size 9 1 H (b j).1.length ((b j).1.map Value.string)/\Grew w wr)
 case atStart=>exact⟨0,rfl,lX,rfl,by rw[r.out];rfl,by rw[r.out];exact ownsRow_nil _ _ _ _,Keep.refl _ _ _⟩
 case round=>
  obtain⟨j,I,Y,J,o,g,t⟩:=hrel;have h:=E j;have a:=G j;obtain⟨l,f,p⟩:∃l f,b j=(l,f):=⟨_,_,rfl⟩
  rw[p] at o g h a;dsimp only at o g h a;subst J o;have K:=vl p;clear p;have c:Hid (gk=s.size-j/\Grew w wr):=⟨I,t⟩
  have ⟨ao,cap,L⟩:=zF g;subst L;have M:=t.size;have k:=vl g;by_cases N:j<s.size
  ·have O:(j:Int)<(s.size:Int):=by omega
   have aa:=zCn s j N;have ab:(f:Int)<=(j:Int)+1/\(j:Int)+1<=(s.size:Int):=by omega
   have ac:l.length<=65536:=by omega
   by_cases m:byt s j=10
   ·have P:((byt s j:Int)==10)=true:=by rw[beq_iff_eq];omega
    rw[if_pos m] at a;have d:=vl a;clear a h m;go_wp2_with (at_builtin;refine wpList_append_lies _ rfl _ _ 108 rfl (w.heap.size) 9 z (string ⟨#[]⟩) 1 16 underlying108 A B C D rfl (by decide) _ _ _ rfl (k.alloc _) ⟨wr.heap.size,0,none⟩ 1 1 [string (s.extract f (j+1))] rfl rfl (cell_one_new _ _ _) (by intro u x;simp at x;subst x;rfl) (by decide) (by unfold maxLen;omega) (by omega) (by simp;omega) _ rfl ?_;intro R S w2 T U ad ae;have V:=xU k U M)
    have y:Hid (w2.ownsRow w.heap.size 9 1 (slice (qX R) (l.length+1) S) (b (j+1)).1.length ((b (j+1)).1.map Value.string)/\Grew w w2):=⟨by rw[d.out];dsimp only;rw[kX,List.map_append];exact T,c.2.trans (xS V)⟩
    go_wp2;go_roundg (s.size-(j+1))
    case measure=>rw[c.out.1];omega
    case rel=>exact⟨j+1,rfl,by omega,by go_num,by rw[d.out];go_num,y.1,y.2⟩
   ·have P:((byt s j:Int)==10)=false:=by rw[hX];omega
    rw[if_neg m] at a;have d:=vl a;clear a h m;go_wp2;go_roundg (s.size-(j+1))
    case measure=>rw[c.out.1];omega
    case rel=>exact⟨j+1,rfl,by omega,by go_num,by rw[d.out],by rw[d.out];exact k,c.2⟩
  ·have O:¬(j:Int)<(s.size:Int):=by omega
   have W:j=s.size:=by omega
   subst W;go_wp2;go_ret;exact⟨_,rfl,by rw[K.out];exact k,c.2⟩
def blN:List UInt8->Nat->Nat->Nat
 |[],_,_=>0
 |c::cs,n,i=>if c=32 then(if n=1 then i else blN cs (n-1) (i+1)) else blN cs n (i+1)
theorem zJO (w:World)(s:ByteArray)(x:s.size<=65536):Calls prog 54 #[string s,iX 2] w λe w'=>e=returned (iX (blN s.data.toList 2 0:Nat))/\w'=w:=by
 obtain⟨B,g⟩:∃B,B=blN s.data.toList 2 0:=⟨_,rfl⟩
 rw[<-g];go_in;go_wp2;go_loopg [1,5] s.size (λq n i wr=>∃j m:Nat,q=s.size-j/\j<=s.size/\n=iX (m:Int)/\1<=m/\m<=2/\i=iX (j:Int)/\B=blN (s.data.toList.drop j) m j/\wr=w)
 case atStart=>exact⟨0,2,rfl,lX,rfl,by omega,by omega,rfl,g,rfl⟩
 case round=>
  obtain⟨j,m,l,y,rfl,z,A,rfl,a,rfl⟩:=hrel;have o:=vl l;clear l g;by_cases p:j<s.size
  ·have t:(j:Int)<(s.size:Int):=by omega
   have r:j<s.data.toList.length:=by rw[Array.length_toList];exact p
   rw[List.drop_eq_getElem_cons r,blN] at a;have c:(s.data.toList[j]=32)↔byt s j=32:=by
    unfold byt;rw[lW,lV r,Option.getD_some];exact⟨λd=>by rw[d];rfl,λd=>UInt8.toNat_inj.1 d⟩
   have C:=zCn s j p;by_cases f:byt s j=32
   ·have u:((byt s j:Int)==32)=true:=by rw[beq_iff_eq];omega
    rw[if_pos (c.2 f)] at a;by_cases k:m=1
    ·subst k
     rw[if_pos rfl] at a;have b:=vl a;clear a c f;go_wp2;refine gJ (results_tmp rfl _ _ _) rfl ?_;exact⟨by rw[b.out];rfl,rfl⟩
    ·have v:m=2:=by omega
     subst v;rw[if_neg k] at a;have b:=vl a;clear a c f k;go_wp2;go_roundg (s.size-(j+1))
     case measure=>rw[o.out];omega
     case rel=>exact⟨j+1,1,rfl,by omega,by go_num,by omega,by omega,by go_num,b,rfl⟩
   ·have u:((byt s j:Int)==32)=false:=by rw[hX];omega
    rw[if_neg (λd=>f (c.1 d))] at a;have b:=vl a;clear a c f;go_wp2;go_roundg (s.size-(j+1))
    case measure=>rw[o.out];omega
    case rel=>exact⟨j+1,m,rfl,by omega,rfl,by omega,by omega,by go_num,b,rfl⟩
  ·have t:¬(j:Int)<(s.size:Int):=by omega
   rw[List.drop_of_length_le (by rw[Array.length_toList];show s.size<=j;omega),blN] at a;have b:=vl a;clear a;go_wp2;go_ret;exact⟨by rw[b.out];rfl,rfl⟩
theorem zLQ {a b:ByteArray}(d:eqS a b=true):a.size=b.size/\∀i,byt a i=byt b i:=by
 unfold eqS at d;have c:=eq_of_beq d;rw[ByteArray.toList_eq,ByteArray.toList_eq] at c;refine⟨?_,λi=>by unfold byt;rw[c]⟩;have:a.data.toList.length=b.data.toList.length:=by rw[c]
 rw[Array.length_toList,Array.length_toList] at this;exact this
theorem zOw {a b:ByteArray}(f:a.size=b.size)(c:∀i,i<a.size->byt a i=byt b i):eqS a b=true:=by
 unfold eqS;rw[ByteArray.toList_eq,ByteArray.toList_eq,beq_iff_eq];have g:a.data.toList.length=a.size:=Array.length_toList;have j:b.data.toList.length=b.size:=Array.length_toList;refine List.ext_getElem (by omega) λi d e=>?_;have:=c i (by omega);unfold byt at this;rw[lW,lW,lV d,lV e] at this;exact UInt8.toNat_inj.1 this
theorem jA (s:ByteArray)(a b j:Nat)(c:b<=s.size)(d:a+j<b):byt (s.extract a b) j=byt s (a+j):=by
 unfold byt;rw[ByteArray.data_extract,lW,lW,Array.getElem?_toList,Array.getElem?_toList,Array.getElem?_extract,if_pos (by have:s.data.size=s.size:=rfl;omega)]
theorem zGf {s:ByteArray}{c:Nat}(a:vM s c=true):zAb s c<s.size/\byt s (zAb s c)=c/\yA s c=s.extract 0 (zAb s c)/\yH s c=s.extract (zAb s c+1) s.size:=by
 have b:zAb s c<s.size:=of_decide_eq_true a;refine⟨b,?_,by unfold yA;rw[if_pos a],by unfold yH;rw[if_pos a]⟩;have e:(List.range s.size).findIdx (λi=>byt s i==c)<(List.range s.size).length:=by rw[List.length_range];exact b
 have d:=List.findIdx_getElem (w:=e);rw[List.getElem_range] at d;exact eq_of_beq d
def mdB (s:ByteArray)(i:Nat):Bool:=(decide (i=0)||decide (byt s (i-1)=10))&&(decide (5<s.size-i)&&eqS (s.extract i (i+5)) ⟨#[109,111,100,101,32]⟩)
def pdB (s:ByteArray)(i:Nat):Bool:=decide (3<s.size-i)&&eqS (s.extract i (i+3)) ⟨#[32,60,32]⟩
def vE (s:ByteArray):Nat->Nat
 |0=>0
 |i+1=>if mdB s i then vE s i+1 else vE s i
def zBY (s:ByteArray):Nat->Bool
 |0=>false
 |i+1=>zBY s i||pdB s i
theorem zFO (s:ByteArray)(a b:Nat)(d:a<=b):vE s a<=vE s b:=by
 induction b with
 |zero=>rw[show a=0 by omega];exact lQ
 |succ b c=>
  by_cases e:a=b+1
  ·rw[e];exact lQ
  ·have:=c (by omega)
   rw[vE];split <;> omega
theorem zNK (s:ByteArray)(i n:Nat)(c:i<n)(a:pdB s i=true):zBY s n=true:=by
 induction n with
 |zero=>omega
 |succ n b=>
  rw[zBY];by_cases e:i=n
  ·rw[<-e,a,Bool.or_true]
  ·rw[b (by omega),Bool.true_or]
theorem zNo {s:ByteArray}(a:(zAG s).act=3):eqS s ⟨#[60]⟩=true:=by
 unfold zAG at a;split at a
 ·cases a
 ·split at a
  ·cases a
  ·split at a
   ·cases a
   ·split at a
    ·assumption
    ·unfold zG3 at a
     split at a <;> cases a
theorem zMG (S:ByteArray)(o c:Nat)(B:o=0\/byt S (o-1)=10)(U:o+c<S.size){sh d:Sh}(a:xC sh (S.extract o (o+c))=some d):(d.modes.length<=sh.modes.length+if mdB S o then 1 else 0)/\(3∈d.acts->3∈sh.acts\/zBY S S.size=true)/\(sh.pushed.length=sh.acts.length->d.pushed.length=d.acts.length):=by
 obtain⟨b,l⟩:∃b,b=S.extract o (o+c):=⟨_,rfl⟩
 have C:b.size=c:=by rw[l,ByteArray.size_extract];omega
 have m:∀j,j<c->byt b j=byt S (o+j):=λj p=>by rw[l];exact jA S o (o+c) j (by omega) (by omega)
 rw[<-l] at a;unfold xC at a;split at a
 ·rename_i D
  have ⟨t,b2,u,v⟩:=zGf D;rw[C] at t;have E:∀j,j<zAb b 32->byt (yA b 32) j=byt S (o+j):=λj p=>by rw[u,jA b 0 _ j (by omega) (by omega),Nat.zero_add];exact m j (by omega)
  have F:(yA b 32).size=zAb b 32:=by rw[u,ByteArray.size_extract];omega
  have V:(yH b 32).size=c-(zAb b 32+1):=by rw[v,ByteArray.size_extract];omega
  have w:∀j,zAb b 32+1+j<c->byt (yH b 32) j=byt S (o+(zAb b 32+1+j)):=λj p=>by rw[v,jA b _ _ j lQ (by omega)];exact m _ p
  have x:byt S (o+zAb b 32)=32:=by rw[<-m _ t];exact b2
  split at a
  ·rename_i G
   have ⟨m1,m2⟩:=zLQ G;have y:zAb b 32=4:=by rw[<-F,m1];rfl
   unfold yG at a;split at a
   ·cases a
   ·split at a
    ·cases a
    ·split at a
     ·rename_i q
      cases a
      have W:0<(yH b 32).size:=by
       unfold xM at q;rw[Bool.and_eq_true] at q;exact of_decide_eq_true q.1
      have H:mdB S o=true:=by
       unfold mdB;rw[Bool.and_eq_true,Bool.and_eq_true,Bool.or_eq_true];refine⟨B.imp (λe=>dQ e) (λe=>dQ e),dQ (by omega),zOw ?_ λi r=>?_⟩
       ·rw[ByteArray.size_extract]
        show min (o+5) S.size-o=5;omega
       ·rw[ByteArray.size_extract] at r
        have I:i<5:=by omega
        rw[jA S o (o+5) i (by omega) (by omega)];by_cases z:i=4
        ·rw[z,<-y,x]
         rw[y];rfl
        ·rw[<-E i (by omega),m2 i]
         match i,I,z with
         |0,_,_=>rfl
         |1,_,_=>rfl
         |2,_,_=>rfl
         |3,_,_=>rfl
         |4,_,a=>exact absurd rfl a
      rw[if_pos H];exact⟨by show(sh.modes++[_]).length<=_;rw[kX];exact lQ,λf=>.inl f,id⟩
     ·cases a
  ·split at a
   ·unfold qO at a
    split at a
    ·split at a
     ·cases a
     ·split at a
      ·cases a
      ·split at a
       ·split at a
        ·cases a
        ·cases a
         exact⟨Nat.le_add_right _ _,λf=>.inl f,id⟩
       ·cases a
    ·cases a
   ·unfold yV at a
    split at a
    ·rename_i J
     split at a
     ·cases a
     ·split at a
      ·cases a
      ·split at a
       ·split at a
        ·split at a
         ·cases a
         ·cases a
          refine⟨by show(sh.modes.set _ _).length<=_;rw[List.length_set];exact Nat.le_add_right _ _,λf=>?_,λa=>by show(sh.pushed++[_]).length=(sh.acts++[_]).length;rw[kX,kX,a];rfl⟩;have k:3∈sh.acts++[(zAG (yA (yH b 32) 32)).act]:=f;rcases kU.1 k with k|k
          ·exact .inl k
          ·right
           have ⟨K,M⟩:=zLQ (zNo (kY.1 k).symm);have ⟨N,A,s,X⟩:=zGf J;have O:zAb (yH b 32) 32=1:=by
            have:(yA (yH b 32) 32).size=zAb (yH b 32) 32:=by rw[s,ByteArray.size_extract];omega
            rw[<-this,K];rfl
           rw[O] at N A s;have P:byt S (o+(zAb b 32+1))=60:=by
            have:=w 0 (by omega);rw[Nat.add_zero] at this;rw[<-this];have g:=M 0;rw[s,jA _ 0 1 0 (by omega) (by omega)] at g;exact g
           have R:byt S (o+(zAb b 32+2))=32:=by
            have:=w 1 (by omega);rw[<-this];exact A
           refine zNK S (o+zAb b 32) _ (by omega) ?_;unfold pdB;rw[Bool.and_eq_true];refine⟨dQ (by omega),zOw ?_ λi r=>?_⟩
           ·rw[ByteArray.size_extract]
            show min (o+zAb b 32+3) S.size-(o+zAb b 32)=3;omega
           ·rw[ByteArray.size_extract] at r
            have T:i<3:=by omega
            rw[jA S _ _ i (by omega) (by omega)]
            match i,T with
            |0,_=>rw[Nat.add_zero,x];rfl
            |1,_=>rw[Nat.add_assoc,P];rfl
            |2,_=>rw[Nat.add_assoc,R];rfl
        ·cases a
       ·cases a
    ·cases a
 ·cases a
theorem zKM (S:ByteArray)(f:Nat):∀(sh b:Sh) (n o:Nat),o<=S.size->(o=0\/byt S (o-1)=10)->yD f sh n (S.extract o S.size)=.inl b->b.modes.length+vE S o<=sh.modes.length+vE S S.size/\(3∈b.acts->3∈sh.acts\/zBY S S.size=true)/\(sh.pushed.length=sh.acts.length->b.pushed.length=b.acts.length):=by
 induction f with
 |zero=>
  intro sh b n o d _ a;cases a
  have:=zFO S o S.size d;exact⟨by omega,.inl,id⟩
 |succ f k=>
  intro sh b n o d l a;rw[yD] at a;have g:(S.extract o S.size).size=S.size-o:=by rw[ByteArray.size_extract];omega
  split at a
  ·cases a
   have:=zFO S o S.size d;exact⟨by omega,.inl,id⟩
  ·split at a
   ·rename_i m
    have ⟨p,b2,q,r⟩:=zGf m;rw[g] at p;generalize A:zAb (S.extract o S.size) 10=c at *;have s:yA (S.extract o S.size) 10=S.extract o (o+c):=by rw[q,ByteArray.extract_extract];congr 1 <;> omega
    have t:yH (S.extract o S.size) 10=S.extract (o+c+1) S.size:=by rw[r,g,ByteArray.extract_extract];congr 1 <;> omega
    rw[jA S o S.size c lQ (by omega)] at b2;rw[s,t] at a;cases e:xC sh (S.extract o (o+c)) with
    |none=>rw[e] at a;cases a
    |some u=>
     rw[e] at a;have ⟨s1,s2,v⟩:=zMG S o c l (by omega) e;have ⟨B,w,x⟩:=k u b (n+1) (o+c+1) (by omega) (.inr b2) a;have j:=zFO S (o+1) (o+c+1) (by omega);rw[vE] at j;refine⟨?_,λy=>(w y).elim s2 .inr,λa=>x (v a)⟩;split at j <;> rename_i z <;> simp only[z] at s1 <;> simp at s1 <;> omega
   ·cases a
theorem zHg {s:ByteArray}{y:List Sm×Sh}(c:vI s=some y):y.1.length<=vE s s.size/\(zBY s s.size=false->3∉y.2.acts)/\y.2.pushed.length=y.2.acts.length:=by
 unfold vI at c;cases b:zAj s 200 64 with
 |inr e=>rw[b] at c;cases c
 |inl x=>
  rw[b] at c;cases c
  unfold zAj at b;split at b
  ·cases b
  ·cases a:jJ s with
   |inr e=>rw[a] at b;cases b
   |inl d=>
    rw[a] at b;have g:(match xV (1+6*s.size) d d.modes.length 0 (200:Int).toNat with|none=>.inr (0,5)|some ms=>.inl (ms,d))=(.inl y:(List Sm×Sh) ⊕ (Nat×Nat)):=b;split at g
    ·cases g
    ·rename_i l m
     cases g
     have o:l.length=d.modes.length:=zBI _ _ _ _ _ _ m;unfold jJ at a;split at a
     ·cases a
     ·split at a
      ·cases a
      ·rename_i k p
       have q:k=d:=by
        split at a
        ·split at a
         ·cases a;rfl
         ·cases a
        ·cases a
       subst q;have j:=zKM s (s.size+1) Sh.none k 1 0 lX (.inl rfl) (by rw[ByteArray.extract_zero_size];exact p);refine⟨by show l.length<=_;rw[o];have f:=j.1;have:vE s 0=0:=rfl;have:Sh.none.modes.length=0:=rfl;omega,λr t=>?_,j.2.2 rfl⟩;rcases j.2.1 t with f|f
       ·cases f
       ·rw[r] at f;cases f
def ba (l:List UInt8):ByteArray:=⟨l.toArray⟩
theorem zAh (l:List UInt8):(ba l).size=l.length:=List.size_toArray ..
theorem zLe (a b:List UInt8):ba a++ba b=ba (a++b):=by
 apply ByteArray.ext;rw[ByteArray.data_append];simp[ba]
theorem zEu (l:List UInt8)(i j:Nat):(ba l).extract i j=ba ((l.drop i).take (j-i)):=by
 apply ByteArray.ext;rw[ByteArray.data_extract];simp[ba]
theorem zGl (l:List UInt8)(i:Nat):byt (ba l) i=(l.getD i 0).toNat:=by simp[byt,ba]
theorem zA5 (a b:List UInt8):eqS (ba a) (ba b)=true↔a=b:=by
 unfold eqS;rw[beq_iff_eq];have e:∀l,(ba l).toList=l:=λl=>by
  rw[ByteArray.toList_eq];simp[ba]
 rw[e,e]
theorem zBR (a b:List UInt8)(c:UInt8)(f:c∉a):vM (ba (a++c::b)) c.toNat=true/\yA (ba (a++c::b)) c.toNat=ba a/\yH (ba (a++c::b)) c.toNat=ba b:=by
 have e:zAb (ba (a++c::b)) c.toNat=a.length:=by
  refine zLS _ _ _ (by rw[zAh];simp) (by rw[zGl];simp[lW]) λi d g=>?_;rw[zGl,lW,kW d,lV d,Option.getD_some] at g;exact f (UInt8.toNat_inj.1 g ▸ List.getElem_mem d)
 have k:vM (ba (a++c::b)) c.toNat=true:=by unfold vM;rw[e,zAh];simp
 have i:=zGf k;refine⟨k,i.2.2.1.trans ?_,i.2.2.2.trans ?_⟩
 ·rw[e,zEu];simp
 ·rw[e,zEu,zAh]
  rw[show a++c::b=a++[c]++b by simp,List.drop_append_of_le_length (by simp),List.take_of_length_le (by simp;omega)];simp
theorem zGe (l:List UInt8)(c:UInt8)(f:vM (ba l) c.toNat=true):∃a b,l=a++c::b/\c∉a:=by
 have i:=zGf f;have d:=i.1;have j:c∈l:=by
  have:=i.2.1;rw[zGl,lW,lV d] at this;exact UInt8.toNat_inj.1 this ▸ List.getElem_mem d
 have ⟨a,b,e,g⟩:=List.eq_append_cons_of_mem j;exact⟨a,b,e,g⟩
def Rd (sh:Sh)(l:List UInt8)(sh':Sh):Prop:=∃f n,l.length<f/\yD f sh n (ba l)=.inl sh'
theorem zHf (f:Nat):∀sh n m s x,yD f sh n s=.inl x->yD f sh m s=.inl x:=by
 induction f with
 |zero=>exact λsh n m s x a=>a
 |succ f b=>
  intro sh n m s x a;unfold yD at a ⊢;split at a
  ·grind
  ·grind
theorem zDe (f:Nat):∀g sh n l,l.length<f->f<=g->yD g sh n (ba l)=yD f sh n (ba l):=by
 induction f with
 |zero=>grind
 |succ f e=>
  intro g sh n l j m;obtain⟨g,rfl⟩:∃k,g=k+1:=⟨g-1,by omega⟩
  rw[yD,yD];by_cases c:(ba l).size=0
  ·grind
  ·rw[if_neg c,if_neg c]
   by_cases k:vM (ba l) 10=true
   ·rw[if_pos k,if_pos k]
    obtain⟨a,b,rfl,d⟩:=zGe l 10 k;rw[show yH (ba (a++10::b)) 10=ba b from(zBR a b 10 d).2.2];cases xC sh (yA (ba (a++10::b)) 10) with
    |none=>rfl
    |some x=>grind
   ·grind
theorem zCM (sh j:Sh)(a b:List UInt8)(m:(10:UInt8)∉a):Rd sh (a++10::b) j↔∃d,xC sh (ba a)=some d/\Rd d b j:=by
 have c:=zBR a b 10 m;have o:(ba (a++10::b)).size≠0:=by rw[zAh];simp
 have l:∀f n,yD (f+1) sh n (ba (a++10::b))=(match xC sh (ba a) with|none=>.inr n|some j=>yD f j (n+1) (ba b)):=by
  intro f n;rw[yD,if_neg o,if_pos (show vM (ba (a++10::b)) 10=true from c.1),show yA (ba (a++10::b)) 10=ba a from c.2.1,show yH (ba (a++10::b)) 10=ba b from c.2.2];rfl
 constructor
 ·rintro⟨f,n,k,e⟩
  obtain⟨f,rfl⟩:∃g,f=g+1:=⟨f-1,by omega⟩
  rw[l] at e;split at e
  ·cases e
  ·rename_i d r
   simp at k;exact⟨d,r,f,n+1,by omega,e⟩
 ·rintro⟨d,r,f,n,k,e⟩
  refine⟨f+a.length+1,n,by simp;omega,?_⟩;rw[l,r];dsimp only;rw[zDe f _ _ _ _ k (by omega)];exact zHf _ _ _ _ _ _ e
theorem zIu (sh a:Sh):Rd sh [] a↔a=sh:=by
 constructor
 ·rintro⟨f,n,b,e⟩
  obtain⟨f,rfl⟩:∃g,f=g+1:=⟨f-1,by simp at b;omega⟩
  injection e with e;exact e.symm
 ·rintro rfl
  exact⟨1,0,by simp,by rw[yD,if_pos (by rw[zAh];rfl)]⟩
def Ln (ls:List (List UInt8)):List UInt8:=ls.flatMap (·++[10])
theorem zCN (a:List UInt8)(b:List (List UInt8)):Ln (a::b)=a++10::Ln b:=by simp[Ln]
theorem zJ4 (m:Nat):∀sh l c,l.length<=m->Rd sh l c->∃d,(∀a∈d,(10:UInt8)∉a)/\l=Ln d:=by
 induction m with
 |zero=>intro sh l c o _;exact⟨[],λa t=>(by cases t),List.length_eq_zero_iff.1 (by omega)⟩
 |succ m u=>
  intro sh l c o p;by_cases e:l=[]
  ·grind
  ·have v:=p
   obtain⟨f,n,A,g⟩:=p;obtain⟨f,rfl⟩:∃k,f=k+1:=⟨f-1,by omega⟩
   rw[yD,if_neg (by rw[zAh];exact λq=>e (List.length_eq_zero_iff.1 q))] at g;by_cases k:vM (ba l) 10=true
   ·obtain⟨a,b,rfl,s⟩:=zGe l 10 k
    have ⟨w,_,r⟩:=(zCM sh c a b s).1 v;have ⟨d,y,z⟩:=u w b c (by simp at o;omega) r;refine⟨a::d,λx j=>?_,by rw[zCN,z]⟩;rcases List.mem_cons.1 j with rfl|j
    ·exact s
    ·exact y x j
   ·grind
theorem zJP (a l:List UInt8)(b:(32:UInt8)∉a)(n i:Nat):blN (a++l) n i=blN l n (i+a.length):=by
 induction a generalizing i with
 |nil=>rfl
 |cons c a d=>
  rw[List.mem_cons,not_or] at b;rw[List.cons_append,blN,if_neg (λe=>b.1 e.symm),d b.2,hU,show i+1+a.length=i+(a.length+1) by omega]
def zFZ (l:List UInt8):Bool:=decide (4<l.length)&&(l.take 4==[108,101,116,32])
def zFX (l:List UInt8):Bool:=decide (5<l.length)&&(l.take 5==[109,111,100,101,32])
def zQe:List UInt8:=[109,111,100,101,32,109,10,114,32,46]
def zAm:List UInt8->List (List UInt8)->List (List UInt8)
 |_,[]=>[]
 |L,a::ls=>if zFZ a then zAm (L++a) ls else if zFX a then zAm L ls else(L++zQe++a.drop (blN a 2 0))::zAm L ls
theorem zGS (x y w:List UInt8)(a:(32:UInt8)∉x)(b:(32:UInt8)∉w)(e:(x++32::y).take (w.length+1)=w++[32]):x=w:=by
 induction x generalizing w with
 |nil=>
  cases w with
  |nil=>rfl
  |cons c w=>grind
 |cons f x g=>
  cases w with
  |nil=>grind
  |cons c w=>grind
theorem zLF {sh b:Sh}{s:ByteArray}(a:qO sh s=some b):qO ⟨[],sh.defs,[],[]⟩ s=some ⟨[],b.defs,[],[]⟩/\b.modes=sh.modes:=by
 unfold qO at a ⊢;split at a
 ·rename_i c1
  rw[if_pos c1];split at a
  ·cases a
  ·rename_i c2
   rw[if_neg c2];split at a
   ·cases a
   ·rename_i c
    rw[if_neg (show¬Sh.hasDefB ⟨[],sh.defs,[],[]⟩ _=true from c)];split at a
    ·rename_i d
     rw[if_pos d];split at a
     ·cases a
     ·rename_i t e
      injection a with a;subst a;rw[e];exact⟨rfl,rfl⟩
    ·cases a
 ·cases a
theorem zJo {sh b:Sh}{s:ByteArray}(a:yG sh s=some b):b.defs=sh.defs/\b.modes.length=sh.modes.length+1/\(b.mode 0).2=(sh.mode 0).2:=by
 unfold yG at a;split at a
 ·cases a
 ·split at a
  ·cases a
  ·split at a
   ·injection a with a
    subst a;refine⟨rfl,by simp[Sh.addMode],?_⟩;unfold Sh.mode Sh.addMode;cases sh.modes <;> rfl
   ·cases a
theorem zIY {sh b:Sh}{f:ByteArray}{l:List UInt8}(a:yV sh f (ba l)=some b):∃u v t,l=u++32::v/\(32:UInt8)∉u/\vQ (ba v) sh.defs=some t/\b.defs=sh.defs/\b.modes.length=sh.modes.length/\1<=sh.modes.length/\(sh.modes.length=1->(b.mode 0).2=(sh.mode 0).2++[t]):=by
 unfold yV at a;split at a
 ·rename_i c1
  obtain⟨u,v,rfl,c⟩:=zGe l 32 c1;have g:=(zBR u v 32 c).2.2;split at a
  ·cases a
  ·rename_i c2
   split at a
   ·cases a
   ·split at a
    ·split at a
     ·split at a
      ·cases a
      ·rename_i t d
       rw[show yH (ba (u++32::v)) 32=ba v from g] at d;injection a with a;subst a;refine⟨u,v,t,rfl,c,d,rfl,by simp[Sh.addRule,Sh.addAct,Sh.addPush],by omega,λe=>?_⟩;unfold Sh.addRule Sh.addAct Sh.addPush Sh.mode;rw[e];cases q:sh.modes with
       |nil=>grind
       |cons x xs=>rfl
     ·cases a
    ·cases a
 ·cases a
theorem zQd (defs:List (ByteArray×Tr))(b:List UInt8)(x:Sh)(a:Rd ⟨[(ba [109],[])],defs,[],[]⟩ b x):Rd ⟨[],defs,[],[]⟩ ([109,111,100,101,32,109,10]++b) x:=by
 refine(zCM _ _ [109,111,100,101,32,109] b (by decide)).2 ⟨_,?_,a⟩;have c:=zBR [109,111,100,101] [109] 32 (by decide);unfold xC;rw[if_pos (show vM (ba [109,111,100,101,32,109]) 32=true from c.1),show yA (ba [109,111,100,101,32,109]) 32=ba [109,111,100,101] from c.2.1,show(⟨#[109,111,100,101]⟩:ByteArray)=ba [109,111,100,101] from rfl,if_pos ((zA5 _ _).2 rfl),show yH (ba [109,111,100,101,32,109]) 32=ba [109] from c.2.2];rfl
theorem zP6 (defs:List (ByteArray×Tr))(v:List UInt8)(t:Tr)(b:(10:UInt8)∉v)(f:vQ (ba v) defs=some t):Rd ⟨[(ba [109],[])],defs,[],[]⟩ ([114,32,46,32]++v++[10]) ⟨[(ba [109],[t])],defs,[0],[⟨#[]⟩]⟩:=by
 refine(zCM _ _ ([114,32,46,32]++v) [] (by simp[b])).2 ⟨_,?_,(zIu _ _).2 rfl⟩;have c:=zBR [114] (46::32::v) 32 (by decide);have a:=zBR [46] v 32 (by decide);unfold xC;rw[if_pos (show vM (ba ([114,32,46,32]++v)) 32=true from c.1),show yA (ba ([114,32,46,32]++v)) 32=ba [114] from c.2.1,if_neg (by rw[show (⟨#[109,111,100,101]⟩:ByteArray)=ba [109,111,100,101] from rfl,zA5];decide),if_neg (by rw[show (⟨#[108,101,116]⟩:ByteArray)=ba [108,101,116] from rfl,zA5];decide),show yH (ba ([114,32,46,32]++v)) 32=ba (46::32::v) from c.2.2];unfold yV;rw[if_pos (show vM (ba (46::32::v)) 32=true from a.1),if_neg (by simp),if_neg (by simp),if_pos (by decide),show yA (ba (46::32::v)) 32=ba [46] from a.2.1,show yH (ba (46::32::v)) 32=ba v from a.2.2];have e:zAG (ba [46])=⟨0,⟨#[]⟩,true⟩:=by
  unfold zAG;rw[if_neg (by rw[zAh];simp),show(⟨#[46]⟩:ByteArray)=ba [46] from rfl,if_pos ((zA5 _ _).2 rfl)]
 rw[e,if_pos rfl,f];rfl
theorem zNU (m:Nat):∀sh l d,l.length<=m->Rd sh l d->sh.modes.length<=d.modes.length:=by
 induction m with
 |zero=>intro sh l d f b;rw[List.length_eq_zero_iff.1 (by omega:l.length=0)] at b;rw[(zIu _ _).1 b];exact lQ
 |succ m k=>
  intro sh l d f b;have ⟨j,o,g⟩:=zJ4 _ _ _ _ lQ b;cases j with
  |nil=>rw[g] at b;rw[(zIu _ _).1 b];exact lQ
  |cons a j=>
   rw[zCN] at g;rw[g] at b f;have ⟨p,r,b⟩:=(zCM _ _ _ _ (o a gQ)).1 b;refine lY ?_ (k _ _ _ (by simp at f;omega) b);unfold xC at r;split at r
   ·rename_i c
    split at r
    ·exact by rw[(zJo r).2.1];omega
    ·split at r
     ·rw[(zLF r).2];exact lQ
     ·have ⟨x,y,e,s⟩:=zGe a 32 c
      have ⟨_,_,_,_,_,_,_,q,_⟩:=zIY r;omega
   ·cases r
theorem zNB (h:List (List UInt8)):∀sh d f,(∀a∈h,(10:UInt8)∉a)->Rd sh (Ln h) f->f.modes.length<=1->(∀X x,Rd ⟨[],sh.defs,[],[]⟩ X x->Rd Sh.none (d++X) x)->
  ∃b:List Tr,(f.mode 0).2=(sh.mode 0).2++b/\b.length=(zAm d (h.map (·++[10]))).length/\∀k,k<b.length->∃defs,Rd Sh.none ((zAm d (h.map (·++[10]))).getD k []) ⟨[(ba [109],[b.getD k Tr.none])],defs,[0],[⟨#[]⟩]⟩:=by
 induction h with
 |nil=>
  intro sh d f _ l _ _;rw[(zIu _ _).1 l];exact⟨[],by simp,rfl,λk E=>by simp at E⟩
 |cons a h B=>
  intro sh d f m l o p;have C:=m a gQ;rw[zCN] at l;have ⟨D,r,s⟩:=(zCM _ _ _ _ C).1 l;have U:=lY (zNU _ _ _ _ lQ s) o;unfold xC at r;split at r
  ·rename_i c
   obtain⟨x,y,rfl,w⟩:=zGe a 32 c;have A:=zBR x y 32 w;rw[show yA (ba (x++32::y)) 32=ba x from A.2.1,show yH (ba (x++32::y)) 32=ba y from A.2.2] at r;have F:x++32::y++[10]=x++32::(y++[10]):=by simp
   have H:zFZ (x++32::y++[10])=decide (x=[108,101,116]):=by
    rw[Bool.eq_iff_iff,decide_eq_true_eq];unfold zFZ;rw[Bool.and_eq_true,beq_iff_eq,F];exact⟨λq=>zGS x (y++[10]) [108,101,116] w (by decide) q.2,λq=>by subst q;simp⟩
   have I:zFX (x++32::y++[10])=decide (x=[109,111,100,101]):=by
    rw[Bool.eq_iff_iff,decide_eq_true_eq];unfold zFX;rw[Bool.and_eq_true,beq_iff_eq,F];exact⟨λq=>zGS x (y++[10]) [109,111,100,101] w (by decide) q.2,λq=>by subst q;simp⟩
   rw[List.map_cons,zAm,H,I];rw[show (⟨#[109,111,100,101]⟩:ByteArray)=ba [109,111,100,101] from rfl,show(⟨#[108,101,116]⟩:ByteArray)=ba [108,101,116] from rfl] at r;split at r
   ·rename_i q
    have q:=(zA5 _ _).1 q;have ⟨m1,m2,J⟩:=zJo r;rw[if_neg (by rw[q];decide),if_pos (by rw[q];rfl)];have ⟨b,u1,u2,u3⟩:=B D d f (λj g=>m j (List.mem_cons_of_mem _ g)) s o (by rw[m1];exact p);exact⟨b,by rw[u1,J],u2,u3⟩
   ·rename_i G
    split at r
    ·rename_i q
     have q:=(zA5 _ _).1 q;have ⟨K,M⟩:=zLF r;rw[if_pos (by rw[q];rfl)];have ⟨b,u1,u2,u3⟩:=B D (d++(x++32::y++[10])) f (λj g=>m j (List.mem_cons_of_mem _ g)) s o (λX j g=>by
      rw[gX];refine p _ _ ?_;rw[show x++32::y++[10]++X=(x++32::y)++10::X by simp];refine(zCM _ _ _ _ C).2 ⟨_,?_,g⟩;unfold xC;rw[if_pos c,show yA (ba (x++32::y)) 32=ba x from A.2.1,show yH (ba (x++32::y)) 32=ba y from A.2.2,show(⟨#[109,111,100,101]⟩:ByteArray)=ba [109,111,100,101] from rfl,show(⟨#[108,101,116]⟩:ByteArray)=ba [108,101,116] from rfl,if_neg G,if_pos ((zA5 _ _).2 q)];exact K)
     refine⟨b,?_,u2,u3⟩;rw[u1];unfold Sh.mode;rw[M]
    ·rename_i q2
     rw[if_neg (by rw[decide_eq_true_eq];exact λq=>q2 ((zA5 _ _).2 q)),if_neg (by rw[decide_eq_true_eq];exact λq=>G ((zA5 _ _).2 q))];obtain⟨u,v,t,rfl,N,O,P,V,W,R⟩:=zIY r;have ⟨b,u1,u2,u3⟩:=B D d f (λj g=>m j (List.mem_cons_of_mem _ g)) s o (by rw[P];exact p);refine⟨t::b,by rw[u1,R (by omega)];simp,by simp[u2],λk E=>?_⟩;cases k with
     |succ k=>grind
     |zero=>
      refine⟨sh.defs,?_⟩;have S:(10:UInt8)∉v:=λq=>C (by simp[q]);have e:(x++32::(u++32::v)++[10]).drop (blN (x++32::(u++32::v)++[10]) 2 0)=32::v++[10]:=by
       have T:blN (x++32::(u++32::v)++[10]) 2 0=x.length+1+u.length:=by
        rw[show x++32::(u++32::v)++[10]=x++(32::(u++(32::(v++[10])))) by simp,zJP _ _ w,blN,if_pos rfl,if_neg (by decide),zJP _ _ N,blN,if_pos rfl,if_pos rfl];omega
       rw[T,show x++32::(u++32::v)++[10]=(x++32::u)++(32::v++[10]) by simp,List.drop_left' (by simp;omega)]
      rw[e];rw[gX];refine p _ _ ?_;exact zQd sh.defs _ _ (zP6 sh.defs v t S O)
  ·cases r
section
variable {n:Nt} (ok:n.Ok) (x q:Nat)
theorem zMw (f:Nat->Nat)(n q:Nat):(zKz f n).testBit q=true↔∃p,p<n/\(f p).testBit q=true:=by
 induction n with
 |zero=>simp[zKz]
 |succ n a=>
  rw[zKz,Nat.testBit_or,Bool.or_eq_true,a]
  constructor
  ·grind
  ·grind
theorem zHz (x k j:Nat)(a:j<8):(x/2^k%256).testBit j=x.testBit (k+j):=by
 rw[show (256:Nat)=2^8 from rfl,Nat.testBit_mod_two_pow,Nat.testBit_div_two_pow];simp[a,Nat.add_comm]
theorem zKl (l:List Nat)(n x q k:Nat):(spF l n (256*k+x/2^(8*k)%256)).testBit q=true↔∃p,p<n/\p/8=k/\x.testBit p=true/\(l.getD p 0).testBit q=true:=by
 unfold spF;rw[zMw];have a:(256*k+x/2^(8*k)%256)/256=k:=by omega
 have b:(256*k+x/2^(8*k)%256)%256=x/2^(8*k)%256:=by omega
 constructor
 ·rintro⟨p,e,g⟩
  unfold spG at g;rw[a,b] at g;by_cases c:p/8=k
  ·rw[if_pos c,zHz _ _ _ (hJ _ (by omega)),show 8*k+p%8=p by omega] at g
   by_cases f:x.testBit p=true
   ·grind
   ·grind
  ·grind
 ·rintro⟨p,e,c,f,g⟩
  refine⟨p,e,?_⟩;unfold spG;rw[a,b,if_pos c,zHz _ _ _ (hJ _ (by omega)),show 8*k+p%8=p by omega,if_pos f];exact g
theorem zLo (l:List Nat)(n x q:Nat)(d:n<=24):(qT (spF l n) x).testBit q=true↔∃p,p<n/\x.testBit p=true/\(l.getD p 0).testBit q=true:=by
 have a:=zKl l n x q 0;have b:=zKl l n x q 1;have c:=zKl l n x q 2;simp only[Nat.mul_zero,Nat.zero_add,Nat.pow_zero,Nat.div_one,Nat.mul_one] at a b c;unfold qT;rw[Nat.testBit_or,Nat.testBit_or,Bool.or_eq_true,Bool.or_eq_true,a]
 constructor
 ·grind
 ·grind
theorem Nt.ahead_test (ok:n.Ok)(x q:Nat):(qT n.ahead x).testBit q=true↔∃p,p<n.sets.length/\x.testBit p=true/\(n.follow.getD p 0).testBit q=true:=by
 unfold Nt.ahead;rw[zLo _ _ _ _ (by rw[ok.fl];exact ok.len),ok.fl]
theorem Nt.back_test (ok:n.Ok)(x q:Nat):(qT n.back x).testBit q=true↔∃p,p<n.sets.length/\q<n.sets.length/\x.testBit p=true/\(n.follow.getD q 0).testBit p=true:=by
 unfold Nt.back;rw[zLo _ _ _ _ (by rw[ok.fl];exact ok.len)]
 constructor
 ·rintro⟨p,a,g,k⟩
  rw[zDW _ _ a] at k;unfold qB at k;rw[jB,Bool.and_eq_true,decide_eq_true_eq] at k;rw[ok.fl] at a k;exact⟨p,a,k.1,g,k.2⟩
 ·rintro⟨p,a,b,g,k⟩
  rw[ok.fl];refine⟨p,a,g,?_⟩;rw[zDW _ _ (by rw[ok.fl];exact a)];unfold qB;rw[jB,ok.fl];rw[k,dQ b];rfl
theorem meets (a b:Nat):(a&&&b != 0)=true↔∃p,a.testBit p=true/\b.testBit p=true:=by
 rw[bne_iff_ne]
 constructor
 ·intro c
  have ⟨i,d⟩:=Nat.exists_testBit_of_ne_zero c;rw[Nat.testBit_and,Bool.and_eq_true] at d;exact⟨i,d⟩
 ·rintro⟨p,c,g⟩ e
  have:(a&&&b).testBit p=true:=by rw[Nat.testBit_and,c,g];rfl
  rw[e] at this;simp at this
theorem zKr (rules:List Nat)(a b:Nat)(c:∀r∈rules,(a&&&r != 0)=(b&&&r != 0)):xI rules a=xI rules b:=by
 have e:rules.findIdx (λr=>a&&&r != 0)=rules.findIdx (λr=>b&&&r != 0):=by
  induction rules with
  |nil=>rfl
  |cons x l d=>grind
 unfold xI;rw[e]
def Nt.Kept (n:Nt):Prop:=∀p q,(n.follow.getD p 0).testBit q=true->∀r∈n.rules,r.testBit p=r.testBit q
theorem Nt.shift_rule (ok:n.Ok)(j:n.Kept)(x l t:Nat):xI n.rules (qT n.ahead x&&&l&&&t)=xI n.rules (x&&&qT n.back (t&&&l)):=by
 refine zKr _ _ _ λr k=>Bool.eq_iff_iff.2 ?_;rw[meets,meets]
 constructor
 ·rintro⟨q,b,g⟩
  rw[Nat.testBit_and,Nat.testBit_and,Bool.and_eq_true,Bool.and_eq_true,ahead_test ok] at b;obtain⟨⟨⟨p,e,f,a⟩,d⟩,o⟩:=b;refine⟨p,?_,(j p q a r k).trans g⟩;rw[Nat.testBit_and,Bool.and_eq_true,back_test ok];have m:q<n.sets.length:=by
   have s:=ok.fs (n.follow.getD p 0) (by
    rw[lW,lV (by rw[ok.fl];exact e)];exact List.getElem_mem _)
   rcases Nat.lt_or_ge q n.sets.length with c|c
   ·exact c
   ·rw[Nat.testBit_lt_two_pow (lZ s (kG (by omega) c))] at a;cases a
  exact⟨f,q,m,e,by rw[Nat.testBit_and,o,d];rfl,a⟩
 ·rintro⟨p,b,g⟩
  rw[Nat.testBit_and,Bool.and_eq_true,back_test ok] at b;obtain⟨f,q,m,e,d,a⟩:=b;rw[Nat.testBit_and,Bool.and_eq_true] at d;refine⟨q,?_,(j p q a r k).symm.trans g⟩;rw[Nat.testBit_and,Nat.testBit_and,Bool.and_eq_true,Bool.and_eq_true,ahead_test ok];exact⟨⟨⟨p,e,f,a⟩,d.2⟩,d.1⟩
theorem zNX (l:List Nat)(i:Nat)(a:i<l.length):l.getD i 0∈l:=by
 rw[lW,lV a];exact List.getElem_mem _
theorem zGt (l:List Nat)(x y:Nat)(a:y∈l\/y=x):y∈zGu l x:=by
 unfold zGu;split
 ·grind
 ·grind
theorem zOg (c:Nat->Nat)(b:List Nat)(t:Nat)(l:List Nat)(k:Nat):(∀x∈l,x∈zA6 c b t l k)/\∀j,j<k->qT c (t&&&b.getD j 0)∈zA6 c b t l k:=by
 induction k with
 |zero=>exact⟨λx a=>a,λj a=>by omega⟩
 |succ k d=>
  refine⟨λx a=>zGt _ _ _ (.inl (d.1 x a)),λj a=>?_⟩;by_cases e:j=k
  ·exact zGt _ _ _ (.inr (by rw[e]))
  ·exact zGt _ _ _ (.inl (d.2 j (by omega)))
theorem zFq {B:Nat}{c:Nat->Nat}(r:∀x,qT c x<B)(b:List Nat)(f:Nat):∀i l,Once B l->B<=f+i->(∀a,a<i->a<l.length->∀j,j<b.length->qT c (l.getD a 0&&&b.getD j 0)∈l)->
  (∀x∈l,x∈vG c b f i l)/\∀t∈vG c b f i l,∀j,j<b.length->qT c (t&&&b.getD j 0)∈vG c b f i l:=by
 have fin:∀i (l:List Nat),l.length<=i->(∀a,a<i->a<l.length->∀j,j<b.length->qT c (l.getD a 0&&&b.getD j 0)∈l)->∀t∈l,∀j,j<b.length->qT c (t&&&b.getD j 0)∈l:=by
  intro i l d g t s j o;obtain⟨a,q,rfl⟩:=List.getElem_of_mem s;have:=g a (by omega) q j o;rwa [lW,lV q] at this
 induction f with
 |zero=>
  intro i l d u g;exact⟨λx d=>d,fin i l (by have:=zJj _ _ d;omega) g⟩
 |succ f v=>
  intro i l d u g;unfold vG;split
  ·rename_i y
   have m:=zOg c b (l.getD i 0) l b.length;have p:=zF3 c b (l.getD i 0) l b.length;have k:=v (i+1) _ (zEi r b (l.getD i 0) d b.length) (by omega) (λa q z j o=>by
    rw[p.2 a (by omega)];by_cases e:a=i
    ·grind
    ·exact m.1 _ (g a (by omega) (by omega) j o))
   exact⟨λx w=>k.1 x (m.1 x w),k.2⟩
  ·grind
theorem Nt.tails_all (ok:n.Ok):n.ends∈n.sq.tails/\∀t∈n.sq.tails,∀j,j<n.letters.length->qT n.back (t&&&n.letters.getD j 0)∈n.sq.tails:=by
 have k:=zFq (B:=2^n.sets.length) (zFu _ _ (Nt.back_lt ok)) n.letters 16777216 0 [n.ends] ⟨by simp,λx b=>by rw[kY.1 b];exact ok.ends⟩ (by have:=ok.top;omega) (λa c=>by omega);exact⟨k.1 _ gQ,k.2⟩
def Sq.Eq (s:Sq)(a b:Nat):Prop:=∀t∈s.tails,xI s.rules (a&&&t)=xI s.rules (b&&&t)
theorem zBQ (rules:List Nat)(a b t:Nat):xG rules a b t=true↔xI rules (a&&&t)≠xI rules (b&&&t):=by
 unfold xG;rw[Bool.and_eq_true,bne_iff_ne,bne_iff_ne];exact⟨λc=>c.2,λc=>⟨λe=>c (by rw[e]),c⟩⟩
structure Sq.Fd (s:Sq)(d:Sf):Prop where
 marks:∀t∈d.marks,t∈s.tails
 apart:∀i j,i<d.found.length->j<d.found.length->(∀t∈d.marks,xI s.rules (d.found.getD i 0&&&t)=xI s.rules (d.found.getD j 0&&&t))->i=j
theorem zEl (l:List Nat)(x i:Nat):(l++[x]).getD i 0=if i<l.length then l.getD i 0 else if i=l.length then x else 0:=by grind
theorem zHB (rules marks:List Nat)(a b:Nat):jE rules marks a b=true↔∀t∈marks,xI rules (a&&&t)=xI rules (b&&&t):=by
 unfold jE;rw[Bool.not_eq_true',List.any_eq_false]
 constructor
 ·intro c t d
  have:=c t d;rw[zBQ] at this;exact Decidable.not_not.1 this
 ·intro c t d
  rw[zBQ,c t d];exact λg=>g rfl
theorem Sq.look_spec (s:Sq)(a:Sf)(x:Nat):(s.look a x<a.found.length->∀t∈a.marks,xI s.rules (x&&&t)=xI s.rules (a.found.getD (s.look a x) 0&&&t))/\∀i,i<s.look a x->¬∀t∈a.marks,xI s.rules (x&&&t)=xI s.rules (a.found.getD i 0&&&t):=by
 refine⟨λb=>?_,λi c g=>?_⟩
 ·have:=List.findIdx_getElem (p:=λo=>jE s.rules a.marks x o) (w:=b)
  rw[zHB] at this;rw[lW,lV b];exact this
 ·have e:=lZ c List.findIdx_le_length
  have:=List.not_of_lt_findIdx c;rw[<-Bool.not_eq_true,zHB] at this;rw[lW,lV e] at g;exact this g
theorem Sq.tail_spec (s:Sq)(a b:Nat):(jM s.rules s.tails a b<0->s.Eq a b)/\(¬jM s.rules s.tails a b<0->(jM s.rules s.tails a b).toNat∈s.tails/\xI s.rules (a&&&(jM s.rules s.tails a b).toNat)≠xI s.rules (b&&&(jM s.rules s.tails a b).toNat)):=by
 unfold jM;by_cases d:a=b
 ·rw[if_pos d];exact⟨λ_ t _=>by rw[d],λg=>absurd (by decide) g⟩
 ·rw[if_neg d]
  by_cases g:s.tails.findIdx (λt=>xG s.rules a b t)<s.tails.length
  ·rw[if_pos g]
   refine⟨λc=>by omega,λ_=>?_⟩;have:=List.findIdx_getElem (p:=λt=>xG s.rules a b t) (w:=g);rw[zBQ] at this;refine⟨zNX _ _ g,?_⟩;rw[lW,lV g];exact this
  ·rw[if_neg g]
   refine⟨λ_ t f=>?_,λc=>absurd (by decide) c⟩;have e:s.tails.findIdx (λt=>xG s.rules a b t)=s.tails.length:=Nat.le_antisymm List.findIdx_le_length (by omega);rw[List.findIdx_eq_length] at e;have:=e t f;rw[<-Bool.not_eq_true,zBQ] at this;exact Decidable.not_not.1 this
theorem Sq.Fd.add {s:Sq}{c:Sf}(e:s.Fd c)(x:Nat)(ms:List Nat)(f:∀t∈ms,t∈s.tails)(k:∀t∈c.marks,t∈ms)(p:∀i,i<c.found.length->¬∀t∈ms,xI s.rules (c.found.getD i 0&&&t)=xI s.rules (x&&&t)):s.Fd ⟨c.found++[x],ms⟩:=by
 refine⟨f,λi j l m g=>?_⟩;simp only[kX,List.length_singleton] at l m;simp only[zEl] at g;by_cases a:i<c.found.length <;> by_cases b:j<c.found.length
 ·simp only[a,b,if_true] at g
  exact e.apart i j a b λt o=>g t (k t o)
 ·grind
 ·grind
 ·omega
theorem Sq.kind_spec (s:Sq)(a:Sf)(j:s.Fd a)(x:Nat):s.Fd (s.kindS a x)/\s.kind a x<(s.kindS a x).found.length/\s.Eq ((s.kindS a x).found.getD (s.kind a x) 0) x/\(∀i,i<a.found.length->(s.kindS a x).found.getD i 0=a.found.getD i 0)/\a.found.length<=(s.kindS a x).found.length:=by
 have k:=s.look_spec a x;have q:=s.tail_spec x (a.found.getD (s.look a x) 0);unfold Sq.kind Sq.kindS;by_cases c:s.look a x<a.found.length
 ·rw[if_pos c,if_pos c]
  by_cases e:s.tail a x<0
  ·rw[if_pos e,if_pos e]
   exact⟨j,c,λt b=>(q.1 e t b).symm,λi f=>rfl,lQ⟩
  ·rw[if_neg e,if_neg e]
   have q2:=q.2 e;refine⟨j.add x _ (λt b=>?_) (λt b=>by simp[b]) λi f g=>?_,by simp,λt b=>by simp,λi f=>(zEl ..).trans (if_pos f),by simp⟩
   ·rcases kU.1 b with g|g
    ·exact j.marks t g
    ·rw[kY.1 g];exact q2.1
   ·have l:=j.apart i (s.look a x) f c λt b=>(g t (by simp[b])).trans (k.1 c t b)
    have:=g _ (by simp:(s.tail a x).toNat∈_);rw[l] at this;exact q2.2 this.symm
 ·rw[if_neg c,if_neg c]
  exact⟨j.add x _ j.marks (λt b=>b) λi f g=>k.2 i (by omega) λt b=>(g t b).symm,by simp,λt b=>by simp,λi f=>(zEl ..).trans (if_pos f),by simp⟩
theorem Sq.kind_old (s:Sq)(a:Sf)(f:s.Fd a)(x k:Nat)(m:k<a.found.length)(e:s.Eq (a.found.getD k 0) x):s.kind a x=k:=by
 have l:=s.look_spec a x;have c:s.look a x<a.found.length:=by
  rcases Nat.lt_or_ge k (s.look a x) with g|g
  ·exact absurd (λt b=>(e t (f.marks t b)).symm) (l.2 k g)
  ·omega
 have j:=f.apart _ _ c m λt b=>(l.1 c t b).symm.trans (e t (f.marks t b)).symm;unfold Sq.kind;rw[if_pos c];by_cases g:s.tail a x<0
 ·rw[if_pos g,j]
 ·have q:=(s.tail_spec x (a.found.getD (s.look a x) 0)).2 g
  rw[j] at q;exact absurd (e _ q.1).symm q.2
theorem Sq.row_spec (s:Sq)(f:Sf)(m:s.Fd f)(y j:Nat):s.Fd (s.rowTo y f j).2/\(s.rowTo y f j).1.length=j/\(∀i,i<f.found.length->(s.rowTo y f j).2.found.getD i 0=f.found.getD i 0)/\f.found.length<=(s.rowTo y f j).2.found.length/\∀l,l<j->(s.rowTo y f j).1.getD l 0<(s.rowTo y f j).2.found.length/\s.Eq ((s.rowTo y f j).2.found.getD ((s.rowTo y f j).1.getD l 0) 0) (y&&&s.sets.getD l 0):=by
 induction j with
 |zero=>exact⟨m,rfl,λ_ _=>rfl,lQ,λl o=>by omega⟩
 |succ j p=>
  obtain⟨a,b,c,e,g⟩:=p;have ⟨r,k,q,t,u⟩:=s.kind_spec _ a (y&&&s.sets.getD j 0);unfold Sq.rowTo;refine⟨r,by simp[b],λi v=>(t i (by omega)).trans (c i v),lY e u,λl o=>?_⟩;by_cases x:l<j
  ·grind
  ·grind
def Sq.Rows (s:Sq)(ahead:Nat->Nat)(ends:Nat)(d:Sf)(rows:List (List Nat))(rules:List Int)(i:Nat):Prop:=
 rows.length=i/\rules.length=i/\∀a,a<i->rules.getD a 0=xI s.rules (d.found.getD a 0&&&ends)/\∀l,l<s.sets.length->(rows.getD a []).getD l 0<d.found.length/\s.Eq (d.found.getD ((rows.getD a []).getD l 0) 0) (qT ahead (d.found.getD a 0)&&&s.sets.getD l 0)
theorem zY {b:Type}(l:List b)(x a:b)(i:Nat):(l++[x]).getD i a=if i<l.length then l.getD i a else if i=l.length then x else a:=by grind
theorem zIR (s:Sq)(ahead:Nat->Nat)(ends most:Nat)(f:Nat):∀i j rows rules k m o,s.sortGo ahead ends most f i j rows rules=some (k,m,o)->f+i=most+1->1<=f->i<=j.found.length->s.Fd j->s.Rows ahead ends j rows rules i->
  s.Fd k/\s.Rows ahead ends k m o k.found.length/\(∀a,a<j.found.length->k.found.getD a 0=j.found.getD a 0)/\j.found.length<=k.found.length:=by
 induction f with
 |zero=>grind
 |succ f u=>
  intro i j rows rules k m o l C _ D v w;unfold Sq.sortGo at l;split at l
  ·rename_i E
   split at l
   ·cases l
   ·rename_i F
    have ⟨a,b,c,e,g⟩:=s.row_spec j v (qT ahead (j.found.getD i 0)) s.sets.length;obtain⟨q,r,G⟩:=w;have ⟨z,A,B,H⟩:=u (i+1) _ _ _ k m o l (by omega) (by omega) (by omega) a ⟨by simp[q],by simp[r],λx t=>by
     rw[zY,zY,q,r,c x (by omega)];by_cases y:x<i
     ·grind
     ·have p:x=i:=by omega
      rw[if_neg y,if_pos p,if_neg y,if_pos p,p];exact⟨rfl,g⟩⟩
    exact⟨z,A,λx t=>(B x (by omega)).trans (c x t),by omega⟩
  ·grind
def Nt.Is (n:Nt)(k:Kd)(fd:List Nat)(i:Nat)(q:Nat×Int):Prop:=k.rules.getD i 0=q.2/\∀l,l<n.letters.length->(k.rows.getD i []).getD l 0<fd.length/\n.sq.Eq (fd.getD ((k.rows.getD i []).getD l 0) 0) (q.1&&&n.letters.getD l 0)
def Nt.on (n:Nt)(x:Nat):Nat×Int:=(qT n.ahead x,xI n.rules (x&&&n.ends))
structure Nt.Kn (n:Nt)(k:Kd)(fd:List Nat):Prop where
 own:∀a,a<fd.length->n.Is k fd a (n.on (fd.getD a 0))
 start:n.Is k fd k.start (n.first,-1)
 dead:k.dead<fd.length/\n.sq.Eq (fd.getD k.dead 0) 0
 len:fd.length<=k.rows.length
theorem zMH (rows:List (List Int))(rules next:List Int)(h:vF rows rules next≠rows.length):vF rows rules next<rows.length/\rules.getD (vF rows rules next) 0=-1/\rows.getD (vF rows rules next) []=next:=by
 have h1:vF rows rules next<(List.range rows.length).length:=by
  rw[List.length_range];have:vF rows rules next<=(List.range rows.length).length:=List.findIdx_le_length
  rw[List.length_range] at this;omega
 have:=List.findIdx_getElem (p:=zA1 rows rules next) (w:=h1);have e:(List.range rows.length)[vF rows rules next]'h1=vF rows rules next:=List.getElem_range _
 rw[show (List.range rows.length)[(List.range rows.length).findIdx (zA1 rows rules next)]'h1=vF rows rules next from e] at this;unfold zA1 at this;rw[Bool.and_eq_true,beq_iff_eq,decide_eq_true_eq] at this;exact⟨by rwa [List.length_range] at h1,this⟩
theorem zOc {a b:List Nat}(c:ints a=ints b):a=b:=by
 have:=congrArg (List.map Int.toNat) c;simpa[ints,Function.comp_def] using this
theorem Nt.sort_spec {most:Nat}{k:Kd}(f:n.sort most=some k)(z:∃l,l<n.letters.length/\n.letters.getD l 0=0):∃A,n.Kn k A:=by
 unfold Nt.sort at f;split at f
 ·cases f
 ·rename_i m rows rules B
  injection f with f;have C:n.sq.Fd ⟨[],[]⟩:=⟨λt D=>(by cases D),λi j E=>(by simp at E)⟩
  have ⟨a,b,c,e,g⟩:=n.sq.row_spec ⟨[],[]⟩ C n.first n.letters.length
  have ⟨F,⟨r,v,w⟩,G,H⟩:=zIR n.sq n.ahead n.ends most (most+1) 0 n.start.2 [] [] m rows rules B (by omega) (by omega) lX a ⟨rfl,rfl,λx p=>by omega⟩;have s:∀l,l<n.letters.length->n.start.1.getD l 0<m.found.length/\n.sq.Eq (m.found.getD (n.start.1.getD l 0) 0) (n.first&&&n.letters.getD l 0):=by
   intro l o;have this:n.start.1.getD l 0<n.start.2.found.length/\n.sq.Eq (n.start.2.found.getD (n.start.1.getD l 0) 0) (n.first&&&n.letters.getD l 0):=g l o;refine⟨lZ this.1 H,?_⟩;rw[G _ this.1];exact this.2
  have y:n.sq.kind m 0<m.found.length/\n.sq.Eq (m.found.getD (n.sq.kind m 0) 0) 0:=by
   obtain⟨l,o,I⟩:=z;have:=s l o;rw[I,Nat.and_zero] at this;have e:=n.sq.kind_old m F 0 _ this.1 this.2;rw[e];exact this
  refine⟨m.found,?_⟩;unfold Nt.ended at f;split at f
  ·rename_i o
   subst f;refine⟨λx p=>?_,?_,y,by simp[r]⟩
   ·unfold Nt.Is
    rw[zY,zY,r,v,if_pos p,if_pos p];exact w x p
   ·unfold Nt.Is
    rw[o,zY,zY,r,v,if_neg (Nat.lt_irrefl _),if_pos rfl,if_neg (Nat.lt_irrefl _),if_pos rfl];exact⟨rfl,s⟩
  ·rename_i o
   subst f;refine⟨λx p=>w x p,?_,y,by simp[r]⟩;have q:=zMH _ _ _ (by rw[kV];exact o);refine⟨q.2.1,?_⟩;have e:rows.getD (vF (rows.map ints) rules (ints n.start.1)) []=n.start.1:=by
    apply zOc;have:=q.2.2;have u:=q.1;rw[kV] at u;rw[lW,gZ,lV u] at this;rw[lW,lV u];exact this
   rw[e];exact s
theorem Nt.Kn.step {k:Kd}{a:List Nat}(g:n.Kn k a)(ok:n.Ok)(c:n.Kept){i:Nat}{q:Nat×Int}(m:n.Is k a i q)(l:Nat)(o:l<n.letters.length):n.Is k a ((k.rows.getD i []).getD l 0) (n.on (q.1&&&n.letters.getD l 0)):=by
 have t:=n.tails_all ok;have ⟨p,d⟩:=m.2 l o;have ⟨r,e⟩:=g.own _ p;refine⟨r.trans (d _ t.1),λj b=>⟨(e j b).1,λx f=>((e j b).2 x f).trans ?_⟩⟩;show xI n.rules (qT n.ahead _&&&_&&&x)=xI n.rules (qT n.ahead _&&&_&&&x);rw[Nt.shift_rule ok c,Nt.shift_rule ok c];exact d _ (t.2 x f j b)
def Nt.Off (n:Nt)(q:Nat×Int):Prop:=q.2=-1/\∀l,l<n.letters.length->n.sq.Eq (q.1&&&n.letters.getD l 0) 0
theorem zKq (rules:List Nat):xI rules 0=-1:=by
 unfold xI;rw[if_neg];rw[List.findIdx_eq_length.2 λx a=>by simp];exact Nat.lt_irrefl _
theorem Nt.off_of (ok:n.Ok)(b:n.Kept){x:Nat}(a:n.sq.Eq x 0):n.Off (n.on x):=by
 have t:=n.tails_all ok;refine⟨(a _ t.1).trans (by rw[Nat.zero_and];exact zKq _),λl c y d=>?_⟩;show xI n.rules (qT n.ahead _&&&_&&&y)=_;rw[Nt.shift_rule ok b,Nat.zero_and];have:=a _ (t.2 y d l c);rwa [Nat.zero_and] at this
theorem Nt.Kn.off {k:Kd}{e:List Nat}(a:n.Kn k e)(ok:n.Ok)(j:n.Kept){q:Nat×Int}(f:n.Is k e k.dead q):n.Off q:=by
 have g:=n.off_of ok j a.dead.2;have o:=a.own _ a.dead.1;exact⟨f.1.symm.trans (o.1.trans g.1),λl b x c=>((f.2 l b).2 x c).symm.trans (((o.2 l b).2 x c).trans (g.2 l b x c))⟩
theorem Nt.Off.step (ok:n.Ok)(a:n.Kept){q:Nat×Int}(b:n.Off q)(l:Nat)(c:l<n.letters.length):n.Off (n.on (q.1&&&n.letters.getD l 0)):=n.off_of ok a (b.2 l c)
end
abbrev Up (l:List Int):Prop:=∀i j,i<=j->j<l.length->l.getD i 0<=l.getD j 0
theorem zMr (l:List Int)(n:Int)(c:Up l)(k:Nat)(d:k<=l.length)(a:∀j,k<=j->j<l.length->n<l.getD j 0):zAI l n k<=l.length/\(∀j,zAI l n k<=j->j<l.length->n<l.getD j 0)/\∀j,j<zAI l n k->l.getD j 0<=n:=by
 induction k with
 |zero=>exact⟨lX,a,λj b=>by cases b⟩
 |succ k e=>
  unfold zAI;split
  ·grind
  ·grind
theorem zJa (l:List Int)(n:Int)(p j:Nat)(a:p<=l.length):(zAZ l n p).getD j 0=if j<p then l.getD j 0 else if j=p then n else l.getD (j-1) 0:=by
 unfold zAZ;split
 ·grind
 ·grind
theorem zHm (l:List Int)(n:Int)(d:Up l):Up (zEf l n)/\∀x,x=n\/x∈l->x∈zEf l n:=by
 have ⟨a,b,c⟩:=zMr l n d l.length lQ λj g k=>by omega
 unfold zEf;have k:(zAZ l n (zAI l n l.length)).length=l.length+1:=by unfold zAZ;simp;omega
 refine⟨λi j m g=>?_,λx o=>?_⟩
 ·rw[k] at g
  rw[zJa _ _ _ _ a,zJa _ _ _ _ a];by_cases f:i<zAI l n l.length <;> by_cases p:j<zAI l n l.length <;> by_cases q:i=zAI l n l.length <;> by_cases r:j=zAI l n l.length <;> simp only[f,p,q,r,if_true,if_false,Nat.lt_irrefl] <;> first|(exfalso;omega)|exact d i j m (by omega)|exact c i f|exact d (i-1) (j-1) (by omega) (by omega)|exact Int.le_of_lt (b (j-1) (by omega) (by omega))|exact Int.le_trans (c i f) (Int.le_of_lt (b (j-1) (by omega) (by omega)))|simp
 ·unfold zAZ
  rcases o with e|e
  ·rw[e];simp
  ·rw[kU,List.mem_cons]
   rw[<-List.take_append_drop (zAI l n l.length) l,kU] at e;rcases e with e|e
   ·exact .inl e
   ·exact .inr (.inr e)
theorem zOh (f:List (Int×Int)):∀l,Up l->Up (inR l f)/\(∀x∈l,x∈inR l f)/\∀r∈f,r.1∈inR l f/\r.2+1∈inR l f:=by
 induction f with
 |nil=>exact λl g=>⟨g,λx j=>j,λr o=>by cases o⟩
 |cons r f p=>
  intro l g;have a:=zHm l r.1 g;have b:=zHm _ (r.2+1) a.1;have ⟨c,k,e⟩:=p _ b.1;refine⟨c,λx j=>k x (b.2 x (.inr (a.2 x (.inr j)))),λq m=>?_⟩;rcases List.mem_cons.1 m with rfl|m
  ·exact⟨k _ (b.2 _ (.inr (a.2 _ (.inl rfl)))),k _ (b.2 _ (.inl rfl))⟩
  ·exact e q m
theorem zPD (sets:List Cs):∀l,Up l->Up (sets.foldl (λl s=>inR l s.ranges) l)/\(∀x∈l,x∈sets.foldl (λl s=>inR l s.ranges) l)/\∀s∈sets,∀r∈s.ranges,r.1∈sets.foldl (λl s=>inR l s.ranges) l/\r.2+1∈sets.foldl (λl s=>inR l s.ranges) l:=by
 induction sets with
 |nil=>grind
 |cons s sets j=>
  intro l k;have ⟨a,b,c⟩:=zOh s.ranges l k;have ⟨m,e,f⟩:=j _ a;refine⟨m,λx o=>e x (b x o),λq g=>?_⟩;rcases List.mem_cons.1 g with rfl|g
  ·grind
  ·exact f q g
theorem zEs (sets:List Cs):Up (xJ sets)/\(∀x∈[(0:Int),55296,57344,1114112],x∈xJ sets)/\∀s∈sets,∀r∈s.ranges,r.1∈xJ sets/\r.2+1∈xJ sets:=
 zPD sets _ λi j d c=>by
  have a:j=0\/j=1\/j=2\/j=3:=by simp at c;omega
  have b:i=0\/i=1\/i=2\/i=3:=by omega
  rcases a with rfl|rfl|rfl|rfl <;> rcases b with rfl|rfl|rfl|rfl <;> first|(exfalso;omega)|decide
theorem zNe (f g:Nat->Bool)(k:Nat)(a:∀i,i<k->f i=g i):qF f k=qF g k:=by
 induction k with
 |zero=>rfl
 |succ k b=>unfold qF;rw[a k (by omega),b λi c=>a i (by omega)]
theorem zKo (sets:List Cs)(b c:Int)(j:b<=c)(a:∀x∈xJ sets,x<=c->x<=b):yF sets c=yF sets b:=by
 obtain⟨-,d,k⟩:=zEs sets;refine zNe _ _ _ λi l=>?_;have m:zCR c=zCR b:=by
  have o:=a 0 (d _ (by simp));have p:=a 55296 (d _ (by simp));have q:=a 57344 (d _ (by simp));have s:=a 1114112 (d _ (by simp));exact decide_eq_decide.2 (by omega)
 unfold zAk Cs.has
 congr 2
 unfold Cs.lists;rw[Bool.eq_iff_iff,List.any_eq_true,List.any_eq_true];have f:∀r∈(sets.getD i ⟨[],false⟩).ranges,(r.1<=c/\c<=r.2)↔(r.1<=b/\b<=r.2):=by grind
 constructor <;> rintro⟨r,e,g⟩ <;> refine⟨r,e,?_⟩ <;> simp only[Bool.and_eq_true,decide_eq_true_eq] at g ⊢
 ·exact(f r e).1 g
 ·exact(f r e).2 g
structure Ar.To (sets:List Cs)(bs:List Int)(a:Ar):Prop where
 lens:a.letters.length=a.lows.length
 lows:∀x∈a.lows,x∈bs
 up:Up a.lows
 look:∀l,l<a.sets.length->a.look (a.sets.getD l 0)=l
 at_:∀x∈bs,∃i l:Nat,i<a.lows.length/\a.lows.getD i 0<=x/\(∀j,i<j->j<a.lows.length->x<a.lows.getD j 0)/\a.letters.getD i 0=l/\l<a.sets.length/\a.sets.getD l 0=(yF sets x:Nat)
theorem Ar.seen_spec (a:Ar)(x:Int)(d:∀l,l<a.sets.length->a.look (a.sets.getD l 0)=l):(∀l,l<(a.seen x).sets.length->(a.seen x).look ((a.seen x).sets.getD l 0)=l)/\a.look x<(a.seen x).sets.length/\(a.seen x).sets.getD (a.look x) 0=x/\(∀l,l<a.sets.length->l<(a.seen x).sets.length/\(a.seen x).sets.getD l 0=a.sets.getD l 0)/\(a.seen x).lows=a.lows/\(a.seen x).letters=a.letters:=by
 unfold Ar.seen;by_cases c:a.look x<a.sets.length
 ·rw[if_pos c]
  refine⟨d,c,?_,λl b=>⟨b,rfl⟩,rfl,rfl⟩;have:=List.findIdx_getElem (p:=(·==x)) (w:=c);rw[lW,lV c];exact beq_iff_eq.1 this
 ·rw[if_neg c]
  have e:a.look x=a.sets.length:=Nat.le_antisymm List.findIdx_le_length (by omega);refine⟨λl b=>?_,by simp[e],?_,λl b=>⟨by simp;omega,(zY ..).trans (if_pos b)⟩,rfl,rfl⟩
  ·dsimp only at b ⊢
   unfold Ar.look at *;rw[zY];by_cases g:l<a.sets.length
   ·rw[if_pos g,List.findIdx_append,d l g,if_pos g]
   ·grind
  ·grind
theorem Ar.To.step {sets:List Cs}{bs:List Int}{a:Ar}(c:a.To sets bs)(low:Int)(k:∀x∈bs,x<=low):(a.step sets low).To sets (bs++[low]):=by
 have ⟨s1,s2,m,o,d,f⟩:=a.seen_spec (yF sets low) c.look;have old:∀x∈bs,∃i l:Nat,i<a.lows.length/\a.lows.getD i 0<=x/\(∀j,i<j->j<a.lows.length->x<a.lows.getD j 0)/\a.letters.getD i 0=l/\l<(a.seen (yF sets low)).sets.length/\(a.seen (yF sets low)).sets.getD l 0=(yF sets x:Nat):=by
  intro x b;have ⟨i,l,r,s,v,w,u,y⟩:=c.at_ x b;exact⟨i,l,r,s,v,w,(o l u).1,(o l u).2.trans y⟩
 rcases Bool.eq_false_or_eq_true ((a.seen (yF sets low)).turns (a.look (yF sets low))) with t|t
 ·rw[Ar.step_yes _ _ _ t]
  refine⟨by simp[d,f,c.lens],λx b=>?_,λi j z g=>?_,s1,λx b=>?_⟩
  ·dsimp only at b
   rw[d,kU] at b;rw[kU];exact b.imp (c.lows x) id
  ·dsimp only at g ⊢
   rw[d] at g ⊢;rw[kX,List.length_singleton] at g;rw[zY,zY];by_cases p:j<a.lows.length
   ·rw[if_pos p,if_pos (show i<a.lows.length by omega)];exact c.up i j z p
   ·rw[if_neg p,if_pos (show j=a.lows.length by omega)]
    by_cases q:i<a.lows.length
    ·rw[if_pos q];exact k _ (c.lows _ (by rw[lW,lV q];exact List.getElem_mem _))
    ·grind
  ·dsimp only
   rw[d,f];simp only[kX,List.length_singleton,zY,c.lens];rcases kU.1 b with b|b
   ·grind
   ·rw[kY.1 b]
    refine⟨a.lows.length,a.look (yF sets low),by omega,by simp,λj g A=>by omega,by simp,s2,m⟩
 ·rw[Ar.step_no _ _ _ t]
  refine⟨by rw[d,f];exact c.lens,λx b=>?_,by rw[d];exact c.up,s1,λx b=>?_⟩
  ·rw[d] at b;exact List.mem_append_left _ (c.lows x b)
  ·rw[d,f]
   rcases kU.1 b with b|b
   ·exact old x b
   ·rw[kY.1 b]
    unfold Ar.turns at t;rw[f,c.lens] at t;simp at t;have q:0<a.lows.length:=by have:=t.1;cases e:a.lows with|nil=>exact absurd e this|cons x l=>simp
    refine⟨a.lows.length-1,a.look (yF sets low),by omega,k _ (c.lows _ ?_),λj r s=>by omega,?_,s2,m⟩
    ·grind
    ·simpa using t.2
theorem zO5 (sets:List Cs)(b:List Int):∀bs (a:Ar),a.To sets bs->Up (bs++b)->(b.foldl (Ar.step sets) a).To sets (bs++b):=by
 induction b with
 |nil=>grind
 |cons x b f=>
  intro bs a g c;have e:bs++x::b=bs++[x]++b:=by simp
  rw[e] at c ⊢;refine f _ _ (g.step x λy j=>?_) c;obtain⟨i,d,rfl⟩:=List.getElem_of_mem j;have:=c i bs.length (by omega) (by simp);simp only[lW] at this;rw[kW (by simp;omega),kW d,kW (by simp),hZ (by omega),lV d] at this;simpa using this
theorem zO4 (sets:List Cs):(xN sets).To sets (xJ sets):=
 zO5 sets (xJ sets) [] _ ⟨rfl,λx a=>a,λi j _ b=>by simp at b,λl c=>by simp at c,λx a=>by cases a⟩ (zEs sets).1
theorem zLg (lows:List Int)(n:Int)(i:Nat)(k:∀j,j<=i->lows.getD j 0<=n)(l:∀j,i<j->j<lows.length->n<lows.getD j 0)(f:Nat):∀g e,g<=i->i<e->e<=lows.length->e-g<=f+1->jC lows n f g e=i:=by
 induction f with
 |zero=>intro g e a b c h;unfold jC;omega
 |succ f m=>
  intro g e a b c h;unfold jC;split
  ·grind
  ·omega
theorem zFc (sets:List Cs)(c:Int)(r:0<=c):∃i l:Nat,(xN sets).area c=i/\(xN sets).letter c=l/\l<(xN sets).sets.length/\(xN sets).sets.getD l 0=(yF sets c:Nat)/\i<(xN sets).lows.length/\(xN sets).lows.getD i 0<=c/\∀j,i<j->j<(xN sets).lows.length->c<(xN sets).lows.getD j 0:=by
 have a:=zO4 sets;have ⟨B,s,_⟩:=zEs sets;obtain⟨b,t,d,m⟩:∃b∈xJ sets,b<=c/\∀x∈xJ sets,x<=c->x<=b:=by
  have go:∀l:List Int,(∃x∈l,x<=c)->∃b∈l,b<=c/\∀x∈l,x<=c->x<=b:=by
   intro l;induction l with
   |nil=>grind
   |cons y l C=>
    rintro⟨x,D,E⟩;by_cases g:∃x∈l,x<=c
    ·grind
    ·grind
  exact go _ ⟨0,s 0 (by simp),r⟩
 have ⟨i,l,f,o,u,v,z,A⟩:=a.at_ b t;have up:∀j,i<j->j<(xN sets).lows.length->c<(xN sets).lows.getD j 0:=by
  intro j k p;have:=u j k p;rcases Int.lt_or_le c ((xN sets).lows.getD j 0) with q|q
  ·exact q
  ·have w:(xN sets).lows.getD j 0∈(xN sets).lows:=by rw[lW,lV p];exact List.getElem_mem _
   have:=m _ (a.lows _ w) q;omega
 have e:(xN sets).area c=i:=zLg _ c i (λj k=>Int.le_trans (a.up j i k f) (Int.le_trans o d)) up _ 0 _ lX f lQ (by omega);refine⟨i,l,e,by unfold Ar.letter;rw[e];exact v,z,by rw[zKo sets b c d m];exact A,f,Int.le_trans o d,up⟩
theorem zKS (l:List Int)(i:Nat):(l.map Int.toNat).getD i 0=(l.getD i 0).toNat:=by grind
theorem Nt.letter_at (n:Nt)(c:Int)(a:0<=c):∃l:Nat,n.areas.letter c=l/\l<n.letters.length/\n.letters.getD l 0=yF n.sets c:=by
 have ⟨i,l,_,b,d,e,_⟩:=zFc n.sets c a;refine⟨l,b,by unfold Nt.letters Ar.setsN;rw[kV];exact d,?_⟩;unfold Nt.letters Ar.setsN;rw[zKS];unfold Nt.areas;rw[e,Int.toNat_natCast]
theorem Nt.alike_at (n:Nt)(a b:Int)(g:0<=a)(d:n.areas.alike a b=true)(c:Int)(s:a<=c)(t:c<=b):n.areas.letter c=n.areas.letter a:=by
 have ⟨i,l,f,u,_,_,v,w,x⟩:=zFc n.sets a g;have ⟨j,m,p,_,_,_,y5,y,z⟩:=zFc n.sets b (by omega);have ⟨k,o,q,A,_,_,B,C,D⟩:=zFc n.sets c (by omega);have e:i=j:=by
  unfold Ar.alike Nt.areas at d;rw[f,p,beq_iff_eq] at d;omega
 have r:k=i:=by grind
 unfold Ar.letter Nt.areas;rw[q,f,r]
theorem Nt.zero_letter (n:Nt):∃l,l<n.letters.length/\n.letters.getD l 0=0:=by
 have ⟨l,_,a,g⟩:=n.letter_at 1114112 (by decide);refine⟨l,a,g.trans ?_⟩;have b:∀k,qF (zAk n.sets 1114112) k=0:=by
  intro k;induction k with
  |zero=>rfl
  |succ k c=>unfold qF;rw[if_neg (by unfold zAk Cs.has;rw[show zCR 1114112=false by decide];simp),c]
 exact b _
section
def Mk.at (m:Mk)(t:Int)(b:Nat):Int:=(m.next.getD t.toNat []).getD b 0
def Mk.rule (m:Mk)(t:Int):Int:=m.rules.getD t.toNat 0
structure Mk.Side (m:Mk)(S:Nat)(t:Int):Prop where
 in_:0<=t/\t.toNat<m.next.length
 side:t=0\/S<=t.toNat
 rule:m.rule t=-1
 off:∀b,b<128\/192<=b->m.at t b=0
structure Mk.Inv (m:Mk)(S:Nat)(O:List Int):Prop where
 of:m.of=O
 one:1<=S
 len:S<=m.next.length
 same:m.rules.length=m.next.length
 wide:∀t,t<m.next.length->(m.next.getD t []).length=256
 side:∀t:Nat,t=0\/S<=t->t<m.next.length->m.Side S t
 mid:∀t b:Nat,t<S->128<=b->b<192->m.at t b=0
structure Mk.Ext (m m':Mk):Prop where
 len:m.next.length<=m'.next.length
 at_:∀t b:Nat,t<m.next.length->m'.at t b=m.at t b
 rule:∀t:Nat,t<m.next.length->m'.rule t=m.rule t
theorem Mk.Ext.refl (m:Mk):m.Ext m:=⟨lQ,λ_ _ _=>rfl,λ_ _=>rfl⟩
theorem Mk.Ext.trans {m d e:Mk}(a:m.Ext d)(g:d.Ext e):m.Ext e:=⟨lY a.len g.len,λt b c=>(g.at_ t b (lZ c a.len)).trans (a.at_ t b c),λt c=>(g.rule t (lZ c a.len)).trans (a.rule t c)⟩
theorem zNJ (m:Mk)(s b:Nat)(x:Int)(a:s<m.next.length)(d:b<(m.next.getD s []).length)(t c:Nat):(m.put s b x).at t c=if t=s/\c=b then x else m.at t c:=by
 unfold Mk.at Mk.put;by_cases e:s=t
 ·grind
 ·grind
theorem zI9 (m:Mk)(s b:Nat)(x:Int)(c:∀t,t<m.next.length->(m.next.getD t []).length=256)(t:Nat)(a:t<(m.put s b x).next.length):((m.put s b x).next.getD t []).length=256:=by
 unfold Mk.put at a ⊢;rw[List.length_set] at a;by_cases g:s=t
 ·grind
 ·grind
theorem zJA (m:Mk)(s:Nat)(f:Nat->Int)(k:s<m.next.length)(o:∀t,t<m.next.length->(m.next.getD t []).length=256)(j:Nat)(v:j<=64):(m.fillTo s f j).next.length=m.next.length/\(∀t,t<m.next.length->((m.fillTo s f j).next.getD t []).length=256)/\(m.fillTo s f j).rules=m.rules/\(m.fillTo s f j).of=m.of/\(m.fillTo s f j).full=m.full/\∀t c:Nat,(m.fillTo s f j).at t c=if t=s/\128<=c/\c<128+j then f (c-128) else m.at t c:=by
 induction j with
 |zero=>exact⟨rfl,o,rfl,rfl,rfl,λt c=>by rw[if_neg (by omega)];rfl⟩
 |succ j p=>
  have ⟨a,b,c,r,e,g⟩:=p (by omega);unfold Mk.fillTo;have l:((m.fillTo s f j).put s (128+j) (f j)).next.length=m.next.length:=by rw[<-a];exact List.length_set ..
  refine⟨l,λt u=>zI9 _ _ _ _ (by rw[a];exact b) t (by rw[l];exact u),c,r,e,λt x=>?_⟩;rw[zNJ _ _ _ _ (by rw[a];exact k) (by rw[b s k];omega),g];by_cases w:t=s/\x=128+j
  ·grind
  ·grind
theorem zIw (b:Nat):zeros.getD b 0=0:=by
 unfold zeros;rw[lW,List.getElem?_replicate];split <;> rfl
theorem zLh (l:List (List Int))(t b:Nat):((l++[zeros]).getD t []).getD b 0=(l.getD t []).getD b 0:=by
 rw[zY];split
 ·rfl
 ·rename_i a
  split
  ·rw[zIw,lW (l:=l),List.getElem?_eq_none (by omega)];rfl
  ·grind
theorem zGT {m:Mk}{S:Nat}{O:List Int}(d:m.Inv S O)(most:Nat)(f:Nat->Int)(k:(m.withM most f).full=false):m.full=false/\(m.withM most f).Inv S O/\m.Ext (m.withM most f)/\(m.withM most f).Side S (m.withN most f:Nat)/\∀j,j<64->(m.withM most f).at (m.withN most f:Nat) (128+j)=f j:=by
 unfold Mk.withM at k ⊢;unfold Mk.withN;by_cases x:nz f=true
 ·simp only[if_pos x] at k ⊢
  have F:=d.side 0 (.inl rfl) (lZ d.one d.len);refine⟨k,d,.refl m,F,λj v=>?_⟩;have:=List.all_eq_true.1 x j (List.mem_range.2 v);rw[eq_of_beq this];exact d.mid 0 (128+j) d.one (by omega) (by omega)
 ·simp only[if_neg x] at k ⊢
  by_cases q:m.seek f<m.next.length
  ·simp only[if_pos q] at k ⊢
   have:=List.findIdx_getElem (p:=λrow=>qP row f) (w:=q);have cell:∀j,j<64->m.at (m.seek f:Nat) (128+j)=f j:=by
    intro j v;have e:=eq_of_beq (List.all_eq_true.1 this j (List.mem_range.2 v));unfold Mk.at
    rw[Int.toNat_natCast,lW (l:=m.next),lV q];exact e
   refine⟨k,d,.refl m,d.side _ (.inr ?_) q,cell⟩;rcases Nat.lt_or_ge (m.seek f) S with c|c
   ·exact absurd (List.all_eq_true.2 λj v=>by
     have v:=List.mem_range.1 v;rw[<-cell j v,d.mid _ _ c (by omega) (by omega)];rfl) x
   ·exact c
  ·simp only[if_neg q] at k ⊢
   have G:=d.one;have K:=d.len;by_cases a:m.addN most=0
   ·exfalso
    rw[if_pos a] at k;unfold Mk.addN at a;unfold Mk.add at k;by_cases c:most<=m.next.length
    ·grind
    ·grind
   ·rw[if_neg a] at k
    simp only[if_neg a];have c:¬most<=m.next.length:=λc=>a (by unfold Mk.addN;rw[if_pos c])
    have A:m.addN most=m.next.length:=by unfold Mk.addN;rw[if_neg c]
    have B:m.add most (-1)={m with next:=m.next++[zeros],rules:=m.rules++[-1]}:=by unfold Mk.add;rw[if_neg c]
    rw[A,B] at k;rw[A,B];have ⟨l,w,r,o,H,at_⟩:=zJA {m with next:=m.next++[zeros],rules:=m.rules++[-1]} m.next.length f (by simp) (λt u=>by
     rw[zY];rw[kX,List.length_singleton] at u;by_cases g:t<m.next.length
     ·rw[if_pos g];exact d.wide t g
     ·rw[if_neg g,if_pos (by omega)];exact List.length_replicate) 64 (by omega)
    have y:m.Ext (Mk.fillTo {m with next:=m.next++[zeros],rules:=m.rules++[-1]} m.next.length f 64):=by
     refine⟨by rw[l];simp,λt b u=>?_,λt u=>?_⟩
     ·rw[at_,if_neg (by omega)]
      unfold Mk.at;exact zLh _ _ _
     ·unfold Mk.rule
      rw[r];rw[Int.toNat_natCast,zY,if_pos (by rw[d.same];exact u)]
    have C:(Mk.fillTo {m with next:=m.next++[zeros],rules:=m.rules++[-1]} m.next.length f 64).Side S (m.next.length:Nat):=by
     refine⟨⟨by omega,by rw[l];simp⟩,.inr (by omega),?_,λb D=>?_⟩
     ·unfold Mk.rule
      rw[r];rw[Int.toNat_natCast,zY,d.same,if_neg (Nat.lt_irrefl _),if_pos rfl]
     ·rw[at_,if_neg (by omega)]
      unfold Mk.at
      rw[Int.toNat_natCast];rw[zY,if_neg (Nat.lt_irrefl _),if_pos rfl,zIw]
    refine⟨by rw[H] at k;exact k,⟨by rw[o];exact d.of,G,by rw[l];simp;omega,by rw[r,l];simp[d.same],λt u=>w t (by rw[l] at u;exact u),λt u E=>?_,λt b u I J=>?_⟩,y,C,λj v=>by rw[at_,if_pos (by omega),hY]⟩
    ·rw[l] at E
     simp only[kX,List.length_singleton] at E;by_cases g:t=m.next.length
     ·rw[g];exact C
     ·have s:=d.side t u (by omega)
      exact⟨⟨by omega,by rw[l];simp;omega⟩,s.side,(y.rule t (by omega)).trans s.rule,λb D=>(y.at_ t b (by omega)).trans (s.off b D)⟩
    ·exact(y.at_ t b (by omega)).trans (d.mid t b u I J)
theorem zJB (m:Mk)(s:Nat)(f:Nat->Int)(j:Nat):(m.fillTo s f j).full=m.full:=by
 induction j with
 |zero=>rfl
 |succ j a=>exact a
theorem zGr {m:Mk}{most:Nat}{r:Int}(a:(m.add most r).full=false):m.full=false:=by
 unfold Mk.add at a;split at a
 ·cases a
 ·exact a
theorem zGU {m:Mk}{most:Nat}{f:Nat->Int}(a:(m.withM most f).full=false):m.full=false:=by
 unfold Mk.withM at a;split at a
 ·exact a
 ·split at a
  ·exact a
  ·split at a
   ·exact zGr a
   ·rw[zJB] at a;exact zGr a
section
variable {σ:Type} (W:Int->σ->Prop) (cs:σ->Nat->σ) (q:σ)
def Mk.Q (S:Nat)(m:Mk):Nat->Int->Nat->Prop
 |0,t,c=>W t (cs q c)
 |l+1,t,c=>m.Side S t/\∀j,j<64->if c+j*xL (l+1)<jR (xL (l+1)) then m.at t (128+j)=0 else m.Q S l (m.at t (128+j)) (c+j*xL (l+1))
variable {S:Nat} {O:List Int}
structure Mk.ExtI (m m':Mk)(S:Nat):Prop where
 len:m.next.length<=m'.next.length
 at_:∀t b:Nat,t=0\/S<=t->t<m.next.length->m'.at t b=m.at t b
 rule:∀t:Nat,t=0\/S<=t->t<m.next.length->m'.rule t=m.rule t
theorem Mk.Ext.i {m d:Mk}(a:m.Ext d)(S:Nat):m.ExtI d S:=⟨a.len,λt b _ c=>a.at_ t b c,λt _ c=>a.rule t c⟩
theorem Mk.ExtI.trans {m e f:Mk}(a:m.ExtI e S)(g:e.ExtI f S):m.ExtI f S:=⟨lY a.len g.len,λt b c d=>(g.at_ t b c (lZ d a.len)).trans (a.at_ t b c d),λt c d=>(g.rule t c (lZ d a.len)).trans (a.rule t c d)⟩
theorem Mk.Side.up {m c:Mk}{t:Int}(f:m.Side S t)(e:m.ExtI c S):c.Side S t/\∀b,c.at t b=m.at t b:=by
 obtain⟨⟨g,d⟩,j,k,l⟩:=f;obtain⟨n,rfl⟩:∃n:Nat,t=n:=⟨t.toNat,by omega⟩
 have a:=λb=>e.at_ n b (by omega) d;exact⟨⟨⟨g,lZ d e.len⟩,j,(e.rule n (by omega) d).trans k,λb o=>(a b).trans (l b o)⟩,a⟩
theorem Mk.Q_up {m b:Mk}(e:m.ExtI b S)(l:Nat):∀t c,m.Q W cs q S l t c->b.Q W cs q S l t c:=by
 induction l with
 |zero=>exact λt c a=>a
 |succ l f=>
  intro t c a;have u:=a.1.up e;refine⟨u.1,λj d=>?_⟩;have:=a.2 j d;split at this
  ·grind
  ·grind
def Sub (P:Mk->Int->Nat->Prop)(S:Nat)(O:List Int)(sub:Mk->Nat->Int×Mk)(G:Nat->Prop):Prop:=∀m c,(sub m c).2.full=false->m.full=false/\(G c->m.Inv S O->(sub m c).2.Inv S O/\m.Ext (sub m c).2/\P (sub m c).2 (sub m c).1 c)
theorem zNy {a:Mk->Nat->Int×Mk}{l:Nat}{p:Nat->Prop}(A:Sub (λm t c=>m.Q W cs q S l t c) S O a p)(step low:Nat)(m:Mk)(j:Nat)(f:(yC a step low m j).2.full=false):
  m.full=false/\((∀i,i<j->jR step<=low+i*step->p (low+i*step))->m.Inv S O->(yC a step low m j).2.Inv S O/\m.Ext (yC a step low m j).2/\∀i,i<j->if low+i*step<jR step then(yC a step low m j).1 i=0 else(yC a step low m j).2.Q W cs q S l ((yC a step low m j).1 i) (low+i*step)):=by
 induction j with
 |zero=>exact⟨f,λ_ o=>⟨o,.refl m,λi r=>by omega⟩⟩
 |succ j s=>
  unfold yC at f ⊢;by_cases g:low+j*step<jR step
  ·grind
  ·simp only[if_neg g] at f ⊢
   have ⟨x,y⟩:=A _ _ f;refine⟨(s x).1,λv o=>?_⟩;have ⟨b,c,B⟩:=(s x).2 (λi r=>v i (by omega)) o;have ⟨y,w,u⟩:=y (v j (by omega) (by omega)) b;refine⟨y,c.trans w,λi r=>?_⟩;by_cases e:i=j
   ·grind
   ·have:=B i (by omega)
    rw[if_neg e];split at this
    ·grind
    ·rename_i k;rw[if_neg k];exact Mk.Q_up W cs q (w.i S) _ _ _ this
theorem zLZ {f:Mk->Nat->Int×Mk}{l:Nat}{p:Nat->Prop}(s:Sub (λm t c=>m.Q W cs q S l t c) S O f p)(most low:Nat)(m:Mk)(o:(zAT most (yC f (xL (l+1)) low m 64)).2.full=false):
  m.full=false/\((∀i,i<64->jR (xL (l+1))<=low+i*xL (l+1)->p (low+i*xL (l+1)))->m.Inv S O->(zAT most (yC f (xL (l+1)) low m 64)).2.Inv S O/\m.Ext (zAT most (yC f (xL (l+1)) low m 64)).2/\(zAT most (yC f (xL (l+1)) low m 64)).2.Q W cs q S (l+1) (zAT most (yC f (xL (l+1)) low m 64)).1 low):=by
 unfold zAT at o ⊢;have ⟨a,b⟩:=zNy W cs q s (xL (l+1)) low m 64 (zGU o);refine⟨a,λu v=>?_⟩;have ⟨b,c,w⟩:=b u v;have ⟨_,e,g,k,n⟩:=zGT b most _ o;refine⟨e,c.trans g,k,λj r=>?_⟩;have:=w j r;rw[n j r];split at this
 ·grind
 ·rename_i x;rw[if_neg x];exact Mk.Q_up W cs q (g.i S) _ _ _ this
theorem zHr {most:Nat}(c:Nat):∀{m:Mk} {to:Int},(Mk.even most c m to).2.full=false->m.full=false:=by
 induction c with
 |zero=>exact λa=>a
 |succ c b=>exact λa=>zGU (b a)
theorem zMY (most a d:Nat)(c:Nat):∀l (m:Mk) (to:Int),(Mk.even most c m to).2.full=false->l+c<=3->jR (xL (l+c))<=a->m.Inv S O->(∀x,a<=x->x+64^l<=d->m.Q W cs q S l to x)->(Mk.even most c m to).2.Inv S O/\m.Ext (Mk.even most c m to).2/\∀x,a<=x->x+64^(l+c)<=d->(Mk.even most c m to).2.Q W cs q S (l+c) (Mk.even most c m to).1 x:=by
 induction c with
 |zero=>exact λl m to _ _ _ b g=>⟨b,.refl m,g⟩
 |succ c t=>
  intro l m to f z o b g;have ⟨_,e,x,k,n⟩:=zGT b most _ (zHr c f);have s:xL (l+1)=64^l:=by
   have:l=0\/l=1\/l=2:=by omega
   rcases this with rfl|rfl|rfl <;> rfl
  have u:jR (xL (l+1))<=a:=by
   refine lY ?_ o;have p:l=0\/l=1\/l=2:=by omega
   have v:c=0\/c=1\/c=2:=by omega
   rcases p with rfl|rfl|rfl <;> rcases v with rfl|rfl|rfl <;> first|(exfalso;omega)|decide
  have r:=t (l+1) (m.withM most λ_=>to) (m.withN most λ_=>to:Nat) f (by omega) (by rw[show l+1+c=l+(c+1) by omega];exact o) e (λy A B=>by
   refine⟨k,λj w=>?_⟩;rw[s,if_neg (by rw[s] at u;omega),n j w];refine Mk.Q_up W cs q (x.i S) _ _ _ (g _ (by omega) ?_);have:(j+1)*64^l<=64*64^l:=Nat.mul_le_mul_right _ (by omega);rw[Nat.add_mul,Nat.one_mul] at this;omega)
  rw[show l+1+c=l+(c+1) by omega] at r;exact⟨r.1,x.trans r.2.1,r.2.2⟩
theorem zCg (k:Kd)(a:Ar)(most kind:Nat)(f:∀c:Nat,W (O.getD ((k.rows.getD kind []).getD (a.letter c).toNat 0) 0) (cs q c))(p:∀x y c:Nat,a.alike (x:Int) (y:Int)=true->x<=c->c<=y->a.letter (c:Int)=a.letter (x:Int))(l:Nat)(j:l<=2):
  Sub (λm t c=>m.Q W cs q S (l+1) t c) S O (yM k a most kind l) λ_=>True:=by
 have o:∀l,l<=2->∀e,Sub (λm t c=>m.Q W cs q S l t c) S O e (λ_=>True)->Sub (λm t c=>m.Q W cs q S (l+1) t c) S O (jH k a most kind (l+1) (xL (l+1)) e) λ_=>True:=by
  intro l j e s m c b;have u:xL (l+1)=64^l:=by
   have:l=0\/l=1\/l=2:=by omega
   rcases this with rfl|rfl|rfl <;> rfl
  unfold jH at b ⊢;by_cases g:jR (xL (l+1))<=c/\a.alike (c:Int) ((c+64*xL (l+1)-1:Nat):Int)=true
  ·simp only[if_pos g] at b ⊢
   refine⟨zHr _ b,λ_ d=>?_⟩;have r:=zMY W cs q (S:=S) (O:=O) most c (c+64^(l+1)) (l+1) 0 m _ b (by omega) (by rw[Nat.zero_add];exact g.1) d (λx v z=>by
    unfold Mk.behind;rw[d.of,<-p c _ x g.2 v (by rw[u,<-Nat.pow_succ'];omega)];exact f x)
   rw[Nat.zero_add] at r;exact⟨r.1,r.2.1,r.2.2 c lQ lQ⟩
  ·simp only[if_neg g] at b ⊢
   have ⟨x,y⟩:=zLZ W cs q s most c m b;exact⟨x,λ_ d=>y (λ_ _ _=>trivial) d⟩
 induction l with
 |zero=>exact o 0 (by omega) _ λm c b=>⟨b,λ_ d=>⟨d,.refl m,by
   unfold Mk.behind;rw[d.of];exact f c⟩⟩
 |succ l w=>exact o (l+1) j _ (w (by omega))
structure Mk.Fill (m m':Mk)(S:Nat)(O:List Int)(s:Nat)(B:Nat->Prop):Prop where
 inv:m'.Inv S O
 i:m.ExtI m' S
 at_:∀t b:Nat,t<m.next.length->t≠s\/¬B b->m'.at t b=m.at t b
 rule:∀t:Nat,t<m.next.length->m'.rule t=m.rule t
theorem Mk.put_fill {m:Mk}{s b:Nat}(a:m.Inv S O)(v:1<=s)(w:s<S)(y:b<128\/192<=b)(l:b<256)(x:Int):m.Fill (m.put s b x) S O s (λc=>c=b)/\(m.put s b x).at s b=x:=by
 have o:=a.len;have p:b<(m.next.getD s []).length:=by rw[a.wide s (by omega)];exact l
 have f:=zNJ m s b x (by omega) p;have d:(m.put s b x).next.length=m.next.length:=List.length_set ..
 refine⟨⟨⟨a.of,a.one,by rw[d];exact o,by rw[d];exact a.same,zI9 m s b x a.wide,λt e g=>?_,λt c e r u=>?_⟩,⟨by rw[d];exact lQ,λt c e _=>?_,λt _ _=>rfl⟩,λt c _ k=>?_,λt _=>rfl⟩,by rw[f,if_pos ⟨rfl,rfl⟩]⟩
 ·rw[d] at g
  have j:=a.side t e g;exact⟨⟨by omega,by rw[d];exact g⟩,j.side,j.rule,λc k=>by rw[f,if_neg (by omega)];exact j.off c k⟩
 ·rw[f,if_neg (by omega)];exact a.mid t c e r u
 ·grind
 ·grind
theorem zBM {P:Mk->Int->Nat->Prop}{d:Mk->Nat->Int×Mk}{B:Nat->Prop}(C:∀{m D:Mk} {t:Int} {c:Nat},m.ExtI D S->P m t c->P D t c)(F:Sub P S O d B)(s a:Nat)(m:Mk)(n:Nat)(o:(qJ d s a m n).full=false):
  m.full=false/\(1<=s->s<S->a+n<=256->(∀b,a<=b->b<a+n->(b<128\/192<=b)/\B b)->m.Inv S O->m.Fill (qJ d s a m n) S O s (λb=>a<=b/\b<a+n)/\∀b,a<=b->b<a+n->P (qJ d s a m n) ((qJ d s a m n).at s b) b):=by
 induction n with
 |zero=>exact⟨o,λ_ _ _ _ l=>⟨⟨l,(Mk.Ext.refl m).i S,λ_ _ _ _=>rfl,λ_ _=>rfl⟩,λb p r=>by omega⟩⟩
 |succ n E=>
  unfold qJ at o ⊢;have ⟨x,y⟩:=F _ _ o;refine⟨(E x).1,λp r L w l=>?_⟩;have ⟨k,H⟩:=(E x).2 p r (by omega) (λb j I=>w b j (by omega)) l;have ⟨u,v,J⟩:=y (w (a+n) (by omega) (by omega)).2 k.inv;have ⟨f,K⟩:=Mk.put_fill u p r (w (a+n) (by omega) (by omega)).1 (by omega) (d (qJ d s a m n) (a+n)).1;have M:=k.i.len;have N:=v.len;have R:=l.len;refine⟨⟨f.inv,(k.i.trans (v.i S)).trans f.i,λt b A j=>?_,λt A=>?_⟩,λb j I=>?_⟩
  ·rw[f.at_ t b (by omega) (j.imp id λg e=>g (by omega)),v.at_ t b (by omega),k.at_ t b A (j.imp id λg e=>g (by omega))]
  ·rw[f.rule t (by omega),v.rule t (by omega),k.rule t A]
  ·by_cases e:b=a+n
   ·rw[e,K];exact C f.i J
   ·rw[f.at_ s b (by omega) (.inr e),v.at_ s b (by omega)]
    exact C ((v.i S).trans f.i) (H b j (by omega))
end
end
section
section
variable {σ:Type} (W:Int->σ->Prop) (cs:σ->Nat->σ)
structure Mk.Four (m:Mk)(S:Nat)(s:Nat)(q:σ):Prop where
 a:∀b,b<128->W (m.at s b) (cs q b)
 b:∀b,194<=b->b<224->m.Q W cs q S 1 (m.at s b) ((b-192)*64)
 c:∀b,224<=b->b<240->m.Q W cs q S 2 (m.at s b) ((b-224)*4096)
 d:∀b,240<=b->b<245->m.Q W cs q S 3 (m.at s b) ((b-240)*262144)
 off:∀b,128<=b->b<194\/245<=b->m.at s b=0
variable {S:Nat} {O:List Int}
theorem Mk.Four.up {W:Int->σ->Prop}{cs:σ->Nat->σ}{m o:Mk}{s:Nat}{q:σ}(j:m.Four W cs S s q)(e:m.ExtI o S)(l:∀b,o.at s b=m.at s b):o.Four W cs S s q:=
 ⟨λb f=>l b ▸ j.a b f,λb f g=>l b ▸ Mk.Q_up W cs q e _ _ _ (j.b b f g),λb f g=>l b ▸ Mk.Q_up W cs q e _ _ _ (j.c b f g),λb f g=>l b ▸ Mk.Q_up W cs q e _ _ _ (j.d b f g),λb f g=>l b ▸ j.off b f g⟩
theorem Mk.Fill.trans {m e f:Mk}{s:Nat}{B C D:Nat->Prop}(c:m.Fill e S O s B)(g:e.Fill f S O s C)(l:∀b,B b->D b)(o:∀b,C b->D b):m.Fill f S O s D:=
 ⟨g.inv,c.i.trans g.i,λt b d j=>(g.at_ t b (lZ d c.i.len) (j.imp id λx y=>x (o b y))).trans (c.at_ t b d (j.imp id λx y=>x (l b y))),λt d=>(g.rule t (lZ d c.i.len)).trans (c.rule t d)⟩
theorem zF9 (k:Kd)(a:Ar)(most kind s:Nat)(B:∀x y c:Nat,a.alike (x:Int) (y:Int)=true->x<=c->c<=y->a.letter (c:Int)=a.letter (x:Int))(m:Mk)(g:(zAC k a most kind s m).full=false)(q:σ)(o:∀c:Nat,W (O.getD ((k.rows.getD kind []).getD (a.letter c).toNat 0) 0) (cs q c)):
  m.full=false/\(1<=s->s<S->m.Inv S O->(∀b,m.at s b=0)->m.Fill (zAC k a most kind s m) S O s (λ_=>True)/\(zAC k a most kind s m).Four W cs S s q):=by
 unfold zAC at g ⊢;have M:Sub (λ_ t b=>W t (cs q b)) S O (zD0 k a kind) λ_=>True:=λm c g=>⟨g,λ_ f=>⟨f,.refl m,by
  show W (m.behind k a kind c) (cs q c);unfold Mk.behind;rw[f.of];exact o c⟩⟩
 have N:Sub (λm t b=>m.Q W cs q S 1 t ((b-192)*64)) S O (zCQ k a most kind) λ_=>True:=λm c g=>by
  exact zCg W cs q k a most kind o B 0 (by omega) m ((c-192)*64) g
 have R:Sub (λm t b=>m.Q W cs q S 2 t ((b-224)*4096)) S O (zCP k a most kind) λ_=>True:=λm c g=>by
  unfold zCP at g ⊢;exact zCg W cs q k a most kind o B 1 (by omega) m ((c-224)*4096) g
 have T:Sub (λm t b=>m.Q W cs q S 3 t ((b-240)*262144)) S O (zCO k a most kind) λ_=>True:=λm c g=>by
  unfold zCO at g ⊢;exact zCg W cs q k a most kind o B 2 (by omega) m ((c-240)*262144) g
 have ⟨F,p⟩:=zBM (P:=λm t b=>m.Q W cs q S 3 t ((b-240)*262144)) (λ{m G t c} e f=>Mk.Q_up W cs q e 3 t ((c-240)*262144) f) T s 240 _ 5 g;unfold zC5 at F p ⊢;have ⟨H,C⟩:=zBM (P:=λm t b=>m.Q W cs q S 2 t ((b-224)*4096)) (λ{m G t c} e f=>Mk.Q_up W cs q e 2 t ((c-224)*4096) f) R s 224 _ 16 F;unfold zC6 at H C p ⊢;have ⟨I,J⟩:=zBM (P:=λm t b=>m.Q W cs q S 1 t ((b-192)*64)) (λ{m G t c} e f=>Mk.Q_up W cs q e 1 t ((c-192)*64) f) N s 194 _ 30 H;unfold zC7 at I J C p ⊢;have ⟨U,V⟩:=zBM (S:=S) (O:=O) (λe f=>f) M s 0 m 128 I;refine⟨U,λr u f X=>?_⟩;have ⟨v,Y⟩:=V r u (by omega) (λb _ d=>⟨by omega,trivial⟩) f;have ⟨w,aa⟩:=J r u (by omega) (λb _ d=>⟨by omega,trivial⟩) v.inv;have ⟨l,y3⟩:=C r u (by omega) (λb _ d=>⟨by omega,trivial⟩) w.inv;have ⟨z,ab⟩:=p r u (by omega) (λb _ d=>⟨by omega,trivial⟩) l.inv;have ad:=f.len;have ae:=v.i.len;have af:=w.i.len;have ag:=l.i.len;have A:∀b,b<240\/245<=b->_:=λb d=>z.at_ s b (by omega) (.inr (by omega));have E:∀b,b<224\/240<=b->_:=λb d=>l.at_ s b (by omega) (.inr (by omega));have L:∀b,b<194\/224<=b->_:=λb d=>w.at_ s b (by omega) (.inr (by omega));have ac:∀b,128<=b->_:=λb d=>v.at_ s b (by omega) (.inr (by omega));refine⟨((v.trans w (D:=λ_=>True) (λ_ _=>trivial) λ_ _=>trivial).trans l (λ_ _=>trivial) λ_ _=>trivial).trans z (λ_ _=>trivial) λ_ _=>trivial,⟨λb d=>?_,λb d j=>?_,λb d j=>?_,λb d j=>ab b d j,λb d j=>?_⟩⟩
 ·rw[A b (by omega),E b (by omega),L b (by omega)];exact Y b (by omega) (by omega)
 ·rw[A b (by omega),E b (by omega)];exact Mk.Q_up W cs q (l.i.trans z.i) _ _ _ (aa b d j)
 ·rw[A b (by omega)];exact Mk.Q_up W cs q z.i _ _ _ (y3 b d j)
 ·rw[A b (by omega),E b (by omega),L b (by omega),ac b d];exact X b
end
structure Wh (k:Kd)(m:Mk)(n:Nat):Prop where
 one:1<=m.next.length
 same:m.rules.length=m.next.length
 wide:∀t,t<m.next.length->(m.next.getD t []).length=256
 zero:∀t b:Nat,m.at t b=0
 rule0:m.rule 0=-1
 olen:m.of.length=n
 dead:k.dead<n->m.of.getD k.dead 0=0
 of:∀j,j<n->j≠k.dead->∃s:Nat,m.of.getD j 0=s/\1<=s/\s<m.next.length/\m.rule s=k.rules.getD j 0
 inj:∀i j,i<n->j<n->i≠k.dead->j≠k.dead->m.of.getD i 0=m.of.getD j 0->i=j
theorem zAU (k:Kd)(most n:Nat)(f:(zG k most n).full=false):Wh k (zG k most n) n:=by
 induction n with
 |zero=>
  unfold zG Mk.add at f ⊢;split at f
  ·cases f
  ·rename_i c
   rw[if_neg c];refine⟨lQ,rfl,λt m=>?_,λt b=>?_,rfl,rfl,λg=>by omega,λj l=>by omega,λi j o=>by omega⟩
   ·have:t=0:=by simp[Mk.blank] at m;omega
    subst this;exact List.length_replicate
   ·unfold Mk.at
    have:=zLh [] t b;exact this
 |succ n v=>
  unfold zG at f ⊢;by_cases g:n=k.dead
  ·rw[if_pos g] at f
   simp only[if_pos g];have w:=v f;have e:∀j,j<n->((zG k most n).of++[0]).getD j 0=(zG k most n).of.getD j 0:=λj l=>by rw[zY,w.olen,if_pos l]
   refine⟨w.one,w.same,w.wide,w.zero,w.rule0,by simp[Mk.withOf,w.olen],λ_=>?_,λj l d=>?_,λi j o l d u q=>?_⟩
   ·show((zG k most n).of++[0]).getD _ 0=0
    rw[zY,w.olen,<-g,if_neg (Nat.lt_irrefl _),if_pos rfl]
   ·have ⟨s,a⟩:=w.of j (by omega) d
    exact⟨s,(e j (by omega)).trans a.1,a.2⟩
   ·refine w.inj i j (by omega) (by omega) d u ?_
    rw[<-e i (by omega),<-e j (by omega)];exact q
  ·rw[if_neg g] at f
   simp only[if_neg g];have p:=f;have w:=v (zGr p);have c:¬most<=(zG k most n).next.length:=by
    intro c;unfold Mk.add at p;rw[if_pos c] at p;cases p
   have C:(zG k most n).addN most=(zG k most n).next.length:=by unfold Mk.addN;rw[if_neg c]
   have D:(zG k most n).add most (k.rules.getD n 0)={zG k most n with next:=(zG k most n).next++[zeros],rules:=(zG k most n).rules++[k.rules.getD n 0]}:=by unfold Mk.add;rw[if_neg c]
   rw[C,D];unfold Mk.withOf;have e:∀j,j<n->((zG k most n).of++[((zG k most n).next.length:Int)]).getD j 0=(zG k most n).of.getD j 0:=λj l=>by rw[zY,w.olen,if_pos l]
   have E:((zG k most n).of++[((zG k most n).next.length:Int)]).getD n 0=(zG k most n).next.length:=by rw[zY,w.olen,if_neg (Nat.lt_irrefl _),if_pos rfl]
   have w1:=w.one;refine⟨by simp,by simp[w.same],λt m=>?_,λt b=>?_,?_,by simp[w.olen],λd=>?_,λj l d=>?_,λi j o l d u q=>?_⟩
   ·dsimp only at m ⊢
    rw[kX,List.length_singleton] at m;rw[zY];by_cases x:t<(zG k most n).next.length
    ·rw[if_pos x];exact w.wide t x
    ·rw[if_neg x,if_pos (by omega)];exact List.length_replicate
   ·have:=zLh (zG k most n).next t b
    refine this.trans ?_;have:=w.zero t b;unfold Mk.at at this;rwa [Int.toNat_natCast] at this
   ·unfold Mk.rule
    rw[show (0:Int).toNat=0 from rfl,zY,w.same,if_pos (by omega)];exact w.rule0
   ·dsimp only
    rw[e _ (by omega)];exact w.dead (by omega)
   ·dsimp only
    by_cases x:j<n
    ·have ⟨s,z,A,B,r⟩:=w.of j x d
     refine⟨s,by rw[e j x];exact z,A,by simp;omega,?_⟩;unfold Mk.rule at r ⊢;rw[Int.toNat_natCast] at r ⊢;rw[zY,w.same,if_pos B];exact r
    ·have F:j=n:=by omega
     subst F;refine⟨_,E,w1,by simp,?_⟩;unfold Mk.rule;rw[Int.toNat_natCast,zY,w.same,if_neg (Nat.lt_irrefl _),if_pos rfl]
   ·dsimp only at q
    have G:∀i,i<n->i≠k.dead->(zG k most n).of.getD i 0≠((zG k most n).next.length:Int):=by
     intro i o d q;have ⟨s,z,A,B,r⟩:=w.of i o d;omega
    by_cases x:i<n <;> by_cases y:j<n
    ·rw[e i x,e j y] at q;exact w.inj i j x y d u q
    ·grind
    ·grind
    ·omega
structure Sem (k:Kd)(a:Ar){σ:Type}(cs:σ->Nat->σ)(K:Nat->σ->Prop)(Z:σ->Prop)(rl:σ->Int):Prop where
 step:∀i q (c:Nat),K i q->K ((k.rows.getD i []).getD (a.letter c).toNat 0) (cs q c)/\(k.rows.getD i []).getD (a.letter c).toNat 0<k.rows.length
 dead:∀q,K k.dead q->Z q
 din:k.dead<k.rows.length
 off:∀q c,Z q->Z (cs q c)
 offr:∀q,Z q->rl q=-1
 rule:∀i q,K i q->k.rules.getD i 0=rl q
 alike:∀x y c:Nat,a.alike (x:Int) (y:Int)=true->x<=c->c<=y->a.letter (c:Int)=a.letter (x:Int)
section
variable {k:Kd} {a:Ar} {σ:Type} {cs:σ->Nat->σ} {K:Nat->σ->Prop} {Z:σ->Prop} {rl:σ->Int}
def Whl (k:Kd)(K:Nat->σ->Prop)(Z:σ->Prop)(O:List Int)(t:Int)(q:σ):Prop:=(t=0/\Z q)\/∃i,i<k.rows.length/\i≠k.dead/\t=O.getD i 0/\K i q
theorem Sem.behind (d:Sem k a cs K Z rl){O:List Int}(f:O.getD k.dead 0=0){i:Nat}{q:σ}(g:K i q)(c:Nat):Whl k K Z O (O.getD ((k.rows.getD i []).getD (a.letter c).toNat 0) 0) (cs q c):=by
 have ⟨b,j⟩:=d.step i q c g;by_cases e:(k.rows.getD i []).getD (a.letter c).toNat 0=k.dead
 ·rw[e] at b ⊢
  exact .inl ⟨f,d.dead _ b⟩
 ·exact .inr ⟨_,j,e,rfl,b⟩
structure Mak (k:Kd)(cs:σ->Nat->σ)(K:Nat->σ->Prop)(Z:σ->Prop)(m w:Mk)(j:Nat):Prop where
 inv:m.Inv w.next.length w.of
 done:∀i s:Nat,i<j->i<k.rows.length->i≠k.dead->w.of.getD i 0=s->∀q,K i q->m.Four (Whl k K Z w.of) cs w.next.length s q
 todo:∀i s:Nat,j<=i->i<k.rows.length->i≠k.dead->w.of.getD i 0=s->∀b,m.at s b=0
 rule:∀t:Nat,t<w.next.length->m.rule t=w.rule t
theorem zH5 (v:Sem k a cs K Z rl)(most j:Nat)(p:j<=k.rows.length)(d:(yY k a most j).full=false):(zG k most k.rows.length).full=false/\Mak k cs K Z (yY k a most j) (zG k most k.rows.length) j:=by
 induction j with
 |zero=>
  have w:=zAU k most k.rows.length d;refine⟨d,⟨rfl,w.one,lQ,w.same,w.wide,λt l F=>?_,λt b _ _ _=>w.zero t b⟩,λi s y=>by omega,λi s _ _ _ _ b=>w.zero s b,λt _=>rfl⟩;rcases l with rfl|l
  ·exact⟨⟨by omega,w.one⟩,.inl rfl,w.rule0,λb _=>w.zero 0 b⟩
  ·exact absurd F (Nat.not_lt.2 l)
 |succ j B=>
  unfold yY at d ⊢;by_cases g:j≠k.dead/\(yY k a most j).full=false
  ·rw[if_pos g] at d ⊢
   have ⟨z,m⟩:=B (by omega) g.2;have w:=zAU k most k.rows.length z;refine⟨z,?_⟩;have ⟨s,A,C,D,I⟩:=w.of j p g.1;have e:((yY k a most j).of.getD j 0).toNat=s:=by rw[m.inv.of,A,Int.toNat_natCast]
   rw[e] at d ⊢;have r:=(zF9 (S:=(zG k most k.rows.length).next.length) (O:=(zG k most k.rows.length).of) (λ_ (_:Unit)=>True) (λq _=>q) k a most j s v.alike _ d () λ_=>trivial).2 C D m.inv (m.todo j s lQ p g.1 A);have J:=m.inv.len;refine⟨r.1.inv,λi t y o f l q E=>?_,λi t y o f l b=>?_,λt l=>?_⟩
   ·by_cases x:i=j
    ·subst x
     have:t=s:=by omega
     subst this;exact((zF9 (S:=(zG k most k.rows.length).next.length) (O:=(zG k most k.rows.length).of) (Whl k K Z (zG k most k.rows.length).of) cs k a most i t v.alike _ d q λc=>v.behind (w.dead v.din) E c).2 C D m.inv (m.todo i t lQ p f A)).2
    ·have ⟨u,v1,v2,G,H⟩:=w.of i o f
     refine(m.done i t (by omega) o f l q E).up r.1.i λb=>r.1.at_ t b (by omega) (.inl λc=>x (w.inj i j o p f g.1 (by omega)))
   ·have ⟨u,v1,v2,G,H⟩:=w.of i o f
    rw[r.1.at_ t b (by omega) (.inl λc=>by have:=w.inj i j o p f g.1 (by omega);omega)];exact m.todo i t (by omega) o f l b
   ·exact(r.1.rule t (by omega)).trans (m.rule t l)
  ·rw[if_neg g] at d ⊢
   have ⟨z,m⟩:=B (by omega) d;refine⟨z,m.inv,λi s y o f=>?_,λi s y=>m.todo i s (by omega),m.rule⟩;refine m.done i s ?_ o f;have:j=k.dead:=Decidable.not_not.1 λx=>g ⟨x,d⟩;omega
def dec:Nat×Nat->Nat->(Nat×Nat)×Option Nat
 |(0,_),b=>if b<128 then((0,0),some b) else if b<194 then((4,0),none) else if b<224 then((1,(b-192)*64),none) else if b<240 then((2,(b-224)*4096),none) else if b<245 then((3,(b-240)*262144),none) else((4,0),none)
 |(l+1,c),b=>if l<3/\128<=b/\b<192 then(if c+(b-128)*xL (l+1)<jR (xL (l+1)) then((4,0),none) else if l=0 then((0,0),some (c+(b-128)*xL (l+1))) else((l,c+(b-128)*xL (l+1)),none)) else((4,0),none)
def bstep (cs:σ->Nat->σ)(p:σ×Nat×Nat)(b:Nat):σ×Nat×Nat:=(match (dec p.2 b).2 with|some c=>cs p.1 c|none=>p.1,(dec p.2 b).1)
def Mk.Rep (m:Mk)(cs:σ->Nat->σ)(k:Kd)(K:Nat->σ->Prop)(Z:σ->Prop)(w:Mk)(p:σ×Nat×Nat)(t:Int):Prop:=
 if p.2.1=0 then Whl k K Z w.of t p.1 else if p.2.1<4 then m.Q (Whl k K Z w.of) cs p.1 w.next.length p.2.1 t p.2.2 else t=0
theorem zLi (o:Sem k a cs K Z rl){m:Mk}{S:Nat}{O:List Int}(d:m.Inv S O){q:σ}(p:Z q)(l:Nat):∀c,m.Q (Whl k K Z O) cs q S l 0 c:=by
 have e:=d.side 0 (.inl rfl) (lZ d.one d.len);have f:∀b,m.at 0 b=0:=λb=>by
  by_cases g:128<=b/\b<192
  ·exact d.mid 0 b d.one g.1 g.2
  ·exact e.off b (by omega)
 induction l with
 |zero=>exact λc=>.inl ⟨rfl,o.off q c p⟩
 |succ l r=>
  intro c;refine⟨e,λj s=>?_⟩;split
  ·exact f _
  ·rw[f];exact r _
theorem zNH (m:Sem k a cs K Z rl){most:Nat}(C:(xQ k a most).full=false){p:σ×Nat×Nat}{t:Int}(e:(xQ k a most).Rep cs k K Z (zG k most k.rows.length) p t)(b:Nat)(H:b<256):(xQ k a most).Rep cs k K Z (zG k most k.rows.length) (bstep cs p b) ((xQ k a most).at t b):=by
 have ⟨D,j⟩:=zH5 m most k.rows.length lQ C;have w:=zAU k most k.rows.length D;obtain⟨q,l,c⟩:=p;have E:=j.inv.side 0 (.inl rfl) (lZ j.inv.one j.inv.len);have v:∀b,(xQ k a most).at 0 b=0:=λb=>by
  by_cases g:128<=b/\b<192
  ·exact j.inv.mid 0 b j.inv.one g.1 g.2
  ·exact E.off b (by omega)
 unfold Mk.Rep at e;dsimp only at e;cases l with
 |zero=>
  unfold bstep dec;rcases e with⟨rfl,o⟩|⟨i,u,A,rfl,F⟩
  ·rw[v]
   unfold Mk.Rep;dsimp only;split
   ·exact .inl ⟨rfl,m.off _ _ o⟩
   ·split
    ·rfl
    ·split
     ·exact zLi m j.inv o 1 _
     ·split
      ·exact zLi m j.inv o 2 _
      ·split
       ·exact zLi m j.inv o 3 _
       ·rfl
  ·have ⟨s,B,I,J,L⟩:=w.of i u A
   have f:=j.done i s u u A B q F;rw[B];unfold Mk.Rep;dsimp only;split
   ·exact f.a b (by omega)
   ·split
    ·exact f.off b (by omega) (by omega)
    ·split
     ·exact f.b b (by omega) (by omega)
     ·split
      ·exact f.c b (by omega) (by omega)
      ·split
       ·exact f.d b (by omega) (by omega)
       ·exact f.off b (by omega) (by omega)
 |succ l=>
  rw[if_neg (by omega)] at e;unfold bstep dec;dsimp only;by_cases g:l<3
  ·rw[if_pos (by omega)] at e
   by_cases G:128<=b/\b<192
   ·rw[if_pos ⟨g,G⟩]
    have r:=e.2 (b-128) (by omega);rw[show 128+(b-128)=b by omega] at r;split at r
    ·rename_i x;rw[if_pos x];exact r
    ·rename_i x
     rw[if_neg x];by_cases y:l=0
     ·rw[if_pos y];subst y;exact r
     ·rw[if_neg y];unfold Mk.Rep;dsimp only;rw[if_neg y,if_pos (by omega)];exact r
   ·rw[if_neg (by omega)];exact e.1.off b (by omega)
  ·rw[if_neg (by omega)] at e
   rw[if_neg (by omega),e];exact v b
theorem zNI (d:Sem k a cs K Z rl){most:Nat}(g:(xQ k a most).full=false){p:σ×Nat×Nat}{t:Int}(b:(xQ k a most).Rep cs k K Z (zG k most k.rows.length) p t):(xQ k a most).rule t=if p.2.1=0 then rl p.1 else -1:=by
 have ⟨j,c⟩:=zH5 d most k.rows.length lQ g;have w:=zAU k most k.rows.length j;have f:=c.inv.side 0 (.inl rfl) (lZ c.inv.one c.inv.len);unfold Mk.Rep at b;split at b
 ·rename_i e
  rw[if_pos e];rcases b with⟨rfl,m⟩|⟨i,o,q,rfl,r⟩
  ·exact f.rule.trans (d.offr _ m).symm
  ·have ⟨s,u,A,v,x⟩:=w.of i o q
   rw[u];exact(c.rule s v).trans (x.trans (d.rule i _ r))
 ·rename_i e
  rw[if_neg e];split at b
  ·obtain⟨l,y⟩:∃l,p.2.1=l+1:=⟨p.2.1-1,by omega⟩
   rw[y] at b;exact b.1.rule
  ·rw[b];exact f.rule
end
end
structure Nt.Shf (N A n:Nt):Prop where
 sets:N.sets=A.sets++n.sets
 follow:N.follow=A.follow++n.follow.map (·<<<A.sets.length)
 same:A.follow.length=A.sets.length
def Sn.shf (s:Sn)(o:Nat):Sn:=⟨s.first<<<o,s.last<<<o,s.empty⟩
theorem zHc (n:Nt)(a b j i:Nat):(n.linkTo a b j).follow[i]? =if i<j/\a.testBit i=true then n.follow[i]?.map (·|||b) else n.follow[i]? :=by
 induction j with
 |zero=>rw[if_neg (by omega)];rfl
 |succ j c=>
  unfold Nt.linkTo;by_cases e:i=j
  ·grind
  ·grind
theorem Nt.Shf.link {f c n:Nt}(d:f.Shf c n)(a b:Nat):(f.link (a<<<c.sets.length) (b<<<c.sets.length)).Shf c (n.link a b):=by
 unfold Nt.link;refine⟨by rw[(zAA _ _ _ _).1,(zAA _ _ _ _).1];exact d.sets,?_,d.same⟩;apply List.ext_getElem?;intro i;rw[zHc,d.follow];by_cases g:i<c.sets.length
 ·have:(a<<<c.sets.length).testBit i=false:=by rw[Nat.testBit_shiftLeft];simp;omega
  rw[if_neg (by simp[this]),kW (by rw[d.same];exact g),kW (by rw[d.same];exact g)]
 ·rw[hZ (by rw[d.same];omega),hZ (by rw[d.same];omega),d.same,gZ,gZ,zHc,Nat.testBit_shiftLeft]
  have e:(i<(c.follow++n.follow.map (·<<<c.sets.length)).length/\(decide (i>=c.sets.length)&&a.testBit (i-c.sets.length))=true)↔(i-c.sets.length<n.follow.length/\a.testBit (i-c.sets.length)=true):=by
   rw[kX,kV,d.same,Bool.and_eq_true,decide_eq_true_eq];exact⟨λq=>⟨by omega,q.2.2⟩,λq=>⟨by omega,by omega,q.2⟩⟩
  by_cases k:i-c.sets.length<n.follow.length/\a.testBit (i-c.sets.length)=true
  ·grind
  ·grind
theorem Sn.shf_then (a b:Sn)(o:Nat):(a.then b).shf o=(a.shf o).then (b.shf o):=by
 unfold Sn.then Sn.shf
 cases a.empty <;> cases b.empty <;> simp[Nat.shiftLeft_or_distrib]
theorem Sn.shf_or (a b:Sn)(o:Nat):(a.or b).shf o=(a.shf o).or (b.shf o):=by
 unfold Sn.or Sn.shf;simp[Nat.shiftLeft_or_distrib]
def Shfs (sub:Lay):Prop:=∀N A n t,N.Shf A n->(sub N t).1.Shf A (sub n t).1/\(sub N t).2=(sub n t).2.shf A.sets.length
theorem zLr {c:Lay}(g:Shfs c){d e n:Nt}(k:d.Shf e n)(parts:List Tr)(j:Nat):(rowTo c d parts j).1.Shf e (rowTo c n parts j).1/\(rowTo c d parts j).2=(rowTo c n parts j).2.shf e.sets.length:=by
 induction j with
 |zero=>exact⟨k,by simp[rowTo,Sn.shf]⟩
 |succ j f=>
  have ⟨a,b⟩:=g _ _ _ (parts.getD j Tr.none) f.1;unfold rowTo;rw[f.2,b,Sn.shf_then];exact⟨a.link _ _,rfl⟩
theorem zOx {c:Lay}(g:Shfs c){d e n:Nt}(k:d.Shf e n)(parts:List Tr)(j:Nat):(qA c d parts j).1.Shf e (qA c n parts j).1/\(qA c d parts j).2=(qA c n parts j).2.shf e.sets.length:=by
 induction j with
 |zero=>exact⟨k,by simp[qA,Sn.shf]⟩
 |succ j f=>
  have ⟨a,b⟩:=g _ _ _ (parts.getD j Tr.none) f.1;unfold qA;rw[f.2,b,Sn.shf_or];exact⟨a,rfl⟩
theorem zNm {c:Lay}(k:Shfs c){d f n:Nt}(l:d.Shf f n)(t:Tr)(j:Nat):(xE c d t j).1.Shf f (xE c n t j).1/\(xE c d t j).2=(xE c n t j).2.shf f.sets.length:=by
 induction j with
 |zero=>exact⟨l,by simp[xE,Sn.shf]⟩
 |succ j g=>
  have ⟨a,b⟩:=zLr k g.1 t.parts t.parts.length;have e:zAM t j (rowTo c (xE c d t j).1 t.parts t.parts.length)=(zAM t j (rowTo c (xE c n t j).1 t.parts t.parts.length)).shf f.sets.length:=by
   unfold zAM;rw[b];split <;> rfl
  unfold xE;rw[g.2,e,Sn.shf_then];refine⟨Nt.Shf.link ?_ _ _,rfl⟩;unfold zAz;rw[b];split
  ·exact a.link _ _
  ·exact a
theorem zN6 (b:Nat):Shfs (xA b):=by
 induction b with
 |zero=>exact λe f n t a=>⟨a,by simp[xA,Sn.shf]⟩
 |succ b c=>
  intro e f n t a;unfold xA;split
  ·refine⟨⟨by simp[Nt.place,a.sets],by simp[Nt.place,a.follow],a.same⟩,?_⟩
   unfold Nt.spot Sn.shf;rw[a.sets,kX,Nat.pow_add,Nat.shiftLeft_eq,Nat.mul_comm]
  ·split
   ·exact zLr c a _ _
   ·split
    ·exact zOx c a _ _
    ·split
     ·exact zNm c a _ _
     ·exact⟨a,by simp[Sn.shf]⟩
theorem zHa (a b i:Nat)(c:a<=b):(2^b-2^a).testBit i=decide (a<=i/\i<b):=by
 have p:0<2^a:=Nat.pow_pos (by omega);have q:2^a<=2^b:=kG (by omega) c;rw[show 2^b-2^a=2^b-((2^a-1)+1) by omega,Nat.testBit_two_pow_sub_succ (by omega),Nat.testBit_two_pow_sub_one];by_cases x:i<b <;> by_cases y:i<a <;> simp[x,y] <;> omega
def pt (d:Nat)(ts:List Tr)(k:Nat):Nt×Sn:=xA d Nt.blank (ts.getD k Tr.none)
theorem zJu (c:Nat)(e:List Tr)(j:Nat)(f:(zC c e j).Good):
  (zC c e (j+1)).sets=(zC c e j).sets++(pt c e j).1.sets/\(zC c e (j+1)).follow=(zC c e j).follow++(pt c e j).1.follow.map (·<<<(zC c e j).sets.length)/\(zC c e (j+1)).first=(zC c e j).first|||(pt c e j).2.first<<<(zC c e j).sets.length/\(zC c e (j+1)).ends=(zC c e j).ends|||(pt c e j).2.last<<<(zC c e j).sets.length/\(zC c e (j+1)).rules=(zC c e j).rules++[2^(zC c e (j+1)).sets.length-2^(zC c e j).sets.length]:=by
 have ⟨a,b⟩:=zN6 c (zC c e j) (zC c e j) Nt.blank (e.getD j Tr.none) ⟨by simp[Nt.blank],by simp[Nt.blank],f.same⟩;have s:=zBJ c (zC c e j) (e.getD j Tr.none);refine⟨a.sets,a.follow,?_,?_,?_⟩
 ·show(xA c (zC c e j) (e.getD j Tr.none)).1.first|||(xA c (zC c e j) (e.getD j Tr.none)).2.first=_
  rw[s.1,b];rfl
 ·show(xA c (zC c e j) (e.getD j Tr.none)).1.ends|||(xA c (zC c e j) (e.getD j Tr.none)).2.last=_
  rw[s.2.1,b];rfl
 ·show(xA c (zC c e j) (e.getD j Tr.none)).1.rules++[2^(xA c (zC c e j) (e.getD j Tr.none)).1.sets.length-2^(zC c e j).sets.length]=_
  rw[s.2.2.1];rfl
theorem vZ (f:Tr->Nat)(l:List Tr)(i j:Nat)(b:i<=j):zS f l i<=zS f l j:=by
 induction j with
 |zero=>grind
 |succ j a=>
  by_cases e:i=j+1
  ·grind
  ·exact lY (a (by omega)) (Nat.le_add_right _ _)
structure Cmb (d:Nat)(ts:List Tr)(j:Nat):Prop where
 sets:∀k p,k<j->p<(pt d ts k).1.sets.length->(zC d ts j).sets.getD ((zC d ts k).sets.length+p) ⟨[],false⟩=(pt d ts k).1.sets.getD p ⟨[],false⟩
 follow:∀k p,k<j->p<(pt d ts k).1.sets.length->(zC d ts j).follow.getD ((zC d ts k).sets.length+p) 0=(pt d ts k).1.follow.getD p 0<<<(zC d ts k).sets.length
 first:∀k p,k<j->p<(pt d ts k).1.sets.length->(zC d ts j).first.testBit ((zC d ts k).sets.length+p)=(pt d ts k).2.first.testBit p
 ends:∀k p,k<j->p<(pt d ts k).1.sets.length->(zC d ts j).ends.testBit ((zC d ts k).sets.length+p)=(pt d ts k).2.last.testBit p
 rules:∀k,k<j->(zC d ts j).rules.getD k 0=2^(zC d ts (k+1)).sets.length-2^(zC d ts k).sets.length
 seg:∀i,i<(zC d ts j).sets.length->∃k p,k<j/\p<(pt d ts k).1.sets.length/\i=(zC d ts k).sets.length+p
theorem zDI (a:Nat)(b:List Tr)(j:Nat)(c:zS (xW a) b j<=24):(zC a b (j+1)).sets.length=(zC a b j).sets.length+(pt a b j).1.sets.length:=by
 rw[(zJu a b j (qY a b j c).1).1,kX]
theorem zH9 (a:Nat)(b:List Tr)(k j:Nat)(c:zS (xW a) b j<=24)(e:k<j):(zC a b (k+1)).sets.length<=(zC a b j).sets.length:=by
 rw[(qY a b j c).2,(qY a b (k+1) (lY (vZ _ _ _ _ e) c)).2];exact vZ _ _ _ _ e
theorem zO2 (f:Nat)(g:List Tr)(k:Nat)(l:zS (xW f) g (k+1)<=24):(pt f g k).1.Good/\(pt f g k).2.Small (pt f g k).1.sets.length:=by
 have c:zS (xW f) g (k+1)=zS (xW f) g k+xW f (g.getD k Tr.none):=rfl;have ⟨a,b,e⟩:=jW f Nt.blank (g.getD k Tr.none) ⟨by simp[Nt.blank],rfl,λx j=>by cases j⟩ (by show 0+_<=24;omega);refine⟨a,?_⟩;rw[show (pt f g k).1.sets.length=0+xW f (g.getD k Tr.none) from b];exact e
theorem cmb (a:Nat)(b:List Tr)(j:Nat)(r:zS (xW a) b j<=24):Cmb a b j:=by
 induction j with
 |zero=>exact⟨λk p f=>by omega,λk p f=>by omega,λk p f=>by omega,λk p f=>by omega,λk f=>by omega,λi o=>by cases o⟩
 |succ j t=>
  have m:zS (xW a) b j<=24:=lY (vZ _ _ _ _ (by omega)) r;have c:=t m;have g:=(qY a b j m).1;have q:=vV a b j m;have ⟨s1,s2,u,v,w⟩:=zJu a b j g;have up:∀k p,k<j->p<(pt a b k).1.sets.length->(zC a b k).sets.length+p<(zC a b j).sets.length:=by
   intro k p f l;have:=zH9 a b k j m f;rw[zDI a b k (lY (vZ _ _ _ _ (by omega)) r)] at this;omega
  have s:∀(x y:Nat) k p,x<2^(zC a b j).sets.length->k<j+1->p<(pt a b k).1.sets.length->(x|||y<<<(zC a b j).sets.length).testBit ((zC a b k).sets.length+p)=if k=j then y.testBit p else x.testBit ((zC a b k).sets.length+p):=by
   intro x y k p A f l;rw[Nat.testBit_or,Nat.testBit_shiftLeft];by_cases e:k=j
   ·subst e
    rw[if_pos rfl,Nat.testBit_lt_two_pow (lZ A (kG (by omega) (Nat.le_add_right _ _)))];simp
   ·grind
  refine⟨λk p f l=>?_,λk p f l=>?_,λk p f l=>?_,λk p f l=>?_,λk f=>?_,λi o=>?_⟩
  ·rw[s1]
   by_cases e:k=j
   ·simp_all
   ·rw[<-c.sets k p (by omega) l,lW,kW (up k p (by omega) l),lW]
  ·rw[s2]
   by_cases e:k=j
   ·subst e
    rw[lW,hZ (by rw[g.same];omega),g.same,hY,gZ,lW];cases (pt a b k).1.follow[p]? <;> simp
   ·rw[<-c.follow k p (by omega) l,lW,kW (by rw[g.same];exact up k p (by omega) l),lW]
  ·rw[u,s _ _ k p q.first f l]
   by_cases e:k=j
   ·rw[if_pos e,e]
   ·rw[if_neg e];exact c.first k p (by omega) l
  ·rw[v,s _ _ k p q.ends f l]
   by_cases e:k=j
   ·rw[if_pos e,e]
   ·rw[if_neg e];exact c.ends k p (by omega) l
  ·rw[w,zY,q.rlen]
   by_cases e:k=j
   ·grind
   ·rw[if_pos (by omega)];exact c.rules k (by omega)
  ·rw[s1,kX] at o
   by_cases e:i<(zC a b j).sets.length
   ·have ⟨k,p,x,y,B⟩:=c.seg i e
    exact⟨k,p,by omega,y,B⟩
   ·exact⟨j,i-(zC a b j).sets.length,by omega,by omega,by omega⟩
theorem zLq {l:Nat}{m:List Tr}{j:Nat}(q:zS (xW l) m j<=24){k f p o:Nat}(r:k<j)(s:f<j)(t:p<(pt l m k).1.sets.length)(u:o<(pt l m f).1.sets.length)(e:(zC l m k).sets.length+p=(zC l m f).sets.length+o):k=f/\p=o:=by
 have v:∀k f p o,k<f->f<j->p<(pt l m k).1.sets.length->(zC l m k).sets.length+p≠(zC l m f).sets.length+o:=by
  intro k f p o a b c;have:=zH9 l m k f (lY (vZ _ _ _ _ (by omega)) q) a;rw[zDI l m k (lY (vZ _ _ _ _ (by omega)) q)] at this;omega
 rcases Nat.lt_trichotomy k f with g|g|g
 ·grind
 ·grind
 ·grind
theorem zDx {c:Nat}{f:List Tr}{j:Nat}(m:zS (xW c) f j<=24){k g p:Nat}(r:k<j)(l:g<j)(s:p<(pt c f k).1.sets.length):((zC c f j).rules.getD g 0).testBit ((zC c f k).sets.length+p)=decide (k=g):=by
 have o:∀x,x<j->(zC c f (x+1)).sets.length=(zC c f x).sets.length+(pt c f x).1.sets.length:=λx t=>zDI c f x (lY (vZ _ _ _ _ (by omega)) m);rw[(cmb c f j m).rules g l,zHa _ _ _ (by rw[o g l];omega),o g l,decide_eq_decide]
 constructor
 ·rintro⟨a,b⟩
  obtain⟨q,e⟩:∃q,(zC c f k).sets.length+p=(zC c f g).sets.length+q:=⟨(zC c f k).sets.length+p-(zC c f g).sets.length,by omega⟩
  exact(zLq m r l s (by omega) e).1
 ·rintro rfl;omega
theorem zDh {e:Nat}{f:List Tr}{j:Nat}(g:zS (xW e) f j<=24){k p i:Nat}(o:k<j)(l:p<(pt e f k).1.sets.length):((zC e f j).follow.getD ((zC e f k).sets.length+p) 0).testBit i=true↔∃x,x<(pt e f k).1.sets.length/\i=(zC e f k).sets.length+x/\((pt e f k).1.follow.getD p 0).testBit x=true:=by
 have m:=(zO2 e f k (lY (vZ _ _ _ _ (by omega)) g)).1;rw[(cmb e f j g).follow k p o l,Nat.testBit_shiftLeft,Bool.and_eq_true,decide_eq_true_eq]
 constructor
 ·rintro⟨a,b⟩
  refine⟨i-(zC e f k).sets.length,?_,by omega,b⟩;rcases Nat.lt_or_ge (i-(zC e f k).sets.length) (pt e f k).1.sets.length with c|c
  ·exact c
  ·have:=m.fol ((pt e f k).1.follow.getD p 0) (by rw[lW,lV (by rw[m.same];exact l)];exact List.getElem_mem _)
   rw[Nat.testBit_lt_two_pow (lZ this (kG (by omega) c))] at b;cases b
 ·grind
theorem zN5 (f:Nat)(b:List Tr)(j:zS (xW f) b b.length<=24):(zC f b b.length).Kept:=by
 intro p q o r u;have g:=qY f b b.length j;have v:p<(zC f b b.length).sets.length:=by
  rcases Nat.lt_or_ge p (zC f b b.length).sets.length with c|c
  ·exact c
  ·rw[lW,List.getElem?_eq_none (by rw[g.1.same];exact c)] at o;simp at o
 obtain⟨k,x,s,t,rfl⟩:=(cmb f b _ j).seg p v;obtain⟨y,w,rfl,_⟩:=(zDh j s t).1 o;obtain⟨i,m,rfl⟩:=List.getElem_of_mem u;rw[(vV f b _ j).rlen] at m;have e:=lW (l:=(zC f b b.length).rules) (i:=i) (a:=0);rw[lV (by rw[(vV f b _ j).rlen];exact m),Option.getD_some] at e;rw[<-e,zDx j s m t,zDx j s m w]
section
def Nt.cs (n:Nt)(q:Nat×Int)(c:Nat):Nat×Int:=n.on (q.1&&&yF n.sets c)
theorem zBE (sets:List Cs)(c:Int)(i:Nat):(yF sets c).testBit i=(decide (i<sets.length)&&(sets.getD i ⟨[],false⟩).has c):=jB _ _ _
theorem zCF (d:Nat)(ts:List Tr)(k:Nat):(zC d [ts.getD k Tr.none] 1).sets=(pt d ts k).1.sets/\(zC d [ts.getD k Tr.none] 1).follow=(pt d ts k).1.follow/\(zC d [ts.getD k Tr.none] 1).first=(pt d ts k).2.first/\(zC d [ts.getD k Tr.none] 1).ends=(pt d ts k).2.last/\(zC d [ts.getD k Tr.none] 1).rules=[2^(pt d ts k).1.sets.length-2^0]:=by
 have s:=zBJ d Nt.blank (ts.getD k Tr.none);refine⟨rfl,rfl,?_,?_,?_⟩
 ·show(pt d ts k).1.first|||(pt d ts k).2.first=_
  rw[show (pt d ts k).1.first=0 from s.1,Nat.zero_or]
 ·show(pt d ts k).1.ends|||(pt d ts k).2.last=_
  rw[show (pt d ts k).1.ends=0 from s.2.1,Nat.zero_or]
 ·show(pt d ts k).1.rules++_=_
  rw[show (pt d ts k).1.rules=[] from s.2.2.1];rfl
structure Sim (d:Nat)(ts:List Tr)(q:Nat×Int)(qs:Nat->Nat×Int):Prop where
 bits:∀k p,k<ts.length->p<(pt d ts k).1.sets.length->q.1.testBit ((zC d ts k).sets.length+p)=(qs k).1.testBit p
 two:∀k,k<ts.length->(qs k).2=-1\/(qs k).2=0
 no:q.2=-1->∀k,k<ts.length->(qs k).2=-1
 yes:q.2≠-1->∃r:Nat,q.2=r/\r<ts.length/\(qs r).2=0/\∀k,k<r->(qs k).2=-1
theorem zFA (rules:List Nat)(x:Nat):(xI rules x=-1->∀k,k<rules.length->¬∃p,x.testBit p=true/\(rules.getD k 0).testBit p=true)/\(xI rules x≠-1->∃r:Nat,xI rules x=r/\r<rules.length/\(∃p,x.testBit p=true/\(rules.getD r 0).testBit p=true)/\∀k,k<r->¬∃p,x.testBit p=true/\(rules.getD k 0).testBit p=true):=by
 have low:∀k,k<rules.findIdx (λr=>x&&&r != 0)->¬∃p,x.testBit p=true/\(rules.getD k 0).testBit p=true:=by
  intro k b;have c:=lZ b List.findIdx_le_length;have:=List.not_of_lt_findIdx b;rw[<-Bool.not_eq_true,meets] at this;rw[lW,lV c];exact this
 unfold xI;by_cases a:rules.findIdx (λr=>x&&&r != 0)<rules.length
 ·rw[if_pos a]
  refine⟨λe=>by omega,λ_=>⟨_,rfl,a,?_,low⟩⟩;have:=List.findIdx_getElem (p:=λr=>x&&&r != 0) (w:=a);rw[meets] at this;rw[lW,lV a];exact this
 ·grind
section
variable {d:Nat} {ts:List Tr}
def Bits (d:Nat)(ts:List Tr)(x:Nat)(xs:Nat->Nat):Prop:=(∀k p,k<ts.length->p<(pt d ts k).1.sets.length->x.testBit ((zC d ts k).sets.length+p)=(xs k).testBit p)/\(∀i,x.testBit i=true->i<(zC d ts ts.length).sets.length)/\∀k i,(xs k).testBit i=true->i<(pt d ts k).1.sets.length
theorem zPi (b:zS (xW d) ts ts.length<=24)(k:Nat)(a:k<ts.length):(zC d [ts.getD k Tr.none] 1).Ok:=by
 refine zIa d [ts.getD k Tr.none] ?_ (by simp);show 0+xW d (ts.getD k Tr.none)<=24;have:zS (xW d) ts (k+1)=zS (xW d) ts k+xW d (ts.getD k Tr.none):=rfl;have:=vZ (xW d) ts (k+1) ts.length a;omega
theorem zPE (j:zS (xW d) ts ts.length<=24){x:Nat}{xs:Nat->Nat}(m:Bits d ts x xs)(D:ts.length<=8):Sim d ts ((zC d ts ts.length).on x) λk=>(zC d [ts.getD k Tr.none] 1).on (xs k):=by
 have ok:=zIa d ts j D;have c:=cmb d ts _ j;have E:=vV d ts _ j;have one:∀k,k<ts.length->((∃p,(xs k&&&(zC d [ts.getD k Tr.none] 1).ends).testBit p=true)->((zC d [ts.getD k Tr.none] 1).on (xs k)).2=0)/\((¬∃p,(xs k&&&(zC d [ts.getD k Tr.none] 1).ends).testBit p=true)->((zC d [ts.getD k Tr.none] 1).on (xs k)).2=-1):=by
  intro k f;have ⟨z,A,F,t,B⟩:=zCF d ts k;have sp:=zFA (zC d [ts.getD k Tr.none] 1).rules (xs k&&&(zC d [ts.getD k Tr.none] 1).ends);rw[B] at sp;unfold Nt.on;refine⟨λ⟨p,l⟩=>?_,λJ=>?_⟩
  ·by_cases g:xI [2^(pt d ts k).1.sets.length-2^0] (xs k&&&(zC d [ts.getD k Tr.none] 1).ends)=-1
   ·refine absurd ⟨p,l,?_⟩ (sp.1 g 0 (by simp))
    show(2^(pt d ts k).1.sets.length-2^0).testBit p=true;rw[zHa _ _ _ lX,decide_eq_true_eq];rw[Nat.testBit_and,Bool.and_eq_true] at l;exact⟨lX,m.2.2 k p l.1⟩
   ·grind
  ·grind
 have u:∀k,k<ts.length->((∃p,(x&&&(zC d ts ts.length).ends).testBit p=true/\((zC d ts ts.length).rules.getD k 0).testBit p=true)↔∃p,(xs k&&&(zC d [ts.getD k Tr.none] 1).ends).testBit p=true):=by
  intro k f;have t:=(zCF d ts k).2.2.2.1
  constructor
  ·rintro⟨i,o,C⟩
   rw[Nat.testBit_and,Bool.and_eq_true] at o;obtain⟨v,p,a,b,rfl⟩:=c.seg i (m.2.1 i o.1);rw[zDx j a f b,decide_eq_true_eq] at C;subst C;refine⟨p,?_⟩;rw[Nat.testBit_and,Bool.and_eq_true,t,<-m.1 v p a b,<-c.ends v p a b];exact o
  ·rintro⟨p,l⟩
   rw[Nat.testBit_and,Bool.and_eq_true,t] at l;have b:=m.2.2 k p l.1;refine⟨(zC d ts k).sets.length+p,?_,by rw[zDx j f f b];simp⟩;rw[Nat.testBit_and,Bool.and_eq_true,m.1 k p f b,c.ends k p f b];exact l
 have sp:=zFA (zC d ts ts.length).rules (x&&&(zC d ts ts.length).ends);rw[E.rlen] at sp;refine⟨λk p f l=>?_,λk f=>?_,λg k f=>(one k f).2 λq=>sp.1 g k f ((u k f).2 q),λg=>?_⟩
 ·rw[Bool.eq_iff_iff]
  unfold Nt.on;rw[Nt.ahead_test ok,Nt.ahead_test (zPi j k f)];have ⟨z,A,F,t,B⟩:=zCF d ts k;rw[z,A]
  constructor
  ·rintro⟨i,o,w,G⟩
   obtain⟨v,s,a,b,rfl⟩:=c.seg i o;have ⟨y,H,e,g⟩:=(zDh j a b).1 G;obtain⟨rfl,rfl⟩:=zLq j f a l H e;exact⟨s,b,(m.1 k s a b).symm.trans w,g⟩
  ·rintro⟨s,b,w,g⟩
   refine⟨(zC d ts k).sets.length+s,?_,(m.1 k s f b).trans w,(zDh j f b).2 ⟨p,l,rfl,g⟩⟩;have:=zH9 d ts k ts.length j f;rw[zDI d ts k (lY (vZ _ _ _ _ (by omega)) j)] at this;omega
 ·grind
 ·have ⟨r,I,q2,q3,q4⟩:=sp.2 g
  exact⟨r,I,q2,(one r q2).1 ((u r q2).1 q3),λk f=>(one k (by omega)).2 λq=>q4 k f ((u k (by omega)).2 q)⟩
theorem Sim.step (b:zS (xW d) ts ts.length<=24){q:Nat×Int}{g:Nat->Nat×Int}(j:Sim d ts q g)(l:ts.length<=8)(c:Nat):Sim d ts ((zC d ts ts.length).cs q c) λk=>(zC d [ts.getD k Tr.none] 1).cs (g k) c:=by
 have m:=cmb d ts _ b;refine zPE b ⟨λk p e f=>?_,λi a=>?_,λk i a=>?_⟩ l
 ·have:=zH9 d ts k ts.length b e
  rw[zDI d ts k (lY (vZ _ _ _ _ (by omega)) b)] at this;rw[Nat.testBit_and,Nat.testBit_and,j.bits k p e f,zBE,zBE,(zCF d ts k).1,m.sets k p e f,dQ f,dQ (by omega:(zC d ts k).sets.length+p<_)]
 ·rw[Nat.testBit_and,zBE,Bool.and_eq_true,Bool.and_eq_true,decide_eq_true_eq] at a
  exact a.2.1
 ·rw[Nat.testBit_and,zBE,Bool.and_eq_true,Bool.and_eq_true,decide_eq_true_eq,(zCF d ts k).1] at a
  exact a.2.1
theorem zMg (a:zS (xW d) ts ts.length<=24):Sim d ts ((zC d ts ts.length).first,-1) λk=>((zC d [ts.getD k Tr.none] 1).first,-1):=
 ⟨λk p b c=>by rw[(zCF d ts k).2.2.1];exact(cmb d ts _ a).first k p b c,λ_ _=>.inl rfl,λ_ _ _=>rfl,λe=>absurd rfl e⟩
end
end
theorem Nt.sem {n:Nt}{most:Nat}{k:Kd}(e:n.sort most=some k)(ok:n.Ok)(f:n.Kept):∃(m:Nat->Nat×Int->Prop) (Z:Nat×Int->Prop),Sem k n.areas n.cs m Z (λq=>q.2)/\m k.start (n.first,-1):=by
 have ⟨o,b⟩:=n.sort_spec e n.zero_letter;refine⟨n.Is k o,n.Off,⟨λi q c a=>?_,λq a=>b.off ok f a,lZ b.dead.1 b.len,λq c a=>?_,λq a=>a.1,λi q a=>a.1,λx y c e g d=>n.alike_at x y (by omega) e c (by omega) (by omega)⟩,b.start⟩
 ·have ⟨l,g,d,j⟩:=n.letter_at c (by omega)
  rw[g,Int.toNat_natCast];have s:=b.step ok f a l d;rw[j] at s;exact⟨s,lZ (a.2 l d).1 b.len⟩
 ·have ⟨l,g,d,j⟩:=n.letter_at c (by omega)
  have s:=a.step ok f l d;rw[j] at s;exact s
def Sm.at (m:Sm)(t:Int)(b:Nat):Int:=(m.next.getD t.toNat []).getD b 0
def Sm.rl (m:Sm)(bs:List Nat):Int:=m.rules.getD (bs.foldl m.at m.start).toNat 0
def Nt.after (n:Nt)(bs:List Nat):(Nat×Int)×Nat×Nat:=bs.foldl (bstep n.cs) ((n.first,-1),0,0)
def Nt.rl (n:Nt)(bs:List Nat):Int:=if(n.after bs).2.1=0 then(n.after bs).1.2 else -1
theorem zLB {D:Nat}{a:List Tr}{most:Nat}{m:Sm}(c:zBf D a most=some m)(f:ModeFacts D a)(bs:List Nat)(g:∀b∈bs,b<256):m.rl bs=(zC D a a.length).rl bs:=by
 unfold zBf at c;split at c
 ·cases c
 ·rename_i k o
  split at c
  ·cases c
  ·rename_i d
   have d:=Bool.eq_false_iff.2 d;injection c with c;have ⟨j,Z,sem,l⟩:=Nt.sem o f.ok (zN5 D a f.cnt);have ⟨q,s⟩:=zH5 sem most k.rows.length lQ d;have w:=zAU k most k.rows.length q;have u:=(zHM o f.ok f.fit).1;have v:(xQ k (zC D a a.length).areas most).Rep (zC D a a.length).cs k j Z (zG k most k.rows.length) (((zC D a a.length).first,-1),0,0) ((xQ k (zC D a a.length).areas most).of.getD k.start 0):=by
    rw[show (xQ k (zC D a a.length).areas most).of=(zG k most k.rows.length).of from s.inv.of];unfold Mk.Rep;by_cases e:k.start=k.dead
    ·rw[e] at l ⊢
     exact .inl ⟨w.dead sem.din,sem.dead _ l⟩
    ·exact .inr ⟨_,u.start,e,rfl,l⟩
   have go:∀(bs:List Nat) p t,(∀b∈bs,b<256)->(xQ k (zC D a a.length).areas most).Rep (zC D a a.length).cs k j Z (zG k most k.rows.length) p t->(xQ k (zC D a a.length).areas most).Rep (zC D a a.length).cs k j Z (zG k most k.rows.length) (bs.foldl (bstep (zC D a a.length).cs) p) (bs.foldl (xQ k (zC D a a.length).areas most).at t):=by
    intro bs;induction bs with
    |nil=>grind
    |cons b bs y=>exact λp t g c=>y _ _ (λx z=>g x (List.mem_cons_of_mem _ z)) (zNH sem d c b (g b gQ))
   have r:=zNI sem d (go bs _ _ g v);rw[<-c];exact r
structure Among (n:Nat)(e:Int)(es:Nat->Int):Prop where
 two:∀k,k<n->es k=-1\/es k=0
 no:e=-1->∀k,k<n->es k=-1
 yes:e≠-1->∃r:Nat,e=r/\r<n/\es r=0/\∀k,k<r->es k=-1
theorem zNF {D:Nat}{a:List Tr}(t:zS (xW D) a a.length<=24)(v:a.length<=8)(bs:List Nat):Among a.length ((zC D a a.length).rl bs) λk=>(zC D [a.getD k Tr.none] 1).rl bs:=by
 have go:∀(bs:List Nat) q m f,Sim D a q m->∃g j l,bs.foldl (bstep (zC D a a.length).cs) (q,f)=(g,l)/\(∀k,bs.foldl (bstep (zC D [a.getD k Tr.none] 1).cs) (m k,f)=(j k,l))/\Sim D a g j:=by
  intro bs;induction bs with
  |nil=>grind
  |cons b bs u=>
   intro q m f s;rcases e:(dec f b).2 with _|c
   ·have ⟨g,j,l,o,p,r⟩:=u q m (dec f b).1 s
    refine⟨g,j,l,?_,λk=>?_,r⟩
    ·rw[List.foldl_cons,<-o];unfold bstep;rw[e]
    ·rw[List.foldl_cons,<-p k];unfold bstep;rw[e]
   ·have ⟨g,j,l,o,p,r⟩:=u _ _ (dec f b).1 (s.step t v c)
    refine⟨g,j,l,?_,λk=>?_,r⟩
    ·rw[List.foldl_cons,<-o];unfold bstep;rw[e]
    ·rw[List.foldl_cons,<-p k];unfold bstep;rw[e]
 have ⟨q,m,f,o,p,s⟩:=go bs _ _ (0,0) (zMg t);unfold Nt.rl Nt.after;rw[o];simp only[p];by_cases c:f.1=0
 ·simp only[c,if_true]
  exact⟨s.two,s.no,s.yes⟩
 ·simp only[c,if_false]
  exact⟨λ_ _=>.inl rfl,λ_ _ _=>rfl,λx=>absurd rfl x⟩
theorem zHh:∀a n t,TrOk a t->xA (a+1) n t=xA a n t
 |0,_,_,c=>False.elim c
 |a+1,n,t,c=>by
  have e:∀j n,xA (a+1) n (t.parts.getD j Tr.none)=xA a n (t.parts.getD j Tr.none)\/t.parts.length<=j:=λj n=>by
   rcases Nat.lt_or_ge j t.parts.length with g|g
   ·exact .inl (zHh a n _ (c.2.1 _ (zDX g)))
   ·exact .inr g
  have row:∀n j,j<=t.parts.length->rowTo (xA (a+1)) n t.parts j=rowTo (xA a) n t.parts j:=λn j f=>by
   induction j with
   |zero=>rfl
   |succ j b=>
    rw[rowTo,rowTo,b (by omega),(e j _).resolve_right (by omega)]
  have k:∀n j,j<=t.parts.length->qA (xA (a+1)) n t.parts j=qA (xA a) n t.parts j:=λn j f=>by
   induction j with
   |zero=>rfl
   |succ j b=>
    rw[qA,qA,b (by omega),(e j _).resolve_right (by omega)]
  have l:∀n j,xE (xA (a+1)) n t j=xE (xA a) n t j:=λn j=>by
   induction j with
   |zero=>rfl
   |succ j b=>rw[xE,xE,b,row _ _ lQ]
  rw[xA,xA,row _ _ lQ,k _ _ lQ,l]
theorem zMK {a e:Nat}{t:Tr}(b:TrOk a t)(c:a<=e)(n:Nt):xA e n t=xA a n t:=by
 obtain⟨k,rfl⟩:=Nat.le.dest c;induction k with
 |zero=>rfl
 |succ k f=>exact(zHh (a+k) n t (b.deep (by omega))).trans (f (by omega))
theorem zN7 {a e:Nat}{t:Tr}(c:TrOk a t)(f:TrOk e t):zC a [t] 1=zC e [t] 1:=by
 have:∀{a e:Nat},TrOk a t->a<=e->zC e [t] 1=zC a [t] 1:=λ{a e} c b=>by
  show zIZ 0 (xA e Nt.blank t)=zIZ 0 (xA a Nt.blank t);rw[zMK c b]
 rcases Nat.le_total a e with b|b
 ·grind
 ·exact this f b
section
variable {t:Tb} {xs:List Nat} {r q:Rs}
def Tb.go (t:Tb)(q c:Nat):Nat:=t.next q (t.kind c)
def Tb.best (t:Tb):Nat->List Nat->Option (Nat×Nat)
 |_,[]=>none
 |q,c::cs=>match t.best (t.go q c) cs with
  |some (n,e)=>some (n+1,e)
  |none=>if t.ends (t.go q c)=-1 then none else some (1,t.go q c)
def sh (k:Nat)(o:Option (Nat×Nat)):Option (Nat×Nat):=o.map λp=>(p.1+k,p.2)
theorem zNz (a b:Nat)(o:Option (Nat×Nat)):sh a (sh b o)=sh (b+a) o:=by
 cases o with
 |none=>rfl
 |some p=>simp only[sh,Option.map_some,Nat.add_assoc]
theorem zHN (o:Option (Nat×Nat)):sh 0 o=o:=by cases o <;> rfl
theorem zAS (t:Tb)(q c:Nat)(cs:List Nat):t.best q (c::cs)=match t.best (t.go q c) cs with|some (n,e)=>some (n+1,e)|none=>if t.ends (t.go q c)=-1 then none else some (1,t.go q c):=rfl
theorem zBS (t:Tb)(q c:Nat)(cs:List Nat)(a:t.ends (t.go q c)=-1\/t.best (t.go q c) cs≠none):t.best q (c::cs)=sh 1 (t.best (t.go q c) cs):=by
 rw[zAS];cases b:t.best (t.go q c) cs with
 |some p=>rfl
 |none=>
  rcases a with a|a
  ·rw[a];rfl
  ·exact absurd b a
theorem zJQ (t:Tb)(q c:Nat)(cs:List Nat)(a:t.ends (t.go q c)≠-1)(b:t.best (t.go q c) cs=none):t.best q (c::cs)=some (1,t.go q c):=by
 rw[zAS,b];exact if_neg a
theorem zCp (t:Tb)(q:Nat)(cs:List Nat)(n e:Nat)(a:t.best q cs=some (n,e)):1<=n/\n<=cs.length/\t.ends e≠-1:=by
 induction cs generalizing q n with
 |nil=>cases a
 |cons c cs b=>
  rw[zAS] at a;cases d:t.best (t.go q c) cs with
  |some p=>grind
  |none=>grind
def Rs.top (t:Tb)(r:Rs):Nat:=t.start (r.stack (r.depth-1))
def Tb.spec (t:Tb)(xs:List Nat):Nat->Rs->List Ev
 |0,_=>[]
 |n+1,r=>if r.bAt=xs.length then[r.lastEv 2] else match t.best (r.top t) (xs.drop r.bAt) with
  |none=>[r.lastEv 3]
  |some (k,e)=>(r.tok t (t.ends e).toNat (r.bAt+k) (lnT xs (r.bAt+k)) (clT xs (r.bAt+k))).2++if(r.tok t (t.ends e).toNat (r.bAt+k) (lnT xs (r.bAt+k)) (clT xs (r.bAt+k))).1.opn then t.spec xs n (r.tok t (t.ends e).toNat (r.bAt+k) (lnT xs (r.bAt+k)) (clT xs (r.bAt+k))).1 else[]
structure Rs.Like (r q:Rs):Prop where
 opn:r.opn=q.opn
 stack:r.stack=q.stack
 depth:r.depth=q.depth
 bAt:r.bAt=q.bAt
 bLine:r.bLine=q.bLine
 bCol:r.bCol=q.bCol
theorem Rs.Like.last (a:r.Like q)(k:Int):r.lastEv k=q.lastEv k:=by
 unfold Rs.lastEv;rw[a.bAt,a.bLine,a.bCol]
theorem Rs.Like.tok (b:r.Like q)(t:Tb)(rule a l c:Nat):(r.tok t rule a l c).1.Like (q.tok t rule a l c).1/\(r.tok t rule a l c).2=(q.tok t rule a l c).2:=by
 obtain⟨k,d,e,f,g,j⟩:=b;unfold Rs.tok Rs.moved Rs.lastEv;rw[d,e,f,g,j]
 repeat' split
 all_goals refine⟨⟨?_,?_,?_,?_,?_,?_⟩,rfl⟩ <;> first|rfl|assumption
theorem Rs.Like.spec (n:Nat):∀{r q:Rs},r.Like q->t.spec xs n r=t.spec xs n q:=by
 induction n with
 |zero=>intro r q _;rfl
 |succ n b=>
  intro r q a;have c:r.top t=q.top t:=by unfold Rs.top;rw[a.stack,a.depth]
  rw[Tb.spec,Tb.spec,a.bAt,a.last,a.last,c];split
  ·rfl
  ·split
   ·rfl
   ·rename_i k e _
    have:=a.tok t (t.ends e).toNat (q.bAt+k) (lnT xs (q.bAt+k)) (clT xs (q.bAt+k))
    rw[this.2,this.1.opn,b this.1]
theorem Rs.tok_at (r:Rs)(t:Tb)(rule a l c:Nat)(b:(r.tok t rule a l c).1.opn=true):(r.tok t rule a l c).1.bAt=a/\(r.tok t rule a l c).1.state=(r.tok t rule a l c).1.top t:=by
 unfold Rs.tok at b ⊢;split at b
 ·cases b
 ·split at b
  ·cases b
  ·rename_i d e
   rw[if_neg d,if_neg e];exact⟨rfl,rfl⟩
theorem zMd (t:Tb)(xs:List Nat)(n:Nat):∀(m:Nat) (r:Rs),r.bAt<=xs.length->xs.length<r.bAt+n->xs.length<r.bAt+m->t.spec xs n r=t.spec xs m r:=by
 induction n with
 |zero=>grind
 |succ n a=>
  intro m r f g h;cases m with
  |zero=>omega
  |succ m=>
   rw[Tb.spec,Tb.spec];split
   ·rfl
   ·split
    ·rfl
    ·rename_i k e b
     have c:=zCp t _ _ _ _ b;rw[List.length_drop] at c;cases d:(r.tok t (t.ends e).toNat (r.bAt+k) (lnT xs (r.bAt+k)) (clT xs (r.bAt+k))).1.opn with
     |false=>rfl
     |true=>
      have j:=(r.tok_at t _ _ _ _ d).1;rw[if_pos rfl,if_pos rfl,a m _ (by omega) (by omega) (by omega)]
def Tb.sp (t:Tb)(xs:List Nat)(r:Rs):List Ev:=t.spec xs (xs.length+1) r
theorem zLp (t:Tb)(xs:List Nat)(r:Rs)(a:r.bAt<=xs.length):t.sp xs r=if r.bAt=xs.length then[r.lastEv 2] else match t.best (r.top t) (xs.drop r.bAt) with
  |none=>[r.lastEv 3]
  |some (k,e)=>(r.tok t (t.ends e).toNat (r.bAt+k) (lnT xs (r.bAt+k)) (clT xs (r.bAt+k))).2++if(r.tok t (t.ends e).toNat (r.bAt+k) (lnT xs (r.bAt+k)) (clT xs (r.bAt+k))).1.opn then t.sp xs (r.tok t (t.ends e).toNat (r.bAt+k) (lnT xs (r.bAt+k)) (clT xs (r.bAt+k))).1 else[]:=by
 unfold Tb.sp;rw[Tb.spec];split
 ·rfl
 ·split
  ·rfl
  ·rename_i k e b
   have c:=zCp t _ _ _ _ b;rw[List.length_drop] at c;cases d:(r.tok t (t.ends e).toNat (r.bAt+k) (lnT xs (r.bAt+k)) (clT xs (r.bAt+k))).1.opn with
   |false=>rfl
   |true=>
    have a:=(r.tok_at t _ _ _ _ d).1;rw[if_pos rfl,if_pos rfl,zMd t xs xs.length (xs.length+1) _ (by omega) (by omega) (by omega)]
def Foll (t:Tb)(xs:List Nat)(r:Rs)(f:Rs×List Ev):Prop:=t.sp xs r=f.2++if f.1.opn then t.sp xs f.1 else[]
theorem Foll.stay (a:r.Like q)(b:r.opn=true):Foll t xs q (r,[]):=by
 show t.sp xs q=[]++if r.opn then t.sp xs r else[]
 rw[b,if_pos rfl];exact(a.spec _).symm
theorem Foll.then {f g:Rs×List Ev}(a:Foll t xs r f)(b:f.1.opn=true)(c:Foll t xs f.1 g):Foll t xs r (g.1,f.2++g.2):=by
 unfold Foll at *;rw[b,if_pos rfl] at a;rw[a,c,gX]
theorem Foll.like {f:Rs×List Ev}(a:Foll t xs r f)(b:r.Like q):Foll t xs q f:=by
 unfold Foll at *;rw[<-a];exact(b.spec _).symm
theorem Foll.tok (b:r.Like q)(o:q.bAt<xs.length)(k e:Nat)(d:t.best (q.top t) (xs.drop q.bAt)=some (k,e))(rule a l c:Nat)(f:rule=(t.ends e).toNat)(g:a=q.bAt+k)(j:l=lnT xs a)(m:c=clT xs a):Foll t xs q (r.tok t rule a l c):=by
 unfold Foll;rw[zLp t xs q (by omega),if_neg (by omega),d];subst f g j m;have:=b.tok t (t.ends e).toNat (q.bAt+k) (lnT xs (q.bAt+k)) (clT xs (q.bAt+k))
 show _++(if _ then _ else _)=_;rw[this.2,this.1.opn]
 congr 1
 split
 ·exact(this.1.spec _).symm
 ·rfl
theorem Foll.no (a:r.Like q)(c:q.bAt<xs.length)(b:t.best (q.top t) (xs.drop q.bAt)=none):Foll t xs q ({r with opn:=false},[r.lastEv 3]):=by
 unfold Foll;rw[zLp t xs q (by omega),if_neg (by omega),b];rw[a.last];rfl
theorem Foll.fin (a:r.Like q)(b:q.bAt=xs.length):Foll t xs q ({r with opn:=false},[r.lastEv 2]):=by
 unfold Foll;rw[zLp t xs q (by omega),if_pos b];rw[a.last];rfl
end
section
variable {t:Tb} {xs:List Nat} {r:Rs}
def Tb.Dead (t:Tb):Prop:=∀q,q<t.nst->t.live q=false->t.ends q=-1/\∀cs:List Nat,(∀c∈cs,c<256)->t.best q cs=none
theorem zHt (xs:List Nat)(n:Nat)(a:n<xs.length):xs.drop n=xs.getD n 0::xs.drop (n+1):=by simp_all
theorem zLR {xs:List Nat}(a:∀c∈xs,c<256)(n:Nat):∀c∈xs.drop n,c<256:=λc b=>a c (List.mem_of_mem_drop b)
def Rs.rec_ (r:Rs)(e:Nat):Option (Nat×Nat):=if r.length=0 then none else some (r.length,e)
def Rs.OE (t:Tb)(xs:List Nat)(r:Rs):Prop:=∃e,(r.length=0\/t.ends e=r.rule)/\t.best (r.top t) (xs.drop r.bAt)=(sh r.taken (t.best r.state (xs.drop (r.bAt+r.taken)))).or (r.rec_ e)
theorem Rs.OE.new (a:r.length=0)(b:r.taken=0)(c:r.state=r.top t):r.OE t xs:=by
 refine⟨0,.inl a,?_⟩;unfold Rs.rec_;rw[a,b,c,if_pos rfl,zHN,Nat.add_zero,Option.or_none]
theorem Rs.OE.ate {P:Nat}{r:Rs}(g:r.OE t xs)(c:r.OI xs P)(j:r.taken<r.count):((r.ate t).marked t).OE t xs:=by
 obtain⟨e,k,d⟩:=g;have m:=c.hp;have o:=c.pn;have l:=c.by_ r.taken j;rw[zHt xs (r.bAt+r.taken) (by omega)] at d;have b:(r.ate t).state=t.go r.state (xs.getD (r.bAt+r.taken) 0):=by rw[<-l];rfl
 unfold Rs.marked;split
 ·rename_i a
  rw[b] at a;refine⟨e,k,?_⟩;show t.best (r.top t) (xs.drop r.bAt)=(sh (r.taken+1) (t.best (r.ate t).state (xs.drop (r.bAt+(r.taken+1))))).or (r.rec_ e);rw[d,zBS t _ _ _ (.inl a),zNz,b,Nat.add_comm 1,Nat.add_assoc]
 ·rename_i a
  refine⟨(r.ate t).state,.inr rfl,?_⟩;rw[b] at a;show t.best (r.top t) (xs.drop r.bAt)=(sh (r.taken+1) (t.best (r.ate t).state (xs.drop (r.bAt+(r.taken+1))))).or (if r.taken+1=0 then none else some (r.taken+1,(r.ate t).state));rw[d,if_neg (Nat.succ_ne_zero _),b,<-Nat.add_assoc];cases f:t.best (t.go r.state (xs.getD (r.bAt+r.taken) 0)) (xs.drop (r.bAt+r.taken+1)) with
  |some p=>
   rw[zBS t _ _ _ (.inr (by rw[f];exact Option.some_ne_none _)),f,zNz,Nat.add_comm 1];rfl
  |none=>
   rw[zJQ t _ _ _ a f];show some (1+r.taken,_)=some (r.taken+1,_);rw[Nat.add_comm]
theorem Rs.long_foll {P:Nat}{r:Rs}(c:r.OE t xs)(d:r.OI xs P)(g:r.length<=r.count)(u:1<=r.count)(j:t.best r.state (xs.drop (r.bAt+r.taken))=none):Foll t xs r (r.long t)/\((r.long t).1.opn=true->(r.long t).1.OE t xs):=by
 obtain⟨e,k,f⟩:=c;have v:=d.hp;have w:=d.pn;rw[j] at f;have a:=f;unfold Rs.rec_ at a;unfold Rs.long;split
 ·rename_i b
  rw[if_pos b] at a;exact⟨Foll.no (r:=r) (q:=r) ⟨rfl,rfl,rfl,rfl,rfl,rfl⟩ (by omega) a,λc=>by cases c⟩
 ·rename_i b
  rw[if_neg b] at a;have ⟨l,m⟩:=d.line_to r.length g;refine⟨Foll.tok (r:=r.cut) (q:=r) ⟨rfl,rfl,rfl,rfl,rfl,rfl⟩ (by omega) r.length e a _ _ _ _ (by rw[k.resolve_left b]) rfl l m,λo=>?_⟩;have ⟨_,_,⟨p,s⟩,_⟩:=r.cut.tok_opn t r.rule.toNat (r.bAt+r.length) (r.lineTo r.length) (r.colTo r.length)
  exact Rs.OE.new s p (r.cut.tok_at t _ _ _ _ o).2
theorem Rs.held_foll {xs:List Nat}{P:Nat}{r:Rs}(ok:t.Ok)(g:t.Dead)(j:∀c∈xs,c<256)(k:r.OE t xs)(a:r.OI xs P)(l:r.Oth t P)(e:r.taken<r.count)(m:r.opn=true):Foll t xs r (r.heldStep t)/\((r.heldStep t).1.opn=true->(r.heldStep t).1.OE t xs):=by
 have d:=(r.ate t).marked_oth t P ok (r.ate_oth t P ok l e);have f:=k.ate a e;have b:((r.ate t).marked t).OI xs P/\((r.ate t).marked t).Like r/\((r.ate t).marked t).opn=true/\((r.ate t).marked t).count=r.count:=by
  unfold Rs.marked;split <;> exact⟨⟨a.lc,a.hp,a.pn,a.by_⟩,⟨rfl,rfl,rfl,rfl,rfl,rfl⟩,m,rfl⟩
 unfold Rs.heldStep Rs.judged;generalize (r.ate t).marked t=q at *;split
 ·exact⟨Foll.stay b.2.1 b.2.2.1,λ_=>f⟩
 ·rename_i o
  have ⟨p,s⟩:=Rs.long_foll f b.1 (lY d.len d.tak) (by have:=b.2.2.2;omega) ((g q.state d.ok.state (by simpa using o)).2 _ (zLR j _));exact⟨p.like b.2.1,s⟩
theorem Rs.heldN_foll {xs:List Nat}{P:Nat}{r:Rs}(ok:t.Ok)(f:t.Dead)(g:∀c∈xs,c<256)(j:r.OE t xs)(k:r.OI xs P)(d:r.Oth t P)(e:r.opn=true)(n:Nat):Foll t xs r (r.heldN t n)/\((r.heldN t n).1.opn=true->(r.heldN t n).1.OE t xs):=by
 induction n with
 |zero=>exact⟨Foll.stay ⟨rfl,rfl,rfl,rfl,rfl,rfl⟩ e,λ_=>j⟩
 |succ n b=>
  rw[Rs.heldN];split
  ·rename_i a
   have ⟨l,m⟩:=Rs.held_foll ok f g (b.2 a.2) ((Rs.heldN_goes t ok k d e n).2 a.2) (r.heldN_inv t P ok d n).1 a.1 a.2;exact⟨b.1.then a.2 l,m⟩
  ·exact b
theorem Rs.heldAll_all {P:Nat}{r:Rs}(ok:t.Ok)(c:r.Oth t P)(d:(r.heldAll t).1.opn=true):(r.heldAll t).1.taken=(r.heldAll t).1.count:=by
 have b:=(r.heldN_inv t P ok c (r.todo+1))
 have e:¬((r.heldAll t).1.taken<(r.heldAll t).1.count/\(r.heldAll t).1.opn=true):=by
  rcases b.2.2.2.2.1 with a|a
  ·exact a
  ·omega
 have f:(r.heldAll t).1.taken<=(r.heldAll t).1.count:=b.1.tak;rcases Nat.lt_or_ge (r.heldAll t).1.taken (r.heldAll t).1.count with a|a
 ·grind
 ·omega
theorem Rs.endN_foll {xs:List Nat}{r:Rs}(ok:t.Ok)(u:t.Dead)(a:∀c∈xs,c<256)(v:r.OE t xs)(w:r.OI xs xs.length)(l:r.Oth t xs.length)(m:r.opn=true)(x:r.taken=r.count)(n:Nat):Foll t xs r (r.endN t n)/\((r.endN t n).1.opn=true->(r.endN t n).1.OE t xs/\(r.endN t n).1.taken=(r.endN t n).1.count):=by
 induction n with
 |zero=>exact⟨Foll.stay ⟨rfl,rfl,rfl,rfl,rfl,rfl⟩ m,λ_=>⟨v,x⟩⟩
 |succ n o=>
  rw[Rs.endN];split
  ·rename_i b
   have g:=(r.endN_inv t _ ok l n).1;have k:=(Rs.endN_goes t ok w l m n).2 b.2;obtain⟨p,y⟩:=o;have ⟨z,E⟩:=y b.2;generalize r.endN t n=f at *;have q:=f.1.long_inv t _ ok g b.2 b.1;have F:=k.hp;have ⟨s,A⟩:=Rs.long_foll z k (lY g.len g.tak) b.1 (by rw[List.drop_of_length_le (by omega)];rfl);have B:=(Rs.long_goes t k (lY g.len g.tak) b.2).2;cases d:(f.1.long t).1.opn with
   |true=>
    have ⟨C,D⟩:=Rs.heldN_foll ok u a (A d) (B d) q.1 d ((f.1.long t).1.todo+1);exact⟨p.then b.2 (s.then d C),λa=>⟨D a,Rs.heldAll_all ok q.1 a⟩⟩
   |false=>
    have e:(f.1.long t).1.heldAll t=((f.1.long t).1,[]):=by
     refine Rs.heldN_stop _ t 0 _ ?_ lX;rintro⟨_,a⟩;have j:(f.1.long t).1.opn=true:=a;rw[d] at j;cases j
    unfold Rs.endO;rw[e,dX];exact⟨p.then b.2 s,λa=>by have j:(f.1.long t).1.opn=true:=a;rw[d] at j;cases j⟩
  ·exact o
def FolO (t:Tb)(xs:List Nat)(r:Rs)(f:Rs×List Ev):Prop:=Foll t xs r f\/f.1.opn=false/\t.hold<xs.length/\∃es e rest,f.2=es++[e]/\e.kind=6/\t.sp xs r=es++rest
theorem FolO.then {f g:Rs×List Ev}(b:Foll t xs r f)(c:f.1.opn=true)(a:FolO t xs f.1 g):FolO t xs r (g.1,f.2++g.2):=by
 rcases a with a|⟨o,d,j,e,k,l,m,p⟩
 ·exact .inl (b.then c a)
 ·refine .inr ⟨o,d,f.2++j,e,k,by show f.2++g.2=_;rw[l,gX],m,?_⟩
  rw[b,c,if_pos rfl,p,gX]
theorem Rs.feedO_foll {xs:List Nat}(ok:t.Ok)(g:t.stream=false)(D:t.Dead)(a:∀c∈xs,c<256)(cs:List Nat):∀{r:Rs} {P:Nat},r.OE t xs->r.OI xs P->r.Oth t P->r.opn=true->r.taken=r.count->(∀j,j<cs.length->cs.getD j 0=xs.getD (P+j) 0)->P+cs.length<=xs.length->(∀c∈cs,c<256)->FolO t xs r (Rs.feed t cs r)/\((Rs.feed t cs r).1.opn=true->Foll t xs r (Rs.feed t cs r)/\(Rs.feed t cs r).1.OE t xs/\(Rs.feed t cs r).1.taken=(Rs.feed t cs r).1.count):=by
 induction cs with
 |nil=>intro r P m d o e u _ _ _;exact⟨.inl (Foll.stay ⟨rfl,rfl,rfl,rfl,rfl,rfl⟩ e),λ_=>⟨Foll.stay ⟨rfl,rfl,rfl,rfl,rfl,rfl⟩ e,m,u⟩⟩
 |cons c cs E=>
  intro r P m d o e u v F w;rw[hU] at F;have y:r.Good t P:=by unfold Rs.Good;rw[g];exact o
  have G:r.Sure xs t P:=by unfold Rs.Sure;rw[g];exact d
  have z:=v 0 (Nat.succ_pos _);have p:=w c gQ;have ⟨_,k⟩:=Rs.eat_goes t ok G y c z (by omega) p e;have f:=(r.eat_inv t P c ok y p e).1;have H:r.eat t c=r.takeO t c:=by unfold Rs.eat;rw[g];rfl
  rw[Rs.feed,if_pos e];rw[H] at k f ⊢;unfold Rs.takeO at k f ⊢;split at k
  ·rename_i l
   rw[if_pos l,Rs.feed_shut t cs _ rfl,dX];exact⟨.inr ⟨rfl,by have:=d.hp;omega,[],r.lastEv 6,t.sp xs r,rfl,rfl,rfl⟩,λa=>by cases a⟩
  ·rename_i l
   rw[if_neg l] at f;rw[if_neg l];have A:r.count<64:=by have:=ok.hold;omega
   have B:=r.added_oth t P c o p A;have I:(r.added c).OI xs (P+1):=⟨d.lc,congrArg (·+1) d.hp,by omega,Rs.added_by c r.bAt d.by_ (by rw[d.hp];exact z) A⟩
   have ⟨J,K⟩:=Rs.heldN_foll (r:=r.added c) ok D a m I B e ((r.added c).todo+1);have q:Foll t xs r ((r.added c).heldAll t):=J.like ⟨rfl,rfl,rfl,rfl,rfl,rfl⟩;cases b:((r.added c).heldAll t).1.opn with
   |true=>
    have s:=k b;unfold Rs.Sure at s;rw[g] at s;unfold Rs.Good at f;rw[g] at f;have ⟨m1,m2⟩:=E (K b) s f b (Rs.heldAll_all ok B b) (λj L=>by have:=v (j+1) (Nat.succ_lt_succ L);rw[show P+(j+1)=P+1+j by omega] at this;exact this) (by omega) λx a=>w x (List.mem_cons_of_mem _ a);exact⟨FolO.then q b m1,λa=>⟨q.then b (m2 a).1,(m2 a).2⟩⟩
   |false=>
    rw[Rs.feed_shut t cs _ b,dX];exact⟨.inl q,λa=>by have C:((r.added c).heldAll t).1.opn=true:=a;rw[b] at C;cases C⟩
theorem zPv (t:Tb)(c:t.Fine)(f:t.stream=false)(y:t.Dead)(p:Nat)(s:ByteArray):t.events p s=t.sp (nats s) (Rs.born t p)\/t.hold<s.size/\∃m e v,t.events p s=m++[e]/\e.kind=6/\t.sp (nats s) (Rs.born t p)=m++v:=by
 have k:=zDE s;have z:(Rs.born t p).OI (nats s) 0:=⟨⟨rfl,rfl,lX⟩,rfl,lX,λj E=>absurd E (Nat.not_lt_zero _)⟩
 have w:=Rs.born_good t p c;have G:(Rs.born t p).Sure (nats s) t 0:=by unfold Rs.Sure;rw[f];exact z
 have H:(Rs.born t p).Oth t 0:=by have x:=w;unfold Rs.Good at x;rw[f] at x;exact x
 have ⟨_,A⟩:=Rs.feed_goes t c.ok (nats s) G w rfl ⟨rfl,rfl,lX⟩ (λj _=>by rw[Nat.zero_add]) (by rw[Nat.zero_add];exact lQ) k;have ⟨l,I⟩:=Rs.feedO_foll c.ok f y k (nats s) (Rs.OE.new rfl rfl rfl) z H rfl rfl (λj _=>by rw[Nat.zero_add]) (by rw[Nat.zero_add];exact lQ) k;have g:=(Rs.feed_inv t c.ok (nats s) (Rs.born t p) 0 w k).1;rw[Nat.zero_add] at A g;unfold Tb.events;generalize Rs.feed t (nats s) (Rs.born t p)=a at *;cases b:a.1.opn with
 |false=>
  have e:a.1.shut t=(a.1,[]):=by unfold Rs.shut;rw[b];rfl
  rw[e,dX];rcases l with l|⟨_,B,m,e,v,J,K,L⟩
  ·unfold Foll at l
   rw[b] at l;exact .inl (by rw[l];exact(dX _).symm)
  ·exact .inr ⟨by rw[qG] at B;exact B,m,e,v,J,K,L⟩
 |true=>
  have ⟨M,N,O⟩:=I b;have o:=A b;unfold Rs.Sure at o;rw[f] at o;unfold Rs.Good at g;rw[f] at g;have ⟨P,S⟩:=Rs.endN_foll c.ok y k N o g b O (a.1.count+2);have T:=(a.1.endN_inv t _ c.ok g (a.1.count+2)).2.2.2.1;have R:=(Rs.endN_goes t c.ok o g b (a.1.count+2)).2
  left
  have C:Foll t (nats s) a.1 (a.1.shut t)/\(a.1.shut t).1.opn=false:=by
   refine⟨?_,(a.1.shut_end t _ c.ok (by unfold Rs.Good;rw[f];exact g) b).1⟩;unfold Rs.shut;rw[if_pos b,f];unfold Rs.closeO Rs.endAll;generalize a.1.endN t (a.1.count+2)=u at *;cases D:u.1.opn with
   |false=>grind
   |true=>
    have U:=(R D).hp;refine P.then D (Foll.fin (r:=u.1) (q:=u.1) ⟨rfl,rfl,rfl,rfl,rfl,rfl⟩ ?_)
    have:u.1.count=0:=by grind
    omega
  have:=M.then b C.1
  unfold Foll at this;rw[show ((a.1.shut t).1,a.2++(a.1.shut t).2).1.opn=false from C.2] at this;rw[this];exact(dX _).symm
end
section
variable (t:Tb) (xs:List Nat) (P a j:Nat)
def val (K:Nat)(ds:List Nat):Nat:=ds.foldl (λa d=>a*K+d) 0
theorem zFk (b:List Nat)(c:Nat):val a (b++[c])=val a b*a+c:=by
 unfold val;rw[List.foldl_append];rfl
theorem zNu (c:Nat)(bs:List Nat):∀a,bs.foldl (λa f=>a*c+f) a=a*c^bs.length+val c bs:=by
 induction bs with
 |nil=>intro a;simp[val]
 |cons b bs e=>
  intro a;unfold val;rw[List.foldl_cons,List.foldl_cons,e,e (0*c+b),hU,Nat.pow_succ,Nat.zero_mul,Nat.zero_add,Nat.add_mul,Nat.add_assoc,Nat.mul_assoc,Nat.mul_comm c]
theorem zHF (xs bs:List Nat):val a (xs++bs)=val a xs*a^bs.length+val a bs:=by
 unfold val;rw[List.foldl_append,zNu];rfl
theorem zJ8 (bs:List Nat)(c:∀b∈bs,b<a):val a bs<a^bs.length:=by
 induction bs with
 |nil=>exact Nat.one_pos
 |cons b bs d=>
  have f:=d λx g=>c x (List.mem_cons_of_mem _ g);have j:=c b gQ;have e:val a (b::bs)=b*a^bs.length+val a bs:=by
   have:=zHF a [b] bs;rw[show val a [b]=b by simp[val]] at this;exact this
  rw[e,hU,Nat.pow_succ,Nat.mul_comm (a^bs.length)]
  calc b*a^bs.length+val a bs<b*a^bs.length+a^bs.length:=Nat.add_lt_add_left f _
   _=(b+1)*a^bs.length:=by rw[Nat.add_mul,Nat.one_mul]
   _<=a*a^bs.length:=Nat.mul_le_mul_right _ j
theorem zOS (xs bs:List Nat)(c:∀b∈bs,b<a):val a (xs++bs)%a^bs.length=val a bs:=by
 rw[zHF,Nat.mul_comm,Nat.mul_add_mod,Nat.mod_eq_of_lt (zJ8 a bs c)]
def Tb.digs (t:Tb)(cs:List Nat)(m:Nat):List Nat:=(cs.map t.kind++List.replicate m t.count).take m
def Tb.came (t:Tb)(xs:List Nat)(P e:Nat):List Nat:=(xs.take P).map t.kind++List.replicate e t.count
theorem zNb (P e m n:Nat)(b:n+m=P+e)(c:P<=xs.length)(a:e=0\/P=xs.length)(d:n<=P):(t.came xs P e).drop n=t.digs (xs.drop n) m:=by
 unfold Tb.came Tb.digs;rw[List.drop_append_of_le_length (by rw[kV,List.length_take];omega),<-List.map_drop];rcases a with rfl|rfl
 ·rw[List.replicate_zero,dX,List.drop_take,List.take_append_of_le_length (by rw[kV,List.length_drop];omega),<-List.map_take,show P-n=m by omega]
 ·rw[List.take_of_length_le lQ,List.take_append,List.take_of_length_le (by rw[kV,List.length_drop];omega),kV,List.length_drop,List.take_replicate,show min (m-(xs.length-n)) m=e by omega]
theorem zOC (P e:Nat)(a:P<=xs.length):(t.came xs P e).length=P+e:=by
 unfold Tb.came;rw[kX,kV,List.length_take,List.length_replicate,Nat.min_eq_left a]
theorem zPB (ok:t.Ok)(xs:List Nat)(f:∀c∈xs,c<256)(P e:Nat):∀b∈t.came xs P e,b<t.count+1:=by
 intro b a;rcases kU.1 a with a|a
 ·obtain⟨c,g,rfl⟩:=List.mem_map.1 a
  exact Nat.lt_succ_of_lt (ok.kind c (f c (List.mem_of_mem_take g)))
 ·grind
structure Tb.Sharp (t:Tb):Prop where
 dead:t.Dead
 rows:t.rows=(t.count+1)^t.ahead
 yes:∀q,q<t.nst->∀cs:List Nat,(∀c∈cs,c<256)->t.longer (val (t.count+1) (t.digs cs t.ahead)) q=true->t.best q cs≠none
 no:∀q,q<t.nst->t.ends q≠-1->∀cs:List Nat,(∀c∈cs,c<256)->t.longer (val (t.count+1) (t.digs cs t.ahead)) q=false->t.best q cs=none
structure Rs.SE (t:Tb)(xs:List Nat)(P e:Nat)(r:Rs):Prop where
 best:t.best (r.top t) (xs.drop r.bAt)=sh (r.hAt-r.bAt) (t.best r.state (xs.drop r.hAt))
 ahd:r.ahead=val (t.count+1) (t.came xs P e)%t.rows
theorem Rs.step_foll {t:Tb}{xs:List Nat}{P e:Nat}{r:Rs}(ok:t.Ok)(j:t.Sharp)(u:∀c∈xs,c<256)(f:r.SE t xs P e)(g:r.SI xs P)(m:r.Ok t)(v:1<=r.count)(E:r.opn=true)(F:r.hAt+1+t.ahead=P+e)(G:e=0\/P=xs.length):Foll t xs r (r.step t)/\((r.step t).1.opn=true->(r.step t).1.SE t xs P e):=by
 have w:=g.by_ 0 v;rw[Nat.add_zero,Nat.add_zero,Nat.mod_eq_of_lt m.first] at w;have aa:=g.hp;have x:=g.pn;have ab:=g.bh;have ⟨y,H,I,J⟩:=Rs.took_si t g m.first v
 have o:=r.took_ok t ok m;have b:(r.took t).state=t.go r.state (xs.getD r.hAt 0):=by rw[<-w];rfl
 have p:(r.took t).Like r:=⟨rfl,rfl,rfl,rfl,rfl,rfl⟩
 have z:(r.took t).ahead=val (t.count+1) (t.digs (xs.drop (r.hAt+1)) t.ahead):=by
  show r.ahead=_;have K:=zNb t xs P e t.ahead (r.hAt+1) F x G (by omega);have L:((t.came xs P e).drop (r.hAt+1)).length=t.ahead:=by rw[List.length_drop,zOC t xs P e x];omega
  have k:=zOS (t.count+1) ((t.came xs P e).take (r.hAt+1)) ((t.came xs P e).drop (r.hAt+1)) λM N=>zPB t ok xs u P e M (List.mem_of_mem_drop N);rw[List.take_append_drop,L,<-j.rows,K] at k;rw[f.ahd,k]
 have a:=f.best;rw[zHt xs r.hAt (by omega),<-H] at a;have O:(r.took t).top t=r.top t:=rfl;rw[<-O] at a;have A:(r.took t).ahead=val (t.count+1) (t.came xs P e)%t.rows:=f.ahd;have s:=zLR u (r.hAt+1);unfold Rs.step;generalize r.took t=q at *;unfold Rs.fin;split
 ·rename_i l
  rw[b] at l;have R:=j.no _ (by rw[<-b];exact o.state) l.1 _ s (by rw[<-z];exact l.2);rw[zJQ t _ _ _ l.1 R] at a;have S:=a;have T:=Foll.tok (r:=q) (q:=q) ⟨rfl,rfl,rfl,rfl,rfl,rfl⟩ (by omega) _ _ S (t.ends q.state).toNat q.hAt q.hLine q.hCol (by rw[b]) (by omega) y.hl y.hc;refine⟨T.like p,λU=>?_⟩;have ⟨V,W⟩:=q.tok_at t _ _ _ _ U;have B:=q.tok_same t (t.ends q.state).toNat q.hAt q.hLine q.hCol;refine⟨?_,by rw[B.ahead];exact A⟩;rw[V,W,B.hAt,Nat.sub_self,zHN]
 ·rename_i ac
  split
  ·rename_i k
   have ⟨C,D⟩:=j.dead _ o.state k;rw[b] at C D;rw[zBS t _ _ _ (.inl C),D _ s] at a;exact⟨(Foll.no (r:=q) (q:=q) ⟨rfl,rfl,rfl,rfl,rfl,rfl⟩ (by omega) a).like p,λf=>by cases f⟩
  ·refine⟨Foll.stay p (by rw[J];exact E),λ_=>⟨?_,A⟩⟩
   have X:t.ends (t.go r.state (xs.getD r.hAt 0))=-1\/t.best (t.go r.state (xs.getD r.hAt 0)) (xs.drop (r.hAt+1))≠none:=by
    by_cases Y:t.ends (t.go r.state (xs.getD r.hAt 0))=-1
    ·exact .inl Y
    ·right
     refine j.yes _ (by rw[<-b];exact o.state) _ s ?_;rw[<-z,<-b];cases ad:t.longer q.ahead q.state with
     |true=>rfl
     |false=>grind
   rw[zBS t _ _ _ X,zNz] at a;rw[a,I,b,show 1+(r.hAt-q.bAt)=r.hAt+1-q.bAt by omega]
theorem zDm (a b c:Nat)(e:a=b%t.rows):t.further a c=(b*(t.count+1)+c)%t.rows:=by
 unfold Tb.further;rw[e,Nat.add_mod,Nat.mul_mod,Nat.mod_mod,<-Nat.mul_mod,<-Nat.add_mod]
theorem zJK (P e:Nat):t.came xs P (e+1)=t.came xs P e++[t.count]:=by
 unfold Tb.came;rw[List.replicate_succ',gX]
theorem zNc (a:P<xs.length):t.came xs (P+1) 0=t.came xs P 0++[t.kind (xs.getD P 0)]:=by
 unfold Tb.came;rw[List.replicate_zero,dX,dX,List.take_add_one,List.map_append,lV a,lW,lV a];rfl
theorem Rs.feedS_foll {t:Tb}{xs:List Nat}(ok:t.Ok)(f:t.stream=true)(B:t.Sharp)(b:∀c∈xs,c<256)(cs:List Nat):∀{r:Rs} {P:Nat},r.SE t xs P 0->r.SI xs P->r.Str t P->r.opn=true->(∀j,j<cs.length->cs.getD j 0=xs.getD (P+j) 0)->P+cs.length<=xs.length->(∀c∈cs,c<256)->Foll t xs r (Rs.feed t cs r)/\((Rs.feed t cs r).1.opn=true->(Rs.feed t cs r).1.SE t xs (P+cs.length) 0):=by
 induction cs with
 |nil=>intro r P a g k d _ _ _;exact⟨Foll.stay ⟨rfl,rfl,rfl,rfl,rfl,rfl⟩ d,λ_=>a⟩
 |cons c cs C=>
  intro r P a g k d s D u;rw[hU] at D;have v:r.Good t P:=by unfold Rs.Good;rw[if_pos f];exact k
  have E:r.Sure xs t P:=by unfold Rs.Sure;rw[if_pos f];exact g
  have m:c=xs.getD P 0:=s 0 (Nat.succ_pos _);have o:=u c gQ;have ⟨_,w⟩:=Rs.eat_goes t ok E v c m (by omega) o d;have l:=(r.eat_inv t P c ok v o d).1;have F:r.eat t c=r.take t c:=by unfold Rs.eat;rw[if_pos f]
  have M:=k.cnt;have N:=g.hp;have y:r.count<64:=by have:=ok.ahead;omega
  have G:((r.added c).looked t (t.kind c)).SI xs (P+1):=Rs.looked_si (Rs.added_si g c m (by omega) y) _;have H:((r.added c).looked t (t.kind c)).Ok t:=let a:=r.added_ok t c k.ok o y;⟨a.d1,a.d4,a.st,a.state,a.first,a.count,a.bytes⟩;have z:((r.added c).looked t (t.kind c)).SE t xs (P+1) 0:=by
   refine⟨a.best,?_⟩;rw[zNc t xs P (by omega),zFk,<-m];exact zDm t _ _ _ a.ahd
  have p:Foll t xs r (r.take t c)/\((r.take t c).1.opn=true->(r.take t c).1.SE t xs (P+1) 0):=by
   unfold Rs.take Rs.due;split
   ·rename_i I
    have O:t.ahead<r.count+1:=I;have ⟨J,K⟩:=Rs.step_foll ok B b z G H (Nat.succ_le_succ lX) d (by show r.hAt+1+t.ahead=P+1+0;omega) (.inl rfl);exact⟨J.like ⟨rfl,rfl,rfl,rfl,rfl,rfl⟩,K⟩
   ·exact⟨Foll.stay ⟨rfl,rfl,rfl,rfl,rfl,rfl⟩ d,λ_=>z⟩
  rw[Rs.feed,if_pos d];rw[F] at w l ⊢;cases e:(r.take t c).1.opn with
  |true=>
   have q:=w e;unfold Rs.Sure at q;rw[if_pos f] at q;unfold Rs.Good at l;rw[if_pos f] at l;have ⟨m1,m2⟩:=C (p.2 e) q l e (λj L=>by have:=s (j+1) (Nat.succ_lt_succ L);rw[show P+(j+1)=P+1+j by omega] at this;exact this) (by omega) λx b=>u x (List.mem_cons_of_mem _ b);exact⟨p.1.then e m1,λb=>by rw[hU,show P+(cs.length+1)=P+1+cs.length by omega];exact m2 b⟩
  |false=>
   rw[Rs.feed_shut t cs _ e,dX];exact⟨p.1,λb=>by have A:(r.take t c).1.opn=true:=b;rw[e] at A;cases A⟩
theorem Rs.drain_foll {t:Tb}{xs:List Nat}(ok:t.Ok)(q:t.Sharp)(f:∀c∈xs,c<256)(n:Nat):∀{r:Rs} {e:Nat},r.SE t xs xs.length e->r.SI xs xs.length->r.Ok t->r.count=n->r.opn=true->r.hAt+t.ahead=xs.length+e->Foll t xs r (Rs.drain t n r)/\((Rs.drain t n r).1.opn=true->∃e,(Rs.drain t n r).1.SE t xs xs.length e):=by
 induction n with
 |zero=>intro r e d j g k b s;exact⟨Foll.stay ⟨rfl,rfl,rfl,rfl,rfl,rfl⟩ b,λ_=>⟨e,d⟩⟩
 |succ n u=>
  intro r e d j g k b s;have v:(r.look t).SE t xs xs.length (e+1):=by
   refine⟨d.best,?_⟩;rw[zJK,zFk];exact zDm t _ _ _ d.ahd
  have l:(r.look t).SI xs xs.length:=Rs.looked_si j _;have m:=r.look_ok t g;have ⟨w,x⟩:=Rs.step_foll ok q f v l m (by show 1<=r.count;omega) b (by show r.hAt+1+t.ahead=_;omega) (.inr rfl);have o:Foll t xs r ((r.look t).step t):=w.like ⟨rfl,rfl,rfl,rfl,rfl,rfl⟩;have ⟨_,y⟩:=Rs.step_goes t l g.first (by show 1<=r.count;omega) b
  have z:=((r.look t).took t).fin_ok t ok ((r.look t).took_ok t ok m);have A:=r.step_count t;have B:((r.look t).step t).1.hAt=r.hAt+1:=(((r.look t).took t).fin_same t).hAt;rw[Rs.drain,if_neg (by rw[b];decide)];cases a:((r.look t).step t).1.opn with
  |true=>
   have ⟨m1,m2⟩:=u (r:=((r.look t).step t).1) (x a) (y a) z (by rw[A,k];rfl) a (by omega);exact⟨o.then a m1,m2⟩
  |false=>
   have e:Rs.drain t n ((r.look t).step t).1=(((r.look t).step t).1,[]):=by
    cases n with
    |zero=>rfl
    |succ n=>rw[Rs.drain,if_pos a]
   rw[e,dX];exact⟨o,λf=>by have p:((r.look t).step t).1.opn=true:=f;rw[a] at p;cases p⟩
theorem zO6 (b:a=val (t.count+1) (t.came xs P 0)%t.rows):t.aheadTo a j=val (t.count+1) (t.came xs P j)%t.rows:=by
 induction j with
 |zero=>exact b
 |succ j c=>
  rw[Tb.aheadTo,zJK,zFk];exact zDm t _ _ _ c
theorem zPu (f:t.Fine)(g:t.stream=true)(y:t.Sharp)(p:Nat)(s:ByteArray):t.events p s=t.sp (nats s) (Rs.born t p):=by
 have k:=zDE s;have z:(Rs.born t p).SI (nats s) 0:=⟨⟨rfl,rfl,lX⟩,rfl,rfl,lQ,rfl,lX,λj G=>absurd G (Nat.not_lt_zero _)⟩
 have u:=Rs.born_good t p f;have H:(Rs.born t p).Sure (nats s) t 0:=by unfold Rs.Sure;rw[if_pos g];exact z
 have I:(Rs.born t p).Str t 0:=by have c:=u;unfold Rs.Good at c;rw[if_pos g] at c;exact c
 have J:(Rs.born t p).SE t (nats s) 0 0:=⟨by show _=sh 0 _;rw[zHN];rfl,by show 0=0%t.rows;rw[Nat.zero_mod]⟩
 have ⟨_,A⟩:=Rs.feed_goes t f.ok (nats s) H u rfl ⟨rfl,rfl,lX⟩ (λj _=>by rw[Nat.zero_add]) (by rw[Nat.zero_add];exact lQ) k;have ⟨o,B⟩:=Rs.feedS_foll f.ok g y k (nats s) J z I rfl (λj _=>by rw[Nat.zero_add]) (by rw[Nat.zero_add];exact lQ) k;have v:=(Rs.feed_inv t f.ok (nats s) (Rs.born t p) 0 u k).1;rw[Nat.zero_add] at A v B;unfold Tb.events;generalize Rs.feed t (nats s) (Rs.born t p)=a at *;cases b:a.1.opn with
 |false=>
  have e:a.1.shut t=(a.1,[]):=by unfold Rs.shut;rw[b];rfl
  unfold Foll at o;rw[b] at o;rw[e,o];rfl
 |true=>
  have l:=A b;unfold Rs.Sure at l;rw[if_pos g] at l;have w:a.1.Str t (nats s).length:=by have c:=v;unfold Rs.Good at c;rw[if_pos g] at c;exact c
  have C:=B b;have O:=w.cnt;have P:=l.hp;have D:Foll t (nats s) a.1 (a.1.shut t)/\(a.1.shut t).1.opn=false:=by
   refine⟨?_,(a.1.shut_end t _ f.ok v b).1⟩;unfold Rs.shut;rw[if_pos b,if_pos g];have ⟨K,L⟩:=Rs.drain_foll f.ok y k a.1.count (r:=a.1.pad t (t.ahead-a.1.count)) (e:=t.ahead-a.1.count) ⟨C.best,zO6 t (nats s) _ _ _ C.ahd⟩ (Rs.looked_si l _) (a.1.pad_ok t _ w.ok) rfl b (by show a.1.hAt+t.ahead=_;omega);have ⟨_,m2⟩:=Rs.drain_goes t a.1.count (r:=a.1.pad t (t.ahead-a.1.count)) (Rs.looked_si l _) w.ok.first rfl b
   have M:Foll t (nats s) a.1 (Rs.drain t a.1.count (a.1.pad t (t.ahead-a.1.count))):=K.like ⟨rfl,rfl,rfl,rfl,rfl,rfl⟩;unfold Rs.closed;simp only;generalize Rs.drain t a.1.count (a.1.pad t (t.ahead-a.1.count))=m at *;unfold Rs.ended;cases x:m.1.opn with
   |false=>grind
   |true=>
    have ⟨E,R⟩:=m2 x;have ⟨e,N⟩:=L x;have S:=E.hp;have T:=E.bh;rw[if_neg (by decide)];refine M.then x ?_
    split
    ·exact Foll.fin (r:=m.1) (q:=m.1) ⟨rfl,rfl,rfl,rfl,rfl,rfl⟩ (by omega)
    ·refine Foll.no (r:=m.1) (q:=m.1) ⟨rfl,rfl,rfl,rfl,rfl,rfl⟩ (by omega) ?_
     rw[N.best,List.drop_of_length_le (by omega)];rfl
  have:=o.then b D.1
  unfold Foll at this;rw[show ((a.1.shut t).1,a.2++(a.1.shut t).2).1.opn=false from D.2] at this;rw[this];exact(dX _).symm
end
section
variable (t:Tb) (c:Nat) (cs:List Nat) (m:Nat)
theorem zII (u:Tb)(n:Nat)(a:(u.spreadTo n).2=false):u.spreadTo n=(u,false)/\∀s,s<n->u.live s=true\/u.anyTo s u.count=false:=by
 induction n with
 |zero=>exact⟨rfl,λs b=>absurd b (Nat.not_lt_zero _)⟩
 |succ n c=>
  unfold Tb.spreadTo at a ⊢;split at a
  ·cases a
  ·grind
theorem zIL (u:Tb)(n s:Nat)(a:u.live s=true):(u.spreadTo n).1.live s=true:=by
 induction n with
 |zero=>exact a
 |succ n b=>
  unfold Tb.spreadTo;split
  ·grind
  ·exact b
theorem zOa (n s:Nat)(a:t.live s=true):(t.itr n).live s=true:=by
 induction n with
 |zero=>exact a
 |succ n b=>exact zIL _ _ _ b
theorem zPH (s n:Nat)(a:t.anyTo s n=false)(k:Nat)(b:k<n):t.live (t.next s k)=false:=by
 induction n with
 |zero=>omega
 |succ n c=>
  rw[Tb.anyTo,Bool.or_eq_false_iff] at a;by_cases e:k=n
  ·rw[e];exact a.2
  ·grind
theorem Tb.dead_of {t:Tb}(ok:t.Ok)(h:∀s,s<t.nst->t.live s=true\/∀k,k<t.count->t.live (t.next s k)=false)(a:∀s,t.live s=false->t.ends s=-1):t.Dead:=by
 intro q b d;refine⟨a q d,λcs=>?_⟩;induction cs generalizing q with
 |nil=>intro _;rfl
 |cons c cs j=>
  intro e;have f:=ok.kind c (e c gQ);have g:=((h q b).resolve_left (by rw[d];decide)) _ f;rw[zBS t _ _ _ (.inl (a _ g)),j (t.go q c) (ok.next q _ b f) g λx l=>e x (List.mem_cons_of_mem _ l)];rfl
theorem zMA {t0 t:Tb}(n:Nat)(f:((t0.first.itr n).spreadTo t0.nst).2=false)(ok:t.Ok)(p:t.nst=t0.nst)(g:t.count=t0.count)(j:t.next=t0.next)(l:t.ends=t0.ends)(e:t.live=(t0.first.itr n).live):t.Dead:=by
 have ⟨_,b⟩:=zII _ _ f;have c:=vX t0.first n
 have s1:(t0.first.itr n).count=t0.count:=by rw[c];rfl
 have s2:(t0.first.itr n).next=t0.next:=by rw[c];rfl
 refine Tb.dead_of ok (λs c=>?_) (λs d=>?_)
 ·rw[e,g,j]
  rcases b s (by omega) with a|a
  ·exact .inl a
  ·right
   intro k m;rw[s1] at a;have:=zPH _ _ _ a k m;rw[s2] at this;exact this
 ·rw[e] at d
  rw[l];cases o:decide (t0.ends s=-1) with
  |true=>grind
  |false=>
   have b:t0.first.live s=true:=by
    show(t0.ends s != -1)=true;rw[bne_iff_ne];exact of_decide_eq_false o
   rw[zOa _ n s b] at d;cases d
theorem zHE (k a:Nat)(b:zJ k a<=3000):zJ k a=(k+1)^a:=by
 induction a with
 |zero=>rfl
 |succ a c=>
  rw[zJ] at b ⊢;split at b
  ·grind
  ·grind
theorem zOR (k a b:Nat)(d:a<=b)(c:zJ k b<=3000):zJ k a<=3000:=by
 induction b with
 |zero=>grind
 |succ b f=>
  by_cases e:a=b+1
  ·rw[e];exact c
  ·rw[zJ] at c
   split at c
   ·grind
   ·grind
theorem zNM (f:Nat->Bool)(n i:Nat)(l:i<n):decide (xX f n (i/8)/2^(i%8)%2=1)=f i:=by
 induction n with
 |zero=>omega
 |succ n j=>
  rw[xX];by_cases e:i=n
  ·subst e
   have a:=zD6 f i (i/8) (by omega) (by omega);rw[show i-8*(i/8)=i%8 by omega] at a;have b:0<2^(i%8):=Nat.pow_pos (by decide);cases m:f i with
   |true=>
    rw[if_pos ⟨rfl,rfl⟩,Nat.add_div_right _ b,Nat.div_eq_of_lt a];rfl
   |false=>
    rw[if_neg (by rintro⟨g,_⟩;cases g),Nat.div_eq_of_lt a];rfl
  ·rw[<-j (by omega)]
   split
   ·rename_i g
    obtain⟨c,k⟩:∃c,n%8=i%8+(c+1):=⟨n%8-i%8-1,by omega⟩
    have b:0<2^(i%8):=Nat.pow_pos (by decide);rw[k,Nat.pow_add,Nat.add_mul_div_left _ _ b,Nat.pow_succ,Nat.mul_comm (2^c),Nat.add_mul_mod_self_left]
   ·rfl
def Tb.hit (t:Tb):Nat->List Nat->Bool
 |_,[]=>false
 |q,d::ds=>if d=t.count then false else(t.ends (t.next q d) != -1)||t.hit (t.next q d) ds
theorem zNk (p:∀s k,s<t.nst->k<t.count->t.next s k<t.nst)(m:Nat)(r:zJ t.count m<=3000):∀(a:List Nat) (q:Nat),a.length=m->(∀b∈a,b<t.count+1)->q<t.nst->t.aheadF m (val (t.count+1) a*t.nst+q)=t.hit q a:=by
 induction m with
 |zero=>
  intro a q c _ _;rw[List.length_eq_zero_iff.1 c];rfl
 |succ m u=>
  intro a q c f g;cases a with
  |nil=>grind
  |cons b a=>
   rw[hU] at c;have e:a.length=m:=by omega
   have h:=zOR t.count m (m+1) (by omega) r;have j:=zHE t.count m h;have v:val (t.count+1) (b::a)=b*zJ t.count m+val (t.count+1) a:=by
    have:=zHF (t.count+1) [b] a;rw[show val (t.count+1) [b]=b by simp[val],e,<-j] at this;exact this
   have l:∀x∈a,x<t.count+1:=λx w=>f x (List.mem_cons_of_mem _ w);have o:=zJ8 (t.count+1) a l;rw[e,<-j] at o;show t.more (zJ t.count m) (t.aheadF m) _=_;rw[v,Nat.add_mul,Nat.mul_assoc,zLA t _ _ b (val (t.count+1) a) q o g];unfold Tb.willEnd Tb.hit;split
   ·rfl
   ·rename_i y
    show((t.ends (t.next q b) != -1)||t.aheadF m (val (t.count+1) a*t.nst+t.next q b))=_;rw[u h a _ e l (p q b g (by have:=f b gQ;omega))]
theorem zKL (j:∀s k,s<t.nst->k<t.count->t.next s k<t.nst)(a:Nat)(c:zJ t.count a<=3000)(b:List Nat)(q:Nat)(e:b.length=a)(f:∀l∈b,l<t.count+1)(g:q<t.nst):(t.looking a).longer (val (t.count+1) b) q=t.hit q b:=by
 have h:=zJ8 (t.count+1) b f;rw[e,<-zHE t.count a c] at h;have m:val (t.count+1) b*t.nst+q<zJ t.count a*t.nst:=by
  calc val (t.count+1) b*t.nst+q<val (t.count+1) b*t.nst+t.nst:=Nat.add_lt_add_left g _
   _=(val (t.count+1) b+1)*t.nst:=by rw[Nat.add_mul,Nat.one_mul]
   _<=zJ t.count a*t.nst:=Nat.mul_le_mul_right _ h
 rw[<-zNk t j a c b q e f g];exact zNM (t.aheadF a) _ _ m
theorem zHu:t.digs (c::cs) (m+1)=t.kind c::t.digs cs m:=by
 unfold Tb.digs;rw[List.map_cons,List.cons_append,List.take_succ_cons,List.take_append,List.take_append,kV,List.take_replicate,List.take_replicate,show min (m-cs.length) (m+1)=min (m-cs.length) m by omega]
theorem zOz:t.digs [] (m+1)=t.count::t.digs [] m:=by
 unfold Tb.digs;rw[List.map_nil,List.nil_append,List.nil_append,List.replicate_succ,List.take_succ_cons,List.take_replicate]
theorem zJG:(t.digs cs m).length=m:=by
 unfold Tb.digs;rw[List.length_take,kX,List.length_replicate];omega
theorem zPA (ok:t.Ok)(cs:List Nat)(e:∀c∈cs,c<256)(m:Nat):∀b∈t.digs cs m,b<t.count+1:=by
 intro b a;rcases kU.1 (List.mem_of_mem_take a) with a|a
 ·obtain⟨c,f,rfl⟩:=List.mem_map.1 a
  exact Nat.lt_succ_of_lt (ok.kind c (e c f))
 ·grind
theorem zOj (ok:t.Ok)(m:Nat):∀(cs:List Nat) (q:Nat),(∀c∈cs,c<256)->t.hit q (t.digs cs m)=true->t.best q cs≠none:=by
 induction m with
 |zero=>
  intro cs q _ a;have:t.digs cs 0=[]:=List.length_eq_zero_iff.1 (zJG t cs 0);cases a
 |succ m j=>
  intro cs q d a;cases cs with
  |nil=>
   rw[zOz,Tb.hit,if_pos rfl] at a;cases a
  |cons c cs=>
   have o:=ok.kind c (d c gQ);rw[zHu,Tb.hit,if_neg (by omega)] at a;intro b;rw[zAS] at b;cases e:t.best (t.go q c) cs with
   |some p=>grind
   |none=>
    rw[e] at b;have f:(if t.ends (t.go q c)=-1 then none else some (1,t.go q c))=none:=b;split at f
    ·rename_i k
     have g:((t.ends (t.go q c) != -1)||t.hit (t.go q c) (t.digs cs m))=true:=a;rw[k] at g;exact j cs _ (λx l=>d x (List.mem_cons_of_mem _ l)) g e
    ·cases f
structure Tb.Fronts (t:Tb)(a:Nat)(F:Nat->Nat->Prop)(N:Nat->Prop):Prop where
 first:∀q,q<t.nst->t.ends q≠-1->F 0 q
 next:∀i q c,c<256->F i q->N (t.go q c)\/t.ends (t.go q c)≠-1\/F (i+1) (t.go q c)
 last:∀q c,c<256->F a q->N (t.go q c)
 none_:∀q,N q->t.ends q=-1/\∀c,c<256->N (t.go q c)
theorem zG8 {t:Tb}{a:Nat}{g:Nat->Nat->Prop}{b:Nat->Prop}(d:t.Fronts a g b):∀(cs:List Nat) (q:Nat),(∀c∈cs,c<256)->b q->t.best q cs=none:=by
 intro cs;induction cs with
 |nil=>intro q _ _;rfl
 |cons c cs j=>
  intro q e k;have f:=(d.none_ q k).2 c (e c gQ);rw[zBS t _ _ _ (.inl (d.none_ _ f).1),j _ (λx l=>e x (List.mem_cons_of_mem _ l)) f];rfl
theorem zKX {t:Tb}{a:Nat}{k:Nat->Nat->Prop}{s:Nat->Prop}(ok:t.Ok)(d:t.Fronts a k s):∀(cs:List Nat) (i q:Nat),i<=a->(∀c∈cs,c<256)->k i q->t.hit q (t.digs cs (a-i))=false->t.best q cs=none:=by
 intro cs;induction cs with
 |nil=>intro i q _ _ _ _;rfl
 |cons c cs u=>
  intro i q y l o f;have g:=l c gQ;have j:∀x∈cs,x<256:=λx v=>l x (List.mem_cons_of_mem _ v);have p:t.ends (t.go q c)=-1/\t.best (t.go q c) cs=none:=by
   by_cases e:i=a
   ·subst e
    have b:=d.last q c g o;exact⟨(d.none_ _ b).1,zG8 d cs _ j b⟩
   ·obtain⟨m,w⟩:∃m,a-i=m+1:=⟨a-i-1,by omega⟩
    have z:=ok.kind c g;rw[w,zHu,Tb.hit,if_neg (by omega),Bool.or_eq_false_iff] at f;have r:t.ends (t.go q c)=-1:=by
     have:=f.1;rw[bne_eq_false_iff_eq] at this;exact this
    refine⟨r,?_⟩;rcases d.next i q c g o with b|b|b
    ·exact zG8 d cs _ j b
    ·exact absurd r b
    ·exact u (i+1) _ (by omega) j b (by rw[show a-(i+1)=m by omega];exact f.2)
  rw[zBS t _ _ _ (.inl p.1),p.2];rfl
end
section
variable (k:Kd) (a:Ar) (most kind l:Nat)
def Mk.Z (m:Mk):Prop:=m.next.head? =some zeros/\m.rules.head? =some (-1)
theorem zJx {a:Type}{l k:List a}{x:a}(b:l.head? =some x):(l++k).head? =some x:=by
 cases l with
 |nil=>cases b
 |cons y l=>exact b
theorem Mk.Z.add {m:Mk}(a:m.Z)(most:Nat)(r:Int):(m.add most r).Z:=by
 unfold Mk.add;split
 ·exact a
 ·exact⟨zJx a.1,zJx a.2⟩
theorem Mk.Z.put {m:Mk}(a:m.Z)(s b:Nat)(x:Int)(c:1<=s):(m.put s b x).Z:=by
 refine⟨?_,a.2⟩;show(m.next.set s _).head? =_;have d:=a.1;obtain⟨k,rfl⟩:∃k,s=k+1:=⟨s-1,by omega⟩
 cases e:m.next with
 |nil=>grind
 |cons y l=>grind
theorem Mk.Z.fillTo {m:Mk}(a:m.Z)(s:Nat)(f:Nat->Int)(b:1<=s)(j:Nat):(m.fillTo s f j).Z:=by
 induction j with
 |zero=>exact a
 |succ j c=>exact c.put _ _ _ b
theorem Mk.Z.withM {m:Mk}(a:m.Z)(most:Nat)(f:Nat->Int):(m.withM most f).Z:=by
 unfold Mk.withM;split
 ·exact a
 ·split
  ·exact a
  ·split
   ·exact a.add _ _
   ·exact(a.add _ _).fillTo _ _ (by omega) _
def zJ5 (sub:Mk->Nat->Int×Mk):Prop:=∀m c,m.Z->(sub m c).2.Z
theorem zQq (most c:Nat):∀(m:Mk) (to:Int),m.Z->(Mk.even most c m to).2.Z:=by
 induction c with
 |zero=>exact λm to a=>a
 |succ c b=>exact λm to a=>b _ _ (a.withM _ _)
theorem zQE {a:Mk->Nat->Int×Mk}(c:zJ5 a)(step low:Nat){m:Mk}(d:m.Z)(j:Nat):(yC a step low m j).2.Z:=by
 induction j with
 |zero=>exact d
 |succ j b=>
  unfold yC;split
  ·exact b
  ·exact c _ _ b
theorem zHl (most kind cnt step:Nat){b:Mk->Nat->Int×Mk}(d:zJ5 b):zJ5 (jH k a most kind cnt step b):=by
 intro m low c;unfold jH;split
 ·exact zQq most cnt m _ c
 ·exact(zQE d step low c 64).withM _ _
theorem zF0:zJ5 (yM k a most kind l):=by
 induction l with
 |zero=>exact zHl k a most kind 1 1 λm c b=>b
 |succ l d=>exact zHl k a most kind (l+2) (xL (l+2)) d
theorem zFb {a:Mk->Nat->Int×Mk}(b:zJ5 a)(s c:Nat)(d:1<=s){m:Mk}(e:m.Z)(j:Nat):(qJ a s c m j).Z:=by
 induction j with
 |zero=>exact e
 |succ j f=>exact(b _ _ f).put _ _ _ d
theorem zPt (most kind s:Nat)(d:1<=s){m:Mk}(e:m.Z):(zAC k a most kind s m).Z:=by
 refine zFb (λm c b=>zF0 k a most kind 2 m _ b) s 240 d (zFb (λm c b=>zF0 k a most kind 1 m _ b) s 224 d (zFb (λm c b=>zF0 k a most kind 0 m _ b) s 194 d (zFb (λm c b=>b) s 0 d e 128) 30) 16) 5
theorem zLl (most n:Nat)(a:(zG k most n).full=false):(zG k most n).Z/\∀j,j<n->j≠k.dead->1<=(zG k most n).of.getD j 0:=by
 induction n with
 |zero=>
  refine⟨?_,λj b=>absurd b (Nat.not_lt_zero _)⟩;have c:(Mk.blank.add most (-1)).full=false:=a;show(Mk.blank.add most (-1)).Z;unfold Mk.add at c ⊢;split at c
  ·cases c
  ·rename_i e
   rw[if_neg e];exact⟨rfl,rfl⟩
 |succ n g=>
  have q:=(zCv k most n).2;unfold zG at a ⊢;split at a
  ·rename_i d
   rw[if_pos d];have ⟨f,l⟩:=g a;refine⟨f,λj b o=>?_⟩;show 1<=((zG k most n).of++[0]).getD j 0;rw[lW,kW (by omega),<-lW];exact l j (by omega) o
  ·rename_i d
   rw[if_neg d];have p:=zBV (m:=zG k most n) (most:=most) (r:=k.rules.getD n 0) a;have ⟨f,l⟩:=g p.1;have s:=(zGV k most n p.1).one;refine⟨f.add _ _,λj b o=>?_⟩;show 1<=((zG k most n).of++[_]).getD j 0;by_cases e:j<n
   ·grind
   ·grind
theorem zQg (most j:Nat)(g:j<=k.rows.length)(c:(yY k a most j).full=false):(yY k a most j).Z:=by
 induction j with
 |zero=>exact(zLl k most _ c).1
 |succ j d=>
  unfold yY at c ⊢;split at c
  ·rename_i b
   rw[if_pos b];have ⟨_,m2,_,e⟩:=zCC k a most j;have f:=(zLl k most _ (e b.2)).2 j (by omega) b.1;rw[<-m2] at f;exact zPt k a most j _ (by omega) (d (by omega) b.2)
  ·grind
def Sm.Z (m:Sm):Prop:=m.next.head? =some zeros/\m.rules.head? =some (-1)
theorem zQc {D:Nat}{rules:List Tr}{most:Nat}{m:Sm}(a:zBf D rules most=some m):m.Z:=by
 unfold zBf at a;split at a
 ·cases a
 ·split at a
  ·cases a
  ·rename_i k _ b
   cases a
   exact zQg k _ most _ lQ (Bool.eq_false_iff.2 b)
theorem zPd {D:Nat}{sh:Sh}(f:Nat):∀{j most:Nat} {ms:List Sm},xV D sh f j most=some ms->∀m∈ms,m.Z:=by
 induction f with
 |zero=>intro j most ms a m b;cases a;cases b
 |succ f d=>
  intro j most ms a m b;rw[xV] at a;split at a
  ·cases a
  ·rename_i x e
   cases c:xV D sh f (j+1) (most-x.next.length) with
   |none=>grind
   |some l=>
    rw[c] at a;cases a
    rcases List.mem_cons.1 b with rfl|b
    ·exact zQc e
    ·exact d c m b
theorem zQN {s:ByteArray}{d hold:Int}{ms:List Sm}{sh:Sh}(a:zAj s d hold=.inl (ms,sh)):∀m∈ms,m.Z:=by
 unfold zAj at a;split at a
 ·cases a
 ·cases f:jJ s with
  |inr e=>grind
  |inl b=>
   rw[f] at a;have c:(match xV (1+6*s.size) b b.modes.length 0 d.toNat with|none=>.inr (0,5)|some ms=>.inl (ms,b))=(.inl (ms,sh):(List Sm×Sh) ⊕ (Nat×Nat)):=a;split at c
   ·cases c
   ·rename_i l g
    cases c
    exact zPd _ g
end
section
variable (ms:List Sm) (b n a:Nat)
theorem zHi (d:b<n)(f:n<=a):(zB ms a).1.getD b 0=(zB ms n).1.getD b 0:=by
 induction a with
 |zero=>omega
 |succ a c=>
  by_cases e:n=a+1
  ·rw[e]
  ·rw[<-c (by omega)]
   have g:=(qZ ms a).1;rw[zB];split <;> rw[lW,kW (by omega),<-lW]
theorem zJy (c:vD ms n<n)(m:Sm)(d:m∈ms)(row:List Int)(e:row∈m.next):row.getD (vD ms n) 0=row.getD n 0:=by
 have f:(List.range n).findIdx (λa=>zB0 ms a n)<(List.range n).length:=by rw[List.length_range];exact c
 have b:=List.findIdx_getElem (w:=f);rw[List.getElem_range] at b;have g:=List.all_eq_true.1 b m d;have j:=List.all_eq_true.1 g row e;exact eq_of_beq j
theorem zN8 (m:Sm)(l:m∈ms)(row:List Int)(o:row∈m.next)(f:Int)(n:Nat)(p:n<=256):∀b,b<n->0<=(zB ms 256).1.getD b 0/\(zB ms 256).1.getD b 0<((zB ms n).2:Int)/\(zR (zB ms 256).1 row f n).getD ((zB ms 256).1.getD b 0).toNat 0=f+row.getD b 0:=by
 induction n with
 |zero=>intro b q;omega
 |succ n r=>
  intro b q;have d:=zC8 ms row f 256 n (by omega);have g:=zHi ms n (n+1) 256 (by omega) p;have h:=(qZ ms n).1;have s:=r (by omega);by_cases a:vD ms n<n
  ·have ⟨t,u,v⟩:=s _ a
   have c:(zB ms 256).1.getD n 0=(zB ms 256).1.getD (vD ms n) 0:=by
    rw[g,zHi ms (vD ms n) n 256 a (by omega),zB,if_pos a];rw[lW,hZ (by omega),h,Nat.sub_self];rfl
   have j:(zB ms (n+1)).2=(zB ms n).2:=by rw[zB,if_pos a]
   have k:zR (zB ms 256).1 row f (n+1)=zR (zB ms 256).1 row f n:=by rw[zR,if_neg (by rw[d,c];omega)]
   rw[k,j];by_cases e:b=n
   ·rw[e,c]
    exact⟨t,u,by rw[v,zJy ms n a m l row o]⟩
   ·grind
  ·have c:(zB ms 256).1.getD n 0=((zB ms n).2:Int):=by
    rw[g,zB,if_neg a];rw[lW,hZ (by omega),h,Nat.sub_self];rfl
   have j:(zB ms (n+1)).2=(zB ms n).2+1:=by rw[zB,if_neg a]
   have k:zR (zB ms 256).1 row f (n+1)=zR (zB ms 256).1 row f n++[f+row.getD n 0]:=by rw[zR,if_pos (by rw[d,c])]
   by_cases e:b=n
   ·grind
   ·grind
theorem zNw (n q:Nat)(a:q<zI ms n):∃j s,j<n/\s<(ms.getD j Sm.none).next.length/\q=zI ms j+s:=by
 induction n with
 |zero=>exact absurd a (Nat.not_lt_zero _)
 |succ n b=>
  by_cases e:q<zI ms n
  ·have ⟨j,s,f,c,d⟩:=b e
   exact⟨j,s,by omega,c,d⟩
  ·rw[zI] at a
   exact⟨n,q-zI ms n,by omega,by show _<(ms.getD n ⟨[],[],0,[]⟩).next.length;omega,by omega⟩
theorem zLH (b:ModesOk ms)(a:List Int)(n:Nat)(g:n<=ms.length)(j s:Nat)(k:j<n)(m:s<(ms.getD j Sm.none).next.length):(zT a ms n).next.getD (zI ms j+s) []=zR a ((ms.getD j Sm.none).next.getD s []) (zI ms j:Nat) 256/\(zT a ms n).ends.getD (zI ms j+s) 0=yL (zT a ms j).rules ((ms.getD j Sm.none).rules.getD s 0):=by
 induction n with
 |zero=>omega
 |succ n c=>
  have ⟨s1,s2,o,p⟩:=zAp a ms b n (by omega);have q:zI ms (j+1)=zI ms j+(ms.getD j Sm.none).next.length:=rfl
  rw[zT];by_cases e:j<n
  ·have r:=qN ms (j+1) n e
   have ⟨d,f⟩:=c (by omega) e;rw[lW,kW (by omega),<-lW,lW (l:=_++_),kW (by omega),<-lW];exact⟨d,f⟩
  ·have t:j=n:=by omega
   have u:=(b.rules j (by omega)).1;have v:ms.getD j Sm.none=ms[j]:=by rw[lW,lV (by omega),Option.getD_some]
   constructor
   ·grind
   ·grind
theorem zCL (d:ModesOk ms)(acts pushed:List Int)(hold j s c:Nat)(b:j<ms.length)(f:s<(ms.getD j Sm.none).next.length)(g:c<256):(zZ ms acts pushed hold).go (zI ms j+s) c=zI ms j+(((ms.getD j Sm.none).next.getD s []).getD c 0).toNat/\0<=((ms.getD j Sm.none).next.getD s []).getD c 0/\((ms.getD j Sm.none).next.getD s []).getD c 0<((ms.getD j Sm.none).next.length:Int)/\((zZ ms acts pushed hold).ends (zI ms j+s)=-1↔(ms.getD j Sm.none).rules.getD s 0=-1):=by
 obtain⟨o,p⟩:=zLH ms d (zB ms 256).1 ms.length lQ j s b f;have a:ms.getD j Sm.none=ms[j]:=by rw[lW,lV b,Option.getD_some]
 have q:ms.getD j Sm.none∈ms:=by rw[a];exact List.getElem_mem b
 have k:=zV _ s [] f;obtain⟨_,w2⟩:=d.wide j b _ (by rw[<-a];exact k);obtain⟨r,l⟩:=w2 c g;rw[<-a] at l;obtain⟨_,_,t⟩:=zN8 ms _ q _ k (zI ms j:Nat) 256 lQ c g;refine⟨?_,r,l,?_⟩
 ·show(((zT (zB ms 256).1 ms ms.length).next.getD (zI ms j+s) []).getD ((zB ms 256).1.getD c 0).toNat 0).toNat=_
  rw[o,t];omega
 ·show(zT (zB ms 256).1 ms ms.length).ends.getD (zI ms j+s) 0=-1↔_
  rw[p];have m:=(d.rules j b)
  have u:s<(ms.getD j Sm.none).rules.length:=by rw[a,m.1,<-a];exact f
  have:=(m.2 _ (by rw[<-a];exact zV _ s 0 u)).1;unfold yL;split
  ·rename_i e;rw[e]
  ·grind
theorem zMT (p:Nat->Bool)(n:Nat)(b:(List.range n).findIdx p<n):p ((List.range n).findIdx p)=true:=by
 have c:(List.range n).findIdx p<(List.range n).length:=by rw[List.length_range];exact b
 have a:=List.findIdx_getElem (w:=c);rw[List.getElem_range] at a;exact a
theorem zKY (f:Nat->Bool)(a:zAq n f<0):∀t,t<n->f t=false:=by
 intro t b;unfold zAq at a;split at a
 ·omega
 ·rename_i c
  cases d:f t with
  |false=>rfl
  |true=>
   exfalso
   apply c;have:=List.findIdx_lt_length_of_exists (xs:=List.range n) (p:=f) ⟨t,List.mem_range.2 b,d⟩;rw[List.length_range] at this;exact this
theorem zM4 (m:Sm)(a:0<=yO m):zBa m (yO m).toNat=true:=by
 unfold yO at a ⊢;split at a
 ·rename_i b
  rw[if_pos b,Int.toNat_natCast];exact zMT (zBa m) _ b
 ·omega
theorem zKW (m:Sm)(a:Nat)(b:zBa m a=true)(k:Nat):(∀t,t<m.next.length->qV m (xY m (a+k)) t=false):=by
 induction k with
 |zero=>exact zKY _ _ (of_decide_eq_true b)
 |succ k c=>
  intro t j;show((((t:Nat):Int) != 0)&&(List.range m.next.length).any λi=>xY m (a+k+1) i&&_)=false;have:((List.range m.next.length).any λi=>xY m (a+k+1) i&&(m.next.getD i []).any (·==(t:Int)))=false:=by
   rw[List.any_eq_false];intro i e;have f:=c i (List.mem_range.1 e);have g:xY m (a+k+1) i=false:=by
    show vC (qV m (xY m (a+k))) (tokF m) i=false;unfold vC;rw[f];rfl
   rw[g];simp
  rw[this,Bool.and_false]
theorem zNl (a:0<=aheadTo ms n):∀j,j<n->0<=yO (ms.getD j Sm.none)/\yO (ms.getD j Sm.none)<=aheadTo ms n:=by
 induction n with
 |zero=>intro j b;omega
 |succ n c=>
  intro j b;have e:aheadTo ms (n+1)=qC (aheadTo ms n) (yO (ms.getD n Sm.none)):=rfl;rw[e] at a ⊢;unfold qC at a ⊢;split at a
  ·omega
  ·grind
theorem zMn (m:Sm)(a:Nat->Bool)(s c:Nat)(b:s<m.next.length)(d:a s=true)(e:c<(m.next.getD s []).length)(x:Nat)(f:(m.next.getD s []).getD c 0=(x:Int))(g:x≠0):qV m a x=true:=by
 show(((x:Nat):Int) != 0&&(List.range m.next.length).any λi=>a i&&(m.next.getD i []).any (·==(x:Int)))=true;rw[Bool.and_eq_true];refine⟨by rw[bne_iff_ne];omega,List.any_eq_true.2 ⟨s,List.mem_range.2 b,?_⟩⟩;rw[Bool.and_eq_true];refine⟨d,List.any_eq_true.2 ⟨(m.next.getD s []).getD c 0,zV _ c 0 e,?_⟩⟩;rw[f];exact beq_self_eq_true _
theorem zJU (f:ModesOk ms)(B:∀m∈ms,m.Z)(C:0<=aheadTo ms ms.length)(acts pushed:List Int)(hold:Nat):∃D E,(zZ ms acts pushed hold).Fronts (aheadTo ms ms.length).toNat D E:=by
 have G:∀j,j<ms.length->ms.getD j Sm.none=ms[j]?.getD Sm.none/\ms.getD j Sm.none∈ms:=λj a=>⟨lW,zV _ _ _ a⟩
 have H:∀j s,j<ms.length->s<(ms.getD j Sm.none).next.length->((ms.getD j Sm.none).next.getD s []).length=256:=λj s a b=>by
  have r:ms.getD j Sm.none=ms[j]:=by rw[lW,lV a,Option.getD_some]
  rw[r] at b ⊢;exact(f.wide j a _ (zV _ s [] b)).1
 have v:∀i j s c,j<ms.length->s<(ms.getD j Sm.none).next.length->c<256->xY (ms.getD j Sm.none) i s=true->∃x:Nat,(zZ ms acts pushed hold).go (zI ms j+s) c=zI ms j+x/\x<(ms.getD j Sm.none).next.length/\(x=0\/qV (ms.getD j Sm.none) (xY (ms.getD j Sm.none) i) x=true):=by
  intro i j s c a b d k;have ⟨o,b2,P,_⟩:=zCL ms f acts pushed hold j s c a b d;refine⟨_,o,by omega,?_⟩;by_cases e:(((ms.getD j Sm.none).next.getD s []).getD c 0).toNat=0
  ·exact .inl e
  ·exact .inr (zMn _ _ s c b k (by rw[H j s a b];exact d) _ (Int.toNat_of_nonneg b2).symm e)
 refine⟨λi q=>∃j s,j<ms.length/\s<(ms.getD j Sm.none).next.length/\q=zI ms j+s/\xY (ms.getD j Sm.none) i s=true,λq=>∃j,j<ms.length/\q=zI ms j,?_,?_,?_,?_⟩
 ·intro q I J
  obtain⟨j,s,a,b,rfl⟩:=zNw ms ms.length q I;have t:=(zCL ms f acts pushed hold j s 0 a b (by decide)).2.2.2;refine⟨j,s,a,b,rfl,?_⟩;show((ms.getD j Sm.none).rules.getD s 0 != -1)=true;rw[bne_iff_ne];exact λe=>J (t.2 e)
 ·rintro i q c d ⟨j,s,a,b,rfl,k⟩
  have ⟨x,u,p,g⟩:=v i j s c a b d k;rw[u];rcases g with rfl|g
  ·grind
  ·right
   have t:=(zCL ms f acts pushed hold j x 0 a p (by decide)).2.2.2;cases w:tokF (ms.getD j Sm.none) x with
   |true=>
    left
    intro e;have z:((ms.getD j Sm.none).rules.getD x 0 != -1)=true:=w;rw[bne_iff_ne] at z;exact z (t.1 e)
   |false=>
    right
    refine⟨j,x,a,p,rfl,?_⟩;show(qV (ms.getD j Sm.none) (xY (ms.getD j Sm.none) i) x&& !tokF (ms.getD j Sm.none) x)=true;rw[g,w];rfl
 ·rintro q c d ⟨j,s,a,b,rfl,k⟩
  have ⟨x,u,p,g⟩:=v _ j s c a b d k;rw[u];rcases g with rfl|g
  ·exact⟨j,a,rfl⟩
  ·have ⟨K,R⟩:=zNl ms ms.length C j a
   have:=zKW _ _ (zM4 _ K) ((aheadTo ms ms.length).toNat-(yO (ms.getD j Sm.none)).toNat) x p;rw[show (yO (ms.getD j Sm.none)).toNat+((aheadTo ms ms.length).toNat-(yO (ms.getD j Sm.none)).toNat)=(aheadTo ms ms.length).toNat by omega,g] at this;cases this
 ·rintro q ⟨j,a,rfl⟩
  have ⟨S,T⟩:=B _ (G j a).2;have r:ms.getD j Sm.none=ms[j]:=by rw[lW,lV a,Option.getD_some]
  have A:0<(ms.getD j Sm.none).next.length:=by rw[r];exact f.states1 j a
  have L:(ms.getD j Sm.none).next.getD 0 []=zeros:=by
   cases e:(ms.getD j Sm.none).next with
   |nil=>grind
   |cons y l=>grind
  have M:(ms.getD j Sm.none).rules.getD 0 0=-1:=by
   cases e:(ms.getD j Sm.none).rules with
   |nil=>grind
   |cons y l=>grind
  refine⟨(zCL ms f acts pushed hold j 0 0 a A (by decide)).2.2.2.2 M,λc d=>⟨j,a,?_⟩⟩;have o:=(zCL ms f acts pushed hold j 0 c a A d).1;have O:zeros.getD c 0=0:=by
   unfold zeros;rw[lW,List.getElem?_replicate,if_pos d];rfl
  rw[L,O] at o;exact o
end
theorem zOi {t u:Tb}(b:t.next=u.next)(c:t.count=u.count)(e:t.ends=u.ends)(a:List Nat):∀q,t.hit q a=u.hit q a:=by
 induction a with
 |nil=>intro q;rfl
 |cons g a f=>intro q;rw[Tb.hit,Tb.hit,b,c,e,f]
theorem zHo {ms:List Sm}{acts pushed:List Int}{hold n:Nat}{a:Bool}(b:(((zZ ms acts pushed hold).first.itr n).spreadTo (zI ms ms.length)).2=false)(ok:(vA ms acts pushed hold n a).Ok):(vA ms acts pushed hold n a).Dead:=by
 have c:=vX (zZ ms acts pushed hold).first n
 refine zMA (t0:=zZ ms acts pushed hold) n b ok ?_ ?_ ?_ ?_ ?_ <;> unfold vA vN <;> split <;> first|rfl|(rw [c];rfl)
theorem zEm (ms:List Sm)(acts pushed:List Int)(hold n:Nat)(a:Bool):(vA ms acts pushed hold n a).nst=(zZ ms acts pushed hold).nst/\(vA ms acts pushed hold n a).next=(zZ ms acts pushed hold).next/\(vA ms acts pushed hold n a).kind=(zZ ms acts pushed hold).kind/\(vA ms acts pushed hold n a).ends=(zZ ms acts pushed hold).ends/\(vA ms acts pushed hold n a).start=(zZ ms acts pushed hold).start/\(vA ms acts pushed hold n a).act=(zZ ms acts pushed hold).act/\(vA ms acts pushed hold n a).push=(zZ ms acts pushed hold).push/\(vA ms acts pushed hold n a).count=(zZ ms acts pushed hold).count:=by
 have b:=vX (zZ ms acts pushed hold).first n
 refine⟨?_,?_,?_,?_,?_,?_,?_,?_⟩ <;> unfold vA vN <;> split <;> rw[b] <;> rfl
theorem zKU {x:List Sm×Sh}{hold n:Nat}{f:Bool}(v:ModesOk x.1)(w:∀m∈x.1,m.Z)(l:zBA x f=true)(y:(((zZ x.1 (ints x.2.acts) (x.2.pushesTo x.2.pushed.length) hold).first.itr n).spreadTo (zI x.1 x.1.length)).2=false)(ok:(vA x.1 (ints x.2.acts) (x.2.pushesTo x.2.pushed.length) hold n f).Ok):(vA x.1 (ints x.2.acts) (x.2.pushesTo x.2.pushed.length) hold n f).Sharp:=by
 have z:=zHo y ok;obtain⟨A,B,C,o,-,-,-,D⟩:=zEm x.1 (ints x.2.acts) (x.2.pushesTo x.2.pushed.length) hold n f;obtain⟨u,a,e,E,G,H⟩:∃u a,vA x.1 (ints x.2.acts) (x.2.pushesTo x.2.pushed.length) hold n f=Tb.looking u a/\a=(aheadTo x.1 x.1.length).toNat/\zJ (zB x.1 256).2 a<=3000/\0<=aheadTo x.1 x.1.length:=by
  unfold zBA at l;have k:=l;unfold yB at k;simp only[Bool.and_eq_true,decide_eq_true_eq] at k;refine⟨{vN x.1 (ints x.2.acts) (x.2.pushesTo x.2.pushed.length) hold n with stream:=true},(aheadTo x.1 x.1.length).toNat,?_,rfl,k.2.2,k.2.1⟩;unfold vA;rw[if_pos l]
 have ⟨I,J,g⟩:=zJU x.1 v w H (ints x.2.acts) (x.2.pushesTo x.2.pushed.length) hold;generalize vA x.1 (ints x.2.acts) (x.2.pushesTo x.2.pushed.length) hold n f=t at *;have c1:t.ahead=a:=by rw[e];rfl
 have c2:zJ t.count a<=3000:=by rw[D];exact G
 have K:t.rows=zJ t.count a:=by rw[e];rfl
 have u1:u.next=t.next:=by rw[e];rfl
 have u2:u.count=t.count:=by rw[e];rfl
 have u3:u.ends=t.ends:=by rw[e];rfl
 have u4:u.nst=t.nst:=by rw[e];rfl
 have r:∀q,q<t.nst->∀cs:List Nat,(∀c∈cs,c<256)->t.longer (val (t.count+1) (t.digs cs t.ahead)) q=t.hit q (t.digs cs t.ahead):=λq b cs d=>by
  have:=zKL u (by rw[u4,u2,u1];exact ok.next) a (by rw[u2];exact c2) (t.digs cs t.ahead) q (by rw[zJG,c1]) (by rw[u2];exact zPA t ok cs d _) (by rw[u4];exact b);rw[<-e,u2,zOi u1 u2 u3] at this;exact this
 have p:∀q c,t.go q c=(zZ x.1 (ints x.2.acts) (x.2.pushesTo x.2.pushed.length) hold).go q c:=λq c=>by unfold Tb.go;rw[B,C]
 have s:t.Fronts t.ahead I J:=by
  rw[c1,E];exact⟨λq b e=>g.first q (by rw[<-A];exact b) (by rw[<-o];exact e),λi q c d b=>by rw[p,o];exact g.next i q c d b,λq c d b=>by rw[p];exact g.last q c d b,λq b=>⟨by rw[o];exact(g.none_ q b).1,λc d=>by rw[p];exact(g.none_ q b).2 c d⟩⟩
 refine⟨z,by rw[K,c1];exact zHE _ _ c2,λq b cs d j=>?_,λq b e cs d j=>?_⟩
 ·rw[r q b cs d] at j
  exact zOj t ok _ cs q d j
 ·rw[r q b cs d] at j
  exact zKX ok s cs 0 q lX d (s.first q b e) (by rw[Nat.sub_zero];exact j)
def Rs.One (r:Rs):Prop:=∀j,j<r.depth->r.stack j=0
def zQP (t:Tb)(xs:List Nat)(ev:Ev):Prop:=∃f k e:Nat,t.best (t.start 0) (xs.drop f)=some (k,e)/\f+k<=xs.length/\ev.rule=((t.ends e).toNat:Nat)/\ev.from_=f/\ev.to=(f+k:Nat)/\t.act (t.ends e).toNat≠1
theorem Rs.One.tok {r:Rs}(d:r.One)(f:1<=r.depth)(t:Tb)(g:∀i,t.push i=0)(rule a l c:Nat)(b:(r.tok t rule a l c).1.opn=true):(r.tok t rule a l c).1.One/\1<=(r.tok t rule a l c).1.depth:=by
 unfold Rs.tok at b ⊢;split at b
 ·cases b
 ·rename_i k
  split at b
  ·cases b
  ·rename_i m
   rw[if_neg k,if_neg m];show(r.moved t rule).One/\1<=(r.moved t rule).depth;unfold Rs.moved;split
   ·exact⟨λj e=>d j (by have o:j<r.depth-1:=e;omega),by show 1<=r.depth-1;omega⟩
   ·split
    ·refine⟨λj e=>?_,by show 1<=r.depth+1;omega⟩
     have o:j<r.depth+1:=e;show(if j=r.depth then t.push rule else r.stack j)=0;split
     ·exact g rule
     ·exact d j (by omega)
    ·exact⟨d,f⟩
theorem zIN (t:Tb)(xs:List Nat)(j:∀i,t.push i=0)(n:Nat):∀r:Rs,r.One->1<=r.depth->r.bAt<=xs.length->∀c∈t.spec xs n r,c.kind=1->zQP t xs c:=by
 induction n with
 |zero=>intro r _ _ _ c a;cases a
 |succ n l=>
  intro r f m v c a b;rw[Tb.spec] at a;split at a
  ·rw[kY.1 a] at b;cases b
  ·split at a
   ·rw[kY.1 a] at b;cases b
   ·rename_i k e g
    have o:r.top t=t.start 0:=by unfold Rs.top;rw[f _ (by omega)]
    have p:=zCp t _ _ _ _ g;rw[List.length_drop] at p;rcases kU.1 a with a|a
    ·unfold Rs.tok at a
     split at a
     ·rw[kY.1 a] at b;cases b
     ·split at a
      ·rw[kY.1 a] at b;cases b
      ·have d:c∈(if t.act (t.ends e).toNat=1 then[] else[⟨1,((t.ends e).toNat:Nat),r.bAt,(r.bAt+k:Nat),r.bLine,r.bCol⟩]:List Ev):=a
       split at d
       ·cases d
       ·rename_i q
        rw[kY.1 d];exact⟨r.bAt,k,e,by rw[<-o];exact g,by omega,rfl,rfl,rfl,q⟩
    ·split at a
     ·rename_i h
      have ⟨s,u⟩:=f.tok m t j _ _ _ _ h;exact l _ s u (by rw[(r.tok_at t _ _ _ _ h).1];omega) c a b
     ·cases a
theorem zKE (s:ByteArray)(f k:Nat)(a:f+k<=s.size):nats (s.extract f (f+k))=((nats s).drop f).take k:=by
 unfold nats;rw[<-List.map_drop,<-List.map_take]
 congr 1
 rw[ByteArray.data_extract,Array.toList_extract,List.extract_eq_take_drop,hY]
theorem zPs {m:Sm}(h:ModesOk [m])(acts pushed:List Int)(hold n:Nat)(fo:Bool)(bs:List Nat)(hb:∀b∈bs,b<256):(vA [m] acts pushed hold n fo).ends (bs.foldl (vA [m] acts pushed hold n fo).go ((vA [m] acts pushed hold n fo).start 0))=m.rl bs:=by
 obtain⟨-,g2,g3,g4,g5,-⟩:=zEm [m] acts pushed hold n fo;have hgo:(vA [m] acts pushed hold n fo).go=(zZ [m] acts pushed hold).go:=by
  unfold Tb.go;rw[g2,g3]
 rw[hgo,g4,g5];have st:=h.start 0 (by simp);have go:∀(bs:List Nat) (t:Int),(∀b∈bs,b<256)->0<=t->t<(m.next.length:Int)->bs.foldl (zZ [m] acts pushed hold).go t.toNat=(bs.foldl m.at t).toNat/\0<=bs.foldl m.at t/\bs.foldl m.at t<(m.next.length:Int):=by
  intro bs;induction bs with
  |nil=>grind
  |cons b bs ih=>
   intro t hb h1 h2;obtain⟨b1,b2,b3,-⟩:=zCL [m] h acts pushed hold 0 t.toNat b (by simp) (by show t.toNat<m.next.length;omega) (hb b gQ);have e:(zZ [m] acts pushed hold).go t.toNat b=(m.at t b).toNat:=by
    have b1':(zZ [m] acts pushed hold).go (0+t.toNat) b=0+(m.at t b).toNat:=b1;rw[Nat.zero_add,Nat.zero_add] at b1';exact b1'
   rw[List.foldl_cons,List.foldl_cons,e];exact ih _ (λx hx=>hb x (List.mem_cons_of_mem _ hx)) b2 b3
 have e0:(zZ [m] acts pushed hold).start 0=m.start.toNat:=by
  show((([]:List Int)++[((0:Nat):Int)+m.start]).getD 0 0).toNat=_;simp
 obtain⟨k1,k2,k3⟩:=go bs m.start hb st.1 st.2;rw[e0,k1];obtain⟨-,l2⟩:=zLH [m] h (zB [m] 256).1 1 lQ 0 (bs.foldl m.at m.start).toNat (by omega) (by show _<m.next.length;omega)
 have l2':(zT (zB [m] 256).1 [m] 1).ends.getD (0+(bs.foldl m.at m.start).toNat) 0=yL 0 (m.rules.getD (bs.foldl m.at m.start).toNat 0):=l2;rw[Nat.zero_add] at l2';show(zT (zB [m] 256).1 [m] 1).ends.getD (bs.foldl m.at m.start).toNat 0=m.rules.getD (bs.foldl m.at m.start).toNat 0;rw[l2'];unfold yL;split <;> simp
theorem zEt (t:Tb)(xs:List Nat):∀q,t.best q xs=none->∀n,1<=n->n<=xs.length->t.ends ((xs.take n).foldl t.go q)=-1:=by
 induction xs with
 |nil=>grind
 |cons c cs b=>
  intro q a n d e;rw[zAS] at a;obtain⟨n,rfl⟩:∃k,n=k+1:=⟨n-1,by omega⟩
  cases f:t.best (t.go q c) cs with
  |some p=>grind
  |none=>grind
theorem zBx (t:Tb)(xs:List Nat):∀q k e,t.best q xs=some (k,e)->1<=k/\k<=xs.length/\(xs.take k).foldl t.go q=e/\t.ends e≠-1/\∀n,k<n->n<=xs.length->t.ends ((xs.take n).foldl t.go q)=-1:=by
 induction xs with
 |nil=>intro q k e a;cases a
 |cons c cs g=>
  intro q k e a;rw[zAS] at a;cases b:t.best (t.go q c) cs with
  |some p=>
   rw[b] at a;cases a
   have ⟨u,j,l,m,o⟩:=g _ _ _ b;refine⟨by omega,by simpa using j,by rw[List.take_succ_cons,List.foldl_cons];exact l,m,λn r d=>?_⟩;obtain⟨n,rfl⟩:∃k,n=k+1:=⟨n-1,by omega⟩
   exact o n (by omega) (by simpa using d)
  |none=>
   rw[b] at a;have f:(if t.ends (t.go q c)=-1 then none else some (1,t.go q c))=some (k,e):=a;split at f
   ·cases f
   ·rename_i s
    cases f
    refine⟨lQ,by simp,by simp,s,λn r d=>?_⟩;obtain⟨n,rfl⟩:∃k,n=k+1:=⟨n-1,by omega⟩
    exact zEt t cs _ b n (by omega) (by simpa using d)
def zDH (o:Option (Nat×Nat)):Nat:=match o with
 |none=>0
 |some (k,_)=>k
theorem zLb (d:Nat)(t:Tb)(a:Nat->Tb)(xs:List Nat)(o:∀n,n<=xs.length->Among d (t.ends ((xs.take n).foldl t.go (t.start 0))) λk=>(a k).ends ((xs.take n).foldl (a k).go ((a k).start 0))):
  (t.best (t.start 0) xs=none->∀k,k<d->zDH ((a k).best ((a k).start 0) xs)=0)/\∀n e,t.best (t.start 0) xs=some (n,e)->∃r:Nat,t.ends e=r/\r<d/\zDH ((a r).best ((a r).start 0) xs)=n/\(∀k,k<d->zDH ((a k).best ((a k).start 0) xs)<=n)/\∀k,k<r->zDH ((a k).best ((a k).start 0) xs)<n:=by
 refine⟨λq k j=>?_,λn e q=>?_⟩
 ·cases c:(a k).best ((a k).start 0) xs with
  |none=>rfl
  |some p=>
   obtain⟨n,e⟩:=p;obtain⟨s,f,l,m,-⟩:=zBx _ _ _ _ _ c;have:=(o n f).no (zEt _ _ _ q n s f) k j;rw[l] at this;exact absurd this m
 ·have ⟨y,b2,u,z,A⟩:=zBx _ _ _ _ _ q
  have ⟨r,v,w,B,C⟩:=(o n b2).yes (by rw[u];exact z);rw[u] at v;have le:∀k,k<d->zDH ((a k).best ((a k).start 0) xs)<=n:=by
   intro k j;cases c:(a k).best ((a k).start 0) xs with
   |none=>exact lX
   |some p=>
    obtain⟨b,x⟩:=p;obtain⟨s,f,l,m,-⟩:=zBx _ _ _ _ _ c;rcases Nat.lt_or_ge n b with g|g
    ·have:=(o b f).no (A b g f) k j
     rw[l] at this;exact absurd this m
    ·exact g
  refine⟨r,v,w,?_,le,λk j=>?_⟩
  ·have:=le r w
   cases c:(a r).best ((a r).start 0) xs with
   |none=>
    have:=zEt _ _ _ c n y b2;rw[B] at this;cases this
   |some p=>
    obtain⟨b,x⟩:=p;rw[c] at this;obtain⟨-,-,-,-,D⟩:=zBx _ _ _ _ _ c;show b=n;have this:b<=n:=this;rcases Nat.lt_or_ge b n with g|g
    ·grind
    ·omega
  ·have:=le k (by omega)
   cases c:(a k).best ((a k).start 0) xs with
   |none=>show 0<n;omega
   |some p=>
    obtain⟨b,x⟩:=p;rw[c] at this;obtain⟨-,-,l,m,-⟩:=zBx _ _ _ _ _ c;show b<n;have this:b<=n:=this;have:b≠n:=by grind
    omega
def jL (m:Nat->Nat):Nat->Nat×Nat
 |0=>(0,0)
 |k+1=>if(jL m k).1<m k then(m k,k) else jL m k
theorem zJm (m:Nat->Nat)(a:Nat)(b:∀k,k<a->m k=0):jL m a=(0,0):=by
 induction a with
 |zero=>rfl
 |succ a c=>
  rw[jL,c λk d=>b k (by omega),b a (by omega),if_neg (by simp)]
theorem zMz (m:Nat->Nat)(a n r:Nat)(d:r<a)(f:m r=n)(c:1<=n)(g:∀k,k<a->m k<=n)(h:∀k,k<r->m k<n):jL m a=(n,r):=by
 have low:∀j,j<=r->(jL m j).1<n:=by
  intro j l;induction j with
  |zero=>exact c
  |succ j b=>
   rw[jL];split
   ·grind
   ·exact b (by omega)
 induction a with
 |zero=>omega
 |succ a b=>
  rw[jL];by_cases e:r=a
  ·grind
  ·grind
theorem zEo (t:Tb)(a:t.Fine)(b:t.Dead)(c:t.stream=true->t.Sharp)(p:Nat)(s:ByteArray)(d:s.size<=t.hold):t.events p s=t.sp (nats s) (Rs.born t p):=by
 cases e:t.stream with
 |true=>exact zPu t a e (c e) p s
 |false=>
  rcases zPv t a e b p s with g|⟨g,_⟩
  ·exact g
  ·omega
theorem zGY (t:Tb)(xs:List Nat)(j:∀i,t.push i=0)(n:Nat):∀r:Rs,r.One->1<=r.depth->r.bAt<=xs.length->∀c∈t.spec xs n r,c.kind=3->∃f:Nat,t.best (t.start 0) (xs.drop f)=none/\f<=xs.length/\c.from_=f/\c.to=f:=by
 induction n with
 |zero=>intro r _ _ _ c a;cases a
 |succ n l=>
  intro r g m o c a b;rw[Tb.spec] at a;split at a
  ·rw[kY.1 a] at b;cases b
  ·have p:r.top t=t.start 0:=by unfold Rs.top;rw[g _ (by omega)]
   split at a
   ·rename_i d
    rw[kY.1 a];exact⟨r.bAt,by rw[<-p];exact d,o,rfl,rfl⟩
   ·rename_i k e d
    have q:=zCp t _ _ _ _ d;rw[List.length_drop] at q;rcases kU.1 a with a|a
    ·unfold Rs.tok at a
     split at a
     ·rw[kY.1 a] at b;cases b
     ·split at a
      ·rw[kY.1 a] at b;cases b
      ·grind
    ·split at a
     ·rename_i h
      have ⟨s,u⟩:=g.tok m t j _ _ _ _ h;exact l _ s u (by rw[(r.tok_at t _ _ _ _ h).1];omega) c a b
     ·cases a
theorem zOp (t:Tb)(p:Nat)(xs:List Nat)(b:∀i,t.act i=0):∃a c,t.sp xs (Rs.born t p)=a::c/\(if a.kind=1 then a.to else 0)=(zDH (t.best (t.start 0) xs):Nat):=by
 have d:(Rs.born t p).bAt=0:=rfl;have f:(Rs.born t p).top t=t.start 0:=rfl;rw[zLp t xs _ lX,d,f,List.drop_zero];split
 ·rename_i e
  have:xs=[]:=List.length_eq_zero_iff.1 e.symm;subst this;exact⟨_,_,rfl,rfl⟩
 ·cases h:t.best (t.start 0) xs with
  |none=>exact⟨_,_,rfl,rfl⟩
  |some q=>
   obtain⟨k,e⟩:=q;have g:((Rs.born t p).tok t (t.ends e).toNat (0+k) (lnT xs (0+k)) (clT xs (0+k))).2=[⟨1,((t.ends e).toNat:Nat),0,(0+k:Nat),1,1⟩]:=by
    unfold Rs.tok;rw[b,if_neg (by omega),if_neg (by omega),if_neg (by omega)];rfl
   refine⟨_,_,by dsimp only;rw[g];rfl,?_⟩;rw[if_pos rfl,Nat.zero_add];rfl
theorem zOe:(prog.info? 26).map (λi=>(i.zero,i.size,i.bytes))=some (some (pointer none),1,8):=by kernel_rfl
def zQj (l:ByteArray):Bool:=decide (4<l.size)&&eqS (l.extract 0 4) ⟨#[108,101,116,32]⟩
def zQf (l:ByteArray):Bool:=decide (5<l.size)&&eqS (l.extract 0 5) ⟨#[109,111,100,101,32]⟩
def zAO (lets l:ByteArray):ByteArray:=lets++⟨#[109,111,100,101,32,109,10,114,32,46]⟩++l.extract (blN l.data.toList 2 0) l.size
def zAa (ls:List ByteArray):Nat->ByteArray×List ByteArray
 |0=>(⟨#[]⟩,[])
 |j+1=>if zQj (ls.getD j ⟨#[]⟩) then((zAa ls j).1++ls.getD j ⟨#[]⟩,(zAa ls j).2) else if zQf (ls.getD j ⟨#[]⟩) then zAa ls j else((zAa ls j).1,(zAa ls j).2++[zAO (zAa ls j).1 (ls.getD j ⟨#[]⟩)])
theorem zQu (l:List UInt8):∀n i,blN l n i<=i+l.length:=by
 induction l with
 |nil=>intro n i;exact lX
 |cons c l a=>
  intro n i;rw[blN,hU];split
  ·split
   ·omega
   ·have:=a (n-1) (i+1);omega
  ·have:=a n (i+1);omega
theorem zMF (s:ByteArray)(j:Nat):∀l∈(xR s j).1,l.size<=s.size:=by
 induction j with
 |zero=>intro l a;cases a
 |succ j b=>
  intro l a;rw[xR] at a;split at a
  ·rcases kU.1 a with a|a
   ·exact b l a
   ·rw[kY.1 a,ByteArray.size_extract];omega
  ·exact b l a
def LxQ (w:World)(s:ByteArray)(x:Option Addr):Prop:=match vI s with
 |none=>x=none
 |some y=>∃B L t,x=some ⟨L,0,none⟩/\LexIn w B L y 64 false t
def LxS (w:World)(g:Option Nat)(s:ByteArray)(x:Option Addr):Prop:=∃B E,E<=w.heap.size/\(∀b,g=some b->b<B\/E<=b)/\∀w2,E<=w2.heap.size->(∀k,B<=k->k<E->w2.heap[k]? =w.heap[k]?)->LxQ w2 s x
theorem LxS.up {w w2:World}{g a:Option Nat}{s:ByteArray}{x:Option Addr}(d:LxS w g s x)(e:∀k,k<w.heap.size->some k≠g->w2.heap[k]? =w.heap[k]?)(v:w.heap.size<=w2.heap.size)(f:∀b,a=some b->g=some b\/w.heap.size<=b):LxS w2 a s x:=by
 obtain⟨B,j,y,c,l⟩:=d;exact⟨B,j,by omega,λb m=>(f b m).elim (c b) λq=>.inr (by omega),λo p r=>l o p λk t u=>(r k t u).trans (e k (by omega) λq=>by have:=c k q.symm;omega)⟩
theorem LxS.new {w w2:World}{g:Option Nat}{s:ByteArray}{x:Option Addr}{AH:Int}{ST:Bool}(a:OfQ s 64 false w.heap.size x AH ST w2)(d:∀b,g=some b->b<w.heap.size):LxS w2 g s x:=by
 refine⟨w.heap.size,w2.heap.size,lQ,λb e=>.inl (d b e),λm f j=>?_⟩;unfold OfQ at a;unfold LxQ;cases c:vI s with
 |none=>rw[c] at a;exact a
 |some y=>
  rw[c] at a;obtain⟨k,t,rfl,-,-,l⟩:=a;exact⟨_,k,t,rfl,l.keep j f⟩
def PtrsAt (w:World)(v:Value)(xs:List (Option Addr)):Prop:=∃ao cap,v=slice ao xs.length cap/\xs.length<=maxLen/\∀k,k<xs.length->∃g,ao=some ⟨g,0,none⟩/\g<w.heap.size/\w.cell? ⟨g,k,none⟩=some (pointer (xs.getD k none))
theorem zNO {w:World}{H e:Nat}{v:Value}{xs:List (Option Addr)}(a:w.ownsRow H e 1 v xs.length (xs.map Value.pointer)):PtrsAt w v xs:=by
 have ⟨ao,cap,b⟩:=zF a;refine⟨ao,cap,b,by have ⟨_,_,_,m,o⟩:=zCb a;omega,λk c=>?_⟩;obtain⟨g,c2,d,-,f,-,-,j,-⟩:=qH a (by omega);rw[b] at d;injection d with l;exact⟨g,l,f,j k _ (by rw[gZ,lV c,lW,lV c];rfl)⟩
theorem zMk {wr w2 d:World}{H e a cap:Nat}{v:Value}{xs:List (Option Addr)}{g:List ByteArray}{x:Option Addr}{p:ByteArray}{AH:Int}{ST:Bool}{o j:Obj}(w:wr.ownsRow H e 1 v xs.length (xs.map Value.pointer))(y:∀k,k<xs.length->LxS wr v.ownBlock (g.getD k ⟨#[]⟩) (xs.getD k none))(D:xs.length=g.length)(q:Grew wr w2)(z:OfQ p 64 false wr.heap.size x AH ST w2)(A:d.ownsRow H e 1 (slice (qX a) (xs.length+1) cap) (xs.length+1) (xs.map Value.pointer++[pointer x]))(r:((w2.alloc o).alloc j).grownBy d v.ownBlock)(B:v.ownBlock=some a\/a=((w2.alloc o).alloc j).heap.size):
  d.ownsRow H e 1 (slice (qX a) (xs.length+1) cap) (xs++[x]).length ((xs++[x]).map Value.pointer)/\∀k,k<(xs++[x]).length->LxS d (Value.slice (qX a) (xs.length+1) cap).ownBlock ((g++[p]).getD k ⟨#[]⟩) ((xs++[x]).getD k none):=by
 have E:((w2.alloc o).alloc j).heap.size=w2.heap.size+2:=by simp
 have C:=q.size;have F:=r.size;have s:∀k,k<w2.heap.size->some k≠v.ownBlock->d.heap[k]? =w2.heap[k]? :=λk f l=>(r.block k (by omega) l).trans ((lG _ _ _ (by simp;omega)).trans (lG _ _ _ f));have t:∀n:Nat,n<=w2.heap.size->∀b,(Value.slice (qX a) (xs.length+1) cap).ownBlock=some b->v.ownBlock=some b\/n<=b:=λn G b m=>by
  have:a=b:=by simpa[Value.ownBlock] using m
  subst this;rcases B with u|u
  ·exact .inl u
  ·exact .inr (by omega)
 refine⟨by rw[kX,List.map_append];exact A,λk f=>?_⟩;rw[kX,List.length_singleton] at f;by_cases c:k<xs.length
 ·rw[zY,zY,if_pos c,if_pos (by omega)]
  exact(y k c).up (λk f l=>(s k (by omega) l).trans (q.block k f (by omega))) (by omega) (t _ C)
 ·rw[zY,zY,if_neg c,if_neg (by omega),if_pos (by omega),if_pos (by omega)]
  exact(LxS.new z λb m=>(w.lt b m).2).up s (by omega) (t _ lQ)
theorem zIW (w:World)(s:ByteArray)(ac:s.size<=400):Calls prog 40 #[string s] w λe w'=>∃v xs,e=returned v/\PtrsAt w' v xs/\xs.length=(zAa (xR s s.size).1 (xR s s.size).1.length).2.length/\(∀k,k<xs.length->LxQ w' ((zAa (xR s s.size).1 (xR s s.size).1.length).2.getD k ⟨#[]⟩) (xs.getD k none))/\Grew w w':=by
 have ⟨aC,aD,aE,aF,aG⟩:=info_parts zOe;have ad:=vl (zJs w s (by omega));have O:Hid ((xR s s.size).1.length<=400/\∀l∈(xR s s.size).1,l.size<=400):=⟨lY (zJq s s.size).2 ac,λl aH=>lY (zMF s _ l aH) ac⟩
 generalize (xR s s.size).1=a at *;have ae:(⟨#[108,101,116,32]⟩:ByteArray).toList=[108,101,116,32]:=by rw[ByteArray.toList_eq]
 have af:(⟨#[109,111,100,101,32]⟩:ByteArray).toList=[109,111,100,101,32]:=by rw[ByteArray.toList_eq]
 have aI:Hid (∀j,zAa a (j+1)=if(decide (4<(a.getD j ⟨#[]⟩).size)&&(((a.getD j ⟨#[]⟩).extract 0 4).toList==[108,101,116,32])) then((zAa a j).1++a.getD j ⟨#[]⟩,(zAa a j).2) else if(decide (5<(a.getD j ⟨#[]⟩).size)&&(((a.getD j ⟨#[]⟩).extract 0 5).toList==[109,111,100,101,32])) then zAa a j else((zAa a j).1,(zAa a j).2++[zAO (zAa a j).1 (a.getD j ⟨#[]⟩)])):=λj=>by rw[<-ae,<-af];rfl
 have aJ:Hid (zAa a 0=(⟨#[]⟩,[])):=rfl;clear ae af;generalize zAa a=p at *;go_in;apply wp_cut;intro ag m;go_wp2;apply m.out;clear m;apply wp_cut;intro ag m;go_wp2;apply m.out;clear m;apply wp_cut;intro ag m;go_wp2_with (go_at_call 53;refine ad.mono ?_;rintro e w1 ⟨v,rfl,P,ah⟩;obtain⟨aK,a2,rfl⟩:=zF P)
 apply m.out;clear m ad;have a3:=O.1;have aL:Hid (∀j,j<a.length->∃g,aK=some ⟨g,0,none⟩/\g<w1.heap.size/\cX w1 g j=some (string (a.getD j ⟨#[]⟩))/\(a.getD j ⟨#[]⟩).size<=400):=λj t=>by
  obtain⟨g,c2,aM,-,aN,-,-,ai,-⟩:=qH P (by omega);injection aM with aO;refine⟨g,aO,aN,ai j _ (by rw[gZ,lV t,lW,lV t];rfl),O.2 _ ?_⟩;rw[lW,lV t];exact List.getElem_mem t
 have R:=vl ah;clear P ah O;go_wp2;go_loopg [3,5,6] a.length (λq aj lt i wr=>∃(j:Nat) (d:ByteArray) (f:List ByteArray) (xs:List (Option Addr)),q=a.length-j/\j<=a.length/\i=iX (j:Int)/\lt=string d/\p j=(d,f)/\xs.length=f.length/\xs.length<=j/\d.size<=400*j/\wr.ownsRow w1.heap.size 26 1 aj xs.length (xs.map Value.pointer)/\(∀k,k<xs.length->LxS wr aj.ownBlock (f.getD k ⟨#[]⟩) (xs.getD k none))/\Grew w1 wr)
 case atStart=>exact⟨0,⟨#[]⟩,[],[],rfl,lX,rfl,rfl,aJ,rfl,lQ,lX,ownsRow_nil _ _ _ _,λk S=>absurd S (Nat.not_lt_zero _),Keep.refl _ _ _⟩
 case round=>
  obtain⟨j,d,f,xs,ak,t,rfl,rfl,T,am,a4,a5,U,an,G⟩:=hrel;have I:=aI j;have ⟨ao,cap,aP⟩:=zF U;subst aP;have c:Hid (gk=a.length-j/\Grew w1 wr/\p j=(d,f)/\(∀k,k<xs.length->LxS wr (Value.slice ao xs.length cap).ownBlock (f.getD k ⟨#[]⟩) (xs.getD k none))/\xs.length=f.length):=⟨ak,G,T,an,am⟩
  have ap:=G.size;have z:=vl U;clear ak an U;rw[T] at I;dsimp only at I;clear T am;by_cases aQ:j<a.length
  ·have aR:(j:Int)<(a.length:Int):=by omega
   obtain⟨g,rfl,aq,ar,a6⟩:=aL j aQ;have y:=zA ar aq G;clear ar aq G;have V:blN (a.getD j ⟨#[]⟩).data.toList 2 0<=(a.getD j ⟨#[]⟩).size:=by
    have:=zQu (a.getD j ⟨#[]⟩).data.toList 2 0;rw[Nat.zero_add,Array.length_toList] at this;exact this
   have W:=vl (zJO wr (a.getD j ⟨#[]⟩) (by omega));have A:Hid (zAO d (a.getD j ⟨#[]⟩)=d++⟨#[109,111,100,101,32,109,10,114,32,46]⟩++(a.getD j ⟨#[]⟩).extract (blN (a.getD j ⟨#[]⟩).data.toList 2 0) (a.getD j ⟨#[]⟩).size):=rfl;generalize a.getD j ⟨#[]⟩=l at *;generalize blN l.data.toList 2 0=at_ at *;have J:Hid ((zAO d l).size<=1048576):=by
    show _<=_;rw[A.out,ByteArray.size_append,ByteArray.size_append,ByteArray.size_extract];show d.size+10+_<=_;omega
   have K:=vl (zFM wr (zAO d l) J 64 (by omega) (by omega) false);rw[A.out] at K;have a7:(at_:Int)<=(l.size:Int):=by omega
   have aS:(d++l).size<=400*(j+1):=by rw[ByteArray.size_append];omega
   have r:=vl I;clear I;generalize a8:((l.extract 0 4).toList==[108,101,116,32])=o at *;generalize ai:((l.extract 0 5).toList==[109,111,100,101,32])=L at *;have C:(4<l.size/\o=true)\/(4<l.size/\o=false/\5<l.size/\L=true)\/(¬4<l.size)\/(4<l.size/\o=false/\¬5<l.size)\/(4<l.size/\o=false/\5<l.size/\L=false):=by cases o <;> cases L <;> simp <;> omega
   rcases C with⟨c1,rfl⟩|⟨c1,rfl,c2,rfl⟩|C
   ·have M:(4:Int)<(l.size:Int):=by omega
    have D:Hid (p (j+1)=(d++l,f)):=by rw[r.out,dQ c1];rfl
    clear r c1 V W A J K;go_wp2;go_roundg (a.length-(j+1))
    case measure=>rw[c.out.1];omega
    case rel=>exact⟨j+1,d++l,f,xs,rfl,by omega,by go_num,rfl,D,c.2.2.2.2,by omega,aS,z,c.2.2.2.1,c.2.1⟩
   ·have M:(4:Int)<(l.size:Int):=by omega
    have X:(5:Int)<(l.size:Int):=by omega
    have D:Hid (p (j+1)=p j):=by rw[r.out,dQ c1,dQ c2];exact c.2.2.1.symm
    clear r c1 c2 V W A J K;go_wp2;go_roundg (a.length-(j+1))
    case measure=>rw[c.out.1];omega
    case rel=>exact⟨j+1,d,f,xs,rfl,by omega,by go_num,rfl,by rw[D.out];exact c.2.2.1,c.2.2.2.2,by omega,by omega,z,c.2.2.2.1,c.2.1⟩
   ·have D:Hid (p (j+1)=(d,f++[zAO d l])):=by
     rw[r.out];rcases C with c1|⟨c1,rfl,c2⟩|⟨c1,rfl,c2,rfl⟩
     ·rw[gG c1,gG (by omega)];rfl
     ·rw[dQ c1,gG c2];rfl
     ·rw[dQ c1,dQ c2];rfl
    have aT:¬(4:Int)<(l.size:Int)/\¬(5:Int)<(l.size:Int)\/((4:Int)<(l.size:Int)/\o=false/\¬(5:Int)<(l.size:Int))\/((4:Int)<(l.size:Int)/\o=false/\(5:Int)<(l.size:Int)/\L=false):=by
     rcases C with c1|⟨c1,e,c2⟩|⟨c1,e,c2,aU⟩
     ·exact .inl (by omega)
     ·exact .inr (.inl ⟨by omega,e,by omega⟩)
     ·exact .inr (.inr ⟨by omega,e,by omega,aU⟩)
    clear r C V J;rcases aT with⟨M,X⟩|⟨M,rfl,X⟩|⟨M,rfl,X,rfl⟩
    all_goals
     go_wp2_with (first|(go_at_call 54;refine W.mono ?_;rintro e a9 ⟨rfl,aV⟩;have aW:=aV.symm;subst aW)|(go_at_call 16;refine K.mono ?_;rintro e w2 ⟨F,x,m0,m1,m2,s0,s1,s2,v0,v1,v2,AH,ST,LN,rfl,au⟩;have Y:=vl (zL z (F.trans (kZ (H:=wr.heap.size) (b:=wr.heap.size) w2 (.cells #[slice m0 m1 m2,slice s0 s1 s2,slice v0 v1 v2,iX AH,bool ST,iX LN] 30) F.size)));have bb:=F.size;have av:Hid (∀j u,[Value.pointer x][j]? =some u->((w2.alloc (.cells #[slice m0 m1 m2,slice s0 s1 s2,slice v0 v1 v2,iX AH,bool ST,iX LN] 30)).alloc (.cells #[pointer x] 26)).cell? ((⟨w2.heap.size+1,0,none⟩:Addr).add j)=some u):=(by have aw:=cell_one_new (w2.alloc (.cells #[slice m0 m1 m2,slice s0 s1 s2,slice v0 v1 v2,iX AH,bool ST,iX LN] 30)) (pointer x) 26;have aX:(w2.alloc (.cells #[slice m0 m1 m2,slice s0 s1 s2,slice v0 v1 v2,iX AH,bool ST,iX LN] 30)).heap.size=w2.heap.size+1:=(by simp);rw[aX] at aw;exact aw);have N:=vl (And.intro F au);clear F au)|(at_builtin;refine wpList_append_lies _ rfl _ _ 73 rfl (w1.heap.size) 26 aC (pointer none) 1 8 underlying73 aD aE aF aG rfl (by decide) _ _ _ rfl (Y.alloc _) ⟨w2.heap.size+1,0,none⟩ 1 1 [pointer x] rfl rfl av (by intro u ax;simp at ax;subst ax;rfl) (by decide) (by unfold maxLen;omega) (by omega) (by simp;omega) _ rfl ?_;intro bc bd ay az aa aA be;have ab:=vl (zMk z c.2.2.2.1 c.2.2.2.2 N.1 N.2 az aa aA);have aB:Below w1.heap.size _ ay:=xU Y aa (by simp;omega)))
     have aY:Hid (Grew w1 ay):=(c.2.1.trans ((N.1.trans (kZ w2 (.cells #[slice m0 m1 m2,slice s0 s1 s2,slice v0 v1 v2,iX AH,bool ST,iX LN] 30) N.1.size)).lower ap ap)).trans (xS aB);rw[<-A.out] at ab;clear az aa aA aB Y av;go_wp2;go_roundg (a.length-(j+1))
     case measure=>rw[c.out.1];omega
     case rel=>exact⟨j+1,d,f++[zAO d l],xs++[x],rfl,by omega,by go_num,rfl,D,by rw[kX,kX,c.out.2.2.2.2];rfl,by rw[kX,List.length_singleton];omega,by omega,ab.1,ab.2,aY⟩
  ·have aR:¬(j:Int)<(a.length:Int):=by omega
   have aZ:j=a.length:=by omega
   subst aZ;go_wp2;go_ret;refine⟨_,rfl,xs,zNO z,by rw[c.out.2.2.1];exact c.2.2.2.2,λk S=>?_,R.trans (c.2.1.lower R.size R.size)⟩;rw[c.out.2.2.1];obtain⟨B,bf,a0,-,a1⟩:=c.2.2.2.1 k S;exact a1 wr a0 λ_ _ _=>rfl
theorem zQi (b:List (List UInt8)):∀(P:List UInt8) c,(∀a∈b,(10:UInt8)∉a)->xR (ba (P++Ln b)) P.length=(c,P.length)->(xR (ba (P++Ln b)) (P++Ln b).length).1=c++b.map λa=>ba (a++[10]):=by
 induction b with
 |nil=>intro P c _ d;simp[Ln] at d ⊢;rw[d]
 |cons a b g=>
  intro P c f d;have j:=f a gQ;have e:P++Ln (a::b)=(P++(a++[10]))++Ln b:=by rw[zCN];simp
  have go:∀i,i<=a.length->xR (ba (P++Ln (a::b))) (P.length+i)=(c,P.length):=by
   intro i o;induction i with
   |zero=>exact d
   |succ i k=>
    rw[<-Nat.add_assoc,xR,k (by omega),if_neg];rw[zGl,zCN,lW,hZ (by omega),hY,kW (by omega),lV (by omega)];intro q;have q2:a[i]=10:=UInt8.toNat_inj.1 q;exact j (q2 ▸ List.getElem_mem (by omega))
  have l:(P++(a++[10])).length=P.length+a.length+1:=by simp;omega
  rw[List.map_cons,e,g (P++(a++[10])) (c++[ba (a++[10])]) (λx m=>f x (List.mem_cons_of_mem _ m)),gX,List.singleton_append];rw[<-e,l,xR,go a.length lQ,if_pos]
  ·dsimp only
   rw[zEu,e];rw[show P++(a++[10])++Ln b=P++((a++[10])++Ln b) by simp,List.drop_left,List.take_left' (by simp;omega)]
  ·rw[zGl,zCN,lW,hZ (by omega),hY,hZ lQ,Nat.sub_self]
   rfl
theorem zQh (b:List (List UInt8))(c:∀a∈b,(10:UInt8)∉a):(xR (ba (Ln b)) (Ln b).length).1=(b.map (·++[10])).map ba:=by
 have:=zQi b [] [] c rfl;rw[List.nil_append,List.nil_append] at this;rw[this,List.map_map];rfl
theorem zN3 (l:List UInt8):zQj (ba l)=zFZ l/\zQf (ba l)=zFX l:=by
 unfold zQj zQf zFZ zFX;rw[zAh,zEu,zEu]
 constructor <;> rw[Bool.eq_iff_iff,Bool.and_eq_true,Bool.and_eq_true,beq_iff_eq]
 ·rw[show (⟨#[108,101,116,32]⟩:ByteArray)=ba [108,101,116,32] from rfl,zA5];rfl
 ·rw[show (⟨#[109,111,100,101,32]⟩:ByteArray)=ba [109,111,100,101,32] from rfl,zA5];rfl
theorem zQa (a l:List UInt8):zAO (ba a) (ba l)=ba (a++zQe++l.drop (blN l 2 0)):=by
 unfold zAO;rw[show (⟨#[109,111,100,101,32,109,10,114,32,46]⟩:ByteArray)=ba zQe from rfl,zLe,zEu,zLe,zAh,show(ba l).data.toList=l by simp[ba],List.take_of_length_le (by rw[List.length_drop];omega)]
theorem zQJ (a:List (List UInt8)):(zAa (a.map ba) a.length).2=(zAm [] a).map ba:=by
 have go:∀j,j<=a.length->∃b,(zAa (a.map ba) j).1=ba b/\(zAm [] a).map ba=(zAa (a.map ba) j).2++(zAm b (a.drop j)).map ba:=by
  intro j h;induction j with
  |zero=>exact⟨[],rfl,rfl⟩
  |succ j g=>
   have ⟨b,d,c⟩:=g (by omega);have f:j<a.length:=by omega
   have e:(a.map ba).getD j ⟨#[]⟩=ba a[j]:=by rw[lW,gZ,lV f];rfl
   rw[List.drop_eq_getElem_cons f,zAm] at c;rw[zAa,e,(zN3 _).1,(zN3 _).2,d,zLe,zQa];split
   ·grind
   ·grind
 have ⟨b,d,c⟩:=go a.length lQ;rw[c,List.drop_length];simp[zAm]
theorem zN1 (f:Nat):∀sh n s g D,yD f sh n s=.inl g->s.size<=1000->ShOk sh D->vR sh->ShOk g (D+6*s.size)/\vR g:=by
 induction f with
 |zero=>intro sh n s g D e _ ok few;cases e;exact⟨ok.deep (by omega),few⟩
 |succ f j=>
  intro sh n s g D e m ok few;rw[yD] at e;split at e
  ·grind
  ·split at e
   ·rename_i k
    have o:=zHv k;split at e
    ·cases e
    ·rename_i p r
     have ⟨a,b⟩:=zEF r (by omega) ok few;have ⟨c,l⟩:=j _ _ _ _ _ e (by omega) a b;exact⟨c.deep (by omega),l⟩
   ·cases e
theorem zOr {D:Nat}{sh:Sh}(ok:ShOk sh D)(few:vR sh)(fit:sh.fitB=true){j:Nat}(a:j<sh.modes.length):ModeFacts D (sh.mode j).2:=by
 have b:=lY (few j a) ok.acts;have c:=(of_decide_eq_true fit) j a;have d:zS (xW D) (sh.mode j).2 (sh.mode j).2.length<=24:=by rw[zHw D _ (ok.rules j a) _ lQ c];exact c
 have e:=zIa D (sh.mode j).2 d b;exact⟨d,b,e,zIV (zFT D _ (ok.rules j a) _ lQ) e.len⟩
structure OneLex (s:ByteArray)(y:List Sm×Sh)(m:Sm):Prop where
 ms:y.1=[m]
 mode:zBf (1+6*s.size) (y.2.mode 0).2 200=some m
 facts:ModeFacts (1+6*s.size) (y.2.mode 0).2
 trees:∀t∈(y.2.mode 0).2,TrOk (1+6*s.size) t
 rd:Rd Sh.none s.data.toList y.2
 size:s.size<=400
theorem zCE {s:ByteArray}{y:List Sm×Sh}(a:vI s=some y):s.size<=400/\yD (s.size+1) Sh.none 1 s=.inl y.2/\y.2.fitB=true/\xV (1+6*s.size) y.2 y.2.modes.length 0 200=some y.1:=by
 unfold vI zAj jJ at a;split at a
 ·grind
 ·cases a
theorem zLE {s:ByteArray}{y:List Sm×Sh}(g:vI s=some y)(k:y.2.modes.length=1):∃m,OneLex s y m:=by
 have ⟨a,b,c,e⟩:=zCE g;have ⟨ok,few⟩:=zN1 _ _ _ _ _ 1 b (by omega) (zG7 1) λi l=>absurd l (Nat.not_lt_zero _);have f:=zOr ok few c (j:=0) (by omega);rw[k,xV] at e;split at e
 ·cases e
 ·rename_i m o
  injection e with e;exact⟨m,e.symm,o,f,ok.rules 0 (by omega),⟨s.size+1,1,by rw[Array.length_toList];exact Nat.lt_succ_self _,b⟩,a⟩
theorem zPK {sh:Sh}{l:List UInt8}{a b:Sh}(e:Rd sh l a)(g:Rd sh l b):a=b:=by
 obtain⟨f,n,k,e⟩:=e;obtain⟨j,m,o,g⟩:=g;have d:=zHf _ _ _ m _ _ e;rcases Nat.le_total f j with c|c
 ·rw[zDe f j _ _ _ k c,d] at g
  injection g
 ·rw[zDe j f _ _ _ o c,g] at d
  injection d with d;exact d.symm
theorem zMt {s:ByteArray}{y:List Sm×Sh}{m:Sm}(o:OneLex s y m)(J:y.2.modes.length=1):
  (y.2.mode 0).2.length=(zAa (xR s s.size).1 (xR s s.size).1.length).2.length/\∀k g,k<(y.2.mode 0).2.length->vI ((zAa (xR s s.size).1 (xR s s.size).1.length).2.getD k ⟨#[]⟩)=some g->g.2.acts=[0]/\g.2.pushed=[⟨#[]⟩]/\∃j,g.1=[j]/\∀bs:List Nat,(∀b∈bs,b<256)->j.rl bs=(zC (1+6*s.size) [(y.2.mode 0).2.getD k Tr.none] 1).rl bs:=by
 have ⟨f,t,u⟩:=zJ4 _ _ _ _ lQ o.rd;have v:s=ba (Ln f):=by rw[<-u];rfl
 have D:s.size=(Ln f).length:=by rw[v,zAh]
 have e:(xR s s.size).1=(f.map (·++[10])).map ba:=by rw[D];rw[v];exact zQh f t
 have w:=o.rd;rw[u] at w;have ⟨p,u1,u2,u3⟩:=zNB f Sh.none [] y.2 t w (by omega) λX x E=>E;have A:(y.2.mode 0).2=p:=by rw[u1];rfl
 rw[e,show((f.map (·++[10])).map ba).length=(f.map (·++[10])).length from kV ..,zQJ,kV,<-u2,A];refine⟨rfl,λk g B r=>?_⟩;have F:((zAm [] (f.map (·++[10]))).map ba).getD k ⟨#[]⟩=ba ((zAm [] (f.map (·++[10]))).getD k []):=by grind
 rw[F] at r;have ⟨defs,G⟩:=u3 k B;have ⟨a,b,c,K⟩:=zCE r;have l:=zPK ⟨_,_,by rw[zAh];exact Nat.lt_succ_self _,b⟩ G;have ⟨j,ok⟩:=zLE r (by rw[l];rfl);refine⟨by rw[l],by rw[l],j,ok.ms,λbs H=>?_⟩;have I:(g.2.mode 0).2=[p.getD k Tr.none]:=by rw[l];rfl
 have q:=zLB ok.mode ok.facts bs H;have C:=ok.trees;rw[I] at q C;rw[q];show(zC _ [p.getD k Tr.none] 1).rl bs=_;rw[zN7 (C _ gQ) (o.trees _ (by rw[A];exact zDX B))]
theorem zNN {s:ByteArray}{y:List Sm×Sh}{m:Sm}(o:OneLex s y m)(t:Tb)(u:Nat->Tb)(p:Nat)(F:t.Fine)(G:t.Dead)(H:t.stream=true->t.Sharp)(C:∀i,t.push i=0)(S:t.hold=64)(I:∀bs:List Nat,(∀b∈bs,b<256)->t.ends (bs.foldl t.go (t.start 0))=m.rl bs)(w:∀k,k<(y.2.mode 0).2.length->∀bs:List Nat,(∀b∈bs,b<256)->(u k).ends (bs.foldl (u k).go ((u k).start 0))=(zC (1+6*s.size) [(y.2.mode 0).2.getD k Tr.none] 1).rl bs)
  (a:ByteArray) (T:a.size<=64) (g:Ev) (z:g∈t.events p a) (v:g.kind=1\/g.kind=3):∃f n r:Nat,g.from_=f/\g.to=(f+n:Nat)/\f+n<=a.size/\jL (λk=>zDH ((u k).best ((u k).start 0) (nats (a.extract f a.size)))) (y.2.mode 0).2.length=(n,r)/\(0<n->g.rule=r):=by
 rw[zEo t F G H p a (by omega)] at z;have D:(Rs.born t p).One:=λj _=>rfl;have E:∀f,f<=a.size->nats (a.extract f a.size)=(nats a).drop f:=λf U=>by
  have:=zKE a f (a.size-f) (by omega);rw[show f+(a.size-f)=a.size by omega] at this;rw[this,List.take_of_length_le (by rw[List.length_drop,qG];omega)]
 have ba:=λf=>zLb (y.2.mode 0).2.length t u ((nats a).drop f) (λn V=>by
  have l:∀b∈((nats a).drop f).take n,b<256:=λb l=>zDE a b (List.mem_of_mem_drop (List.mem_of_mem_take l));rw[I _ l,zLB o.mode o.facts _ l];have r:=zNF o.facts.cnt o.facts.eight (((nats a).drop f).take n);exact⟨λk c=>by rw[w k c _ l];exact r.two k c,λe k c=>by rw[w k c _ l];exact r.no e k c,λe=>by
   have ⟨q,J,q2,q3,q4⟩:=r.yes e;exact⟨q,J,q2,by rw[w q q2 _ l];exact q3,λk c=>by rw[w k (by omega) _ l];exact q4 k c⟩⟩)
 rcases v with v|v
 ·obtain⟨f,k,e,x,b2,A,B,K,-⟩:=zIN t (nats a) C _ _ D lQ lX g z v
  rw[qG] at b2;have ⟨r,L,M,N,O,P⟩:=(ba f).2 k e x;have R:=(zCp t _ _ _ _ x).1;refine⟨f,k,r,B,K,b2,?_,λ_=>by rw[A,L];simp⟩;rw[E f (by omega)];exact zMz _ _ k r M N R O P
 ·have ⟨f,x,b2,A,B⟩:=zGY t (nats a) C _ _ D lQ lX g z v
  rw[qG] at b2;refine⟨f,0,0,A,by rw[B];simp,b2,?_,λc=>absurd c (Nat.lt_irrefl _)⟩;rw[E f b2];exact zJm _ _ ((ba f).1 x)
theorem zEq (w:World)(s:ByteArray)(aa:s.size<=65536):Calls prog 39 #[string s] w λe w'=>e=returned (tuple #[iX (vE s s.size:Nat),bool (zBY s s.size)])/\w'=w:=by
 have u:(⟨#[109,111,100,101,32]⟩:ByteArray).toList=[109,111,100,101,32]:=by rw[ByteArray.toList_eq]
 have v:(⟨#[32,60,32]⟩:ByteArray).toList=[32,60,32]:=by rw[ByteArray.toList_eq]
 have y:Hid (∀j,mdB s j=((decide (j=0)||decide (byt s (j-1)=10))&&(decide (5<s.size-j)&&((s.extract j (j+5)).toList==[109,111,100,101,32])))):=λj=>by rw[<-u];rfl
 have z:Hid (∀j,pdB s j=(decide (3<s.size-j)&&((s.extract j (j+3)).toList==[32,60,32]))):=λj=>by rw[<-v];rfl
 have A:Hid (∀j,vE s (j+1)=if mdB s j then vE s j+1 else vE s j):=λj=>rfl;have B:Hid (∀j,zBY s (j+1)=(zBY s j||pdB s j)):=λj=>rfl;have C:Hid (∀j,vE s j<=j):=λj=>by
  show vE s j<=j;induction j with
  |zero=>exact lQ
  |succ j ab=>rw[vE];split <;> omega
 have f:Hid (vE s 0=0/\zBY s 0=false):=⟨rfl,rfl⟩
 clear u v;generalize vE s=b at *;generalize zBY s=pt at *;generalize mdB s=O at *;generalize pdB s=P at *;go_in;go_wp2;go_loopg [4,5,6] s.size (λq n p i wr=>∃j:Nat,q=s.size-j/\j<=s.size/\n=iX (b j:Nat)/\p=bool (pt j)/\i=iX (j:Int)/\wr=w)
 case atStart=>exact⟨0,rfl,lX,by rw[f.out.1];rfl,by rw[f.out.2],rfl,rfl⟩
 case round=>
  obtain⟨j,D,ac,rfl,rfl,rfl,rfl⟩:=hrel;have R:=vl D;clear D;have ad:=C j;by_cases ae:j<s.size
  ·have S:(j:Int)<(s.size:Int):=by omega
   have m0:=y j;have E:=z j;have m1:=A j;have F:=B j;have T:Hid (vE s=b->True):=λ_=>trivial;generalize b j=n at *;generalize pt j=c at *;obtain⟨k,G⟩:∃k,k=j-1:=⟨_,rfl⟩
   rw[<-G] at m0;have H:((j:Int)==0)=false->(j:Int)-1=(k:Int):=by
    intro U;rw[hX] at U;omega
   have af:(k:Int)<(s.size:Int)/\0<=(k:Int):=by omega
   have V:k<s.size:=by omega
   have ag:=zCn s k V;have I:decide (j=0)=((j:Int)==0):=by rw[Bool.eq_iff_iff,decide_eq_true_eq,beq_iff_eq];omega
   have J:decide (byt s k=10)=((byt s k:Int)==10):=by rw[Bool.eq_iff_iff,decide_eq_true_eq,beq_iff_eq];omega
   rw[I,J] at m0;clear G I J;have g:Hid (b (j+1)=(if O j then n+1 else n)/\pt (j+1)=(c||P j)):=⟨m1,F⟩
   rw[m0,E] at g;clear m0 E m1 F T y z A B C f;generalize byt s k=x at *;generalize ah:((j:Int)==0)=d at *;generalize ai:((x:Int)==10)=l at *;generalize m:decide (5<s.size-j)=b2 at *;generalize aj:((s.extract j (j+5)).toList==[109,111,100,101,32])=o at *;generalize r:decide (3<s.size-j)=a at *;generalize ak:((s.extract j (j+3)).toList==[32,60,32])=t at *;have W:(d=false/\l=false)\/((d=true\/d=false/\l=true)/\(b2=false\/b2=true/\(o=false\/o=true))):=by cases d <;> cases l <;> cases b2 <;> cases o <;> simp
   have X:c=true\/c=false/\(a=false\/a=true/\(t=false\/t=true)):=by cases c <;> cases a <;> cases t <;> simp
   have K:b2=true->(5:Int)<(s.size:Int)-(j:Int):=by rw[<-m,decide_eq_true_eq];omega
   have L:b2=false->¬((5:Int)<(s.size:Int)-(j:Int)):=by rw[<-m,decide_eq_false_iff_not];omega
   have M:a=true->(3:Int)<(s.size:Int)-(j:Int):=by rw[<-r,decide_eq_true_eq];omega
   have N:a=false->¬((3:Int)<(s.size:Int)-(j:Int)):=by rw[<-r,decide_eq_false_iff_not];omega
   clear m r;rcases W with⟨rfl,rfl⟩|⟨rfl|⟨rfl,rfl⟩,rfl|⟨rfl,rfl|rfl⟩⟩ <;> rcases X with rfl|⟨rfl,rfl|⟨rfl,rfl|rfl⟩⟩
   all_goals
    try replace H:=H rfl
    try replace K:=K rfl
    try replace L:=L rfl
    try replace M:=M rfl
    try replace N:=N rfl
    go_wp2;go_roundg (s.size-(j+1))
    case measure=>rw[R.out];omega
    case rel=>exact⟨j+1,rfl,by omega,by rw[g.out.1];go_num,by rw[g.out.2];rfl,by go_num,rfl⟩
  ·have S:¬(j:Int)<(s.size:Int):=by omega
   have Y:j=s.size:=by omega
   subst Y;go_wp2;refine gJ (results_tmp2 rfl _ _ _) rfl ?_;exact⟨rfl,rfl⟩
theorem EvsAt.at {w:World}{v:Value}{a:List Ev}(c:EvsAt w v a)(i:Nat)(d:i<a.length):∃g cap,v=slice (qX g) a.length cap/\w.cell? ⟨g,i*6,none⟩=some (iX (a.getD i ⟨0,0,0,0,0,0⟩).kind)/\w.cell? ⟨g,i*6+1,none⟩=some (iX (a.getD i ⟨0,0,0,0,0,0⟩).rule)/\w.cell? ⟨g,i*6+2,none⟩=some (iX (a.getD i ⟨0,0,0,0,0,0⟩).from_)/\w.cell? ⟨g,i*6+3,none⟩=some (iX (a.getD i ⟨0,0,0,0,0,0⟩).to)/\w.cell? ⟨g,i*6+4,none⟩=some (iX (a.getD i ⟨0,0,0,0,0,0⟩).line)/\w.cell? ⟨g,i*6+5,none⟩=some (iX (a.getD i ⟨0,0,0,0,0,0⟩).col):=by
 obtain⟨ao,cap,rfl,-,-,e⟩:=c;obtain⟨g,rfl,-,b⟩:=e i d;exact⟨g,cap,rfl,b 0 _ rfl,b 1 _ rfl,b 2 _ rfl,b 3 _ rfl,b 4 _ rfl,b 5 _ rfl⟩
theorem zQL {s:ByteArray}{y:List Sm×Sh}(a:vI s=some y):∀m∈y.1,m.Z:=by
 unfold vI at a;cases b:zAj s 200 64 with
 |inl x=>
  rw[b] at a;cases a
  exact zQN (ms:=y.1) (sh:=y.2) b
 |inr e=>rw[b] at a;cases a
theorem zEW {w:World}{S:Nat->Prop}{c p:Nat}{t:Tb}(m:LexAt w S c p t)(f:t.Fine)(o:t.Dead)(q:t.stream=true->t.Sharp)(r:∀i,t.act i=0)(a:ByteArray)(s:a.size<=t.hold)(u:a.size<=1048576):Calls prog 41 #[pX c,string a] w λe w'=>e=returned (iX (zDH (t.best (t.start 0) (nats a)):Nat))/\Grew w w':=by
 have g:=vl (zEB m f a u);have ⟨x,E,y,z⟩:=zOp t p (nats a) r;rw[zEo t f o q p a s,y] at g;rw[<-z];go_in;apply wp_cut;intro A b;go_wp2;apply b.out;apply wp_cut;intro A b;go_wp2_with (go_at_call 27;refine g.mono ?_;rintro e w1 ⟨v,rfl,B,C⟩;obtain⟨F,G,rfl,-,-,D⟩:=B)
 apply b.out;obtain⟨H,rfl,-,h⟩:=D 0 (Nat.succ_pos _);have I:=h 0 _ rfl;have J:=h 3 _ rfl;have j:=vl C;obtain⟨k,K,M,N,O,P⟩:=x;by_cases l:k=1
 ·subst l
  go_wp2;refine gJ (results_tmp rfl _ _ _) rfl ?_;exact⟨rfl,j⟩
 ·have R:(k==1)=false:=by rw[hX];exact l
  go_wp2;refine gJ (results_tmp rfl _ _ _) rfl ?_;exact⟨rfl,j⟩
theorem LexIn.good {w:World}{B l:Nat}{s:ByteArray}{y:List Sm×Sh}{t:Tb}(f:vI s=some y)(c:LexIn w B l y 64 false t):t.Dead/\(t.stream=true->t.Sharp)/\t.hold=64/\(∀m,y.1=[m]->∀bs:List Nat,(∀b∈bs,b<256)->t.ends (bs.foldl t.go (t.start 0))=m.rl bs)/\(∀i,t.act i=((ints y.2.acts).getD i 0).toNat)/\(y.1.length=1->∀i,t.push i=0):=by
 have ⟨n,a,g⟩:=c.made;obtain⟨-,-,-,-,-,o,p,-⟩:=zEm y.1 (ints y.2.acts) (y.2.pushesTo y.2.pushed.length) 64 n false;refine⟨by rw[a];exact zHo g (by rw[<-a];exact c.fine.ok),λd=>?_,by rw[a];unfold vA vN;split <;> rw[vX] <;> rfl,λm j bs q=>?_,λi=>by rw[a,o];rfl,λx i=>?_⟩
 ·have r:zBA y false=true:=by
   cases e:zBA y false with
   |true=>rfl
   |false=>
    rw[a] at d;unfold vA at d;unfold zBA at e;rw[if_neg (by rw[e];decide)] at d;unfold vN at d;rw[vX] at d;cases d
  rw[a];exact zKU c.modes (zQL f) r g (by rw[<-a];exact c.fine.ok)
 ·have k:=c.modes
  rw[j] at k;rw[a,j];exact zPs k _ _ _ _ _ bs q
 ·have z:t.nmode=y.1.length:=by rw[a];unfold vA vN;split <;> rw[vX] <;> rfl
  have u:t.nrule=(ints y.2.acts).length:=by rw[a];unfold vA vN;split <;> rw[vX] <;> rfl
  by_cases v:i<t.nrule
  ·have:=c.fine.ok.push i v
   omega
  ·rw[a,p]
   show((y.2.pushesTo y.2.pushed.length).getD i 0).toNat=0;rw[lW,List.getElem?_eq_none (by rw[qD,(zHg f).2.2];rw[zP] at u;omega)];rfl
theorem zPa {s:ByteArray}{y:List Sm×Sh}(A:vI s=some y)(ay:vE s s.size=1){w:World}{B W:Nat}{t:Tb}(C:LexIn w B W y 64 false t)(p:Nat)(a:ByteArray)(X:a.size<=64){w1:World}{xs:List (Option Addr)}(Y:xs.length=(zAa (xR s s.size).1 (xR s s.size).1.length).2.length)(aa:∀k,k<xs.length->LxQ w1 ((zAa (xR s s.size).1 (xR s s.size).1.length).2.getD k ⟨#[]⟩) (xs.getD k none)):
  ∃I:Nat->Nat->Nat,(∀k f,k<xs.length->f<=a.size->xs.getD k none=none\/∃b,xs.getD k none=some ⟨b,0,none⟩/\∀D,Grew w1 D->Calls prog 41 #[pX b,string (a.extract f a.size)] D λe w'=>e=returned (iX (I f k:Nat))/\Grew D w')/\∀c∈t.events p a,c.kind=1\/c.kind=3->∃f n r:Nat,c.from_=f/\c.to=(f+n:Nat)/\f+n<=a.size/\((∀k,k<xs.length->xs.getD k none≠none)->jL (I f) xs.length=(n,r)/\(0<n->c.rule=r)):=by
 have az:=(zHg A).1;have J:y.2.modes.length=1:=by
  have:=zBI _ _ _ _ _ _ (zCE A).2.2.2;have:=C.modes.one;omega
 have ⟨m,o⟩:=zLE A J;have ⟨ab,M⟩:=zMt o J;have ⟨N,O,ac,ad,aA,G⟩:=C.good A;have ae:=Y.trans ab.symm;have af:∀k,∃l:Tb,k<xs.length->xs.getD k none=none\/∃B b g,xs.getD k none=some ⟨b,0,none⟩/\vI ((zAa (xR s s.size).1 (xR s s.size).1.length).2.getD k ⟨#[]⟩)=some g/\LexIn w1 B b g 64 false l:=by
  intro k;by_cases u:k<xs.length
  ·have q:=aa k u
   unfold LxQ at q;cases e:vI ((zAa (xR s s.size).1 (xR s s.size).1.length).2.getD k ⟨#[]⟩) with
   |none=>rw[e] at q;exact⟨t,λ_=>.inl q⟩
   |some g=>
    rw[e] at q;obtain⟨B,b,l,E,q2⟩:=q;exact⟨l,λ_=>.inr ⟨B,b,g,E,rfl,q2⟩⟩
  ·exact⟨t,λx=>absurd x u⟩
 have ⟨l,P⟩:=Classical.axiomOfChoice af;refine⟨λf k=>zDH ((l k).best ((l k).start 0) (nats (a.extract f a.size))),λk f u aB=>?_,λc F v=>?_⟩
 ·rcases P k u with q|⟨B,b,g,E,q2,q3⟩
  ·exact .inl q
  ·refine .inr ⟨b,E,λD ag=>?_⟩
   obtain⟨ah,aC,-⟩:=M k g (by omega) q2;obtain⟨ai,aj,aD,-,ak,-⟩:=q3.good q2;obtain⟨S,p,al,-⟩:=q3.at_;have aE:(a.extract f a.size).size<=64:=by rw[ByteArray.size_extract];omega
   refine zEW (al.grown ag) q3.fine ai aj (λi=>?_) _ (by omega) (by omega);rw[ak,ah];cases i <;> rfl
 ·by_cases R:∀k,k<xs.length->xs.getD k none≠none
  ·have ⟨f,n,r,am,an,ao,ap,aq⟩:=zNN o t l p C.fine N O (G (by rw[o.ms];rfl)) ac (ad m o.ms) (λk u bs T=>by
    rcases P k (by omega) with q|⟨B,b,g,E,q2,q3⟩
    ·grind
    ·obtain⟨-,-,ar,au,av⟩:=M k g u q2
     rw[<-av bs T];exact(q3.good q2).2.2.2.1 ar au bs T) a X c F v
   exact⟨f,n,r,am,an,ao,λ_=>⟨by rw[ae];exact ap,aq⟩⟩
  ·rw[zEo t C.fine N O p a (by omega)] at F
   have U:(Rs.born t p).One:=λj _=>rfl;rcases v with v|v
   ·obtain⟨f,k,e,aw,b2,V,H,ax,-⟩:=zIN t (nats a) (G (by rw[o.ms];rfl)) _ _ U lQ lX c F v
    rw[qG] at b2;exact⟨f,k,0,H,ax,b2,λx=>absurd x R⟩
   ·have ⟨f,aw,b2,V,H⟩:=zGY t (nats a) (G (by rw[o.ms];rfl)) _ _ U lQ lX c F v
    rw[qG] at b2;exact⟨f,0,0,V,by rw[H];simp,b2,λx=>absurd x R⟩
theorem PtrsAt.grown {w w2:World}{v:Value}{xs:List (Option Addr)}(a:PtrsAt w v xs)(b:Grew w w2):PtrsAt w2 v xs:=by
 obtain⟨ao,cap,d,e,a⟩:=a;refine⟨ao,cap,d,e,λk f=>?_⟩;have ⟨g,j,c,l⟩:=a k f;exact⟨g,j,lZ c b.size,zA l c b⟩
theorem zMv (w:World)(s A:ByteArray)(B ad:Nat)(y:List Sm×Sh)(t:Tb)(ae:vI s=some y)(U:LexIn w B ad y 64 false t)(a9:A.size<=64):
  Calls prog 25 #[string s,pX ad,string A] w λe w'=>e=returned (bool true)/\Grew w w':=by
 have bb:=(zCE ae).1;have af:=vl (zEq w s (by omega));obtain⟨S,p,aF,-⟩:=U.at_;have ag:Hid (∀w2,Grew w w2->Ca 27 #[pX ad,string A] w2 λe w'=>∃v,e=returned v/\EvsAt w' v (t.events p A)/\Grew w2 w'):=λw2 x=>zEB (aF.grown x) U.fine A (by omega);have ah:=vl (zIW w s bb);have ai:Hid (∀(w1:World) (xs:List (Option Addr)),vE s s.size=1->xs.length=(zAa (xR s s.size).1 (xR s s.size).1.length).2.length->(∀k,k<xs.length->LxQ w1 ((zAa (xR s s.size).1 (xR s s.size).1.length).2.getD k ⟨#[]⟩) (xs.getD k none))->_):=λw1 xs aG M aj=>zPa ae aG U p A a9 (w1:=w1) M aj;have bH:vE s s.size<=s.size:=by
  have:∀j,vE s j<=j:=λj=>by
   induction j with
   |zero=>exact lQ
   |succ j bI=>rw[vE];split <;> omega
  exact this _
 clear U aF ae;generalize vE s s.size=n at *;generalize zBY s s.size=bJ at *;generalize (zAa (xR s s.size).1 (xR s s.size).1.length).2=bK at *;generalize t.events p A=m at *;by_cases aH:n=1
 rotate_left
 ·have ak:¬((n:Int)=1):=by omega
  clear aH ai ag ah;go_in;go_wp2_with (go_at_call 39;refine af.mono ?_;rintro e bc ⟨rfl,al⟩;have am:=al.symm;subst am)
  refine gJ (results_tmp rfl _ _ _) rfl ?_;exact⟨rfl,Keep.refl _ _ _⟩
 subst aH;go_in;apply wp_cut;intro V u;go_wp2;apply u.out;clear u;apply wp_cut;intro V u;go_wp2_with (go_at_call 39;refine af.mono ?_;rintro e bc ⟨rfl,al⟩;have am:=al.symm;subst am)
 apply u.out;clear u af;apply wp_cut;intro V u;go_wp2;apply u.out;clear u;apply wp_cut;intro V u;go_wp2_with (go_at_call 40;refine ah.mono ?_;rintro e w1 ⟨v,xs,rfl,aI,aJ,aK,an⟩)
 apply u.out;clear u ah;have ⟨D,aL,aM⟩:=ai w1 xs (by trivial) aJ aK;have bd:=vl aL;have be:=vl aM;have aN:=vl aI;obtain⟨bf,bL,rfl,bg,-⟩:=aI;unfold maxLen at bg;clear aL aM ai aJ aK;apply wp_cut;intro V u;go_wp2_with (go_at_call 27;refine(ag w1 an).mono ?_;rintro e w2 ⟨v,rfl,aO,N⟩)
 apply u.out;clear u ag;have aP:=vl aO;obtain⟨ao,cap,rfl,aG,ap,-⟩:=aO;have F:Hid (Grew w w2/\Grew w1 w2):=⟨an.th N,N⟩
 have aQ:Hid (∀C,Grew w2 C->∀k,k<xs.length->∃g,bf=some ⟨g,0,none⟩/\cX C g k=some (pointer (xs.getD k none))):=λC W k x=>by
  obtain⟨bM,c2,P,-,bh⟩:=(aN.grown F.2).grown W;obtain⟨g,X,-,aR⟩:=bh k x;injection P with I;exact⟨g,I.trans X,aR⟩
 clear an N aN;have bN:m.length<=9223372036854775807:=by unfold maxLen at ap;omega
 have bi:Hid (∀j,j<m.length->m.getD j ⟨0,0,0,0,0,0⟩∈m):=λj aq=>by
  rw[lW,lV aq,Option.getD_some];exact List.getElem_mem aq
 go_wp2;go_loopg [11] m.length (λq i wr=>∃j:Nat,q=m.length-j/\j<=m.length/\i=iX (j:Int)/\Grew w2 wr)
 case atStart=>exact⟨0,rfl,lX,rfl,Keep.refl _ _ _⟩
 case round=>
  obtain⟨j,Y,aq,rfl,x⟩:=hrel;have O:=vl (And.intro Y x);clear Y x;by_cases au:j<m.length
  ·have bj:(j:Int)<(m.length:Int):=by omega
   have ⟨av,bO,P,bk,bl,bm,y3,bn,y5⟩:=(aP.grown O.2).at j au;injection P with I bP bo;subst I bo;have aw:Hid (∀C,Grew w2 C->cX C av (j*6+1)=some (iX (m.getD j ⟨0,0,0,0,0,0⟩).rule)/\cX C av (j*6+2)=some (iX (m.getD j ⟨0,0,0,0,0,0⟩).from_)/\cX C av (j*6+3)=some (iX (m.getD j ⟨0,0,0,0,0,0⟩).to)):=λC x=>by
    have ⟨g,c,P,_,ax,ay,az,_⟩:=(aP.grown x).at j au;injection P with I;injection I with I;injection I with I;subst I;exact⟨ax,ay,az⟩
   have aS:=vl (be _ (bi j au));generalize m.getD j ⟨0,0,0,0,0,0⟩=bp at *;obtain⟨G,aT,bq,br,bQ,bR⟩:=bp;by_cases J:G=1\/G=3
   ·have ⟨f,o,r,X,aU,aR,aV⟩:=aS J
    have bs:bq=(f:Int):=X;have bt:br=((f+o:Nat):Int):=aU;subst bs bt;obtain⟨g,aW⟩:∃g,g=f+o:=⟨_,rfl⟩
    have aX:Hid ((∀k,k<xs.length->xs.getD k none≠none)->jL (D f) xs.length=(o,r)/\(0<o->aT=r)):=aV;rw[<-aW] at y3 aw;have Y:(g:Int)-(f:Int)=(o:Int):=by omega
    have bS:(0:Int)<=(f:Int):=by omega
    have bT:(f:Int)<=(A.size:Int):=by omega
    have aY:Hid (∀k,k<xs.length->xs.getD k none=none\/∃aa,xs.getD k none=some ⟨aa,0,none⟩/\∀aA,Grew w1 aA->Ca 41 #[pX aa,string (A.extract f A.size)] aA λe w'=>e=returned (iX (D f k:Nat))/\Grew aA w'):=λk x=>bd k f x (by omega);have aB:Hid (jL (D f) 0=(0,0)):=rfl;have aZ:Hid (∀k,jL (D f) (k+1)=if(jL (D f) k).1<D f k then(D f k,k) else jL (D f) k):=λk=>rfl;generalize jL (D f)=aC at *;generalize D f=a0 at *;clear aS X aU aV aW;have bu:(G=1)\/(G=3):=J;rcases J with rfl|rfl
    all_goals
     clear bu;go_wp2;go_loopg [12,13,14] xs.length (λq bv bw i bx=>∃l:Nat,q=xs.length-l/\l<=xs.length/\i=iX (l:Int)/\bv=iX ((aC l).1:Nat)/\bw=iX ((aC l).2:Nat)/\(∀k,k<l->xs.getD k none≠none)/\Grew w2 bx)
     case atStart=>exact⟨0,rfl,lX,rfl,by rw[aB.out];rfl,by rw[aB.out];rfl,λk x=>absurd x (Nat.not_lt_zero _),O.2⟩
     case round=>
      obtain⟨l,a1,bU,rfl,rfl,rfl,a3,N⟩:=hrel;have H:Hid (gk=xs.length-l/\(∀k,k<l->xs.getD k none≠none)/\Grew w2 wr):=⟨a1,a3,N⟩
      clear a1 a3 N;by_cases a4:l<xs.length
      ·have bz:(l:Int)<(xs.length:Int):=by omega
       obtain⟨bV,rfl,a5⟩:=aQ wr H.2.2 l a4;have R:=aZ l;have aD:Hid (xs.getD l none≠none->∀k,k<l+1->xs.getD k none≠none):=λz k x=>by
        by_cases e:k=l
        ·rw[e];exact z
        ·exact H.2.1 k (by omega)
       rcases aY.out l a4 with M|⟨aa,M,ak⟩
       ·rw[M] at a5
        clear aD R;go_wp2;refine gJ (results_tmp rfl _ _ _) rfl ?_;exact⟨rfl,F.1.trans (H.2.2.lower F.1.size F.1.size)⟩
       ·rw[M] at a5
        have bA:Hid (∀k,k<l+1->xs.getD k none≠none):=aD (by rw[M];exact λz=>by cases z);have a6:Hid (Ca 41 #[pX aa,string (A.extract f A.size)] wr.drew λe w'=>e=returned (iX (a0 l:Nat))/\Grew wr w'):=(ak wr.drew ((F.2.trans (H.2.2.lower F.2.size F.2.size)).trans (Keep.drew _))).mono (by rintro e w' ⟨rfl,ap⟩;exact⟨rfl,ap.undrew⟩);have ⟨ax,ay,az⟩:=aw wr H.2.2;clear aD ak M;generalize a0 l=ab at *;obtain⟨a,b,aE⟩:∃a b,aC l=(a,b):=⟨_,_,rfl⟩
        rw[aE] at R ⊢;dsimp only at R ⊢;have bB:(a:Int)<(ab:Int)/\a<ab\/¬(a:Int)<(ab:Int)/\¬a<ab:=by omega
        have bW:=vl aE;have ac:=vl R;clear aE R;rcases bB with⟨c1,c2⟩|⟨c1,c2⟩
        all_goals
         first|rw[if_pos c2] at ac|rw[if_neg c2] at ac
         clear c2;go_wp2;go_region_with ((go_at_call 41;go_must ((refine a6.mono ?_;rintro e C ⟨rfl,W⟩))))
         all_goals
          have bC:Hid (Grew w2 C):=H.2.2.th W;clear W a6;go_wp2;go_roundg (xs.length-(l+1))
          case measure=>rw[H.out.1];omega
          case rel=>exact⟨l+1,rfl,by omega,by go_num,by rw[ac.out],by rw[ac.out],bA,bC⟩
      ·have bz:¬(l:Int)<(xs.length:Int):=by omega
       have a7:l=xs.length:=by omega
       have ⟨a8,q2⟩:=aX (by rw[<-a7];exact H.2.1);rw[a7,a8];dsimp only;have ⟨ax,ay,az⟩:=aw wr H.2.2;have bX:¬(xs.length:Int)<(xs.length:Int):=by omega
       have aj:o=0/\¬(0:Int)<(o:Int)\/(0:Int)<(o:Int)/\aT=(r:Int):=by
        by_cases z:0<o
        ·exact .inr ⟨by omega,q2 z⟩
        ·exact .inl ⟨by omega,by omega⟩
       have bY:(o:Int)<=64/\(f:Int)<=64/\(g:Int)<=64:=by omega
       have bZ:((o:Int) != (g:Int)-(f:Int))=false:=by rw[Y];simp
       clear a8 q2 aY aZ aX aB aQ bk bl bm y3 bn y5;rcases aj with⟨c1,c2⟩|⟨c2,rfl⟩
       all_goals
        first|have bD:decide ((0:Int)<(o:Int))=false:=gG c2|have bD:decide ((0:Int)<(o:Int))=true:=dQ c2
        first|have bE:decide (0<o)=false:=gG (by omega)|have bE:decide (0<o)=true:=dQ (by omega)
        go_wp2;go_quiet (fail);go_wp2;go_roundg (m.length-(j+1))
        case measure=>rw[O.out.1];omega
        case rel=>exact⟨j+1,rfl,by omega,by go_num,H.2.2.trans (Keep.alike (w':=wr.drewN nq) ⟨rfl,rfl,rfl⟩)⟩
   ·have bF:(G==1)=false:=by rw[hX];exact λz=>J (.inl z)
    have bG:(G==3)=false:=by rw[hX];exact λz=>J (.inr z)
    have b0:(G != 1)=true:=by unfold bne;rw[bF];rfl
    have b1:(G != 3)=true:=by unfold bne;rw[bG];rfl
    have b3:¬G=1:=λz=>J (.inl z);have b4:¬G=3:=λz=>J (.inr z);clear J;go_wp2;go_roundg (m.length-(j+1))
    case measure=>rw[O.out.1];omega
    case rel=>exact⟨j+1,rfl,by omega,by go_num,O.2⟩
  ·have bj:¬(j:Int)<(m.length:Int):=by omega
   go_wp2;refine gJ (results_tmp rfl _ _ _) rfl ?_;exact⟨rfl,F.1.trans (O.2.lower F.1.size F.1.size)⟩
theorem zO8 (w:World)(s c:ByteArray):Calls prog 12 #[string s,string c] w λe w'=>e=returned (bool true)/\Grew w w':=by
 rcases zNf w s c with g|⟨y,k,G,H,g⟩
 ·have j:=vl g
  clear g;go_in;go_wp2_with (go_at_call 14;refine j.mono ?_;rintro e w1 ⟨rfl,f⟩)
  refine gJ (results_tmp rfl _ _ _) rfl ?_;exact⟨rfl,f⟩
 have j:=vl g;by_cases z:c.size<=64
 rotate_left
 ·have A:(64:Int)<(c.size:Int):=by omega
  clear g k;go_in;go_wp2_with (go_at_call 14;refine j.mono ?_;rintro e w1 ⟨rfl,f⟩)
  refine gJ (results_tmp rfl _ _ _) rfl ?_;exact⟨rfl,f⟩
 have A:¬(64:Int)<(c.size:Int):=by omega
 have p:Hid (∀w2,Ca 16 #[string s,iX 64,fX] w2 λe w'=>Grew w2 w'/\∃h m0 m1 m2 s0 s1 s2 v0 v1 v2 AH ST LN,e=returned (tuple #[pX h,agg #[slice m0 m1 m2,slice s0 s1 s2,slice v0 v1 v2,iX AH,bool ST,iX LN]])/\Hid (∀a,Grew w' a->Ca 25 #[string s,pX h,string c] a λe q=>e=returned tX/\Grew a q)):=λw2=>by
  refine(zFM w2 s (by omega) 64 (by omega) (by omega) false).mono ?_;rintro e w' ⟨B,x,m0,m1,m2,s0,s1,s2,v0,v1,v2,AH,ST,LN,rfl,l⟩;unfold OfQ at l;rw[k] at l;obtain⟨h,t,rfl,-,-,C⟩:=l;exact⟨B,h,m0,m1,m2,s0,s1,s2,v0,v1,v2,AH,ST,LN,rfl,λa D=>zMv a s c _ h y t k (C.grown D) z⟩
 clear g k;go_in;apply wp_cut;intro m b;go_wp2;apply b.out;clear b;apply wp_cut;intro m b;go_wp2_with (go_at_call 14;refine j.mono ?_;rintro e w1 ⟨rfl,f⟩)
 apply b.out;clear b;apply wp_cut;intro m b;go_wp2;apply b.out;clear b;apply wp_cut;intro m b;go_wp2_with (go_at_call 16;refine(p _).mono ?_;rintro e w2 ⟨o,h,m0,m1,m2,s0,s1,s2,v0,v1,v2,AH,ST,LN,rfl,r⟩)
 apply b.out;clear b;obtain⟨a,u,v⟩:∃a,a=w2.alloc (.cells #[slice m0 m1 m2,slice s0 s1 s2,slice v0 v1 v2,iX AH,bool ST,iX LN] 30)/\Hid (Grew w a/\Grew w2 a):=⟨_,rfl,(f.th o).trans (kZ _ _ (lY f.size o.size)),kZ _ _ lQ⟩
 have E:=vl (r a v.2);rw[<-u];clear u o f j r p;go_wp2_with (go_at_call 25;refine E.mono ?_;rintro e q ⟨rfl,F⟩)
 refine gJ (results_tmp rfl _ _ _) rfl ?_;exact⟨rfl,v.1.th F⟩
section
open Go.ChangeShapes Go.WideShapes Go.ChangeAt Go.RowKit
open Go.ChangeMaps (open_string shut_string)
theorem zKy (os:Os)(started:os.Started)(H:Type)(enc:TypeId×Value->H):
  ReturnsInHanded {} checked os 12 .any (Rows.ownSpec.pre6 enc prog f12 Rows.ownRow.domain false) (Rows.ownSpec.post enc prog f12 false true false false):=by
 refine returnsInHanded_of_change (C:=checked) own started (by kernel_rfl) func12
  (ChangeSpec.witness6 (enc:=enc) (C:=checked) false ⟨#[],#[.string ⟨#[]⟩,.string ⟨#[]⟩],[]⟩ 8 (by kernel_rfl) (by kernel_rfl) (by kernel_rfl) (by kernel_rfl)) ?_
 intro W base args ds gs before hval0 hW _ _;have hval:=hval0;have hW':=hW;obtain⟨p,q,hA0,hV,rfl,hfz,hnd⟩:=hW;have hA:=hA0;rw[params12] at hA hval;obtain⟨v0,vs0,d0,ds0,p0,q0,hargs,rfl,rfl,h0,r0⟩:=trodAll_cons hA;obtain⟨v1,vs1,d1,ds1,p1,q1,rfl,rfl,rfl,h1,r1⟩:=trodAll_cons r0;obtain⟨rfl,rfl,rfl⟩:=trodAll_nil r1;have hargs2:args=#[v0,v1]:=by cases args;simp_all
 subst hargs2;obtain⟨rfl,rfl⟩:=trodVars_none hV;obtain⟨a0,rfl,rfl,rfl,w0⟩:=open_string underlying9 (hval 0 9 v0 rfl rfl) h0;obtain⟨a1,rfl,rfl,rfl,w1⟩:=open_string underlying9 (hval 1 9 v1 rfl rfl) h1;simp only[dX] at hW';refine(zO8 W a0 a1).mono fun e W' ⟨he,hk⟩=>?_;subst he;exact⟨_,rfl,zKu hW' (fun _ _ _=>trodAll_mk1 (shut_bool underlying4 _)) (fun sp=>zLm (shut_string underlying9 w0) (zLm (shut_string underlying9 w1) (trodAll_mk0))) (fun _=>rfl)
  (hk.frame _) (ok_one (by kernel_rfl) rfl (okWide_bool_mk underlying4 _))⟩
theorem own_holds:Rows.OwnSaid:=
 OpenClaim.holds_of_wide 12 f12 rfl rfl rfl rfl rfl rfl rfl ⟨rfl,rfl,rfl,rfl,rfl⟩ rfl rfl rfl rfl rfl (by kernel_rfl) func12 (by kernel_rfl)
  (of_decide_eq_true (by kernel_rfl)) (by unfold Func.isWrapper;first|(rw [if_pos (by decide +kernel)];kernel_rfl)|(rw [if_neg (by decide +kernel)];exact⟨rfl,rfl⟩))
  (fun os started H enc _=>zKy os started H enc)
end
end Go.Proofs.YtbjcfkdnjaiclaaGreat
