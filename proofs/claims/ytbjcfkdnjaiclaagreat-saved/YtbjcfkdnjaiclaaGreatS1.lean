import Derived.Deep.AppendLies
import Derived.Deep.LoopGhost
import Derived.KernelRfl
import Derived.OwnWalk
import Derived.Test.YtbjcfkdnjaiclaaGreatS0
/- Parts of the proof. -/
set_option linter.unusedVariables false
set_option linter.unusedSimpArgs false
set_option maxHeartbeats 4000000
set_option maxRecDepth 100000
namespace Go.Proofs.YtbjcfkdnjaiclaaGreat
open Go.RowKit Go.Proofs.Tryz Go.World
open Go.Value (int slice bool pointer string agg tuple)
open Go.IntKind (i64)
open Go.Ending (returned)
theorem yF:(prog.info? 3).map (λi=>(i.zero,i.size,i.bytes))=some (some (iX 0),1,8):=by kernel_rfl
theorem zIp:(prog.info? 5).map (λi=>(i.zero,i.size,i.bytes))=some (some (int .u8 0),1,1):=by kernel_rfl
theorem vO:(prog.info? 4).map (λi=>(i.zero,i.size,i.bytes))=some (some (bool false),1,1):=by kernel_rfl
theorem zEb:(prog.info? 45).map (λi=>(i.zero,i.size,i.bytes))=some (some (slice none 0 0),1,24):=by kernel_rfl
theorem xW {w w':World}{H a:Nat}{e:TypeId}{b:Nat}{v:Value}{n:Nat}{xs:List Value}(c:w.ownsRow H e b v n xs)(f:∀H,Keep H a w w')(o:a<H):w'.ownsRow H e b v n xs:=by
 refine⟨c.1,c.2.imp id ?_⟩;rintro⟨g,cap,i,j,k,d,l⟩;have m:=(kQ.1 d).1;exact⟨g,cap,i,j,k,((f w.heap.size).block g m (by omega)).trans d,l⟩
theorem xF {w1 w2:World}{o:Obj}{H:Nat}{v:Value}{e:TypeId}{b n:Nat}{xs:List Value}(c:w1.ownsRow H e b v n xs)(a:(w1.alloc o).grownBy w2 v.ownBlock)(d:H<=w1.heap.size):Below H w1 w2:=
 ((Below.refl H w1).alloc d o).trans ⟨a.os,a.tape,a.output,a.size,λk f=>a.block k (by simp;omega) λe=>by have:=(c.lt k e.symm).1;omega⟩
theorem xD {H a:Nat}{w w':World}(b:Below H w w'):Keep H a w w':=⟨b.os,b.output,b.size,λk c _=>b.block k c⟩
theorem xP {a:Type}(f:Nat->a)(j:Nat):(List.range (j+1)).map f=(List.range j).map f++[f j]:=by rw[List.range_succ,List.map_append];rfl
def yT (s:ByteArray)(p:Nat):Nat->Nat
 |0=>0
 |i+1=>if within (byt s (p+i)) 0 (yT s p i)=yT s p i then yT s p i+1 else yT s p i
def zBe (s:ByteArray)(p i:Nat):Nat:=within (byt s (p+i)) 0 (yT s p i)
def vE (s:ByteArray)(p:Nat):Nat->Bool
 |0=>true
 |i+1=>vE s p i&&decide (p+i<s.size)&&inB (byt s (p+i)) 0 (yT s p i)
theorem zO9 {x m f:Nat}(a:((x:Int)==(m:Int))=true)(e:f=if x=m then m+1 else m):Value.int IntKind.i64 ((m:Int)+1)=iX (f:Nat):=by
 rw[beq_iff_eq] at a;rw[e,if_pos (by omega)];rfl
theorem zP0 {x m f:Nat}(a:((x:Int)==(m:Int))=false)(e:f=if x=m then m+1 else m):Value.int IntKind.i64 (m:Int)=iX (f:Nat):=by
 rw[hX] at a;rw[e,if_neg (by omega)]
theorem zPa (s:ByteArray)(p i:Nat):yT s p i<=i:=by
 induction i with
 |zero=>exact lQ
 |succ i a=>simp only[yT];split <;> omega
theorem zJU (a p count:Nat)(s:ByteArray)(k:Bool)(w:World)(B:xM w a s p k)(I:s.size<=1048576)(ag:count<=256):
  Calls prog 115 #[pX a,iX count] w λe w'=>
   ∃v,e=returned v/\w'.ownsRow w.heap.size 3 1 v 256 ((List.range 256).map λi=>iX (zBe s p i:Nat))/\
   xM w' a s (p+256) (k&&vE s p 256&&decide (yT s p 256=count))/\Keep w.heap.size a w w':=by
 obtain⟨J,K,L,M,N⟩:=info_parts yF;have t:=B.lt;have f:=vl B;go_in;go_wp2;go_loopg [5,6,7] 256 (λq O P i wr=>∃j:Nat,q=256-j/\j<=256/\i=iX (j:Int)/\P=iX (yT s p j:Nat)/\wr.ownsRow w.heap.size 3 1 O j ((List.range j).map λi=>iX (zBe s p i:Nat))/\xM wr a s (p+j) (k&&vE s p j)/\Keep w.heap.size a w wr)
 case atStart=>exact⟨0,rfl,lX,rfl,rfl,ownsRow_nil _ _ _ _,f.to rfl (by simp[vE]),Keep.refl _ _ _⟩
 case round=>
  obtain⟨j,y,ah,rfl,rfl,h,b,l⟩:=hrel;have ai:=zPa s p j;by_cases aj:j<256
  ·have Q:(j:Int)<256:=by omega
   have z:Hid (gk=256-j/\xM wr a s (p+j) (k&&vE s p j)/\Keep w.heap.size a w wr):=⟨y,b,l⟩
   have o:=vl h;have c:Hid (yT s p (j+1)=if within (byt s (p+j)) 0 (yT s p j)=yT s p j then yT s p j+1 else yT s p j):=rfl;have R:Hid (zBe s p j=within (byt s (p+j)) 0 (yT s p j)):=rfl;have S:Hid (vE s p (j+1)=(vE s p j&&decide (p+j<s.size)&&inB (byt s (p+j)) 0 (yT s p j))):=rfl;go_wp2_with fail;refine(zA8 a (p+j) s (k&&vE s p j) wr z.2.1 I 0 (yT s p j)).mono ?_;rintro e w1 ⟨rfl,T,C⟩;have U:=zX (byt s (p+j)) 0 (yT s p j) lX;have V:Hid (xM w1 a s (p+(j+1)) (k&&vE s p (j+1))):=by show xM _ _ _ _ _;rw[S.out];exact T.to rfl (by simp[Bool.and_assoc])
   have D:=vl <| xW o C t;have E:=vl <| z.2.2.trans (C _);have W:=E.size;rw[<-R.out] at U c ⊢;generalize X:zBe s p j=x at *;have Y:=vl X;generalize yT s p j=m at *;go_wp2_with (first|(at_builtin;refine wpList_append_lies _ rfl _ _ 45 rfl w.heap.size 3 J (iX 0) 1 8 underlying45 K L M N rfl (by decide) _ _ _ rfl (D.alloc _) ⟨w1.heap.size,0,none⟩ 1 1 [iX (x:Int)] rfl rfl (cell_one_new _ _ _) (by intro u F;simp at F;subst F;rfl) (by decide) (by unfold maxLen;omega) (by omega) (by simp;omega) _ rfl ?_;intro g cap w2 aa ab ak al))
   all_goals
    have G:=xF D ab W;have ac:=V.of_block (G.block a t);have ad:=E.trans (xD G);have ae:w2.ownsRow w.heap.size 3 1 (slice (qX g) (j+1) cap) (j+1) ((List.range (j+1)).map λi=>iX (zBe s p i:Nat)):=by
     rw[xP,Y.out];exact aa
    go_roundg (256-(j+1))
    case measure=>rw[z.out.1];omega
    case rel=>exact⟨j+1,rfl,by omega,congrArg (Value.int IntKind.i64) (by omega),by first|exact zO9 ‹_› c|exact zP0 ‹_› c,ae,ac,ad⟩
  ·have d:j=256:=by omega
   have Q:(256:Int)<=(j:Int):=by omega
   have am:=b.c2;have an:=b.fz 2;have o:Hid (wr.ownsRow w.heap.size 3 1 u5 256 ((List.range 256).map λi=>iX (zBe s p i:Nat))):=by rw[<-d];exact h
   have f:Hid (xM wr a s (p+256) (k&&vE s p 256)):=by rw[<-d];exact b
   have H:=vl l;have c:Hid (yT s p j=yT s p 256):=by show _=_;rw[d]
   by_cases r:yT s p j=count
   ·have af:((yT s p j:Int) != (count:Int))=false:=by rw[bne_eq_false_iff_eq];omega
    have A:Hid (yT s p 256=count):=by rw[<-c.out];exact r
    clear b l h d y r;go_wp2;go_ret;exact⟨_,rfl,o,f.to rfl (by rw[gJ A.out,Bool.and_true]),H⟩
   ·have af:((yT s p j:Int) != (count:Int))=true:=by rw[bne_iff_ne];omega
    have A:Hid (¬yT s p 256=count):=by rw[<-c.out];exact r
    clear b l h d y r;go_wp2_with fail;go_ret;exact⟨_,rfl,xW o (λ_=>Keep.set _ _ _) t,(f.set2 false).to rfl (by rw[gU A.out,Bool.and_false]),H.trans (Keep.set _ _ _)⟩
theorem yD {w:World}{H a:Nat}{e:TypeId}{b:Nat}{v:Value}{n:Nat}{xs:List Value}(c:w.ownsRow H e b v n xs)(d:a<=H):w.ownsRow a e b v n xs:=by
 refine⟨c.1,c.2.imp id ?_⟩;rintro⟨g,cap,f,i,j,k,l⟩;exact⟨g,cap,f,i,lY d j,k,l⟩
def toF (s:ByteArray)(p states i:Nat):Nat:=within (xZ s (p+2*i)) 0 (states-1)
def toK (s:ByteArray)(p states:Nat):Nat->Bool
 |0=>true
 |i+1=>toK s p states i&&decide (p+2*i+1<s.size)&&inB (xZ s (p+2*i)) 0 (states-1)
theorem zMI (a p:Nat)(s:ByteArray)(k:Bool)(w:World)(z:xM w a s p k)(E:s.size<=1048576)(m0 m1 b kinds h:Nat)(af:1<=b)(ag:b<=200)(ah:kinds<=256):
  Calls prog 116 #[pX a,agg #[iX m0,iX m1,iX b,iX kinds,iX h]] w λe w'=>
   ∃v,e=returned v/\w'.ownsRow w.heap.size 3 1 v kinds ((List.range kinds).map λi=>iX (toF s p b i:Nat))/\
   xM w' a s (p+2*kinds) (k&&toK s p b kinds)/\Keep w.heap.size a w w':=by
 obtain⟨F,G,H,I,J⟩:=info_parts yF;have K:=z.lt;have l:=vl z;go_in;go_wp2;go_loopg [5,6] kinds (λq L i wr=>∃j:Nat,q=kinds-j/\j<=kinds/\i=iX (j:Int)/\wr.ownsRow (w.heap.size+1) 3 1 L j ((List.range j).map λi=>iX (toF s p b i:Nat))/\xM wr a s (p+2*j) (k&&toK s p b j)/\Keep w.heap.size a w wr/\w.heap.size+1<=wr.heap.size/\wr.heap[w.heap.size]? =some (.cells #[iX m0,iX m1,iX b,iX kinds,iX h] 152))
 case atStart=>exact⟨0,rfl,lX,rfl,ownsRow_nil _ _ _ _,(l.of_block (lG _ _ _ K)).to rfl (by simp[toK]),kZ _ _ lQ,by simp,gX w _⟩
 case round=>
  obtain⟨j,M,ai,rfl,m,o,r,N,t⟩:=hrel;have aj:cX wr w.heap.size 2=some (iX b):=by simp[World.cell?,t]
  have y3:cX wr w.heap.size 3=some (iX kinds):=by simp[World.cell?,t]
  by_cases ak:j<kinds
  ·have O:(j:Int)<(kinds:Int):=by omega
   have d:Hid (gk=kinds-j/\xM wr a s (p+2*j) (k&&toK s p b j)/\Keep w.heap.size a w wr/\wr.heap[w.heap.size]? =some (.cells #[iX m0,iX m1,iX b,iX kinds,iX h] 152)):=⟨M,o,r,t⟩
   have y:=vl m;have P:Hid (toF s p b j=within (xZ s (p+2*j)) 0 (b-1)):=rfl;have Q:Hid (toK s p b (j+1)=(toK s p b j&&decide (p+2*j+1<s.size)&&inB (xZ s (p+2*j)) 0 (b-1))):=rfl;have al:(b:Int)-1=((b-1:Nat):Int):=by omega
   have R:=zX (xZ s (p+2*j)) 0 (b-1) lX;go_wp2_with fail;refine(zEy a (p+2*j) s (k&&toK s p b j) wr d.2.1 E 0 (b-1)).mono ?_;rintro e w1 ⟨rfl,S,f⟩;have T:Hid (xM w1 a s (p+2*(j+1)) (k&&toK s p b (j+1))):=by show xM _ _ _ _ _;rw[Q.out];exact S.to rfl (by simp[Bool.and_assoc])
   have A:=vl <| xW y f (by omega);have U:=vl <| d.2.2.1.trans (f _);have V:=vl <| ((f (w.heap.size+1)).block _ (by omega) (by omega)).trans d.2.2.2;have B:=lY N (f 0).size;rw[<-P.out] at R ⊢;generalize W:toF s p b j=x at *;have X:=vl W;go_wp2_with (first|(at_builtin;refine wpList_append_lies _ rfl _ _ 45 rfl (w.heap.size+1) 3 F (iX 0) 1 8 underlying45 G H I J rfl (by decide) _ _ _ rfl (A.alloc _) ⟨w1.heap.size,0,none⟩ 1 1 [iX (x:Int)] rfl rfl (cell_one_new _ _ _) (by intro u C;simp at C;subst C;rfl) (by decide) (by unfold maxLen;omega) (by omega) (by simp;omega) _ rfl ?_;intro g cap w2 Y aa am an))
   have c:=xF A aa B;have ab:=T.of_block (c.block a (by omega));have ac:=U.trans ⟨c.os,c.output,c.size,λk r _=>c.block k (by omega)⟩;have ad:w2.ownsRow (w.heap.size+1) 3 1 (slice (qX g) (j+1) cap) (j+1) ((List.range (j+1)).map λi=>iX (toF s p b i:Nat)):=by
    rw[xP,X.out];exact Y
   go_roundg (kinds-(j+1))
   case measure=>rw[d.out.1];omega
   case rel=>exact⟨j+1,rfl,by omega,congrArg (Value.int IntKind.i64) (by omega),ad,ab,ac,lY B c.size,(c.block _ (by omega)).trans V⟩
  ·have D:j=kinds:=by omega
   have O:(kinds:Int)<=(j:Int):=by omega
   have y:Hid (wr.ownsRow w.heap.size 3 1 u5 kinds ((List.range kinds).map λi=>iX (toF s p b i:Nat))):=by rw[D] at m;exact yD m (Nat.le_succ _)
   have l:Hid (xM wr a s (p+2*kinds) (k&&toK s p b kinds)):=by rw[D] at o;exact o
   have ae:=vl r;go_wp2;go_ret;exact⟨_,rfl,y,l,ae⟩
def jV (n j:Nat):Nat:=if n-8*j<8 then 2^(n-8*j)-1 else 255
def zCQ (s:ByteArray)(p n j:Nat):Nat:=within (byt s (p+j)) 0 (jV n j)
def zBn (s:ByteArray)(p n:Nat):Nat->Bool
 |0=>true
 |j+1=>zBn s p n j&&decide (p+j<s.size)&&inB (byt s (p+j)) 0 (jV n j)
theorem zJN (n j:Nat):jV n j<=255:=by
 unfold jV;split
 ·rename_i a
  have:2^(n-8*j)<=2^8:=kG (by decide) (by omega);omega
 ·exact lQ
theorem zNP (c:Nat)(b:c<8):wrap64 (wrap64 ((2:Int)^c)-1)=((2^c-1:Nat):Int):=by
 have a:(2:Int)^c=((2^c:Nat):Int):=by simp
 have d:2^c<=2^8:=kG (by decide) (by omega);have e:=Nat.two_pow_pos c;rw[a];generalize 2^c=m at *;rw[w64 (m:Int) (by omega) (by omega),w64 _ (by omega) (by omega)];omega
theorem zLG (a p n:Nat)(s:ByteArray)(k:Bool)(w:World)(U:xM w a s p k)(V:s.size<=1048576)(am:n<=600000):
  Calls prog 117 #[pX a,iX n] w λe w'=>
   ∃v,e=returned v/\w'.ownsRow w.heap.size 5 1 v ((n+7)/8) ((List.range ((n+7)/8)).map λi=>int .u8 (zCQ s p n i:Nat))/\
   xM w' a s (p+(n+7)/8) (k&&zBn s p n ((n+7)/8))/\Keep w.heap.size a w w':=by
 obtain⟨W,X,Y,aa,ab⟩:=info_parts zIp;have t:=U.lt;have E:=vl U;go_in;go_wp2;go_loopg [1,5] ((n+7)/8) (λq cnt ae wr=>∃j:Nat,q=(n+7)/8-j/\j<=(n+7)/8/\cnt=iX ((n:Int)-8*(j:Int))/\wr.ownsRow w.heap.size 5 1 ae j ((List.range j).map λi=>int .u8 (zCQ s p n i:Nat))/\xM wr a s (p+j) (k&&zBn s p n j)/\Keep w.heap.size a w wr)
 case atStart=>exact⟨0,rfl,lX,by simp,ownsRow_nil _ _ _ _,E.to rfl (by simp[zBn]),Keep.refl _ _ _⟩
 case round=>
  obtain⟨j,ac,an,rfl,y,z,F⟩:=hrel;by_cases G:8*j<n
  ·have af:(0:Int)<(n:Int)-8*(j:Int):=by omega
   have b:Hid (gk=(n+7)/8-j/\xM wr a s (p+j) (k&&zBn s p n j)/\Keep w.heap.size a w wr):=⟨ac,z,F⟩
   have h:=vl y;have H:Hid (zCQ s p n j=within (byt s (p+j)) 0 (jV n j)):=rfl;have I:Hid (zBn s p n (j+1)=(zBn s p n j&&decide (p+j<s.size)&&inB (byt s (p+j)) 0 (jV n j))):=rfl;have ad:=zX (byt s (p+j)) 0 (jV n j) lX;have ao:=zJN n j;obtain⟨c,A⟩:∃c:Nat,c=n-8*j:=⟨_,rfl⟩
   have J:(n:Int)-8*(j:Int)=(c:Int):=by omega
   rw[J] at *;have ap:0<c:=by omega
   have aq:(c:Int)<=600000:=by omega
   have d:Hid (c=n-8*j/\8*j<n):=⟨A,G⟩
   by_cases ag:c<8
   ·have ah:(c:Int)<8:=by omega
    have B:Hid (jV n j=2^c-1):=by show _=_;unfold jV;rw[if_pos (by omega),A]
    have K:=zNP c ag;clear A J G;rw[<-B.out] at K;go_wp2_with fail;rw[K];clear K;refine(zA8 a (p+j) s (k&&zBn s p n j) wr b.2.1 V 0 (jV n j)).mono ?_;rintro e w1 ⟨rfl,C,f⟩;have L:Hid (xM w1 a s (p+(j+1)) (k&&zBn s p n (j+1))):=by show xM _ _ _ _ _;rw[I.out];exact C.to rfl (by simp[Bool.and_assoc])
    have l:=vl <| xW h f t;have m:=vl <| b.2.2.trans (f _);have M:=m.size;rw[<-H.out] at ad ⊢;generalize D:zCQ s p n j=x at *;have N:=vl D;have ai:(x:Int)<256:=by omega
    go_wp2_with (first|(at_builtin;refine wpList_append_lies _ rfl _ _ 68 rfl w.heap.size 5 W (int .u8 0) 1 1 underlying68 X Y aa ab rfl (by decide) _ _ _ rfl (l.alloc _) ⟨w1.heap.size,0,none⟩ 1 1 [int .u8 (x:Int)] rfl rfl (cell_one_new _ _ _) (by intro u o;simp at o;subst o;rfl) (by decide) (by unfold maxLen;omega) (by omega) (by simp;omega) _ rfl ?_;intro g cap w2 O P aj ak))
    have r:=xF l P M;have Q:xM w2 a s (p+(j+1)) (k&&zBn s p n (j+1)):=L.of_block (r.block a t);have R:Keep w.heap.size a w w2:=m.trans (xD r);have S:w2.ownsRow w.heap.size 5 1 (slice (qX g) (j+1) cap) (j+1) ((List.range (j+1)).map λi=>int .u8 (zCQ s p n i:Nat)):=by
     rw[xP,N.out];exact O
    go_roundg ((n+7)/8-(j+1))
    case measure=>have:=d.out;rw[b.out.1];omega
    case rel=>exact⟨j+1,rfl,by have:=d.out;omega,congrArg (Value.int IntKind.i64) (by have:=d.out;omega),S,Q,R⟩
   ·have ah:(8:Int)<=(c:Int):=by omega
    have B:Hid (jV n j=255):=by show _=_;unfold jV;rw[if_neg (by omega)]
    clear A J G;go_wp2_with fail;rw[show (255:Int)=((jV n j:Nat):Int) by rw[B.out];rfl];refine(zA8 a (p+j) s (k&&zBn s p n j) wr b.2.1 V 0 (jV n j)).mono ?_;rintro e w1 ⟨rfl,C,f⟩;have L:Hid (xM w1 a s (p+(j+1)) (k&&zBn s p n (j+1))):=by show xM _ _ _ _ _;rw[I.out];exact C.to rfl (by simp[Bool.and_assoc])
    have l:Hid (w1.ownsRow w.heap.size 5 1 u5 j ((List.range j).map λi=>int .u8 (zCQ s p n i:Nat))):=xW h f t;have m:Hid (Keep w.heap.size a w w1):=b.2.2.trans (f _);have M:w.heap.size<=w1.heap.size:=m.size;clear C f h I B;rw[<-H.out] at ad ⊢;clear H;generalize D:zCQ s p n j=x at *;have N:Hid (zCQ s p n j=x):=D;have ai:(x:Int)<256:=by omega
    clear D;go_wp2_with (first|(at_builtin;refine wpList_append_lies _ rfl _ _ 68 rfl w.heap.size 5 W (int .u8 0) 1 1 underlying68 X Y aa ab rfl (by decide) _ _ _ rfl (l.alloc _) ⟨w1.heap.size,0,none⟩ 1 1 [int .u8 (x:Int)] rfl rfl (cell_one_new _ _ _) (by intro u o;simp at o;subst o;rfl) (by decide) (by unfold maxLen;omega) (by omega) (by simp;omega) _ rfl ?_;intro g cap w2 O P aj ak))
    have r:=xF l P M;have Q:xM w2 a s (p+(j+1)) (k&&zBn s p n (j+1)):=L.of_block (r.block a t);have R:Keep w.heap.size a w w2:=m.trans (xD r);have S:w2.ownsRow w.heap.size 5 1 (slice (qX g) (j+1) cap) (j+1) ((List.range (j+1)).map λi=>int .u8 (zCQ s p n i:Nat)):=by
     rw[xP,N.out];exact O
    go_roundg ((n+7)/8-(j+1))
    case measure=>have:=d.out;rw[b.out.1];omega
    case rel=>exact⟨j+1,rfl,by have:=d.out;omega,congrArg (Value.int IntKind.i64) (by have:=d.out;omega),S,Q,R⟩
  ·have T:j=(n+7)/8:=by omega
   have af:(n:Int)-8*(j:Int)<=0:=by omega
   have h:Hid (wr.ownsRow w.heap.size 5 1 u5 ((n+7)/8) ((List.range ((n+7)/8)).map λi=>int .u8 (zCQ s p n i:Nat))):=by rw[T] at y;exact y
   have E:Hid (xM wr a s (p+(n+7)/8) (k&&zBn s p n ((n+7)/8))):=by rw[T] at z;exact z
   have al:Hid (Keep w.heap.size a w wr):=F;clear z F y T ac;go_wp2_with fail;go_ret;exact⟨_,rfl,h,E,al⟩
theorem zD {w w':World}{H:Nat}{e:TypeId}{a:Nat}{v:Value}{n:Nat}{xs:List Value}(b:w.ownsRow H e a v n xs)(i:∀g,H<=g->g<w.heap.size->v.ownBlock=some g->w'.heap[g]? =w.heap[g]?):w'.ownsRow H e a v n xs:=by
 refine⟨b.1,b.2.imp id ?_⟩;rintro⟨g,cap,j,c,d,f,k⟩;have l:=(kQ.1 f).1;exact⟨g,cap,j,c,d,(i g d l (by rw[c];rfl)).trans f,k⟩
theorem zBa {w w':World}{H a b:Nat}{e:TypeId}{c:Nat}{v:Value}{n:Nat}{xs:List Value}(d:w.ownsRow H e c v n xs)(f:Kept w.heap.size a b w w')(j:a<H)(k:b<H):w'.ownsRow H e c v n xs:=
 zD d λg l i _=>f.block g i (by omega) (by omega)
theorem zE {w:World}{H:Nat}{e:TypeId}{b:Nat}{v:Value}{n:Nat}{xs:List Value}(c:w.ownsRow H e b v n xs):∃ao cap,v=slice ao n cap:=by
 rcases c.2 with⟨a,d⟩|⟨g,cap,_,a,_⟩
 ·exact⟨none,0,by rw[a,d]⟩
 ·exact⟨_,cap,a⟩
theorem zC3 {w:World}{H j:Nat}{e f:TypeId}{k l:Nat}{v u:Value}{n m:Nat}{xs o:List Value}(p:w.ownsRow H e k v n xs)(q:w.ownsRow j f l u m o)(r:e≠f){g:Nat}(a:v.ownBlock=some g):u.ownBlock≠some g:=by
 intro b;rcases p.2 with⟨d,_⟩|⟨s,_,B,d,_,t,_⟩
 ·rw[d] at a;cases a
 ·rcases q.2 with⟨i,_⟩|⟨x,_,C,i,_,c,_⟩
  ·rw[i] at b;cases b
  ·rw[d] at a
   rw[i] at b;have y:s=g:=by simpa[Value.ownBlock] using a
   have z:x=g:=by simpa[Value.ownBlock] using b
   subst y z;rw[t] at c;injection c with c;injection c with _ A _;exact r A
theorem qO {P:Program}{f:Func}{c:Code}{g i:Ending->World->Prop}{a:Act}{w:World}(b:c.wp P (bodyPost P f g) a w)(d:∀e w,g e w->i e w):c.wp P (bodyPost P f i) a w:=
 Code.wp_mono (λe a w q=>by
  cases e with
  |normal=>exact⟨q.1,q.2.imp λv b=>⟨b.1,d _ _ b.2⟩⟩
  |ret=>exact⟨q.1,q.2.imp λv b=>⟨b.1,d _ _ b.2⟩⟩
  |panic j=>exact⟨q.1,d _ _ q.2⟩
  |outgrown=>exact d _ _ q
  |_=>exact q.elim) b
def zES (s:ByteArray)(p rules i:Nat):Nat:=within (byt s (p+i)) 0 rules
def zCJ (s:ByteArray)(p rules:Nat):Nat->Bool
 |0=>true
 |i+1=>zCJ s p rules i&&decide (p+i<s.size)&&inB (byt s (p+i)) 0 rules
def zDe (s:ByteArray)(p i:Nat):Nat:=within (byt s (p+2*i)) 0 3
def zAJ (s:ByteArray)(p modes i:Nat):Nat:=within (byt s (p+2*i+1)) 0 (modes-1)
def zAx (s:ByteArray)(p modes:Nat):Nat->Bool
 |0=>true
 |i+1=>zAx s p modes i&&decide (p+2*i<s.size)&&inB (byt s (p+2*i)) 0 3&&decide (p+2*i+1<s.size)&&inB (byt s (p+2*i+1)) 0 (modes-1)
def zAK (s:ByteArray)(p states kinds:Nat):Nat->Bool
 |0=>true
 |i+1=>zAK s p states kinds i&&toK s (p+2*kinds*i) states kinds
def P6 (H a b:Nat)(s:ByteArray)(states ways:Nat)(w:World)(c:Tc)(p:Nat)(k:Bool):Prop:=
 ∃v,w.ownsRow H 5 1 v ((states*ways+7)/8) ((List.range ((states*ways+7)/8)).map λi=>int .u8 (zCQ s p (states*ways) i:Nat))/\xM w a s (p+(states*ways+7)/8) (k&&zBn s p (states*ways) ((states*ways+7)/8))/\zV w b {c with longer:=v}
def P5 (H a b:Nat)(s:ByteArray)(rules states ways:Nat)(w:World)(c:Tc)(p:Nat)(k:Bool):Prop:=
 ∃v,w.ownsRow H 3 1 v states ((List.range states).map λi=>int i64 ((zES s p rules i:Nat)-1:Int))/\P6 H a b s states ways w {c with ends:=v} (p+states) (k&&zCJ s p rules states)
def P4 (H a b:Nat)(s:ByteArray)(rules states kinds ways:Nat)(w:World)(c:Tc)(p:Nat)(k:Bool):Prop:=
 ∃(v:Value) (rv:Nat->Value),w.ownsRow H 45 1 v states ((List.range states).map rv)/\(∀i,i<states->w.ownsRow H 3 1 (rv i) kinds ((List.range kinds).map λj=>int i64 (toF s (p+2*kinds*i) states j:Nat)))/\
  P5 H a b s rules states ways w {c with next:=v} (p+2*kinds*states) (k&&zAK s p states kinds states)
def P3 (H a b:Nat)(s:ByteArray)(rules states kinds ways:Nat)(w:World)(c:Tc)(p:Nat)(k:Bool):Prop:=
 ∃v,w.ownsRow H 3 1 v 256 ((List.range 256).map λi=>int i64 (zBe s p i:Nat))/\P4 H a b s rules states kinds ways w {c with kinds:=v} (p+256) (k&&vE s p 256&&decide (yT s p 256=kinds))
def P2 (H a b:Nat)(s:ByteArray)(modes rules states kinds ways:Nat)(w:World)(c:Tc)(p:Nat)(k:Bool):Prop:=
 ∃v u,w.ownsRow H 3 1 v rules ((List.range rules).map λi=>int i64 (zDe s p i:Nat))/\w.ownsRow H 3 1 u rules ((List.range rules).map λi=>int i64 (zAJ s p modes i:Nat))/\
  P3 H a b s rules states kinds ways w {c with acts:=v,pushed:=u} (p+2*rules) (k&&zAx s p modes rules)
def P1 (H a b:Nat)(s:ByteArray)(modes rules states kinds ways:Nat)(w:World)(c:Tc)(p:Nat)(k:Bool):Prop:=
 ∃v,w.ownsRow H 3 1 v modes ((List.range modes).map λi=>int i64 (toF s p states i:Nat))/\P2 H a b s modes rules states kinds ways w {c with starts:=v} (p+2*modes) (k&&toK s p states modes)
theorem zQc (a b H g:Nat)(w:World)(s:ByteArray)(p:Nat)(k:Bool)(c:Tc)(modes rules d kinds f:Nat)
  (h:Rt H a b w w s p k c [(g,.cells #[iX modes,iX rules,iX d,iX kinds,iX f] 152)]) (u:s.size<=1048576) (F:1<=modes/\modes<=3) (G:1<=rules/\rules<=8) (x:1<=d/\d<=200) (I:1<=kinds/\kinds<=256) (y:f<=3000)
  {u2 u3 u4 u6 u7 u8 u9 u10 u11 u12 u13 u14 u15 u16 u17 u18 u19 u20 u21 u22 u23 u24 u25 u26 u27 u28 u29 u30 u31 u32 u33 u34 u35 u36 u37 u38 u39 u40 u41 u42 u43 u44 u45 u46 u47 u48 u49 u50 u51 u52 u53 u54 u55 u56 u57 u58 u59 u60 u61 u62 u63 u64 u65 u66 u67 u68 u69 u70 u71 u72 u73 u74 u75 u76 u77 u78 u79 u80 u81 u82 u83 u84 u85 u86 u87 u88 u89 u90 u91 u92 u93 u94 u95 u96 u97 u98 u99 u100 u101 u102 u103 u104 u105 u106 u107 u108 u109 u110 u111 u112 u113 u114 u115 u116 u117 u118 u119 u120 u121 u122 u123 u124 u125:Value}:
  Code.wp prog (xO 6 ((f83.body).getD .skip)) (bodyPost prog f83 λe w'=>
   e=returned (tuple #[])/\P6 H a b s d f w' c p k/\Kept w.heap.size a b w w')
   ⟨(pX a::pX b::u2::u3::u4::pX g::u6::u7::u8::u9::u10::u11::u12::u13::u14::u15::u16::u17::u18::u19::u20::u21::u22::u23::u24::u25::u26::u27::u28::u29::u30::u31::u32::u33::u34::u35::u36::u37::u38::u39::u40::u41::u42::u43::u44::u45::u46::u47::u48::u49::u50::u51::u52::u53::u54::u55::u56::u57::u58::u59::u60::u61::u62::u63::u64::u65::u66::u67::u68::u69::u70::u71::u72::u73::u74::u75::u76::u77::u78::u79::u80::u81::u82::u83::u84::u85::u86::u87::u88::u89::u90::u91::u92::u93::u94::u95::u96::u97::u98::u99::u100::u101::u102::u103::u104::u105::u106::u107::u108::u109::u110::u111::u112::u113::u114::u115::u116::u117::u118::u119::u120::u121::u122::u123::u124::u125::[]).toArray,[]⟩ w:=by
 conv=>arg 2;whnf
 have r:=vl h;have m:=(h.own _ hU).1;have J:=(h.own _ hU).2;have K:=h.aH;have L:=h.bH;have z:=h.HH;have t:=h.ab;have M:=(kQ.1 m).1;have N:cX w g 2=some (iX d):=by simp[World.cell?,m]
 have O:cX w g 4=some (iX f):=by simp[World.cell?,m]
 have B:d*f<=600000:=lY (Nat.mul_le_mul x.2 y) (by decide);have P:(d:Int)*(f:Int)<=600000:=by rw[<-Int.natCast_mul];omega
 have Q:0<=(d:Int)*(f:Int):=by rw[<-Int.natCast_mul];omega
 have C:Hid ((d:Int)*(f:Int)=((d*f:Nat):Int)):=(Int.natCast_mul _ _).symm;go_wp2_with fail;rw[C.out];refine(zLG a p (d*f) s k w r.rd u B).mono ?_;rintro e w1 ⟨v,rfl,j,o,l⟩;obtain⟨ao,cap,rfl⟩:=zE j;have q:=r.tb.of_block (l.block b (by omega) t.symm);have R:=q.get_longer;have S:=q.fz 12;have D:Hid (w1.ownsRow w.heap.size 5 1 (slice ao ((d*f+7)/8) cap) ((d*f+7)/8) ((List.range ((d*f+7)/8)).map λi=>int .u8 (zCQ s p (d*f) i:Nat))/\xM w1 a s (p+(d*f+7)/8) (k&&zBn s p (d*f) ((d*f+7)/8))/\Keep w.heap.size a w w1/\zV w1 b c):=⟨j,o,l,q⟩
 go_wp2;go_end0;obtain⟨j,o,l,E⟩:=D;refine⟨rfl,⟨_,yD (xW j (λ_=>Keep.set _ _ _) (by omega)) z,o.of_block (lJ _ _ _ _ t),E.set_longer _⟩,(Kept.one l).trans (.two (Keep.set _ _ _))⟩
theorem zQd (a b H g:Nat)(w:World)(s:ByteArray)(p:Nat)(k:Bool)(c:Tc)(modes rules d kinds m:Nat)
  (h:Rt H a b w w s p k c [(g,.cells #[iX modes,iX rules,iX d,iX kinds,iX m] 152)]) (F:s.size<=1048576) (N:1<=modes/\modes<=3) (O:1<=rules/\rules<=8) (P:1<=d/\d<=200) (Q:1<=kinds/\kinds<=256) (R:m<=3000) (S:c.ends=slice none 0 0)
  {u2 u3 u4 u6 u7 u8 u9 u10 u11 u12 u13 u14 u15 u16 u17 u18 u19 u20 u21 u22 u23 u24 u25 u26 u27 u28 u29 u30 u31 u32 u33 u34 u35 u36 u37 u38 u39 u40 u41 u42 u43 u44 u45 u46 u47 u48 u49 u50 u51 u52 u53 u54 u55 u56 u57 u58 u59 u60 u61 u62 u63 u64 u65 u66 u67 u68 u69 u70 u71 u72 u73 u74 u75 u76 u77 u78 u79 u80 u81 u82 u83 u84 u85 u86 u87 u88 u89 u90 u91 u92 u93 u94 u95 u96 u97 u98 u99 u100 u101 u102 u103 u104 u105 u106 u107 u108 u109 u110 u111 u112 u113 u114 u115 u116 u117 u118 u119 u120 u121 u122 u123 u124 u125:Value}:
  Code.wp prog (xO 5 ((f83.body).getD .skip)) (bodyPost prog f83 λe w'=>
   e=returned (tuple #[])/\P5 H a b s rules d m w' c p k/\Kept w.heap.size a b w w')
   ⟨(pX a::pX b::u2::u3::u4::pX g::u6::u7::u8::u9::u10::u11::u12::u13::u14::u15::u16::u17::u18::u19::u20::u21::u22::u23::u24::u25::u26::u27::u28::u29::u30::u31::u32::u33::u34::u35::u36::u37::u38::u39::u40::u41::u42::u43::u44::u45::u46::u47::u48::u49::u50::u51::u52::u53::u54::u55::u56::u57::u58::u59::u60::u61::u62::u63::u64::u65::u66::u67::u68::u69::u70::u71::u72::u73::u74::u75::u76::u77::u78::u79::u80::u81::u82::u83::u84::u85::u86::u87::u88::u89::u90::u91::u92::u93::u94::u95::u96::u97::u98::u99::u100::u101::u102::u103::u104::u105::u106::u107::u108::u109::u110::u111::u112::u113::u114::u115::u116::u117::u118::u119::u120::u121::u122::u123::u124::u125::[]).toArray,[]⟩ w:=by
 conv=>arg 2;whnf
 have B:=vl h;have l:=(h.own _ hU).1;have T:=(h.own _ hU).2;have U:=h.aH;have V:=h.bH;have W:=h.HH;have C:=h.ab;have X:=(kQ.1 l).1;obtain⟨Y,aa,ac,ad,ae⟩:=info_parts yF;apply wp_cut;intro aB af;go_wp2;go_loopg [13] d (λq i wr=>∃(j:Nat) (v:Value),q=d-j/\j<=d/\i=iX (j:Int)/\wr.ownsRow w.heap.size 3 1 v j ((List.range j).map λi=>iX ((zES s p rules i:Nat)-1:Int))/\xM wr a s (p+j) (k&&zCJ s p rules j)/\zV wr b {c with ends:=v}/\Kept w.heap.size a b w wr)
 case atStart=>exact⟨0,slice none 0 0,rfl,lX,rfl,ownsRow_nil _ _ _ _,B.rd.to rfl (by simp[zCJ]),by rw[<-S];exact B.tb,Kept.refl _ _ _ _⟩
 case round=>
  obtain⟨j,v,G,aC,rfl,t,y,D,o⟩:=hrel;have l:=(o.block g X (by omega) (by omega)).trans (B.own _ hU).1;have aD:cX wr g 1=some (iX rules):=by simp[World.cell?,l]
  have aE:cX wr g 2=some (iX d):=by simp[World.cell?,l]
  have ag:=o.size;by_cases aF:j<d
  ·have ah:(j:Int)<(d:Int):=by omega
   have f:Hid (gk=d-j/\xM wr a s (p+j) (k&&zCJ s p rules j)/\Kept w.heap.size a b w wr/\zV wr b {c with ends:=v}/\wr.ownsRow w.heap.size 3 1 v j ((List.range j).map λi=>iX ((zES s p rules i:Nat)-1:Int))):=⟨G,y,o,D,t⟩
   have ai:Hid (zES s p rules j=within (byt s (p+j)) 0 rules):=rfl;have aj:Hid (zCJ s p rules (j+1)=(zCJ s p rules j&&decide (p+j<s.size)&&inB (byt s (p+j)) 0 rules)):=rfl;have z:=zX (byt s (p+j)) 0 rules lX;clear G y o t D l;go_wp2_with fail;refine(zA8 a (p+j) s (k&&zCJ s p rules j) wr f.2.1 F 0 rules).mono ?_;rintro e w1 ⟨rfl,ak,E⟩;have al:Hid (xM w1 a s (p+(j+1)) (k&&zCJ s p rules (j+1))):=by show xM _ _ _ _ _;rw[aj.out];exact ak.to rfl (by simp[Bool.and_assoc])
   have I:=vl <| xW f.2.2.2.2 E (by omega);have J:=vl <| f.2.2.1.trans (.one (E _));have A:=vl <| f.2.2.2.1.of_block ((E w.heap.size).block b (by omega) C.symm);have aG:=A.get_ends;have am:=J.size;rw[<-ai.out] at z ⊢;generalize an:zES s p rules j=x at *;have ao:=vl an;go_wp2_with (first|(at_builtin;refine wpList_append_lies _ rfl _ _ 45 rfl w.heap.size 3 Y (iX 0) 1 8 underlying45 aa ac ad ae rfl (by decide) _ _ _ rfl (I.alloc _) ⟨w1.heap.size,0,none⟩ 1 1 [iX ((x:Int)-1)] rfl rfl (cell_one_new _ _ _) (by intro u L;simp at L;subst L;rfl) (by decide) (by unfold maxLen;omega) (by omega) (by simp;omega) _ rfl ?_;intro ap cap w2 aq ar aI aJ;have r:=xF I ar am;have aK:=(A.of_block (r.block b (by omega))).get_ends;have q2:=(A.of_block (r.block b (by omega))).fz 9))
   have au:=al.of_block (r.block a (by omega));have av:=J.trans (.one (xD r));have aw:=A.of_block (r.block b (by omega));have ax:w2.ownsRow w.heap.size 3 1 (slice (qX ap) (j+1) cap) (j+1) ((List.range (j+1)).map λi=>iX ((zES s p rules i:Nat)-1:Int)):=by
    rw[xP,ao.out];exact aq
   go_roundg (d-(j+1))
   case measure=>rw[f.out.1];omega
   case rel=>exact⟨j+1,_,rfl,by omega,congrArg (Value.int IntKind.i64) (by omega),xW ax (λ_=>Keep.set _ _ _) (by omega),au.of_block (lJ _ _ _ _ C),aw.set_ends _,av.trans (.two (Keep.set _ _ _))⟩
  ·have ay:j=d:=by omega
   have ah:(d:Int)<=(j:Int):=by omega
   have f:Hid (xM wr a s (p+d) (k&&zCJ s p rules d)/\Kept w.heap.size a b w wr/\zV wr b {c with ends:=v}/\wr.ownsRow w.heap.size 3 1 v d ((List.range d).map λi=>iX ((zES s p rules i:Nat)-1:Int))/\wr.heap[g]? =some (.cells #[iX modes,iX rules,iX d,iX kinds,iX m] 152)):=by rw[ay] at y t;exact⟨y,o,D,t,l⟩
   go_wp2;refine af _ _ (qO (zQc a b H g wr s (p+d) (k&&zCJ s p rules d) {c with ends:=v} modes rules d kinds m ⟨f.1,f.2.2.1,λx z=>by rw[kY] at z;rw[z];exact⟨f.2.2.2.2,T⟩,Kept.refl _ _ _ _,C,U,V,by omega⟩ F N O P Q R) ?_);rintro e w' ⟨az,aA,M⟩;exact⟨az,⟨v,zBa (yD f.2.2.2.1 W) M (by omega) (by omega),aA⟩,f.2.1.trans (M.mono ag)⟩
theorem zQe (a b H g:Nat)(w:World)(s:ByteArray)(p:Nat)(k:Bool)(c:Tc)(modes rules d kinds r:Nat)
  (t:Rt H a b w w s p k c [(g,.cells #[iX modes,iX rules,iX d,iX kinds,iX r] 152)]) (P:s.size<=1048576) (ae:1<=modes/\modes<=3) (af:1<=rules/\rules<=8) (J:1<=d/\d<=200) (Q:1<=kinds/\kinds<=256) (ag:r<=3000) (ah:c.next=slice none 0 0) (ai:c.ends=slice none 0 0)
  {u2 u3 u4 u6 u7 u8 u9 u10 u11 u12 u13 u14 u15 u16 u17 u18 u19 u20 u21 u22 u23 u24 u25 u26 u27 u28 u29 u30 u31 u32 u33 u34 u35 u36 u37 u38 u39 u40 u41 u42 u43 u44 u45 u46 u47 u48 u49 u50 u51 u52 u53 u54 u55 u56 u57 u58 u59 u60 u61 u62 u63 u64 u65 u66 u67 u68 u69 u70 u71 u72 u73 u74 u75 u76 u77 u78 u79 u80 u81 u82 u83 u84 u85 u86 u87 u88 u89 u90 u91 u92 u93 u94 u95 u96 u97 u98 u99 u100 u101 u102 u103 u104 u105 u106 u107 u108 u109 u110 u111 u112 u113 u114 u115 u116 u117 u118 u119 u120 u121 u122 u123 u124 u125:Value}:
  Code.wp prog (xO 4 ((f83.body).getD .skip)) (bodyPost prog f83 λe w'=>
   e=returned (tuple #[])/\P4 H a b s rules d kinds r w' c p k/\Kept w.heap.size a b w w')
   ⟨(pX a::pX b::u2::u3::u4::pX g::u6::u7::u8::u9::u10::u11::u12::u13::u14::u15::u16::u17::u18::u19::u20::u21::u22::u23::u24::u25::u26::u27::u28::u29::u30::u31::u32::u33::u34::u35::u36::u37::u38::u39::u40::u41::u42::u43::u44::u45::u46::u47::u48::u49::u50::u51::u52::u53::u54::u55::u56::u57::u58::u59::u60::u61::u62::u63::u64::u65::u66::u67::u68::u69::u70::u71::u72::u73::u74::u75::u76::u77::u78::u79::u80::u81::u82::u83::u84::u85::u86::u87::u88::u89::u90::u91::u92::u93::u94::u95::u96::u97::u98::u99::u100::u101::u102::u103::u104::u105::u106::u107::u108::u109::u110::u111::u112::u113::u114::u115::u116::u117::u118::u119::u120::u121::u122::u123::u124::u125::[]).toArray,[]⟩ w:=by
 conv=>arg 2;whnf
 have L:=vl t;have o:=(t.own _ hU).1;have aj:=(t.own _ hU).2;have ak:=t.aH;have al:=t.bH;have R:=t.HH;have M:=t.ab;have am:=(kQ.1 o).1;obtain⟨an,ap,aq,ar,au⟩:=info_parts zEb;apply wp_cut;intro aN av;go_wp2;go_loopg [11] d (λq i wr=>∃(j:Nat) (v:Value) (rv:Nat->Value),q=d-j/\j<=d/\i=iX (j:Int)/\wr.ownsRow w.heap.size 45 1 v j ((List.range j).map rv)/\(∀i,i<j->wr.ownsRow w.heap.size 3 1 (rv i) kinds ((List.range kinds).map λm=>iX (toF s (p+2*kinds*i) d m:Nat)))/\xM wr a s (p+2*kinds*j) (k&&zAK s p d kinds j)/\zV wr b {c with next:=v}/\Kept w.heap.size a b w wr)
 case atStart=>exact⟨0,slice none 0 0,λ_=>undef,rfl,lX,rfl,ownsRow_nil _ _ _ _,λi l=>absurd l (Nat.not_lt_zero _),L.rd.to (by simp) (by simp[zAK]),by rw[<-ah];exact L.tb,Kept.refl _ _ _ _⟩
 case round=>
  obtain⟨j,v,rv,S,aO,rfl,C,D,E,N,A⟩:=hrel;have o:=(A.block g am (by omega) (by omega)).trans (L.own _ hU).1;have aP:cX wr g 0=some (iX modes):=by simp[World.cell?,o]
  have aQ:cX wr g 1=some (iX rules):=by simp[World.cell?,o]
  have aR:cX wr g 2=some (iX d):=by simp[World.cell?,o]
  have y3:cX wr g 3=some (iX kinds):=by simp[World.cell?,o]
  have aS:cX wr g 4=some (iX r):=by simp[World.cell?,o]
  have T:=A.size;by_cases aT:j<d
  ·have aw:(j:Int)<(d:Int):=by omega
   have h:Hid (gk=d-j/\xM wr a s (p+2*kinds*j) (k&&zAK s p d kinds j)/\Kept w.heap.size a b w wr/\zV wr b {c with next:=v}/\wr.ownsRow w.heap.size 45 1 v j ((List.range j).map rv)/\(∀i,i<j->wr.ownsRow w.heap.size 3 1 (rv i) kinds ((List.range kinds).map λm=>iX (toF s (p+2*kinds*i) d m:Nat)))):=⟨S,E,A,N,C,D⟩
   have ax:Hid (zAK s p d kinds (j+1)=(zAK s p d kinds j&&toK s (p+2*kinds*j) d kinds)):=rfl;have ay:Hid (p+2*kinds*(j+1)=p+2*kinds*j+2*kinds):=by show _=_;rw[Nat.mul_add,Nat.mul_one];omega
   clear S E A C N o D;go_wp2_with fail;refine(zMI a (p+2*kinds*j) s (k&&zAK s p d kinds j) wr h.2.1 P modes rules d kinds r J.1 J.2 Q.2).mono ?_;rintro e w1 ⟨x,rfl,U,az,y⟩;obtain⟨ao,F,rfl⟩:=zE U;have aA:Hid (xM w1 a s (p+2*kinds*(j+1)) (k&&zAK s p d kinds (j+1))):=by show xM _ _ _ _ _;rw[ax.out,ay.out,<-Bool.and_assoc];exact az
   have G:=vl <| zD h.2.2.2.2.1 λf z q2 _=>y.block f q2 (by omega);have V:Hid (∀i,i<j->w1.ownsRow w.heap.size 3 1 (rv i) kinds ((List.range kinds).map λm=>iX (toF s (p+2*kinds*i) d m:Nat))):=λi l=>zD (h.2.2.2.2.2 i l) λf z q2 _=>y.block f q2 (by omega);have W:=vl <| yD U T;have X:=vl <| h.2.2.1.trans ⟨y.os,y.output,y.size,λaB z q2 _=>y.block aB (by omega) q2⟩;have I:=vl <| h.2.2.2.1.of_block (y.block b (by omega) M.symm);have aU:=I.get_next;have aC:=X.size;go_wp2_with (first|(at_builtin;refine wpList_append_lies _ rfl _ _ 88 rfl w.heap.size 45 an (slice none 0 0) 1 24 underlying88 ap aq ar au rfl (by decide) _ _ _ rfl (G.alloc _) ⟨w1.heap.size,0,none⟩ 1 1 [slice ao kinds F] rfl rfl (cell_one_new _ _ _) (by intro u Y;simp at Y;subst Y;rfl) (by decide) (by unfold maxLen;omega) (by omega) (by simp;omega) _ rfl ?_;intro aV cap w2 aD aa aW aX;have B:=xF G aa aC;have z:=(I.of_block (B.block b (by omega))).get_next;have q2:=(I.of_block (B.block b (by omega))).fz 8))
   have aE:=aA.of_block (B.block a (by omega));have aF:=X.trans (.one (xD B));have aG:=I.of_block (B.block b (by omega));have ac:∀f,f<w1.heap.size->v.ownBlock≠some f->w2.heap[f]? =w1.heap[f]? :=λf z q2=>(aa.block f (by simp;omega) (Ne.symm q2)).trans (lG _ _ _ z);have aI:∀i,i<j->w2.ownsRow w.heap.size 3 1 (rv i) kinds ((List.range kinds).map λm=>iX (toF s (p+2*kinds*i) d m:Nat)):=λi l=>zD (V i l) λf z q2 q3=>ac f q2 (zC3 (V i l) G (by decide) q3);have aJ:=zD W λf z q2 q3=>ac f q2 (zC3 W G (by decide) q3);go_roundg (d-(j+1))
   case measure=>rw[h.out.1];omega
   case rel=>
    refine⟨j+1,_,λi=>if i=j then slice ao kinds F else rv i,rfl,by omega,congrArg (Value.int IntKind.i64) (by omega),xW ?_ (λ_=>Keep.set _ _ _) (by omega),λi l=>xW ?_ (λ_=>Keep.set _ _ _) (show b<w.heap.size by omega),aE.of_block (lJ _ _ _ _ M),aG.set_next _,aF.trans (.two (Keep.set _ _ _))⟩
    ·rw[xP,if_pos rfl,show(List.range j).map (λi=>if i=j then Value.slice ao kinds F else rv i)=(List.range j).map rv from List.map_congr_left λi l=>by rw[if_neg (by have:=List.mem_range.1 l;omega)]]
     exact aD
    ·show w2.ownsRow _ _ _ (if i=j then Value.slice ao kinds F else rv i) _ _
     by_cases e:i=j
     ·rw[if_pos e,e];exact aJ
     ·rw[if_neg e];exact aI i (by omega)
  ·have aK:j=d:=by omega
   have aw:(d:Int)<=(j:Int):=by omega
   have h:Hid (xM wr a s (p+2*kinds*d) (k&&zAK s p d kinds d)/\Kept w.heap.size a b w wr/\zV wr b {c with next:=v}/\wr.ownsRow w.heap.size 45 1 v d ((List.range d).map rv)/\wr.heap[g]? =some (.cells #[iX modes,iX rules,iX d,iX kinds,iX r] 152)/\∀i,i<d->wr.ownsRow w.heap.size 3 1 (rv i) kinds ((List.range kinds).map λm=>iX (toF s (p+2*kinds*i) d m:Nat))):=by rw[aK] at E C D;exact⟨E,A,N,C,o,D⟩
   go_wp2;refine av _ _ (qO (zQd a b H g wr s (p+2*kinds*d) (k&&zAK s p d kinds d) {c with next:=v} modes rules d kinds r ⟨h.1,h.2.2.1,λx ad=>by rw[kY] at ad;rw[ad];exact⟨h.2.2.2.2.1,aj⟩,Kept.refl _ _ _ _,M,ak,al,by omega⟩ P ae af J Q ag ai) ?_);rintro e w' ⟨aL,aM,O⟩;exact⟨aL,⟨v,rv,zBa (yD h.2.2.2.1 R) O (by omega) (by omega),λi l=>zBa (yD (h.2.2.2.2.2 i l) R) O (by omega) (by omega),aM⟩,h.2.1.trans (O.mono T)⟩
theorem zQf (a b H g:Nat)(w:World)(s:ByteArray)(p:Nat)(k:Bool)(c:Tc)(modes rules h kinds j:Nat)
  (d:Rt H a b w w s p k c [(g,.cells #[iX modes,iX rules,iX h,iX kinds,iX j] 152)]) (r:s.size<=1048576) (D:1<=modes/\modes<=3) (E:1<=rules/\rules<=8) (F:1<=h/\h<=200) (t:1<=kinds/\kinds<=256) (G:j<=3000) (I:c.next=slice none 0 0) (J:c.ends=slice none 0 0)
  {u2 u3 u4 u6 u7 u8 u9 u10 u11 u12 u13 u14 u15 u16 u17 u18 u19 u20 u21 u22 u23 u24 u25 u26 u27 u28 u29 u30 u31 u32 u33 u34 u35 u36 u37 u38 u39 u40 u41 u42 u43 u44 u45 u46 u47 u48 u49 u50 u51 u52 u53 u54 u55 u56 u57 u58 u59 u60 u61 u62 u63 u64 u65 u66 u67 u68 u69 u70 u71 u72 u73 u74 u75 u76 u77 u78 u79 u80 u81 u82 u83 u84 u85 u86 u87 u88 u89 u90 u91 u92 u93 u94 u95 u96 u97 u98 u99 u100 u101 u102 u103 u104 u105 u106 u107 u108 u109 u110 u111 u112 u113 u114 u115 u116 u117 u118 u119 u120 u121 u122 u123 u124 u125:Value}:
  Code.wp prog (xO 3 ((f83.body).getD .skip)) (bodyPost prog f83 λe w'=>
   e=returned (tuple #[])/\P3 H a b s rules h kinds j w' c p k/\Kept w.heap.size a b w w')
   ⟨(pX a::pX b::u2::u3::u4::pX g::u6::u7::u8::u9::u10::u11::u12::u13::u14::u15::u16::u17::u18::u19::u20::u21::u22::u23::u24::u25::u26::u27::u28::u29::u30::u31::u32::u33::u34::u35::u36::u37::u38::u39::u40::u41::u42::u43::u44::u45::u46::u47::u48::u49::u50::u51::u52::u53::u54::u55::u56::u57::u58::u59::u60::u61::u62::u63::u64::u65::u66::u67::u68::u69::u70::u71::u72::u73::u74::u75::u76::u77::u78::u79::u80::u81::u82::u83::u84::u85::u86::u87::u88::u89::u90::u91::u92::u93::u94::u95::u96::u97::u98::u99::u100::u101::u102::u103::u104::u105::u106::u107::u108::u109::u110::u111::u112::u113::u114::u115::u116::u117::u118::u119::u120::u121::u122::u123::u124::u125::[]).toArray,[]⟩ w:=by
 conv=>arg 2;whnf
 have u:=vl d;have m:=(d.own _ hU).1;have L:=(d.own _ hU).2;have M:=d.aH;have N:=d.bH;have O:=d.HH;have o:=d.ab;have P:=(kQ.1 m).1;have y3:cX w g 3=some (iX kinds):=by simp[World.cell?,m]
 have Q:=vl m;apply wp_cut;intro W R;go_wp2_with fail;refine(zJU a p kinds s k w u.rd r t.2).mono ?_;rintro e w1 ⟨v,rfl,y,S,z⟩;obtain⟨ao,cap,rfl⟩:=zE y;have q:=u.tb.of_block (z.block b (by omega) o.symm);have X:=q.get_kinds;have Y:=q.fz 6;have l:Hid (w1.ownsRow w.heap.size 3 1 (slice ao 256 cap) 256 ((List.range 256).map λi=>iX (zBe s p i:Nat))/\xM w1 a s (p+256) (k&&vE s p 256&&decide (yT s p 256=kinds))/\Keep w.heap.size a w w1/\zV w1 b c):=⟨y,S,z,q⟩
 go_wp2;obtain⟨w2,T,f⟩:∃w2,w2=w1.setCell ⟨b,6,none⟩ (slice ao 256 cap)/\Hid (w2.ownsRow w.heap.size 3 1 (slice ao 256 cap) 256 ((List.range 256).map λi=>iX (zBe s p i:Nat))/\xM w2 a s (p+256) (k&&vE s p 256&&decide (yT s p 256=kinds))/\Kept w.heap.size a b w w2/\zV w2 b {c with kinds:=slice ao 256 cap}/\w2.heap[g]? =some (.cells #[iX modes,iX rules,iX h,iX kinds,iX j] 152)):=
  ⟨_,rfl,xW l.1 (λ_=>Keep.set _ _ _) (by omega),l.2.1.of_block (lJ _ _ _ _ o),(Kept.one l.2.2.1).trans (.two (Keep.set _ _ _)),l.2.2.2.set_kinds _,((lJ _ _ _ _ (by show g≠b;omega)).trans (l.2.2.1.block g P (by omega))).trans Q⟩
 rw[<-T];refine R _ _ (qO (zQe a b H g w2 s (p+256) (k&&vE s p 256&&decide (yT s p 256=kinds)) {c with kinds:=slice ao 256 cap} modes rules h kinds j ⟨f.2.1,f.2.2.2.1,λx B=>by rw[kY] at B;rw[B];exact⟨f.2.2.2.2,L⟩,Kept.refl _ _ _ _,o,M,N,by have:=f.2.2.1.size;omega⟩ r D E F t G I J) ?_);rintro e w' ⟨U,V,C⟩;exact⟨U,⟨_,zBa (yD f.1 O) C (by omega) (by omega),V⟩,f.2.2.1.trans (C.mono f.2.2.1.size)⟩
theorem zGd {g a n cap:Nat}(b:(Value.slice (qX g) n cap).ownBlock=some a):g=a:=by simpa[Value.ownBlock] using b
theorem Tc.nil45 (c:Tc)(a:c.acts=slice none 0 0)(b:c.pushed=slice none 0 0):({c with acts:=slice none 0 0,pushed:=slice none 0 0}:Tc)=c:=by
 cases c
 simp only at a b;subst a b;rfl
theorem zQg (a b H g:Nat)(w:World)(s:ByteArray)(p:Nat)(k:Bool)(c:Tc)(modes rules z kinds B:Nat)
  (C:Rt H a b w w s p k c [(g,.cells #[iX modes,iX rules,iX z,iX kinds,iX B] 152)]) (ae:s.size<=1048576) (D:1<=modes/\modes<=3) (aG:1<=rules/\rules<=8) (aI:1<=z/\z<=200) (aJ:1<=kinds/\kinds<=256) (aK:B<=3000) (aL:c.acts=slice none 0 0) (aM:c.pushed=slice none 0 0) (aN:c.next=slice none 0 0) (aO:c.ends=slice none 0 0)
  {u2 u3 u4 u6 u7 u8 u9 u10 u11 u12 u13 u14 u15 u16 u17 u18 u19 u20 u21 u22 u23 u24 u25 u26 u27 u28 u29 u30 u31 u32 u33 u34 u35 u36 u37 u38 u39 u40 u41 u42 u43 u44 u45 u46 u47 u48 u49 u50 u51 u52 u53 u54 u55 u56 u57 u58 u59 u60 u61 u62 u63 u64 u65 u66 u67 u68 u69 u70 u71 u72 u73 u74 u75 u76 u77 u78 u79 u80 u81 u82 u83 u84 u85 u86 u87 u88 u89 u90 u91 u92 u93 u94 u95 u96 u97 u98 u99 u100 u101 u102 u103 u104 u105 u106 u107 u108 u109 u110 u111 u112 u113 u114 u115 u116 u117 u118 u119 u120 u121 u122 u123 u124 u125:Value}:
  Code.wp prog (xO 2 ((f83.body).getD .skip)) (bodyPost prog f83 λe w'=>
   e=returned (tuple #[])/\P2 H a b s modes rules z kinds B w' c p k/\Kept w.heap.size a b w w')
   ⟨(pX a::pX b::u2::u3::u4::pX g::u6::u7::u8::u9::u10::u11::u12::u13::u14::u15::u16::u17::u18::u19::u20::u21::u22::u23::u24::u25::u26::u27::u28::u29::u30::u31::u32::u33::u34::u35::u36::u37::u38::u39::u40::u41::u42::u43::u44::u45::u46::u47::u48::u49::u50::u51::u52::u53::u54::u55::u56::u57::u58::u59::u60::u61::u62::u63::u64::u65::u66::u67::u68::u69::u70::u71::u72::u73::u74::u75::u76::u77::u78::u79::u80::u81::u82::u83::u84::u85::u86::u87::u88::u89::u90::u91::u92::u93::u94::u95::u96::u97::u98::u99::u100::u101::u102::u103::u104::u105::u106::u107::u108::u109::u110::u111::u112::u113::u114::u115::u116::u117::u118::u119::u120::u121::u122::u123::u124::u125::[]).toArray,[]⟩ w:=by
 conv=>arg 2;whnf
 have af:=vl C;have E:=(C.own _ hU).1;have aP:=(C.own _ hU).2;have aQ:=C.aH;have aR:=C.bH;have ao:=C.HH;have O:=C.ab;have ag:=(kQ.1 E).1;obtain⟨ap,aq,ar,au,av⟩:=info_parts yF;apply wp_cut;intro a8 aS;go_wp2;go_loopg [8] rules (λq i wr=>∃(j:Nat) (v u:Value),q=rules-j/\j<=rules/\i=iX (j:Int)/\wr.ownsRow w.heap.size 3 1 v j ((List.range j).map λi=>iX (zDe s p i:Nat))/\wr.ownsRow w.heap.size 3 1 u j ((List.range j).map λi=>iX (zAJ s p modes i:Nat))/\(∀d,v.ownBlock=some d->u.ownBlock≠some d)/\xM wr a s (p+2*j) (k&&zAx s p modes j)/\zV wr b {c with acts:=v,pushed:=u}/\Kept w.heap.size a b w wr)
 case atStart=>exact⟨0,slice none 0 0,slice none 0 0,rfl,lX,rfl,ownsRow_nil _ _ _ _,ownsRow_nil _ _ _ _,(λ_ e=>by cases e),af.rd.to rfl (by simp[zAx]),(by rw[Tc.nil45 c aL aM];exact af.tb),Kept.refl _ _ _ _⟩
 case round=>
  obtain⟨j,v,u,ah,a9,rfl,P,Q,ai,R,W,I⟩:=hrel;have E:=(I.block g ag (by omega) (by omega)).trans (af.own _ hU).1;have aT:cX wr g 1=some (iX rules):=by simp[World.cell?,E]
  have aU:=I.size;by_cases ba:j<rules
  ·have aV:(j:Int)<(rules:Int):=by omega
   have f:Hid (gk=rules-j/\xM wr a s (p+2*j) (k&&zAx s p modes j)/\Kept w.heap.size a b w wr/\zV wr b {c with acts:=v,pushed:=u}/\wr.ownsRow w.heap.size 3 1 v j ((List.range j).map λi=>iX (zDe s p i:Nat))/\wr.ownsRow w.heap.size 3 1 u j ((List.range j).map λi=>iX (zAJ s p modes i:Nat))/\(∀d,v.ownBlock=some d->u.ownBlock≠some d)/\wr.heap[g]? =some (.cells #[iX modes,iX rules,iX z,iX kinds,iX B] 152)):=⟨ah,R,I,W,P,Q,ai,E⟩
   have aw:Hid (zDe s p j=within (byt s (p+2*j)) 0 3):=rfl;have ax:Hid (zAJ s p modes j=within (byt s (p+2*j+1)) 0 (modes-1)):=rfl;have ay:Hid (zAx s p modes (j+1)=(zAx s p modes j&&decide (p+2*j<s.size)&&inB (byt s (p+2*j)) 0 3&&decide (p+2*j+1<s.size)&&inB (byt s (p+2*j+1)) 0 (modes-1))):=rfl;have X:=zX (byt s (p+2*j)) 0 3 lX;have aW:=zX (byt s (p+2*j+1)) 0 (modes-1) lX;clear ah R I P Q ai W E;go_wp2_with fail;refine(zA8 a (p+2*j) s (k&&zAx s p modes j) wr f.2.1 ae 0 3).mono ?_;rintro e w1 ⟨rfl,S,m⟩;have Y:=vl S;have J:Hid (w1.ownsRow w.heap.size 3 1 v j ((List.range j).map λi=>iX (zDe s p i:Nat))):=xW f.2.2.2.2.1 m (by omega);have L:Hid (w1.ownsRow w.heap.size 3 1 u j ((List.range j).map λi=>iX (zAJ s p modes i:Nat))):=xW f.2.2.2.2.2.1 m (by omega);have M:Hid (Kept w.heap.size a b w w1):=f.2.2.1.trans (.one (m _));have r:Hid (zV w1 b {c with acts:=v,pushed:=u}):=f.2.2.2.1.of_block ((m w.heap.size).block b (by omega) O.symm);have az:cX w1 b 4=some v:=r.get_acts;have aa:w.heap.size<=w1.heap.size:=M.size;have bb:(modes:Int)-1=((modes-1:Nat):Int):=by omega
   have aA:Hid (w1.heap[g]? =some (.cells #[iX modes,iX rules,iX z,iX kinds,iX B] 152)):=((m w.heap.size).block g ag (by omega)).trans f.2.2.2.2.2.2.2;have bc:g≠b:=by omega
   clear S m aT;rw[<-aw.out] at X ⊢;clear aw;generalize T:zDe s p j=x at *;have aB:Hid (zDe s p j=x):=T;clear T;go_wp2_with (first|(at_builtin;refine wpList_append_lies _ rfl _ _ 45 rfl w.heap.size 3 ap (iX 0) 1 8 underlying45 aq ar au av rfl (by decide) _ _ _ rfl (J.alloc _) ⟨w1.heap.size,0,none⟩ 1 1 [iX (x:Int)] rfl rfl (cell_one_new _ _ _) (by intro u U;simp at U;subst U;rfl) (by decide) (by unfold maxLen;omega) (by omega) (by simp;omega) _ rfl ?_;intro o cap w2 ac N ad aC;have l:=xF J N aa;have A:=(r.of_block (l.block b (by omega))).get_acts;have q2:=(r.of_block (l.block b (by omega))).fz 4;have q3:cX w2 g 0=some (iX modes):=by have aX:=(l.block g ag).trans aA;simp[World.cell?,aX]))
   obtain⟨aY,aD,F⟩:∃w',w'=w2.setCell ⟨b,4,none⟩ (slice (qX o) (j+1) cap)/\Hid (w'.ownsRow w.heap.size 3 1 (slice (qX o) (j+1) cap) (j+1) ((List.range (j+1)).map λi=>iX (zDe s p i:Nat))/\w'.ownsRow w.heap.size 3 1 u j ((List.range j).map λi=>iX (zAJ s p modes i:Nat))/\u.ownBlock≠some o/\xM w' a s (p+2*j+1) (k&&zAx s p modes j&&decide (p+2*j<s.size)&&inB (byt s (p+2*j)) 0 3)/\zV w' b {c with acts:=slice (qX o) (j+1) cap,pushed:=u}/\Kept w.heap.size a b w w'):=by
    have aj:Kept w.heap.size a b w w2:=M.trans (.one (xD l));have ak:zV w2 b {c with acts:=v,pushed:=u}:=r.of_block (l.block b (by omega));have al:∀d,d<w1.heap.size->v.ownBlock≠some d->w2.heap[d]? =w1.heap[d]? :=λd A q2=>(N.block d (by simp;omega) (Ne.symm q2)).trans (lG _ _ _ A);have am:w2.ownsRow w.heap.size 3 1 u j ((List.range j).map λi=>iX (zAJ s p modes i:Nat)):=zD L λd A q2 q3=>al d q2 (λe=>f.2.2.2.2.2.2.1 d e q3);refine⟨_,rfl,xW ?_ (λ_=>Keep.set _ _ _) (by omega),xW am (λ_=>Keep.set _ _ _) (by omega),λe=>?_,(Y.of_block (l.block a (by omega))).of_block (lJ _ _ _ _ O),ak.set_acts _,aj.trans (.two (Keep.set _ _ _))⟩
    ·rw[xP,aB.out];exact ac
    ·rcases ad with G|G
     ·exact f.2.2.2.2.2.2.1 o G e
     ·have D:=(L.lt o e).2
      rw[G] at D;simp at D;omega
   rw[<-aD];clear aD r Y M J L l ac N ad aC A q2 q3 aA aB az;clear aa;refine(zA8 a (p+2*j+1) s _ aY F.2.2.2.1 ae 0 (modes-1)).mono ?_;rintro e t ⟨rfl,S,m⟩;have Y:Hid (xM t a s (p+2*(j+1)) (k&&zAx s p modes (j+1))):=by show xM _ _ _ _ _;rw[ay.out];exact S.to rfl (by simp[Bool.and_assoc])
   have J:Hid (t.ownsRow w.heap.size 3 1 (slice (qX o) (j+1) cap) (j+1) ((List.range (j+1)).map λi=>iX (zDe s p i:Nat))):=xW F.1 m (by omega);have L:Hid (t.ownsRow w.heap.size 3 1 u j ((List.range j).map λi=>iX (zAJ s p modes i:Nat))):=xW F.2.1 m (by omega);have M:Hid (Kept w.heap.size a b w t):=F.2.2.2.2.2.trans (.one (m _));have r:Hid (zV t b {c with acts:=slice (qX o) (j+1) cap,pushed:=u}):=F.2.2.2.2.1.of_block ((m w.heap.size).block b (by omega) O.symm);have az:cX t b 5=some u:=r.get_pushed;have aa:w.heap.size<=t.heap.size:=M.size;have aE:=F.2.2.1;clear S m F ay;rw[<-ax.out] at aW ⊢;clear ax;generalize T:zAJ s p modes j=y at *;have aZ:Hid (zAJ s p modes j=y):=T;clear T;go_wp2_with (first|(at_builtin;refine wpList_append_lies _ rfl _ _ 45 rfl w.heap.size 3 ap (iX 0) 1 8 underlying45 aq ar au av rfl (by decide) _ _ _ rfl (L.alloc _) ⟨t.heap.size,0,none⟩ 1 1 [iX (y:Int)] rfl rfl (cell_one_new _ _ _) (by intro u U;simp at U;subst U;rfl) (by decide) (by unfold maxLen;omega) (by omega) (by simp;omega) _ rfl ?_;intro aF a0 V ac N ad aC;have l:=xF L N aa;have A:=(r.of_block (l.block b (by omega))).get_pushed;have q2:=(r.of_block (l.block b (by omega))).fz 5))
   have aj:Kept w.heap.size a b w V:=M.trans (.one (xD l));have ak:zV V b {c with acts:=slice (qX o) (j+1) cap,pushed:=u}:=r.of_block (l.block b (by omega));have al:∀d,d<t.heap.size->u.ownBlock≠some d->V.heap[d]? =t.heap[d]? :=λd A q2=>(N.block d (by simp;omega) (Ne.symm q2)).trans (lG _ _ _ A);have a1:V.ownsRow w.heap.size 3 1 (slice (qX o) (j+1) cap) (j+1) ((List.range (j+1)).map λi=>iX (zDe s p i:Nat)):=zD J λd A q2 q3=>al d q2 (zGd q3 ▸ aE);have am:V.ownsRow w.heap.size 3 1 (slice (qX aF) (j+1) a0) (j+1) ((List.range (j+1)).map λi=>iX (zAJ s p modes i:Nat)):=by
    rw[xP,aZ.out];exact ac
   have a2:o≠aF:=by
    intro e;rcases ad with G|G
    ·exact aE (by rw[e];exact G)
    ·have D:=(J.lt o rfl).2
     rw[e,G] at D;simp at D;omega
   go_roundg (rules-(j+1))
   case measure=>rw[f.out.1];omega
   case rel=>exact⟨j+1,_,_,rfl,by omega,congrArg (Value.int IntKind.i64) (by omega),xW a1 (λ_=>Keep.set _ _ _) (by omega),xW am (λ_=>Keep.set _ _ _) (by omega),(λd a3 a4=>a2 ((zGd a3).trans (zGd a4).symm)),(Y.of_block (l.block a (by omega))).of_block (lJ _ _ _ _ O),ak.set_pushed _,aj.trans (.two (Keep.set _ _ _))⟩
  ·have a5:j=rules:=by omega
   have aV:(rules:Int)<=(j:Int):=by omega
   have f:Hid (xM wr a s (p+2*rules) (k&&zAx s p modes rules)/\Kept w.heap.size a b w wr/\zV wr b {c with acts:=v,pushed:=u}/\wr.ownsRow w.heap.size 3 1 v rules ((List.range rules).map λi=>iX (zDe s p i:Nat))/\wr.heap[g]? =some (.cells #[iX modes,iX rules,iX z,iX kinds,iX B] 152)/\wr.ownsRow w.heap.size 3 1 u rules ((List.range rules).map λi=>iX (zAJ s p modes i:Nat))):=by rw[a5] at R P Q;exact⟨R,I,W,P,E,Q⟩
   clear ah R I P W E Q ai;go_wp2_with fail;refine aS _ _ (qO (zQf a b H g wr s (p+2*rules) (k&&zAx s p modes rules) {c with acts:=v,pushed:=u} modes rules z kinds B ⟨f.1,f.2.2.1,λx X=>by rw[kY] at X;rw[X];exact⟨f.2.2.2.2.1,aP⟩,Kept.refl _ _ _ _,O,aQ,aR,by omega⟩ ae D aG aI aJ aK aN aO) ?_);rintro e w' ⟨a6,a7,an⟩;exact⟨a6,⟨v,u,zBa (yD f.2.2.2.1 ao) an (by omega) (by omega),zBa (yD f.2.2.2.2.2 ao) an (by omega) (by omega),a7⟩,f.2.1.trans (an.mono aU)⟩
end Go.Proofs.YtbjcfkdnjaiclaaGreat
