import Derived.Deep.RegionHeld3
import Derived.Test.YtbjcfkdnjaiclaaGreatS0
import Derived.Test.YtbjcfkdnjaiclaaGreatS8
/- Parts of the proof. -/
set_option linter.unusedVariables false
set_option linter.unusedSimpArgs false
set_option maxHeartbeats 4000000
set_option maxRecDepth 100000
namespace Go.Proofs.YtbjcfkdnjaiclaaGreat
open Go.RowKit Go.Proofs.Tryz Go.World
open Go.Value (int slice bool pointer string agg tuple)
open Go.IntKind (i64)
open Go.Ending (returned)
theorem zOH {a:Type}(l:List a)(p:a->Bool)(b:a)(i:Nat)(c:i<l.length)(e:p (l.getD i b)=true):l.any p=true:=by
 rw[List.any_eq_true];exact⟨_,zY l i b c,e⟩
theorem zKn {a:Type}(l:List a)(p:a->Bool)(c:a)(e:∀i,i<l.length->p (l.getD i c)=false):l.any p=false:=by
 rw[List.any_eq_false];intro x f;obtain⟨i,b,rfl⟩:=List.getElem_of_mem f;have:=e i b;rw[lW,lV b] at this;simpa using this
theorem zJR (w:World)(rv:Value)(s:Cs)(B:RangesAt w rv s.ranges)(J:s.ranges.length<=1000000000000)(c:Int):
  Calls prog 192 #[agg #[rv,bool s.others],iX c] w λe w'=>e=returned (bool (s.lists c))/\Grew w w':=by
 obtain⟨ao,cap,rfl,_,_,C⟩:=B;have D:=vl C;have E:Hid (∀i,i<s.ranges.length->(s.ranges.getD i (0,0)).1<=c->c<=(s.ranges.getD i (0,0)).2->s.lists c=true):=λi a l m=>zOH _ _ (0,0) i a (by show(decide _&&decide _)=true;rw[gJ l,gJ m];rfl);have F:Hid ((∀i,i<s.ranges.length->¬((s.ranges.getD i (0,0)).1<=c/\c<=(s.ranges.getD i (0,0)).2))->s.lists c=false):=λf=>zKn _ _ (0,0) λi a=>by
  have:=f i a;simpa using this
 go_in;go_wp2;go_loopg [10] s.ranges.length (λq i wr=>∃j:Nat,q=s.ranges.length-j/\j<=s.ranges.length/\i=iX (j:Int)/\(∀i,i<j->¬((s.ranges.getD i (0,0)).1<=c/\c<=(s.ranges.getD i (0,0)).2))/\Grew w wr)
 case atStart=>exact⟨0,rfl,lX,rfl,λi a=>by omega,kZ _ _ lQ⟩
 case round=>
  obtain⟨j,r,K,rfl,p,g⟩:=hrel;have d:Hid (gk=s.ranges.length-j/\(∀i,i<j->¬((s.ranges.getD i (0,0)).1<=c/\c<=(s.ranges.getD i (0,0)).2))/\Grew w wr):=⟨r,p,g⟩
  by_cases u:j<s.ranges.length
  ·have G:(j:Int)<(s.ranges.length:Int):=by omega
   obtain⟨b,o,rfl,v,c0,c1⟩:=D j u;have L:cX wr b (o+j*2)=some (iX (s.ranges.getD j (0,0)).1):=zA c0 v g;have M:cX wr b (o+j*2+1)=some (iX (s.ranges.getD j (0,0)).2):=zA c1 v g;have H:=vl <| E j u;have z:Hid (¬((s.ranges.getD j (0,0)).1<=c/\c<=(s.ranges.getD j (0,0)).2)->∀i,i<j+1->¬((s.ranges.getD i (0,0)).1<=c/\c<=(s.ranges.getD i (0,0)).2)):=λf i a=>by
    by_cases e:i=j
    ·rw[e];exact f
    ·exact d.2.1 i (by omega)
   clear c0 c1 r p g;generalize (s.ranges.getD j (0,0)).1=x at *;generalize (s.ranges.getD j (0,0)).2=y at *;have A:Grew w (wr.alloc (.cells #[iX x,iX y] 255)):=d.2.2.trans (kZ _ _ d.2.2.size);have t:=vl A;clear A;by_cases l:x<=c
   ·by_cases m:c<=y
    ·have k:=vl <| H l m
     go_wp2;go_ret;exact⟨by rw[k.out];rfl,t⟩
    ·have k:=vl m
     go_wp2;go_roundg (s.ranges.length-(j+1))
     case measure=>rw[d.out.1];omega
     case rel=>exact⟨j+1,rfl,by omega,by go_num,z (λf=>by have:=k.out;omega),t⟩
   ·have k:=vl l
    go_wp2;go_roundg (s.ranges.length-(j+1))
    case measure=>rw[d.out.1];omega
    case rel=>exact⟨j+1,rfl,by omega,by go_num,z (λf=>by have:=k.out;omega),t⟩
  ·have G:(s.ranges.length:Int)<=(j:Int):=by omega
   have I:=vl <| F λi a=>p i (by omega);clear r p g;go_wp2;go_ret;exact⟨by rw[I.out];rfl,d.2.2⟩
theorem zM4 (w:World)(rv:Value)(s:Cs)(k:RangesAt w rv s.ranges)(r:s.ranges.length<=1000000000000)(c:Int):
  Calls prog 184 #[agg #[rv,bool s.others],iX c] w λe w'=>e=returned (bool (s.has c))/\Grew w w':=by
 obtain⟨ao,cap,l,_⟩:=id k;have y:=vl l;clear l;obtain⟨w1,d,a,m,o⟩:∃w1,w1=w.alloc (.cells #[rv,bool s.others] 161)/\Hid (Grew w w1/\w.heap.size<w1.heap.size)/\w1.cell? ⟨w.heap.size,0,none⟩=some rv/\w1.cell? ⟨w.heap.size,1,none⟩=some (bool s.others):=by
  have t:=gX w (.cells #[rv,bool s.others] 161);refine⟨_,rfl,⟨kZ _ _ lQ,by simp⟩,?_,?_⟩ <;> ·unfold cell?;rw[t];rfl
 have u:Hid (Ca 192 #[agg #[rv,bool s.others],iX c] w1.drew λe w'=>e=returned (bool (s.lists c))/\w'.cell? ⟨w.heap.size,1,none⟩=some (bool s.others)/\w'.cell? ⟨w.heap.size,0,none⟩=some rv/\Grew w w'):=by
  refine(zJR w1.drew rv s ((k.grown a.1).grown (Keep.drew _)) r c).mono ?_;rintro e w2 ⟨rfl,g⟩;exact⟨rfl,zA (w:=w1.drew) o a.2 g,zA (w:=w1.drew) m a.2 g,a.1.trans ((Keep.undrew g).lower a.1.size a.1.size)⟩
 cases b:zEM c with
 |false=>
  have i:Hid (s.has c=false):=by show _=_;unfold Cs.has;rw[b];rfl
  have j:Hid (∀w,Ca 191 #[iX c] w λe w'=>e=returned (bool false)/\w'=w):=λw=>by rw[<-b];exact zGo w c
  go_in;apply wp_cut;intro v f;go_wp2;apply f.out;rw[<-d];clear d;go_wp2;go_quiet ((go_at_call 191;exact Calls.quiet_of_same (j _)));go_wp2;go_ret;exact⟨by rw[i.out];rfl,a.1.trans ⟨rfl,rfl,lQ,λ_ _ _=>rfl⟩⟩
 |true=>
  have i:Hid (s.has c=(s.lists c != s.others)):=by show _=_;unfold Cs.has;rw[b];rfl
  have j:Hid (∀w,Ca 191 #[iX c] w λe w'=>e=returned (bool true)/\w'=w):=λw=>by rw[<-b];exact zGo w c
  clear b;go_in;apply wp_cut;intro v f;go_wp2;apply f.out;clear f;rw[<-d];clear d;go_wp2;go_region_held3 (λw'=>w'.cell? ⟨w.heap.size,0,none⟩=some rv/\w'.cell? ⟨w.heap.size,1,none⟩=some (bool s.others)) (first|exact⟨p,q⟩|go_keep) (first|(go_at_call 191;refine(j _).mono ?_;rintro e z ⟨rfl,rfl⟩;have p:=m;have q:=o)|(go_at_call 192;refine u.mono ?_;rintro e A ⟨rfl,q,p,x⟩))
  all_goals
   go_wp2;go_ret;exact⟨by rw[i.out];rfl,x⟩
theorem qA (a b:Nat)(c:a<9223372036854775808)(d:b<9223372036854775808):bits .or i64 (a:Int) (b:Int)=((a|||b:Nat):Int):=
 (bits_nat i64 63 (by decide) (λn e f=>zCG n e (by simpa using f)) a b (by simpa using c) (by simpa using d)).2
theorem zF9 (j:Nat)(a:j<63):wrap64 (2^j)=((2^j:Nat):Int):=by
 have b:2^j<2^63:=Nat.pow_lt_pow_right (by omega) a;have e:((2:Int)^j)=((2^j:Nat):Int):=by simp
 rw[e];generalize 2^j=x at b;exact w64 _ (by omega) (by omega)
theorem zN0 (a j:Nat)(b:j<63)(c:a<9223372036854775808):bits .or i64 (a:Int) (wrap64 (2^j))=((a|||2^j:Nat):Int):=by
 have d:2^j<2^63:=Nat.pow_lt_pow_right (by omega) b;rw[zF9 j b];exact qA _ _ c (by omega)
def vL (f:Nat->Bool):Nat->Nat
 |0=>0
 |k+1=>if f k then vL f k|||2^k else vL f k
theorem zBS (f:Nat->Bool)(k:Nat):vL f k<2^k:=by
 induction k with
 |zero=>simp[vL]
 |succ k b=>
  have a:2^k<2^(k+1):=Nat.pow_lt_pow_right (by omega) (by omega);unfold vL;split
  ·exact Nat.or_lt_two_pow (by omega) a
  ·omega
def zBh (sets:List Cs)(c:Int)(i:Nat):Bool:=(sets.getD i ⟨[],false⟩).has c
def vJ (sets:List Cs)(c:Int):Nat:=vL (zBh sets c) sets.length
theorem zHR (w:World)(v:Value)(sets:List Cs)(z:SetsAt w v sets)(S:sets.length<=24)(A:∀s∈sets,s.ranges.length<=1000000000000)(c:Int):
  Calls prog 169 #[v,iX c] w λe w'=>e=returned (iX (vJ sets c))/\Grew w w':=by
 obtain⟨ao,cap,rfl,_,_,B⟩:=z;have C:=vl B;have D:Hid (∀i,i<sets.length->(sets.getD i ⟨[],false⟩).ranges.length<=1000000000000):=λi E=>A _ (zY _ i _ E);have F:Hid (vJ sets c=vL (zBh sets c) sets.length):=rfl;generalize T:sets.length=n at *;go_in;go_wp2;go_loopg [5,10] n (λq x i wr=>∃j:Nat,q=n-j/\j<=n/\x=iX (vL (zBh sets c) j:Nat)/\i=iX (j:Int)/\Grew w wr)
 case atStart=>exact⟨0,rfl,lX,rfl,rfl,⟨rfl,rfl,lQ,λ_ _ _=>rfl⟩⟩
 case round=>
  obtain⟨j,G,U,rfl,rfl,k⟩:=hrel;have a:Hid (gk=n-j/\Grew w wr):=⟨G,k⟩
  by_cases r:j<n
  ·have H:(j:Int)<(n:Int):=by omega
   obtain⟨b,o,u,rfl,t,c0,c1,y⟩:=C j r;obtain⟨I,J,rfl,-⟩:=id y;have V:=zA c0 t k;have W:=zA c1 t k;have d:Hid (∀w',Grew w w'->Ca 184 #[agg #[slice I (sets.getD j ⟨[],false⟩).ranges.length J,bool (sets.getD j ⟨[],false⟩).others],iX c] w' λe w2=>e=returned (bool (zBh sets c j))/\Grew w w2):=by
    intro w' f;refine(zM4 w' _ _ (y.grown f) (D j r) c).mono ?_;rintro e w2 ⟨rfl,K⟩;exact⟨rfl,f.trans (K.lower f.size f.size)⟩
   have X:=zBS (zBh sets c) j;have Y:2^j<=2^24:=kG (by omega) (by omega);have L:Hid (zBh sets c j=true->vL (zBh sets c) (j+1)=vL (zBh sets c) j|||2^j):=λl=>by show(if _ then _ else _)=_;rw[l];rfl
   have M:Hid (zBh sets c j=false->vL (zBh sets c) (j+1)=vL (zBh sets c) j):=λl=>by show(if _ then _ else _)=_;rw[l];rfl
   generalize (sets.getD j ⟨[],false⟩).ranges.length=aa at *;generalize (sets.getD j ⟨[],false⟩).others=ab at *;generalize vL (zBh sets c) j=N at *;have O:=vl <| zN0 N j (by omega) (by omega);cases g:zBh sets c j with
   |true=>
    rw[g] at d;have m:=vl <| L g;go_wp2_with (first|(go_at_call 184;refine(d _ (a.2.trans (kZ _ _ a.2.size))).mono ?_;rintro e P ⟨rfl,p⟩))
    go_roundg (n-(j+1))
    case measure=>rw[a.out.1];omega
    case rel=>exact⟨j+1,rfl,by omega,by rw[O.out,m.out],by go_num,p⟩
   |false=>
    rw[g] at d;have m:=vl <| M g;go_wp2_with (first|(go_at_call 184;refine(d _ (a.2.trans (kZ _ _ a.2.size))).mono ?_;rintro e P ⟨rfl,p⟩))
    go_roundg (n-(j+1))
    case measure=>rw[a.out.1];omega
    case rel=>exact⟨j+1,rfl,by omega,by rw[m.out],by go_num,p⟩
  ·have Q:j=n:=by omega
   have H:(n:Int)<=(j:Int):=by omega
   have R:Hid (vJ sets c=vL (zBh sets c) j):=by show _=_;rw[F.out,Q]
   go_wp2;go_ret;exact⟨by rw[R.out];rfl,a.2⟩
structure Ar where
 lows:List Int
 letters:List Int
 sets:List Int
def zAi (lows:List Int)(n:Int):Nat->Nat->Nat->Nat
 |0,low,_=>low
 |f+1,low,high=>if high-low>1 then(if lows.getD ((low+high)/2) 0<=n then zAi lows n f ((low+high)/2) high else zAi lows n f low ((low+high)/2)) else low
def Ar.area (a:Ar)(n:Int):Nat:=zAi a.lows n a.lows.length 0 a.lows.length
theorem zLJ (lows:List Int)(n:Int)(f low a:Nat)(b:¬a-low>1):zAi lows n f low a=low:=by
 cases f with
 |zero=>rfl
 |succ f=>rw[zAi,if_neg b]
theorem zKm (lows:List Int)(n:Int)(f low a:Nat)(b:low<a):zAi lows n f low a<a:=by
 induction f generalizing low a with
 |zero=>exact b
 |succ f c=>
  rw[zAi];split
  ·split
   ·exact c _ _ (by omega)
   ·exact lZ (c _ _ (by omega)) (by omega)
  ·exact b
theorem Ar.area_lt (a:Ar)(n:Int)(b:0<a.lows.length):a.area n<a.lows.length:=zKm _ _ _ _ _ b
structure ArAt (w:World)(lv tv sv:Value)(a:Ar):Prop where
 lows:Ints w (In w) lv a.lows
 letters:Ints w (In w) tv a.letters
 sets:Ints w (In w) sv a.sets
theorem ArAt.grown {w w':World}{lv tv sv:Value}{a:Ar}(b:ArAt w lv tv sv a)(c:Grew w w'):ArAt w' lv tv sv a:=⟨b.lows.grown c,b.letters.grown c,b.sets.grown c⟩
theorem zGI (w:World)(lv tv sv:Value)(a:Ar)(l:ArAt w lv tv sv a)(L:a.lows.length<=1000000000000)(n:Int):
  Calls prog 185 #[agg #[lv,tv,sv],iX n] w λe w'=>e=returned (iX (a.area n))/\Grew w w':=by
 obtain⟨p,r,rfl,_,_,t⟩:=l.lows;obtain⟨at_,u,rfl,-⟩:=l.letters;obtain⟨as_,cs,rfl,-⟩:=l.sets;have E:=vl t;clear t l;obtain⟨w1,v,z,M⟩:∃w1,w1=w.alloc (.cells #[slice p a.lows.length r,slice at_ a.letters.length u,slice as_ a.sets.length cs] 172)/\Hid (Grew w w1)/\w1.cell? ⟨w.heap.size,0,none⟩=some (slice p a.lows.length r):=by
  have F:=gX w (.cells #[slice p a.lows.length r,slice at_ a.letters.length u,slice as_ a.sets.length cs] 172);refine⟨_,rfl,kZ _ _ lQ,?_⟩;unfold cell?;rw[F];rfl
 have G:Hid (a.area n=zAi a.lows n a.lows.length 0 a.lows.length):=rfl;generalize a.lows.length=m at *;go_in;apply wp_cut;intro H g;go_wp2;apply g.out;clear g;rw[<-v];clear v;go_wp2;go_loopg [5,6] m (λq x y wr=>∃low c f:Nat,q=c-low/\x=iX (low:Int)/\y=iX (c:Int)/\low<=c/\c<=m/\c-low<=f+1/\a.area n=zAi a.lows n f low c/\wr=w1)
 case atStart=>exact⟨0,m,m,rfl,rfl,rfl,lX,lQ,by omega,G,rfl⟩
 case round=>
  obtain⟨low,c,f,A,rfl,rfl,N,O,P,B,rfl⟩:=hrel;have i:Hid (gk=c-low/\a.area n=zAi a.lows n f low c):=⟨A,B⟩
  clear A B;by_cases s:c-low>1
  ·obtain⟨f,rfl⟩:∃I,f=I+1:=⟨f-1,by omega⟩
   have Q:low<(low+c)/2:=by omega
   have R:(low+c)/2<c:=by omega
   have C:Hid (zAi a.lows n (f+1) low c=if a.lows.getD ((low+c)/2) 0<=n then zAi a.lows n f ((low+c)/2) c else zAi a.lows n f low ((low+c)/2)):=by show _=_;rw[zAi,if_pos s]
   obtain⟨b,o,rfl,J,j⟩:=E ((low+c)/2) (by omega);have S:wr.cell? ⟨b,o+(low+c)/2,none⟩=some (iX (a.lows.getD ((low+c)/2) 0)):=zA j J z;have T:(((low:Int)+(c:Int)).tdiv 2)=(((low+c)/2:Nat):Int):=by
    rw[Int.tdiv_eq_ediv_of_nonneg (by omega)];omega
   clear j;have K:(1:Int)<(c:Int)-(low:Int):=by omega
   have U:(((low+c)/2:Nat):Int)<(m:Int):=by omega
   apply wp_cut;intro H g;go_wp2;apply g.out;clear g;generalize D:(low+c)/2=d at *;have V:=vl D;clear D;generalize a.lows.getD d 0=x at *;by_cases j:x<=n
   ·have k:Hid (zAi a.lows n (f+1) low c=zAi a.lows n f d c):=by show _=_;rw[C.out,if_pos j]
    go_wp2;go_roundg (c-d)
    case measure=>rw[i.out.1];omega
    case rel=>exact⟨d,c,f,rfl,rfl,rfl,by omega,by omega,by omega,by rw[i.out.2,k.out],rfl⟩
   ·have k:Hid (zAi a.lows n (f+1) low c=zAi a.lows n f low d):=by show _=_;rw[C.out,if_neg j]
    go_wp2;go_roundg (d-low)
    case measure=>rw[i.out.1];omega
    case rel=>exact⟨low,d,f,rfl,rfl,rfl,by omega,by omega,by omega,by rw[i.out.2,k.out],rfl⟩
  ·have K:(c:Int)-(low:Int)<=1:=by omega
   have k:Hid (zAi a.lows n f low c=low):=zLJ _ _ _ _ _ s;clear s;go_wp2;go_ret;exact⟨by rw[i.out.2,k.out];rfl,z⟩
def Ar.letter (a:Ar)(n:Int):Int:=a.letters.getD (a.area n) 0
def Ar.alike (a:Ar)(m n:Int):Bool:=(a.area m:Int)==(a.area n:Int)
theorem zIj (w:World)(lv tv sv:Value)(a:Ar)(f:ArAt w lv tv sv a)(s:a.lows.length<=1000000000000)(o:0<a.lows.length)(t:a.letters.length=a.lows.length)(n:Int):
  Calls prog 175 #[agg #[lv,tv,sv],iX n] w λe w'=>e=returned (iX (a.letter n))/\Grew w w':=by
 obtain⟨i,j,rfl,-⟩:=id f.lows;obtain⟨b,c,g,rfl,u,_,_,p⟩:=f.letters.block (by omega);obtain⟨as_,cs,rfl,-⟩:=id f.sets;obtain⟨w1,q,d,D,v,E⟩:∃w1,w1=w.alloc (.cells #[slice i a.lows.length j,slice (some ⟨b,c,none⟩) a.letters.length g,slice as_ a.sets.length cs] 172)/\Hid (Grew w w1/\w.heap.size<w1.heap.size)/\w1.cell? ⟨w.heap.size,0,none⟩=some (slice i a.lows.length j)/\w1.cell? ⟨w.heap.size,1,none⟩=some (slice (some ⟨b,c,none⟩) a.letters.length g)/\w1.cell? ⟨w.heap.size,2,none⟩=some (slice as_ a.sets.length cs):=by
  have y:=gX w (.cells #[slice i a.lows.length j,slice (some ⟨b,c,none⟩) a.letters.length g,slice as_ a.sets.length cs] 172);refine⟨_,rfl,⟨kZ _ _ lQ,by simp⟩,?_,?_,?_⟩ <;> ·unfold cell?;rw[y];rfl
 have z:=zGI w1 _ _ _ a (f.grown d.1) s n;have A:a.area n<a.letters.length:=by have:=a.area_lt n o;omega
 have r:w.cell? ⟨b,c+a.area n,none⟩=some (iX (a.letters.getD (a.area n) 0)):=p _ A;have B:Hid (a.letter n=a.letters.getD (a.area n) 0):=rfl;have l:Hid (In w b/\w.cell? ⟨b,c+a.area n,none⟩=some (iX (a.letters.getD (a.area n) 0))):=⟨u,r⟩
 clear p f r o t;generalize a.letters.getD (a.area n) 0=x at *;generalize a.area n=k at *;have F:(k:Int)<(a.letters.length:Int):=by omega
 go_in;apply wp_cut;intro G C;go_wp2;apply C.out;rw[<-q];clear q;go_wp2_with (first|(go_at_call 185;refine z.mono ?_;rintro e w2 ⟨rfl,m⟩;have H:w2.cell? ⟨w.heap.size,1,none⟩=some (slice (some ⟨b,c,none⟩) a.letters.length g):=zA v d.2 m;have I:w2.cell? ⟨b,c+k,none⟩=some (iX x):=zA (zA l.2 l.1 d.1) (lZ l.1 d.1.size) m))
 go_ret;exact⟨by rw[B.out];rfl,d.1.trans (m.lower d.1.size d.1.size)⟩
theorem zKp (w:World)(lv tv sv:Value)(a:Ar)(d:ArAt w lv tv sv a)(s:a.lows.length<=1000000000000)(m n:Int):
  Calls prog 177 #[agg #[lv,tv,sv],iX m,iX n] w λe w'=>e=returned (bool (a.alike m n))/\Grew w w':=by
 obtain⟨f,g,rfl,-⟩:=id d.lows;obtain⟨at_,i,rfl,-⟩:=id d.letters;obtain⟨as_,cs,rfl,-⟩:=id d.sets;obtain⟨w1,l,b,o,p,q⟩:∃w1,w1=w.alloc (.cells #[slice f a.lows.length g,slice at_ a.letters.length i,slice as_ a.sets.length cs] 172)/\Hid (Grew w w1/\w.heap.size<w1.heap.size)/\w1.cell? ⟨w.heap.size,0,none⟩=some (slice f a.lows.length g)/\w1.cell? ⟨w.heap.size,1,none⟩=some (slice at_ a.letters.length i)/\w1.cell? ⟨w.heap.size,2,none⟩=some (slice as_ a.sets.length cs):=by
  have t:=gX w (.cells #[slice f a.lows.length g,slice at_ a.letters.length i,slice as_ a.sets.length cs] 172);refine⟨_,rfl,⟨kZ _ _ lQ,by simp⟩,?_,?_,?_⟩ <;> ·unfold cell?;rw[t];rfl
 have r:Hid (∀w' x,Grew w w'->Ca 185 #[agg #[slice f a.lows.length g,slice at_ a.letters.length i,slice as_ a.sets.length cs],iX x] w' λe w2=>e=returned (iX (a.area x))/\Grew w' w2):=λw' x u=>zGI w' _ _ _ a (d.grown u) s x;have v:Hid (a.alike m n=((a.area m:Int)==(a.area n:Int))):=rfl;go_in;apply wp_cut;intro y j;go_wp2;apply j.out;rw[<-l];clear l;apply wp_cut;intro y j;go_wp2_with (first|(go_at_call 185;refine(r _ m b.1).mono ?_;rintro e w2 ⟨rfl,c⟩;have A:=zA o b.2 c;have B:=zA p b.2 c;have C:=zA q b.2 c))
 apply j.out;clear j o p q;have k:=vl <| b.1.trans (c.lower b.1.size b.1.size);clear c;go_wp2_with (first|(go_at_call 185;refine(r _ n k).mono ?_;rintro e D ⟨rfl,z⟩))
 go_ret;exact⟨by rw[v.out];rfl,k.trans (z.lower k.size k.size)⟩
def zDB (l:List Int)(n:Int):Nat->Nat
 |0=>0
 |i+1=>if l.getD i 0>n then zDB l n i else i+1
theorem zO1 (l:List Int)(n:Int)(i:Nat):zDB l n i<=i:=by
 induction i with
 |zero=>exact lQ
 |succ i a=>unfold zDB;split <;> omega
def zDk (l:List Int)(n:Int)(i:Nat):List Int:=l.take i++n::l.drop i
def zG2 (l:List Int)(n:Int):List Int:=zDk l n (zDB l n l.length)
theorem zHn (l:List Int)(n:Int)(i:Nat):(zDk l n i).length=l.length+1:=by
 simp[zDk];omega
theorem zEz (l:List Int)(n:Int)(i j:Nat)(c:i<=l.length):(zDk l n i).getD j 0=if j<i then l.getD j 0 else if j=i then n else l.getD (j-1) 0:=by
 unfold zDk;rw[lW,List.getElem?_append,List.length_take];by_cases a:j<i
 ·rw[if_pos (by omega),if_pos a,List.getElem?_take,if_pos a,lW]
 ·rw[if_neg (by omega),if_neg a]
  by_cases b:j=i
  ·subst b
   rw[if_pos rfl,show j-min j l.length=0 by omega];rfl
  ·rw[if_neg b,show j-min i l.length=(j-1-i)+1 by omega,List.getElem?_cons_succ,List.getElem?_drop,show i+(j-1-i)=j-1 by omega,lW]
structure BdAt (w:World)(H p:Nat)(v:Value)(l:List Int):Prop where
 blk:w.heap[p]? =some (.cells #[v] 239)
 own:OwnI w H v l
 pH:H<=p
 lt:p<w.heap.size
def zQq (w:World)(H p:Nat)(l:List Int):Prop:=∃v,BdAt w H p v l
theorem BdAt.cell {w:World}{H p:Nat}{v:Value}{l:List Int}(a:BdAt w H p v l):w.cell? ⟨p,0,none⟩=some v/\w.frozen? ⟨p,0,none⟩=false:=by
 constructor
 ·unfold cell?;rw[a.blk];rfl
 ·unfold frozen?;rw[a.blk];rfl
theorem OwnI.rowOf {w:World}{H:Nat}{v:Value}{l:List Int}(a:OwnI w H v l):Row w H 3 v l.length λi=>iX (l.getD i 0):=a.row l.length rfl (λi=>l.getD i 0) λ_ _=>rfl
theorem Row.ownI {w:World}{H:Nat}{v:Value}{l:List Int}(b:Row w H 3 v l.length λi=>iX (l.getD i 0)):OwnI w H v l:=by
 have e:(List.range l.length).map (λi=>iX (l.getD i 0))=l.map λx=>iX x:=by
  apply List.ext_getElem
  ·simp
  ·intro i a c
   simp at a;simp[a]
 unfold OwnI;rw[<-e];exact b
def Stay (w w':World):Prop:=∀(k:Nat) (c:Array Value) (t:TypeId),w.heap[k]? =some (Obj.cells c t)->t≠3->t≠239->w'.heap[k]? =some (Obj.cells c t)
structure Bz (w0 w:World)(H p g cap:Nat)(l:List Int)(n:Int)(i:Nat):Prop where
 blk:w.heap[p]? =some (.cells #[slice (some ⟨g,0,none⟩) (l.length+1) cap] 239)
 row:Row w H 3 (slice (some ⟨g,0,none⟩) (l.length+1) cap) (l.length+1) λj=>int i64 ((zDk l n i).getD j 0)
 lt:p<w.heap.size
 keep:Keep H H w0 w
 stay:Stay w0 w
theorem Bz.step {f w:World}{H p g cap:Nat}{l:List Int}{n:Int}{i:Nat}(a:Bz f w H p g cap l n (i+1))(v:i+1<=l.length):Bz f ((w.setCell ⟨g,i+1,none⟩ (iX (l.getD i 0))).setCell ⟨g,i,none⟩ (iX n)) H p g cap l n i:=by
 have m:p≠g:=λe=>zM a.row a.blk (by decide) (by rw[e];rfl);have o:=(a.row.at (by omega)).1;refine⟨(lJ _ _ _ _ m).trans ((lJ _ _ _ _ m).trans a.blk),?_,by rw[zC,zC];exact a.lt,(a.keep.trans (zP _ _ _ _ o)).trans (zP _ _ _ _ o),?_⟩;rotate_left
 ·intro k c t x q y
  have r:=a.stay k c t x q y;have s:k≠g:=λe=>zM a.row r (Ne.symm q) (by rw[e];rfl);exact(lJ _ _ _ _ s).trans ((lJ _ _ _ _ s).trans r)
 refine Row.congr ((a.row.set (i+1) (iX (l.getD i 0))).set i (iX n)) λj z=>?_;rw[zEz l n i j (by omega)];by_cases b:j=i
 ·rw[if_pos b,if_neg (by omega),if_pos b]
 ·rw[if_neg b]
  by_cases d:j=i+1
  ·rw[if_pos d,if_neg (by omega),if_neg b,show j-1=i by omega]
  ·rw[if_neg d,zEz l n (i+1) j v]
   by_cases u:j<i
   ·rw[if_pos (by omega),if_pos u]
   ·rw[if_neg (by omega),if_neg d,if_neg u,if_neg b]
theorem Bz.drewed {c X:World}{a:Addr}{u:Value}{H p g cap:Nat}{l:List Int}{n:Int}{i:Nat}(b:Bz c (X.setCell a u) H p g cap l n i):Bz c (X.drew.setCell a u) H p g cap l n i:=⟨b.1,b.2,b.3,⟨b.keep.os,b.keep.output,b.keep.size,b.keep.block⟩,b.stay⟩
theorem zLI (w:World)(H p:Nat)(v:Value)(l:List Int)(m:BdAt w H p v l)(aD:l.length<=1000000000000)(n:Int):
  Calls prog 183 #[pX p,iX n] w λe w'=>e=returned (tuple #[])/\zQq w' H p (zG2 l n)/\Keep H H w w'/\Stay w w':=by
 obtain⟨ad,ae,af,ag,ah⟩:=info_parts yF;obtain⟨ao,cap,rfl⟩:=m.own.form;obtain⟨M,N⟩:=m.cell;have B:=vl m;have C:=vl m.own;have O:=m.pH;have P:=m.lt;have ai:=vl <| zM m.own m.blk (by decide);have aj:H<=w.heap.size:=by omega
 go_in;apply wp_cut;intro aE ak;go_wp2_with (first|(at_builtin;refine wpList_append_lies _ rfl _ _ 45 rfl (H) 3 ad (iX 0) 1 8 underlying45 ae af ag ah rfl (by decide) _ _ _ rfl (C.alloc _) ⟨w.heap.size,0,none⟩ 1 1 [iX n] rfl rfl (cell_one_new _ _ _) (by intro u Q;simp at Q;subst Q;rfl) (by decide) (by unfold maxLen;omega) (by omega) (by simp;omega) _ rfl ?_;intro a f w2 D r al aF;have s:w2.heap[p]? =w.heap[p]? :=(r.block p (by simp;omega) ai).trans (lG _ _ _ P);have t0:w2.cell? ⟨p,0,none⟩=some (slice ao l.length cap):=(gZ s).trans M;have am:w2.frozen? ⟨p,0,none⟩=false:=(gY s).trans N))
 apply ak.out;obtain⟨z,R,S⟩:∃z,z=w2.setCell ⟨p,0,none⟩ (slice (qX a) (l.length+1) f)/\Hid (Bz w z H p a f l n l.length):=by
  refine⟨_,rfl,?_,?_,?_,?_,?_⟩
  ·have E:=s.trans B.blk
   simp[setCell,lU,E]
  ·have an:=OwnI.snoc D
   have F:a≠p:=λe=>zM D (s.trans B.blk) (by decide) (by rw[<-e];rfl);have y:Row w2 H 3 (slice (qX a) (l.length+1) f) (l.length+1) λj=>iX ((zDk l n l.length).getD j 0):=by
    refine an.row (l.length+1) (by simp) _ λj aG=>?_;simp[zDk]
   exact y.blk λg _ _ ap=>lJ _ _ _ _ λe=>F (by have aq:a=g:=(by simpa[Value.ownBlock] using ap);rw[aq,e])
  ·rw[zC];exact lZ P (lY (by simp) r.size)
  ·exact(xD (xF C r aj)).trans (zP _ _ _ _ O)
  ·intro k c t d ar au
   have av:k<w.heap.size:=by
    rcases Nat.lt_or_ge k w.heap.size with G|G
    ·exact G
    ·rw[Array.getElem?_eq_none G] at d;cases d
   have aw:k≠p:=λe=>by
    rw[e,B.out.blk] at d;injection d with d;injection d with _ d;exact au d.symm
   exact(lJ _ _ _ _ aw).trans ((r.block k (by simp;omega) (zM C d (Ne.symm ar))).trans ((lG _ _ _ av).trans d))
 rw[<-R];clear R s t0 am D r al M N;have y3:z.cell? ⟨p,0,none⟩=some (slice (qX a) (l.length+1) f):=by unfold cell?;rw[S.out.blk];rfl
 go_wp2;clear y3;go_loopg [4] l.length (λq x wr=>∃i:Nat,q=i/\i<=l.length/\x=iX (i:Int)/\Bz w wr H p a f l n i/\zDB l n l.length=zDB l n i)
 case atStart=>exact⟨l.length,rfl,lQ,(by first|rfl|(congr 1;omega)),S,rfl⟩
 case round=>
  obtain⟨i,I,T,rfl,b,A⟩:=hrel;have U:Hid (gk=i/\Bz w wr H p a f l n i/\zDB l n l.length=zDB l n i):=⟨I,b,A⟩
  have y3:wr.cell? ⟨p,0,none⟩=some (slice (qX a) (l.length+1) f):=by unfold cell?;rw[b.blk];rfl
  have fin:zDB l n i=i->zQq wr H p (zG2 l n)/\Keep H H w wr/\Stay w wr:=λe=>by
   refine⟨⟨_,b.blk,?_,O,b.lt⟩,b.keep,b.stay⟩;have y:=b.row;rw[show i=zDB l n l.length by rw[A,e]] at y;have ax:l.length+1=(zG2 l n).length:=(zHn _ _ _).symm;rw[ax] at y ⊢;exact Row.ownI y
  have V:=vl fin;clear fin;cases i with
  |zero=>
   clear I b A;go_wp2;go_end0;exact⟨rfl,V rfl⟩
  |succ i=>
   obtain⟨ay,az,J,K⟩:=b.row.at (by omega)
   have W:(zDk l n (i+1)).getD i 0=l.getD i 0:=by rw[zEz l n (i+1) i T,if_pos (by omega)]
   have X:wr.cell? ⟨a,i,none⟩=some (iX (l.getD i 0)):=by rw[<-W];exact J i (by omega)
   have y5:=J (i+1) (by omega);have Y:=K i;have aA:=K (i+1);have aa:Hid (zDB l n (i+1)=if l.getD i 0>n then zDB l n i else i+1):=rfl;have F:a≠p:=λe=>zM b.row b.blk (by decide) (by rw[<-e];rfl);have aH:=zO1 l n i;have aI:(0:Int)<((i+1:Nat):Int):=by omega
   have aJ:(i:Int)<((l.length+1:Nat):Int):=by omega
   have aK:((i+1:Nat):Int)<((l.length+1:Nat):Int):=by omega
   have aL:IntKind.i64.wrap (((i+1:Nat):Int)-1)=(i:Int):=by rw[zBo _ (by omega) (by omega)];omega
   have aB:=vl <| b.step T;clear I b A W ay az J K;generalize l.getD i 0=x at *;generalize (zDk l n (i+1)).getD (i+1) 0=aM at *;by_cases ab:x>n
   ·have L:Hid (zDB l n (i+1)=zDB l n i):=by show _=_;rw[aa.out,if_pos ab]
    go_wp2;go_region;obtain⟨o,ac,aC,q3,q4,q5⟩:∃o,o=(wr.setCell ⟨a,i+1,none⟩ (iX x)).drew/\Hid (Bz w (o.setCell ⟨a,i,none⟩ (iX n)) H p a f l n i)/\o.cell? ⟨p,0,none⟩=some (slice (qX a) (l.length+1) f)/\o.cell? ⟨a,i,none⟩=some (iX x)/\o.frozen? ⟨a,i,none⟩=false:=by
     have E:(wr.setCell ⟨a,i+1,none⟩ (iX x)).heap[p]? =wr.heap[p]? :=lJ _ _ _ _ (Ne.symm F);refine⟨_,rfl,aB.drewed,(gZ E).trans y3,?_,?_⟩
     ·show(wr.setCell ⟨a,i+1,none⟩ (iX x)).cell? ⟨a,i,none⟩=_
      rw[World.cell?_setCell_other]
      ·exact X
      ·intro e
       injection e with _ e _;omega
     ·show(wr.setCell ⟨a,i+1,none⟩ (iX x)).frozen? ⟨a,i,none⟩=_
      simpa using Y
    rw[<-ac];clear ac y3 X y5 Y aA;go_wp2;go_roundg i
    case measure=>rw[U.out.1];omega
    case rel=>exact⟨i,rfl,by omega,by go_num,aC,by rw[U.out.2.2,L.out]⟩
   ·have L:Hid (zDB l n (i+1)=i+1):=by show _=_;rw[aa.out,if_neg ab]
    go_wp2;go_end0;exact⟨rfl,V L⟩
def zOK (l:List Int)(r:Int×Int):List Int:=zG2 (zG2 l r.1) (r.2+1)
def inR (l:List Int)(rs:List (Int×Int)):List Int:=rs.foldl zOK l
def xX (sets:List Cs):List Int:=sets.foldl (λl s=>inR l s.ranges) [0,55296,57344,1114112]
theorem zDF {a c:Type}(f:c->a->c)(b:c)(l:List a)(e:a)(k:Nat)(g:k<l.length):(l.take (k+1)).foldl f b=f ((l.take k).foldl f b) (l.getD k e):=by
 rw[List.take_add_one,List.foldl_append,lW,lV g];rfl
theorem zGr (l:List Int)(n:Int):(zG2 l n).length=l.length+1:=zHn _ _ _
theorem zL6 (l:List Int)(a:List (Int×Int)):(inR l a).length=l.length+2*a.length:=by
 unfold inR;induction a generalizing l with
 |nil=>simp
 |cons r a b=>
  rw[List.foldl_cons,b];unfold zOK;rw[zGr,zGr,List.length_cons];omega
def yR:List Cs->Nat
 |[]=>0
 |s::l=>s.ranges.length+yR l
theorem zGF (sets:List Cs)(l:List Int):(sets.foldl (λl s=>inR l s.ranges) l).length=l.length+2*yR sets:=by
 induction sets generalizing l with
 |nil=>simp[yR]
 |cons s sets a=>
  rw[List.foldl_cons,a,zL6];simp only[yR];omega
theorem zE7 (sets:List Cs)(j:Nat)(a:j<sets.length):yR (sets.take j)+(sets.getD j ⟨[],false⟩).ranges.length<=yR sets:=by
 induction sets generalizing j with
 |nil=>simp at a
 |cons s sets b=>
  cases j with
  |zero=>simp[yR]
  |succ j=>
   have:=b j (by simpa using a);simp only[List.take_succ_cons,yR,List.getD_cons_succ];omega
structure Bo (w wr:World)(l:List Int):Prop where
 bd:zQq wr (w.heap.size+1) (w.heap.size+2) l
 res:wr.heap[w.heap.size]? =some (.cells #[slice none 0 0] 239)
 keep:Grew w wr
theorem Bo.grown {w wr w2:World}{l:List Int}(c:Bo w wr l)(a:Grew wr w2):Bo w w2 l:=by
 obtain⟨v,b⟩:=c.bd;have d:=b.lt;exact⟨⟨v,(a.block _ d (kJ d)).trans b.blk,zK b.own a,b.pH,lZ d a.size⟩,(a.block _ (by omega) (by omega)).trans c.res,c.keep.trans (a.lower (by omega) (by omega))⟩
theorem Bo.add {w wr:World}{l:List Int}(a:Bo w wr l)(c:l.length<=1000000000000)(n:Int):
  Calls prog 183 #[pointer (some ⟨w.heap.size+2,0,none⟩),iX n] wr λe w'=>e=returned (tuple #[])/\Bo w w' (zG2 l n)/\wr.heap.size<=w'.heap.size/\Stay wr w':=by
 obtain⟨v,d⟩:=a.bd;refine(zLI wr _ _ v l d c n).mono ?_;rintro e w2 ⟨rfl,f,b,g⟩;exact⟨rfl,⟨f,(b.block _ (by omega) (by omega)).trans a.res,a.keep.trans (b.lower (by omega) (by omega))⟩,b.size,g⟩
theorem Bo.start (w:World):Bo w (((w.alloc (.cells #[slice none 0 0] 239)).alloc (.cells #[iX 0,iX 55296,iX 57344,iX 1114112] 3)).alloc (.cells #[slice (some ⟨w.heap.size+1,0,none⟩) 4 4] 239)) [0,55296,57344,1114112]:=by
 obtain⟨w1,b⟩:∃w1,w1=w.alloc (.cells #[slice none 0 0] 239):=⟨_,rfl⟩
 have g:w1.heap[w.heap.size]? =some (.cells #[slice none 0 0] 239):=by rw[b];exact gX w _
 have h:Grew w w1:=by rw[b];exact kZ _ _ lQ
 have s1:w1.heap.size=w.heap.size+1:=by rw[b];simp
 rw[<-b];obtain⟨w2,c⟩:∃w2,w2=w1.alloc (.cells #[iX 0,iX 55296,iX 57344,iX 1114112] 3):=⟨_,rfl⟩
 have i:w2.heap[w.heap.size+1]? =some (.cells #[iX 0,iX 55296,iX 57344,iX 1114112] 3):=by rw[c,<-s1];exact gX w1 _
 have f:Grew w1 w2:=by rw[c];exact kZ _ _ lQ
 have s2:w2.heap.size=w.heap.size+2:=by rw[c];simp[s1]
 rw[<-c];obtain⟨a,d⟩:∃a,a=w2.alloc (.cells #[slice (some ⟨w.heap.size+1,0,none⟩) 4 4] 239):=⟨_,rfl⟩
 have j:a.heap[w.heap.size+2]? =some (.cells #[slice (some ⟨w.heap.size+1,0,none⟩) 4 4] 239):=by rw[d,<-s2];exact gX w2 _
 have e:Grew w2 a:=by rw[d];exact kZ _ _ lQ
 have k:a.heap.size=w.heap.size+3:=by rw[d];simp[s2]
 rw[<-d];refine⟨⟨_,j,zK ⟨rfl,.inr ⟨w.heap.size+1,4,#[iX 0,iX 55296,iX 57344,iX 1114112],rfl,by omega,i,lQ,by unfold maxLen;omega,rfl,rfl⟩⟩ e,by omega,by omega⟩,?_,(h.trans (f.lower (by omega) (by omega))).trans (e.lower (by omega) (by omega))⟩;exact(e.block _ (by omega) (by omega)).trans ((f.block _ (by omega) (by omega)).trans g)
def Cs.Small (s:Cs):Prop:=∀r∈s.ranges,-4294967296<=r.1/\r.1<=4294967296/\ -4294967296<=r.2/\r.2<=4294967296
theorem zFu (w:World)(v:Value)(sets:List Cs)(ad:SetsAt w v sets)(aF:sets.length<=24)(L:yR sets<=100000000000)(M:∀s∈sets,s.Small):
  Calls prog 167 #[v] w λe w'=>∃u,e=returned (agg #[u])/\OwnI w' w.heap.size u (xX sets)/\Grew w w':=by
 obtain⟨ao,cap,rfl,_,_,r⟩:=ad;have ae:=vl r;have af:Hid (∀i,i<sets.length->(sets.getD i ⟨[],false⟩).Small):=λi ag=>M _ (zY _ i _ ag);have N:=Bo.start w;have O:=vl L;clear r M L;go_in;apply wp_cut;intro ah g;go_wp2;apply g.out;clear g;apply wp_cut;intro ah g;go_wp2;apply g.out;clear g;generalize ((w.alloc (.cells #[slice none 0 0] 239)).alloc (.cells #[iX 0,iX 55296,iX 57344,iX 1114112] 3)).alloc (.cells #[slice (some ⟨w.heap.size+1,0,none⟩) 4 4] 239)=w1 at *;have ai:=vl N;clear N;go_wp2;go_loopg [12] sets.length (λq i wr=>∃j:Nat,q=sets.length-j/\j<=sets.length/\i=iX (j:Int)/\Bo w wr (xX (sets.take j)))
 case atStart=>exact⟨0,rfl,lX,rfl,by rw[List.take_zero];exact ai⟩
 case round=>
  obtain⟨j,d,aG,rfl,a⟩:=hrel;have P:Hid (gk=sets.length-j/\Bo w wr (xX (sets.take j))):=⟨d,a⟩
  by_cases t:j<sets.length
  ·have aj:(j:Int)<(sets.length:Int):=by omega
   obtain⟨b,o,u,rfl,f,c0,c1,Q⟩:=ae j t;have B:=af j t;have z:=zA c0 f a.keep;have A:=zA c1 f a.keep;obtain⟨s,C⟩:∃s,sets.getD j ⟨[],false⟩=s:=⟨_,rfl⟩
   have D:=zE7 sets j t;rw[C] at Q A B D;have R:Hid (sets.getD j ⟨[],false⟩=s/\yR (sets.take j)+s.ranges.length<=yR sets):=⟨C,D⟩
   obtain⟨S,T,rfl,_,_,U⟩:=Q;have ak:=vl U;have al:Hid s.Small:=B;have aH:s.ranges.length<=100000000000:=by have:=O.out;omega
   clear U B C D c0 c1 d a;go_wp2;have am:Hid (Bo w (wr.alloc (.cells #[slice S s.ranges.length T,bool s.others] 161)) (xX (sets.take j))):=P.2.grown (kZ _ _ lQ);generalize wr.alloc (.cells #[slice S s.ranges.length T,bool s.others] 161)=w2 at *;clear z A;go_loopg [19] s.ranges.length (λq i an=>∃k:Nat,q=s.ranges.length-k/\k<=s.ranges.length/\i=iX (k:Int)/\Bo w an (inR (xX (sets.take j)) (s.ranges.take k)))
   case atStart=>exact⟨0,rfl,lX,rfl,by rw[List.take_zero];exact am⟩
   case round=>
    obtain⟨k,d,aI,rfl,a⟩:=hrel;have E:Hid (gk=s.ranges.length-k/\Bo w wr (inR (xX (sets.take j)) (s.ranges.take k))):=⟨d,a⟩
    by_cases F:k<s.ranges.length
    ·have ap:(k:Int)<(s.ranges.length:Int):=by omega
     obtain⟨aJ,aK,rfl,V,W,X⟩:=ak k F;have z:=zA W V a.keep;have A:=zA X V a.keep;obtain⟨m1,m2,aq,ar⟩:=al _ (zY s.ranges k (0,0) F);have Y:Hid (inR (xX (sets.take j)) (s.ranges.take (k+1))=zOK (inR (xX (sets.take j)) (s.ranges.take k)) (s.ranges.getD k (0,0))):=zDF _ _ _ (0,0) k F;have G:Hid ((inR (xX (sets.take j)) (s.ranges.take k)).length+2<=1000000000000):=by
      have aL:=R.2;have aM:=O.out;have r:(xX (sets.take j)).length=4+2*yR (sets.take j):=zGF _ _;show _<=_;rw[zL6,r,List.length_take];omega
     obtain⟨l,aa⟩:∃l,inR (xX (sets.take j)) (s.ranges.take k)=l:=⟨_,rfl⟩
     rw[aa] at Y G E;clear W X d a aa;obtain⟨x,I⟩:∃x,(s.ranges.getD k (0,0)).1=x:=⟨_,rfl⟩
     obtain⟨y,J⟩:∃y,(s.ranges.getD k (0,0)).2=y:=⟨_,rfl⟩
     have aw:Hid (zOK l (s.ranges.getD k (0,0))=zG2 (zG2 l x) (y+1)):=by show _=_;unfold zOK;rw[I,J]
     rw[I] at z m1 m2;rw[J] at A aq ar;clear I J;have ab:Hid (Bo w (wr.alloc (.cells #[iX x,iX y] 255)) l/\(wr.alloc (.cells #[iX x,iX y] 255)).heap[wr.heap.size]? =some (.cells #[iX x,iX y] 255)):=⟨E.2.grown (kZ _ _ lQ),gX wr _⟩
     have ax:Hid (∀m,Bo w m l->_):=λm c=>c.add (lY (Nat.le_add_right _ 2) G) x;have ay:Hid (∀m,Bo w m (zG2 l x)->_):=λm c=>c.add (by rw[zGr];have:=G.out;omega) (y+1);go_wp2_with (first|(go_at_call 183;first|(refine (ay _ az).mono ?_;rintro e aN ⟨rfl,aA,-,-⟩)|(refine (ax _ ab.1).mono ?_;rintro e aB ⟨rfl,az,aO,aC⟩;have aP:aB.cell? ⟨wr.heap.size,1,none⟩=some (iX y):=(by have c:=aC _ _ _ ab.2 (by decide) (by decide);unfold cell?;rw[c];rfl))))
     go_roundg (s.ranges.length-(k+1))
     case measure=>rw[E.out.1];omega
     case rel=>exact⟨k+1,rfl,by omega,by go_num,by rw[Y.out,aw.out];exact aA⟩
    ·have ap:(s.ranges.length:Int)<=(k:Int):=by omega
     have p:Hid (Bo w wr (xX (sets.take (j+1)))):=by
      have c:=a;have aD:s.ranges.take k=s.ranges:=List.take_of_length_le (by omega);rw[aD] at c;have e:xX (sets.take (j+1))=inR (xX (sets.take j)) s.ranges:=by
       rw[<-R.out.1];exact zDF _ _ _ ⟨[],false⟩ j t
      show Bo _ _ _;rw[e];exact c
     clear d a;go_wp2;go_roundg (sets.length-(j+1))
     case measure=>rw[P.out.1];omega
     case rel=>exact⟨j+1,rfl,by omega,by go_num,p⟩
  ·have aj:(sets.length:Int)<=(j:Int):=by omega
   have p:Hid (Bo w wr (xX sets)):=by
    have c:=a;rw[List.take_of_length_le (by omega)] at c;exact c
   obtain⟨v,f⟩:=p.bd;obtain⟨z,-⟩:=f.cell;obtain⟨ac,cv,rfl⟩:=f.own.form;have K:=p.res;have aQ:wr.cell? ⟨w.heap.size,0,none⟩=some (slice none 0 0):=by unfold cell?;rw[K];rfl
   have aR:wr.frozen? ⟨w.heap.size,0,none⟩=false:=by unfold frozen?;rw[K];rfl
   have aE:Hid (OwnI wr (w.heap.size+1) (slice ac (xX sets).length cv) (xX sets)):=f.own;clear d a f K;go_wp2;refine gV (v:=agg #[slice ac (xX sets).length cv]) (by simp[results,results167,go_sem, *]) rfl ⟨_,rfl,yD (H:=w.heap.size+1) (xG aE (by omega)) (by omega),p.keep.trans (zP _ _ _ _ lQ)⟩
section
structure Aw (w:World)(H p:Nat)(lv tv sv:Value)(a:Ar):Prop where
 blk:w.heap[p]? =some (.cells #[lv,tv,sv] 172)
 lows:OwnI w H lv a.lows
 letters:OwnI w H tv a.letters
 sets:OwnI w H sv a.sets
 ne1:∀g,lv.ownBlock=some g->some g≠tv.ownBlock
 ne2:∀g,lv.ownBlock=some g->some g≠sv.ownBlock
 ne3:∀g,tv.ownBlock=some g->some g≠sv.ownBlock
 pH:p<H
 lt:H<=w.heap.size
section
variable {w w2:World} {H p:Nat} {lv tv sv:Value} {a:Ar}
theorem Aw.grown (b:Aw w H p lv tv sv a)(c:Grew w w2):Aw w2 H p lv tv sv a:=by
 have e:=b.pH;have d:=b.lt;exact⟨(c.block _ (by omega) (by omega)).trans b.blk,zK b.lows c,zK b.letters c,zK b.sets c,b.ne1,b.ne2,b.ne3,b.pH,lY d c.size⟩
theorem Aw.cells (b:Aw w H p lv tv sv a):w.cell? ⟨p,0,none⟩=some lv/\w.cell? ⟨p,1,none⟩=some tv/\w.cell? ⟨p,2,none⟩=some sv/\∀i,w.frozen? ⟨p,i,none⟩=false:=by
 refine⟨?_,?_,?_,λi=>?_⟩
 all_goals first|(unfold cell?;rw[b.blk];rfl)|(unfold frozen?;rw[b.blk];simp)
theorem qN {w:World}{H g cap n m:Nat}{v u:Value}{c:List Value}{e d:Nat}(f:w.ownsRow H e d u m c)(h:∀g,v.ownBlock=some g->some g≠u.ownBlock)(i:v.ownBlock=some g\/w.heap.size<=g):∀k,(Value.slice (qX g) n cap).ownBlock=some k->some k≠u.ownBlock:=by
 intro k j e;have l:g=k:=by simpa[Value.ownBlock] using j
 subst l;rcases i with b|b
 ·exact h g b e
 ·have:=(f.lt g e.symm).2
  omega
theorem zDa {u v:Value}(b:∀g,u.ownBlock=some g->some g≠v.ownBlock):∀g,v.ownBlock=some g->some g≠u.ownBlock:=λg c e=>b g e.symm c.symm
theorem Aw.lows_app {o:Obj}{g cap:Nat}{x:Int}(b:Aw w H p lv tv sv a)(l:w2.ownsRow H 3 1 (slice (qX g) (a.lows.length+1) cap) (a.lows.length+1) ((a.lows.map λx=>iX x)++[iX x]))(c:(w.alloc o).grownBy w2 lv.ownBlock)(d:lv.ownBlock=some g\/w.heap.size<=g):
  Aw (w2.setCell ⟨p,0,none⟩ (slice (qX g) (a.lows.length+1) cap)) H p (slice (qX g) (a.lows.length+1) cap) tv sv {a with lows:=a.lows++[x]}/\Keep H p w (w2.setCell ⟨p,0,none⟩ (slice (qX g) (a.lows.length+1) cap)):=by
 have f:=b.pH;have t:=b.lt;have i:∀j,j<H->w2.heap[j]? =w.heap[j]? :=λj u=>(c.block j (by simp;omega) λe=>by have:=(b.lows.lt j e.symm).1;omega).trans (lG _ _ _ (by omega));have m:=(i p f).trans b.blk;have q:w.heap.size<=w2.heap.size:=lY (by simp) c.size;refine⟨⟨?_,xG (OwnI.snoc l) b.pH,xG (zQ c b.letters (λg c e=>b.ne1 g e.symm c.symm)) b.pH,xG (zQ c b.sets (λg c e=>b.ne2 g e.symm c.symm)) b.pH,qN b.letters b.ne1 d,qN b.sets b.ne2 d,b.ne3,f,by rw[zC];omega⟩,⟨c.os,c.output,by rw[zC];exact q,λk r s=>(lJ _ _ _ _ s).trans (i k r)⟩⟩;simp[setCell,lU,m]
theorem Aw.letters_app {o:Obj}{g cap:Nat}{x:Int}(b:Aw w H p lv tv sv a)(l:w2.ownsRow H 3 1 (slice (qX g) (a.letters.length+1) cap) (a.letters.length+1) ((a.letters.map λx=>iX x)++[iX x]))(c:(w.alloc o).grownBy w2 tv.ownBlock)(d:tv.ownBlock=some g\/w.heap.size<=g):
  Aw (w2.setCell ⟨p,1,none⟩ (slice (qX g) (a.letters.length+1) cap)) H p lv (slice (qX g) (a.letters.length+1) cap) sv {a with letters:=a.letters++[x]}/\Keep H p w (w2.setCell ⟨p,1,none⟩ (slice (qX g) (a.letters.length+1) cap)):=by
 have f:=b.pH;have t:=b.lt;have i:∀j,j<H->w2.heap[j]? =w.heap[j]? :=λj u=>(c.block j (by simp;omega) λe=>by have:=(b.letters.lt j e.symm).1;omega).trans (lG _ _ _ (by omega));have m:=(i p f).trans b.blk;have q:w.heap.size<=w2.heap.size:=lY (by simp) c.size;refine⟨⟨?_,xG (zQ c b.lows b.ne1) b.pH,xG (OwnI.snoc l) b.pH,xG (zQ c b.sets (λg c e=>b.ne3 g e.symm c.symm)) b.pH,zDa (qN b.lows (λg c e=>b.ne1 g e.symm c.symm) d),b.ne2,qN b.sets b.ne3 d,f,by rw[zC];omega⟩,⟨c.os,c.output,by rw[zC];exact q,λk r s=>(lJ _ _ _ _ s).trans (i k r)⟩⟩;simp[setCell,lU,m]
theorem Aw.sets_app {o:Obj}{g cap:Nat}{x:Int}(b:Aw w H p lv tv sv a)(l:w2.ownsRow H 3 1 (slice (qX g) (a.sets.length+1) cap) (a.sets.length+1) ((a.sets.map λx=>iX x)++[iX x]))(c:(w.alloc o).grownBy w2 sv.ownBlock)(d:sv.ownBlock=some g\/w.heap.size<=g):
  Aw (w2.setCell ⟨p,2,none⟩ (slice (qX g) (a.sets.length+1) cap)) H p lv tv (slice (qX g) (a.sets.length+1) cap) {a with sets:=a.sets++[x]}/\Keep H p w (w2.setCell ⟨p,2,none⟩ (slice (qX g) (a.sets.length+1) cap)):=by
 have f:=b.pH;have t:=b.lt;have i:∀j,j<H->w2.heap[j]? =w.heap[j]? :=λj u=>(c.block j (by simp;omega) λe=>by have:=(b.sets.lt j e.symm).1;omega).trans (lG _ _ _ (by omega));have m:=(i p f).trans b.blk;have q:w.heap.size<=w2.heap.size:=lY (by simp) c.size;refine⟨⟨?_,xG (zQ c b.lows b.ne2) b.pH,xG (zQ c b.letters b.ne3) b.pH,xG (OwnI.snoc l) b.pH,b.ne1,zDa (qN b.lows (λg c e=>b.ne2 g e.symm c.symm) d),zDa (qN b.letters (λg c e=>b.ne3 g e.symm c.symm) d),f,by rw[zC];omega⟩,⟨c.os,c.output,by rw[zC];exact q,λk r s=>(lJ _ _ _ _ s).trans (i k r)⟩⟩;simp[setCell,lU,m]
end
end
def Ar.look (a:Ar)(x:Int):Nat:=a.sets.findIdx (·==x)
def Ar.seen (a:Ar)(x:Int):Ar:=if a.look x<a.sets.length then a else{a with sets:=a.sets++[x]}
def AwIs (w:World)(H p:Nat)(a:Ar):Prop:=∃lv tv sv,Aw w H p lv tv sv a
theorem zPc (a:Ar)(x:Int)(j:Nat)(b:j<a.sets.length)(c:a.sets.getD j 0=x)(d:∀i,i<j->a.sets.getD i 0≠x):a.look x=j:=by
 unfold Ar.look;rw[List.findIdx_eq b];rw[lW,lV b] at c;refine⟨by simpa using c,λi e=>?_⟩;have:=d i e;rw[lW,lV (by omega)] at this;simpa using this
theorem zMT (a:Ar)(x:Int)(c:∀i,i<a.sets.length->a.sets.getD i 0≠x):a.look x=a.sets.length:=by
 unfold Ar.look;rw[List.findIdx_eq_length];intro y d;obtain⟨i,b,rfl⟩:=List.getElem_of_mem d;have:=c i b;rw[lW,lV b] at this;simpa using this
theorem zGl (w:World)(H p:Nat)(a:Ar)(b:AwIs w H p a)(ac:a.sets.length<=1000000000000)(x:Int):
  Calls prog 168 #[pX p,iX x] w λe w'=>e=returned (iX (a.look x))/\AwIs w' H p (a.seen x)/\Keep H p w w':=by
 obtain⟨G,I,J,K,L⟩:=info_parts yF;obtain⟨lv,tv,sv,b⟩:=b;obtain⟨as_,cs,rfl⟩:=b.sets.form;obtain⟨ad,ae,M,f⟩:=b.cells;have N:=f 2;have v:=vl b;have z:=vl b.sets;have af:=b.pH;have O:=b.lt;have P:Hid (∀i,i<a.sets.length->∃g,as_=some ⟨g,0,none⟩/\cX w g i=some (iX (a.sets.getD i 0))):=by
  intro i k;obtain⟨g,Q⟩:∃g,as_=some ⟨g,0,none⟩:=by
   rcases b.sets.2 with⟨c,ag⟩|⟨g,_,_,c,_⟩
   ·omega
   ·injection c with c _ _
    exact⟨g,c⟩
  subst Q;exact⟨g,rfl,b.sets.cell i k⟩
 have R:Hid (∀j,j<a.sets.length->a.sets.getD j 0=x->(∀i,i<j->a.sets.getD i 0≠x)->a.look x=j/\a.seen x=a):=λj m c o=>by
  have e:=zPc a x j m c o;exact⟨e,by unfold Ar.seen;rw[e,if_pos m]⟩
 have S:Hid ((∀i,i<a.sets.length->a.sets.getD i 0≠x)->a.look x=a.sets.length/\a.seen x={a with sets:=a.sets++[x]}):=λo=>by
  have e:=zMT a x o;exact⟨e,by unfold Ar.seen;rw[e,if_neg (Nat.lt_irrefl _)]⟩
 go_in;go_wp2;go_loopg [12] a.sets.length (λq i wr=>∃j:Nat,q=a.sets.length-j/\j<=a.sets.length/\i=iX (j:Int)/\(∀i,i<j->a.sets.getD i 0≠x)/\wr=w)
 case atStart=>exact⟨0,rfl,lX,rfl,λi k=>by omega,rfl⟩
 case round=>
  obtain⟨j,T,m,rfl,A,U⟩:=hrel;subst U;have r:Hid (gk=a.sets.length-j/\∀i,i<j->a.sets.getD i 0≠x):=⟨T,A⟩
  by_cases B:j<a.sets.length
  ·have V:(j:Int)<(a.sets.length:Int):=by omega
   obtain⟨g,rfl,ah⟩:=P j B;have W:Hid (a.sets.getD j 0=x->a.look x=j/\a.seen x=a):=λc=>R j B c r.2;have X:Hid (a.sets.getD j 0≠x->∀i,i<j+1->a.sets.getD i 0≠x):=λc i k=>by
    by_cases e:i=j
    ·rw[e];exact c
    ·exact r.2 i (by omega)
   generalize a.sets.getD j 0=y at *;by_cases l:y=x
   ·have d:=W l
    have C:=vl d;have Y:(y==x)=true:=by simp[l]
    go_wp2;go_ret;exact⟨by rw[C.out.1];rfl,by rw[C.out.2];exact⟨_,_,_,v⟩,⟨rfl,rfl,lQ,λ_ _ _=>rfl⟩⟩
   ·have d:=vl <| X l
    have Y:(y==x)=false:=by simp[l]
    go_wp2;go_roundg (a.sets.length-(j+1))
    case measure=>rw[r.out.1];omega
    case rel=>exact⟨j+1,rfl,by omega,by go_num,d,rfl⟩
  ·have V:(a.sets.length:Int)<=(j:Int):=by omega
   have d:=vl <| S λi k=>A i (by omega);have ai:=O;go_wp2_with (first|(at_builtin;refine wpList_append_lies _ rfl _ _ 45 rfl (H) 3 G (iX 0) 1 8 underlying45 I J K L rfl (by decide) _ _ _ rfl (z.alloc _) ⟨wr.heap.size,0,none⟩ 1 1 [iX x] rfl rfl (cell_one_new _ _ _) (by intro u D;simp at D;subst D;rfl) (by decide) (by unfold maxLen;omega) (by omega) (by simp;omega) _ rfl ?_;intro aj ak w2 aa E ab al;have F:=(E.block p (by simp;omega) (λe=>by have:=(z.lt _ e.symm).1;omega)).trans (lG _ _ _ (by omega));have am:=(gZ F).trans M;have an:=(gY F).trans N;have s:=Aw.sets_app v aa E (by rcases ab with t|t;exact .inl t;right;rw[t];simp);have ao:=s.1.cells.2.2.1))
   go_ret;refine⟨?_,by rw[d.out.2];exact⟨_,_,_,s.1⟩,s.2⟩;rw[d.out.1]
   first|rfl|(simp;done)|(show _=_;congr 2;omega)
theorem AwIs.grown {w w2:World}{H p:Nat}{a:Ar}(b:AwIs w H p a)(c:Grew w w2):AwIs w2 H p a:=by
 obtain⟨lv,tv,sv,b⟩:=b;exact⟨lv,tv,sv,b.grown c⟩
def Ar.turns (a:Ar)(l:Nat):Bool:=a.letters.length==0||(a.letters.getD (a.letters.length-1) 0 != (l:Int))
def Ar.step (sets:List Cs)(a:Ar)(low:Int):Ar:=
 if(a.seen (vJ sets low)).turns (a.look (vJ sets low)) then{a.seen (vJ sets low) with lows:=(a.seen (vJ sets low)).lows++[low],letters:=(a.seen (vJ sets low)).letters++[(a.look (vJ sets low):Int)]} else a.seen (vJ sets low)
def vS (sets:List Cs)(j:Nat):Ar:=((xX sets).take j).foldl (Ar.step sets) ⟨[],[],[]⟩
def yN (sets:List Cs):Ar:=(xX sets).foldl (Ar.step sets) ⟨[],[],[]⟩
theorem zCx (sets:List Cs)(j:Nat)(a:j<(xX sets).length):vS sets (j+1)=(vS sets j).step sets ((xX sets).getD j 0):=zDF _ _ _ 0 j a
theorem zGc (sets:List Cs)(j:Nat)(a:(xX sets).length<=j):vS sets j=yN sets:=by
 unfold vS;rw[List.take_of_length_le a];rfl
theorem zFW (a:Ar)(x:Int):(a.seen x).lows=a.lows/\(a.seen x).letters=a.letters/\(a.seen x).sets.length<=a.sets.length+1:=by
 unfold Ar.seen;split
 ·exact⟨rfl,rfl,by omega⟩
 ·exact⟨rfl,rfl,by simp⟩
theorem zKK (sets:List Cs)(a:Ar)(low:Int)(n:Nat)(d:a.lows.length=a.letters.length/\a.lows.length<=n/\a.sets.length<=n):(a.step sets low).lows.length=(a.step sets low).letters.length/\(a.step sets low).lows.length<=n+1/\(a.step sets low).sets.length<=n+1:=by
 obtain⟨b,c,e⟩:=zFW a (vJ sets low);unfold Ar.step;split
 ·show((a.seen _).lows++[low]).length=((a.seen _).letters++[_]).length/\((a.seen _).lows++[low]).length<=n+1/\(a.seen _).sets.length<=n+1
  rw[b,c,kX,kX];simp only[List.length_singleton];omega
 ·rw[b,c]
  omega
theorem zD2 (sets:List Cs)(j:Nat)(b:j<=(xX sets).length):(vS sets j).lows.length=(vS sets j).letters.length/\(vS sets j).lows.length<=j/\(vS sets j).sets.length<=j:=by
 induction j with
 |zero=>exact⟨rfl,lQ,lQ⟩
 |succ j a=>
  rw[zCx sets j (by omega)];exact zKK sets _ _ j (a (by omega))
theorem Ar.step_yes (sets:List Cs)(a:Ar)(low:Int)(b:(a.seen (vJ sets low)).turns (a.look (vJ sets low))=true):a.step sets low={a.seen (vJ sets low) with lows:=(a.seen (vJ sets low)).lows++[low],letters:=(a.seen (vJ sets low)).letters++[(a.look (vJ sets low):Int)]}:=by
 unfold Ar.step;rw[if_pos b]
theorem Ar.step_no (sets:List Cs)(a:Ar)(low:Int)(b:(a.seen (vJ sets low)).turns (a.look (vJ sets low))=false):a.step sets low=a.seen (vJ sets low):=by
 unfold Ar.step;rw[b];rfl
end Go.Proofs.YtbjcfkdnjaiclaaGreat
