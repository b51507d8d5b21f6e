import Derived.Test.YtbjcfkdnjaiclaaGreatK0
import Derived.Test.YtbjcfkdnjaiclaaGreatK8
/- Parts of the proof. -/
set_option linter.unusedVariables false
set_option linter.unusedSimpArgs false
set_option maxHeartbeats 4000000
set_option maxRecDepth 100000
namespace Go.Proofs.YtbjcfkdnjaiclaaGreat
open Go.RowKit Go.Proofs.Tryz Go.World
open Go.Value (int slice bool pointer string agg tuple)
open Go.IntKind (i64)
open Go.Ending (returned)
theorem zBJ (n:Int)(a:0<=n)(b:n<18446744073709551616):IntKind.u64.wrap n=n:=by rw[IntKind.wrap_u64];omega
theorem zHA (a b:Nat)(c:a<18446744073709551616)(d:b<18446744073709551616):bits .and .u64 (a:Int) (b:Int)=((a&&&b:Nat):Int):=
 (bits_nat .u64 64 (by decide) (λn e f=>zBJ n e (by simpa using f)) a b (by simpa using c) (by simpa using d)).1
theorem zIT (a b:Nat)(c:a<18446744073709551616)(d:b<18446744073709551616):bits .or .u64 (a:Int) (b:Int)=((a|||b:Nat):Int):=
 (bits_nat .u64 64 (by decide) (λn e f=>zBJ n e (by simpa using f)) a b (by simpa using c) (by simpa using d)).2
theorem zAX (f:Nat->Bool)(k j:Nat):(qR f k).testBit j=(decide (j<k)&&f j):=by
 induction k with
 |zero=>simp[qR]
 |succ k a=>
  unfold qR;by_cases e:j=k
  ·subst e
   cases c:f j
   ·simp[a]
   ·simp[a,Nat.testBit_or]
  ·have b:decide (j<k+1)=decide (j<k):=by simp;omega
   rw[b,<-a];split
   ·rw[Nat.testBit_or,Nat.testBit_two_pow,show decide (k=j)=false by simp;omega,Bool.or_false]
   ·rfl
def wd (m:Nat->Bool)(i:Nat):Nat:=qR (λj=>m (64*i+j)) 64
theorem zOt (m:Nat->Bool)(i:Nat):wd m i<18446744073709551616:=zBh _ 64
theorem zNN (m:Nat->Bool)(i j:Nat)(b:j<64):wd m i&&&2^j=if m (64*i+j) then 2^j else 0:=by
 apply Nat.eq_of_testBit_eq;intro k;rw[Nat.testBit_and,Nat.testBit_two_pow];have c:(wd m i).testBit k=(decide (k<64)&&m (64*i+k)):=zAX _ 64 k;by_cases a:j=k
 ·subst a
  rw[c,dQ b,dQ rfl];cases m (64*i+j) <;> simp
 ·rw[gG a,Bool.and_false]
  cases m (64*i+j) <;> simp[Nat.testBit_two_pow,a]
theorem zNO (m:Nat->Bool)(x i:Nat):wd (λy=>y==x||m y) i=if i=x/64 then wd m i|||2^(x%64) else wd m i:=by
 apply Nat.eq_of_testBit_eq;intro j;have e:(wd (λy=>y==x||m y) i).testBit j=(decide (j<64)&&(64*i+j==x||m (64*i+j))):=zAX _ 64 j;have b:(wd m i).testBit j=(decide (j<64)&&m (64*i+j)):=zAX _ 64 j;rw[e];split
 ·rename_i d
  rw[Nat.testBit_or,b,Nat.testBit_two_pow];by_cases a:j<64
  ·rw[dQ a,Bool.true_and,Bool.true_and,Bool.or_comm]
   congr 1
   by_cases c:x%64=j
   ·rw[dQ c,beq_iff_eq];omega
   ·rw[gG c,hZ];omega
  ·rw[gG a,gG (by omega)];rfl
 ·rename_i d
  rw[b];by_cases a:j<64
  ·rw[show (64*i+j==x)=false by rw[hZ];omega,Bool.false_or]
  ·rw[gG a];rfl
structure SeAt (w:World)(H p n:Nat)(m:Nat->Bool)(g cap:Nat):Prop where
 blk:w.heap[p]? =some (.cells #[slice (some ⟨g,0,none⟩) n cap] 259)
 row:Row w H 260 (slice (some ⟨g,0,none⟩) n cap) n λi=>int .u64 ((wd m i:Nat):Int)
def SeIs (w:World)(H p n:Nat)(m:Nat->Bool):Prop:=∃g cap,SeAt w H p n m g cap
structure StayU (H:Nat)(w w':World):Prop where
 os:w'.os=w.os
 output:w'.output=w.output
 size:w'.heap.size=w.heap.size
 low:∀k,k<H->w'.heap[k]? =w.heap[k]?
 other:∀(k:Nat) (c:Array Value) (t:TypeId),w.heap[k]? =some (Obj.cells c t)->t≠260->w'.heap[k]? =some (Obj.cells c t)
theorem StayU.refl (H:Nat)(w:World):StayU H w w:=⟨rfl,rfl,rfl,λ_ _=>rfl,λ_ _ _ a _=>a⟩
theorem zFM (w:World)(H p n:Nat)(m:Nat->Bool)(b:SeIs w H p n m)(P:n<=1000000)(x:Nat)(Q:x<64*n):
  Calls prog 172 #[pX p,iX x] w λe w'=>e=returned (bool (!m x))/\SeIs w' H p n (λy=>y==x||m y)/\StayU H w w':=by
 obtain⟨g,cap,b⟩:=b;have R:w.cell? ⟨p,0,none⟩=some (slice (qX g) n cap):=by unfold cell?;rw[b.blk];rfl
 obtain⟨f,S,q,D,E,F,G,A,B⟩:=b.row.get (by omega);have I:f=g:=by injection q with a _ _;injection a with a;injection a with a;exact a.symm
 subst I;have T:w.cell? ⟨f,x/64,none⟩=some (int .u64 ((wd m (x/64):Nat):Int)):=A (x/64) (by omega);have U:=B (x/64);have V:bits .and i64 (x:Int) 63=((x%64:Nat):Int):=by
  have:=qE x 63 (by omega) (by omega);rw[show (63:Nat)=2^6-1 from rfl,Nat.and_two_pow_sub_one_eq_mod] at this;exact this
 have v:=zNN m (x/64) (x%64) (by omega);rw[show 64*(x/64)+x%64=x by omega] at v;have r:2^(x%64)<18446744073709551616:=(Nat.pow_lt_pow_right (by omega) (show x%64<64 by omega):2^(x%64)<2^64)
 have C:0<2^(x%64):=Nat.pow_pos (by omega);have s:=zOt m (x/64);have J:=vl <| zNO m x;have d:=vl b;have u:IntKind.u64.wrap ((2:Int)^(x%64))=((2^(x%64):Nat):Int):=by
  have a:((2^(x%64):Nat):Int)=(2:Int)^(x%64):=by simp
  rw[<-a];exact zBJ _ (by omega) (by omega)
 have W:(x:Int)/64<(n:Int):=by omega
 have X:(0:Int)<=(x:Int)/64:=by omega
 have Y:¬((x:Int)/64<0):=by omega
 have aa:¬((n:Int)<=(x:Int)/64):=by omega
 have j:=zHA (wd m (x/64)) (2^(x%64)) s r;rw[v,<-u] at j;have K:Hid (bits .or .u64 ((wd m (x/64):Nat):Int) (IntKind.u64.wrap ((2:Int)^(x%64)))=((wd m (x/64)|||2^(x%64):Nat):Int)):=by
  show _=_;rw[u];exact zIT (wd m (x/64)) (2^(x%64)) s r
 clear b q D E F G A B v;cases l:m x with
 |true=>
  have L:(bits .and .u64 ((wd m (x/64):Nat):Int) (IntKind.u64.wrap ((2:Int)^(x%64))) != 0)=true:=by
   rw[j,l,if_pos rfl];rw[bne_iff_ne];omega
  have M:Hid (∀y,(y==x||m y)=m y):=λy=>by
   by_cases e:y=x
   ·rw[e,l];simp
   ·rw[show (y==x)=false by simp[e]];rfl
  clear j u l s r C;go_in;go_wp2;go_ret;exact⟨rfl,⟨_,_,d.blk,d.row.congr λi _=>by rw[show (λy=>y==x||m y)=m from funext M.out]⟩,StayU.refl _ _⟩
 |false=>
  have L:(bits .and .u64 ((wd m (x/64):Nat):Int) (IntKind.u64.wrap ((2:Int)^(x%64))) != 0)=false:=by
   rw[j,l];simp
  clear j u l s r C;go_in;go_wp2;go_ret;have ab:H<=f:=(d.row.get (by omega)).elim λg b=>b.elim λc b=>by
   obtain⟨q,ac,_⟩:=b;injection q with a _ _;injection a with a;injection a with a;omega
  have N:p≠f:=λe=>zN d.row d.blk (by decide) (by rw[e];rfl);have O:∀(k:Nat) (c:Array Value) (t:TypeId),w.heap[k]? =some (Obj.cells c t)->t≠260->k≠f:=λk c t o z e=>zN d.row o (Ne.symm z) (congrArg some e);refine⟨rfl,⟨f,cap,(lJ _ _ _ _ N).trans d.blk,?_⟩,⟨rfl,rfl,zC _ _ _,λk o=>lJ _ _ _ _ (by show k≠f;omega),λk c t o z=>(lJ _ _ _ _ (O k c t o z)).trans o⟩⟩;refine Row.congr (d.row.set (x/64) _) λi _=>?_;rw[J.out i,K.out];by_cases e:i=x/64
  ·subst e;simp
  ·simp[e]
theorem zNg:(prog.info? 260).map (λi=>(i.zero,i.size,i.bytes))=some (some (int .u64 0),1,8):=by kernel_rfl
theorem zMQ (i:Nat):wd (λ_=>false) i=0:=by
 apply Nat.eq_of_testBit_eq;intro j;have e:(wd (λ_=>false) i).testBit j=(decide (j<64)&&false):=zAX _ 64 j;rw[e];simp
def vP (n:Nat):Nat:=2^n/64+1
theorem zFS (w:World)(n:Nat)(o:n<=24):
  Calls prog 171 #[iX n] w λe w'=>∃p,e=returned (pX p)/\w.heap.size<=p/\SeIs w' w.heap.size p (vP n) (λ_=>false)/\Grew w w':=by
 obtain⟨q,r,s,t,u⟩:=info_parts zNg;have C:2^n<=2^24:=kG (by omega) o;have D:=zE1 n (by omega);have b:Hid (vP n=2^n/64+1):=rfl;obtain⟨w1,v,x,d⟩:=run_makeSlice_full (P:=prog) w w.heap.size 257 260 q _ 1 underlying257 r s t i64 i64 (vP n) (by rw[b.out];omega) (by rw[u,b.out];omega) (by rw[b.out];unfold maxLen;omega) lQ;have m:Hid (Row w1 w.heap.size 260 (slice (qX w.heap.size) (vP n) (vP n)) (vP n) (λj=>int .u64 ((wd (λ_=>false) j:Nat):Int))/\Grew w w1):=by
  refine⟨?_,⟨d.os,d.output,d.size,λk y _=>d.block k y (by simp)⟩⟩;have a:=x;rw[Nat.mul_one,zAk _ rfl] at a;refine Row.congr (f:=λ_=>int .u64 0) a λi _=>?_;rw[zMQ];rfl
 have E:w.heap.size<w1.heap.size:=(m.1.get (by rw[b.out];exact Nat.succ_pos _)).elim λg a=>a.elim λc a=>by
  obtain⟨A,_,F,_⟩:=a;injection A with l _ _;injection l with l;injection l with l;omega
 have B:((vP n:Nat):Int)=((2^n:Nat):Int)/64+1:=by rw[b.out];omega
 rw[B] at v;generalize 2^n=G at *;go_in;go_wp2;go_ret;refine⟨_,rfl,by omega,⟨w.heap.size,vP n,gY _ _,?_⟩,m.2.trans (kZ _ _ (by omega))⟩;exact zL m.1 (kZ _ _ lQ)
section
def zNa (f:Nat->Nat):Nat->Nat
 |0=>0
 |n+1=>zNa f n|||f n
theorem zM9 (f:Nat->Nat)(k:Nat)(a:∀i,f i<16777216)(n:Nat):zNa f n<16777216:=by
 induction n with
 |zero=>show 0<16777216;omega
 |succ n b=>exact Nat.or_lt_two_pow (n:=24) b (a n)
def spG (by_:List Nat)(i p:Nat):Nat:=if p/8=i/256 then(if (i%256).testBit (p%8) then by_.getD p 0 else 0) else 0
def spF (by_:List Nat)(n i:Nat):Nat:=zNa (spG by_ i) n
theorem zNV (by_:List Nat)(a:∀x∈by_,x<16777216)(i p:Nat):spG by_ i p<16777216:=by
 unfold spG;split
 ·split
  ·by_cases b:p<by_.length
   ·exact a _ (zS _ _ 0 b)
   ·rw[lW,List.getElem?_eq_none (by omega)];show 0<16777216;omega
  ·omega
 ·omega
theorem zLP (by_:List Nat)(a:∀x∈by_,x<16777216)(n i:Nat):spF by_ n i<16777216:=zM9 _ 0 (zNV by_ a i) n
theorem zHN (by_:List Nat)(n i:Nat):spF by_ (n+1) i=spF by_ n i|||spG by_ i n:=rfl
theorem zIR:zeroCells208=((List.range 768).map λ_=>iX 0).toArray:=by kernel_rfl
def SpAt (w:World)(f:Nat)(c:Nat->Nat):Prop:=∃cs:Array Value,w.heap[f]? =some (.cells cs 208)/\∀i,i<768->cs[i]? =some (int i64 ((c i:Nat):Int))
section
variable {w w2:World} {f:Nat} {c:Nat->Nat}
theorem SpAt.cell (b:SpAt w f c)(i:Nat)(d:i<768):w.cell? ⟨f,i,none⟩=some (iX ((c i:Nat):Int))/\w.frozen? ⟨f,i,none⟩=false:=by
 obtain⟨cs,a,e⟩:=b
 constructor
 ·unfold cell?;rw[a];exact e i d
 ·unfold frozen?;rw[a];simp
theorem SpAt.lt (a:SpAt w f c):f<w.heap.size:=by
 obtain⟨cs,b,_⟩:=a;exact(kQ.1 b).1
theorem SpAt.set (b:SpAt w f c)(i x:Nat):SpAt (w.setCell ⟨f,i,none⟩ (iX (x:Int))) f (λj=>if j=i then x else c j):=by
 obtain⟨cs,d,g⟩:=b;refine⟨cs.setIfInBounds i (iX (x:Int)),by simp[setCell,lU,d],λj k=>?_⟩;have a:=g j k;rw[Array.getElem?_setIfInBounds];by_cases e:i=j
 ·subst e
  have:=(kQ.1 a).1;simp[this]
 ·rw[if_neg e,a]
  simp[Ne.symm e]
theorem SpAt.congr {a:Nat->Nat}(d:SpAt w f c)(e:∀i,i<768->c i=a i):SpAt w f a:=by
 obtain⟨cs,g,j⟩:=d;exact⟨cs,g,λi b=>by rw[<-e i b];exact j i b⟩
theorem SpAt.keep (a:SpAt w f c)(e:w2.heap[f]? =w.heap[f]?):SpAt w2 f c:=by
 obtain⟨cs,b,d⟩:=a;exact⟨cs,e.trans b,d⟩
end
theorem zHv (w:World):SpAt (w.alloc (Obj.cells zeroCells208 208)) w.heap.size (λ_=>0):=by
 refine⟨_,gY _ _,λi a=>?_⟩;rw[zIR];simp[a]
theorem zBD (w:World)(v:Value)(by_:List Nat)(L:Ints w (In w) v (ints by_))(ad:by_.length<=24)(t:∀x∈by_,x<16777216):
  Calls prog 128 #[v] w λe w'=>e=returned (pX w.heap.size)/\SpAt w' w.heap.size (spF by_ by_.length)/\Grew w w':=by
 obtain⟨M,ae,rfl,_,_,A⟩:=L;rw[zO] at A ⊢;have N:Hid (∀i,i<by_.length->∃b o,M=some ⟨b,o,none⟩/\In w b/\w.cell? ⟨b,o+i,none⟩=some (iX ((by_.getD i 0:Nat):Int))/\by_.getD i 0<16777216):=by
  intro i g;obtain⟨b,o,k,D,E⟩:=A i g;rw[vI] at E;exact⟨b,o,k,D,E,t _ (zS _ _ 0 g)⟩
 have O:=vl <| zLP by_ t;have P:=vl <| zHv w;clear A t;go_in;go_wp2;go_loopg [4] by_.length (λq i wr=>∃j:Nat,q=by_.length-j/\j<=by_.length/\i=iX (j:Int)/\SpAt wr w.heap.size (spF by_ j)/\Grew w wr)
 case atStart=>exact⟨0,rfl,lX,rfl,P,kZ _ _ lQ⟩
 case round=>
  obtain⟨j,B,af,rfl,a,d⟩:=hrel;have p:Hid (gk=by_.length-j/\SpAt wr w.heap.size (spF by_ j)/\Grew w wr):=⟨B,a,d⟩
  by_cases Q:j<by_.length
  ·have R:(j:Int)<(by_.length:Int):=by omega
   have ag:(j:Int)<24:=by omega
   obtain⟨b,o,rfl,S,F,ah⟩:=N j Q;have T:=vl F;clear B a d F;go_wp2;go_loopg [5] 256 (λq i wr=>∃s:Nat,q=256-s/\s<=256/\i=iX (s:Int)/\SpAt wr w.heap.size (λi=>if i%256<s then spF by_ (j+1) i else spF by_ j i)/\Grew w wr)
   case atStart=>exact⟨0,rfl,lX,rfl,p.2.1.congr λi _=>by simp,p.2.2⟩
   case round=>
    obtain⟨s,C,t,rfl,a,d⟩:=hrel;have l:Hid (gk=256-s/\SpAt wr w.heap.size (λi=>if i%256<s then spF by_ (j+1) i else spF by_ j i)/\Grew w wr):=⟨C,a,d⟩
    by_cases ai:s<256
    ·have U:(s:Int)<256:=by omega
     have aj:wr.cell? ⟨b,o+j,none⟩=some (iX ((by_.getD j 0:Nat):Int)):=zA T S d;have u:bits .and i64 ((s:Int)/2^(j%8)) 1=((s/2^(j%8)%2:Nat):Int):=by
      rw[zBv];exact zD8 _ (Nat.lt_of_le_of_lt (Nat.div_le_self _ _) (by omega))
     have y:Hid (s.testBit (j%8)=decide (s/2^(j%8)%2=1)):=Nat.testBit_eq_decide_div_mod_eq;have V:j/8*256+s<768:=by omega
     obtain⟨G,ak⟩:=a.cell (j/8*256+s) V;have y3:wr.cell? ⟨w.heap.size,j/8*256+s,none⟩=some (iX ((spF by_ j (j/8*256+s):Nat):Int)):=by
      rw[G,if_neg (by omega)]
     have z:Hid (∀i,i<768->(if i%256<s+1 then spF by_ (j+1) i else spF by_ j i)=if i=j/8*256+s then spF by_ j i|||(if s.testBit (j%8) then by_.getD j 0 else 0) else if i%256<s then spF by_ (j+1) i else spF by_ j i):=λi g=>by
      by_cases e:i=j/8*256+s
      ·rw[if_pos e,if_pos (by omega),zHN]
       congr 1
       unfold spG;rw[if_pos (by omega),show i%256=s by omega]
      ·rw[if_neg e]
       by_cases H:i%256<s
       ·rw[if_pos H,if_pos (by omega)]
       ·rw[if_neg H]
        by_cases I:i%256<s+1
        ·rw[if_pos I,zHN]
         unfold spG;rw[if_neg (by omega),Nat.or_zero]
        ·rw[if_neg I]
     have al:=O j (j/8*256+s);clear C a d G;cases m:s.testBit (j%8) with
     |true=>
      have W:(bits .and i64 ((s:Int)/2^(j%8)) 1==1)=true:=by
       have k:=y.out;rw[m] at k;rw[u,of_decide_eq_true k.symm];rfl
      rw[m] at z;have X:Hid (bits .or i64 ((spF by_ j (j/8*256+s):Nat):Int) ((by_.getD j 0:Nat):Int)=((spF by_ j (j/8*256+s)|||by_.getD j 0:Nat):Int)):=yO _ _ (by omega) (by omega);clear u y m;generalize Y:by_.getD j 0=r at *;generalize J:spF by_ j (j/8*256+s)=c0 at *;have aa:Hid (spF by_ j (j/8*256+s)=c0):=J;clear Y J;have am:(j:Int)/8<3:=by omega
      have an:(0:Int)<=(j:Int)/8:=by omega
      go_wp2;go_region;go_wp2;go_roundg (256-(s+1))
      case measure=>rw[l.out.1];omega
      case rel=>
       refine⟨s+1,rfl,by omega,by go_num,?_,l.2.2.trans (Keep.trans (zP _ _ _ _ lQ) (Keep.drew _))⟩;have K:=l.2.1.set (j/8*256+s) (c0|||r);rw[<-X.out] at K;refine SpAt.keep (SpAt.congr K λi g=>?_) rfl;show(if i=_ then _ else if _ then _ else _)=if _ then _ else _
       rw[z.out i g];by_cases e:i=j/8*256+s
       ·rw[if_pos e,if_pos e,e,aa.out];simp
       ·rw[if_neg e,if_neg e]
     |false=>
      have W:(bits .and i64 ((s:Int)/2^(j%8)) 1==1)=false:=by
       have k:=y.out;rw[m] at k;have D:=of_decide_eq_false k.symm;rw[u,hZ];omega
      rw[m] at z;clear u y m;go_wp2;go_roundg (256-(s+1))
      case measure=>rw[l.out.1];omega
      case rel=>
       refine⟨s+1,rfl,by omega,by go_num,?_,l.2.2⟩;refine l.2.1.congr λi g=>?_;show(if _ then _ else _)=if _ then _ else _
       rw[z.out i g];by_cases e:i=j/8*256+s
       ·rw[if_pos e,if_neg (by omega),if_neg (by decide),Nat.or_zero]
       ·rw[if_neg e]
    ·have U:(256:Int)<=(s:Int):=by omega
     have e:s=256:=by omega
     subst e;have ac:Hid (SpAt wr w.heap.size (spF by_ (j+1))):=a.congr λi _=>by rw[if_pos (hJ _ (by omega))]
     clear C a d;go_wp2;go_roundg (by_.length-(j+1))
     case measure=>rw[p.out.1];omega
     case rel=>exact⟨j+1,rfl,by omega,by go_num,ac,l.2.2⟩
  ·have R:(by_.length:Int)<=(j:Int):=by omega
   have e:j=by_.length:=by omega
   subst e;clear B a d;go_wp2;go_ret;exact⟨rfl,p.2.1,p.2.2⟩
end
def zAy (c:Nat->Nat)(x:Nat):Nat:=c (x%256)|||c (256+x/256%256)|||c (512+x/65536%256)
theorem zMY (c:Nat->Nat)(a:∀i,c i<16777216)(x:Nat):zAy c x<16777216:=Nat.or_lt_two_pow (n:=24) (Nat.or_lt_two_pow (n:=24) (a _) (a _)) (a _)
theorem zBK (w:World)(f:Nat)(c:Nat->Nat)(a:SpAt w f c)(b:∀i,c i<16777216)(x:Nat)(j:x<16777216):
  Calls prog 92 #[pX f,iX x] w λe w'=>e=returned (iX ((zAy c x:Nat):Int))/\Grew w w':=by
 have m:∀y:Nat,y<16777216->bits .and i64 (y:Int) 255=((y%256:Nat):Int):=λy t=>by
  have:=qE y 255 (by omega) (by omega);rw[show (255:Nat)=2^8-1 from rfl,Nat.and_two_pow_sub_one_eq_mod] at this;exact this
 have m0:=m x j;have m1:bits .and i64 ((x:Int)/256) 255=((x/256%256:Nat):Int):=by
  have:=m (x/256) (by omega);rw[<-this]
  congr 1
 have m2:bits .and i64 ((x:Int)/65536) 255=((x/65536%256:Nat):Int):=by
  have:=m (x/65536) (by omega);rw[<-this]
  congr 1
 have u:=(a.cell (x%256) (by omega)).1;have v:=(a.cell (256+x/256%256) (by omega)).1;have z:=(a.cell (512+x/65536%256) (by omega)).1;have k:Hid (zAy c x=c (x%256)|||c (256+x/256%256)|||c (512+x/65536%256)):=rfl;have l:=b (x%256);have o:=b (256+x/256%256);have A:=b (512+x/65536%256);have B:((x%256:Nat):Int)<256:=by omega
 have C:((x/256%256:Nat):Int)<256:=by omega
 have D:((x/65536%256:Nat):Int)<256:=by omega
 clear m b a;generalize x%256=p at *;generalize x/256%256=q at *;generalize x/65536%256=r at *;generalize c p=c0 at *;generalize c (256+q)=c1 at *;generalize c (512+r)=c2 at *;have g:=yO c0 c1 (by omega) (by omega);have d:=yO (c0|||c1) c2 (Nat.lt_trans (Nat.or_lt_two_pow (n:=24) l o) (by omega)) (by omega);rw[<-g] at d;have s:=vl d;clear g d;go_in;go_wp2;go_quiet (fail);go_wp2;go_ret;refine⟨?_,Keep.alike (w':=w.drewN nq) ⟨rfl,rfl,rfl⟩⟩;rw[k.out,<-s.out];rfl
def yU (follow:List Nat)(n q:Nat):Nat:=qR (λp=>(follow.getD p 0).testBit q) n
def zCn (follow:List Nat):List Nat:=(List.range follow.length).map (yU follow follow.length)
theorem zDq (follow:List Nat):(zCn follow).length=follow.length:=by simp[zCn]
theorem zKy (follow:List Nat)(q:Nat)(a:q<follow.length):(zCn follow).getD q 0=yU follow follow.length q:=by
 unfold zCn;rw[lW,gZ,List.getElem?_range a];rfl
theorem zHB (follow:List Nat)(n q:Nat)(a:n<=24):yU follow n q<16777216:=lZ (zBh _ n) (kG (by omega) a:2^n<=2^24)
theorem zIU (follow:List Nat)(n q:Nat):yU follow (n+1) q=if(follow.getD n 0).testBit q then yU follow n q|||2^n else yU follow n q:=rfl
theorem zM8 (a j:Nat)(b:j<62)(c:a<9223372036854775808):bits .or i64 (a:Int) (IntKind.i64.wrap (2^j))=((a|||2^j:Nat):Int):=by
 have d:2^j<2^62:=Nat.pow_lt_pow_right (by omega) b;have e:((2:Int)^j)=((2^j:Nat):Int):=by simp
 rw[e];generalize 2^j=f at *;rw[zBV _ (by omega) (by omega)];exact yO _ _ c (by omega)
theorem zKp (x q:Nat)(a:x<9223372036854775808):(bits .and i64 ((x:Int)/2^q) 1==1)=x.testBit q:=by
 have b:bits .and i64 ((x:Int)/2^q) 1=((x/2^q%2:Nat):Int):=by
  rw[zBv];exact zD8 _ (Nat.lt_of_le_of_lt (Nat.div_le_self _ _) a)
 have c:x.testBit q=decide (x/2^q%2=1):=Nat.testBit_eq_decide_div_mod_eq;rw[b,c];by_cases e:x/2^q%2=1
 ·rw[e];rfl
 ·rw[gG e,hZ];omega
theorem zGF (w:World)(v:Value)(a:List Nat)(R:Ints w (In w) v (ints a))(ax:a.length<=24)(B:∀x∈a,x<16777216):
  Calls prog 170 #[v] w λe w'=>∃u,e=returned u/\Ints w' (In w') u (ints (zCn a))/\Grew w w':=by
 obtain⟨S,T,U,V,W⟩:=info_parts yL;obtain⟨X,ay,rfl,_,_,C⟩:=R;rw[zO] at C ⊢;have Y:Hid (∀i,i<a.length->∃b o,X=some ⟨b,o,none⟩/\In w b/\w.cell? ⟨b,o+i,none⟩=some (iX ((a.getD i 0:Nat):Int))/\a.getD i 0<16777216):=by
  intro i f;obtain⟨b,o,aa,ac,F⟩:=C i f;rw[vI] at F;exact⟨b,o,aa,ac,F,B _ (zS _ _ 0 f)⟩
 obtain⟨w1,ad,G,p⟩:=run_makeSlice_full (P:=prog) w w.heap.size 45 3 S _ 1 underlying45 T U V i64 i64 a.length (by omega) (by rw[W];omega) (by unfold maxLen;omega) lQ;have I:Hid (Row w1 w.heap.size 3 (slice (qX w.heap.size) a.length a.length) a.length (λq=>iX ((yU a 0 q:Nat):Int))/\Grew w w1):=by
  refine⟨?_,⟨p.os,p.output,p.size,λk ae _=>p.block k ae (by simp)⟩⟩;have c:=G;rw[Nat.mul_one,zAk _ rfl] at c;exact c
 have af:Hid (∀wr,Row wr w.heap.size 3 (slice (qX w.heap.size) a.length a.length) a.length (λq=>iX ((yU a a.length q:Nat):Int))->Ints wr (In wr) (slice (qX w.heap.size) a.length a.length) (ints (zCn a))):=λwr c=>by
  refine zAH (H:=w.heap.size) (Row.ownI ?_);rw[zO,zDq];refine c.congr λq ag=>?_;rw[vI,zKy _ _ ag]
 have ah:Hid (∀j q,j<=24->yU a j q<16777216):=λj q c=>zHB a j q c;clear C B G p;go_in;go_wp2;clear ad;go_loopg [12] a.length (λk i wr=>∃j:Nat,k=a.length-j/\j<=a.length/\i=iX (j:Int)/\Row wr w.heap.size 3 (slice (qX w.heap.size) a.length a.length) a.length (λq=>iX ((yU a j q:Nat):Int))/\Grew w wr)
 case atStart=>exact⟨0,rfl,lX,rfl,I.1,I.2⟩
 case round=>
  obtain⟨j,D,az,rfl,d,l⟩:=hrel;have t:Hid (gk=a.length-j/\Row wr w.heap.size 3 (slice (qX w.heap.size) a.length a.length) a.length (λq=>iX ((yU a j q:Nat):Int))/\Grew w wr):=⟨D,d,l⟩
  by_cases ai:j<a.length
  ·have aj:(j:Int)<(a.length:Int):=by omega
   obtain⟨b,o,rfl,ak,J,aA⟩:=Y j ai;have al:wr.cell? ⟨b,o+j,none⟩=some (iX ((a.getD j 0:Nat):Int)):=zA J ak l;have am:Hid (∀q,yU a (j+1) q=if(a.getD j 0).testBit q then yU a j q|||2^j else yU a j q):=λq=>zIU a j q;clear D d l J;generalize a.getD j 0=r at *;go_wp2;clear al;go_loopg [19] a.length (λk i wr=>∃s:Nat,k=a.length-s/\s<=a.length/\i=iX (s:Int)/\Row wr w.heap.size 3 (slice (qX w.heap.size) a.length a.length) a.length (λq=>iX (((if q<s then yU a (j+1) q else yU a j q:Nat)):Int))/\Grew w wr)
   case atStart=>exact⟨0,rfl,lX,rfl,t.2.1.congr λi _=>by simp,t.2.2⟩
   case round=>
    obtain⟨s,E,B,rfl,d,l⟩:=hrel;have m:Hid (gk=a.length-s/\Row wr w.heap.size 3 (slice (qX w.heap.size) a.length a.length) a.length (λq=>iX (((if q<s then yU a (j+1) q else yU a j q:Nat)):Int))/\Grew w wr):=⟨E,d,l⟩
    by_cases an:s<a.length
    ·have ao:(s:Int)<(a.length:Int):=by omega
     obtain⟨g,aB,K,ap,aq,ar,au,L,M⟩:=d.get (by omega);have av:g=w.heap.size:=by injection K with y _ _;injection y with y;injection y with y;exact y.symm
     subst av;have aC:wr.cell? ⟨w.heap.size,s,none⟩=some (iX ((yU a j s:Nat):Int)):=by
      rw[L s an,if_neg (by omega)]
     have aD:=M s;have N:=zKp r s (by omega);have aE:=ah j s (by omega);have z:Hid (∀i,i<a.length->(if i<s+1 then yU a (j+1) i else yU a j i)=if i=s then(if r.testBit s then yU a j s|||2^j else yU a j s) else if i<s then yU a (j+1) i else yU a j i):=λi f=>by
      by_cases e:i=s
      ·rw[if_pos e,if_pos (by omega),e,am.out s]
      ·rw[if_neg e]
       by_cases O:i<s
       ·rw[if_pos O,if_pos (by omega)]
       ·rw[if_neg O,if_neg (by omega)]
     clear E d l K ap aq ar au L M;cases A:r.testBit s with
     |true=>
      rw[A] at N z;have aF:Hid (bits .or i64 ((yU a j s:Nat):Int) (IntKind.i64.wrap (2^j))=((yU a j s|||2^j:Nat):Int)):=zM8 _ j (by omega) (by omega);have Q:Hid (bits .or i64 ((yU a j s:Nat):Int) (wrap64 (2^j))=((yU a j s|||2^j:Nat):Int)):=zL3 _ j (by omega) (by omega);clear A;generalize yU a j s=c0 at *;go_wp2;go_region;go_wp2;go_roundg (a.length-(s+1))
      case measure=>rw[m.out.1];omega
      case rel=>
       refine⟨s+1,rfl,by omega,by go_num,?_,m.2.2.trans (Keep.trans (zP _ _ _ _ lQ) (Keep.drew _))⟩;have c:=m.2.1.set s (iX ((c0|||2^j:Nat):Int));rw[<-Q.out] at c;refine Row.congr (w:=(wr.setCell ⟨w.heap.size,s,none⟩ _).drew) c λi f=>?_;rw[z.out i f];by_cases e:i=s
       ·rw[if_pos e,if_pos e];rw[Q.out];simp
       ·rw[if_neg e,if_neg e]
     |false=>
      rw[A] at N z;clear A;go_wp2;go_roundg (a.length-(s+1))
      case measure=>rw[m.out.1];omega
      case rel=>
       refine⟨s+1,rfl,by omega,by go_num,?_,m.2.2⟩;refine m.2.1.congr λi f=>?_;rw[z.out i f];by_cases e:i=s
       ·rw[if_pos e,if_neg (by omega),e];simp
       ·rw[if_neg e]
    ·have ao:(a.length:Int)<=(s:Int):=by omega
     have aw:=vl <| d.congr λi f=>by rw[if_pos (by omega)]
     clear E d l;go_wp2;go_roundg (a.length-(j+1))
     case measure=>rw[t.out.1];omega
     case rel=>exact⟨j+1,rfl,by omega,by go_num,aw,m.2.2⟩
  ·have aj:(a.length:Int)<=(j:Int):=by omega
   have e:j=a.length:=by omega
   subst e;clear D d l;go_wp2;go_ret;exact⟨_,rfl,af _ t.2.1,t.2.2⟩
section
def zHq (l:List Nat)(x:Nat):List Nat:=if l.contains x then l else l++[x]
def zBb (c:Nat->Nat)(ls:List Nat)(t:Nat)(l:List Nat):Nat->List Nat
 |0=>l
 |k+1=>zHq (zBb c ls t l k) (zAy c (t&&&ls.getD k 0))
def jJ (c:Nat->Nat)(ls:List Nat):Nat->Nat->List Nat->List Nat
 |0,_,l=>l
 |f+1,i,l=>if i<l.length then jJ c ls f (i+1) (zBb c ls (l.getD i 0) l ls.length) else l
def zNT (c:Nat->Nat)(ls:List Nat)(ends:Nat):List Nat:=jJ c ls 16777216 0 [ends]
structure Once (B:Nat)(l:List Nat):Prop where
 nd:l.Nodup
 lt:∀x∈l,x<B
theorem zL7 (b:Nat)(l:List Nat)(d:Once b l):l.length<=b:=by
 induction b generalizing l with
 |zero=>
  cases l with
  |nil=>exact lQ
  |cons x l=>exact absurd (d.lt x (gQ)) (by omega)
 |succ b f=>
  have g:Once b (l.erase b):=⟨d.nd.erase b,λx i=>by
   have e:=(d.nd.mem_erase_iff.1 i)
   have:=d.lt x e.2;have:=e.1;omega⟩
  have:=f _ g;have j:=List.length_erase (a:=b) (l:=l);rw[j] at this;split at this <;> omega
theorem zLG {d:Nat}{l:List Nat}{x:Nat}(f:Once d l)(i:x<d):Once d (zHq l x):=by
 unfold zHq;split
 ·exact f
 ·rename_i j
  refine⟨?_,λy k=>?_⟩
  ·rw[List.nodup_append]
   refine⟨f.nd,by simp,λa o b p e=>?_⟩;rw[kY.1 p] at e;subst e;exact j (by simpa using o)
  ·rcases kU.1 k with g|g
   ·exact f.lt y g
   ·rw[kY.1 g];exact i
theorem zMI (l:List Nat)(x:Nat):l.length<=(zHq l x).length/\∀i,i<l.length->(zHq l x).getD i 0=l.getD i 0:=by
 unfold zHq;split
 ·exact⟨lQ,λ_ _=>rfl⟩
 ·refine⟨by simp,λi a=>?_⟩
  rw[lW,kW a,lW]
theorem zIn (c:Nat->Nat)(a:List Nat)(t:Nat)(l:List Nat)(k:Nat):l.length<=(zBb c a t l k).length/\∀i,i<l.length->(zBb c a t l k).getD i 0=l.getD i 0:=by
 induction k with
 |zero=>exact⟨lQ,λ_ _=>rfl⟩
 |succ k b=>
  have d:=zMI (zBb c a t l k) (zAy c (t&&&a.getD k 0));exact⟨lY b.1 d.1,λi e=>(d.2 i (by omega)).trans (b.2 i e)⟩
theorem zGn {a:Nat}{c:Nat->Nat}(b:∀x,zAy c x<a)(d:List Nat)(t:Nat){l:List Nat}(e:Once a l)(k:Nat):Once a (zBb c d t l k):=by
 induction k with
 |zero=>exact e
 |succ k f=>exact zLG f (b _)
theorem zGI {b:Nat}{c:Nat->Nat}(e:∀x,zAy c x<b)(d:List Nat)(f:Nat):∀i l,Once b l->Once b (jJ c d f i l):=by
 induction f with
 |zero=>exact λi l a=>a
 |succ f g=>
  intro i l a;unfold jJ;split
  ·exact g _ _ (zGn e d _ a _)
  ·exact a
theorem zL4 (f:Nat->Nat)(k:Nat)(a:∀i,f i<2^k)(n:Nat):zNa f n<2^k:=by
 induction n with
 |zero=>exact Nat.pow_pos (by omega)
 |succ n b=>exact Nat.or_lt_two_pow b (a n)
theorem zMZ (by_:List Nat)(k:Nat)(b:∀x∈by_,x<2^k)(n i:Nat):spF by_ n i<2^k:=by
 refine zL4 _ k (λp=>?_) n;have a:0<2^k:=Nat.pow_pos (by omega);unfold spG;split
 ·split
  ·by_cases d:p<by_.length
   ·exact b _ (zS _ _ 0 d)
   ·rw[lW,List.getElem?_eq_none (by omega)];exact a
  ·exact a
 ·exact a
theorem zHM (c:Nat->Nat)(k:Nat)(a:∀i,c i<2^k)(x:Nat):zAy c x<2^k:=Nat.or_lt_two_pow (Nat.or_lt_two_pow (a _) (a _)) (a _)
structure Tt (w0 w:World)(fb ps N:Nat)(c:Nat->Nat)(u:Value)(l:List Nat)(m:Nat->Bool):Prop where
 sp:SpAt w fb c
 se:SeIs w w0.heap.size ps N m
 own:w.ownsRow w0.heap.size 21 1 u l.length (l.map λ(x:Nat)=>int .i32 (x:Int))
 keep:Grew w0 w
section
variable {w0 w w2:World} {fb ps N:Nat} {c:Nat->Nat} {u:Value} {l:List Nat} {m:Nat->Bool}
theorem SeIs.grown {H:Nat}(a:SeIs w H ps N m)(b:Grew w w2):SeIs w2 H ps N m:=by
 obtain⟨g,cap,a⟩:=a;have d:=(kQ.1 a.blk).1;exact⟨g,cap,(b.block ps d (kJ d)).trans a.blk,zL a.row b⟩
theorem Tt.grown (a:Tt w0 w fb ps N c u l m)(b:Grew w w2):Tt w0 w2 fb ps N c u l m:=
 ⟨a.sp.keep (b.block fb a.sp.lt (kJ a.sp.lt)),a.se.grown b,zL a.own b,a.keep.trans (b.lower a.keep.size a.keep.size)⟩
theorem Tt.add {i:Nat->Bool}(b:Tt w0 w fb ps N c u l m)(a:StayU w0.heap.size w w2)(p:SeIs w2 w0.heap.size ps N i):Tt w0 w2 fb ps N c u l i:=by
 refine⟨?_,p,zF b.own λg _ _ d=>?_,b.keep.trans ⟨a.os,a.output,Nat.le_of_eq a.size.symm,λk q _=>a.low k q⟩⟩
 ·obtain⟨cs,r,s⟩:=b.sp
  exact⟨cs,a.other fb cs _ r (by decide),s⟩
 ·rcases b.own.2 with⟨f,_⟩|⟨j,cap,t,f,_,o,_⟩
  ·rw[f] at d;cases d
  ·rw[f] at d
   have e:j=g:=by simpa[Value.ownBlock] using d
   subst e;rw[o];exact a.other j t _ o (by decide)
theorem Tt.app {o:Obj}{g cap x:Nat}(a:Tt w0 w fb ps N c u l m)(q:w2.ownsRow w0.heap.size 21 1 (slice (qX g) (l.length+1) cap) (l.length+1) ((l.map λ(x:Nat)=>int .i32 (x:Int))++[int .i32 (x:Int)]))(b:(w.alloc o).grownBy w2 u.ownBlock):
  Tt w0 w2 fb ps N c (slice (qX g) (l.length+1) cap) (l++[x]) m:=by
 have f:∀j,j<w.heap.size->some j≠u.ownBlock->w2.heap[j]? =w.heap[j]? :=λj z r=>(b.block j (by simp;omega) r).trans (lG _ _ _ (by omega));refine⟨?_,?_,?_,a.keep.trans ⟨b.os,b.output,lY (by simp) b.size,λk i _=>f k (lZ i a.keep.size) λe=>by have:=(a.own.lt k e.symm).1;omega⟩⟩
 ·obtain⟨cs,p,s⟩:=a.sp
  exact⟨cs,(f fb a.sp.lt (zN a.own p (by decide))).trans p,s⟩
 ·obtain⟨t,v,d⟩:=a.se
  have y:=(kQ.1 d.blk).1;exact⟨t,v,(f ps y (zN a.own d.blk (by decide))).trans d.blk,zT b d.row λk i=>xO d.row a.own (by decide) i⟩
 ·have e:(l++[x]).length=l.length+1:=by simp
  rw[e,List.map_append];exact q
end
end
structure Nt where
 sets:List Cs
 follow:List Nat
 first:Nat
 ends:Nat
 rules:List Nat
 empty:List Bool
structure Nt.Ok (n:Nt):Prop where
 len:n.sets.length<=24
 fl:n.follow.length=n.sets.length
 fs:∀x∈n.follow,x<2^n.sets.length
 first:n.first<2^n.sets.length
 ends:n.ends<2^n.sets.length
 eight:n.rules.length<=8
 rs:∀x∈n.rules,x<2^n.sets.length
theorem Nt.Ok.top {n:Nt}(a:n.Ok):2^n.sets.length<=16777216:=(kG (by omega) a.len:2^n.sets.length<=2^24)
structure NetAt (w:World)(q:Nat)(n:Nt)(sv fv rv ev:Value):Prop where
 lq:q<w.heap.size
 c0:w.cell? ⟨q,0,none⟩=some sv
 c1:w.cell? ⟨q,1,none⟩=some fv
 c2:w.cell? ⟨q,2,none⟩=some (int i64 (n.first:Int))
 c3:w.cell? ⟨q,3,none⟩=some (int i64 (n.ends:Int))
 c4:w.cell? ⟨q,4,none⟩=some rv
 c5:w.cell? ⟨q,5,none⟩=some ev
 sets:SetsAt w sv n.sets
 follow:Ints w (In w) fv (ints n.follow)
 rules:Ints w (In w) rv (ints n.rules)
 empty:Bools w (In w) ev n.empty
theorem NetAt.grown {w w2:World}{q:Nat}{n:Nt}{sv c rv d:Value}(a:NetAt w q n sv c rv d)(b:Grew w w2):NetAt w2 q n sv c rv d:=
 ⟨lZ a.lq b.size,zA a.c0 a.lq b,zA a.c1 a.lq b,zA a.c2 a.lq b,zA a.c3 a.lq b,zA a.c4 a.lq b,zA a.c5 a.lq b,a.sets.grown b,a.follow.grown b,a.rules.grown b,a.empty.grown b⟩
def Nt.back (n:Nt):Nat->Nat:=spF (zCn n.follow) n.follow.length
def Nt.tails (n:Nt)(ls:List Nat):List Nat:=zNT n.back ls n.ends
theorem Nt.back_lt {n:Nt}(a:n.Ok)(i:Nat):n.back i<2^n.sets.length:=by
 refine zMZ _ _ (λx b=>?_) _ _;obtain⟨q,c,rfl⟩:=List.mem_map.1 b;have:=zBh (λp=>(n.follow.getD p 0).testBit q) n.follow.length;rw[a.fl] at this;show yU n.follow n.follow.length q<_;rw[a.fl];exact this
theorem Nt.tails_once {n:Nt}(a:n.Ok)(b:List Nat):Once (2^n.sets.length) (n.tails b):=
 zGI (zHM _ _ (Nt.back_lt a)) b _ _ _ ⟨by simp,λx c=>by rw[kY.1 c];exact a.ends⟩
theorem Once.top {n:Nt}(a:n.Ok){l:List Nat}(b:Once (2^n.sets.length) l):l.length<=16777216/\∀x∈l,x<16777216:=
 ⟨lY (zL7 _ _ b) a.top,λx c=>lZ (b.lt x c) a.top⟩
theorem zH9 {w:World}{H:Nat}{v:Value}{l:List Nat}(b:w.ownsRow H 21 1 v l.length (l.map λ(x:Nat)=>int .i32 (x:Int))):I32s w (In w) v l:=by
 rcases b.2 with⟨a,e⟩|⟨g,cap,k,a,m,o,f,j,p,q⟩
 ·exact⟨none,0,by rw[a,e],by omega,by unfold maxLen;omega,λi c=>by omega⟩
 ·refine⟨some ⟨g,0,none⟩,cap,a,f,j,λi c=>⟨g,0,rfl,(b.lt g (by rw[a];rfl)).2,?_⟩⟩
  have d:=b.cells (g:=g) (by rw[a];rfl) i (int .i32 ((l.getD i 0:Nat):Int)) (by
   rw[gZ,lV c,lW,lV c];rfl)
  rw[Addr.add_lit] at d;exact d
theorem zNi:(prog.info? 21).map (λi=>(i.zero,i.size,i.bytes))=some (some (int .i32 0),1,4):=by kernel_rfl
theorem zL5 (w:World)(H x:Nat)(a:H<=w.heap.size):(w.alloc (.cells #[int .i32 (x:Int)] 21)).ownsRow H 21 1 (slice (qX w.heap.size) 1 1) ([x]:List Nat).length (([x]:List Nat).map λ(x:Nat)=>int .i32 (x:Int)):=
 ⟨rfl,.inr ⟨w.heap.size,1,_,rfl,a,gY w _,lQ,by unfold maxLen;omega,rfl,rfl⟩⟩
theorem zFK (w:World)(q:Nat)(n:Nt)(sv ac rv aP:Value)(I:NetAt w q n sv ac rv aP)(ok:n.Ok)(lv:Value)(a:List Nat)(ad:Ints w (In w) lv (ints a))(bs:a.length<=1000000000000)(au:∀x∈a,x<16777216):
  Calls prog 129 #[pX q,lv] w λe w'=>∃u,e=returned u/\I32s w' (In w') u (n.tails a)/\Grew w w':=by
 obtain⟨aQ,aR,aS,aT,aU⟩:=info_parts zNi;obtain⟨bt,bu,rfl,-⟩:=id I.sets;obtain⟨aV,bv,rfl,-⟩:=id ad;have T:=ok.len;have av:=ok.top;have aw:=ok.ends;have bw:=I.c0;have bx:=I.c1;have bz:=I.c3;have U:=vl I;have ae:Hid n.Ok:=ok;have aW:Hid (∀w2,w2=w->Ca 170 #[ac] w2 λe w'=>∃u,e=returned u/\Ints w' (In w') u (ints (zCn n.follow))/\Grew w w'):=by
  rintro w2 rfl;exact zGF w2 ac n.follow U.follow (by rw[ok.fl];exact T) λx B=>lZ (ok.fs x B) av
 have aX:Hid (∀w1 u,Ints w1 (In w1) u (ints (zCn n.follow))->Grew w w1->Ca 128 #[u] w1 λe w'=>e=returned (pX w1.heap.size)/\SpAt w' w1.heap.size n.back/\Grew w w'):=λw1 u F C=>by
  refine(zBD w1 u (zCn n.follow) F (by rw[zDq,ok.fl];exact T) λx B=>?_).mono ?_
  ·obtain⟨q,bA,rfl⟩:=List.mem_map.1 B
   exact zHB _ _ _ (by rw[ok.fl];exact T)
  ·rintro e w2 ⟨rfl,D,J⟩
   rw[zDq] at D;exact⟨rfl,D,C.trans (J.lower C.size C.size)⟩
 have aY:Hid (∀w2 f,SpAt w2 f n.back->Grew w w2->Ca 171 #[iX (n.sets.length:Int)] w2 λe w'=>∃p,e=returned (pX p)/\SeIs w' w.heap.size p (vP n.sets.length) (λ_=>false)/\SpAt w' f n.back/\Grew w w'):=λw2 f af C=>by
  refine(zFS w2 n.sets.length T).mono ?_;rintro e s ⟨p,rfl,bB,⟨g,cap,ax⟩,K⟩;exact⟨p,rfl,⟨g,cap,ax.blk,ax.row.mono C.size⟩,af.keep (K.block f af.lt (kJ af.lt)),C.trans (K.lower C.size C.size)⟩
 have aZ:∀x:Nat,x<2^n.sets.length->x<64*vP n.sets.length:=λx B=>by unfold vP;omega
 have a0:vP n.sets.length<=1000000:=by unfold vP;omega
 have ag:Hid (∀s p f m u l,Tt w s f p (vP n.sets.length) n.back u l m->∀x:Nat,x<2^n.sets.length->Ca 172 #[pX p,iX (x:Int)] s λe w'=>e=returned (bool (!m x))/\Tt w w' f p (vP n.sets.length) n.back u l (λy=>y==x||m y)):=λs p f m u l A x B=>by
  refine(zFM s w.heap.size p (vP n.sets.length) m A.se a0 x (aZ x B)).mono ?_;rintro e M ⟨rfl,D,J⟩;exact⟨rfl,A.add J D⟩
 have a1:Hid (∀s p f m u l,Tt w s f p (vP n.sets.length) n.back u l m->∀x:Nat,x<16777216->Ca 92 #[pX f,iX (x:Int)] s λe w'=>e=returned (iX ((zAy n.back x:Nat):Int))/\Tt w w' f p (vP n.sets.length) n.back u l m):=λs p f m u l A x B=>by
  refine(zBK s f n.back A.sp (λi=>lZ (Nt.back_lt ae i) av) x B).mono ?_;rintro e M ⟨rfl,D⟩;exact⟨rfl,A.grown D⟩
 have a2:Hid (∀i,i<a.length->∃b o,aV=some ⟨b,o,none⟩/\In w b/\cX w b (o+i)=some (iX ((a.getD i 0:Nat):Int))/\a.getD i 0<16777216):=by
  obtain⟨bC,bD,a3,_,_,a4⟩:=ad;injection a3 with a5 _ _;subst a5;intro i ay;obtain⟨b,o,D,a6,J⟩:=a4 i (by rw[zO];exact ay);rw[vI] at J;exact⟨b,o,D,a6,J,au _ (zS _ i 0 ay)⟩
 have ah:Hid (∀l,Once (2^n.sets.length) l->l.length<=16777216/\∀x∈l,x<16777216):=λl a7=>Once.top ae a7;have az:=vl <| zHM _ _ (Nt.back_lt ae);have a8:Hid (Once (2^n.sets.length) [n.ends]):=⟨by simp,λx B=>by rw[kY.1 B];exact aw⟩
 have a9:Hid (n.tails a=jJ n.back a 16777216 0 [n.ends]):=rfl;rw[zO];have bE:n.ends<16777216:=by omega
 clear I ok ad au;go_in;go_wp2_with (first|(go_at_call 170;refine(aW _ rfl).mono ?_;rintro e w1 ⟨u,rfl,F,aA⟩;have ba:=vl F;clear F)|(go_at_call 128;refine(aX w1 u ba aA).mono ?_;rintro e w2 ⟨rfl,aB,ai⟩;have bb:=(U.grown ai).c0;clear aA)|(go_at_call 171;refine(aY w2 w1.heap.size aB ai).mono ?_;rintro e s ⟨p,rfl,aC,aD,K⟩;have y3:=(U.grown K).c3;have aE:Tt w s w1.heap.size p (vP n.sets.length) n.back (slice none 0 0) [] (λ_=>false):=⟨aD,aC,ownsRow_nil _ _ _ _,K⟩;clear bb ai aB)|(go_at_call 172;refine(ag s p w1.heap.size _ _ _ aE n.ends aw).mono ?_;rintro e M ⟨rfl,V⟩;have bc:=(U.grown V.keep).c3;clear y3))
 have aj:Hid (Tt w (M.alloc (Obj.cells #[Value.int IntKind.i32 (n.ends:Int)] 21)) w1.heap.size p (vP n.sets.length) n.back (slice (qX M.heap.size) 1 1) [n.ends] (λy=>[n.ends].contains y)):=by
  have ak:=V.grown (kZ M (Obj.cells #[Value.int IntKind.i32 (n.ends:Int)] 21) lQ);refine⟨ak.sp,?_,zL5 M w.heap.size n.ends V.keep.size,ak.keep⟩;have e:(λy=>[n.ends].contains y)=λy=>y==n.ends||false:=by funext y;by_cases e:y=n.ends <;> simp[e]
  rw[e];exact ak.se
 clear V aE aD aC K bc;generalize w1.heap.size=f at *;generalize vP n.sets.length=E at *;go_loopg [7,8] 16777216 (λk u i wr=>∃(j:Nat) (l:List Nat),k=16777216-j/\j<=l.length/\i=iX (j:Int)/\Tt w wr f p E n.back u l (λy=>l.contains y)/\Once (2^n.sets.length) l/\jJ n.back a 16777216 0 [n.ends]=jJ n.back a (16777216-j) j l)
 case atStart=>exact⟨0,[n.ends],rfl,lX,rfl,aj,a8,rfl⟩
 case round=>
  obtain⟨j,l,G,bF,rfl,A,O,Q⟩:=hrel;have W:Hid (gk=16777216-j/\Tt w wr f p E n.back u7 l (λy=>l.contains y)/\Once (2^n.sets.length) l/\jJ n.back a 16777216 0 [n.ends]=jJ n.back a (16777216-j) j l):=⟨G,A,O,Q⟩
  obtain⟨ao,cap,aF⟩:=zI A.own;have bG:=(ah l O).1;by_cases X:j<l.length
  ·have bd:(j:Int)<(l.length:Int):=by omega
   have be:Hid (jJ n.back a 16777216 0 [n.ends]=jJ n.back a (16777216-(j+1)) (j+1) (zBb n.back a (l.getD j 0) l a.length)):=by
    show _=_;rw[Q,show 16777216-j=(16777216-(j+1))+1 by omega];show(if j<l.length then _ else _)=_;rw[if_pos X]
   have am:Hid (∀k,l.length<=(zBb n.back a (l.getD j 0) l k).length/\(zBb n.back a (l.getD j 0) l k).getD j 0=l.getD j 0/\Once (2^n.sets.length) (zBb n.back a (l.getD j 0) l k)):=λk=>⟨(zIn _ _ _ _ k).1,(zIn _ _ _ _ k).2 j X,zGn az a _ O k⟩
   have bf:=(ah l O).2 _ (zS l j 0 X);subst aF;clear G A O Q aj;generalize bg:l.getD j 0=x at *;clear bg;go_wp2;go_loopg [7,44] a.length (λk u i wr=>∃t:Nat,k=a.length-t/\t<=a.length/\i=iX (t:Int)/\Tt w wr f p E n.back u (zBb n.back a x l t) (λy=>(zBb n.back a x l t).contains y))
   case atStart=>exact⟨0,rfl,lX,rfl,W.2.1⟩
   case round=>
    obtain⟨t,G,A,rfl,R⟩:=hrel;have Y:Hid (gk=a.length-t/\Tt w wr f p E n.back u7 (zBb n.back a x l t) (λy=>(zBb n.back a x l t).contains y)):=⟨G,R⟩
    by_cases bh:t<a.length
    ·have bi:(t:Int)<(a.length:Int):=by omega
     obtain⟨bj,bk,rfl,bl,aG,bH⟩:=a2 t bh;have bI:cX wr bj (bk+t)=some (iX ((a.getD t 0:Nat):Int)):=zA aG bl R.keep;obtain⟨bJ,aH,aI⟩:=am t;obtain⟨bK,aa,bm,bL,bM,aJ⟩:=zH9 R.own;obtain⟨b2,ab,rfl,bN,bn⟩:=aJ j (by omega);rw[aH] at bn;have bO:(j:Int)<((zBb n.back a x l t).length:Int):=by omega
     have aK:Hid (zBb n.back a x l (t+1)=zHq (zBb n.back a x l t) (zAy n.back (x&&&a.getD t 0))):=rfl;have bP:=(ah _ aI).1;clear G R aG aJ am aH aI;generalize zBb n.back a x l t=c at *;generalize a.getD t 0=r at *;have bQ:bits .and i64 (x:Int) (r:Int)=((x&&&r:Nat):Int):=qE _ _ (by omega) (by omega);have bo:x&&&r<16777216:=Nat.lt_of_le_of_lt Nat.and_le_left bf;generalize x&&&r=y at *;have aL:=az y;have aM:=vl <| a1 wr p f _ _ _ Y.2 y bo;generalize zAy n.back y=d at *;have bR:d<16777216:=by omega
     subst bm;cases H:c.contains d with
     |true=>
      have an:Hid (∀v,Tt w v f p E n.back (slice (some ⟨b2,ab,none⟩) c.length aa) c (λy=>c.contains y)->Ca 172 #[pX p,iX (d:Int)] v λe w'=>e=returned (bool false)/\Tt w w' f p E n.back (slice (some ⟨b2,ab,none⟩) c.length aa) c (λy=>y==d||c.contains y)):=λv ap=>by
       have:=ag v p f _ _ _ ap d aL;rw[H] at this;exact this
      have S:Hid (zBb n.back a x l (t+1)=c/\(λy=>y==d||c.contains y)=λy=>c.contains y):=⟨by rw[aK.out];unfold zHq;rw[if_pos H],by
       funext y
       by_cases e:y=d
       ·rw[e,H];simp
       ·rw[show (y==d)=false by simp[e]];rfl⟩
      clear H;go_wp2_with (first|(go_at_call 92;refine aM.mono ?_;rintro e v ⟨rfl,aq⟩)|(go_at_call 172;refine(an v aq).mono ?_;rintro e aN ⟨rfl,P⟩))
      go_roundg (a.length-(t+1))
      case measure=>rw[Y.out.1];omega
      case rel=>
       rw[S.out.2] at P;exact⟨t+1,rfl,by omega,by go_num,by rw[S.out.1];exact P⟩
     |false=>
      have an:Hid (∀v,Tt w v f p E n.back (slice (some ⟨b2,ab,none⟩) c.length aa) c (λy=>c.contains y)->Ca 172 #[pX p,iX (d:Int)] v λe w'=>e=returned (bool true)/\Tt w w' f p E n.back (slice (some ⟨b2,ab,none⟩) c.length aa) c (λy=>y==d||c.contains y)):=λv ap=>by
       have:=ag v p f _ _ _ ap d aL;rw[H] at this;exact this
      have S:Hid (zBb n.back a x l (t+1)=c++[d]/\(λy=>y==d||c.contains y)=λy=>(c++[d]).contains y):=⟨by rw[aK.out];unfold zHq;rw[if_neg (by rw[H];decide)],by
       funext y
       rw[List.contains_append];by_cases e:y=d
       ·simp[e]
       ·simp[e]⟩
      clear H;go_wp2_with (first|(go_at_call 92;refine aM.mono ?_;rintro e v ⟨rfl,aq⟩)|(go_at_call 172;refine(an v aq).mono ?_;rintro e aN ⟨rfl,P⟩;have bp:=P.own;have bS:=P.keep.size)|(at_builtin;refine wpList_append_lies _ rfl _ _ 174 rfl (w.heap.size) 21 aQ (int .i32 0) 1 4 underlying174 aR aS aT aU rfl (by decide) _ _ _ rfl (bp.alloc _) ⟨aN.heap.size,0,none⟩ 1 1 [int .i32 (d:Int)] rfl rfl (cell_one_new _ _ _) (by intro u F;simp at F;subst F;rfl) (by decide) (by unfold maxLen;omega) (by omega) (by simp;omega) _ rfl ?_;intro bT bU bV bq br bW bX;have aO:=P.app bq br))
      go_roundg (a.length-(t+1))
      case measure=>rw[Y.out.1];omega
      case rel=>
       rw[S.out.2] at aO;exact⟨t+1,rfl,by omega,by go_num,by rw[S.out.1];exact aO⟩
    ·have bi:(a.length:Int)<=(t:Int):=by omega
     have e:t=a.length:=by omega
     subst e;have ar:=am a.length;clear G R;go_wp2;go_roundg (16777216-(j+1))
     case measure=>rw[W.out.1];omega
     case rel=>exact⟨j+1,_,rfl,by omega,by go_num,Y.2,ar.2.2,be⟩
  ·have bd:(l.length:Int)<=(j:Int):=by omega
   have ar:Hid (n.tails a=l):=by
    show _=_;rw[a9.out,Q];cases 16777216-j with
    |zero=>rfl
    |succ k=>
     show(if j<l.length then _ else _)=_;rw[if_neg X]
   subst aF;clear G A O Q aj;go_wp2;go_ret;exact⟨_,rfl,by rw[ar.out];exact zH9 W.2.1.own,W.2.1.keep⟩
section
structure Ar.Good (a:Ar)(k:Nat):Prop where
 sets:∀x∈a.sets,0<=x/\x<((2^k:Nat):Int)
 letters:∀x∈a.letters,0<=x/\x<(a.sets.length:Int)
 lens:a.lows.length=a.letters.length
theorem Ar.look_lt (a:Ar)(x:Int):a.look x<(a.seen x).sets.length:=by
 unfold Ar.seen;split
 ·assumption
 ·have:a.look x<=a.sets.length:=List.findIdx_le_length
  simp;omega
theorem Ar.seen_good {a:Ar}{k:Nat}(c:a.Good k)(x:Int)(f:0<=x/\x<((2^k:Nat):Int)):(a.seen x).Good k:=by
 unfold Ar.seen;split
 ·exact c
 ·refine⟨λy d=>?_,λy d=>?_,c.lens⟩
  ·rcases kU.1 d with e|e
   ·exact c.sets y e
   ·rw[kY.1 e];exact f
  ·have:=c.letters y d
   simp;omega
theorem Ar.step_good (sets:List Cs){a:Ar}(f:a.Good sets.length)(low:Int):(a.step sets low).Good sets.length/\0<(a.step sets low).lows.length:=by
 have k:=zBh (zAK sets low) sets.length;have g:(0:Int)<=(qP sets low:Nat)/\((qP sets low:Nat):Int)<((2^sets.length:Nat):Int):=by
  unfold qP;omega
 have c:=Ar.seen_good f _ g;have l:=a.look_lt (qP sets low:Nat);unfold Ar.step;split
 ·refine⟨⟨c.sets,λy i=>?_,?_⟩,by simp⟩
  ·rcases kU.1 i with d|d
   ·exact c.letters y d
   ·rw[kY.1 d]
    exact⟨by omega,by show _<(((a.seen _).sets.length:Nat):Int);omega⟩
  ·have:=c.lens
   simp;omega
 ·rename_i j
  refine⟨c,?_⟩;have m:=c.lens;apply Nat.pos_of_ne_zero;intro e;apply j;unfold Ar.turns;rw[show (a.seen (qP sets low)).letters.length=0 by omega];rfl
theorem zH7 (sets:List Cs)(j:Nat)(e:j<=(xK sets).length):(vA sets j).Good sets.length/\(0<j->0<(vA sets j).lows.length):=by
 induction j with
 |zero=>exact⟨⟨λx c=>absurd c (List.not_mem_nil),λx c=>absurd c (List.not_mem_nil),rfl⟩,λa=>absurd a (Nat.lt_irrefl _)⟩
 |succ j d=>
  have a:=Ar.step_good sets (d (by omega)).1 ((xK sets).getD j 0);rw[zBO sets j (by omega)];exact⟨a.1,λ_=>a.2⟩
theorem zLx (sets:List Cs):(xK sets).length=4+2*yE sets:=zFz sets _
theorem zBp (sets:List Cs):(yA sets).Good sets.length/\0<(yA sets).lows.length/\(yA sets).lows.length<=4+2*yE sets/\(yA sets).sets.length<=4+2*yE sets:=by
 have a:=zH7 sets (xK sets).length lQ;have c:=zC5 sets (xK sets).length lQ;rw[zE3 sets _ lQ] at a c;have:=zLx sets;exact⟨a.1,a.2 (by omega),by omega,by omega⟩
def Ar.setsN (a:Ar):List Nat:=a.sets.map Int.toNat
theorem Ar.setsN_ints {a:Ar}{k:Nat}(c:a.Good k):a.sets=ints a.setsN:=by
 unfold ints Ar.setsN;rw[List.map_map]
 conv=>lhs;rw[<-List.map_id a.sets]
 apply List.map_congr_left;intro x d;have:=c.sets x d;show x=((x.toNat:Nat):Int);omega
theorem Ar.setsN_lt {a:Ar}{k:Nat}(c:a.Good k):∀x∈a.setsN,x<2^k:=by
 intro x d;obtain⟨y,e,rfl⟩:=List.mem_map.1 d;have:=c.sets y e;omega
theorem Ar.setsN_len (a:Ar):a.setsN.length=a.sets.length:=kV ..
def Nt.areas (n:Nt):Ar:=yA n.sets
def Nt.letters (n:Nt):List Nat:=n.areas.setsN
def Nt.ahead (n:Nt):Nat->Nat:=spF n.follow n.follow.length
structure Nm (w w':World)(q b:Nat)(n:Nt)(sv fv rv ev lv tv av:Value):Prop where
 net:NetAt w' q n sv fv rv ev
 blk:w'.heap[b]? =some (.cells #[lv,tv,av] 172)
 ar:ArAt w' lv tv av n.areas
 keep:Grew w w'
section
variable {w w1 w2:World} {q b:Nat} {n:Nt} {sv fv rv ev lv tv av:Value}
theorem Nm.grown (a:Nm w w1 q b n sv fv rv ev lv tv av)(c:Grew w1 w2):Nm w w2 q b n sv fv rv ev lv tv av:=by
 have d:=(kQ.1 a.blk).1;exact⟨a.net.grown c,(c.block b d (kJ d)).trans a.blk,a.ar.grown c,a.keep.trans (c.lower a.keep.size a.keep.size)⟩
theorem Nm.drew (a:Nm w w1 q b n sv fv rv ev lv tv av):Nm w w1.drew q b n sv fv rv ev lv tv av:=a.grown (Keep.drew _)
theorem Nm.cells (a:Nm w w1 q b n sv fv rv ev lv tv av):w1.cell? ⟨b,0,none⟩=some lv/\w1.cell? ⟨b,1,none⟩=some tv/\w1.cell? ⟨b,2,none⟩=some av:=by
 refine⟨?_,?_,?_⟩
 all_goals (unfold cell?;rw[a.blk];rfl)
end
end
end Go.Proofs.YtbjcfkdnjaiclaaGreat
