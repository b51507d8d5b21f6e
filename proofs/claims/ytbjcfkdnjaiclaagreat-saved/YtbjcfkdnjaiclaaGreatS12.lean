import Derived.Deep.DrawnRows
import Derived.Deep.RegionLaw
import Derived.Test.YtbjcfkdnjaiclaaGreatS0
import Derived.Test.YtbjcfkdnjaiclaaGreatS11
/- Parts of the proof. -/
set_option linter.unusedVariables false
set_option linter.unusedSimpArgs false
set_option maxHeartbeats 4000000
set_option maxRecDepth 100000
namespace Go.Proofs.YtbjcfkdnjaiclaaGreat
open Go.RowKit Go.Proofs.Tryz Go.World
open Go.Value (int slice bool pointer string agg tuple)
open Go.IntKind (i64)
open Go.Ending (returned)
structure Nt where
 sets:List Cs
 follow:List Nat
 first:Nat
 ends:Nat
 rules:List Nat
 empty:List Bool
structure Nt.Ok (n:Nt):Prop where
 len:n.sets.length<=24
 fl:n.follow.length=n.sets.length
 fs:∀x∈n.follow,x<2^n.sets.length
 first:n.first<2^n.sets.length
 ends:n.ends<2^n.sets.length
 eight:n.rules.length<=8
 rs:∀x∈n.rules,x<2^n.sets.length
theorem Nt.Ok.top {n:Nt}(a:n.Ok):2^n.sets.length<=16777216:=(kG (by omega) a.len:2^n.sets.length<=2^24)
structure NetAt (w:World)(q:Nat)(n:Nt)(sv fv rv ev:Value):Prop where
 lq:q<w.heap.size
 c0:w.cell? ⟨q,0,none⟩=some sv
 c1:w.cell? ⟨q,1,none⟩=some fv
 c2:w.cell? ⟨q,2,none⟩=some (int i64 (n.first:Int))
 c3:w.cell? ⟨q,3,none⟩=some (int i64 (n.ends:Int))
 c4:w.cell? ⟨q,4,none⟩=some rv
 c5:w.cell? ⟨q,5,none⟩=some ev
 sets:SetsAt w sv n.sets
 follow:Ints w (In w) fv (ints n.follow)
 rules:Ints w (In w) rv (ints n.rules)
 empty:Bools w (In w) ev n.empty
theorem NetAt.grown {w w2:World}{q:Nat}{n:Nt}{sv c rv d:Value}(a:NetAt w q n sv c rv d)(b:Grew w w2):NetAt w2 q n sv c rv d:=
 ⟨lZ a.lq b.size,zA a.c0 a.lq b,zA a.c1 a.lq b,zA a.c2 a.lq b,zA a.c3 a.lq b,zA a.c4 a.lq b,zA a.c5 a.lq b,a.sets.grown b,a.follow.grown b,a.rules.grown b,a.empty.grown b⟩
def Nt.back (n:Nt):Nat->Nat:=spF (zDg n.follow) n.follow.length
def Nt.tails (n:Nt)(ls:List Nat):List Nat:=zPP n.back ls n.ends
theorem Nt.back_lt {n:Nt}(a:n.Ok)(i:Nat):n.back i<2^n.sets.length:=by
 refine zOW _ _ (λx b=>?_) _ _;obtain⟨q,c,rfl⟩:=List.mem_map.1 b;have:=zBS (λp=>(n.follow.getD p 0).testBit q) n.follow.length;rw[a.fl] at this;show qH n.follow n.follow.length q<_;rw[a.fl];exact this
theorem Nt.tails_once {n:Nt}(a:n.Ok)(b:List Nat):Once (2^n.sets.length) (n.tails b):=
 zHO (zJe _ _ (Nt.back_lt a)) b _ _ _ ⟨by simp,λx c=>by rw[kY.1 c];exact a.ends⟩
theorem Once.top {n:Nt}(a:n.Ok){l:List Nat}(b:Once (2^n.sets.length) l):l.length<=16777216/\∀x∈l,x<16777216:=
 ⟨lY (zN4 _ _ b) a.top,λx c=>lZ (b.lt x c) a.top⟩
theorem zJD {w:World}{H:Nat}{v:Value}{l:List Nat}(b:w.ownsRow H 21 1 v l.length (l.map λ(x:Nat)=>int .i32 (x:Int))):I32s w (In w) v l:=by
 rcases b.2 with⟨a,e⟩|⟨g,cap,k,a,m,o,f,j,p,q⟩
 ·exact⟨none,0,by rw[a,e],by omega,by unfold maxLen;omega,λi c=>by omega⟩
 ·refine⟨some ⟨g,0,none⟩,cap,a,f,j,λi c=>⟨g,0,rfl,(b.lt g (by rw[a];rfl)).2,?_⟩⟩
  have d:=b.cells (g:=g) (by rw[a];rfl) i (int .i32 ((l.getD i 0:Nat):Int)) (by
   rw[gQ,lV c,lW,lV c];rfl)
  rw[Addr.add_lit] at d;exact d
theorem zPi:(prog.info? 21).map (λi=>(i.zero,i.size,i.bytes))=some (some (int .i32 0),1,4):=by kernel_rfl
theorem zN2 (w:World)(H x:Nat)(a:H<=w.heap.size):(w.alloc (.cells #[int .i32 (x:Int)] 21)).ownsRow H 21 1 (slice (qX w.heap.size) 1 1) ([x]:List Nat).length (([x]:List Nat).map λ(x:Nat)=>int .i32 (x:Int)):=
 ⟨rfl,.inr ⟨w.heap.size,1,_,rfl,a,gX w _,lQ,by unfold maxLen;omega,rfl,rfl⟩⟩
theorem zGP (w:World)(q:Nat)(n:Nt)(sv ac rv aP:Value)(I:NetAt w q n sv ac rv aP)(ok:n.Ok)(lv:Value)(a:List Nat)(ad:Ints w (In w) lv (ints a))(bs:a.length<=1000000000000)(au:∀x∈a,x<16777216):
  Calls prog 129 #[pX q,lv] w λe w'=>∃u,e=returned u/\I32s w' (In w') u (n.tails a)/\Grew w w':=by
 obtain⟨aQ,aR,aS,aT,aU⟩:=info_parts zPi;obtain⟨bt,bu,rfl,-⟩:=id I.sets;obtain⟨aV,bv,rfl,-⟩:=id ad;have T:=ok.len;have av:=ok.top;have aw:=ok.ends;have bw:=I.c0;have bx:=I.c1;have bz:=I.c3;have U:=vl I;have ae:Hid n.Ok:=ok;have aW:Hid (∀w2,w2=w->Ca 170 #[ac] w2 λe w'=>∃u,e=returned u/\Ints w' (In w') u (ints (zDg n.follow))/\Grew w w'):=by
  rintro w2 rfl;exact zHI w2 ac n.follow U.follow (by rw[ok.fl];exact T) λx B=>lZ (ok.fs x B) av
 have aX:Hid (∀w1 u,Ints w1 (In w1) u (ints (zDg n.follow))->Grew w w1->Ca 128 #[u] w1 λe w'=>e=returned (pX w1.heap.size)/\SpAt w' w1.heap.size n.back/\Grew w w'):=λw1 u F C=>by
  refine(zCj w1 u (zDg n.follow) F (by rw[zEr,ok.fl];exact T) λx B=>?_).mono ?_
  ·obtain⟨q,bA,rfl⟩:=List.mem_map.1 B
   exact zIY _ _ _ (by rw[ok.fl];exact T)
  ·rintro e w2 ⟨rfl,D,J⟩
   rw[zEr] at D;exact⟨rfl,D,C.trans (J.lower C.size C.size)⟩
 have aY:Hid (∀w2 f,SpAt w2 f n.back->Grew w w2->Ca 171 #[iX (n.sets.length:Int)] w2 λe w'=>∃p,e=returned (pX p)/\SeIs w' w.heap.size p (jS n.sets.length) (λ_=>false)/\SpAt w' f n.back/\Grew w w'):=λw2 f af C=>by
  refine(zGX w2 n.sets.length T).mono ?_;rintro e s ⟨p,rfl,bB,⟨g,cap,ax⟩,K⟩;exact⟨p,rfl,⟨g,cap,ax.blk,ax.row.mono C.size⟩,af.keep (K.block f af.lt (kJ af.lt)),C.trans (K.lower C.size C.size)⟩
 have aZ:∀x:Nat,x<2^n.sets.length->x<64*jS n.sets.length:=λx B=>by unfold jS;omega
 have a0:jS n.sets.length<=1000000:=by unfold jS;omega
 have ag:Hid (∀s p f m u l,Tt w s f p (jS n.sets.length) n.back u l m->∀x:Nat,x<2^n.sets.length->Ca 172 #[pX p,iX (x:Int)] s λe w'=>e=returned (bool (!m x))/\Tt w w' f p (jS n.sets.length) n.back u l (λy=>y==x||m y)):=λs p f m u l A x B=>by
  refine(zGR s w.heap.size p (jS n.sets.length) m A.se a0 x (aZ x B)).mono ?_;rintro e M ⟨rfl,D,J⟩;exact⟨rfl,A.add J D⟩
 have a1:Hid (∀s p f m u l,Tt w s f p (jS n.sets.length) n.back u l m->∀x:Nat,x<16777216->Ca 92 #[pX f,iX (x:Int)] s λe w'=>e=returned (iX ((zAY n.back x:Nat):Int))/\Tt w w' f p (jS n.sets.length) n.back u l m):=λs p f m u l A x B=>by
  refine(zCt s f n.back A.sp (λi=>lZ (Nt.back_lt ae i) av) x B).mono ?_;rintro e M ⟨rfl,D⟩;exact⟨rfl,A.grown D⟩
 have a2:Hid (∀i,i<a.length->∃b o,aV=some ⟨b,o,none⟩/\In w b/\cX w b (o+i)=some (iX ((a.getD i 0:Nat):Int))/\a.getD i 0<16777216):=by
  obtain⟨bC,bD,a3,_,_,a4⟩:=ad;injection a3 with a5 _ _;subst a5;intro i ay;obtain⟨b,o,D,a6,J⟩:=a4 i (by rw[zO];exact ay);rw[jF] at J;exact⟨b,o,D,a6,J,au _ (zY _ i 0 ay)⟩
 have ah:Hid (∀l,Once (2^n.sets.length) l->l.length<=16777216/\∀x∈l,x<16777216):=λl a7=>Once.top ae a7;have az:=vl <| zJe _ _ (Nt.back_lt ae);have a8:Hid (Once (2^n.sets.length) [n.ends]):=⟨by simp,λx B=>by rw[kY.1 B];exact aw⟩
 have a9:Hid (n.tails a=zAo n.back a 16777216 0 [n.ends]):=rfl;rw[zO];have bE:n.ends<16777216:=by omega
 clear I ok ad au;go_in;go_wp2_with (first|(go_at_call 170;refine(aW _ rfl).mono ?_;rintro e w1 ⟨u,rfl,F,aA⟩;have ba:=vl F;clear F)|(go_at_call 128;refine(aX w1 u ba aA).mono ?_;rintro e w2 ⟨rfl,aB,ai⟩;have bb:=(U.grown ai).c0;clear aA)|(go_at_call 171;refine(aY w2 w1.heap.size aB ai).mono ?_;rintro e s ⟨p,rfl,aC,aD,K⟩;have y3:=(U.grown K).c3;have aE:Tt w s w1.heap.size p (jS n.sets.length) n.back (slice none 0 0) [] (λ_=>false):=⟨aD,aC,ownsRow_nil _ _ _ _,K⟩;clear bb ai aB)|(go_at_call 172;refine(ag s p w1.heap.size _ _ _ aE n.ends aw).mono ?_;rintro e M ⟨rfl,V⟩;have bc:=(U.grown V.keep).c3;clear y3))
 have aj:Hid (Tt w (M.alloc (Obj.cells #[Value.int IntKind.i32 (n.ends:Int)] 21)) w1.heap.size p (jS n.sets.length) n.back (slice (qX M.heap.size) 1 1) [n.ends] (λy=>[n.ends].contains y)):=by
  have ak:=V.grown (kZ M (Obj.cells #[Value.int IntKind.i32 (n.ends:Int)] 21) lQ);refine⟨ak.sp,?_,zN2 M w.heap.size n.ends V.keep.size,ak.keep⟩;have e:(λy=>[n.ends].contains y)=λy=>y==n.ends||false:=by funext y;by_cases e:y=n.ends <;> simp[e]
  rw[e];exact ak.se
 clear V aE aD aC K bc;generalize w1.heap.size=f at *;generalize jS n.sets.length=E at *;go_loopg [7,8] 16777216 (λk u i wr=>∃(j:Nat) (l:List Nat),k=16777216-j/\j<=l.length/\i=iX (j:Int)/\Tt w wr f p E n.back u l (λy=>l.contains y)/\Once (2^n.sets.length) l/\zAo n.back a 16777216 0 [n.ends]=zAo n.back a (16777216-j) j l)
 case atStart=>exact⟨0,[n.ends],rfl,lX,rfl,aj,a8,rfl⟩
 case round=>
  obtain⟨j,l,G,bF,rfl,A,O,Q⟩:=hrel;have W:Hid (gk=16777216-j/\Tt w wr f p E n.back u7 l (λy=>l.contains y)/\Once (2^n.sets.length) l/\zAo n.back a 16777216 0 [n.ends]=zAo n.back a (16777216-j) j l):=⟨G,A,O,Q⟩
  obtain⟨ao,cap,aF⟩:=zE A.own;have bG:=(ah l O).1;by_cases X:j<l.length
  ·have bd:(j:Int)<(l.length:Int):=by omega
   have be:Hid (zAo n.back a 16777216 0 [n.ends]=zAo n.back a (16777216-(j+1)) (j+1) (zBO n.back a (l.getD j 0) l a.length)):=by
    show _=_;rw[Q,show 16777216-j=(16777216-(j+1))+1 by omega];show(if j<l.length then _ else _)=_;rw[if_pos X]
   have am:Hid (∀k,l.length<=(zBO n.back a (l.getD j 0) l k).length/\(zBO n.back a (l.getD j 0) l k).getD j 0=l.getD j 0/\Once (2^n.sets.length) (zBO n.back a (l.getD j 0) l k)):=λk=>⟨(zJX _ _ _ _ k).1,(zJX _ _ _ _ k).2 j X,zHw az a _ O k⟩
   have bf:=(ah l O).2 _ (zY l j 0 X);subst aF;clear G A O Q aj;generalize bg:l.getD j 0=x at *;clear bg;go_wp2;go_loopg [7,44] a.length (λk u i wr=>∃t:Nat,k=a.length-t/\t<=a.length/\i=iX (t:Int)/\Tt w wr f p E n.back u (zBO n.back a x l t) (λy=>(zBO n.back a x l t).contains y))
   case atStart=>exact⟨0,rfl,lX,rfl,W.2.1⟩
   case round=>
    obtain⟨t,G,A,rfl,R⟩:=hrel;have Y:Hid (gk=a.length-t/\Tt w wr f p E n.back u7 (zBO n.back a x l t) (λy=>(zBO n.back a x l t).contains y)):=⟨G,R⟩
    by_cases bh:t<a.length
    ·have bi:(t:Int)<(a.length:Int):=by omega
     obtain⟨bj,bk,rfl,bl,aG,bH⟩:=a2 t bh;have bI:cX wr bj (bk+t)=some (iX ((a.getD t 0:Nat):Int)):=zA aG bl R.keep;obtain⟨bJ,aH,aI⟩:=am t;obtain⟨bK,aa,bm,bL,bM,aJ⟩:=zJD R.own;obtain⟨b2,ab,rfl,bN,bn⟩:=aJ j (by omega);rw[aH] at bn;have bO:(j:Int)<((zBO n.back a x l t).length:Int):=by omega
     have aK:Hid (zBO n.back a x l (t+1)=zII (zBO n.back a x l t) (zAY n.back (x&&&a.getD t 0))):=rfl;have bP:=(ah _ aI).1;clear G R aG aJ am aH aI;generalize zBO n.back a x l t=c at *;generalize a.getD t 0=r at *;have bQ:bits .and i64 (x:Int) (r:Int)=((x&&&r:Nat):Int):=qT _ _ (by omega) (by omega);have bo:x&&&r<16777216:=Nat.lt_of_le_of_lt Nat.and_le_left bf;generalize x&&&r=y at *;have aL:=az y;have aM:=vl <| a1 wr p f _ _ _ Y.2 y bo;generalize zAY n.back y=d at *;have bR:d<16777216:=by omega
     subst bm;cases H:c.contains d with
     |true=>
      have an:Hid (∀v,Tt w v f p E n.back (slice (some ⟨b2,ab,none⟩) c.length aa) c (λy=>c.contains y)->Ca 172 #[pX p,iX (d:Int)] v λe w'=>e=returned (bool false)/\Tt w w' f p E n.back (slice (some ⟨b2,ab,none⟩) c.length aa) c (λy=>y==d||c.contains y)):=λv ap=>by
       have:=ag v p f _ _ _ ap d aL;rw[H] at this;exact this
      have S:Hid (zBO n.back a x l (t+1)=c/\(λy=>y==d||c.contains y)=λy=>c.contains y):=⟨by rw[aK.out];unfold zII;rw[if_pos H],by
       funext y
       by_cases e:y=d
       ·rw[e,H];simp
       ·rw[show (y==d)=false by simp[e]];rfl⟩
      clear H;go_wp2_with (first|(go_at_call 92;refine aM.mono ?_;rintro e v ⟨rfl,aq⟩)|(go_at_call 172;refine(an v aq).mono ?_;rintro e aN ⟨rfl,P⟩))
      go_roundg (a.length-(t+1))
      case measure=>rw[Y.out.1];omega
      case rel=>
       rw[S.out.2] at P;exact⟨t+1,rfl,by omega,by go_num,by rw[S.out.1];exact P⟩
     |false=>
      have an:Hid (∀v,Tt w v f p E n.back (slice (some ⟨b2,ab,none⟩) c.length aa) c (λy=>c.contains y)->Ca 172 #[pX p,iX (d:Int)] v λe w'=>e=returned (bool true)/\Tt w w' f p E n.back (slice (some ⟨b2,ab,none⟩) c.length aa) c (λy=>y==d||c.contains y)):=λv ap=>by
       have:=ag v p f _ _ _ ap d aL;rw[H] at this;exact this
      have S:Hid (zBO n.back a x l (t+1)=c++[d]/\(λy=>y==d||c.contains y)=λy=>(c++[d]).contains y):=⟨by rw[aK.out];unfold zII;rw[if_neg (by rw[H];decide)],by
       funext y
       rw[List.contains_append];by_cases e:y=d
       ·simp[e]
       ·simp[e]⟩
      clear H;go_wp2_with (first|(go_at_call 92;refine aM.mono ?_;rintro e v ⟨rfl,aq⟩)|(go_at_call 172;refine(an v aq).mono ?_;rintro e aN ⟨rfl,P⟩;have bp:=P.own;have bS:=P.keep.size)|(at_builtin;refine wpList_append_lies _ rfl _ _ 174 rfl (w.heap.size) 21 aQ (int .i32 0) 1 4 underlying174 aR aS aT aU rfl (by decide) _ _ _ rfl (bp.alloc _) ⟨aN.heap.size,0,none⟩ 1 1 [int .i32 (d:Int)] rfl rfl (cell_one_new _ _ _) (by intro u F;simp at F;subst F;rfl) (by decide) (by unfold maxLen;omega) (by omega) (by simp;omega) _ rfl ?_;intro bT bU bV bq br bW bX;have aO:=P.app bq br))
      go_roundg (a.length-(t+1))
      case measure=>rw[Y.out.1];omega
      case rel=>
       rw[S.out.2] at aO;exact⟨t+1,rfl,by omega,by go_num,by rw[S.out.1];exact aO⟩
    ·have bi:(a.length:Int)<=(t:Int):=by omega
     have e:t=a.length:=by omega
     subst e;have ar:=am a.length;clear G R;go_wp2;go_roundg (16777216-(j+1))
     case measure=>rw[W.out.1];omega
     case rel=>exact⟨j+1,_,rfl,by omega,by go_num,Y.2,ar.2.2,be⟩
  ·have bd:(l.length:Int)<=(j:Int):=by omega
   have ar:Hid (n.tails a=l):=by
    show _=_;rw[a9.out,Q];cases 16777216-j with
    |zero=>rfl
    |succ k=>
     show(if j<l.length then _ else _)=_;rw[if_neg X]
   subst aF;clear G A O Q aj;go_wp2;go_ret;exact⟨_,rfl,by rw[ar.out];exact zJD W.2.1.own,W.2.1.keep⟩
section
structure Ar.Good (a:Ar)(k:Nat):Prop where
 sets:∀x∈a.sets,0<=x/\x<((2^k:Nat):Int)
 letters:∀x∈a.letters,0<=x/\x<(a.sets.length:Int)
 lens:a.lows.length=a.letters.length
theorem Ar.look_lt (a:Ar)(x:Int):a.look x<(a.seen x).sets.length:=by
 unfold Ar.seen;split
 ·assumption
 ·have:a.look x<=a.sets.length:=List.findIdx_le_length
  simp;omega
theorem Ar.seen_good {a:Ar}{k:Nat}(c:a.Good k)(x:Int)(f:0<=x/\x<((2^k:Nat):Int)):(a.seen x).Good k:=by
 unfold Ar.seen;split
 ·exact c
 ·refine⟨λy d=>?_,λy d=>?_,c.lens⟩
  ·rcases kU.1 d with e|e
   ·exact c.sets y e
   ·rw[kY.1 e];exact f
  ·have:=c.letters y d
   simp;omega
theorem Ar.step_good (sets:List Cs){a:Ar}(f:a.Good sets.length)(low:Int):(a.step sets low).Good sets.length/\0<(a.step sets low).lows.length:=by
 have k:=zBS (zBh sets low) sets.length;have g:(0:Int)<=(vJ sets low:Nat)/\((vJ sets low:Nat):Int)<((2^sets.length:Nat):Int):=by
  unfold vJ;omega
 have c:=Ar.seen_good f _ g;have l:=a.look_lt (vJ sets low:Nat);unfold Ar.step;split
 ·refine⟨⟨c.sets,λy i=>?_,?_⟩,by simp⟩
  ·rcases kU.1 i with d|d
   ·exact c.letters y d
   ·rw[kY.1 d]
    exact⟨by omega,by show _<(((a.seen _).sets.length:Nat):Int);omega⟩
  ·have:=c.lens
   simp;omega
 ·rename_i j
  refine⟨c,?_⟩;have m:=c.lens;apply Nat.pos_of_ne_zero;intro e;apply j;unfold Ar.turns;rw[show (a.seen (vJ sets low)).letters.length=0 by omega];rfl
theorem zJA (sets:List Cs)(j:Nat)(e:j<=(xX sets).length):(vS sets j).Good sets.length/\(0<j->0<(vS sets j).lows.length):=by
 induction j with
 |zero=>exact⟨⟨λx c=>absurd c (List.not_mem_nil),λx c=>absurd c (List.not_mem_nil),rfl⟩,λa=>absurd a (Nat.lt_irrefl _)⟩
 |succ j d=>
  have a:=Ar.step_good sets (d (by omega)).1 ((xX sets).getD j 0);rw[zCx sets j (by omega)];exact⟨a.1,λ_=>a.2⟩
theorem zNt (sets:List Cs):(xX sets).length=4+2*yR sets:=zGF sets _
theorem zB5 (sets:List Cs):(yN sets).Good sets.length/\0<(yN sets).lows.length/\(yN sets).lows.length<=4+2*yR sets/\(yN sets).sets.length<=4+2*yR sets:=by
 have a:=zJA sets (xX sets).length lQ;have c:=zD2 sets (xX sets).length lQ;rw[zGc sets _ lQ] at a c;have:=zNt sets;exact⟨a.1,a.2 (by omega),by omega,by omega⟩
def Ar.setsN (a:Ar):List Nat:=a.sets.map Int.toNat
theorem Ar.setsN_ints {a:Ar}{k:Nat}(c:a.Good k):a.sets=ints a.setsN:=by
 unfold ints Ar.setsN;rw[List.map_map]
 conv=>lhs;rw[<-List.map_id a.sets]
 apply List.map_congr_left;intro x d;have:=c.sets x d;show x=((x.toNat:Nat):Int);omega
theorem Ar.setsN_lt {a:Ar}{k:Nat}(c:a.Good k):∀x∈a.setsN,x<2^k:=by
 intro x d;obtain⟨y,e,rfl⟩:=List.mem_map.1 d;have:=c.sets y e;omega
theorem Ar.setsN_len (a:Ar):a.setsN.length=a.sets.length:=kV ..
def Nt.areas (n:Nt):Ar:=yN n.sets
def Nt.letters (n:Nt):List Nat:=n.areas.setsN
def Nt.ahead (n:Nt):Nat->Nat:=spF n.follow n.follow.length
structure Nm (w w':World)(q b:Nat)(n:Nt)(sv fv rv ev lv tv av:Value):Prop where
 net:NetAt w' q n sv fv rv ev
 blk:w'.heap[b]? =some (.cells #[lv,tv,av] 172)
 ar:ArAt w' lv tv av n.areas
 keep:Grew w w'
section
variable {w w1 w2:World} {q b:Nat} {n:Nt} {sv fv rv ev lv tv av:Value}
theorem Nm.grown (a:Nm w w1 q b n sv fv rv ev lv tv av)(c:Grew w1 w2):Nm w w2 q b n sv fv rv ev lv tv av:=by
 have d:=(kQ.1 a.blk).1;exact⟨a.net.grown c,(c.block b d (kJ d)).trans a.blk,a.ar.grown c,a.keep.trans (c.lower a.keep.size a.keep.size)⟩
theorem Nm.drew (a:Nm w w1 q b n sv fv rv ev lv tv av):Nm w w1.drew q b n sv fv rv ev lv tv av:=a.grown (Keep.drew _)
theorem Nm.cells (a:Nm w w1 q b n sv fv rv ev lv tv av):w1.cell? ⟨b,0,none⟩=some lv/\w1.cell? ⟨b,1,none⟩=some tv/\w1.cell? ⟨b,2,none⟩=some av:=by
 refine⟨?_,?_,?_⟩
 all_goals (unfold cell?;rw[a.blk];rfl)
end
end
structure Nt.Fits (n:Nt):Prop where
 few:yR n.sets<=10000000000
 small:∀s∈n.sets,s.Small
theorem zFm (w:World)(q:Nat)(n:Nt)(sv i rv v:Value)(K:NetAt w q n sv i rv v)(ok:n.Ok)(fit:n.Fits):
  Calls prog 90 #[pX q] w λe w'=>∃p s,e=returned (pX p)/\(s.rules=n.rules/\s.tails=n.tails n.letters/\s.sets=n.letters/\s.q=q)/\SoAt w' (λg=>g<w'.heap.size/\g≠p) p s ⟨[],[]⟩ (slice none 0 0) (slice none 0 0)/\ArAt w' s.lv s.tv s.sv n.areas/\SpAt w' s.f n.ahead/\s.f≠p/\w.heap.size<=p/\Grew w w':=by
 have R:=ok.len;have L:=ok.top;have ah:=K.c0;have ai:=vl K;have z:Hid n.Ok:=ok;have aw:=fit.few;have S:Hid (Ca 127 #[sv] w λe w'=>∃lv tv sv,e=returned (agg #[lv,tv,sv])/\ArAt w' lv tv sv (yN n.sets)/\Grew w w'):=zKY w sv n.sets K.sets R (by omega) fit.small;have M:Hid (n.areas.Good n.sets.length):=(zB5 n.sets).1;have aj:n.areas.sets.length<=1000000000000:=by have:=(zB5 n.sets).2.2.2;show(yN n.sets).sets.length<=_;omega
 have ak:Hid (∀b lv tv k w1,Nm w w1 q b n sv i rv v lv tv k->Ca 128 #[i] w1 λe w'=>∃f,e=returned (pX f)/\SpAt w' f n.ahead/\f≠b/\Nm w w' q b n sv i rv v lv tv k/\Grew w1 w'):=λb lv tv k w1 a=>by
  refine(zCj w1 i n.follow a.net.follow (by rw[z.out.fl];exact R) λx t=>lZ (z.fs x t) L).mono ?_;rintro e w2 ⟨rfl,Q,E⟩;have ax:=(kQ.1 a.blk).1;exact⟨_,rfl,Q,by omega,a.grown E,E⟩
 have am:Hid (∀b lv tv k w1,Nm w w1 q b n sv i rv v lv tv k->Ca 129 #[pX q,k] w1 λe w'=>∃u,e=returned u/\I32s w' (In w') u (n.tails n.letters)/\Nm w w' q b n sv i rv v lv tv k/\Grew w1 w'):=λb lv tv k w1 a=>by
  have T:=a.ar.sets;rw[Ar.setsN_ints M.out] at T;refine(zGP w1 q n sv i rv v a.net z k n.letters T (by show n.areas.setsN.length<=_;rw[Ar.setsN_len];exact aj) λx t=>lZ (Ar.setsN_lt M x t) L).mono ?_;rintro e w2 ⟨u,rfl,Q,E⟩;exact⟨u,rfl,Q,a.grown E,E⟩
 clear K ok fit;go_in;go_wp2_with (first|(go_at_call 127;refine S.mono ?_;rintro e w1 ⟨lv,tv,k,rfl,F,U⟩;obtain⟨l,m,rfl,-⟩:=id F.lows;obtain⟨at_,o,rfl,-⟩:=id F.letters;obtain⟨as_,cs,rfl,-⟩:=id F.sets;have A:Hid (ArAt w1 (slice l (yN n.sets).lows.length m) (slice at_ (yN n.sets).letters.length o) (slice as_ (yN n.sets).sets.length cs) (yN n.sets)/\Grew w w1):=⟨F,U⟩;clear F))
 obtain⟨w2,V,N⟩:∃w2,w2=w1.alloc (Obj.cells #[Value.slice l (yN n.sets).lows.length m,Value.slice at_ (yN n.sets).letters.length o,Value.slice as_ (yN n.sets).sets.length cs] 172)/\Hid (Nm w w2 q w1.heap.size n sv i rv v (slice l (yN n.sets).lows.length m) (slice at_ (yN n.sets).letters.length o) (slice as_ (yN n.sets).sets.length cs)):=by
  have W:=kZ (b:=w1.heap.size) w1 (Obj.cells #[Value.slice l (yN n.sets).lows.length m,Value.slice at_ (yN n.sets).letters.length o,Value.slice as_ (yN n.sets).sets.length cs] 172) lQ;have X:=A.2.trans (W.lower (c:=w.heap.size) A.2.size A.2.size);exact⟨_,rfl,⟨ai.grown X,gX _ _,A.1.grown W,X⟩⟩
 rw[<-V];have ay:w.heap.size<=w1.heap.size:=A.2.size;clear V A U ah S;obtain⟨az,aA,aB⟩:=N.cells;have y3:=N.net.c1;generalize w1.heap.size=b at *;generalize (yN n.sets).lows.length=B at *;generalize (yN n.sets).letters.length=C at *;generalize (yN n.sets).sets.length=D at *;go_region_held3 (λw'=>cX w' b 0=some (slice l B m)/\cX w' b 1=some (slice at_ C o)/\cX w' b 2=some (slice as_ D cs)/\cX w' q 1=some i) (first|exact⟨Y,aa,ab,ac⟩|go_keep) (first|(go_at_call 128;go_must ((refine (ak _ _ _ _ _ (by first|exact G|exact N.drew)).mono ?_;rintro e aC ⟨f,rfl,y,aD,O,an⟩;obtain⟨Y,aa,ab⟩:=O.cells;have ac:=O.net.c1)))|(go_at_call 129;go_must ((refine (am _ _ _ _ _ (by first|exact O|exact N.drew)).mono ?_;rintro e d ⟨tl,rfl,H,G,ad⟩;obtain⟨I,J,rfl,-⟩:=id H;obtain⟨Y,aa,ab⟩:=G.cells;have ac:=G.net.c1))));have ao:Hid (SpAt d f n.ahead/\Nm w d q b n sv i rv v (slice l B m) (slice at_ C o) (slice as_ D cs)/\I32s d (In d) (slice I (n.tails n.letters).length J) (n.tails n.letters)):=⟨y.keep (ad.block f y.lt (kJ y.lt)),G,H⟩
 clear y O an G ad H;go_wp2;go_ret;obtain⟨y,a,H⟩:=ao;have ap:=kZ (b:=d.heap.size) d (Obj.cells #[Value.pointer (qX q),Value.slice l B m,Value.slice at_ C o,Value.slice as_ D cs,Value.pointer (qX f),Value.slice I (n.tails n.letters).length J,Value.slice none 0 0,Value.slice none 0 0] 176) lQ;have P:∀g,In d g->g<(d.alloc (Obj.cells #[Value.pointer (qX q),Value.slice l B m,Value.slice at_ C o,Value.slice as_ D cs,Value.pointer (qX f),Value.slice I (n.tails n.letters).length J,Value.slice none 0 0,Value.slice none 0 0] 176)).heap.size/\g≠d.heap.size:=λg j=>by
  have:g<d.heap.size:=j;simp;omega
 have e:∀g,In d g->(d.alloc (Obj.cells #[Value.pointer (qX q),Value.slice l B m,Value.slice at_ C o,Value.slice as_ D cs,Value.pointer (qX f),Value.slice I (n.tails n.letters).length J,Value.slice none 0 0,Value.slice none 0 0] 176)).heap[g]? =d.heap[g]? :=λg j=>lG _ _ _ j;have ae:=Once.top z (Nt.tails_once z n.letters);have af:=a.grown ap;have ag:=a.ar.sets;rw[Ar.setsN_ints M.out] at ag;refine⟨d.heap.size,⟨n.rules,n.tails n.letters,n.letters,q,f,slice l B m,slice at_ C o,slice as_ D cs,slice I (n.tails n.letters).length J,rv⟩,rfl,⟨rfl,rfl,rfl,rfl⟩,?_,af.ar,y.keep (e f y.lt),kJ y.lt,a.keep.size,af.keep⟩;exact⟨gX _ _,OwnI.nil _ _,OwnI.nil _ _,λg j=>(by cases j),λg _ j=>(by cases j),λg _ j=>(by cases j),λaq=>aq.2 rfl,λg j=>j.1,by simp,(gZ (e q a.net.lq)).trans a.net.c4,P q a.net.lq,(a.net.rules.keep e).mono P,z.eight,λr au=>lZ (z.rs r au) L,(H.keep e).mono P,ae.2,ae.1,(ag.keep e).mono P,λx t=>lZ (Ar.setsN_lt M x t) L,λx t=>absurd t List.not_mem_nil,λx t=>absurd t List.not_mem_nil⟩
def zCk (rows:List (List Int))(rules:List Int)(next:List Int)(i:Nat):Bool:=rules.getD i 0== -1&&decide (rows.getD i []=next)
def zAW (rows:List (List Int))(rules:List Int)(next:List Int):Nat:=(List.range rows.length).findIdx (zCk rows rules next)
theorem vK (n j:Nat)(a:j<n):(List.range n).getD j 0=j:=by
 rw[lW,List.getElem?_range a];rfl
theorem zPd (rows:List (List Int))(rules next:List Int)(j:Nat)(a:j<rows.length)(b:zCk rows rules next j=true)(c:∀i,i<j->zCk rows rules next i=false):zAW rows rules next=j:=
 zEd _ _ j (by rw[List.length_range];exact a) (by rw[vK _ _ a];exact b) λi d=>by rw[vK _ _ (by omega)];exact c i d
theorem zMY (rows:List (List Int))(rules next:List Int)(c:∀i,i<rows.length->zCk rows rules next i=false):zAW rows rules next=rows.length:=by
 have b:=zBP (List.range rows.length) (zCk rows rules next) λi a=>by
  rw[List.length_range] at a;rw[vK _ _ a];exact c i a
 rw[List.length_range] at b;exact b
theorem zL1 (rows:List (List Int))(rules next:List Int):zAW rows rules next<=rows.length:=by
 have a:(List.range rows.length).findIdx (zCk rows rules next)<=(List.range rows.length).length:=List.findIdx_le_length;rw[List.length_range] at a;exact a
theorem zLc (w:World)(kb:Nat)(s rv tv:Value)(rows:List (List Int))(rules next:List Int)(t:kb<w.heap.size)(C:w.cell? ⟨kb,3,none⟩=some s)(v:w.cell? ⟨kb,4,none⟩=some rv)(D:IntRows w (In w) s rows)(E:Ints w (In w) rv rules)(F:rules.length=rows.length)(aa:rows.length<=1000000000000)(G:Ints w (In w) tv next)(H:∀r∈rows,r.length<=1000000000000):
  Calls prog 95 #[pX kb,tv] w λe w'=>e=returned (iX ((zAW rows rules next:Nat):Int))/\Grew w w':=by
 obtain⟨ab,ac,rfl,_,_,I⟩:=D;obtain⟨ad,ae,rfl,_,_,x⟩:=E;rw[F] at v x;have J:=vl I;have K:=vl x;have L:Hid (∀wr u i,i<rows.length->Grew w wr->Ints w (In w) u (rows.getD i [])->Ca 132 #[u,tv] wr λe w'=>e=returned (bool (decide (rows.getD i []=next)))/\Grew w w'):=λwr u i g f l=>by
  refine(zJ2 wr u tv _ next (l.grown f) (G.grown f) (H _ (zY _ _ _ g))).mono ?_;rintro e w2 ⟨rfl,M⟩;exact⟨rfl,f.trans (M.lower f.size f.size)⟩
 have N:=vl <| zPd rows rules next
 have O:=vl <| zMY rows rules next
 go_in;go_wp2;go_loopg [12] rows.length (λk i wr=>∃j:Nat,k=rows.length-j/\j<=rows.length/\i=iX (j:Int)/\(∀i,i<j->zCk rows rules next i=false)/\Grew w wr)
 case atStart=>exact⟨0,rfl,lX,rfl,λi g=>by omega,⟨rfl,rfl,lQ,λ_ _ _=>rfl⟩⟩
 case round=>
  obtain⟨j,P,af,rfl,y,b⟩:=hrel;have c:Hid (gk=rows.length-j/\(∀i,i<j->zCk rows rules next i=false)/\Grew w wr):=⟨P,y,b⟩
  have ag:=zA C t b;have ah:=zA v t b;by_cases m:j<rows.length
  ·have Q:(j:Int)<(rows.length:Int):=by omega
   obtain⟨ai,aj,u,rfl,R,S,l⟩:=J j m;obtain⟨b2,ak,rfl,T,U⟩:=K j m;obtain⟨al,am,V,-⟩:=id l;have ao:=zA S R b;have ap:=zA U T b;have z:=vl <| L wr u j m b l;have o:Hid (zCk rows rules next j=(rules.getD j 0== -1&&decide (rows.getD j []=next))):=rfl;have W:Hid (zCk rows rules next j=true->zAW rows rules next=j):=λp=>N j m p c.2.1;have A:Hid (zCk rows rules next j=false->∀i,i<j+1->zCk rows rules next i=false):=λp i g=>by
    by_cases e:i=j
    ·rw[e];exact p
    ·exact c.2.1 i (by omega)
   generalize (rows.getD j []).length=aq at *;subst V;generalize decide (rows.getD j []=next)=d at *;generalize rules.getD j 0=r at *;by_cases B:r=-1
   ·subst B
    cases d with
    |true=>
     have a:=vl <| W (by rw[o.out];rfl);go_wp2_with (first|(go_at_call 132;refine z.mono ?_;rintro e X ⟨rfl,q⟩))
     go_ret;exact⟨by rw[a.out];rfl,q⟩
    |false=>
     have a:=vl <| A (by rw[o.out];rfl);go_wp2_with (first|(go_at_call 132;refine z.mono ?_;rintro e X ⟨rfl,q⟩))
     go_roundg (rows.length-(j+1))
     case measure=>rw[c.out.1];omega
     case rel=>exact⟨j+1,rfl,by omega,by go_num,a,q⟩
   ·have Y:(r== -1)=false:=by simp[B]
    have a:=vl <| A (by rw[o.out,Y];rfl);go_wp2;go_roundg (rows.length-(j+1))
    case measure=>rw[c.out.1];omega
    case rel=>exact⟨j+1,rfl,by omega,by go_num,a,c.2.2⟩
  ·have Q:(rows.length:Int)<=(j:Int):=by omega
   have a:=vl <| O λi g=>y i (by omega);go_wp2;go_ret;exact⟨by rw[a.out];rfl,c.2.2⟩
section
theorem SoY.set {w:World}{X m:Nat->Prop}{p b i:Nat}{s:Sq}{d:Sf}{x:Value}(a:SoY w X m p s d)(r:m b)(t:¬X b):SoY (w.setCell ⟨b,i,none⟩ x) X m p s d:=by
 obtain⟨v,y,a,q⟩:=a;obtain⟨C,z,A,B⟩:=q b r;have e:∀k,k≠b->(w.setCell ⟨b,i,none⟩ x).heap[k]? =w.heap[k]? :=λk c=>lJ _ _ _ _ c;have j:∀k,X k->(w.setCell ⟨b,i,none⟩ x).heap[k]? =w.heap[k]? :=λk c=>e k λf=>t (f ▸ c);exact⟨v,y,⟨(e p (Ne.symm z)).trans a.blk,zD a.own1 λk _ _ c=>e k λf=>A (by rw[c,f]),zD a.own2 λk _ _ c=>e k λf=>B (by rw[c,f]),a.ne,a.xf,a.xm,a.xp,λg o=>by rw[zC];exact a.xl g o,by rw[zC];exact a.lp,(gZ (j _ a.xq)).trans a.net,a.xq,a.rls.keep j,a.eight,a.rsm,a.tls.keep j,a.tsm,a.tlen,a.sts.keep j,a.ssm,a.fsm,a.msm⟩,λg o=>by rw[zC];exact q g o⟩
structure Kw (w1 w:World)(H p kb:Nat)(Z:Nat->Prop)(s:Sq)(d:Sf)(lv tv sv nv rv u8:Value)(us:Nat->Value)(rows:List (List Nat))(rules:List Int)(start:List Nat)(st dd:Int):Prop where
 blk:w.heap[kb]? =some (.cells #[lv,tv,sv,nv,rv,int i64 st,int i64 dd] 178)
 nOwn:Row w H 45 nv rows.length us
 each:∀i,i<rows.length->Ints w Z (us i) (ints (rows.getD i []))
 rOwn:OwnI w H rv rules
 stA:Ints w Z u8 (ints start)
 zr:∀g,Z g->some g≠rv.ownBlock
 zn:∀g,Z g->some g≠nv.ownBlock
 zk:∀g,Z g->g≠kb
 zH:∀g,Z g->H<=g
 so:SoY w (λg=>g<H/\g≠p) (λg=>Z g\/g=kb\/some g=nv.ownBlock\/some g=rv.ownBlock) p s d
 kbH:H<=kb
 keep:KeepX (λg=>g<H/\g≠p) w1 w
section
variable {w1 w w2:World} {H p kb:Nat} {Z:Nat->Prop} {s:Sq} {d d':Sf} {lv tv sv nv rv u8 u:Value} {us:Nat->Value} {rows:List (List Nat)} {rules:List Int} {start l:List Nat} {st dd:Int}
theorem Kw.zl (a:Kw w1 w H p kb Z s d lv tv sv nv rv u8 us rows rules start st dd):∀g,Z g->g<w.heap.size:=by
 obtain⟨e,f,_,b⟩:=a.so;exact λg c=>(b g (.inl c)).1
theorem Kw.kl (a:Kw w1 w H p kb Z s d lv tv sv nv rv u8 us rows rules start st dd):kb<w.heap.size:=(kQ.1 a.blk).1
theorem Kw.cells (a:Kw w1 w H p kb Z s d lv tv sv nv rv u8 us rows rules start st dd):w.cell? ⟨kb,3,none⟩=some nv/\w.cell? ⟨kb,4,none⟩=some rv/\w.cell? ⟨kb,5,none⟩=some (iX st)/\w.cell? ⟨kb,6,none⟩=some (iX dd)/\∀i,w.frozen? ⟨kb,i,none⟩=false:=by
 refine⟨?_,?_,?_,?_,λi=>?_⟩
 all_goals first|(unfold cell?;rw[a.blk];rfl)|(unfold frozen?;rw[a.blk];simp)
theorem Kw.nbox (a:Kw w1 w H p kb Z s d lv tv sv nv rv u8 us rows rules start st dd):some kb≠nv.ownBlock/\some kb≠rv.ownBlock:=⟨zM a.nOwn a.blk (by decide),zM a.rOwn a.blk (by decide)⟩
theorem Kw.call {m:Nat->Prop}(a:Kw w1 w H p kb Z s d lv tv sv nv rv u8 us rows rules start st dd)(j:KeepX (λg=>(g<H/\g≠p)\/(Z g\/g=kb\/some g=nv.ownBlock\/some g=rv.ownBlock)) w w2)(q:∀g,Z g->m g)(o:∀g,m g->Z g\/w.heap.size<=g)(t:SoY w2 (λg=>g<H/\g≠p) (λg=>m g\/g=kb\/some g=nv.ownBlock\/some g=rv.ownBlock) p s d'):Kw w1 w2 H p kb m s d' lv tv sv nv rv u8 us rows rules start st dd:=by
 have r:∀b,Z b->w2.heap[b]? =w.heap[b]? :=λb v=>j.block b (.inr (.inl v));have y:=lY a.kbH (Nat.le_of_lt a.kl);refine⟨(j.block kb (.inr (.inr (.inl rfl)))).trans a.blk,zD a.nOwn λg _ _ c=>j.block g (.inr (.inr (.inr (.inl c.symm)))),λi x=>((a.each i x).keep r).mono q,zD a.rOwn λg _ _ c=>j.block g (.inr (.inr (.inr (.inr c.symm)))),(a.stA.keep r).mono q,λg c=>?_,λg c=>?_,λg c=>?_,λg c=>?_,t,a.kbH,a.keep.trans (j.mono λk j=>.inl j)⟩
 ·rcases o g c with f|f
  ·exact a.zr g f
  ·intro e;have:=(a.rOwn.lt g e.symm).2;omega
 ·rcases o g c with f|f
  ·exact a.zn g f
  ·intro e;have:=(a.nOwn.lt g e.symm).2;omega
 ·rcases o g c with f|f
  ·exact a.zk g f
  ·have:=a.kl;omega
 ·rcases o g c with f|f
  ·exact a.zH g f
  ·omega
theorem Kw.grown (a:Kw w1 w H p kb Z s d lv tv sv nv rv u8 us rows rules start st dd)(b:Grew w w2):Kw w1 w2 H p kb Z s d lv tv sv nv rv u8 us rows rules start st dd:=by
 obtain⟨m,o,i,c⟩:=id a.so;refine a.call (b.kx λk j=>?_) (λ_ a=>a) (λ_ a=>.inl a) (a.so.grown b λg f=>⟨lZ (c g f).1 b.size,.inl f⟩);have:=j.elim (i.xl k) λe=>(c k e).1;omega
theorem Kw.setC {i:Nat}{x:Value}{m o:Int}(a:Kw w1 w H p kb Z s d lv tv sv nv rv u8 us rows rules start st dd)(c:(w.setCell ⟨kb,i,none⟩ x).heap[kb]? =some (.cells #[lv,tv,sv,nv,rv,iX m,iX o] 178)):Kw w1 (w.setCell ⟨kb,i,none⟩ x) H p kb Z s d lv tv sv nv rv u8 us rows rules start m o:=by
 have e:∀k,k≠kb->(w.setCell ⟨kb,i,none⟩ x).heap[k]? =w.heap[k]? :=λk q=>lJ _ _ _ _ q;have r:=a.nbox;have v:=a.kbH;exact⟨c,zD a.nOwn λg _ _ j=>e g λf=>r.1 (by rw[j,f]),λi t=>(a.each i t).keep λb c=>e b (a.zk b c),zD a.rOwn λg _ _ j=>e g λf=>r.2 (by rw[j,f]),a.stA.keep λb c=>e b (a.zk b c),a.zr,a.zn,a.zk,a.zH,a.so.set (.inr (.inl rfl)) (λf=>by omega),a.kbH,a.keep.trans ⟨rfl,rfl,by rw[zC];exact lQ,λk q=>e k (by omega)⟩⟩
theorem Kw.setStart (a:Kw w1 w H p kb Z s d lv tv sv nv rv u8 us rows rules start st dd)(x:Int):Kw w1 (w.setCell ⟨kb,5,none⟩ (iX x)) H p kb Z s d lv tv sv nv rv u8 us rows rules start x dd:=a.setC (by simp[setCell,lU,a.blk])
theorem Kw.setDead (a:Kw w1 w H p kb Z s d lv tv sv nv rv u8 us rows rules start st dd)(x:Int):Kw w1 (w.setCell ⟨kb,6,none⟩ (iX x)) H p kb Z s d lv tv sv nv rv u8 us rows rules start st x:=a.setC (by simp[setCell,lU,a.blk])
theorem Kw.start_of (a:Kw w1 w H p kb Z s d lv tv sv nv rv u8 us rows rules start st dd)(b:Ints w Z u (ints l)):Kw w1 w H p kb Z s d lv tv sv nv rv u us rows rules l st dd:={a with stA:=b}
theorem Kw.snocN {o:Obj}{g cap m:Nat}(a:Kw w1 w H p kb Z s d lv tv sv nv rv u8 us rows rules start st dd)(E:m=rows.length)(F:Ints w Z u (ints l))(C:w2.ownsRow H 45 1 (slice (qX g) (m+1) cap) (m+1) ((List.range m).map us++[u]))(q:(w.alloc o).grownBy w2 nv.ownBlock)(x:nv.ownBlock=some g\/w.heap.size<=g):
  Kw w1 (w2.setCell ⟨kb,3,none⟩ (slice (qX g) (m+1) cap)) H p kb Z s d lv tv sv (slice (qX g) (m+1) cap) rv u8 (λi=>if i=m then u else us i) (rows++[l]) rules start st dd:=by
 subst E;have G:=a.kl;have Q:=a.kbH;have y:=a.nbox;have z:∀j,j<w.heap.size->some j≠nv.ownBlock->w2.heap[j]? =w.heap[j]? :=λj R I=>(q.block j (by simp;omega) I).trans (lG _ _ _ (by omega));have J:=(z kb G y.1).trans a.blk;have K:w.heap.size<=w2.heap.size:=lY (by simp) q.size;have e:∀k,k≠kb->(w2.setCell ⟨kb,3,none⟩ (slice (qX g) (rows.length+1) cap)).heap[k]? =w2.heap[k]? :=λk b=>lJ _ _ _ _ b;have A:∀k,Z k->(w2.setCell ⟨kb,3,none⟩ (slice (qX g) (rows.length+1) cap)).heap[k]? =w.heap[k]? :=λk b=>(e k (a.zk k b)).trans (z k (a.zl k b) (a.zn k b));have S:kb≠g:=λc=>by
  rcases x with r|r
  ·exact y.1 (by rw[r,c])
  ·omega
 have L:=zQ q a.rOwn λk b=>yC a.rOwn a.nOwn (by decide) b;have M:=(C.lt g rfl).2;have N:SoY w2 (λg=>g<H/\g≠p) (λk=>Z k\/k=kb\/some k=(Value.slice (qX g) (rows.length+1) cap).ownBlock\/some k=rv.ownBlock) p s d:=by
  refine a.so.app (v:=nv) (λk b=>⟨.inr (.inr (.inl b)),λc=>by have:=(a.nOwn.lt k b.symm).1;omega⟩) q x M λk b=>?_;rcases b with f|f|f|f
  ·exact .inl (.inl f)
  ·exact .inl (.inr (.inl f))
  ·exact .inr (by simpa[Value.ownBlock] using f)
  ·exact .inl (.inr (.inr (.inr f)))
 refine⟨by simp[setCell,lU,J],?_,λi B=>?_,zD L λk _ _ b=>e k λc=>y.2 (by rw[b,c]),a.stA.keep A,a.zr,λk b c=>?_,a.zk,a.zH,N.set (.inr (.inl rfl)) (λc=>by omega),a.kbH,a.keep.trans ⟨q.os,q.output,by rw[zC];exact K,λk b=>(e k (by omega)).trans (z k (by omega) λc=>by have:=(a.nOwn.lt k c.symm).1;omega)⟩⟩
 ·have O:Row w2 H 45 (slice (qX g) (rows.length+1) cap) (rows.length+1) (λi=>if i=rows.length then u else us i):=by
   unfold Row;rw[xP];rw[show (List.range rows.length).map (λi=>if i=rows.length then u else us i)=(List.range rows.length).map us from List.map_congr_left λi B=>by rw[if_neg (by have:=List.mem_range.1 B;omega)]];rw[if_pos rfl];exact C
  have t:(rows++[l]).length=rows.length+1:=by simp
  rw[t];exact zD O λk _ _ b=>e k λc=>by
   have:g=k:=by simpa[Value.ownBlock] using b
   omega
 ·by_cases t:i=rows.length
  ·subst t
   rw[if_pos rfl,lW,hZ lQ,Nat.sub_self];exact F.keep A
  ·have D:i<rows.length:=by simp at B;omega
   rw[if_neg t,lW,kW D,<-lW];exact(a.each i D).keep A
 ·have P:k=g:=by simpa[Value.ownBlock] using c
  subst P;rcases x with r|r
  ·exact a.zn k b r.symm
  ·have:=a.zl k b;omega
theorem Kw.snocR {o:Obj}{g cap m:Nat}{x:Int}(a:Kw w1 w H p kb Z s d lv tv sv nv rv u8 us rows rules start st dd)(C:m=rules.length)(A:w2.ownsRow H 3 1 (slice (qX g) (m+1) cap) (m+1) ((rules.map λx=>iX x)++[iX x]))(q:(w.alloc o).grownBy w2 rv.ownBlock)(t:rv.ownBlock=some g\/w.heap.size<=g):
  Kw w1 (w2.setCell ⟨kb,4,none⟩ (slice (qX g) (m+1) cap)) H p kb Z s d lv tv sv nv (slice (qX g) (m+1) cap) u8 us rows (rules++[x]) start st dd:=by
 subst C;have D:=a.kl;have N:=a.kbH;have y:=a.nbox;have z:∀j,j<w.heap.size->some j≠rv.ownBlock->w2.heap[j]? =w.heap[j]? :=λj O E=>(q.block j (by simp;omega) E).trans (lG _ _ _ (by omega));have F:=(z kb D y.2).trans a.blk;have G:w.heap.size<=w2.heap.size:=lY (by simp) q.size;have e:∀k,k≠kb->(w2.setCell ⟨kb,4,none⟩ (slice (qX g) (rules.length+1) cap)).heap[k]? =w2.heap[k]? :=λk b=>lJ _ _ _ _ b;have B:∀k,Z k->(w2.setCell ⟨kb,4,none⟩ (slice (qX g) (rules.length+1) cap)).heap[k]? =w.heap[k]? :=λk b=>(e k (a.zk k b)).trans (z k (a.zl k b) (a.zr k b));have P:kb≠g:=λc=>by
  rcases t with r|r
  ·exact y.2 (by rw[r,c])
  ·omega
 have I:=zQ q a.nOwn λk b=>yC a.nOwn a.rOwn (by decide) b;have J:=(A.lt g rfl).2;have K:SoY w2 (λg=>g<H/\g≠p) (λk=>Z k\/k=kb\/some k=nv.ownBlock\/some k=(Value.slice (qX g) (rules.length+1) cap).ownBlock) p s d:=by
  refine a.so.app (v:=rv) (λk b=>⟨.inr (.inr (.inr b)),λc=>by have:=(a.rOwn.lt k b.symm).1;omega⟩) q t J λk b=>?_;rcases b with f|f|f|f
  ·exact .inl (.inl f)
  ·exact .inl (.inr (.inl f))
  ·exact .inl (.inr (.inr (.inl f)))
  ·exact .inr (by simpa[Value.ownBlock] using f)
 refine⟨by simp[setCell,lU,F],zD I λk _ _ b=>e k λc=>y.1 (by rw[b,c]),λi L=>(a.each i L).keep B,?_,a.stA.keep B,λk b c=>?_,a.zn,a.zk,a.zH,K.set (.inr (.inl rfl)) (λc=>by omega),a.kbH,a.keep.trans ⟨q.os,q.output,by rw[zC];exact G,λk b=>(e k (by omega)).trans (z k (by omega) λc=>by have:=(a.rOwn.lt k c.symm).1;omega)⟩⟩
 ·exact zD (OwnI.snoc A) λk _ _ b=>e k λc=>by
   have:g=k:=by simpa[Value.ownBlock] using b
   omega
 ·have M:k=g:=by simpa[Value.ownBlock] using c
  subst M;rcases t with r|r
  ·exact a.zr k b r.symm
  ·have:=a.zl k b;omega
end
end
section
theorem Sq.kindS_ml (s:Sq)(d:Sf)(x:Nat)(a:d.marks.length<=d.found.length):(s.kindS d x).marks.length<=(s.kindS d x).found.length:=by
 unfold Sq.kindS;split
 ·split
  ·exact a
  ·simp;omega
 ·simp;omega
theorem Sq.rowTo_ml (s:Sq)(next:Nat)(d:Sf)(j:Nat)(a:d.marks.length<=d.found.length):(s.rowTo next d j).2.marks.length<=(s.rowTo next d j).2.found.length:=by
 induction j with
 |zero=>exact a
 |succ j b=>exact s.kindS_ml _ _ b
theorem Sq.kind_lt (s:Sq)(d:Sf)(x:Nat):s.kind d x<(s.kindS d x).found.length:=by
 have:=s.look_le d x;unfold Sq.kind Sq.kindS;by_cases a:s.look d x<d.found.length
 ·rw[if_pos a,if_pos a]
  by_cases b:s.tail d x<0
  ·rw[if_pos b,if_pos b];exact a
  ·rw[if_neg b,if_neg b];simp
 ·rw[if_neg a,if_neg a];simp
theorem Sq.rowTo_lt (s:Sq)(next:Nat)(d:Sf)(j:Nat):∀k∈(s.rowTo next d j).1,k<(s.rowTo next d j).2.found.length:=by
 induction j with
 |zero=>exact λk a=>absurd a List.not_mem_nil
 |succ j c=>
  intro k a;have e:=(s.kindS_len (s.rowTo next d j).2 (next&&&s.sets.getD j 0)).2.2;rcases kU.1 a with b|b
  ·have:=c k b
   show k<(s.kindS (s.rowTo next d j).2 (next&&&s.sets.getD j 0)).found.length;omega
  ·rw[kY.1 b]
   exact s.kind_lt _ _
def Sq.Like (s t:Sq):Prop:=s.rules=t.rules/\s.tails=t.tails/\s.sets=t.sets
theorem Sq.Like.kind {s t:Sq}(a:s.Like t)(d:Sf)(x:Nat):s.kind d x=t.kind d x/\s.kindS d x=t.kindS d x:=by
 obtain⟨b,c,e⟩:=a;unfold Sq.kind Sq.kindS Sq.tail Sq.look;rw[b,c];exact⟨rfl,rfl⟩
theorem Sq.Like.row {s t:Sq}(a:s.Like t)(next:Nat)(d:Sf)(j:Nat):s.rowTo next d j=t.rowTo next d j:=by
 induction j with
 |zero=>rfl
 |succ j b=>
  unfold Sq.rowTo;rw[b,(a.kind _ _).1,(a.kind _ _).2,a.2.2]
def Sq.sortGo (s:Sq)(ahead:Nat->Nat)(ends most:Nat):Nat->Nat->Sf->List (List Nat)->List Int->Option (Sf×List (List Nat)×List Int)
 |0,_,d,rows,rules=>some (d,rows,rules)
 |f+1,i,d,rows,rules=>if i<d.found.length then(if d.found.length>most then none else s.sortGo ahead ends most f (i+1) (s.rowTo (zAY ahead (d.found.getD i 0)) d s.sets.length).2 (rows++[(s.rowTo (zAY ahead (d.found.getD i 0)) d s.sets.length).1]) (rules++[vV s.rules (d.found.getD i 0&&&ends)])) else some (d,rows,rules)
structure Kd where
 rows:List (List Nat)
 rules:List Int
 start:Nat
 dead:Nat
def Nt.sq (n:Nt):Sq:=⟨n.rules,n.tails n.letters,n.letters,0,0,undef,undef,undef,undef,undef⟩
def Nt.start (n:Nt):List Nat×Sf:=n.sq.rowTo n.first ⟨[],[]⟩ n.letters.length
def Nt.ended (n:Nt)(d:Sf)(rows:List (List Nat))(rules:List Int):Kd:=
 if zAW (rows.map ints) rules (ints n.start.1)=rows.length then⟨rows++[n.start.1],rules++[-1],zAW (rows.map ints) rules (ints n.start.1),n.sq.kind d 0⟩ else⟨rows,rules,zAW (rows.map ints) rules (ints n.start.1),n.sq.kind d 0⟩
def Nt.sort (n:Nt)(most:Nat):Option Kd:=
 match n.sq.sortGo n.ahead n.ends most (most+1) 0 n.start.2 [] [] with
 |none=>none
 |some (d,rows,rules)=>some (n.ended d rows rules)
section
variable {w1 w:World} {H p kb:Nat} {Z:Nat->Prop} {s:Sq} {d:Sf} {lv tv sv nv rv u8:Value} {us:Nat->Value} {rows:List (List Nat)} {rules:List Int} {start:List Nat} {st dd:Int}
theorem Kw.row (c:Kw w1 w H p kb Z s d lv tv sv nv rv u8 us rows rules start st dd)(o:d.marks.length<=d.found.length)(j:d.found.length+s.sets.length<=100000000000)(next:Nat)(k:next<16777216):
  Calls prog 91 #[pX p,iX next] w λe w'=>∃u f,e=returned u/\Kw w1 w' H p kb f s (s.rowTo next d s.sets.length).2 lv tv sv nv rv u8 us rows rules start st dd/\Ints w' f u (ints (s.rowTo next d s.sets.length).1):=by
 refine(zGQ w _ _ p s d c.so (by omega) j next k).mono ?_;rintro e w' ⟨u,rfl,i,l,m⟩;refine⟨u,λg=>Z g\/some g=u.ownBlock,rfl,c.call m (λg a=>.inl a) (λg a=>a.imp id λe=>(i.lt g e.symm).1) (l.mono λg a=>?_),zCz i λg a=>.inr a.symm⟩;rcases a with(b|b)|b
 ·exact .inl (.inl b)
 ·exact .inr b
 ·exact .inl (.inr b)
theorem Kw.kindOf (b:Kw w1 w H p kb Z s d lv tv sv nv rv u8 us rows rules start st dd)(k:d.marks.length<=d.found.length)(c:d.found.length<=100000000000)(x:Nat)(f:x<16777216):
  Calls prog 94 #[pX p,iX x] w λe w'=>e=returned (iX (s.kind d x))/\Kw w1 w' H p kb Z s (s.kindS d x) lv tv sv nv rv u8 us rows rules start st dd:=by
 refine(zJV b.so (by omega) c x f).mono ?_;rintro e w' ⟨rfl,i,j⟩;exact⟨rfl,b.call j (λg a=>a) (λg a=>.inl a) i⟩
theorem Kw.ruleOf (a:Kw w1 w H p kb Z s d lv tv sv nv rv u8 us rows rules start st dd)(x:Nat)(b:x<16777216):
  Calls prog 93 #[pX p,iX x] w λe w'=>e=returned (iX (vV s.rules x))/\w'=w:=by
 obtain⟨f,g,c,_⟩:=a.so;have:=c.so;exact zB4 w p s.q s.rv s.rules this.net this.rcell this.at_ this.eight this.small x b
theorem Kw.found (k:Kw w1 w H p kb Z s d lv tv sv nv rv u8 us rows rules start st dd):∃b cap,w.cell? ⟨p,6,none⟩=some (slice b d.found.length cap)/\w.cell? ⟨p,4,none⟩=some (pX s.f)/\∀i,i<d.found.length->∃g,b=some ⟨g,0,none⟩/\w.cell? ⟨g,i,none⟩=some (iX ((d.found.getD i 0:Nat):Int))/\d.found.getD i 0<16777216:=by
 obtain⟨l,m,a,_⟩:=k.so;obtain⟨b,cap,c⟩:=a.own1.form;rw[zO] at c;refine⟨b,cap,by rw[<-c];exact a.cells.2.2.2.2.1,a.cells.2.2.1,λi j=>?_⟩;have e:=a.own1;rw[c] at e;obtain⟨g,rfl⟩:=e.some (by rw[zO];omega);have:=e.cell i (by rw[zO];exact j);rw[jF] at this;exact⟨g,rfl,this,a.fsm _ (zY _ _ 0 j)⟩
end
structure KdAt (w:World)(kb:Nat)(a:Ar)(k:Kd):Prop where
 lk:kb<w.heap.size
 all:∃lv tv sv nv rv,w.heap[kb]? =some (.cells #[lv,tv,sv,nv,rv,int i64 (k.start:Int),int i64 (k.dead:Int)] 178)/\ArAt w lv tv sv a/\IntRows w (In w) nv (k.rows.map ints)/\Ints w (In w) rv k.rules
theorem Kw.rowsAt {w1 w:World}{H p kb:Nat}{Z:Nat->Prop}{s:Sq}{d:Sf}{lv tv sv nv rv u8:Value}{us:Nat->Value}{rows:List (List Nat)}{rules:List Int}{start:List Nat}{st dd:Int}(c:Kw w1 w H p kb Z s d lv tv sv nv rv u8 us rows rules start st dd):IntRows w (In w) nv (rows.map ints):=by
 have l:∀i,(rows.map ints).getD i []=ints (rows.getD i []):=λi=>by
  rw[lW,lW,gQ];cases rows[i]? <;> rfl
 by_cases j:rows.length=0
 ·rcases c.nOwn.2 with⟨b,_⟩|⟨g,cap,q,b,m,r,e,f,k,t⟩
  ·exact⟨none,0,by rw[b,kV,j],by rw[kV,j];exact lQ,by unfold maxLen;omega,λi a=>by rw[kV] at a;omega⟩
  ·exact⟨_,cap,by rw[b,kV],by rw[kV];exact e,f,λi a=>by rw[kV] at a;omega⟩
 ·obtain⟨g,cap,b,m,o,e,f,k,_⟩:=c.nOwn.get (by omega)
  refine⟨_,cap,by rw[b,kV],by rw[kV];exact e,f,λi a=>?_⟩;rw[kV] at a;refine⟨g,0,us i,rfl,o,by rw[Nat.zero_add];exact k i a,?_⟩;rw[l];exact(c.each i a).mono c.zl
end
section
attribute [local go_sem ↓] Go.wp_at_zero Go.wp_at_succ
def zQo (w1 w:World)(H p kb:Nat)(s:Sq)(d:Sf)(lv tv sv u8:Value)(rows:List (List Nat))(rules:List Int)(start:List Nat)(st dd:Int):Prop:=∃Z nv rv us,Kw w1 w H p kb Z s d lv tv sv nv rv u8 us rows rules start st dd
def zCh (w:World)(n:Nt)(most:Nat)(e:Ending)(w':World):Prop:=
 match n.sort most with
 |none=>e=returned (tuple #[pointer none,bool false])/\Grew w w'
 |some k=>∃kb,e=returned (tuple #[pointer (some ⟨kb,0,none⟩),bool true])/\KdAt w' kb n.areas k/\Grew w w'
theorem zMB {w w':World}{n:Nt}{most:Nat}(a:n.sort most=none)(b:Grew w w'):zCh w n most (returned (tuple #[pointer none,bool false])) w':=by
 unfold zCh;rw[a];exact⟨rfl,b⟩
theorem zHh {w w':World}{n:Nt}{most kb:Nat}{k:Kd}(b:n.sort most=some k)(a:KdAt w' kb n.areas k/\Grew w w'):zCh w n most (returned (tuple #[pX kb,bool true])) w':=by
 unfold zCh;rw[b];exact⟨kb,rfl,a.1,a.2⟩
theorem Kw.begin {w1:World}{p:Nat}{s:Sq}(d:SoAt w1 (λg=>g<w1.heap.size/\g≠p) p s ⟨[],[]⟩ (slice none 0 0) (slice none 0 0))(lv tv sv:Value):
  Kw w1 (w1.alloc (.cells #[lv,tv,sv,slice none 0 0,slice none 0 0,iX 0,iX 0] 178)) w1.heap.size p w1.heap.size (λ_=>False) s ⟨[],[]⟩ lv tv sv (slice none 0 0) (slice none 0 0) (slice none 0 0) (λ_=>undef) [] [] [] 0 0:=by
 have j:=d.lp;refine⟨gX _ _,ownsRow_nil _ _ _ _,λi c=>absurd c (Nat.not_lt_zero _),OwnI.nil _ _,⟨none,0,rfl,lQ,by unfold maxLen;omega,λi c=>absurd c (Nat.not_lt_zero _)⟩,λg a=>a.elim,λg a=>a.elim,λg a=>a.elim,λg a=>a.elim,⟨_,_,d.grown (kZ _ _ lQ),λg a=>?_⟩,lQ,⟨rfl,rfl,by simp,λk f=>lG _ _ _ f.1⟩⟩;rcases a with b|b|b|b
 ·exact b.elim
 ·subst b
  exact⟨by simp,by omega,λe=>(by cases e),λe=>(by cases e)⟩
 ·cases b
 ·cases b
theorem zOf {w:World}{S:Nat->Prop}{v:Value}{l:List Int}{p:Nat}(c:Ints w S v l)(d:∀i x,w.cell? ⟨p,i,none⟩≠some (iX x)):Ints w (λg=>S g/\g≠p) v l:=by
 obtain⟨ao,cap,f,j,k,m⟩:=c;refine⟨ao,cap,f,j,k,λi q=>?_⟩;obtain⟨b,o,r,s,a⟩:=m i q;exact⟨b,o,r,⟨s,λe=>d (o+i) _ (by rw[<-e];exact a)⟩,a⟩
theorem SoAt.no_int {w:World}{X:Nat->Prop}{p:Nat}{s:Sq}{q:Sf}{m o lv tv sv tl:Value}(r:SoAt w X p s q m o)(b:∃a n c,s.lv=slice a n c)(f:∃a n c,s.tv=slice a n c)(g:∃a n c,s.sv=slice a n c)(j:∃a n c,s.tl=slice a n c)(k:∃a n c,m=slice a n c)(l:∃a n c,o=slice a n c):∀i x,w.cell? ⟨p,i,none⟩≠some (iX x):=by
 intro i x e;obtain⟨_,_,_,b⟩:=b;obtain⟨_,_,_,f⟩:=f;obtain⟨_,_,_,g⟩:=g;obtain⟨_,_,_,j⟩:=j;obtain⟨_,_,_,k⟩:=k;obtain⟨_,_,_,l⟩:=l;unfold cell? at e;rw[r.blk,b,f,g,j,k,l] at e;rcases i with _|_|_|_|_|_|_|_|i
 all_goals simp at e
theorem zOr {w w1 w2:World}{H p kb:Nat}{Z:Nat->Prop}{s:Sq}{u:Sf}{lv tv sv m rv u8:Value}{y:Nat->Value}{rows:List (List Nat)}{rules:List Int}{start:List Nat}{o q:Nat}{a:Ar}(c:Kw w1 w2 H p kb Z s u lv tv sv m rv u8 y rows rules start o q)(r:H=w1.heap.size)(z:∀i x,w1.cell? ⟨p,i,none⟩≠some (iX x))(f:ArAt w1 lv tv sv a):KdAt w2 kb a ⟨rows,rules,o,q⟩:=by
 have e:∀v l,Ints w1 (λg=>g<H/\g≠p) v l->Ints w2 (In w2) v l:=λv l j=>(j.keep λb k=>c.keep.block b k).mono λb k=>by
  have A:b<w1.heap.size:=by rw[<-r];exact k.1
  exact lZ A c.keep.size
 have a:∀v l,Ints w1 (In w1) v l->Ints w1 (λg=>g<H/\g≠p) v l:=λv l j=>(zOf j z).mono λg t=>⟨by rw[r];exact t.1,t.2⟩
 exact⟨c.kl,lv,tv,sv,m,rv,c.blk,⟨e _ _ (a _ _ f.lows),e _ _ (a _ _ f.letters),e _ _ (a _ _ f.sets)⟩,c.rowsAt,zBb c.rOwn⟩
end
end Go.Proofs.YtbjcfkdnjaiclaaGreat
