import Derived.Deep.DrawnRows
import Derived.Deep.RegionLaw
import Derived.Test.YtbjcfkdnjaiclaaGreatS0
import Derived.Test.YtbjcfkdnjaiclaaGreatS14
/- Parts of the proof. -/
set_option linter.unusedVariables false
set_option linter.unusedSimpArgs false
set_option maxHeartbeats 4000000
set_option maxRecDepth 100000
namespace Go.Proofs.YtbjcfkdnjaiclaaGreat
open Go.RowKit Go.Proofs.Tryz Go.World
open Go.Value (int slice bool pointer string agg tuple)
open Go.IntKind (i64)
open Go.Ending (returned)
def Mk.blank:Mk:=⟨[],[],[],false⟩
def Mk.withOf (m:Mk)(l:List Int):Mk:={m with of:=l}
def xK (k:Kd)(most:Nat):Nat->Mk
 |0=>Mk.blank.add most (-1)
 |j+1=>if j=k.dead then(xK k most j).withOf ((xK k most j).of++[0]) else((xK k most j).add most (k.rules.getD j 0)).withOf ((xK k most j).of++[((xK k most j).addN most:Int)])
theorem zFJ {m:Mk}{most:Nat}(a:m.Fit most)(l:List Int):(m.withOf l).Fit most:=⟨a.same,a.few⟩
theorem zEq (k:Kd)(most j:Nat):(xK k most j).Fit most/\(xK k most j).of.length=j:=by
 induction j with
 |zero=>exact⟨zFD ⟨rfl,lX⟩ _,by show(Mk.blank.add most (-1)).of.length=0;rw[zDJ];rfl⟩
 |succ j a=>
  unfold xK;split
  ·exact⟨zFJ a.1 _,by show((xK k most j).of++[0]).length=j+1;rw[kX,a.2];rfl⟩
  ·exact⟨zFJ (zFD a.1 _) _,by show((xK k most j).of++[_]).length=j+1;rw[kX,a.2];rfl⟩
theorem zGL (f w:World)(c kb most:Nat)(ab:MwIs f w c kb most Mk.blank)(aB:most<=1000000)(k:Kd)(a:Ar)(ac:KdAt f kb a k)(ad:k.rules.length=k.rows.length)(aX:k.rows.length<=10000000000):
  Calls prog 96 #[pX c] w λe w'=>e=returned (tuple #[])/\MwIs f w' c kb most (xK k most k.rows.length)/\StayT w w':=by
 obtain⟨ae,af,ag,ah,ai⟩:=info_parts yF;have aj:Hid (∀wr m2,MwIs f wr c kb most m2->m2.Fit most->∀r:Int,Ca 133 #[pX c,iX r] wr λe w'=>e=returned (iX ((m2.addN most:Nat):Int))/\MwIs f w' c kb most (m2.add most r)/\StayT wr w'):=λwr m2 l ak r=>zFh f wr c kb most m2 l aB (by have:=ak.same;have:=ak.few;omega) r;have aC:Hid (Mk.blank.Fit most):=⟨rfl,lX⟩
 have aD:=vl ab;have al:Hid (∀wr m2,MwIs f wr c kb most m2->∃Q I A J,wr.cell? ⟨c,0,none⟩=some (pX kb)/\wr.cell? ⟨kb,3,none⟩=some (slice Q k.rows.length I)/\wr.cell? ⟨kb,4,none⟩=some (slice A k.rows.length J)/\wr.cell? ⟨kb,6,none⟩=some (iX (k.dead:Int))/\∀i,i<k.rows.length->∃b o,A=some ⟨b,o,none⟩/\wr.cell? ⟨b,o+i,none⟩=some (iX (k.rules.getD i 0))):=by
  rintro wr m2 ⟨R,rv,am,S,l⟩;obtain⟨aY,lv,tv,sv,Q,aZ,B,a0,aE,aF⟩:=ac.grown l.keep;obtain⟨aG,I,rfl,-⟩:=aE;obtain⟨A,J,rfl,_,_,ap⟩:=aF;rw[kV] at B;rw[ad] at B ap;refine⟨aG,I,A,J,l.cells.1,?_,?_,?_,λi aH=>?_⟩
  ·unfold cell?;rw[B];rfl
  ·unfold cell?;rw[B];rfl
  ·unfold cell?;rw[B];rfl
  ·obtain⟨b,o,aI,_,aJ⟩:=ap i aH
   exact⟨b,o,aI,aJ⟩
 obtain⟨d,aq⟩:∃d,d=xK k most:=⟨_,rfl⟩
 have p:Hid (d 0=Mk.blank.add most (-1)/\(∀j,j=k.dead->d (j+1)=(d j).withOf ((d j).of++[0]))/\(∀j,j≠k.dead->d (j+1)=((d j).add most (k.rules.getD j 0)).withOf ((d j).of++[((d j).addN most:Int)]))/\(∀j,(d j).Fit most/\(d j).of.length=j)/\d k.rows.length=xK k most k.rows.length):=by
  rw[aq];exact⟨rfl,λj K=>if_pos K,λj K=>if_neg K,λj=>zEq k most j,rfl⟩
 generalize xK k most k.rows.length=aK at *;clear aq ab ac ad;go_in;go_wp2_with (first|(go_at_call 133;refine(aj w _ aD aC (-1)).mono ?_;rintro e w1 ⟨rfl,T,au⟩;obtain⟨Q,I,A,J,av,y3,U,aw,-⟩:=al w1 _ T;have ax:Hid (MwIs f w1 c kb most (d 0)/\StayT w w1):=⟨(by rw[p.out.1];exact T),au⟩;clear T au))
 clear av y3 U aw;go_loopg [14] k.rows.length (λq i wr=>∃j:Nat,q=k.rows.length-j/\j<=k.rows.length/\i=iX (j:Int)/\MwIs f wr c kb most (d j)/\StayT w wr)
 case atStart=>exact⟨0,rfl,lX,rfl,ax.1,ax.2⟩
 case round=>
  obtain⟨j,L,K,rfl,l,C⟩:=hrel;have M:Hid (gk=k.rows.length-j/\MwIs f wr c kb most (d j)/\StayT w wr):=⟨L,l,C⟩
  obtain⟨a1,a2,a3,a4,av,y3,U,aw,N⟩:=al wr _ l;by_cases aL:j<k.rows.length
  ·have aM:(j:Int)<(k.rows.length:Int):=by omega
   obtain⟨b,o,rfl,aN⟩:=N j aL;by_cases O:j=k.dead
   ·have aO:((j:Int)==(k.dead:Int))=true:=by simp;omega
    have P:=vl <| p.2.1 j O;have t:=(p.2.2.2.1 j).2;obtain⟨R,rv,am,S,g⟩:=l;obtain⟨ao,z,D⟩:=g.oOwn.form;rw[t] at D;subst D;have V:=g.cells.2.2.2.2.2.1;have aP:=g.lt;have aQ:f.heap.size<=wr.heap.size:=g.keep.size;have v:=vl g;have W:wr.ownsRow f.heap.size 3 1 (slice ao j z) j ((d j).of.map λx=>iX x):=by have:=g.oOwn;unfold OwnI at this;rw[t] at this;exact this
    clear L C g N O y3 U aN;go_wp2_with (first|(at_builtin;refine wpList_append_lies _ rfl _ _ 45 rfl (f.heap.size) 3 ae (iX 0) 1 8 underlying45 af ag ah ai rfl (by decide) _ _ _ rfl (W.alloc _) ⟨wr.heap.size,0,none⟩ 1 1 [iX 0] rfl rfl (cell_one_new _ _ _) (by intro u E;simp at E;subst E;rfl) (by decide) (by unfold maxLen;omega) (by omega) (by simp;omega) _ rfl ?_;intro aR cap m X F Y aS;have G:m.heap[c]? =wr.heap[c]? :=(F.block _ (by simp;omega) v.box.2.2.1).trans (lG _ _ _ (by omega));have aT:m.cell? ⟨c,6,none⟩=some (slice ao j z):=(gZ G).trans V;have aU:m.frozen? ⟨c,6,none⟩=false:=(gY G).trans (v.cells.2.2.2.2.2.2 6);have H:=v.newOf t.symm X F (by rcases Y with y|y;exact .inl y;right;rw[y];simp)))
    go_roundg (k.rows.length-(j+1))
    case measure=>rw[M.out.1];omega
    case rel=>exact⟨j+1,rfl,by omega,by go_num,by rw[P.out];exact⟨_,_,_,_,H.1⟩,M.2.2.trans H.2⟩
   ·have aO:((j:Int)==(k.dead:Int))=false:=by simp;omega
    have P:=vl <| p.2.2.1 j O;have t:((d j).add most (k.rules.getD j 0)).of.length=j:=by rw[zDJ];exact(p.2.2.2.1 j).2
    have ay:((d j).add most (k.rules.getD j 0)).of=(d j).of:=zDJ _ _ _;rw[<-ay] at P;have aV:Hid (Ca 133 #[pX c,iX (k.rules.getD j 0)] wr λe w'=>e=returned (iX (((d j).addN most:Nat):Int))/\MwIs f w' c kb most ((d j).add most (k.rules.getD j 0))/\StayT wr w'):=aj wr _ l (p.2.2.2.1 j).1 _;clear L l C N O y3 ay;generalize k.rules.getD j 0=r at *;generalize (d j).addN most=s at *;generalize (d j).add most r=az at *;go_wp2_with (first|(go_at_call 133;refine aV.mono ?_;rintro e m ⟨rfl,⟨R,rv,am,S,g⟩,aW⟩;obtain⟨ao,z,D⟩:=g.oOwn.form;rw[t] at D;subst D;have V:=g.cells.2.2.2.2.2.1;have aP:=g.lt;have aQ:f.heap.size<=m.heap.size:=g.keep.size;have v:Hid (Mw f m c kb most az R rv (slice ao j z) S):=g;have W:m.ownsRow f.heap.size 3 1 (slice ao j z) j (az.of.map λx=>iX x):=(by have:=g.oOwn;unfold OwnI at this;rw[t] at this;exact this);clear g)|(at_builtin;refine wpList_append_lies _ rfl _ _ 45 rfl (f.heap.size) 3 ae (iX 0) 1 8 underlying45 af ag ah ai rfl (by decide) _ _ _ rfl (W.alloc _) ⟨m.heap.size,0,none⟩ 1 1 [iX (s:Int)] rfl rfl (cell_one_new _ _ _) (by intro u E;simp at E;subst E;rfl) (by decide) (by unfold maxLen;omega) (by omega) (by simp;omega) _ rfl ?_;intro aR cap aa X F Y aS;have G:aa.heap[c]? =m.heap[c]? :=(F.block _ (by simp;omega) v.box.2.2.1).trans (lG _ _ _ (by omega));have aT:aa.cell? ⟨c,6,none⟩=some (slice ao j z):=(gZ G).trans V;have aU:aa.frozen? ⟨c,6,none⟩=false:=(gY G).trans (v.cells.2.2.2.2.2.2 6);have H:=v.newOf t.symm X F (by rcases Y with y|y;exact .inl y;right;rw[y];simp)))
    go_roundg (k.rows.length-(j+1))
    case measure=>rw[M.out.1];omega
    case rel=>exact⟨j+1,rfl,by omega,by go_num,by rw[P.out];exact⟨_,_,_,_,H.1⟩,(M.2.2.trans aW).trans H.2⟩
  ·have aM:(k.rows.length:Int)<=(j:Int):=by omega
   have e:j=k.rows.length:=by omega
   subst e;have aA:Hid (MwIs f wr c kb most aK/\StayT w wr):=⟨by rw[<-p.out.2.2.2.2];exact l,C⟩
   clear L l C N;go_wp2;go_end0;exact⟨rfl,aA.1,aA.2⟩
theorem zEn {m:Mk}{most:Nat}{r:Int}(a:(m.add most r).full=false):m.full=false/\(m.add most r).next.length=m.next.length+1/\m.addN most=m.next.length:=by
 unfold Mk.add at a ⊢;unfold Mk.addN;by_cases e:most<=m.next.length
 ·rw[if_pos e] at a
  exact absurd a (by simp)
 ·rw[if_neg e] at a
  rw[if_neg e,if_neg e];exact⟨a,by show(m.next++[zeros]).length=_;simp,rfl⟩
structure Mk.Has (m:Mk):Prop where
 one:1<=m.next.length
 of:∀x∈m.of,0<=x/\x<(m.next.length:Int)
theorem zMj (k:Kd)(most j:Nat)(c:(xK k most j).full=false):(xK k most j).Has:=by
 induction j with
 |zero=>
  have a:=zEn (m:=Mk.blank) (most:=most) (r:=-1) c;exact⟨by show 1<=(Mk.blank.add most (-1)).next.length;rw[a.2.1];omega,λx b=>by rw[show (xK k most 0).of=[] from zDJ _ _ _] at b;exact absurd b List.not_mem_nil⟩
 |succ j f=>
  unfold xK at c ⊢;split at c
  ·rename_i d
   rw[if_pos d];have:=f c;refine⟨this.one,λx b=>?_⟩;rcases kU.1 b with a|a
   ·exact this.of x a
   ·rw[kY.1 a]
    have:=this.one;exact⟨by omega,by show(0:Int)<((xK k most j).next.length:Nat);omega⟩
  ·rename_i d
   rw[if_neg d];have a:=zEn (m:=xK k most j) (most:=most) (r:=k.rules.getD j 0) c;have g:=f a.1;have i:=g.one;refine⟨by show 1<=((xK k most j).add most (k.rules.getD j 0)).next.length;omega,λx b=>?_⟩;show 0<=x/\x<(((xK k most j).add most (k.rules.getD j 0)).next.length:Nat);rw[a.2.1];rcases kU.1 b with e|e
   ·have:=g.of x e
    omega
   ·rw[kY.1 e,a.2.2]
    omega
def jC (k:Kd)(a:Ar)(most:Nat):Nat->Mk
 |0=>xK k most k.rows.length
 |j+1=>if j≠k.dead/\(jC k a most j).full=false then zCm k a most j ((jC k a most j).of.getD j 0).toNat (jC k a most j) else jC k a most j
theorem zEG (k:Kd)(a:Ar)(most j:Nat):(jC k a most j).Fit most/\(jC k a most j).of=(xK k most k.rows.length).of/\(xK k most k.rows.length).next.length<=(jC k a most j).next.length/\((jC k a most j).full=false->(xK k most k.rows.length).full=false):=by
 induction j with
 |zero=>exact⟨(zEq k most _).1,rfl,lQ,id⟩
 |succ j b=>
  unfold jC;split
  ·rename_i c
   have:=zLr k a j ((jC k a most j).of.getD j 0).toNat b.1;exact⟨this.1,this.2.1.trans b.2.1,lY b.2.2.1 this.2.2,λ_=>b.2.2.2 c.2⟩
  ·exact b
theorem zJQ (k:Kd)(a:Ar)(most j:Nat)(e:(jC k a most j).full=false):(jC k a most j).Has/\(jC k a most j).of.length=k.rows.length:=by
 obtain⟨_,b,g,f⟩:=zEG k a most j;have c:=zMj k most k.rows.length (f e);have:=c.one;refine⟨⟨by omega,λx d=>?_⟩,by rw[b];exact(zEq k most _).2⟩;rw[b] at d;have:=c.of x d;omega
def yP (k:Kd)(a:Ar)(most:Nat):Mk:=jC k a most k.rows.length
theorem Mw.tables {l w:World}{o kb most j:Nat}{m:Mk}{p rv B:Value}{q:Nat->Nat}{c:Array Value}(a:Mw l w o kb most m p rv B q)(r:w.heap[j]? =some (.cells c 127)):IntRows w (λg=>g<w.heap.size/\g≠o/\g≠j/\l.heap.size<=g) p m.next/\Ints w (λg=>g<w.heap.size/\g≠o/\g≠j/\l.heap.size<=g) rv m.rules:=by
 have s:=a.box;have C:=zM a.nOwn r (by decide);have D:=zM a.rOwn r (by decide);have E:∀i,i<m.next.length->q i≠j:=λi d e=>by
  have:=(a.each i d).1;rw[e,r] at this;simp at this
 constructor
 ·by_cases v:m.next.length=0
  ·rcases a.nOwn.2 with⟨f,_⟩|⟨g,cap,G,f,x,H,t,u,y,I⟩
   ·exact⟨none,0,by rw[f,v],by rw[v];exact lQ,by unfold maxLen;omega,λi d=>by omega⟩
   ·exact⟨_,cap,f,t,u,λi d=>by omega⟩
  ·obtain⟨g,cap,f,x,F,t,u,y,_⟩:=a.nOwn.get (by omega)
   have z:p.ownBlock=some g:=by rw[f];rfl
   refine⟨_,cap,f,t,u,λi d=>⟨g,0,_,rfl,⟨F,λe=>s.1 (by rw[z,e]),λe=>C (by rw[z,e]),x⟩,by rw[Nat.zero_add];exact y i d,?_⟩⟩;have A:=(a.each i d).2.2;exact⟨_,256,by rw[A],by rw[A];exact lQ,by unfold maxLen;omega,λb J=>⟨q i,0,rfl,⟨a.gl i d,s.2.2.2 i d,E i d,(a.each i d).2.1⟩,by rw[Nat.zero_add];exact(a.row i b d (by omega)).1⟩⟩
 ·exact zCz a.rOwn λg k=>⟨(a.rOwn.lt g k).2,λe=>s.2.1 (by rw[k,e]),λe=>D (by rw[k,e]),(a.rOwn.lt g k).1⟩
theorem IntRows.moved {w w':World}{S a:Nat->Prop}{v:Value}{l:List (List Int)}(c:IntRows w S v l)(e:∀b,S b->w'.heap[b]? =w.heap[b]?)(d:∀b,S b->a b):IntRows w' a v l:=(c.keep e).mono d
def zEp (w:World)(k:Kd)(a:Ar)(most:Nat)(e:Ending)(w':World):Prop:=
 Grew w w'/\(((yP k a most).full=true/\e=returned (tuple #[agg #[slice none 0 0,slice none 0 0,int i64 0],bool false]))\/((yP k a most).full=false/\∃nv rv,e=returned (tuple #[agg #[nv,rv,int i64 ((yP k a most).of.getD k.start 0)],bool true])/\IntRows w' (λg=>w.heap.size<=g/\g<w'.heap.size) nv (yP k a most).next/\Ints w' (λg=>w.heap.size<=g/\g<w'.heap.size) rv (yP k a most).rules))
theorem Mw.begin {b w:World}{kb most:Nat}(c:Grew b w):Mw b (w.alloc (.cells #[pX kb,iX (most:Int),bool false,slice none 0 0,slice none 0 0,iX 0,slice none 0 0] 183)) w.heap.size kb most Mk.blank (slice none 0 0) (slice none 0 0) (slice none 0 0) (λ_=>0):=
 ⟨gX _ _,ownsRow_nil _ _ _ _,λi a=>absurd a (Nat.not_lt_zero _),OwnI.nil _ _,OwnI.nil _ _,λi j a=>absurd a (Nat.not_lt_zero _),λi a=>absurd a (Nat.not_lt_zero _),λi a=>absurd a (Nat.not_lt_zero _),λg d=>(by cases d),c.size,c.trans (kZ _ _ c.size)⟩
theorem zHP (w:World)(kb most:Nat)(af:most<=1000000)(k:Kd)(a:Ar)(Q:KdAt w kb a k)(ok:k.Ok a)(aA:k.rows.length<=10000000000):
  Calls prog 62 #[pX kb,iX (most:Int)] w (zEp w k a most):=by
 obtain⟨w1,ag,H⟩:∃w1,w1=w.alloc (.cells #[slice none 0 0,slice none 0 0,iX 0] 127)/\Hid (Grew w w1/\w1.heap.size=w.heap.size+1/\w1.heap[w.heap.size]? =some (.cells #[slice none 0 0,slice none 0 0,iX 0] 127)):=⟨_,rfl,kZ _ _ lQ,by simp,gX _ _⟩
 obtain⟨w2,ah,ai⟩:∃w2,w2=w1.alloc (.cells #[pX kb,iX (most:Int),bool false,slice none 0 0,slice none 0 0,iX 0,slice none 0 0] 183)/\Hid (MwIs w w2 (w.heap.size+1) kb most Mk.blank/\w2.heap[w.heap.size]? =some (.cells #[slice none 0 0,slice none 0 0,iX 0] 127)):=by
  refine⟨_,rfl,⟨slice none 0 0,slice none 0 0,slice none 0 0,λ_=>0,?_⟩,?_⟩
  ·have s:=Mw.begin (kb:=kb) (most:=most) H.1
   rw[H.out.2.1] at s;exact s
  ·exact(lG _ _ _ (by rw[H.out.2.1];omega)).trans H.2.2
 have aB:=vl H.2.1;have aC:=vl <| zGL w w2 (w.heap.size+1) kb most ai.1 af k a Q ok.lens aA;have aj:Hid (∀wr m2,MwIs w wr (w.heap.size+1) kb most m2->∃R P,wr.cell? ⟨w.heap.size+1,2,none⟩=some (bool m2.full)/\wr.cell? ⟨kb,3,none⟩=some (slice R k.rows.length P)/\wr.cell? ⟨kb,5,none⟩=some (iX (k.start:Int))/\wr.cell? ⟨kb,6,none⟩=some (iX (k.dead:Int))/\kb<wr.heap.size):=by
  rintro wr m2 ⟨I,rv,ak,al,m⟩;obtain⟨am,lv,tv,sv,R,bb,ap,bc,aD,bd⟩:=Q.grown m.keep;obtain⟨x,P,rfl,-⟩:=aD;rw[kV] at ap;refine⟨x,P,m.cells.2.2.1,?_,?_,?_,am⟩
  all_goals (unfold cell?;rw[ap];rfl)
 obtain⟨d,aE⟩:∃d,d=jC k a most:=⟨_,rfl⟩
 have y:Hid (d 0=xK k most k.rows.length/\(∀j,j≠k.dead->(d j).full=false->d (j+1)=zCm k a most j ((d j).of.getD j 0).toNat (d j))/\(∀j,¬(j≠k.dead/\(d j).full=false)->d (j+1)=d j)/\(∀j,(d j).Fit most)/\(∀j,(d j).full=false->(d j).Has/\(d j).of.length=k.rows.length)/\d k.rows.length=yP k a most):=by
  rw[aE];exact⟨rfl,λj F S=>if_pos ⟨F,S⟩,λj s=>if_neg s,λj=>(zEG k a most j).1,λj s=>zJQ k a most j s,rfl⟩
 have aF:Hid (∀wr j,j<k.rows.length->MwIs w wr (w.heap.size+1) kb most (d j)->(d j).full=false->Ca 97 #[pointer (some ⟨w.heap.size+1,0,none⟩),iX ((j:Nat):Int)] wr λe w'=>e=returned (tuple #[])/\MwIs w w' (w.heap.size+1) kb most (zCm k a most j ((d j).of.getD j 0).toNat (d j))/\StayT wr w'):=λwr j aq m aG=>by
  obtain⟨T,J⟩:=y.2.2.2.2.1 j aG;have be:=T.of _ (zY (d j).of j 0 (by omega));exact zLo w wr (w.heap.size+1) kb most (d j) m af (y.2.2.2.1 j) k a Q ok j _ aq J (by omega) (by omega)
 have bf:=ok.start;generalize aH:yP k a most=c at *;have au:Hid (∀e w',zEp w k a most e w'↔Grew w w'/\((c.full=true/\e=returned (tuple #[agg #[slice none 0 0,slice none 0 0,iX 0],bool false]))\/(c.full=false/\∃I rv,e=returned (tuple #[agg #[I,rv,iX (c.of.getD k.start 0)],bool true])/\IntRows w' (λg=>w.heap.size<=g/\g<w'.heap.size) I c.next/\Ints w' (λg=>w.heap.size<=g/\g<w'.heap.size) rv c.rules))):=λe w'=>by unfold zEp;rw[aH]
 go_in;apply wp_cut;intro aI K;go_wp2;apply K.out;clear K;rw[<-ag];clear ag;apply wp_cut;intro aI K;go_wp2;apply K.out;clear K;rw[<-ah,aB.out];clear ah;go_wp2_with (first|(go_at_call 96;refine aC.mono ?_;rintro e U ⟨rfl,V,av⟩;obtain⟨R,P,z,y3,y5,W,-⟩:=aj U _ V;have aw:Hid (MwIs w U (w.heap.size+1) kb most (d 0)/\U.heap[w.heap.size]? =some (.cells #[slice none 0 0,slice none 0 0,iX 0] 127)):=⟨(by rw[y.out.1];exact V),av _ _ _ ai.2 (by decide) (by decide) (by decide)⟩;clear V av z y5 W))
 clear y3;go_loopg [19] k.rows.length (λq i wr=>∃j:Nat,q=k.rows.length-j/\j<=k.rows.length/\i=iX (j:Int)/\MwIs w wr (w.heap.size+1) kb most (d j)/\wr.heap[w.heap.size]? =some (.cells #[slice none 0 0,slice none 0 0,iX 0] 127))
 case atStart=>exact⟨0,rfl,lX,rfl,aw.1,aw.2⟩
 case round=>
  obtain⟨j,G,aq,rfl,m,r⟩:=hrel;have A:Hid (gk=k.rows.length-j/\MwIs w wr (w.heap.size+1) kb most (d j)/\wr.heap[w.heap.size]? =some (.cells #[slice none 0 0,slice none 0 0,iX 0] 127)):=⟨G,m,r⟩
  obtain⟨bg,bh,z,y3,y5,W,am⟩:=aj wr _ m;by_cases aJ:j<k.rows.length
  ·have aK:(j:Int)<(k.rows.length:Int):=by omega
   by_cases L:j=k.dead
   ·have aL:((j:Int) != (k.dead:Int))=false:=by simp;omega
    have M:=vl <| y.2.2.1 j λs=>s.1 L;clear G m r L y3 y5;generalize (d j).full=bi at *;go_wp2;go_roundg (k.rows.length-(j+1))
    case measure=>rw[A.out.1];omega
    case rel=>exact⟨j+1,rfl,by omega,by go_num,by rw[M.out];exact A.2.1,A.2.2⟩
   ·have aL:((j:Int) != (k.dead:Int))=true:=by simp;omega
    cases o:(d j).full with
    |true=>
     rw[o] at z;have M:=vl <| y.2.2.1 j λs=>by rw[o] at s;exact absurd s.2 (by decide)
     clear G m r L y3 y5 o;go_wp2;go_roundg (k.rows.length-(j+1))
     case measure=>rw[A.out.1];omega
     case rel=>exact⟨j+1,rfl,by omega,by go_num,by rw[M.out];exact A.2.1,A.2.2⟩
    |false=>
     rw[o] at z;have M:=vl <| y.2.1 j L o;have aM:=vl <| aF wr j aJ m o;clear G m r L y3 y5 o;generalize zCm k a most j ((d j).of.getD j 0).toNat (d j)=bj at *;go_wp2_with (first|(go_at_call 97;refine aM.mono ?_;rintro e bk ⟨rfl,aN,aO⟩))
     go_roundg (k.rows.length-(j+1))
     case measure=>rw[A.out.1];omega
     case rel=>exact⟨j+1,rfl,by omega,by go_num,by rw[M.out];exact aN,aO _ _ _ A.2.2 (by decide) (by decide) (by decide)⟩
  ·have aK:(k.rows.length:Int)<=(j:Int):=by omega
   have e:j=k.rows.length:=by omega
   subst e;rw[y.out.2.2.2.2.2] at m z;have X:Hid (MwIs w wr (w.heap.size+1) kb most c/\wr.heap[w.heap.size]? =some (.cells #[slice none 0 0,slice none 0 0,iX 0] 127)):=⟨m,r⟩
   have ax:Hid (c.full=false->c.Has/\c.of.length=k.rows.length):=by have:=y.2.2.2.2.1 k.rows.length;rw[y.out.2.2.2.2.2] at this;exact this
   have bl:w.heap.size<wr.heap.size:=(kQ.1 r).1;have aP:wr.cell? ⟨w.heap.size,0,none⟩=some (slice none 0 0):=by unfold cell?;rw[r];rfl
   have aQ:wr.cell? ⟨w.heap.size,1,none⟩=some (slice none 0 0):=by unfold cell?;rw[r];rfl
   have aR:wr.cell? ⟨w.heap.size,2,none⟩=some (iX 0):=by unfold cell?;rw[r];rfl
   have Y:Hid (∀i,wr.frozen? ⟨w.heap.size,i,none⟩=false):=λi=>by unfold frozen?;rw[r];simp
   have aS:=Y 0;have aT:=Y 1;have q2:=Y 2;cases o:c.full with
   |true=>
    rw[o] at z;have aa:=vl o;clear G m r o;go_wp2;obtain⟨l,N,c0,c1,c2,O⟩:∃l,l=((wr.setCell ⟨w.heap.size,0,none⟩ (Value.slice none 0 0)).setCell ⟨w.heap.size,1,none⟩ (Value.slice none 0 0)).setCell ⟨w.heap.size,2,none⟩ (Value.int IntKind.i64 0)/\l.cell? ⟨w.heap.size,0,none⟩=some (slice none 0 0)/\l.cell? ⟨w.heap.size,1,none⟩=some (slice none 0 0)/\l.cell? ⟨w.heap.size,2,none⟩=some (iX 0)/\Hid (Grew w l):=by
     obtain⟨⟨I,rv,ak,al,p⟩,r⟩:=X;refine⟨_,rfl,?_,?_,?_,p.keep.trans (((zP _ _ _ _ lQ).trans (zP _ _ _ _ lQ)).trans (zP _ _ _ _ lQ))⟩
     all_goals simp[World.cell?,setCell,lU,r]
    rw[<-N];clear N;refine gV (v:=tuple #[agg #[slice none 0 0,slice none 0 0,iX 0],bool false]) (by simp[results,results62,go_sem,c0,c1,c2]) rfl ?_;exact(au _ _).2 ⟨O,.inl ⟨aa,rfl⟩⟩
   |false=>
    rw[o] at z;have aa:=vl o;obtain⟨T,J⟩:=ax o;obtain⟨I,rv,ak,al,p⟩:=m;obtain⟨x,B,aU⟩:=zE p.nOwn;obtain⟨C,D,aV⟩:=p.rOwn.form;obtain⟨ao,aW,aX⟩:=p.oOwn.form;subst aU aV aX;obtain⟨go,rfl⟩:=p.oOwn.some (by omega);have aY:=p.oOwn.cell k.start (by omega);rw[J] at p;have aZ:=p.cells.2.2.2.2.2.1;have a0:=p.cells.2.2.2.1;have a1:=p.cells.2.2.2.2.1;have a2:wr.cell? ⟨w.heap.size+1,5,none⟩=some (iX 0):=by unfold cell?;rw[p.blk];rfl
    have a3:=p.cells.2.2.2.2.2.2 5;have bm:(k.start:Int)<(k.rows.length:Int):=by omega
    have ab:=vl p;have bn:=vl J;have bo:Hid (c.of.getD k.start 0=c.of.getD k.start 0):=rfl;clear G r o T p J ax;generalize c.of.getD k.start 0=t at *;go_wp2;go_region;obtain⟨f,ay,bp,bq,br,v0,v1,v2,bs,bt,bu,a4⟩:∃f,f=(wr.setCell ⟨w.heap.size+1,5,none⟩ (iX t)).drew/\f.cell? ⟨w.heap.size+1,3,none⟩=some (slice x c.next.length B)/\f.cell? ⟨w.heap.size+1,4,none⟩=some (slice C c.rules.length D)/\f.cell? ⟨w.heap.size+1,5,none⟩=some (iX t)/\f.cell? ⟨w.heap.size,0,none⟩=some (slice none 0 0)/\f.cell? ⟨w.heap.size,1,none⟩=some (slice none 0 0)/\f.cell? ⟨w.heap.size,2,none⟩=some (iX 0)/\f.frozen? ⟨w.heap.size,0,none⟩=false/\f.frozen? ⟨w.heap.size,1,none⟩=false/\f.frozen? ⟨w.heap.size,2,none⟩=false/\Hid (f.heap[w.heap.size]? =some (.cells #[slice none 0 0,slice none 0 0,iX 0] 127)/\f.heap.size=wr.heap.size/\f.os=wr.os/\f.output=wr.output/\∀k,k≠w.heap.size+1->f.heap[k]? =wr.heap[k]?):=by
     have e:∀k,k≠w.heap.size+1->((wr.setCell ⟨w.heap.size+1,5,none⟩ (iX t)).drew).heap[k]? =wr.heap[k]? :=λk a5=>lJ _ _ _ _ a5;have E:=(e w.heap.size (by omega)).trans X.2;have ac:((wr.setCell ⟨w.heap.size+1,5,none⟩ (iX t)).drew).heap[w.heap.size+1]? =some (.cells #[pX kb,iX (most:Int),bool c.full,slice x c.next.length B,slice C c.rules.length D,iX t,slice (qX go) k.rows.length aW] 183):=by
      show(wr.setCell ⟨w.heap.size+1,5,none⟩ (iX t)).heap[w.heap.size+1]? =_;simp[setCell,lU,ab.out.blk]
     refine⟨_,rfl,?_,?_,?_,?_,?_,?_,?_,?_,?_,E,zC _ _ _,rfl,rfl,e⟩
     ·unfold cell?;rw[ac];rfl
     ·unfold cell?;rw[ac];rfl
     ·unfold cell?;rw[ac];rfl
     ·unfold cell?;rw[E];rfl
     ·unfold cell?;rw[E];rfl
     ·unfold cell?;rw[E];rfl
     ·unfold frozen?;rw[E];rfl
     ·unfold frozen?;rw[E];rfl
     ·unfold frozen?;rw[E];rfl
    rw[<-ay];clear ay a0 a1 a2 aZ aY a3 aP aQ aR aS aT q2 z y3 y5 W;go_wp2;obtain⟨l,N,c0,c1,c2,O⟩:∃l,l=((f.setCell ⟨w.heap.size,0,none⟩ (Value.slice x c.next.length B)).setCell ⟨w.heap.size,1,none⟩ (Value.slice C c.rules.length D)).setCell ⟨w.heap.size,2,none⟩ (Value.int IntKind.i64 t)/\l.cell? ⟨w.heap.size,0,none⟩=some (slice x c.next.length B)/\l.cell? ⟨w.heap.size,1,none⟩=some (slice C c.rules.length D)/\l.cell? ⟨w.heap.size,2,none⟩=some (iX t)/\Hid (Grew w l/\IntRows l (λg=>w.heap.size<=g/\g<l.heap.size) (slice x c.next.length B) c.next/\Ints l (λg=>w.heap.size<=g/\g<l.heap.size) (slice C c.rules.length D) c.rules):=by
     obtain⟨a6,a7,a8,a9,ba⟩:=a4;have az:=ab.tables X.2;have ad:∀k,k≠w.heap.size->k≠w.heap.size+1->(((f.setCell ⟨w.heap.size,0,none⟩ (Value.slice x c.next.length B)).setCell ⟨w.heap.size,1,none⟩ (Value.slice C c.rules.length D)).setCell ⟨w.heap.size,2,none⟩ (Value.int IntKind.i64 t)).heap[k]? =wr.heap[k]? :=λk F S=>(lJ _ _ _ _ F).trans ((lJ _ _ _ _ F).trans ((lJ _ _ _ _ F).trans (ba k S)));have ae:(((f.setCell ⟨w.heap.size,0,none⟩ (Value.slice x c.next.length B)).setCell ⟨w.heap.size,1,none⟩ (Value.slice C c.rules.length D)).setCell ⟨w.heap.size,2,none⟩ (Value.int IntKind.i64 t)).heap.size=wr.heap.size:=by rw[zC,zC,zC];exact a7
     refine⟨_,rfl,?_,?_,?_,ab.keep.trans ⟨a8,a9,by rw[ae];exact lQ,λk F _=>ad k (by omega) (by omega)⟩,az.1.moved (λb u=>ad b u.2.2.1 u.2.1) (λb u=>⟨u.2.2.2,by rw[ae];exact u.1⟩),(az.2.keep λb u=>ad b u.2.2.1 u.2.1).mono λb u=>⟨u.2.2.2,by rw[ae];exact u.1⟩⟩
     all_goals simp[World.cell?,setCell,lU,a6]
    rw[<-N];clear N;refine gV (v:=tuple #[agg #[slice x c.next.length B,slice C c.rules.length D,iX t],bool true]) (by simp[results,results62,go_sem,c0,c1,c2]) rfl ?_;exact(au _ _).2 ⟨O.1,.inr ⟨aa,_,_,rfl,O.2.1,O.2.2⟩⟩
section
def jY (ps:List (Value×Bool)):List Value:=ps.flatMap λp=>[p.1,bool p.2]
theorem zHS (ps:List (Value×Bool))(u:Value)(o:Bool):jY (ps++[(u,o)])=jY ps++[u,bool o]:=by simp[jY]
theorem zE3 (ps:List (Value×Bool))(i:Nat)(a:i<ps.length):(jY ps)[i*2]? =some (ps.getD i (undef,false)).1/\(jY ps)[i*2+1]? =some (bool (ps.getD i (undef,false)).2):=by
 induction ps generalizing i with
 |nil=>simp at a
 |cons p ps b=>
  cases i with
  |zero=>exact⟨rfl,rfl⟩
  |succ i=>
   have:=b i (by simpa using a);have e:jY (p::ps)=p.1::bool p.2::jY ps:=rfl;rw[e,show(i+1)*2=i*2+1+1 by omega];exact this
structure Nw (w0 w:World)(nb:Nat)(n:Nt)(sv fv rv ev:Value)(ps:List (Value×Bool)):Prop where
 blk:w.heap[nb]? =some (.cells #[sv,fv,int i64 (n.first:Int),int i64 (n.ends:Int),rv,ev] 132)
 sOwn:w.ownsRow w0.heap.size 161 2 sv n.sets.length (jY ps)
 plen:ps.length=n.sets.length
 each:∀i,i<n.sets.length->RangesAt w0 (ps.getD i (undef,false)).1 (n.sets.getD i ⟨[],false⟩).ranges/\(ps.getD i (undef,false)).2=(n.sets.getD i ⟨[],false⟩).others
 fOwn:OwnI w w0.heap.size fv (ints n.follow)
 rOwn:OwnI w w0.heap.size rv (ints n.rules)
 eOwn:OwnB w w0.heap.size ev n.empty
 fr:∀g,fv.ownBlock=some g->some g≠rv.ownBlock
 nH:w0.heap.size<=nb
 keep:Grew w0 w
def NwIs (w0 w:World)(nb:Nat)(n:Nt):Prop:=∃sv fv rv ev ps,Nw w0 w nb n sv fv rv ev ps
def StayS (w w':World):Prop:=∀(k:Nat) (c:Array Value),w.heap[k]? =some (Obj.cells c 167)->w'.heap[k]? =some (Obj.cells c 167)
theorem StayS.refl (w:World):StayS w w:=λ_ _ a=>a
theorem StayS.trans {w w' a:World}(b:StayS w w')(d:StayS w' a):StayS w a:=λk c e=>d k c (b k c e)
theorem Keep.stayS {w w':World}(d:Grew w w'):StayS w w':=λk c a=>by
 have b:=(kQ.1 a).1;exact(d.block k b (kJ b)).trans a
section
variable {w0 w w2:World} {nb:Nat} {n:Nt} {sv fv rv ev:Value} {ps:List (Value×Bool)}
theorem Nw.lt (a:Nw w0 w nb n sv fv rv ev ps):nb<w.heap.size:=(kQ.1 a.blk).1
theorem Nw.cells (a:Nw w0 w nb n sv fv rv ev ps):w.cell? ⟨nb,0,none⟩=some sv/\w.cell? ⟨nb,1,none⟩=some fv/\w.cell? ⟨nb,2,none⟩=some (iX (n.first:Int))/\w.cell? ⟨nb,3,none⟩=some (iX (n.ends:Int))/\w.cell? ⟨nb,4,none⟩=some rv/\w.cell? ⟨nb,5,none⟩=some ev/\∀i,w.frozen? ⟨nb,i,none⟩=false:=by
 refine⟨?_,?_,?_,?_,?_,?_,λi=>?_⟩
 all_goals first|(unfold cell?;rw[a.blk];rfl)|(unfold frozen?;rw[a.blk];simp)
theorem Nw.box (a:Nw w0 w nb n sv fv rv ev ps):some nb≠sv.ownBlock/\some nb≠fv.ownBlock/\some nb≠rv.ownBlock/\some nb≠ev.ownBlock:=⟨zM a.sOwn a.blk (by decide),zM a.fOwn a.blk (by decide),zM a.rOwn a.blk (by decide),zM a.eOwn a.blk (by decide)⟩
theorem Nw.grown (a:Nw w0 w nb n sv fv rv ev ps)(b:Grew w w2):Nw w0 w2 nb n sv fv rv ev ps:=
 ⟨(b.block nb a.lt (kJ a.lt)).trans a.blk,zK a.sOwn b,a.plen,a.each,zK a.fOwn b,zK a.rOwn b,zK a.eOwn b,a.fr,a.nH,a.keep.trans (b.lower a.keep.size a.keep.size)⟩
theorem Nw.setSpan {b i:Nat}{x:Value}{c:Array Value}(a:Nw w0 w nb n sv fv rv ev ps)(g:w.heap[b]? =some (.cells c 167))(j:w0.heap.size<=b):Nw w0 (w.setCell ⟨b,i,none⟩ x) nb n sv fv rv ev ps:=by
 have e:∀k,k≠b->(w.setCell ⟨b,i,none⟩ x).heap[k]? =w.heap[k]? :=λk d=>lJ _ _ _ _ d;have l:nb≠b:=λf=>by
  have:=a.blk;rw[f,g] at this;simp at this
 have m:=zM a.sOwn g (by decide);have o:=zM a.fOwn g (by decide);have p:=zM a.rOwn g (by decide);have q:=zM a.eOwn g (by decide);exact⟨(e nb l).trans a.blk,zD a.sOwn λk _ _ d=>e k λf=>m (by rw[d,f]),a.plen,a.each,zD a.fOwn λk _ _ d=>e k λf=>o (by rw[d,f]),zD a.rOwn λk _ _ d=>e k λf=>p (by rw[d,f]),zD a.eOwn λk _ _ d=>e k λf=>q (by rw[d,f]),a.fr,a.nH,a.keep.trans (zP _ _ _ _ j)⟩
theorem Nw.setFollow {g cap p x:Nat}(a:Nw w0 w nb n sv (slice (qX g) n.follow.length cap) rv ev ps)(q:p<n.follow.length):Nw w0 (w.setCell ⟨g,p,none⟩ (iX (x:Int))) nb {n with follow:=n.follow.set p x} sv (slice (qX g) n.follow.length cap) rv ev ps/\StayS w (w.setCell ⟨g,p,none⟩ (iX (x:Int))):=by
 have e:∀k,k≠g->(w.setCell ⟨g,p,none⟩ (iX (x:Int))).heap[k]? =w.heap[k]? :=λk d=>lJ _ _ _ _ d;have r:=(a.fOwn.lt g rfl).1;have s:=a.box.2.1;have t:Row w w0.heap.size 3 (slice (qX g) n.follow.length cap) n.follow.length λi=>iX ((ints n.follow).getD i 0):=by
  have:=a.fOwn.rowOf;rw[zO] at this;exact this
 have u:OwnI (w.setCell ⟨g,p,none⟩ (iX (x:Int))) w0.heap.size (slice (qX g) n.follow.length cap) (ints (n.follow.set p x)):=by
  refine Row.ownI ?_;rw[zO,List.length_set];refine Row.congr (t.set p (iX (x:Int))) λi C=>?_;have y:(n.follow.set p x).getD i 0=if i=p then x else n.follow.getD i 0:=by
   rw[lW,List.getElem?_set];by_cases f:i=p
   ·subst f;rw[if_pos rfl,if_pos rfl,if_pos q];rfl
   ·rw[if_neg f,if_neg (Ne.symm f),<-lW]
  rw[jF,jF,y];split <;> rfl
 have l:∀{v:Value} {j o m:Nat} {xs:List Value},w.ownsRow w0.heap.size j o v m xs->3≠j->some g≠v.ownBlock:=λ{v} {j} {o} {m} {xs} A B b=>yC a.fOwn A B (g:=g) rfl b;refine⟨⟨(e nb λb=>s (by rw[b];rfl)).trans a.blk,zD a.sOwn λk _ _ d=>e k λb=>l a.sOwn (by decide) (by rw[d,b]),a.plen,a.each,u,zD a.rOwn λk _ _ d=>e k λb=>a.fr g rfl (by rw[d,b]),zD a.eOwn λk _ _ d=>e k λb=>l a.eOwn (by decide) (by rw[d,b]),a.fr,a.nH,a.keep.trans (zP _ _ _ _ r)⟩,λk c d=>(e k λb=>?_).trans d⟩;exact zM a.fOwn d (by decide) (by rw[b];rfl)
end
end
def Nt.linkTo (n:Nt)(from_ to:Nat):Nat->Nt
 |0=>n
 |j+1=>if from_.testBit j then{n.linkTo from_ to j with follow:=(n.linkTo from_ to j).follow.set j ((n.linkTo from_ to j).follow.getD j 0|||to)} else n.linkTo from_ to j
def Nt.link (n:Nt)(from_ to:Nat):Nt:=n.linkTo from_ to n.follow.length
theorem zGj (n:Nt)(a b j:Nat):(n.linkTo a b j).follow.length=n.follow.length:=by
 induction j with
 |zero=>rfl
 |succ j c=>
  unfold Nt.linkTo;split
  ·show(List.set _ _ _).length=_;rw[List.length_set,c]
  ·exact c
theorem zPb {b:Type}{l:List b}{i:Nat}{x y:b}(c:y∈l.set i x):y=x\/y∈l:=by
 rcases List.mem_or_eq_of_mem_set c with a|a
 ·exact .inr a
 ·exact .inl a
theorem zD8 {n:Nt}{c:Nat}(a b j:Nat)(f:b<2^c)(g:∀x∈n.follow,x<2^c):∀x∈(n.linkTo a b j).follow,x<2^c:=by
 induction j with
 |zero=>exact g
 |succ j d=>
  unfold Nt.linkTo;split
  ·intro x i
   rcases zPb i with e|e
   ·subst e
    refine Nat.or_lt_two_pow ?_ f;by_cases k:j<(n.linkTo a b j).follow.length
    ·exact d _ (zY _ _ 0 k)
    ·rw[lW,List.getElem?_eq_none (by omega)];exact Nat.pow_pos (by omega)
   ·exact d x e
  ·exact d
theorem zGi (l w:World)(f:Nat)(n:Nt)(o:NwIs l w f n)(Y:n.follow.length<=24)(E:∀x∈n.follow,x<2^24)(a b:Nat)(aa:a<16777216)(F:b<2^24):
  Calls prog 166 #[pX f,iX (a:Int),iX (b:Int)] w λe w'=>e=returned (tuple #[])/\NwIs l w' f (n.link a b)/\StayS w w':=by
 have ab:b<16777216:=F;obtain⟨c,G⟩:∃c,c=n.linkTo a b:=⟨_,rfl⟩
 have t:Hid (c 0=n/\(∀j,a.testBit j=true->c (j+1)={c j with follow:=(c j).follow.set j ((c j).follow.getD j 0|||b)})/\(∀j,a.testBit j=false->c (j+1)=c j)/\(∀j,(c j).follow.length=n.follow.length/\∀x∈(c j).follow,x<16777216)/\c n.follow.length=n.link a b):=by
  rw[G];refine⟨rfl,λj o=>?_,λj o=>?_,λj=>⟨zGj n a b j,zD8 a b j F E⟩,rfl⟩
  ·show(if a.testBit j=true then _ else _)=_;rw[if_pos o]
  ·show(if a.testBit j=true then _ else _)=_;rw[if_neg (by rw[o];decide)]
 have H:Hid (∀wr m,NwIs l wr f m->∃u cap,cX wr f 1=some (slice u m.follow.length cap)/\∀p,p<m.follow.length->∃g,u=some ⟨g,0,none⟩/\cX wr g p=some (iX ((m.follow.getD p 0:Nat):Int))/\wr.frozen? ⟨g,p,none⟩=false/\∀x:Nat,NwIs l (wr.setCell ⟨g,p,none⟩ (iX (x:Int))) f {m with follow:=m.follow.set p x}/\StayS wr (wr.setCell ⟨g,p,none⟩ (iX (x:Int)))):=by
  rintro wr m ⟨sv,ac,rv,ad,ae,d⟩;obtain⟨u,cap,I⟩:=d.fOwn.form;rw[zO] at I;subst I;refine⟨u,cap,d.cells.2.1,λp J=>?_⟩;obtain⟨g,rfl⟩:=d.fOwn.some (by rw[zO];omega);have K:=d.fOwn.cell p (by rw[zO];exact J);rw[jF] at K;refine⟨g,rfl,K,?_,λx=>?_⟩
  ·obtain⟨af,c2,P,_,_,_,_,_,Q⟩:=d.fOwn.rowOf.get (by rw[zO];omega)
   injection P with v _ _;injection v with v;injection v with v;rw[v];exact Q p
  ·have:=d.setFollow (x:=x) J
   exact⟨⟨_,_,_,_,_,this.1⟩,this.2⟩
 have R:=vl o;obtain⟨ag,ah,S,-⟩:=H w n o;generalize n.link a b=T at *;clear G o E;generalize U:n.follow.length=k at *;clear U;go_in;go_wp2;clear S;go_loopg [12] k (λq i wr=>∃j:Nat,q=k-j/\j<=k/\i=iX (j:Int)/\NwIs l wr f (c j)/\StayS w wr)
 case atStart=>exact⟨0,rfl,lX,rfl,by rw[t.out.1];exact R,StayS.refl _⟩
 case round=>
  obtain⟨j,A,ai,rfl,d,y⟩:=hrel;have z:Hid (gk=k-j/\NwIs l wr f (c j)/\StayS w wr):=⟨A,d,y⟩
  by_cases aj:j<k
  ·have V:(j:Int)<(k:Int):=by omega
   obtain⟨B,C⟩:=t.2.2.2.1 j;have M:=zMe a j (by omega);cases r:a.testBit j with
   |false=>
    rw[r] at M;have s:=vl <| t.2.2.1 j r;clear A d y B C r;go_wp2;go_roundg (k-(j+1))
    case measure=>rw[z.out.1];omega
    case rel=>exact⟨j+1,rfl,by omega,by go_num,by rw[s.out];exact z.2.1,z.2.2⟩
   |true=>
    rw[r] at M;have s:=vl <| t.2.1 j r;obtain⟨u,cap,W,N⟩:=H wr (c j) d;obtain⟨g,rfl,ak,al,O⟩:=N j (by omega);have D:Hid (NwIs l (wr.setCell ⟨g,j,none⟩ (iX (((c j).follow.getD j 0|||b:Nat):Int))) f {c j with follow:=(c j).follow.set j ((c j).follow.getD j 0|||b)}/\StayS wr (wr.setCell ⟨g,j,none⟩ (iX (((c j).follow.getD j 0|||b:Nat):Int)))):=O _;have am:=C _ (zY (c j).follow j 0 (by omega));have X:Hid (bits .or i64 (((c j).follow.getD j 0:Nat):Int) (b:Int)=(((c j).follow.getD j 0|||b:Nat):Int)):=qA _ _ (by omega) (by omega);rw[B] at W;clear A d y B C r N O;rw[<-s.out,<-X.out] at D;generalize (c j).follow.getD j 0=x at *;go_wp2;go_roundg (k-(j+1))
    case measure=>rw[z.out.1];omega
    case rel=>exact⟨j+1,rfl,by omega,by go_num,D.1,z.2.2.trans D.2⟩
  ·have V:(k:Int)<=(j:Int):=by omega
   have e:j=k:=by omega
   subst e;have s:Hid (NwIs l wr f T/\StayS w wr):=⟨by rw[<-t.out.2.2.2.2];exact d,y⟩
   clear A d y;go_wp2;go_end0;exact⟨rfl,s.1,s.2⟩
section
structure Sn where
 first:Nat
 last:Nat
 empty:Bool
def Sn.val (s:Sn):Value:=agg #[int i64 (s.first:Int),int i64 (s.last:Int),bool s.empty]
def Sn.cells (s:Sn):Array Value:=#[int i64 (s.first:Int),int i64 (s.last:Int),bool s.empty]
def Sn.then (a b:Sn):Sn:=⟨if a.empty then a.first|||b.first else a.first,if b.empty then b.last|||a.last else b.last,a.empty&&b.empty⟩
structure Sn.Small (s:Sn)(k:Nat):Prop where
 first:s.first<2^k
 last:s.last<2^k
theorem Sn.then_small {a b:Sn}{k:Nat}(d:a.Small k)(e:b.Small k):(a.then b).Small k:=by
 constructor
 ·show(if _ then _ else _)<_
  split
  ·exact Nat.or_lt_two_pow d.first e.first
  ·exact d.first
 ·show(if _ then _ else _)<_
  split
  ·exact Nat.or_lt_two_pow e.last d.last
  ·exact e.last
theorem NwIs.grown {w0 w w2:World}{nb:Nat}{n:Nt}(d:NwIs w0 w nb n)(e:Grew w w2):NwIs w0 w2 nb n:=by
 obtain⟨sv,f,rv,g,i,d⟩:=d;exact⟨sv,f,rv,g,i,d.grown e⟩
structure Three (w0 w wr:World)(nb:Nat)(n:Nt)(a b c:Sn):Prop where
 net:NwIs w0 wr nb n
 a1:wr.heap[w.heap.size]? =some (.cells a.cells 167)
 b1:wr.heap[w.heap.size+1]? =some (.cells b.cells 167)
 c1:wr.heap[w.heap.size+1+1]? =some (.cells c.cells 167)
 stay:StayS w wr
 old:w0.heap.size<=w.heap.size
section
variable {w0 w wr w2:World} {nb:Nat} {n:Nt} {a b c:Sn}
theorem Three.at (d:Three w0 w wr nb n a b c):wr.cell? ⟨w.heap.size,0,none⟩=some (iX (a.first:Int))/\wr.cell? ⟨w.heap.size,1,none⟩=some (iX (a.last:Int))/\wr.cell? ⟨w.heap.size,2,none⟩=some (bool a.empty)/\wr.cell? ⟨w.heap.size+1,0,none⟩=some (iX (b.first:Int))/\wr.cell? ⟨w.heap.size+1,1,none⟩=some (iX (b.last:Int))/\wr.cell? ⟨w.heap.size+1,2,none⟩=some (bool b.empty)/\wr.cell? ⟨w.heap.size+1+1,0,none⟩=some (iX (c.first:Int))/\wr.cell? ⟨w.heap.size+1+1,1,none⟩=some (iX (c.last:Int))/\wr.cell? ⟨w.heap.size+1+1,2,none⟩=some (bool c.empty):=by
 refine⟨?_,?_,?_,?_,?_,?_,?_,?_,?_⟩
 all_goals first|(unfold cell?;rw[d.a1];rfl)|(unfold cell?;rw[d.b1];rfl)|(unfold cell?;rw[d.c1];rfl)
theorem Three.fz (d:Three w0 w wr nb n a b c)(i:Nat):wr.frozen? ⟨w.heap.size,i,none⟩=false/\wr.frozen? ⟨w.heap.size+1,i,none⟩=false/\wr.frozen? ⟨w.heap.size+1+1,i,none⟩=false:=by
 refine⟨?_,?_,?_⟩
 ·unfold frozen?;rw[d.a1];simp
 ·unfold frozen?;rw[d.b1];simp
 ·unfold frozen?;rw[d.c1];simp
theorem NwIs.setSpan {b i:Nat}{x:Value}{c:Array Value}(d:NwIs w0 w nb n)(e:w.heap[b]? =some (.cells c 167))(f:w0.heap.size<=b):NwIs w0 (w.setCell ⟨b,i,none⟩ x) nb n:=by
 obtain⟨sv,g,rv,j,k,d⟩:=d;exact⟨sv,g,rv,j,k,d.setSpan e f⟩
theorem zAp {b i:Nat}{x:Value}(e:StayS w wr)(f:w.heap.size<=b):StayS w (wr.setCell ⟨b,i,none⟩ x):=λk c d=>by
 have g:=(kQ.1 d).1;exact(lJ _ _ _ _ (by show k≠b;omega)).trans (e k c d)
theorem Three.setA (d:Three w0 w wr nb n a b c)(x:Nat):Three w0 w (wr.setCell ⟨w.heap.size,0,none⟩ (iX (x:Int))) nb n {a with first:=x} b c:=by
 have e:∀k,k≠w.heap.size->(wr.setCell ⟨w.heap.size,0,none⟩ (iX (x:Int))).heap[k]? =wr.heap[k]? :=λk f=>lJ _ _ _ _ f;exact⟨d.net.setSpan d.a1 d.old,by simp[setCell,lU,d.a1,Sn.cells],(e _ (by omega)).trans d.b1,(e _ (by omega)).trans d.c1,zAp d.stay lQ,d.old⟩
theorem Three.setB (d:Three w0 w wr nb n a b c)(x:Nat):Three w0 w (wr.setCell ⟨w.heap.size+1,1,none⟩ (iX (x:Int))) nb n a {b with last:=x} c:=by
 have e:∀k,k≠w.heap.size+1->(wr.setCell ⟨w.heap.size+1,1,none⟩ (iX (x:Int))).heap[k]? =wr.heap[k]? :=λk f=>lJ _ _ _ _ f;have:=d.old;exact⟨d.net.setSpan d.b1 (by omega),(e _ (by omega)).trans d.a1,by simp[setCell,lU,d.b1,Sn.cells],(e _ (by omega)).trans d.c1,zAp d.stay (by omega),d.old⟩
theorem Three.setC (d:Three w0 w wr nb n a b c)(s:Sn):Three w0 w (((wr.setCell ⟨w.heap.size+1+1,0,none⟩ (iX (s.first:Int))).setCell ⟨w.heap.size+1+1,1,none⟩ (iX (s.last:Int))).setCell ⟨w.heap.size+1+1,2,none⟩ (bool s.empty)) nb n a b s:=by
 have e:∀(f:World) (i k:Nat) (x:Value),k≠w.heap.size+1+1->(f.setCell ⟨w.heap.size+1+1,i,none⟩ x).heap[k]? =f.heap[k]? :=λf i k x j=>lJ _ _ _ _ j;have m:=d.old;have c2:(wr.setCell ⟨w.heap.size+1+1,0,none⟩ (iX (s.first:Int))).heap[w.heap.size+1+1]? =some (.cells #[iX (s.first:Int),iX (c.last:Int),bool c.empty] 167):=by simp[setCell,lU,d.c1,Sn.cells]
 have g:((wr.setCell ⟨w.heap.size+1+1,0,none⟩ (iX (s.first:Int))).setCell ⟨w.heap.size+1+1,1,none⟩ (iX (s.last:Int))).heap[w.heap.size+1+1]? =some (.cells #[iX (s.first:Int),iX (s.last:Int),bool c.empty] 167):=by
  generalize l:wr.setCell ⟨w.heap.size+1+1,0,none⟩ (iX (s.first:Int))=f at *;simp[setCell,lU,c2]
 refine⟨((d.net.setSpan d.c1 (by omega)).setSpan c2 (by omega)).setSpan g (by omega),(e _ _ _ _ (by omega)).trans ((e _ _ _ _ (by omega)).trans ((e _ _ _ _ (by omega)).trans d.a1)),(e _ _ _ _ (by omega)).trans ((e _ _ _ _ (by omega)).trans ((e _ _ _ _ (by omega)).trans d.b1)),?_,zAp (zAp (zAp d.stay (by omega)) (by omega)) (by omega),d.old⟩;generalize l:(wr.setCell ⟨w.heap.size+1+1,0,none⟩ (iX (s.first:Int))).setCell ⟨w.heap.size+1+1,1,none⟩ (iX (s.last:Int))=f at *;simp[setCell,lU,g,Sn.cells]
theorem Three.start (g:NwIs w0 w nb n)(i:w0.heap.size<=w.heap.size)(a b:Sn):Three w0 w (((w.alloc (.cells a.cells 167)).alloc (.cells b.cells 167)).alloc (.cells (Sn.mk 0 0 false).cells 167)) nb n a b ⟨0,0,false⟩:=by
 have s1:(w.alloc (.cells a.cells 167)).heap.size=w.heap.size+1:=by simp
 have s2:((w.alloc (.cells a.cells 167)).alloc (.cells b.cells 167)).heap.size=w.heap.size+1+1:=by simp
 have d:=kZ (b:=w.heap.size) w (.cells a.cells 167) lQ;have e:=kZ (b:=(w.alloc (.cells a.cells 167)).heap.size) (w.alloc (.cells a.cells 167)) (.cells b.cells 167) lQ;have f:=kZ (b:=((w.alloc (.cells a.cells 167)).alloc (.cells b.cells 167)).heap.size) ((w.alloc (.cells a.cells 167)).alloc (.cells b.cells 167)) (.cells (Sn.mk 0 0 false).cells 167) lQ;refine⟨((g.grown d).grown e).grown f,?_,?_,?_,(d.stayS.trans e.stayS).trans f.stayS,i⟩
 ·exact(lG _ _ _ (by rw[s2];omega)).trans ((lG _ _ _ (by rw[s1];omega)).trans (gX _ _))
 ·refine(lG _ _ _ (by rw[s2];omega)).trans ?_
  have:=gX (w.alloc (.cells a.cells 167)) (.cells b.cells 167);rw[s1] at this;exact this
 ·have:=gX ((w.alloc (.cells a.cells 167)).alloc (.cells b.cells 167)) (.cells (Sn.mk 0 0 false).cells 167)
  rw[s2] at this;exact this
theorem Three.call {f:Nt}(d:Three w0 w wr nb n a b c)(g:NwIs w0 w2 nb f)(e:StayS wr w2):Three w0 w w2 nb f a b c:=⟨g,e _ _ d.a1,e _ _ d.b1,e _ _ d.c1,d.stay.trans e,d.old⟩
end
end
theorem zDw (r w:World)(o:Nat)(n:Nt)(A:NwIs r w o n)(an:n.follow.length<=24)(ao:∀x∈n.follow,x<2^24)(a b:Sn)(C:a.Small 24)(D:b.Small 24):
  Calls prog 164 #[pX o,a.val,b.val] w λe w'=>e=returned (a.then b).val/\NwIs r w' o (n.link a.last b.first)/\StayS w w':=by
 have ap:r.heap.size<=w.heap.size:=by obtain⟨_,_,_,_,_,A⟩:=A;exact A.keep.size
 have B:Hid (∀w2,NwIs r w2 o n->Ca 166 #[pX o,iX (a.last:Int),iX (b.first:Int)] w2 λe w'=>e=returned (tuple #[])/\NwIs r w' o (n.link a.last b.first)/\StayS w2 w'):=λw2 E=>zGi r w2 o n E an ao a.last b.first C.last D.first
 obtain⟨q,aj,p⟩:∃q,q=((w.alloc (.cells a.cells 167)).alloc (.cells b.cells 167)).alloc (.cells (Sn.mk 0 0 false).cells 167)/\Three r w q o n a b ⟨0,0,false⟩:=⟨_,rfl,Three.start A ap a b⟩
 have aq:a.first<16777216:=C.first
 have ar:a.last<16777216:=C.last;have au:b.first<16777216:=D.first
 have av:b.last<16777216:=D.last;obtain⟨d,i,F⟩:=a;obtain⟨j,f,G⟩:=b;have aZ:d<16777216:=aq;have a0:i<16777216:=ar;have a1:j<16777216:=au;have a2:f<16777216:=av;have a3:bits .or i64 (d:Int) (j:Int)=((d|||j:Nat):Int):=qA _ _ (by omega) (by omega);have a4:bits .or i64 (f:Int) (i:Int)=((f|||i:Nat):Int):=qA _ _ (by omega) (by omega);obtain⟨a5,a6,a7,y3,a8,y5,a9,ba,bb⟩:=p.at
 show Calls prog 164 #[pX o,agg #[iX (d:Int),iX (i:Int),bool F],agg #[iX (j:Int),iX (f:Int),bool G]] w _;go_in;apply wp_cut;intro bc ak;go_wp2;apply ak.out;clear ak;have am:q=((w.alloc (Obj.cells #[iX (d:Int),iX (i:Int),bool F] 167)).alloc (Obj.cells #[iX (j:Int),iX (f:Int),bool G] 167)).alloc (Obj.cells #[iX 0,iX 0,bool false] 167):=aj;rw[<-am];clear aj am;rcases F with _|_ <;> rcases G with _|_
 ·have k:=vl p
  clear p;go_wp2_with (first|(go_at_call 166;refine(B q k.net).mono ?_;rintro e H ⟨rfl,s,t⟩;have c:=k.call s t;obtain⟨I,J,K,L,M,N,O,P,Q⟩:=c.at;obtain⟨R,S,T⟩:=c.fz 0;obtain⟨U,V,W⟩:=c.fz 1;obtain⟨X,Y,aa⟩:=c.fz 2;have g:=c.setC ⟨d,f,false⟩;obtain⟨ab,ac,ad,ag,ah,ai,u,y,z⟩:=g.at))
  refine gV (v:=agg #[iX ((d:Nat):Int),iX ((f:Nat):Int),bool false]) (by simp[results,results164,go_sem,u,y,z]) rfl ?_;exact⟨rfl,g.net,g.stay⟩
 ·have k:=vl p
  clear p;go_wp2_with (first|(go_at_call 166;refine(B q k.net).mono ?_;rintro e H ⟨rfl,s,t⟩;have c:=k.call s t;obtain⟨I,J,K,L,M,N,O,P,Q⟩:=c.at;obtain⟨R,S,T⟩:=c.fz 0;obtain⟨U,V,W⟩:=c.fz 1;obtain⟨X,Y,aa⟩:=c.fz 2;have l:=c.setB (f|||i);obtain⟨v0,v1,v2,aw,ax,ay,az,aA,aB⟩:=l.at;obtain⟨aC,aD,E⟩:=l.fz 0;obtain⟨aE,aF,aG⟩:=l.fz 1;obtain⟨aH,aI,aJ⟩:=l.fz 2;have g:=l.setC ⟨d,f|||i,false⟩;obtain⟨ab,ac,ad,ag,ah,ai,u,y,z⟩:=g.at))
  refine gV (v:=agg #[iX ((d:Nat):Int),iX ((f|||i:Nat):Int),bool false]) (by simp[results,results164,go_sem,u,y,z]) rfl ?_;exact⟨rfl,g.net,g.stay⟩
 ·have k:=vl p
  clear p;go_wp2_with (first|(go_at_call 166;refine(B q k.net).mono ?_;rintro e H ⟨rfl,s,t⟩;have c:=k.call s t;obtain⟨I,J,K,L,M,N,O,P,Q⟩:=c.at;obtain⟨R,S,T⟩:=c.fz 0;obtain⟨U,V,W⟩:=c.fz 1;obtain⟨X,Y,aa⟩:=c.fz 2;have m:=c.setA (d|||j);obtain⟨s0,s1,s2,aK,aL,aM,aN,aO,aP⟩:=m.at;obtain⟨aQ,aR,aS⟩:=m.fz 0;obtain⟨aT,aU,aV⟩:=m.fz 1;obtain⟨aW,aX,aY⟩:=m.fz 2;have g:=m.setC ⟨d|||j,f,false⟩;obtain⟨ab,ac,ad,ag,ah,ai,u,y,z⟩:=g.at))
  refine gV (v:=agg #[iX ((d|||j:Nat):Int),iX ((f:Nat):Int),bool false]) (by simp[results,results164,go_sem,u,y,z]) rfl ?_;exact⟨rfl,g.net,g.stay⟩
 ·have k:=vl p
  clear p;go_wp2_with (first|(go_at_call 166;refine(B q k.net).mono ?_;rintro e H ⟨rfl,s,t⟩;have c:=k.call s t;obtain⟨I,J,K,L,M,N,O,P,Q⟩:=c.at;obtain⟨R,S,T⟩:=c.fz 0;obtain⟨U,V,W⟩:=c.fz 1;obtain⟨X,Y,aa⟩:=c.fz 2;have m:=c.setA (d|||j);obtain⟨s0,s1,s2,aK,aL,aM,aN,aO,aP⟩:=m.at;obtain⟨aQ,aR,aS⟩:=m.fz 0;obtain⟨aT,aU,aV⟩:=m.fz 1;obtain⟨aW,aX,aY⟩:=m.fz 2;have l:=m.setB (f|||i);obtain⟨v0,v1,v2,aw,ax,ay,az,aA,aB⟩:=l.at;obtain⟨aC,aD,E⟩:=l.fz 0;obtain⟨aE,aF,aG⟩:=l.fz 1;obtain⟨aH,aI,aJ⟩:=l.fz 2;have g:=l.setC ⟨d|||j,f|||i,true⟩;obtain⟨ab,ac,ad,ag,ah,ai,u,y,z⟩:=g.at))
  refine gV (v:=agg #[iX ((d|||j:Nat):Int),iX ((f|||i:Nat):Int),bool true]) (by simp[results,results164,go_sem,u,y,z]) rfl ?_;exact⟨rfl,g.net,g.stay⟩
section
attribute [local go_sem ↓] Go.wp_at_zero Go.wp_at_succ
theorem zPh:(prog.info? 161).map (λi=>(i.zero,i.size,i.bytes))=some (some (agg #[slice none 0 0,bool false]),2,32):=by kernel_rfl
section
variable {w0 w w2:World} {nb:Nat} {n:Nt} {sv fv rv ev:Value} {ps:List (Value×Bool)}
theorem Nw.addSet {o:Obj}{g cap m:Nat}{u:Value}{c:Cs}(b:Nw w0 w nb n sv fv rv ev ps)(r:m=n.sets.length)(s:RangesAt w0 u c.ranges)(t:w2.ownsRow w0.heap.size 161 2 (slice (qX g) (m+1) cap) (m+1) (jY ps++[u,bool c.others]))(f:(w.alloc o).grownBy w2 sv.ownBlock)(v:sv.ownBlock=some g\/w.heap.size<=g):
  Nw w0 (w2.setCell ⟨nb,0,none⟩ (slice (qX g) (m+1) cap)) nb {n with sets:=n.sets++[c]} (slice (qX g) (m+1) cap) fv rv ev (ps++[(u,c.others)])/\StayS w (w2.setCell ⟨nb,0,none⟩ (slice (qX g) (m+1) cap)):=by
 subst r;have l:=b.box;have x:=b.lt;have p:∀j,j<w.heap.size->some j≠sv.ownBlock->w2.heap[j]? =w.heap[j]? :=λj J y=>(f.block j (by simp;omega) y).trans (lG _ _ _ (by omega));have z:w.heap.size<=w2.heap.size:=lY (by simp) f.size;have A:=(p nb x l.1).trans b.blk;have e:∀k,k≠nb->(w2.setCell ⟨nb,0,none⟩ (slice (qX g) (n.sets.length+1) cap)).heap[k]? =w2.heap[k]? :=λk a=>lJ _ _ _ _ a;have B:=zQ f b.fOwn λk a=>yC b.fOwn b.sOwn (by decide) a;have C:=zQ f b.rOwn λk a=>yC b.rOwn b.sOwn (by decide) a;have D:=zQ f b.eOwn λk a=>yC b.eOwn b.sOwn (by decide) a;have K:nb≠g:=λd=>by
  rcases v with q|q
  ·exact l.1 (by rw[q,d])
  ·omega
 have E:=b.plen;have F:(n.sets++[c]).length=n.sets.length+1:=by simp
 refine⟨⟨by simp[setCell,lU,A],?_,by simp[E],λi G=>?_,zD B λk _ _ a=>e k λd=>l.2.1 (by rw[a,d]),zD C λk _ _ a=>e k λd=>l.2.2.1 (by rw[a,d]),zD D λk _ _ a=>e k λd=>l.2.2.2 (by rw[a,d]),b.fr,b.nH,b.keep.trans ⟨f.os,f.output,by rw[zC];exact z,λk a _=>(e k (by have:=b.nH;omega)).trans (p k (by have:=b.keep.size;omega) λd=>by have:=(b.sOwn.lt k d.symm).1;omega)⟩⟩,λk L a=>?_⟩
 ·show World.ownsRow _ _ _ _ _ (n.sets++[c]).length (jY (ps++[(u,c.others)]))
  rw[F,zHS];exact zD t λk _ _ a=>e k λd=>by
   have:g=k:=by simpa[Value.ownBlock] using a
   omega
 ·have M:i<(n.sets++[c]).length:=G
  show RangesAt w0 ((ps++[(u,c.others)]).getD i (undef,false)).1 ((n.sets++[c]).getD i ⟨[],false⟩).ranges/\((ps++[(u,c.others)]).getD i (undef,false)).2=((n.sets++[c]).getD i ⟨[],false⟩).others;by_cases N:i=n.sets.length
  ·rw[lW,hZ (by omega),show i-ps.length=0 by omega,lW,hZ (by omega),show i-n.sets.length=0 by omega]
   exact⟨s,rfl⟩
  ·rw[lW,kW (by omega),lW,kW (by omega),<-lW,<-lW]
   exact b.each i (by omega)
 ·have H:=(kQ.1 a).1
  have I:k≠nb:=λd=>by
   rw[d,b.blk] at a;injection a with a;injection a with _ a;exact absurd a (by decide)
  exact(e k I).trans ((p k H (zM b.sOwn a (by decide))).trans a)
theorem Nw.addFollow {o:Obj}{g cap m x:Nat}(b:Nw w0 w nb n sv fv rv ev ps)(s:m=n.follow.length)(t:w2.ownsRow w0.heap.size 3 1 (slice (qX g) (m+1) cap) (m+1) (((ints n.follow).map λx=>iX x)++[iX (x:Int)]))(d:(w.alloc o).grownBy w2 fv.ownBlock)(p:fv.ownBlock=some g\/w.heap.size<=g):
  Nw w0 (w2.setCell ⟨nb,1,none⟩ (slice (qX g) (m+1) cap)) nb {n with follow:=n.follow++[x]} sv (slice (qX g) (m+1) cap) rv ev ps/\StayS w (w2.setCell ⟨nb,1,none⟩ (slice (qX g) (m+1) cap)):=by
 subst s;have f:=b.box;have u:=b.lt;have i:∀j,j<w.heap.size->some j≠fv.ownBlock->w2.heap[j]? =w.heap[j]? :=λj G v=>(d.block j (by simp;omega) v).trans (lG _ _ _ (by omega));have y:w.heap.size<=w2.heap.size:=lY (by simp) d.size;have z:=(i nb u f.2.1).trans b.blk;have e:∀k,k≠nb->(w2.setCell ⟨nb,1,none⟩ (slice (qX g) (n.follow.length+1) cap)).heap[k]? =w2.heap[k]? :=λk a=>lJ _ _ _ _ a;have A:=zQ d b.sOwn λk a=>yC b.sOwn b.fOwn (by decide) a;have B:=zQ d b.rOwn λk a c=>b.fr k c.symm a.symm;have C:=zQ d b.eOwn λk a=>yC b.eOwn b.fOwn (by decide) a;have H:nb≠g:=λc=>by
  rcases p with q|q
  ·exact f.2.1 (by rw[q,c])
  ·omega
 have D:OwnI w2 w0.heap.size (slice (qX g) (n.follow.length+1) cap) (ints (n.follow++[x])):=by
  rw[zBN];have:=zO n.follow;have r:=OwnI.snoc (l:=ints n.follow) (x:=(x:Int)) (by rw[this];exact t);rw[this] at r;exact r
 refine⟨⟨by simp[setCell,lU,z],zD A λk _ _ a=>e k λc=>f.1 (by rw[a,c]),b.plen,b.each,zD D λk _ _ a=>e k λc=>?_,zD B λk _ _ a=>e k λc=>f.2.2.1 (by rw[a,c]),zD C λk _ _ a=>e k λc=>f.2.2.2 (by rw[a,c]),qN b.rOwn b.fr p,b.nH,b.keep.trans ⟨d.os,d.output,by rw[zC];exact y,λk a _=>(e k (by have:=b.nH;omega)).trans (i k (by have:=b.keep.size;omega) λc=>by have:=(b.fOwn.lt k c.symm).1;omega)⟩⟩,λk I a=>?_⟩
 ·have:g=k:=by simpa[Value.ownBlock] using a
  omega
 ·have E:=(kQ.1 a).1
  have F:k≠nb:=λc=>by
   rw[c,b.blk] at a;injection a with a;injection a with _ a;exact absurd a (by decide)
  exact(e k F).trans ((i k E (zM b.fOwn a (by decide))).trans a)
end
def Nt.place (n:Nt)(c:Cs):Nt:={n with sets:=n.sets++[c],follow:=n.follow++[0]}
def Nt.spot (n:Nt):Sn:=⟨2^n.sets.length,2^n.sets.length,false⟩
end
end Go.Proofs.YtbjcfkdnjaiclaaGreat
