import Derived.Test.YtbjcfkdnjaiclaaGreatS0
import Derived.Test.YtbjcfkdnjaiclaaGreatS10
/- Parts of the proof. -/
set_option linter.unusedVariables false
set_option linter.unusedSimpArgs false
set_option maxHeartbeats 4000000
set_option maxRecDepth 100000
namespace Go.Proofs.YtbjcfkdnjaiclaaGreat
open Go.RowKit Go.Proofs.Tryz Go.World
open Go.Value (int slice bool pointer string agg tuple)
open Go.IntKind (i64)
open Go.Ending (returned)
section
def Sq.look (s:Sq)(d:Sf)(x:Nat):Nat:=zA3 s.rules d.marks d.found x
def Sq.tail (s:Sq)(d:Sf)(x:Nat):Int:=zA4 s.rules s.tails x (d.found.getD (s.look d x) 0)
def Sq.kind (s:Sq)(d:Sf)(x:Nat):Nat:=if s.look d x<d.found.length then(if s.tail d x<0 then s.look d x else d.found.length) else d.found.length
def Sq.kindS (s:Sq)(d:Sf)(x:Nat):Sf:=if s.look d x<d.found.length then(if s.tail d x<0 then d else⟨d.found++[x],d.marks++[(s.tail d x).toNat]⟩) else⟨d.found++[x],d.marks⟩
theorem Sq.look_le (s:Sq)(d:Sf)(x:Nat):s.look d x<=d.found.length:=zIT _ _ _ _
section
variable {w:World} {X:Nat->Prop} {p:Nat} {s:Sq} {d:Sf} {fv mv:Value}
theorem SoAt.unmarked (a:SoAt w X p s d fv mv)(b:d.marks.length<=1000000000000)(c:d.found.length<=1000000000000)(x:Nat)(f:x<16777216):
  Calls prog 130 #[pX p,iX x] w λe w'=>e=returned (iX (s.look d x))/\Grew w w':=
 zFL w p s.q s.rv mv fv s.rules d.marks d.found a.so a.cells.2.2.2.2.2.1 (zBb a.own2) b a.msm a.cells.2.2.2.2.1 (zBb a.own1) c a.fsm x f
theorem SoAt.between (c:SoAt w X p s d fv mv)(a b:Nat)(f:a<16777216)(g:b<16777216):
  Calls prog 131 #[pX p,iX a,iX b] w λe w'=>e=returned (iX (zA4 s.rules s.tails a b))/\Grew w w':=
 zDR w p s.q s.rv s.tl s.rules s.tails c.so c.cells.2.2.2.1 (c.tls.mono c.xl) (lY c.tlen (by omega)) c.tsm a b f g
end
theorem zIn (w:World)(X:Nat->Prop)(p:Nat)(s:Sq)(d:Sf)(j:zQm w X p s d)(aB:d.marks.length<=100000000000)(aC:d.found.length<=100000000000)(x:Nat)(F:x<16777216):
  Calls prog 94 #[pX p,iX x] w λe w'=>e=returned (iX (s.kind d x))/\zQm w' X p s (s.kindS d x)/\KeepX X w w':=by
 obtain⟨J,K,L,M,N⟩:=info_parts yF;obtain⟨fv,mv,j⟩:=j;have O:=vl <| j.unmarked (by omega) (by omega) x F;obtain⟨B,q,Y⟩:=j.own1.form;rw[zO] at Y;obtain⟨C,D,aa⟩:=j.own2.form;rw[zO] at aa;subst Y aa;have f:Hid (∀w2,Grew w w2->SoAt w2 X p s d (slice B d.found.length q) (slice C d.marks.length D)):=λw2 i=>j.grown i;have P:Hid (∀w2,Grew w w2->KeepX X w w2):=λw2 i=>i.kx λk a=>⟨j.xl k a,kJ (j.xl k a)⟩
 have ak:Hid (∀w2,SoAt w2 X p s d (slice B d.found.length q) (slice C d.marks.length D)->w2.ownsRow 0 3 1 (slice B d.found.length q) d.found.length ((ints d.found).map λx=>iX x)):=λw2 Q=>by
  have:=Q.own1;unfold OwnI at this;rw[zO] at this;exact this
 have al:Hid (∀w2,SoAt w2 X p s d (slice B d.found.length q) (slice C d.marks.length D)->w2.ownsRow 0 3 1 (slice C d.marks.length D) d.marks.length ((ints d.marks).map λx=>iX x)):=λw2 Q=>by
  have:=Q.own2;unfold OwnI at this;rw[zO] at this;exact this
 have aD:=s.look_le d x;by_cases i:s.look d x<d.found.length
 ·have a:((s.look d x:Nat):Int)<(d.found.length:Int):=by omega
  have an:d.found.getD (s.look d x) 0<16777216:=j.fsm _ (zY _ _ 0 i);obtain⟨G,rfl⟩:=j.own1.some (by rw[zO];omega);have ab:Hid (∀w2,Grew w w2->cX w2 G (s.look d x)=some (iX ((d.found.getD (s.look d x) 0:Nat):Int))):=λw2 a=>by
   have:=(f w2 a).own1.cell (s.look d x) (by rw[zO];exact i);rw[jF] at this;exact this
  have R:Hid (∀w2,Grew w w2->Ca 131 #[pX p,iX (x:Int),iX ((d.found.getD (s.look d x) 0:Nat):Int)] w2 λe w'=>e=returned (iX (s.tail d x))/\Grew w w'):=λw2 a=>by
   refine((f w2 a).between x _ F an).mono ?_;rintro e b ⟨rfl,c⟩;exact⟨rfl,a.trans (c.lower a.size a.size)⟩
  have ao:Hid (s.tail d x=-1\/∃t:Nat,s.tail d x=t/\t<16777216):=zKF s.rules s.tails x _ j.tsm;by_cases H:s.tail d x<0
  ·have r:Hid (s.kind d x=s.look d x/\s.kindS d x=d):=⟨by unfold Sq.kind;rw[if_pos i,if_pos H],by unfold Sq.kindS;rw[if_pos i,if_pos H]⟩
   generalize s.look d x=k at *;generalize d.found.getD k 0=y at *;generalize s.tail d x=t at *;go_in;go_wp2_with (first|(go_at_call 130;refine O.mono ?_;rintro e w2 ⟨rfl,a⟩;have S:=(f w2 a).cells.2.2.2.2.1;have ap:=ab w2 a)|(go_at_call 131;refine(R w2 a).mono ?_;rintro e b ⟨rfl,c⟩))
   go_ret;exact⟨by rw[r.out.1];rfl,by rw[r.out.2];exact⟨_,_,f _ c⟩,P _ c⟩
  ·obtain⟨t,ac,aq⟩:=ao.resolve_left (by omega)
   have r:Hid (s.kind d x=d.found.length/\s.kindS d x=⟨d.found++[x],d.marks++[t]⟩):=⟨by unfold Sq.kind;rw[if_pos i,if_neg H],by unfold Sq.kindS;rw[if_pos i,if_neg H,ac];rfl⟩
   rw[ac] at R;have aE:¬((t:Int)<0):=by omega
   generalize s.look d x=k at *;generalize d.found.getD k 0=y at *;go_in;go_wp2_with (first|(go_at_call 130;refine O.mono ?_;rintro e w2 ⟨rfl,a⟩;have S:=(f w2 a).cells.2.2.2.2.1;have ap:=ab w2 a)|(go_at_call 131;refine(R w2 a).mono ?_;rintro e b ⟨rfl,c⟩;have o:=vl <| f b c;have ar:=(f b c).cells.2.2.2.2.2.1;have T:=al b (f b c);have ad:=(f b c).lp)|(have m2:=au;at_builtin;refine wpList_append_lies _ rfl _ _ 45 rfl 0 3 J (iX 0) 1 8 underlying45 K L M N rfl (by decide) _ _ _ rfl (av.alloc _) ⟨g.heap.size,0,none⟩ 1 1 [iX (x:Int)] rfl rfl (zBR _ [iX (x:Int)] _ _ (zC _ _ _)) (by intro u v;simp at v;subst v;rfl) (by decide) (by unfold maxLen;omega) (by omega) (by simp[zC]) _ rfl ?_;intro ae ag I aw ah ax aF;have U:=l.1.found_app F rfl aw ah (by rcases ax with m|m;exact .inl m;right;rw[m];simp[zC]);have ai:I.heap[p]? =(g.setCell ⟨p,7,none⟩ (slice (qX z) (d.marks.length+1) cap)).heap[p]? :=(ah.block _ (by simp[zC];omega) (zM l.1.own1 l.1.blk (by decide))).trans (lG _ _ _ (by rw[zC];omega));have aG:cX I p 6=some (slice (qX G) d.found.length q):=(gZ ai).trans aj;have aH:I.frozen? ⟨p,6,none⟩=false:=(gY ai).trans (l.1.cells.2.2.2.2.2.2 6);have aI:(I.setCell ⟨p,6,none⟩ (slice (qX ae) (d.found.length+1) ag)).cell? ⟨p,6,none⟩=some (slice (qX ae) (d.found.length+1) ag):=U.1.cells.2.2.2.2.1)|(at_builtin;refine wpList_append_lies _ rfl _ _ 45 rfl 0 3 J (iX 0) 1 8 underlying45 K L M N rfl (by decide) _ _ _ rfl (T.alloc _) ⟨b.heap.size,0,none⟩ 1 1 [iX (t:Int)] rfl rfl (cell_one_new _ _ _) (by intro u v;simp at v;subst v;rfl) (by decide) (by unfold maxLen;omega) (by omega) (by simp) _ rfl ?_;intro z cap g V A W ay;have au:True:=trivial;have l:=o.marks_app aq rfl V A (by rcases W with m|m;exact .inl m;right;rw[m];simp);have E:g.heap[p]? =b.heap[p]? :=(A.block _ (by simp;omega) (zM o.own2 o.blk (by decide))).trans (lG _ _ _ (by omega));have az:cX g p 7=some (slice C d.marks.length D):=(gZ E).trans ar;have aA:g.frozen? ⟨p,7,none⟩=false:=(gY E).trans (o.cells.2.2.2.2.2.2 7);have aj:(g.setCell ⟨p,7,none⟩ (slice (qX z) (d.marks.length+1) cap)).cell? ⟨p,6,none⟩=some (slice (qX G) d.found.length q):=l.1.cells.2.2.2.2.1;have aJ:p<g.heap.size:=lZ ad (lY (by simp) A.size);have av:(g.setCell ⟨p,7,none⟩ (slice (qX z) (d.marks.length+1) cap)).ownsRow 0 3 1 (slice (qX G) d.found.length q) d.found.length ((ints d.found).map λx=>iX x):=(by have:=l.1.own1;unfold OwnI at this;rw[zO] at this;exact this)))
   go_ret;refine⟨?_,by rw[r.out.2];exact⟨_,_,U.1⟩,((P _ c).trans l.2).trans U.2⟩;rw[r.out.1]
   first|rfl|(simp;done)|(show _=_;congr 2;omega)
 ·have r:Hid (s.kind d x=d.found.length/\s.kindS d x=⟨d.found++[x],d.marks⟩):=⟨by unfold Sq.kind;rw[if_neg i],by unfold Sq.kindS;rw[if_neg i]⟩
  have a:¬(((s.look d x:Nat):Int)<(d.found.length:Int)):=by omega
  generalize s.look d x=k at *;go_in;go_wp2_with (first|(go_at_call 130;refine O.mono ?_;rintro e b ⟨rfl,c⟩;have o:=vl <| f b c;have S:=(f b c).cells.2.2.2.2.1;have T:=ak b (f b c);have ad:=(f b c).lp)|(at_builtin;refine wpList_append_lies _ rfl _ _ 45 rfl 0 3 J (iX 0) 1 8 underlying45 K L M N rfl (by decide) _ _ _ rfl (T.alloc _) ⟨b.heap.size,0,none⟩ 1 1 [iX (x:Int)] rfl rfl (cell_one_new _ _ _) (by intro u v;simp at v;subst v;rfl) (by decide) (by unfold maxLen;omega) (by omega) (by simp) _ rfl ?_;intro z cap g V A W ay;have l:=o.found_app F rfl V A (by rcases W with m|m;exact .inl m;right;rw[m];simp);have E:g.heap[p]? =b.heap[p]? :=(A.block _ (by simp;omega) (zM o.own1 o.blk (by decide))).trans (lG _ _ _ (by omega));have az:cX g p 6=some (slice B d.found.length q):=(gZ E).trans S;have aA:g.frozen? ⟨p,6,none⟩=false:=(gY E).trans (o.cells.2.2.2.2.2.2 6);have aj:(g.setCell ⟨p,6,none⟩ (slice (qX z) (d.found.length+1) cap)).cell? ⟨p,6,none⟩=some (slice (qX z) (d.found.length+1) cap):=l.1.cells.2.2.2.2.1))
  go_ret;refine⟨?_,by rw[r.out.2];exact⟨_,_,l.1⟩,(P _ c).trans l.2⟩;rw[r.out.1]
  first|rfl|(simp;done)|(show _=_;congr 2;omega)
end
section
def SoY (w:World)(X Y:Nat->Prop)(p:Nat)(s:Sq)(d:Sf):Prop:=∃fv mv,SoAt w X p s d fv mv/\∀g,Y g->g<w.heap.size/\g≠p/\some g≠fv.ownBlock/\some g≠mv.ownBlock
section
variable {w w2:World} {X Y:Nat->Prop} {p:Nat} {s:Sq} {d:Sf} {fv mv:Value}
theorem SoAt.both (a:SoAt w X p s d fv mv)(b:∀g,Y g->g<w.heap.size/\g≠p/\some g≠fv.ownBlock/\some g≠mv.ownBlock):SoAt w (λg=>X g\/Y g) p s d fv mv:=
 a.fewer (λe=>e.elim a.xp λe=>(b p e).2.1 rfl) (λg e=>e.elim (a.xl g) λe=>(b g e).1) (λg e=>e.elim (a.xf g) λe=>(b g e).2.2.1) (λg e=>e.elim (a.xm g) λe=>(b g e).2.2.2) (λg e=>.inl e)
theorem SoY.call {i:Sf}(c:SoY w X Y p s d)(a:zQm w2 (λg=>X g\/Y g) p s i)(j:KeepX (λg=>X g\/Y g) w w2):SoY w2 X Y p s i:=by
 obtain⟨fv,mv,c,k⟩:=c;obtain⟨l,m,a⟩:=a;have e:∀b,X b->w2.heap[b]? =w.heap[b]? :=λb o=>j.block b (.inl o);refine⟨l,m,⟨a.blk,a.own1,a.own2,a.ne,λg f=>a.xf g (.inl f),λg f=>a.xm g (.inl f),c.xp,λg f=>a.xl g (.inl f),a.lp,(gZ (e _ c.xq)).trans c.net,c.xq,c.rls.keep e,c.eight,c.rsm,c.tls.keep e,c.tsm,c.tlen,c.sts.keep e,c.ssm,a.fsm,a.msm⟩,λg f=>⟨a.xl g (.inr f),(k g f).2.1,a.xf g (.inr f),a.xm g (.inr f)⟩⟩
theorem SoY.mono {Z:Nat->Prop}(a:SoY w X Y p s d)(e:∀g,Z g->Y g):SoY w X Z p s d:=by
 obtain⟨fv,mv,a,b⟩:=a;exact⟨fv,mv,a,λg c=>b g (e g c)⟩
theorem SoY.grown {Z:Nat->Prop}(a:SoY w X Y p s d)(f:Grew w w2)(e:∀g,Z g->g<w2.heap.size/\(Y g\/w.heap.size<=g)):SoY w2 X Z p s d:=by
 obtain⟨fv,mv,a,i⟩:=a;refine⟨fv,mv,a.grown f,λg j=>?_⟩;obtain⟨c,k|l⟩:=e g j
 ·exact⟨c,(i g k).2⟩
 ·refine⟨c,λb=>by have:=a.lp;omega,λb=>?_,λb=>?_⟩
  ·have:=(a.own1.lt g b.symm).2;omega
  ·have:=(a.own2.lt g b.symm).2;omega
theorem SoY.app {Z:Nat->Prop}{o:Obj}{g:Nat}{v:Value}(a:SoY w X Y p s d)(i:∀k,some k=v.ownBlock->Y k/\¬X k)(m:(w.alloc o).grownBy w2 v.ownBlock)(A:v.ownBlock=some g\/w.heap.size<=g)(u:g<w2.heap.size)(B:∀k,Z k->Y k\/k=g):SoY w2 X Z p s d:=by
 obtain⟨fv,mv,a,f⟩:=a;have r:w.heap.size<=w2.heap.size:=lY (by simp) m.size;have q:∀j,j<w.heap.size->some j≠v.ownBlock->w2.heap[j]? =w.heap[j]? :=λj F C=>(m.block j (by simp;omega) C).trans (lG _ _ _ (by omega));have e:∀b,X b->w2.heap[b]? =w.heap[b]? :=λb x=>q b (a.xl b x) λc=>(i b c).2 x;have D:=q p a.lp λc=>(f p (i p c).1).2.1 rfl;have E:g<w.heap.size->Y g:=λy=>(i g (A.elim (λe=>e.symm) λe=>by omega)).1;refine⟨fv,mv,⟨D.trans a.blk,zD a.own1 λk _ t l=>q k t λc=>(f k (i k c).1).2.2.1 l.symm,zD a.own2 λk _ t l=>q k t λc=>(f k (i k c).1).2.2.2 l.symm,a.ne,a.xf,a.xm,a.xp,λg m=>lZ (a.xl g m) r,lZ a.lp r,(gZ (e _ a.xq)).trans a.net,a.xq,a.rls.keep e,a.eight,a.rsm,a.tls.keep e,a.tsm,a.tlen,a.sts.keep e,a.ssm,a.fsm,a.msm⟩,λk l=>?_⟩;rcases B k l with z|rfl
 ·exact⟨lZ (f k z).1 r,(f k z).2⟩
 ·by_cases y:k<w.heap.size
  ·exact⟨u,(f k (E y)).2⟩
  ·refine⟨u,λc=>by have:=a.lp;omega,λc=>?_,λc=>?_⟩
   ·have:=(a.own1.lt k c.symm).2;omega
   ·have:=(a.own2.lt k c.symm).2;omega
theorem zJV (a:SoY w X Y p s d)(c:d.marks.length<=100000000000)(f:d.found.length<=100000000000)(x:Nat)(i:x<16777216):
  Calls prog 94 #[pX p,iX x] w λe w'=>e=returned (iX (s.kind d x))/\SoY w' X Y p s (s.kindS d x)/\KeepX (λg=>X g\/Y g) w w':=by
 have j:=a;obtain⟨fv,mv,a,k⟩:=a;refine(zIn w _ p s d ⟨fv,mv,a.both k⟩ c f x i).mono ?_;rintro e w' ⟨rfl,l,b⟩;exact⟨rfl,j.call l b,b⟩
end
def Sq.rowTo (s:Sq)(next:Nat)(d:Sf):Nat->List Nat×Sf
 |0=>([],d)
 |j+1=>((s.rowTo next d j).1++[s.kind (s.rowTo next d j).2 (next&&&s.sets.getD j 0)],s.kindS (s.rowTo next d j).2 (next&&&s.sets.getD j 0))
theorem Sq.kindS_len (s:Sq)(d:Sf)(x:Nat):(s.kindS d x).found.length<=d.found.length+1/\(s.kindS d x).marks.length<=d.marks.length+1/\d.found.length<=(s.kindS d x).found.length:=by
 unfold Sq.kindS;split
 ·split <;> simp
 ·simp
theorem Sq.rowTo_len (s:Sq)(next:Nat)(d:Sf)(j:Nat):(s.rowTo next d j).1.length=j/\(s.rowTo next d j).2.found.length<=d.found.length+j/\(s.rowTo next d j).2.marks.length<=d.marks.length+j/\d.found.length<=(s.rowTo next d j).2.found.length:=by
 induction j with
 |zero=>exact⟨rfl,lQ,lQ,lQ⟩
 |succ j a=>
  have b:=s.kindS_len (s.rowTo next d j).2 (next&&&s.sets.getD j 0);unfold Sq.rowTo;simp only[kX,List.length_singleton];omega
end
theorem zMO {w w':World}{X:Nat->Prop}{H:Nat}{v:Value}{l:List Int}(a:OwnI w H v l)(b:KeepX X w w')(e:∀k,some k=v.ownBlock->X k):OwnI w' H v l:=zD a λg _ _ c=>b.block g (e g c.symm)
theorem zGQ (w:World)(X c:Nat->Prop)(p:Nat)(s:Sq)(a:Sf)(aa:SoY w X c p s a)(aG:a.marks.length+s.sets.length<=100000000000)(aH:a.found.length+s.sets.length<=100000000000)(next:Nat)(C:next<16777216):
  Calls prog 91 #[pX p,iX next] w λe w'=>∃u,e=returned u/\OwnI w' w.heap.size u (ints (s.rowTo next a s.sets.length).1)/\SoY w' X (λg=>c g\/some g=u.ownBlock) p s (s.rowTo next a s.sets.length).2/\KeepX (λg=>X g\/c g) w w':=by
 obtain⟨ab,ac,ad,ae,af⟩:=info_parts yF;obtain⟨ag,ah,y,M⟩:=aa;have y3:=y.cells.2.1;have N:Hid (∀k,X k\/c k->k<w.heap.size):=λk f=>f.elim (y.xl k) λe=>(M k e).1;obtain⟨as_,cs,O,_,_,ai⟩:=y.sts;rw[zO] at O;have aj:Hid (∀i,i<s.sets.length->∃b o,as_=some ⟨b,o,none⟩/\X b/\cX w b (o+i)=some (iX ((s.sets.getD i 0:Nat):Int))/\next&&&s.sets.getD i 0<16777216/\s.sets.getD i 0<16777216):=by
  intro i P;obtain⟨b,o,B,ak,m⟩:=ai i (by rw[zO];exact P);rw[jF] at m;exact⟨b,o,B,ak,m,Nat.lt_of_le_of_lt Nat.and_le_left C,y.ssm _ (zY _ i 0 P)⟩
 rw[O] at y3;have D:Hid (∀j,(s.rowTo next a j).1.length=j/\(s.rowTo next a j).2.found.length<=a.found.length+j/\(s.rowTo next a j).2.marks.length<=a.marks.length+j):=λj=>by
  have:=s.rowTo_len next a j
  exact⟨this.1,this.2.1,this.2.2.1⟩
 have al:Hid (SoY w X (λg=>c g\/some g=(Value.slice none 0 0).ownBlock) p s a):=⟨ag,ah,y,λg am=>am.elim (M g) λe=>by cases e⟩
 have aI:s.sets.length<=100000000000:=by omega
 go_in;go_wp2;go_loopg [5,15] s.sets.length (λq u i wr=>∃j:Nat,q=s.sets.length-j/\j<=s.sets.length/\i=iX (j:Int)/\OwnI wr w.heap.size u (ints (s.rowTo next a j).1)/\SoY wr X (λg=>c g\/some g=u.ownBlock) p s (s.rowTo next a j).2/\KeepX (λg=>X g\/c g) w wr)
 case atStart=>exact⟨0,rfl,lX,rfl,OwnI.nil _ _,al,KeepX.refl _ _⟩
 case round=>
  obtain⟨j,an,aJ,rfl,Q,ao,R⟩:=hrel;have t:Hid (gk=s.sets.length-j/\OwnI wr w.heap.size u5 (ints (s.rowTo next a j).1)/\SoY wr X (λg=>c g\/some g=u5.ownBlock) p s (s.rowTo next a j).2/\KeepX (λg=>X g\/c g) w wr):=⟨an,Q,ao,R⟩
  by_cases ap:j<s.sets.length
  ·have aq:(j:Int)<(s.sets.length:Int):=by omega
   obtain⟨ar,aK,rfl,av,aw,ax,aL⟩:=aj j ap;have aM:=(gZ (R.block ar (.inl av))).trans aw;obtain⟨E,F,S⟩:=Q.form;rw[zO,(D.out j).1] at S;have ay:Hid (∀x:Nat,x<16777216->Ca 94 #[pX p,iX x] wr λe w'=>e=returned (iX (s.kind (s.rowTo next a j).2 x))/\(OwnI w' w.heap.size u5 (ints (s.rowTo next a j).1)/\SoY w' X (λg=>c g\/some g=u5.ownBlock) p s (s.kindS (s.rowTo next a j).2 x))/\KeepX (λg=>X g\/c g) w w'):=λx C=>by
    have:=D j;refine(zJV t.2.2.1 (by omega) (by omega) x C).mono ?_;rintro e w2 ⟨rfl,B,m⟩;exact⟨rfl,⟨zMO t.2.1 m λk f=>.inr (.inr f),B⟩,t.2.2.2.trans (m.mono λk f=>f.elim .inl λe=>.inr (.inl e))⟩
   have T:Hid ((s.rowTo next a (j+1)).1=(s.rowTo next a j).1++[s.kind (s.rowTo next a j).2 (next&&&s.sets.getD j 0)]/\(s.rowTo next a (j+1)).2=s.kindS (s.rowTo next a j).2 (next&&&s.sets.getD j 0)):=⟨rfl,rfl⟩
   have G:=(D j).1;generalize s.sets.getD j 0=r at *;have aN:bits .and i64 (next:Int) (r:Int)=((next&&&r:Nat):Int):=qT _ _ (by omega) (by omega);generalize next&&&r=x at *
   have az:=vl <| ay x ax;generalize s.kind (s.rowTo next a j).2 x=H at *;generalize s.kindS (s.rowTo next a j).2 x=aA at *;generalize (s.rowTo next a j).1=l at *;subst S;go_wp2_with (first|(go_at_call 94;refine az.mono ?_;rintro e w2 ⟨rfl,I,U⟩;have J:=vl I;have aB:w2.ownsRow w.heap.size 3 1 (slice E j F) j ((ints l).map λx=>iX x):=(by have:=I.1;unfold OwnI at this;rw[zO,G] at this;exact this);have aO:=U.size;clear I)|(at_builtin;refine wpList_append_lies _ rfl _ _ 45 rfl (w.heap.size) 3 ab (iX 0) 1 8 underlying45 ac ad ae af rfl (by decide) _ _ _ rfl (aB.alloc _) ⟨w2.heap.size,0,none⟩ 1 1 [iX (H:Int)] rfl rfl (cell_one_new _ _ _) (by intro u V;simp at V;subst V;rfl) (by decide) (by unfold maxLen;omega) (by omega) (by simp;omega) _ rfl ?_;intro z cap K aC A aD aP))
   have W:OwnI K w.heap.size (slice (qX z) (j+1) cap) (ints (l++[H])):=by
    rw[zBN];have m:=OwnI.snoc (l:=ints l) (x:=(H:Int)) (by rw[zO,G];exact aC);rw[zO,G] at m;exact m
   have aE:(Value.slice E j F).ownBlock=some z\/w2.heap.size<=z:=by
    rcases aD with L|L
    ·exact .inl L
    ·right;rw[L];simp
   have aF:SoY K X (λg=>c g\/some g=(Value.slice (qX z) (j+1) cap).ownBlock) p s aA:=by
    refine J.2.app (v:=slice E j F) (λk f=>⟨.inr f,λe=>?_⟩) A aE (W.lt z rfl).2 ?_
    ·have:=(J.1.lt k f.symm).1
     have:=N k (.inl e);omega
    ·intro k f
     rcases f with e|e
     ·exact .inl (.inl e)
     ·exact .inr (by simpa[Value.ownBlock] using e)
   have hK3:KeepX (λg=>X g\/c g) w K:=by
    refine U.trans ⟨A.os,A.output,lY (by simp) A.size,λk f=>?_⟩;have B:=N k f;exact(A.block k (by simp;omega) λe=>by have:=(J.1.lt k e.symm).1;omega).trans (lG _ _ _ (by omega))
   go_roundg (s.sets.length-(j+1))
   case measure=>rw[t.out.1];omega
   case rel=>exact⟨j+1,rfl,by omega,by go_num,by rw[T.out.1];exact W,by rw[T.out.2];exact aF,hK3⟩
  ·have aq:(s.sets.length:Int)<=(j:Int):=by omega
   have e:j=s.sets.length:=by omega
   subst e;go_wp2;go_ret;exact⟨_,rfl,t.2.1,t.2.2.1,t.2.2.2⟩
theorem zCq (n:Int)(a:0<=n)(b:n<18446744073709551616):IntKind.u64.wrap n=n:=by rw[IntKind.wrap_u64];omega
theorem zIU (a b:Nat)(c:a<18446744073709551616)(d:b<18446744073709551616):bits .and .u64 (a:Int) (b:Int)=((a&&&b:Nat):Int):=
 (bits_nat .u64 64 (by decide) (λn e f=>zCq n e (by simpa using f)) a b (by simpa using c) (by simpa using d)).1
theorem zKw (a b:Nat)(c:a<18446744073709551616)(d:b<18446744073709551616):bits .or .u64 (a:Int) (b:Int)=((a|||b:Nat):Int):=
 (bits_nat .u64 64 (by decide) (λn e f=>zCq n e (by simpa using f)) a b (by simpa using c) (by simpa using d)).2
theorem zBz (f:Nat->Bool)(k j:Nat):(vL f k).testBit j=(decide (j<k)&&f j):=by
 induction k with
 |zero=>simp[vL]
 |succ k a=>
  unfold vL;by_cases e:j=k
  ·subst e
   cases c:f j
   ·simp[a]
   ·simp[a,Nat.testBit_or]
  ·have b:decide (j<k+1)=decide (j<k):=by simp;omega
   rw[b,<-a];split
   ·rw[Nat.testBit_or,Nat.testBit_two_pow,show decide (k=j)=false by simp;omega,Bool.or_false]
   ·rfl
def wd (m:Nat->Bool)(i:Nat):Nat:=vL (λj=>m (64*i+j)) 64
theorem zQr (m:Nat->Bool)(i:Nat):wd m i<18446744073709551616:=zBS _ 64
theorem zPJ (m:Nat->Bool)(i j:Nat)(b:j<64):wd m i&&&2^j=if m (64*i+j) then 2^j else 0:=by
 apply Nat.eq_of_testBit_eq;intro k;rw[Nat.testBit_and,Nat.testBit_two_pow];have c:(wd m i).testBit k=(decide (k<64)&&m (64*i+k)):=zBz _ 64 k;by_cases a:j=k
 ·subst a
  rw[c,gJ b,gJ rfl];cases m (64*i+j) <;> simp
 ·rw[gU a,Bool.and_false]
  cases m (64*i+j) <;> simp[Nat.testBit_two_pow,a]
theorem zPK (m:Nat->Bool)(x i:Nat):wd (λy=>y==x||m y) i=if i=x/64 then wd m i|||2^(x%64) else wd m i:=by
 apply Nat.eq_of_testBit_eq;intro j;have e:(wd (λy=>y==x||m y) i).testBit j=(decide (j<64)&&(64*i+j==x||m (64*i+j))):=zBz _ 64 j;have b:(wd m i).testBit j=(decide (j<64)&&m (64*i+j)):=zBz _ 64 j;rw[e];split
 ·rename_i d
  rw[Nat.testBit_or,b,Nat.testBit_two_pow];by_cases a:j<64
  ·rw[gJ a,Bool.true_and,Bool.true_and,Bool.or_comm]
   congr 1
   by_cases c:x%64=j
   ·rw[gJ c,beq_iff_eq];omega
   ·rw[gU c,hX];omega
  ·rw[gU a,gU (by omega)];rfl
 ·rename_i d
  rw[b];by_cases a:j<64
  ·rw[show (64*i+j==x)=false by rw[hX];omega,Bool.false_or]
  ·rw[gU a];rfl
structure SeAt (w:World)(H p n:Nat)(m:Nat->Bool)(g cap:Nat):Prop where
 blk:w.heap[p]? =some (.cells #[slice (some ⟨g,0,none⟩) n cap] 259)
 row:Row w H 260 (slice (some ⟨g,0,none⟩) n cap) n λi=>int .u64 ((wd m i:Nat):Int)
def SeIs (w:World)(H p n:Nat)(m:Nat->Bool):Prop:=∃g cap,SeAt w H p n m g cap
structure StayU (H:Nat)(w w':World):Prop where
 os:w'.os=w.os
 output:w'.output=w.output
 size:w'.heap.size=w.heap.size
 low:∀k,k<H->w'.heap[k]? =w.heap[k]?
 other:∀(k:Nat) (c:Array Value) (t:TypeId),w.heap[k]? =some (Obj.cells c t)->t≠260->w'.heap[k]? =some (Obj.cells c t)
theorem StayU.refl (H:Nat)(w:World):StayU H w w:=⟨rfl,rfl,rfl,λ_ _=>rfl,λ_ _ _ a _=>a⟩
theorem zGR (w:World)(H p n:Nat)(m:Nat->Bool)(b:SeIs w H p n m)(P:n<=1000000)(x:Nat)(Q:x<64*n):
  Calls prog 172 #[pX p,iX x] w λe w'=>e=returned (bool (!m x))/\SeIs w' H p n (λy=>y==x||m y)/\StayU H w w':=by
 obtain⟨g,cap,b⟩:=b;have R:w.cell? ⟨p,0,none⟩=some (slice (qX g) n cap):=by unfold cell?;rw[b.blk];rfl
 obtain⟨f,S,q,D,E,F,G,A,B⟩:=b.row.get (by omega);have I:f=g:=by injection q with a _ _;injection a with a;injection a with a;exact a.symm
 subst I;have T:w.cell? ⟨f,x/64,none⟩=some (int .u64 ((wd m (x/64):Nat):Int)):=A (x/64) (by omega);have U:=B (x/64);have V:bits .and i64 (x:Int) 63=((x%64:Nat):Int):=by
  have:=qT x 63 (by omega) (by omega);rw[show (63:Nat)=2^6-1 from rfl,Nat.and_two_pow_sub_one_eq_mod] at this;exact this
 have v:=zPJ m (x/64) (x%64) (by omega);rw[show 64*(x/64)+x%64=x by omega] at v;have r:2^(x%64)<18446744073709551616:=(Nat.pow_lt_pow_right (by omega) (show x%64<64 by omega):2^(x%64)<2^64)
 have C:0<2^(x%64):=Nat.pow_pos (by omega);have s:=zQr m (x/64);have J:=vl <| zPK m x;have d:=vl b;have u:IntKind.u64.wrap ((2:Int)^(x%64))=((2^(x%64):Nat):Int):=by
  have a:((2^(x%64):Nat):Int)=(2:Int)^(x%64):=by simp
  rw[<-a];exact zCq _ (by omega) (by omega)
 have W:(x:Int)/64<(n:Int):=by omega
 have X:(0:Int)<=(x:Int)/64:=by omega
 have Y:¬((x:Int)/64<0):=by omega
 have aa:¬((n:Int)<=(x:Int)/64):=by omega
 have j:=zIU (wd m (x/64)) (2^(x%64)) s r;rw[v,<-u] at j;have K:Hid (bits .or .u64 ((wd m (x/64):Nat):Int) (IntKind.u64.wrap ((2:Int)^(x%64)))=((wd m (x/64)|||2^(x%64):Nat):Int)):=by
  show _=_;rw[u];exact zKw (wd m (x/64)) (2^(x%64)) s r
 clear b q D E F G A B v;cases l:m x with
 |true=>
  have L:(bits .and .u64 ((wd m (x/64):Nat):Int) (IntKind.u64.wrap ((2:Int)^(x%64))) != 0)=true:=by
   rw[j,l,if_pos rfl];rw[bne_iff_ne];omega
  have M:Hid (∀y,(y==x||m y)=m y):=λy=>by
   by_cases e:y=x
   ·rw[e,l];simp
   ·rw[show (y==x)=false by simp[e]];rfl
  clear j u l s r C;go_in;go_wp2;go_ret;exact⟨rfl,⟨_,_,d.blk,d.row.congr λi _=>by rw[show (λy=>y==x||m y)=m from funext M.out]⟩,StayU.refl _ _⟩
 |false=>
  have L:(bits .and .u64 ((wd m (x/64):Nat):Int) (IntKind.u64.wrap ((2:Int)^(x%64))) != 0)=false:=by
   rw[j,l];simp
  clear j u l s r C;go_in;go_wp2;go_ret;have ab:H<=f:=(d.row.get (by omega)).elim λg b=>b.elim λc b=>by
   obtain⟨q,ac,_⟩:=b;injection q with a _ _;injection a with a;injection a with a;omega
  have N:p≠f:=λe=>zM d.row d.blk (by decide) (by rw[e];rfl);have O:∀(k:Nat) (c:Array Value) (t:TypeId),w.heap[k]? =some (Obj.cells c t)->t≠260->k≠f:=λk c t o z e=>zM d.row o (Ne.symm z) (congrArg some e);refine⟨rfl,⟨f,cap,(lJ _ _ _ _ N).trans d.blk,?_⟩,⟨rfl,rfl,zC _ _ _,λk o=>lJ _ _ _ _ (by show k≠f;omega),λk c t o z=>(lJ _ _ _ _ (O k c t o z)).trans o⟩⟩;refine Row.congr (d.row.set (x/64) _) λi _=>?_;rw[J.out i,K.out];by_cases e:i=x/64
  ·subst e;simp
  ·simp[e]
theorem zPg:(prog.info? 260).map (λi=>(i.zero,i.size,i.bytes))=some (some (int .u64 0),1,8):=by kernel_rfl
theorem zOR (i:Nat):wd (λ_=>false) i=0:=by
 apply Nat.eq_of_testBit_eq;intro j;have e:(wd (λ_=>false) i).testBit j=(decide (j<64)&&false):=zBz _ 64 j;rw[e];simp
def jS (n:Nat):Nat:=2^n/64+1
theorem zGX (w:World)(n:Nat)(o:n<=24):
  Calls prog 171 #[iX n] w λe w'=>∃p,e=returned (pX p)/\w.heap.size<=p/\SeIs w' w.heap.size p (jS n) (λ_=>false)/\Grew w w':=by
 obtain⟨q,r,s,t,u⟩:=info_parts zPg;have C:2^n<=2^24:=kG (by omega) o;have D:=zF9 n (by omega);have b:Hid (jS n=2^n/64+1):=rfl;obtain⟨w1,v,x,d⟩:=run_makeSlice_full (P:=prog) w w.heap.size 257 260 q _ 1 underlying257 r s t i64 i64 (jS n) (by rw[b.out];omega) (by rw[u,b.out];omega) (by rw[b.out];unfold maxLen;omega) lQ;have m:Hid (Row w1 w.heap.size 260 (slice (qX w.heap.size) (jS n) (jS n)) (jS n) (λj=>int .u64 ((wd (λ_=>false) j:Nat):Int))/\Grew w w1):=by
  refine⟨?_,⟨d.os,d.output,d.size,λk y _=>d.block k y (by simp)⟩⟩;have a:=x;rw[Nat.mul_one,zAL _ rfl] at a;refine Row.congr (f:=λ_=>int .u64 0) a λi _=>?_;rw[zOR];rfl
 have E:w.heap.size<w1.heap.size:=(m.1.get (by rw[b.out];exact Nat.succ_pos _)).elim λg a=>a.elim λc a=>by
  obtain⟨A,_,F,_⟩:=a;injection A with l _ _;injection l with l;injection l with l;omega
 have B:((jS n:Nat):Int)=((2^n:Nat):Int)/64+1:=by rw[b.out];omega
 rw[B] at v;generalize 2^n=G at *;go_in;go_wp2;go_ret;refine⟨_,rfl,by omega,⟨w.heap.size,jS n,gX _ _,?_⟩,m.2.trans (kZ _ _ (by omega))⟩;exact zK m.1 (kZ _ _ lQ)
section
def zO6 (f:Nat->Nat):Nat->Nat
 |0=>0
 |n+1=>zO6 f n|||f n
theorem zO5 (f:Nat->Nat)(k:Nat)(a:∀i,f i<16777216)(n:Nat):zO6 f n<16777216:=by
 induction n with
 |zero=>show 0<16777216;omega
 |succ n b=>exact Nat.or_lt_two_pow (n:=24) b (a n)
def spG (by_:List Nat)(i p:Nat):Nat:=if p/8=i/256 then(if (i%256).testBit (p%8) then by_.getD p 0 else 0) else 0
def spF (by_:List Nat)(n i:Nat):Nat:=zO6 (spG by_ i) n
theorem zPR (by_:List Nat)(a:∀x∈by_,x<16777216)(i p:Nat):spG by_ i p<16777216:=by
 unfold spG;split
 ·split
  ·by_cases b:p<by_.length
   ·exact a _ (zY _ _ 0 b)
   ·rw[lW,List.getElem?_eq_none (by omega)];show 0<16777216;omega
  ·omega
 ·omega
theorem zNN (by_:List Nat)(a:∀x∈by_,x<16777216)(n i:Nat):spF by_ n i<16777216:=zO5 _ 0 (zPR by_ a i) n
theorem zJf (by_:List Nat)(n i:Nat):spF by_ (n+1) i=spF by_ n i|||spG by_ i n:=rfl
theorem zKv:zeroCells208=((List.range 768).map λ_=>iX 0).toArray:=by kernel_rfl
def SpAt (w:World)(f:Nat)(c:Nat->Nat):Prop:=∃cs:Array Value,w.heap[f]? =some (.cells cs 208)/\∀i,i<768->cs[i]? =some (int i64 ((c i:Nat):Int))
section
variable {w w2:World} {f:Nat} {c:Nat->Nat}
theorem SpAt.cell (b:SpAt w f c)(i:Nat)(d:i<768):w.cell? ⟨f,i,none⟩=some (iX ((c i:Nat):Int))/\w.frozen? ⟨f,i,none⟩=false:=by
 obtain⟨cs,a,e⟩:=b
 constructor
 ·unfold cell?;rw[a];exact e i d
 ·unfold frozen?;rw[a];simp
theorem SpAt.lt (a:SpAt w f c):f<w.heap.size:=by
 obtain⟨cs,b,_⟩:=a;exact(kQ.1 b).1
theorem SpAt.set (b:SpAt w f c)(i x:Nat):SpAt (w.setCell ⟨f,i,none⟩ (iX (x:Int))) f (λj=>if j=i then x else c j):=by
 obtain⟨cs,d,g⟩:=b;refine⟨cs.setIfInBounds i (iX (x:Int)),by simp[setCell,lU,d],λj k=>?_⟩;have a:=g j k;rw[Array.getElem?_setIfInBounds];by_cases e:i=j
 ·subst e
  have:=(kQ.1 a).1;simp[this]
 ·rw[if_neg e,a]
  simp[Ne.symm e]
theorem SpAt.congr {a:Nat->Nat}(d:SpAt w f c)(e:∀i,i<768->c i=a i):SpAt w f a:=by
 obtain⟨cs,g,j⟩:=d;exact⟨cs,g,λi b=>by rw[<-e i b];exact j i b⟩
theorem SpAt.keep (a:SpAt w f c)(e:w2.heap[f]? =w.heap[f]?):SpAt w2 f c:=by
 obtain⟨cs,b,d⟩:=a;exact⟨cs,e.trans b,d⟩
end
theorem zIN (w:World):SpAt (w.alloc (Obj.cells zeroCells208 208)) w.heap.size (λ_=>0):=by
 refine⟨_,gX _ _,λi a=>?_⟩;rw[zKv];simp[a]
theorem zCj (w:World)(v:Value)(by_:List Nat)(L:Ints w (In w) v (ints by_))(ad:by_.length<=24)(t:∀x∈by_,x<16777216):
  Calls prog 128 #[v] w λe w'=>e=returned (pX w.heap.size)/\SpAt w' w.heap.size (spF by_ by_.length)/\Grew w w':=by
 obtain⟨M,ae,rfl,_,_,A⟩:=L;rw[zO] at A ⊢;have N:Hid (∀i,i<by_.length->∃b o,M=some ⟨b,o,none⟩/\In w b/\w.cell? ⟨b,o+i,none⟩=some (iX ((by_.getD i 0:Nat):Int))/\by_.getD i 0<16777216):=by
  intro i g;obtain⟨b,o,k,D,E⟩:=A i g;rw[jF] at E;exact⟨b,o,k,D,E,t _ (zY _ _ 0 g)⟩
 have O:=vl <| zNN by_ t;have P:=vl <| zIN w;clear A t;go_in;go_wp2;go_loopg [4] by_.length (λq i wr=>∃j:Nat,q=by_.length-j/\j<=by_.length/\i=iX (j:Int)/\SpAt wr w.heap.size (spF by_ j)/\Grew w wr)
 case atStart=>exact⟨0,rfl,lX,rfl,P,kZ _ _ lQ⟩
 case round=>
  obtain⟨j,B,af,rfl,a,d⟩:=hrel;have p:Hid (gk=by_.length-j/\SpAt wr w.heap.size (spF by_ j)/\Grew w wr):=⟨B,a,d⟩
  by_cases Q:j<by_.length
  ·have R:(j:Int)<(by_.length:Int):=by omega
   have ag:(j:Int)<24:=by omega
   obtain⟨b,o,rfl,S,F,ah⟩:=N j Q;have T:=vl F;clear B a d F;go_wp2;go_loopg [5] 256 (λq i wr=>∃s:Nat,q=256-s/\s<=256/\i=iX (s:Int)/\SpAt wr w.heap.size (λi=>if i%256<s then spF by_ (j+1) i else spF by_ j i)/\Grew w wr)
   case atStart=>exact⟨0,rfl,lX,rfl,p.2.1.congr λi _=>by simp,p.2.2⟩
   case round=>
    obtain⟨s,C,t,rfl,a,d⟩:=hrel;have l:Hid (gk=256-s/\SpAt wr w.heap.size (λi=>if i%256<s then spF by_ (j+1) i else spF by_ j i)/\Grew w wr):=⟨C,a,d⟩
    by_cases ai:s<256
    ·have U:(s:Int)<256:=by omega
     have aj:wr.cell? ⟨b,o+j,none⟩=some (iX ((by_.getD j 0:Nat):Int)):=zA T S d;have u:bits .and i64 ((s:Int)/2^(j%8)) 1=((s/2^(j%8)%2:Nat):Int):=by
      rw[zCe];exact zFc _ (Nat.lt_of_le_of_lt (Nat.div_le_self _ _) (by omega))
     have y:Hid (s.testBit (j%8)=decide (s/2^(j%8)%2=1)):=Nat.testBit_eq_decide_div_mod_eq;have V:j/8*256+s<768:=by omega
     obtain⟨G,ak⟩:=a.cell (j/8*256+s) V;have y3:wr.cell? ⟨w.heap.size,j/8*256+s,none⟩=some (iX ((spF by_ j (j/8*256+s):Nat):Int)):=by
      rw[G,if_neg (by omega)]
     have z:Hid (∀i,i<768->(if i%256<s+1 then spF by_ (j+1) i else spF by_ j i)=if i=j/8*256+s then spF by_ j i|||(if s.testBit (j%8) then by_.getD j 0 else 0) else if i%256<s then spF by_ (j+1) i else spF by_ j i):=λi g=>by
      by_cases e:i=j/8*256+s
      ·rw[if_pos e,if_pos (by omega),zJf]
       congr 1
       unfold spG;rw[if_pos (by omega),show i%256=s by omega]
      ·rw[if_neg e]
       by_cases H:i%256<s
       ·rw[if_pos H,if_pos (by omega)]
       ·rw[if_neg H]
        by_cases I:i%256<s+1
        ·rw[if_pos I,zJf]
         unfold spG;rw[if_neg (by omega),Nat.or_zero]
        ·rw[if_neg I]
     have al:=O j (j/8*256+s);clear C a d G;cases m:s.testBit (j%8) with
     |true=>
      have W:(bits .and i64 ((s:Int)/2^(j%8)) 1==1)=true:=by
       have k:=y.out;rw[m] at k;rw[u,of_decide_eq_true k.symm];rfl
      rw[m] at z;have X:Hid (bits .or i64 ((spF by_ j (j/8*256+s):Nat):Int) ((by_.getD j 0:Nat):Int)=((spF by_ j (j/8*256+s)|||by_.getD j 0:Nat):Int)):=qA _ _ (by omega) (by omega);clear u y m;generalize Y:by_.getD j 0=r at *;generalize J:spF by_ j (j/8*256+s)=c0 at *;have aa:Hid (spF by_ j (j/8*256+s)=c0):=J;clear Y J;have am:(j:Int)/8<3:=by omega
      have an:(0:Int)<=(j:Int)/8:=by omega
      go_wp2;go_region;go_wp2;go_roundg (256-(s+1))
      case measure=>rw[l.out.1];omega
      case rel=>
       refine⟨s+1,rfl,by omega,by go_num,?_,l.2.2.trans (Keep.trans (zP _ _ _ _ lQ) (Keep.drew _))⟩;have K:=l.2.1.set (j/8*256+s) (c0|||r);rw[<-X.out] at K;refine SpAt.keep (SpAt.congr K λi g=>?_) rfl;show(if i=_ then _ else if _ then _ else _)=if _ then _ else _
       rw[z.out i g];by_cases e:i=j/8*256+s
       ·rw[if_pos e,if_pos e,e,aa.out];simp
       ·rw[if_neg e,if_neg e]
     |false=>
      have W:(bits .and i64 ((s:Int)/2^(j%8)) 1==1)=false:=by
       have k:=y.out;rw[m] at k;have D:=of_decide_eq_false k.symm;rw[u,hX];omega
      rw[m] at z;clear u y m;go_wp2;go_roundg (256-(s+1))
      case measure=>rw[l.out.1];omega
      case rel=>
       refine⟨s+1,rfl,by omega,by go_num,?_,l.2.2⟩;refine l.2.1.congr λi g=>?_;show(if _ then _ else _)=if _ then _ else _
       rw[z.out i g];by_cases e:i=j/8*256+s
       ·rw[if_pos e,if_neg (by omega),if_neg (by decide),Nat.or_zero]
       ·rw[if_neg e]
    ·have U:(256:Int)<=(s:Int):=by omega
     have e:s=256:=by omega
     subst e;have ac:Hid (SpAt wr w.heap.size (spF by_ (j+1))):=a.congr λi _=>by rw[if_pos (hY _ (by omega))]
     clear C a d;go_wp2;go_roundg (by_.length-(j+1))
     case measure=>rw[p.out.1];omega
     case rel=>exact⟨j+1,rfl,by omega,by go_num,ac,l.2.2⟩
  ·have R:(by_.length:Int)<=(j:Int):=by omega
   have e:j=by_.length:=by omega
   subst e;clear B a d;go_wp2;go_ret;exact⟨rfl,p.2.1,p.2.2⟩
end
def zAY (c:Nat->Nat)(x:Nat):Nat:=c (x%256)|||c (256+x/256%256)|||c (512+x/65536%256)
theorem zOV (c:Nat->Nat)(a:∀i,c i<16777216)(x:Nat):zAY c x<16777216:=Nat.or_lt_two_pow (n:=24) (Nat.or_lt_two_pow (n:=24) (a _) (a _)) (a _)
theorem zCt (w:World)(f:Nat)(c:Nat->Nat)(a:SpAt w f c)(b:∀i,c i<16777216)(x:Nat)(j:x<16777216):
  Calls prog 92 #[pX f,iX x] w λe w'=>e=returned (iX ((zAY c x:Nat):Int))/\Grew w w':=by
 have m:∀y:Nat,y<16777216->bits .and i64 (y:Int) 255=((y%256:Nat):Int):=λy t=>by
  have:=qT y 255 (by omega) (by omega);rw[show (255:Nat)=2^8-1 from rfl,Nat.and_two_pow_sub_one_eq_mod] at this;exact this
 have m0:=m x j;have m1:bits .and i64 ((x:Int)/256) 255=((x/256%256:Nat):Int):=by
  have:=m (x/256) (by omega);rw[<-this]
  congr 1
 have m2:bits .and i64 ((x:Int)/65536) 255=((x/65536%256:Nat):Int):=by
  have:=m (x/65536) (by omega);rw[<-this]
  congr 1
 have u:=(a.cell (x%256) (by omega)).1;have v:=(a.cell (256+x/256%256) (by omega)).1;have z:=(a.cell (512+x/65536%256) (by omega)).1;have k:Hid (zAY c x=c (x%256)|||c (256+x/256%256)|||c (512+x/65536%256)):=rfl;have l:=b (x%256);have o:=b (256+x/256%256);have A:=b (512+x/65536%256);have B:((x%256:Nat):Int)<256:=by omega
 have C:((x/256%256:Nat):Int)<256:=by omega
 have D:((x/65536%256:Nat):Int)<256:=by omega
 clear m b a;generalize x%256=p at *;generalize x/256%256=q at *;generalize x/65536%256=r at *;generalize c p=c0 at *;generalize c (256+q)=c1 at *;generalize c (512+r)=c2 at *;have g:=qA c0 c1 (by omega) (by omega);have d:=qA (c0|||c1) c2 (Nat.lt_trans (Nat.or_lt_two_pow (n:=24) l o) (by omega)) (by omega);rw[<-g] at d;have s:=vl d;clear g d;go_in;go_wp2;go_quiet (fail);go_wp2;go_ret;refine⟨?_,Keep.alike (w':=w.drewN nq) ⟨rfl,rfl,rfl⟩⟩;rw[k.out,<-s.out];rfl
def qH (follow:List Nat)(n q:Nat):Nat:=vL (λp=>(follow.getD p 0).testBit q) n
def zDg (follow:List Nat):List Nat:=(List.range follow.length).map (qH follow follow.length)
theorem zEr (follow:List Nat):(zDg follow).length=follow.length:=by simp[zDg]
theorem zMo (follow:List Nat)(q:Nat)(a:q<follow.length):(zDg follow).getD q 0=qH follow follow.length q:=by
 unfold zDg;rw[lW,gQ,List.getElem?_range a];rfl
theorem zIY (follow:List Nat)(n q:Nat)(a:n<=24):qH follow n q<16777216:=lZ (zBS _ n) (kG (by omega) a:2^n<=2^24)
theorem zKy (follow:List Nat)(n q:Nat):qH follow (n+1) q=if(follow.getD n 0).testBit q then qH follow n q|||2^n else qH follow n q:=rfl
theorem zO4 (a j:Nat)(b:j<62)(c:a<9223372036854775808):bits .or i64 (a:Int) (IntKind.i64.wrap (2^j))=((a|||2^j:Nat):Int):=by
 have d:2^j<2^62:=Nat.pow_lt_pow_right (by omega) b;have e:((2:Int)^j)=((2^j:Nat):Int):=by simp
 rw[e];generalize 2^j=f at *;rw[zCG _ (by omega) (by omega)];exact qA _ _ c (by omega)
theorem zMe (x q:Nat)(a:x<9223372036854775808):(bits .and i64 ((x:Int)/2^q) 1==1)=x.testBit q:=by
 have b:bits .and i64 ((x:Int)/2^q) 1=((x/2^q%2:Nat):Int):=by
  rw[zCe];exact zFc _ (Nat.lt_of_le_of_lt (Nat.div_le_self _ _) a)
 have c:x.testBit q=decide (x/2^q%2=1):=Nat.testBit_eq_decide_div_mod_eq;rw[b,c];by_cases e:x/2^q%2=1
 ·rw[e];rfl
 ·rw[gU e,hX];omega
theorem zHI (w:World)(v:Value)(a:List Nat)(R:Ints w (In w) v (ints a))(ax:a.length<=24)(B:∀x∈a,x<16777216):
  Calls prog 170 #[v] w λe w'=>∃u,e=returned u/\Ints w' (In w') u (ints (zDg a))/\Grew w w':=by
 obtain⟨S,T,U,V,W⟩:=info_parts yF;obtain⟨X,ay,rfl,_,_,C⟩:=R;rw[zO] at C ⊢;have Y:Hid (∀i,i<a.length->∃b o,X=some ⟨b,o,none⟩/\In w b/\w.cell? ⟨b,o+i,none⟩=some (iX ((a.getD i 0:Nat):Int))/\a.getD i 0<16777216):=by
  intro i f;obtain⟨b,o,aa,ac,F⟩:=C i f;rw[jF] at F;exact⟨b,o,aa,ac,F,B _ (zY _ _ 0 f)⟩
 obtain⟨w1,ad,G,p⟩:=run_makeSlice_full (P:=prog) w w.heap.size 45 3 S _ 1 underlying45 T U V i64 i64 a.length (by omega) (by rw[W];omega) (by unfold maxLen;omega) lQ;have I:Hid (Row w1 w.heap.size 3 (slice (qX w.heap.size) a.length a.length) a.length (λq=>iX ((qH a 0 q:Nat):Int))/\Grew w w1):=by
  refine⟨?_,⟨p.os,p.output,p.size,λk ae _=>p.block k ae (by simp)⟩⟩;have c:=G;rw[Nat.mul_one,zAL _ rfl] at c;exact c
 have af:Hid (∀wr,Row wr w.heap.size 3 (slice (qX w.heap.size) a.length a.length) a.length (λq=>iX ((qH a a.length q:Nat):Int))->Ints wr (In wr) (slice (qX w.heap.size) a.length a.length) (ints (zDg a))):=λwr c=>by
  refine zBb (H:=w.heap.size) (Row.ownI ?_);rw[zO,zEr];refine c.congr λq ag=>?_;rw[jF,zMo _ _ ag]
 have ah:Hid (∀j q,j<=24->qH a j q<16777216):=λj q c=>zIY a j q c;clear C B G p;go_in;go_wp2;clear ad;go_loopg [12] a.length (λk i wr=>∃j:Nat,k=a.length-j/\j<=a.length/\i=iX (j:Int)/\Row wr w.heap.size 3 (slice (qX w.heap.size) a.length a.length) a.length (λq=>iX ((qH a j q:Nat):Int))/\Grew w wr)
 case atStart=>exact⟨0,rfl,lX,rfl,I.1,I.2⟩
 case round=>
  obtain⟨j,D,az,rfl,d,l⟩:=hrel;have t:Hid (gk=a.length-j/\Row wr w.heap.size 3 (slice (qX w.heap.size) a.length a.length) a.length (λq=>iX ((qH a j q:Nat):Int))/\Grew w wr):=⟨D,d,l⟩
  by_cases ai:j<a.length
  ·have aj:(j:Int)<(a.length:Int):=by omega
   obtain⟨b,o,rfl,ak,J,aA⟩:=Y j ai;have al:wr.cell? ⟨b,o+j,none⟩=some (iX ((a.getD j 0:Nat):Int)):=zA J ak l;have am:Hid (∀q,qH a (j+1) q=if(a.getD j 0).testBit q then qH a j q|||2^j else qH a j q):=λq=>zKy a j q;clear D d l J;generalize a.getD j 0=r at *;go_wp2;clear al;go_loopg [19] a.length (λk i wr=>∃s:Nat,k=a.length-s/\s<=a.length/\i=iX (s:Int)/\Row wr w.heap.size 3 (slice (qX w.heap.size) a.length a.length) a.length (λq=>iX (((if q<s then qH a (j+1) q else qH a j q:Nat)):Int))/\Grew w wr)
   case atStart=>exact⟨0,rfl,lX,rfl,t.2.1.congr λi _=>by simp,t.2.2⟩
   case round=>
    obtain⟨s,E,B,rfl,d,l⟩:=hrel;have m:Hid (gk=a.length-s/\Row wr w.heap.size 3 (slice (qX w.heap.size) a.length a.length) a.length (λq=>iX (((if q<s then qH a (j+1) q else qH a j q:Nat)):Int))/\Grew w wr):=⟨E,d,l⟩
    by_cases an:s<a.length
    ·have ao:(s:Int)<(a.length:Int):=by omega
     obtain⟨g,aB,K,ap,aq,ar,au,L,M⟩:=d.get (by omega);have av:g=w.heap.size:=by injection K with y _ _;injection y with y;injection y with y;exact y.symm
     subst av;have aC:wr.cell? ⟨w.heap.size,s,none⟩=some (iX ((qH a j s:Nat):Int)):=by
      rw[L s an,if_neg (by omega)]
     have aD:=M s;have N:=zMe r s (by omega);have aE:=ah j s (by omega);have z:Hid (∀i,i<a.length->(if i<s+1 then qH a (j+1) i else qH a j i)=if i=s then(if r.testBit s then qH a j s|||2^j else qH a j s) else if i<s then qH a (j+1) i else qH a j i):=λi f=>by
      by_cases e:i=s
      ·rw[if_pos e,if_pos (by omega),e,am.out s]
      ·rw[if_neg e]
       by_cases O:i<s
       ·rw[if_pos O,if_pos (by omega)]
       ·rw[if_neg O,if_neg (by omega)]
     clear E d l K ap aq ar au L M;cases A:r.testBit s with
     |true=>
      rw[A] at N z;have aF:Hid (bits .or i64 ((qH a j s:Nat):Int) (IntKind.i64.wrap (2^j))=((qH a j s|||2^j:Nat):Int)):=zO4 _ j (by omega) (by omega);have Q:Hid (bits .or i64 ((qH a j s:Nat):Int) (wrap64 (2^j))=((qH a j s|||2^j:Nat):Int)):=zN0 _ j (by omega) (by omega);clear A;generalize qH a j s=c0 at *;go_wp2;go_region;go_wp2;go_roundg (a.length-(s+1))
      case measure=>rw[m.out.1];omega
      case rel=>
       refine⟨s+1,rfl,by omega,by go_num,?_,m.2.2.trans (Keep.trans (zP _ _ _ _ lQ) (Keep.drew _))⟩;have c:=m.2.1.set s (iX ((c0|||2^j:Nat):Int));rw[<-Q.out] at c;refine Row.congr (w:=(wr.setCell ⟨w.heap.size,s,none⟩ _).drew) c λi f=>?_;rw[z.out i f];by_cases e:i=s
       ·rw[if_pos e,if_pos e];rw[Q.out];simp
       ·rw[if_neg e,if_neg e]
     |false=>
      rw[A] at N z;clear A;go_wp2;go_roundg (a.length-(s+1))
      case measure=>rw[m.out.1];omega
      case rel=>
       refine⟨s+1,rfl,by omega,by go_num,?_,m.2.2⟩;refine m.2.1.congr λi f=>?_;rw[z.out i f];by_cases e:i=s
       ·rw[if_pos e,if_neg (by omega),e];simp
       ·rw[if_neg e]
    ·have ao:(a.length:Int)<=(s:Int):=by omega
     have aw:=vl <| d.congr λi f=>by rw[if_pos (by omega)]
     clear E d l;go_wp2;go_roundg (a.length-(j+1))
     case measure=>rw[t.out.1];omega
     case rel=>exact⟨j+1,rfl,by omega,by go_num,aw,m.2.2⟩
  ·have aj:(a.length:Int)<=(j:Int):=by omega
   have e:j=a.length:=by omega
   subst e;clear D d l;go_wp2;go_ret;exact⟨_,rfl,af _ t.2.1,t.2.2⟩
section
def zII (l:List Nat)(x:Nat):List Nat:=if l.contains x then l else l++[x]
def zBO (c:Nat->Nat)(ls:List Nat)(t:Nat)(l:List Nat):Nat->List Nat
 |0=>l
 |k+1=>zII (zBO c ls t l k) (zAY c (t&&&ls.getD k 0))
def zAo (c:Nat->Nat)(ls:List Nat):Nat->Nat->List Nat->List Nat
 |0,_,l=>l
 |f+1,i,l=>if i<l.length then zAo c ls f (i+1) (zBO c ls (l.getD i 0) l ls.length) else l
def zPP (c:Nat->Nat)(ls:List Nat)(ends:Nat):List Nat:=zAo c ls 16777216 0 [ends]
structure Once (B:Nat)(l:List Nat):Prop where
 nd:l.Nodup
 lt:∀x∈l,x<B
theorem zN4 (b:Nat)(l:List Nat)(d:Once b l):l.length<=b:=by
 induction b generalizing l with
 |zero=>
  cases l with
  |nil=>exact lQ
  |cons x l=>exact absurd (d.lt x (hU)) (by omega)
 |succ b f=>
  have g:Once b (l.erase b):=⟨d.nd.erase b,λx i=>by
   have e:=(d.nd.mem_erase_iff.1 i)
   have:=d.lt x e.2;have:=e.1;omega⟩
  have:=f _ g;have j:=List.length_erase (a:=b) (l:=l);rw[j] at this;split at this <;> omega
theorem zNB {d:Nat}{l:List Nat}{x:Nat}(f:Once d l)(i:x<d):Once d (zII l x):=by
 unfold zII;split
 ·exact f
 ·rename_i j
  refine⟨?_,λy k=>?_⟩
  ·rw[List.nodup_append]
   refine⟨f.nd,by simp,λa o b p e=>?_⟩;rw[kY.1 p] at e;subst e;exact j (by simpa using o)
  ·rcases kU.1 k with g|g
   ·exact f.lt y g
   ·rw[kY.1 g];exact i
theorem zOJ (l:List Nat)(x:Nat):l.length<=(zII l x).length/\∀i,i<l.length->(zII l x).getD i 0=l.getD i 0:=by
 unfold zII;split
 ·exact⟨lQ,λ_ _=>rfl⟩
 ·refine⟨by simp,λi a=>?_⟩
  rw[lW,kW a,lW]
theorem zJX (c:Nat->Nat)(a:List Nat)(t:Nat)(l:List Nat)(k:Nat):l.length<=(zBO c a t l k).length/\∀i,i<l.length->(zBO c a t l k).getD i 0=l.getD i 0:=by
 induction k with
 |zero=>exact⟨lQ,λ_ _=>rfl⟩
 |succ k b=>
  have d:=zOJ (zBO c a t l k) (zAY c (t&&&a.getD k 0));exact⟨lY b.1 d.1,λi e=>(d.2 i (by omega)).trans (b.2 i e)⟩
theorem zHw {a:Nat}{c:Nat->Nat}(b:∀x,zAY c x<a)(d:List Nat)(t:Nat){l:List Nat}(e:Once a l)(k:Nat):Once a (zBO c d t l k):=by
 induction k with
 |zero=>exact e
 |succ k f=>exact zNB f (b _)
theorem zHO {b:Nat}{c:Nat->Nat}(e:∀x,zAY c x<b)(d:List Nat)(f:Nat):∀i l,Once b l->Once b (zAo c d f i l):=by
 induction f with
 |zero=>exact λi l a=>a
 |succ f g=>
  intro i l a;unfold zAo;split
  ·exact g _ _ (zHw e d _ a _)
  ·exact a
theorem zN1 (f:Nat->Nat)(k:Nat)(a:∀i,f i<2^k)(n:Nat):zO6 f n<2^k:=by
 induction n with
 |zero=>exact Nat.pow_pos (by omega)
 |succ n b=>exact Nat.or_lt_two_pow b (a n)
theorem zOW (by_:List Nat)(k:Nat)(b:∀x∈by_,x<2^k)(n i:Nat):spF by_ n i<2^k:=by
 refine zN1 _ k (λp=>?_) n;have a:0<2^k:=Nat.pow_pos (by omega);unfold spG;split
 ·split
  ·by_cases d:p<by_.length
   ·exact b _ (zY _ _ 0 d)
   ·rw[lW,List.getElem?_eq_none (by omega)];exact a
  ·exact a
 ·exact a
theorem zJe (c:Nat->Nat)(k:Nat)(a:∀i,c i<2^k)(x:Nat):zAY c x<2^k:=Nat.or_lt_two_pow (Nat.or_lt_two_pow (a _) (a _)) (a _)
structure Tt (w0 w:World)(fb ps N:Nat)(c:Nat->Nat)(u:Value)(l:List Nat)(m:Nat->Bool):Prop where
 sp:SpAt w fb c
 se:SeIs w w0.heap.size ps N m
 own:w.ownsRow w0.heap.size 21 1 u l.length (l.map λ(x:Nat)=>int .i32 (x:Int))
 keep:Grew w0 w
section
variable {w0 w w2:World} {fb ps N:Nat} {c:Nat->Nat} {u:Value} {l:List Nat} {m:Nat->Bool}
theorem SeIs.grown {H:Nat}(a:SeIs w H ps N m)(b:Grew w w2):SeIs w2 H ps N m:=by
 obtain⟨g,cap,a⟩:=a;have d:=(kQ.1 a.blk).1;exact⟨g,cap,(b.block ps d (kJ d)).trans a.blk,zK a.row b⟩
theorem Tt.grown (a:Tt w0 w fb ps N c u l m)(b:Grew w w2):Tt w0 w2 fb ps N c u l m:=
 ⟨a.sp.keep (b.block fb a.sp.lt (kJ a.sp.lt)),a.se.grown b,zK a.own b,a.keep.trans (b.lower a.keep.size a.keep.size)⟩
theorem Tt.add {i:Nat->Bool}(b:Tt w0 w fb ps N c u l m)(a:StayU w0.heap.size w w2)(p:SeIs w2 w0.heap.size ps N i):Tt w0 w2 fb ps N c u l i:=by
 refine⟨?_,p,zD b.own λg _ _ d=>?_,b.keep.trans ⟨a.os,a.output,Nat.le_of_eq a.size.symm,λk q _=>a.low k q⟩⟩
 ·obtain⟨cs,r,s⟩:=b.sp
  exact⟨cs,a.other fb cs _ r (by decide),s⟩
 ·rcases b.own.2 with⟨f,_⟩|⟨j,cap,t,f,_,o,_⟩
  ·rw[f] at d;cases d
  ·rw[f] at d
   have e:j=g:=by simpa[Value.ownBlock] using d
   subst e;rw[o];exact a.other j t _ o (by decide)
theorem Tt.app {o:Obj}{g cap x:Nat}(a:Tt w0 w fb ps N c u l m)(q:w2.ownsRow w0.heap.size 21 1 (slice (qX g) (l.length+1) cap) (l.length+1) ((l.map λ(x:Nat)=>int .i32 (x:Int))++[int .i32 (x:Int)]))(b:(w.alloc o).grownBy w2 u.ownBlock):
  Tt w0 w2 fb ps N c (slice (qX g) (l.length+1) cap) (l++[x]) m:=by
 have f:∀j,j<w.heap.size->some j≠u.ownBlock->w2.heap[j]? =w.heap[j]? :=λj z r=>(b.block j (by simp;omega) r).trans (lG _ _ _ (by omega));refine⟨?_,?_,?_,a.keep.trans ⟨b.os,b.output,lY (by simp) b.size,λk i _=>f k (lZ i a.keep.size) λe=>by have:=(a.own.lt k e.symm).1;omega⟩⟩
 ·obtain⟨cs,p,s⟩:=a.sp
  exact⟨cs,(f fb a.sp.lt (zM a.own p (by decide))).trans p,s⟩
 ·obtain⟨t,v,d⟩:=a.se
  have y:=(kQ.1 d.blk).1;exact⟨t,v,(f ps y (zM a.own d.blk (by decide))).trans d.blk,zQ b d.row λk i=>yC d.row a.own (by decide) i⟩
 ·have e:(l++[x]).length=l.length+1:=by simp
  rw[e,List.map_append];exact q
end
end
end Go.Proofs.YtbjcfkdnjaiclaaGreat
