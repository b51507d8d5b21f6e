import Derived.Deep.DrawnRows
import Derived.Deep.RegionLaw
import Derived.Test.YtbjcfkdnjaiclaaGreatS0
import Derived.Test.YtbjcfkdnjaiclaaGreatS16
/- Parts of the proof. -/
set_option linter.unusedVariables false
set_option linter.unusedSimpArgs false
set_option maxHeartbeats 4000000
set_option maxRecDepth 100000
namespace Go.Proofs.YtbjcfkdnjaiclaaGreat
open Go.RowKit Go.Proofs.Tryz Go.World
open Go.Value (int slice bool pointer string agg tuple)
open Go.IntKind (i64)
open Go.Ending (returned)
theorem zNo (t:Tr):t.copies<=t.least+t.most+1:=by
 unfold Tr.copies;split
 ·split <;> omega
 ·omega
theorem zFM (g:World)(i:Nat):∀a,zCT g i a (xQ a) (qE a)
 |0=>λw n b t _ _ F _=>F.elim
 |a+1=>by
  have S:=zFM g i a;intro w n b t F I X z;have T:=vl X;obtain⟨Y,rv,aw,ai,aa,ao,cap,rfl,⟨_,U,ax,ay⟩,_,_⟩:=X;obtain⟨ab,ac,aj,-⟩:=id aa;subst aj;obtain⟨w1,ad,m⟩:∃w1,w1=w.alloc (.cells #[iX 0,iX 0,bool false] 167)/\Hid (NwIs g w1 i n/\w1.heap[w.heap.size]? =some (.cells (Sn.mk 0 0 false).cells 167)/\StayS w w1/\g.heap.size<=w.heap.size):=by
   have ae:=kZ (b:=w.heap.size) w (.cells #[iX 0,iX 0,bool false] 167) lQ;exact⟨_,rfl,F.grown ae,gX _ _,ae.stayS,by obtain⟨_,_,_,_,_,F⟩:=F;exact F.keep.size⟩
  have ak:Grew g w1:=by obtain⟨_,_,_,_,_,F⟩:=m.1;exact F.keep
  have V:=(ak.block b Y (kJ Y)).trans ai;have az:w1.cell? ⟨b,0,none⟩=some (iX (t.kind:Int)):=by unfold cell?;rw[V];rfl
  have aA:w1.cell? ⟨b,1,none⟩=some (slice ab t.set.ranges.length ac):=by unfold cell?;rw[V];rfl
  have aB:w1.cell? ⟨b,2,none⟩=some (bool t.set.others):=by unfold cell?;rw[V];rfl
  have J:Hid (∀x,NwIs g x i (xQ (a+1) n t).1->StayS w1 x->∃j,j=((x.setCell ⟨w.heap.size,0,none⟩ (iX ((xQ (a+1) n t).2.first:Int))).setCell ⟨w.heap.size,1,none⟩ (iX ((xQ (a+1) n t).2.last:Int))).setCell ⟨w.heap.size,2,none⟩ (bool (xQ (a+1) n t).2.empty)/\Hid (NwIs g j i (xQ (a+1) n t).1/\StayS w j)/\j.cell? ⟨w.heap.size,0,none⟩=some (iX ((xQ (a+1) n t).2.first:Int))/\j.cell? ⟨w.heap.size,1,none⟩=some (iX ((xQ (a+1) n t).2.last:Int))/\j.cell? ⟨w.heap.size,2,none⟩=some (bool (xQ (a+1) n t).2.empty)):=by
   intro x A o;obtain⟨al,am,an⟩:=zFU (s':=(xQ (a+1) n t).2) (o _ _ m.2.1);obtain⟨c0,c1,c2,_⟩:=zI al;exact⟨_,rfl,⟨an _ _ _ A m.2.2.2,λk c af=>by
    have z:=(kQ.1 af).1;exact(am k (by omega)).trans (o _ _ (m.2.2.1 k c af))⟩,c0,c1,c2⟩
  go_in;apply wp_cut;intro aC ap;go_wp2;apply ap.out;rw[<-ad];clear ad;by_cases r:t.kind=1
  ·have u:Hid (xQ (a+1) n t=(n.place t.set,n.spot)):=by show xQ (a+1) n t=_;unfold xQ;rw[if_pos r]
   have y:=vl <| zJz g w1 i n m.1 I.len (by rw[I.same];exact I.len) _ t.set aa;have G:Hid (Ca 123 #[pX i,agg #[slice ab t.set.ranges.length ac,bool t.set.others]] w1 λe w'=>e=returned (agg #[iX ((xQ (a+1) n t).2.first:Int),iX ((xQ (a+1) n t).2.last:Int),bool (xQ (a+1) n t).2.empty])/\NwIs g w' i (xQ (a+1) n t).1/\StayS w1 w'):=by
    show Calls _ _ _ _ _;rw[u.out];exact y
   clear u y;have L:((t.kind:Int)==1)=true:=by rw[beq_iff_eq];omega
   generalize xQ (a+1) n t=l at *;clear r;go_wp2_with (first|(go_at_call 123;refine G.mono ?_;rintro e x ⟨rfl,A,o⟩;obtain⟨M,N,O,f⟩:=zI (s:=⟨0,0,false⟩) (o _ _ m.2.1);have P:=f 0;have Q:=f 1;have R:=f 2;clear f))
   obtain⟨j,p,q,B,C,D⟩:=J x A o;rw[<-p];clear p;refine gV (v:=agg #[iX (l.2.first:Int),iX (l.2.last:Int),bool l.2.empty]) (by simp[results,results89,go_sem,B,C,D]) rfl ?_;exact⟨rfl,q.1,q.2⟩
  by_cases E:t.kind=2
  ·have u:Hid (xQ (a+1) n t=rowTo (xQ a) n t.parts t.parts.length):=by show xQ (a+1) n t=_;unfold xQ;rw[if_neg r,if_pos E]
   have y:=vl <| zD9 g i a (xQ a) (qE a) S (zAB a) w1 n b t m.1 I T (by unfold qE at z;rw[if_neg r,if_pos (Or.inl E)] at z;exact z) U;have G:Hid (Ca 124 #[pX i,pX b] w1 λe w'=>e=returned (agg #[iX ((xQ (a+1) n t).2.first:Int),iX ((xQ (a+1) n t).2.last:Int),bool (xQ (a+1) n t).2.empty])/\NwIs g w' i (xQ (a+1) n t).1/\StayS w1 w'):=by
    show Calls _ _ _ _ _;rw[u.out];exact y
   clear u y;have L:((t.kind:Int)==1)=false:=by rw[hX];omega
   have W:((t.kind:Int)==2)=true:=by rw[beq_iff_eq];omega
   generalize xQ (a+1) n t=l at *;clear r E;go_wp2_with (first|(go_at_call 124;refine G.mono ?_;rintro e x ⟨rfl,A,o⟩;obtain⟨M,N,O,f⟩:=zI (s:=⟨0,0,false⟩) (o _ _ m.2.1);have P:=f 0;have Q:=f 1;have R:=f 2;clear f))
   obtain⟨j,p,q,B,C,D⟩:=J x A o;rw[<-p];clear p;refine gV (v:=agg #[iX (l.2.first:Int),iX (l.2.last:Int),bool l.2.empty]) (by simp[results,results89,go_sem,B,C,D]) rfl ?_;exact⟨rfl,q.1,q.2⟩
  by_cases H:t.kind=3
  ·have u:Hid (xQ (a+1) n t=zAe (xQ a) n t.parts t.parts.length):=by show xQ (a+1) n t=_;unfold xQ;rw[if_neg r,if_neg E,if_pos H]
   have y:=vl <| zFo g i a (xQ a) (qE a) S (zAB a) w1 n b t m.1 I T (by unfold qE at z;rw[if_neg r,if_pos (Or.inr H)] at z;exact z) U;have G:Hid (Ca 125 #[pX i,pX b] w1 λe w'=>e=returned (agg #[iX ((xQ (a+1) n t).2.first:Int),iX ((xQ (a+1) n t).2.last:Int),bool (xQ (a+1) n t).2.empty])/\NwIs g w' i (xQ (a+1) n t).1/\StayS w1 w'):=by
    show Calls _ _ _ _ _;rw[u.out];exact y
   clear u y;have L:((t.kind:Int)==1)=false:=by rw[hX];omega
   have W:((t.kind:Int)==2)=false:=by rw[hX];omega
   have ag:((t.kind:Int)==3)=true:=by rw[beq_iff_eq];omega
   generalize xQ (a+1) n t=l at *;clear r E H;go_wp2_with (first|(go_at_call 125;refine G.mono ?_;rintro e x ⟨rfl,A,o⟩;obtain⟨M,N,O,f⟩:=zI (s:=⟨0,0,false⟩) (o _ _ m.2.1);have P:=f 0;have Q:=f 1;have R:=f 2;clear f))
   obtain⟨j,p,q,B,C,D⟩:=J x A o;rw[<-p];clear p;refine gV (v:=agg #[iX (l.2.first:Int),iX (l.2.last:Int),bool l.2.empty]) (by simp[results,results89,go_sem,B,C,D]) rfl ?_;exact⟨rfl,q.1,q.2⟩
  by_cases K:t.kind=4
  ·have u:Hid (xQ (a+1) n t=yH (xQ a) n t t.copies):=by show xQ (a+1) n t=_;unfold xQ;rw[if_neg r,if_neg E,if_neg H,if_pos K]
   have y:=vl <| zGn g i a (xQ a) (qE a) S (zAB a) w1 n b t m.1 I T (by unfold qE at z;rw[if_neg r,if_neg (by omega),if_pos K] at z;exact z) U (by have:=zNo t;omega) (by omega);have G:Hid (Ca 126 #[pX i,pX b] w1 λe w'=>e=returned (agg #[iX ((xQ (a+1) n t).2.first:Int),iX ((xQ (a+1) n t).2.last:Int),bool (xQ (a+1) n t).2.empty])/\NwIs g w' i (xQ (a+1) n t).1/\StayS w1 w'):=by
    show Calls _ _ _ _ _;rw[u.out];exact y
   clear u y;have L:((t.kind:Int)==1)=false:=by rw[hX];omega
   have W:((t.kind:Int)==2)=false:=by rw[hX];omega
   have ag:((t.kind:Int)==3)=false:=by rw[hX];omega
   have aq:((t.kind:Int)==4)=true:=by rw[beq_iff_eq];omega
   generalize xQ (a+1) n t=l at *;clear r E H K;go_wp2_with (first|(go_at_call 126;refine G.mono ?_;rintro e x ⟨rfl,A,o⟩;obtain⟨M,N,O,f⟩:=zI (s:=⟨0,0,false⟩) (o _ _ m.2.1);have P:=f 0;have Q:=f 1;have R:=f 2;clear f))
   obtain⟨j,p,q,B,C,D⟩:=J x A o;rw[<-p];clear p;refine gV (v:=agg #[iX (l.2.first:Int),iX (l.2.last:Int),bool l.2.empty]) (by simp[results,results89,go_sem,B,C,D]) rfl ?_;exact⟨rfl,q.1,q.2⟩
  ·have u:Hid (xQ (a+1) n t=(n,⟨0,0,true⟩)):=by show xQ (a+1) n t=_;unfold xQ;rw[if_neg r,if_neg E,if_neg H,if_neg K]
   rw[u.out] at J ⊢;have L:((t.kind:Int)==1)=false:=by rw[hX];omega
   have W:((t.kind:Int)==2)=false:=by rw[hX];omega
   have ag:((t.kind:Int)==3)=false:=by rw[hX];omega
   have aq:((t.kind:Int)==4)=false:=by rw[hX];omega
   obtain⟨M,N,O,f⟩:=zI (s:=⟨0,0,false⟩) m.2.1;have P:=f 0;have Q:=f 1;have R:=f 2;clear r E H K f;go_wp2;obtain⟨j,p,q,B,C,D⟩:=J w1 m.1 (StayS.refl _);have ah:j=((w1.setCell ⟨w.heap.size,0,none⟩ (iX 0)).setCell ⟨w.heap.size,1,none⟩ (iX 0)).setCell ⟨w.heap.size,2,none⟩ (bool true):=p;have ar:j.cell? ⟨w.heap.size,0,none⟩=some (iX 0):=B;have au:j.cell? ⟨w.heap.size,1,none⟩=some (iX 0):=C;have av:j.cell? ⟨w.heap.size,2,none⟩=some (bool true):=D;rw[<-ah];clear p ah;refine gV (v:=agg #[iX 0,iX 0,bool true]) (by simp[results,results89,go_sem,ar,au,av]) rfl ?_;exact⟨rfl,q.1,q.2⟩
section
section
variable {w0 w w2:World} {nb:Nat} {n:Nt} {sv fv rv ev:Value} {ps:List (Value×Bool)}
theorem Nw.addRule {o:Obj}{g cap m x:Nat}(b:Nw w0 w nb n sv fv rv ev ps)(s:m=n.rules.length)(t:w2.ownsRow w0.heap.size 3 1 (slice (qX g) (m+1) cap) (m+1) (((ints n.rules).map λx=>iX x)++[iX (x:Int)]))(d:(w.alloc o).grownBy w2 rv.ownBlock)(p:rv.ownBlock=some g\/w.heap.size<=g):
  Nw w0 (w2.setCell ⟨nb,4,none⟩ (slice (qX g) (m+1) cap)) nb {n with rules:=n.rules++[x]} sv fv (slice (qX g) (m+1) cap) ev ps/\StayS w (w2.setCell ⟨nb,4,none⟩ (slice (qX g) (m+1) cap)):=by
 subst s;have f:=b.box;have u:=b.lt;have i:∀j,j<w.heap.size->some j≠rv.ownBlock->w2.heap[j]? =w.heap[j]? :=λj G v=>(d.block j (by simp;omega) v).trans (lG _ _ _ (by omega));have y:w.heap.size<=w2.heap.size:=lY (by simp) d.size;have z:=(i nb u f.2.2.1).trans b.blk;have e:∀k,k≠nb->(w2.setCell ⟨nb,4,none⟩ (slice (qX g) (n.rules.length+1) cap)).heap[k]? =w2.heap[k]? :=λk a=>lJ _ _ _ _ a;have A:=zQ d b.sOwn λk a=>yC b.sOwn b.rOwn (by decide) a;have B:=zQ d b.fOwn b.fr;have C:=zQ d b.eOwn λk a=>yC b.eOwn b.rOwn (by decide) a;have H:nb≠g:=λc=>by
  rcases p with q|q
  ·exact f.2.2.1 (by rw[q,c])
  ·omega
 have D:OwnI w2 w0.heap.size (slice (qX g) (n.rules.length+1) cap) (ints (n.rules++[x])):=by
  rw[zBN];have:=zO n.rules;have r:=OwnI.snoc (l:=ints n.rules) (x:=(x:Int)) (by rw[this];exact t);rw[this] at r;exact r
 refine⟨⟨by simp[setCell,lU,z],zD A λk _ _ a=>e k λc=>f.1 (by rw[a,c]),b.plen,b.each,zD B λk _ _ a=>e k λc=>f.2.1 (by rw[a,c]),zD D λk _ _ a=>e k λc=>?_,zD C λk _ _ a=>e k λc=>f.2.2.2 (by rw[a,c]),zDa (qN b.fOwn (λg d e=>b.fr g e.symm d.symm) p),b.nH,b.keep.trans ⟨d.os,d.output,by rw[zC];exact y,λk a _=>(e k (by have:=b.nH;omega)).trans (i k (by have:=b.keep.size;omega) λc=>by have:=(b.rOwn.lt k c.symm).1;omega)⟩⟩,λk I a=>?_⟩
 ·have:g=k:=by simpa[Value.ownBlock] using a
  omega
 ·have E:=(kQ.1 a).1
  have F:k≠nb:=λc=>by
   rw[c,b.blk] at a;injection a with a;injection a with _ a;exact absurd a (by decide)
  exact(e k F).trans ((i k E (zM b.rOwn a (by decide))).trans a)
theorem Nw.addEmpty {o:Obj}{g cap m:Nat}{x:Bool}(b:Nw w0 w nb n sv fv rv ev ps)(p:m=n.empty.length)(q:w2.ownsRow w0.heap.size 4 1 (slice (qX g) (m+1) cap) (m+1) ((n.empty.map λx=>bool x)++[bool x]))(d:(w.alloc o).grownBy w2 ev.ownBlock)(r:ev.ownBlock=some g\/w.heap.size<=g):
  Nw w0 (w2.setCell ⟨nb,5,none⟩ (slice (qX g) (m+1) cap)) nb {n with empty:=n.empty++[x]} sv fv rv (slice (qX g) (m+1) cap) ps/\StayS w (w2.setCell ⟨nb,5,none⟩ (slice (qX g) (m+1) cap)):=by
 subst p;have f:=b.box;have s:=b.lt;have i:∀j,j<w.heap.size->some j≠ev.ownBlock->w2.heap[j]? =w.heap[j]? :=λj E t=>(d.block j (by simp;omega) t).trans (lG _ _ _ (by omega));have u:w.heap.size<=w2.heap.size:=lY (by simp) d.size;have v:=(i nb s f.2.2.2).trans b.blk;have e:∀k,k≠nb->(w2.setCell ⟨nb,5,none⟩ (slice (qX g) (n.empty.length+1) cap)).heap[k]? =w2.heap[k]? :=λk a=>lJ _ _ _ _ a;have y:=zQ d b.sOwn λk a=>yC b.sOwn b.eOwn (by decide) a;have z:=zQ d b.fOwn λk a=>yC b.fOwn b.eOwn (by decide) a;have A:=zQ d b.rOwn λk a=>yC b.rOwn b.eOwn (by decide) a;have F:nb≠g:=λc=>by
  rcases r with l|l
  ·exact f.2.2.2 (by rw[l,c])
  ·omega
 have B:=OwnB.snoc q;refine⟨⟨by simp[setCell,lU,v],zD y λk _ _ a=>e k λc=>f.1 (by rw[a,c]),b.plen,b.each,zD z λk _ _ a=>e k λc=>f.2.1 (by rw[a,c]),zD A λk _ _ a=>e k λc=>f.2.2.1 (by rw[a,c]),zD B λk _ _ a=>e k λc=>?_,b.fr,b.nH,b.keep.trans ⟨d.os,d.output,by rw[zC];exact u,λk a _=>(e k (by have:=b.nH;omega)).trans (i k (by have:=b.keep.size;omega) λc=>by have:=(b.eOwn.lt k c.symm).1;omega)⟩⟩,λk G a=>?_⟩
 ·have:g=k:=by simpa[Value.ownBlock] using a
  omega
 ·have C:=(kQ.1 a).1
  have D:k≠nb:=λc=>by
   rw[c,b.blk] at a;injection a with a;injection a with _ a;exact absurd a (by decide)
  exact(e k D).trans ((i k C (zM b.eOwn a (by decide))).trans a)
theorem Nw.setNet {i:Nat}{x:Value}{f:Nt}(b:Nw w0 w nb n sv fv rv ev ps)(j:f.sets=n.sets)(l:f.follow=n.follow)(m:f.rules=n.rules)(o:f.empty=n.empty)(p:(w.setCell ⟨nb,i,none⟩ x).heap[nb]? =some (.cells #[sv,fv,iX (f.first:Int),iX (f.ends:Int),rv,ev] 132)):Nw w0 (w.setCell ⟨nb,i,none⟩ x) nb f sv fv rv ev ps/\StayS w (w.setCell ⟨nb,i,none⟩ x):=by
 have e:∀k,k≠nb->(w.setCell ⟨nb,i,none⟩ x).heap[k]? =w.heap[k]? :=λk a=>lJ _ _ _ _ a;have g:=b.box;refine⟨⟨p,by rw[j];exact zD b.sOwn λk _ _ a=>e k λd=>g.1 (by rw[a,d]),by rw[j];exact b.plen,by rw[j];exact b.each,by rw[l];exact zD b.fOwn λk _ _ a=>e k λd=>g.2.1 (by rw[a,d]),by rw[m];exact zD b.rOwn λk _ _ a=>e k λd=>g.2.2.1 (by rw[a,d]),by rw[o];exact zD b.eOwn λk _ _ a=>e k λd=>g.2.2.2 (by rw[a,d]),b.fr,b.nH,b.keep.trans (zP _ _ _ _ b.nH)⟩,λk c a=>(e k λd=>?_).trans a⟩;rw[d,b.blk] at a;injection a with a;injection a with _ a;exact absurd a (by decide)
theorem Nw.setFirst (a:Nw w0 w nb n sv fv rv ev ps)(x:Nat):Nw w0 (w.setCell ⟨nb,2,none⟩ (iX (x:Int))) nb {n with first:=x} sv fv rv ev ps/\StayS w (w.setCell ⟨nb,2,none⟩ (iX (x:Int))):=a.setNet rfl rfl rfl rfl (by simp[setCell,lU,a.blk])
theorem Nw.setEnds (a:Nw w0 w nb n sv fv rv ev ps)(x:Nat):Nw w0 (w.setCell ⟨nb,3,none⟩ (iX (x:Int))) nb {n with ends:=x} sv fv rv ev ps/\StayS w (w.setCell ⟨nb,3,none⟩ (iX (x:Int))):=a.setNet rfl rfl rfl rfl (by simp[setCell,lU,a.blk])
end
def Nt.blank:Nt:=⟨[],[],0,0,[],[]⟩
def zNS (before:Nat)(q:Nt×Sn):Nt:={q.1 with first:=q.1.first|||q.2.first,ends:=q.1.ends|||q.2.last,rules:=q.1.rules++[2^q.1.sets.length-2^before],empty:=q.1.empty++[q.2.empty]}
def yA (d:Nat)(rules:List Tr):Nat->Nt
 |0=>Nt.blank
 |j+1=>zNS (yA d rules j).sets.length (xQ d (yA d rules j) (rules.getD j Tr.none))
theorem Nw.begin (w:World):Nw w (w.alloc (.cells #[slice none 0 0,slice none 0 0,iX 0,iX 0,slice none 0 0,slice none 0 0] 132)) w.heap.size Nt.blank (slice none 0 0) (slice none 0 0) (slice none 0 0) (slice none 0 0) []:=
 ⟨gX _ _,ownsRow_nil _ _ _ _,rfl,λi a=>absurd a (Nat.not_lt_zero _),OwnI.nil _ _,OwnI.nil _ _,ownsRow_nil _ _ _ _,λg b=>(by cases b),lQ,kZ _ _ lQ⟩
theorem zBc (a:Nat)(rules:List Tr)(j:Nat)(c:xE (qE a) rules j<=24):(yA a rules j).Good/\(yA a rules j).sets.length=xE (qE a) rules j:=by
 induction j with
 |zero=>exact⟨⟨lX,rfl,λx e=>absurd e List.not_mem_nil⟩,rfl⟩
 |succ j f=>
  have h:xE (qE a) rules j+qE a (rules.getD j Tr.none)<=24:=c;obtain⟨g,i⟩:=f (by omega);obtain⟨b,k,l⟩:=zAB a (yA a rules j) (rules.getD j Tr.none) g (by omega);exact⟨⟨b.len,b.same,b.fol⟩,by show(xQ a (yA a rules j) (rules.getD j Tr.none)).1.sets.length=xE (qE a) rules j+_;omega⟩
end
def Nt.Same (a b:Nt):Prop:=a.first=b.first/\a.ends=b.ends/\a.rules=b.rules/\a.empty=b.empty
theorem Nt.Same.refl (a:Nt):a.Same a:=⟨rfl,rfl,rfl,rfl⟩
theorem Nt.Same.trans {a b c:Nt}(d:a.Same b)(e:b.Same c):a.Same c:=⟨d.1.trans e.1,d.2.1.trans e.2.1,d.2.2.1.trans e.2.2.1,d.2.2.2.trans e.2.2.2⟩
theorem zEJ (n:Nt)(a b:Nat):(n.link a b).Same n:=by
 have:=zCC n a b n.follow.length;exact⟨this.2.2.2.1,this.2.2.2.2,this.2.1,this.2.2.1⟩
def Still (sub:Lay):Prop:=∀n t,(sub n t).1.Same n
theorem zE6 {a:Lay}(b:Still a)(n:Nt)(parts:List Tr)(j:Nat):(rowTo a n parts j).1.Same n:=by
 induction j with
 |zero=>exact Nt.Same.refl _
 |succ j c=>exact((zEJ _ _ _).trans (b _ _)).trans c
theorem zIy {a:Lay}(b:Still a)(n:Nt)(parts:List Tr)(j:Nat):(zAe a n parts j).1.Same n:=by
 induction j with
 |zero=>exact Nt.Same.refl _
 |succ j c=>exact(b _ _).trans c
theorem zLb (t:Tr)(j:Nat)(q:Nt×Sn):(zAU t j q).Same q.1:=by
 unfold zAU;split
 ·exact zEJ _ _ _
 ·exact Nt.Same.refl _
theorem zG7 {a:Lay}(b:Still a)(n:Nt)(t:Tr)(j:Nat):(yH a n t j).1.Same n:=by
 induction j with
 |zero=>exact Nt.Same.refl _
 |succ j c=>exact(((zEJ _ _ _).trans (zLb _ _ _)).trans (zE6 b _ _ _)).trans c
theorem zGm (a:Nat):Still (xQ a):=by
 induction a with
 |zero=>exact λn t=>Nt.Same.refl _
 |succ a b=>
  intro n t;unfold xQ;split
  ·exact⟨rfl,rfl,rfl,rfl⟩
  ·split
   ·exact zE6 b _ _ _
   ·split
    ·exact zIy b _ _ _
    ·split
     ·exact zG7 b _ _ _
     ·exact Nt.Same.refl _
structure Nt.Laid (n:Nt)(j:Nat):Prop where
 first:n.first<2^n.sets.length
 ends:n.ends<2^n.sets.length
 rules:∀x∈n.rules,x<2^n.sets.length
 rlen:n.rules.length=j
 elen:n.empty.length=j
theorem zB6 (a:Nat)(rules:List Tr)(j:Nat)(i:xE (qE a) rules j<=24):(yA a rules j).Laid j:=by
 induction j with
 |zero=>exact⟨(by decide:0<2^0),(by decide:0<2^0),λx e=>absurd e List.not_mem_nil,rfl,rfl⟩
 |succ j k=>
  have q:xE (qE a) rules j+qE a (rules.getD j Tr.none)<=24:=i;obtain⟨l,r⟩:=zBc a rules j (by omega);have b:=k (by omega);obtain⟨s,m,f⟩:=zAB a (yA a rules j) (rules.getD j Tr.none) l (by omega);obtain⟨s1,s2,h,o⟩:=zGm a (yA a rules j) (rules.getD j Tr.none);rw[<-m] at f;have g:2^(yA a rules j).sets.length<=2^(xQ a (yA a rules j) (rules.getD j Tr.none)).1.sets.length:=kG (by omega) (by omega);have t:0<2^(yA a rules j).sets.length:=Nat.pow_pos (by omega);refine⟨Nat.or_lt_two_pow (by rw[s1];exact lZ b.first g) f.first,Nat.or_lt_two_pow (by rw[s2];exact lZ b.ends g) f.last,λx e=>?_,?_,?_⟩
  ·show x<2^(xQ a (yA a rules j) (rules.getD j Tr.none)).1.sets.length
   have p:=e;rcases kU.1 p with c|c
   ·rw[h] at c
    exact lZ (b.rules x c) g
   ·rw[kY.1 c]
    omega
  ·show((xQ a (yA a rules j) (rules.getD j Tr.none)).1.rules++[_]).length=j+1
   rw[h,kX,b.rlen];rfl
  ·show((xQ a (yA a rules j) (rules.getD j Tr.none)).1.empty++[_]).length=j+1
   rw[o,kX,b.elen];rfl
theorem zP1 (a:Nat)(rules:List Tr)(e:xE (qE a) rules rules.length<=24)(f:rules.length<=8):(yA a rules rules.length).Ok:=by
 have c:=zBc a rules rules.length e;have b:=zB6 a rules rules.length e;exact⟨c.1.len,c.1.same,c.1.fol,b.first,b.ends,by rw[b.rlen];exact f,b.rules⟩
theorem Nw.netAt {k w:World}{e:Nat}{n:Nt}{sv f rv j:Value}{d:List (Value×Bool)}(a:Nw k w e n sv f rv j d):NetAt w e n sv f rv j:=by
 obtain⟨c0,c1,c2,l,m,o,_⟩:=a.cells;refine⟨a.lt,c0,c1,c2,l,m,o,?_,zBb a.fOwn,zBb a.rOwn,zHp a.eOwn λg p=>(a.eOwn.lt g p).2⟩;have q:∀i,i<n.sets.length->RangesAt w (d.getD i (undef,false)).1 (n.sets.getD i ⟨[],false⟩).ranges:=λi b=>(a.each i b).1.grown a.keep;rcases a.sOwn.2 with⟨c,r⟩|⟨g,cap,v,c,x,y,s,t,z,A⟩
 ·exact⟨none,0,by rw[c,r],by omega,by unfold maxLen;omega,λi b=>by omega⟩
 ·have u:=(a.sOwn.lt g (by rw[c];rfl)).2
  refine⟨some ⟨g,0,none⟩,cap,c,s,t,λi b=>⟨g,0,(d.getD i (undef,false)).1,rfl,u,?_,?_,q i b⟩⟩
  ·have:=a.sOwn.cells (g:=g) (by rw[c];rfl) (i*2) _ (zE3 d i (by rw[a.plen];exact b)).1
   rw[Addr.add_lit] at this;rw[Nat.zero_add] at this ⊢;exact this
  ·have:=a.sOwn.cells (g:=g) (by rw[c];rfl) (i*2+1) _ (zE3 d i (by rw[a.plen];exact b)).2
   rw[Addr.add_lit,(a.each i b).2] at this;rw[Nat.zero_add] at this ⊢;exact this
section
attribute [local go_sem ↓] Go.wp_at_zero Go.wp_at_succ
def zMh (w:World)(d:Nat)(v:Value)(l:List Tr):Prop:=∃ao cap,v=slice ao l.length cap/\l.length<=cap/\cap<=maxLen/\∀i,i<l.length->∃g o p,ao=some ⟨g,o,none⟩/\In w g/\w.cell? ⟨g,o+i,none⟩=some (pointer (some ⟨p,0,none⟩))/\TreeAt w d p (l.getD i Tr.none)
theorem zMZ (w:World)(d:Nat)(v:Value)(rules:List Tr)(hT:zMh w d v rules)(h8:rules.length<=8)(hl:xE (qE d) rules rules.length<=24):
  Calls prog 60 #[v] w λe w'=>∃nb,e=returned (pX nb)/\NwIs w w' nb (yA d rules rules.length):=by
 obtain⟨i0,hi0,hz0,hz1,hz2⟩:=info_parts yF;obtain⟨ib,hib,hb0,hb1,hb2⟩:=info_parts vO;obtain⟨ao,cap,rfl,_,_,hpc⟩:=hT;have HPT:Hid (∀wr n2,NwIs w wr w.heap.size n2->∀i,i<rules.length->∃g o p,ao=some ⟨g,o,none⟩/\cX wr g (o+i)=some (pX p)/\TreeAt w d p (rules.getD i Tr.none)):=by
  rintro wr n2 ⟨_,_,_,_,_,hN⟩ i hi;obtain⟨g,o,p,ha,hgi,hc,hti⟩:=hpc i hi;exact⟨g,o,p,ha,zA hc hgi hN.keep,hti⟩
 obtain⟨w1,hw1,HN1⟩:∃w1,w1=w.alloc (.cells #[slice none 0 0,slice none 0 0,iX 0,iX 0,slice none 0 0,slice none 0 0] 132)/\Hid (NwIs w w1 w.heap.size Nt.blank):=⟨_,rfl,_,_,_,_,_,Nw.begin w⟩
 have HTC:Hid (zCT w w.heap.size d (xQ d) (qE d)):=zFM w w.heap.size d;obtain⟨LT,hLT⟩:∃LT,LT=yA d rules:=⟨_,rfl⟩
 have HLT:Hid (LT 0=Nt.blank/\(∀j,LT (j+1)=zNS (LT j).sets.length (xQ d (LT j) (rules.getD j Tr.none)))/\(∀j,j<=rules.length->(LT j).Good/\(LT j).Laid j)/\(∀j,j<rules.length->(LT j).sets.length+qE d (rules.getD j Tr.none)<=24/\(xQ d (LT j) (rules.getD j Tr.none)).1.Good/\(xQ d (LT j) (rules.getD j Tr.none)).2.Small 24/\(xQ d (LT j) (rules.getD j Tr.none)).1.first<16777216/\(xQ d (LT j) (rules.getD j Tr.none)).1.ends<16777216/\(xQ d (LT j) (rules.getD j Tr.none)).1.rules.length=j/\(xQ d (LT j) (rules.getD j Tr.none)).1.empty.length=j)/\LT rules.length=yA d rules rules.length/\∀j,j<rules.length->(LT j).sets.length<=(xQ d (LT j) (rules.getD j Tr.none)).1.sets.length):=by
  rw[hLT];have hm:∀j,j<=rules.length->xE (qE d) rules j<=24:=λj hj=>lY (zDI _ rules j _ hj) hl;refine⟨rfl,λj=>rfl,λj hj=>⟨(zBc d rules j (hm j hj)).1,zB6 d rules j (hm j hj)⟩,λj hj=>?_,rfl,λj hj=>?_⟩;rotate_left
  ·have h1:=zBc d rules j (hm j (by omega))
   have h2:xE (qE d) rules j+qE d (rules.getD j Tr.none)<=24:=hm (j+1) hj;have h3:=zAB d (yA d rules j) (rules.getD j Tr.none) h1.1 (by omega);omega
  have h1:=zBc d rules j (hm j (by omega));have h2:xE (qE d) rules j+qE d (rules.getD j Tr.none)<=24:=hm (j+1) hj;have h3:=zAB d (yA d rules j) (rules.getD j Tr.none) h1.1 (by omega);obtain⟨s1,s2,s3,s4⟩:=zGm d (yA d rules j) (rules.getD j Tr.none);have h4:=zB6 d rules j (hm j (by omega));have hp:2^(yA d rules j).sets.length<=2^24:=kG (by omega) h1.1.len;exact⟨by omega,h3.1,h3.2.2.up (by omega),by rw[s1];exact lZ h4.first hp,by rw[s2];exact lZ h4.ends hp,by rw[s3];exact h4.rlen,by rw[s4];exact h4.elen⟩
 have HNC:Hid (∀wr n2,NwIs w wr w.heap.size n2->∃sa sc,cX wr w.heap.size 0=some (slice sa n2.sets.length sc)):=by
  rintro wr n2 ⟨sv,_,_,_,_,hN⟩;obtain⟨sa,sc,hsv⟩:=zE hN.sOwn;exact⟨sa,sc,by rw[<-hsv];exact hN.cells.1⟩
 generalize yA d rules rules.length=LE at *;clear hLT hl hpc;go_enter func60,ntmps60
 refine wp_seq_k ?_;intro K0 hK0;have HK0:Hid (∀a w,_->K0 a w):=hK0;clear hK0;go_wp2_with fail;apply HK0.out;clear HK0;refine wp_seq_k ?_;intro K0 hK0;have HK0:Hid (∀a w,_->K0 a w):=hK0;clear hK0;go_wp2_with fail;apply HK0.out;clear HK0;rw[<-hw1];clear hw1;go_wp2_with fail;go_loopg [12] rules.length (λq i wr=>∃j:Nat,q=rules.length-j/\j<=rules.length/\i=iX (j:Int)/\NwIs w wr w.heap.size (LT j))
 case atStart=>exact⟨0,rfl,lX,rfl,by rw[HLT.out.1];exact HN1⟩
 case round=>
  obtain⟨j,hgk,hj,rfl,hN⟩:=hrel;have HB:Hid (gk=rules.length-j/\NwIs w wr w.heap.size (LT j)):=⟨hgk,hN⟩
  by_cases hj2:j<rules.length
  ·have i1:(j:Int)<(rules.length:Int):=by omega
   obtain⟨g,o,p,rfl,hc,hti⟩:=HPT wr _ hN j hj2;obtain⟨b1,b2,b3,b4,b5,b6,b7⟩:=HLT.2.2.2.1 j hj2;obtain⟨g1,g2⟩:=HLT.2.2.1 j hj;have HC0:=HTC wr (LT j) p (rules.getD j Tr.none) hN g1 hti b1;have HNX:Hid (LT (j+1)=zNS (LT j).sets.length (xQ d (LT j) (rules.getD j Tr.none))):=HLT.2.1 j;obtain⟨sa,sc,y0⟩:=HNC wr _ hN;have hBL:=g1.len;have hBq0:(LT j).sets.length<=(xQ d (LT j) (rules.getD j Tr.none)).1.sets.length:=HLT.2.2.2.2.2 j hj2;clear hgk hN hti b1 g1 g2;generalize (LT j).sets.length=B at *;generalize xQ d (LT j) (rules.getD j Tr.none)=q at *;obtain⟨q1,⟨qf,ql,qe⟩⟩:=q;have b2':q1.sets.length<=24:=b2.len;have l3:qf<16777216:=b3.first
   have l4:ql<16777216:=b3.last;have b4':q1.first<16777216:=b4
   have b5':q1.ends<16777216:=b5;have b6':q1.rules.length=j:=b6;have b7':q1.empty.length=j:=b7;have HC:Hid (Ca 89 #[pX w.heap.size,pX p] wr λe w'=>e=returned (agg #[iX (qf:Int),iX (ql:Int),bool qe])/\NwIs w w' w.heap.size q1/\StayS wr w'):=HC0;have HNX2:Hid (LT (j+1)={q1 with first:=q1.first|||qf,ends:=q1.ends|||ql,rules:=q1.rules++[2^q1.sets.length-2^B],empty:=q1.empty++[qe]}):=HNX;clear HC0 HNX b2 b3 b4 b5 b6 b7;go_wp2_with (first|(go_at_call 89;refine HC.mono ?_;rintro e w5 ⟨rfl,⟨sv,fv,rv,ev,ps,hN5⟩,hS5⟩;have HN5:Hid (Nw w w5 w.heap.size q1 sv fv rv ev ps):=hN5;clear hN5 hS5))
   obtain⟨w6,hw6,HN6,HB6⟩:∃w6,w6=w5.alloc (.cells #[iX (qf:Int),iX (ql:Int),bool qe] 167)/\Hid (Nw w w6 w.heap.size q1 sv fv rv ev ps)/\Hid (w6.heap[w5.heap.size]? =some (.cells (Sn.mk qf ql qe).cells 167)):=⟨_,rfl,HN5.grown (kZ _ _ lQ),gX _ _⟩
   rw[<-hw6];clear hw6 HN5 y0 hc;generalize w5.heap.size=b8 at *;obtain⟨c0,c1,c2,c3,c4,c5,cf⟩:=HN6.cells;obtain⟨d0,d1,d2,-⟩:=zI HB6;have cf2:=cf 2;have hor1:bits .or i64 (q1.first:Int) (qf:Int)=((q1.first|||qf:Nat):Int):=qA _ _ (by omega) (by omega);have hor2:bits .or i64 (q1.ends:Int) (ql:Int)=((q1.ends|||ql:Nat):Int):=qA _ _ (by omega) (by omega);clear cf;go_region;obtain⟨w7,hw7,HN7,HB7⟩:∃w7,w7=(w6.setCell ⟨w.heap.size,2,none⟩ (iX ((q1.first|||qf:Nat):Int))).drew/\Hid (Nw w w7 w.heap.size {q1 with first:=q1.first|||qf} sv fv rv ev ps)/\Hid (w7.heap[b8]? =some (.cells (Sn.mk qf ql qe).cells 167)):=by
    have h:=HN6.setFirst (q1.first|||qf);exact⟨_,rfl,h.1.grown (Keep.drew _),h.2 _ _ HB6⟩
   rw[<-hw7];clear hw7 c0 c1 c2 c3 c4 c5 d0 d1 d2 cf2 HN6 HB6;obtain⟨c0,c1,c2,c3,c4,c5,cf⟩:=HN7.cells;obtain⟨d0,d1,d2,-⟩:=zI HB7;have cf3:=cf 3;clear cf;go_wp2_with fail;go_region;obtain⟨w8,hw8,HN8,HB8⟩:∃w8,w8=(w7.setCell ⟨w.heap.size,3,none⟩ (iX ((q1.ends|||ql:Nat):Int))).drew/\Hid (Nw w w8 w.heap.size {q1 with first:=q1.first|||qf,ends:=q1.ends|||ql} sv fv rv ev ps)/\Hid (w8.heap[b8]? =some (.cells (Sn.mk qf ql qe).cells 167)):=by
    have h:=HN7.setEnds (q1.ends|||ql);exact⟨_,rfl,h.1.grown (Keep.drew _),h.2 _ _ HB7⟩
   rw[<-hw8];clear hw8 c0 c1 c2 c3 c4 c5 d0 d1 d2 cf3 HN7 HB7 hor1 hor2;go_wp2_with fail;have hpl:q1.sets.length<=24:=b2';have hBq:B<=q1.sets.length:=hBq0;obtain⟨P1,hP1e⟩:∃P1:Nat,P1=2^q1.sets.length:=⟨_,rfl⟩
   obtain⟨P2,hP2e⟩:∃P2:Nat,P2=2^B:=⟨_,rfl⟩
   have hP1:P1<=16777216:=by rw[hP1e];exact(kG (by omega) hpl:2^q1.sets.length<=2^24)
   have hP2:P2<=16777216:=by rw[hP2e];exact(kG (by omega) hBL:2^B<=2^24)
   have hP3:P2<=P1:=by rw[hP1e,hP2e];exact kG (by omega) hBq
   obtain⟨R,hR⟩:∃R:Nat,R=P1-P2:=⟨_,rfl⟩
   have hR1:(P1:Int)-(P2:Int)=(R:Int):=by omega
   have hR0:R<16777217:=by omega
   have HR:Hid (R=P1-P2):=hR;have HX:Hid ((IntKind.i64.wrap (IntKind.i64.wrap ((2:Int)^q1.sets.length)-IntKind.i64.wrap ((2:Int)^B)))=(R:Int)):=by
    show _=_;have e1:((2:Int)^q1.sets.length)=(P1:Int):=by rw[hP1e];simp
    have e2:((2:Int)^B)=(P2:Int):=by rw[hP2e];simp
    rw[e1,e2,zBo (P1:Int) (by omega) (by omega),zBo (P2:Int) (by omega) (by omega),hR1];exact zBo _ (by omega) (by omega)
   have HPP:Hid (P1=2^q1.sets.length/\P2=2^B):=⟨hP1e,hP2e⟩
   clear hP1e hP2e;obtain⟨sa2,sc2,hsv⟩:=zE HN8.sOwn;obtain⟨ra,rc,hrv⟩:=HN8.rOwn.form;obtain⟨ea,ec,hev⟩:=zE HN8.eOwn;rw[zO] at hrv;have hrv2:rv=slice ra j rc:=by rw[hrv];show Value.slice ra q1.rules.length rc=_;rw[b6']
   have hev2:ev=slice ea j ec:=by rw[hev];show Value.slice ea q1.empty.length ec=_;rw[b7']
   have hsv2:sv=slice sa2 q1.sets.length sc2:=hsv;clear hsv hrv hev;subst hsv2 hrv2 hev2;obtain⟨c0,-,-,-,c4,c5,cf⟩:=HN8.cells;have cf4:=cf 4;have hlt:=HN8.lt;have hH8:w.heap.size<=w8.heap.size:=HN8.keep.size;have HNP:Hid (some w.heap.size≠(Value.slice ra j rc).ownBlock):=HN8.box.2.2.1;have OW:w8.ownsRow w.heap.size 3 1 (slice ra j rc) j ((ints q1.rules).map λx=>iX x):=by
    have:=HN8.rOwn;unfold OwnI at this;rw[zO] at this;have h2:w8.ownsRow w.heap.size 3 1 (slice ra j rc) q1.rules.length ((ints q1.rules).map λx=>iX x):=this;rw[b6'] at h2;exact h2
   obtain⟨d0,d1,d2,-⟩:=zI HB8;clear cf hR hP1 hP2 hP3 hBq hBq0 hR1;go_region_law ((refine step_append_lies _ (by rfl) (.tmp 46) (.tmp 56) 45 (by rfl) w.heap.size 3 i0 _ 1 8 underlying45 hi0 hz0 hz1 hz2 rfl (by decide) (slice ra j rc) j ((ints q1.rules).map λx=>iX x) (by simp[Act.eval,Act.put]) ((OW.alloc _).drew) ⟨w8.heap.size,0,none⟩ 1 1 [iX (IntKind.i64.wrap (IntKind.i64.wrap ((2:Int)^q1.sets.length)-IntKind.i64.wrap ((2:Int)^B)))] (by simp[Act.eval,Act.put]) (by rfl) (news_of_block (cs:=#[iX (IntKind.i64.wrap (IntKind.i64.wrap ((2:Int)^q1.sets.length)-IntKind.i64.wrap ((2:Int)^B)))]) (t:=3) (fr:=(0,0)) (gX w8 _)) (by simp[Value.oneCell']) (by decide) (by unfold maxLen;omega) (by omega) (by simp;omega) (w8.heap.size+1) (by simp) ?_;intro gg cap2 w9 hown hgrow hat hlt9;have hPB:=hgrow.block w.heap.size (by simp;omega) HNP;have c4b:cX w9 w.heap.size 4=some (slice ra j rc):=(gZ hPB).trans ((gW _ _ _ hlt).trans c4);have cf4b:w9.frozen? ⟨w.heap.size,4,none⟩=false:=(gY hPB).trans ((frozen?_alloc_past _ _ _ hlt).trans cf4)))
   all_goals
    rw[HX.out] at hown;have HN9:Hid (Nw w (w9.setCell ⟨w.heap.size,4,none⟩ (slice (qX gg) (j+1) cap2)) w.heap.size {q1 with first:=q1.first|||qf,ends:=q1.ends|||ql,rules:=q1.rules++[R]} (slice sa2 q1.sets.length sc2) fv (slice (qX gg) (j+1) cap2) (slice ea j ec) ps/\StayS w8.drew (w9.setCell ⟨w.heap.size,4,none⟩ (slice (qX gg) (j+1) cap2))):=(HN8.grown (Keep.drew _)).addRule (o:=Obj.cells #[iX (IntKind.i64.wrap (IntKind.i64.wrap ((2:Int)^q1.sets.length)-IntKind.i64.wrap ((2:Int)^B)))] 3) b6'.symm hown hgrow (by
     rcases hat with ha|ha
     ·exact .inl ha
     ·right;show w8.heap.size<=gg;omega)
    have HB9:Hid ((w9.setCell ⟨w.heap.size,4,none⟩ (slice (qX gg) (j+1) cap2)).heap[b8]? =some (.cells (Sn.mk qf ql qe).cells 167)):=HN9.2 _ _ HB8;clear hown hgrow hat hlt9 hPB c4b cf4b OW c0 c4 c5 cf4 d0 d1 d2 HX HN8 HB8 HNP;generalize w9.setCell ⟨w.heap.size,4,none⟩ (slice (qX gg) (j+1) cap2)=w10 at *;obtain⟨-,-,-,-,-,c5,cf⟩:=HN9.1.cells;have cf5:=cf 5;have hlt10:=HN9.1.lt;have hH10:w.heap.size<=w10.heap.size:=HN9.1.keep.size;have HNE:Hid (some w.heap.size≠(Value.slice ea j ec).ownBlock):=HN9.1.box.2.2.2;have OE:w10.ownsRow w.heap.size 4 1 (slice ea j ec) j (q1.empty.map λx=>bool x):=by
     have:=HN9.1.eOwn;unfold OwnB at this;have h2:w10.ownsRow w.heap.size 4 1 (slice ea j ec) q1.empty.length (q1.empty.map λx=>bool x):=this;rw[b7'] at h2;exact h2
    obtain⟨d0,d1,d2,-⟩:=zI HB9;clear cf;go_wp2_with fail;go_region_law ((refine step_append_lies _ (by rfl) (.tmp 64) (.tmp 67) 28 (by rfl) w.heap.size 4 ib _ 1 1 underlying28 hib hb0 hb1 hb2 rfl (by decide) (slice ea j ec) j (q1.empty.map λx=>bool x) (by simp[Act.eval,Act.put]) ((OE.alloc _).drew) ⟨w10.heap.size,0,none⟩ 1 1 [bool qe] (by simp[Act.eval,Act.put]) (by rfl) (news_of_block (cs:=#[bool qe]) (t:=4) (fr:=(0,0)) (gX w10 _)) (by simp[Value.oneCell']) (by decide) (by unfold maxLen;omega) (by omega) (by simp;omega) (w10.heap.size+1) (by simp) ?_;intro g5 cap5 w11 hown5 hgrow5 hat5 hlt11;have hPB5:=hgrow5.block w.heap.size (by simp;omega) HNE;have c5b:cX w11 w.heap.size 5=some (slice ea j ec):=(gZ hPB5).trans ((gW _ _ _ hlt10).trans c5);have cf5b:w11.frozen? ⟨w.heap.size,5,none⟩=false:=(gY hPB5).trans ((frozen?_alloc_past _ _ _ hlt10).trans cf5)))
    all_goals
     have HN12:Hid (NwIs w (w11.setCell ⟨w.heap.size,5,none⟩ (slice (qX g5) (j+1) cap5)) w.heap.size (LT (j+1))):=by
      have h:=(HN9.1.grown (Keep.drew _)).addEmpty (o:=Obj.cells #[bool qe] 4) b7'.symm hown5 hgrow5 (by
       rcases hat5 with ha|ha
       ·exact .inl ha
       ·right;show w10.heap.size<=g5;omega)
      show NwIs _ _ _ (LT (j+1));rw[HNX2.out,<-HPP.out.1,<-HPP.out.2,<-HR.out];exact⟨_,_,_,_,_,h.1⟩
     clear hown5 hgrow5 hat5 hlt11 hPB5 c5b cf5b OE c5 cf5 d0 d1 d2;go_wp2_with fail;go_roundg (rules.length-(j+1))
     case measure=>rw[HB.out.1];omega
     case rel=>exact⟨j+1,rfl,by omega,by go_num,HN12⟩
  ·have i1:(rules.length:Int)<=(j:Int):=by omega
   have e:j=rules.length:=by omega
   subst e;rw[HLT.out.2.2.2.2.1] at hN;clear hgk;go_wp2_with fail;go_ret;exact⟨_,rfl,hN⟩
end
def xS (c:Nat):Bool:=decide (48<=c)&&decide (c<=57)
def zC8 (c:Nat):Bool:=(decide (97<=c)&&decide (c<=122))||(decide (65<=c)&&decide (c<=90))
def isPrintedB (c:Nat):Bool:=decide (32<=c)&&decide (c<=126)
theorem zAG (w:World)(c:Nat):Calls prog 206 #[int .u8 (c:Int)] w λe w'=>e=returned (bool (xS c))/\w'=w:=by
 have a:xS c=(decide (48<=c)&&decide (c<=57)):=rfl;rcases(show c<48\/(48<=c/\c<=57)\/(48<=c/\57<c) by omega) with b|⟨b,d⟩|⟨b,d⟩
 all_goals
  have f:=vl a;clear a
  try have g:(c:Int)<48:=by omega
  try have g:(c:Int)>=48:=by omega
  try have i:(c:Int)<=57:=by omega
  try have i:57<(c:Int):=by omega
  go_in;go_wp2;go_ret;exact⟨by rw[f.out];first|(simp;done)|(simp;omega)|(simp;rw[Bool.eq_iff_iff];simp;omega),rfl⟩
theorem zCl (w:World)(c:Nat):Calls prog 218 #[int .u8 (c:Int)] w λe w'=>e=returned (bool (isPrintedB c))/\w'=w:=by
 have a:isPrintedB c=(decide (32<=c)&&decide (c<=126)):=rfl;rcases(show c<32\/(32<=c/\c<=126)\/(32<=c/\126<c) by omega) with b|⟨b,d⟩|⟨b,d⟩
 all_goals
  have f:=vl a;clear a
  try have g:(c:Int)<32:=by omega
  try have g:(c:Int)>=32:=by omega
  try have i:(c:Int)<=126:=by omega
  try have i:126<(c:Int):=by omega
  go_in;go_wp2;go_ret;exact⟨by rw[f.out];first|(simp;done)|(simp;omega)|(simp;rw[Bool.eq_iff_iff];simp;omega),rfl⟩
theorem zGq (w:World)(c:Nat):Calls prog 217 #[int .u8 (c:Int)] w λe w'=>e=returned (bool (zC8 c))/\w'=w:=by
 have d:(c<65)\/(65<=c/\c<=90)\/(90<c/\c<97)\/(97<=c/\c<=122)\/(122<c):=by omega
 have b:zC8 c=((decide (97<=c)&&decide (c<=122))||(decide (65<=c)&&decide (c<=90))):=rfl;rcases d with a|a|a|a|a
 all_goals
  have f:=vl b;clear b
  try have g:(c:Int)<97:=by omega
  try have g:(c:Int)>=97:=by omega
  try have i:(c:Int)<65:=by omega
  try have i:(c:Int)>=65:=by omega
  try have j:(c:Int)<=90:=by omega
  try have j:90<(c:Int):=by omega
  try have k:(c:Int)<=122:=by omega
  try have k:122<(c:Int):=by omega
  go_in;go_wp2;go_ret;exact⟨by rw[f.out];first|(simp;done)|(simp;omega)|(simp;rw[Bool.eq_iff_iff];simp;omega),rfl⟩
def zBf (c:Nat):Bool:=!(c==92||c==124||c==40||c==41||c==91||c==93||c==123||c==125||c==42||c==43||c==63||c==46)&&isPrintedB c
theorem zDq (w:World)(c:Nat):Calls prog 212 #[int .u8 (c:Int)] w λe w'=>e=returned (bool (zBf c))/\w'=w:=by
 have a:Hid (∀w,Ca 218 #[int .u8 (c:Int)] w λe w'=>e=returned (bool (isPrintedB c))/\w'=w):=λw=>zCl w c;by_cases d:c=92\/c=124\/c=40\/c=41\/c=91\/c=93\/c=123\/c=125\/c=42\/c=43\/c=63\/c=46
 ·rcases d with rfl|rfl|rfl|rfl|rfl|rfl|rfl|rfl|rfl|rfl|rfl|rfl
  all_goals
   go_in;go_wp2;go_ret;exact⟨rfl,rfl⟩
 obtain⟨f,g,h,i,j,k,l,m,o,p,q,r⟩:¬c=92/\¬c=124/\¬c=40/\¬c=41/\¬c=91/\¬c=93/\¬c=123/\¬c=125/\¬c=42/\¬c=43/\¬c=63/\¬c=46:=by omega
 have s:Hid (zBf c=isPrintedB c):=by
  show _=_;unfold zBf;simp[f,g,h,i,j,k,l,m,o,p,q,r]
 have v:((c:Int)==92)=false:=by rw[hX];omega
 have x:((c:Int)==124)=false:=by rw[hX];omega
 have y:((c:Int)==40)=false:=by rw[hX];omega
 have z:((c:Int)==41)=false:=by rw[hX];omega
 have A:((c:Int)==91)=false:=by rw[hX];omega
 have B:((c:Int)==93)=false:=by rw[hX];omega
 have C:((c:Int)==123)=false:=by rw[hX];omega
 have D:((c:Int)==125)=false:=by rw[hX];omega
 have E:((c:Int)==42)=false:=by rw[hX];omega
 have F:((c:Int)==43)=false:=by rw[hX];omega
 have G:((c:Int)==63)=false:=by rw[hX];omega
 have H:((c:Int)==46)=false:=by rw[hX];omega
 generalize isPrintedB c=b at *;go_in;go_wp2_with (first|(go_at_call 218;refine(a _).mono ?_;rintro e I ⟨rfl,t⟩;have u:=t.symm;subst u))
 go_ret;exact⟨by rw[s.out];rfl,rfl⟩
def zAd (c:Nat):Int:=if xS c then(c:Int)-48 else if 97<=c/\c<=102 then(c:Int)-87 else -1
theorem zGt (w:World)(c:Nat)(o:c<256):Calls prog 220 #[int .u8 (c:Int)] w λe w'=>e=returned (iX (zAd c))/\w'=w:=by
 have h:Hid (∀w,Ca 206 #[int .u8 (c:Int)] w λe w'=>e=returned (bool (xS c))/\w'=w):=λw=>zAG w c;by_cases p:48<=c/\c<=57
 ·have d:xS c=true:=by unfold xS;simp;omega
  rw[d] at h;have g:=vl h;have f:Hid (zAd c=(c:Int)-48):=by show _=_;unfold zAd;rw[if_pos d]
  have i:IntKind.u8.wrap ((c:Int)-48)=(c:Int)-48:=by rw[IntKind.wrap_u8];omega
  go_in;go_wp2_with (first|(go_at_call 206;refine(g _).mono ?_;rintro e j ⟨rfl,a⟩;have b:=a.symm;subst b))
  go_ret;exact⟨by rw[f.out];first|rfl|(simp [i];done)|(simp;omega),rfl⟩
 ·have d:xS c=false:=by unfold xS;simp;omega
  rw[d] at h;have g:=vl h;by_cases k:97<=c/\c<=102
  ·have f:Hid (zAd c=(c:Int)-87):=by show _=_;unfold zAd;rw[if_neg (by rw[d];decide),if_pos k]
   have l:(c:Int)>=97:=by omega
   have m:(c:Int)<=102:=by omega
   have i:IntKind.u8.wrap ((c:Int)-97)=(c:Int)-97:=by rw[IntKind.wrap_u8];omega
   go_in;go_wp2_with (first|(go_at_call 206;refine(g _).mono ?_;rintro e j ⟨rfl,a⟩;have b:=a.symm;subst b))
   go_ret;exact⟨by rw[f.out];first|rfl|(simp [i];done)|(simp;omega),rfl⟩
  ·have f:Hid (zAd c=-1):=by show _=_;unfold zAd;rw[if_neg (by rw[d];decide),if_neg k]
   by_cases q:97<=c
   ·have l:(c:Int)>=97:=by omega
    have m:102<(c:Int):=by omega
    go_in;go_wp2_with (first|(go_at_call 206;refine(g _).mono ?_;rintro e j ⟨rfl,a⟩;have b:=a.symm;subst b))
    go_ret;exact⟨by rw[f.out];rfl,rfl⟩
   ·have l:(c:Int)<97:=by omega
    go_in;go_wp2_with (first|(go_at_call 206;refine(g _).mono ?_;rintro e j ⟨rfl,a⟩;have b:=a.symm;subst b))
    go_ret;exact⟨by rw[f.out];rfl,rfl⟩
def qS (c:Nat):Bool:=decide (97<=c)&&decide (c<=122)
theorem zDp (w:World)(c:Nat):Calls prog 181 #[int .u8 (c:Int)] w λe w'=>e=returned (bool (qS c))/\w'=w:=by
 by_cases b:97<=c
 ·by_cases d:c<=122
  ·have a:Hid (qS c=true):=by show _=_;unfold qS;rw[gJ b,gJ d];rfl
   have f:(c:Int)>=97:=by omega
   have g:(c:Int)<=122:=by omega
   go_in;go_wp2;go_ret;exact⟨by rw[a.out];first|rfl|(simp;done)|(simp;omega),rfl⟩
  ·have a:Hid (qS c=false):=by show _=_;unfold qS;rw[gJ b,gU d];rfl
   have f:(c:Int)>=97:=by omega
   have g:122<(c:Int):=by omega
   go_in;go_wp2;go_ret;exact⟨by rw[a.out];first|rfl|(simp;done)|(simp;omega),rfl⟩
 ·have a:Hid (qS c=false):=by show _=_;unfold qS;rw[gU b];rfl
  have f:(c:Int)<97:=by omega
  go_in;go_wp2;go_ret;exact⟨by rw[a.out];first|rfl|(simp;done)|(simp;omega),rfl⟩
def zIA (s:ByteArray)(c:Nat):Nat:=(List.range s.size).findIdx λi=>byt s i==c
theorem zPt (s:ByteArray)(c j:Nat)(a:j<s.size)(b:byt s j=c)(d:∀i,i<j->byt s i≠c):zIA s c=j:=
 zEd _ _ j (by rw[List.length_range];exact a) (by rw[vK _ _ a];exact beq_iff_eq.2 b) λk e=>by rw[vK _ _ (by omega)];exact hX.2 (d k e)
theorem zNm (s:ByteArray)(c:Nat)(d:∀i,i<s.size->byt s i≠c):zIA s c=s.size:=by
 have b:=zBP (List.range s.size) (λi=>byt s i==c) λk a=>by
  rw[List.length_range] at a;rw[vK _ _ a];exact hX.2 (d k a)
 rw[List.length_range] at b;exact b
def zAD (s:ByteArray)(c:Nat):Bool:=decide (zIA s c<s.size)
def qD (s:ByteArray)(c:Nat):ByteArray:=if zAD s c then s.extract 0 (zIA s c) else s
def vA (s:ByteArray)(c:Nat):ByteArray:=if zAD s c then s.extract (zIA s c+1) s.size else⟨#[]⟩
theorem zDc (w:World)(s:ByteArray)(D:s.size<=1048576)(c:Nat):
  Calls prog 86 #[string s,int .u8 (c:Int)] w λe w'=>e=returned (tuple #[string (qD s c),string (vA s c),bool (zAD s c)])/\Grew w w':=by
 have p:Hid (∀j,j<s.size->byt s j=c->(∀i,i<j->byt s i≠c)->zIA s c=j):=λj=>zPt s c j;have r:=vl <| zNm s c;have t:Hid (∀j,zIA s c=j->j<s.size->(zAD s c=true/\qD s c=s.extract 0 j/\vA s c=s.extract (j+1) s.size)):=λj e m=>by
  have a:zAD s c=true:=by unfold zAD;rw[e];exact gJ m
  exact⟨a,by unfold qD;rw[if_pos a,e],by unfold vA;rw[if_pos a,e]⟩
 have u:Hid (zIA s c=s.size->(zAD s c=false/\qD s c=s/\vA s c=⟨#[]⟩)):=λe=>by
  have a:zAD s c=false:=by unfold zAD;rw[e];exact gU (by omega)
  exact⟨a,by unfold qD;rw[if_neg (by rw[a];decide)],by unfold vA;rw[if_neg (by rw[a];decide)]⟩
 generalize zAD s c=E at *;generalize qD s c=F at *;generalize vA s c=G at *;go_in;go_wp2;go_loopg [7] s.size (λq i wr=>∃j:Nat,q=s.size-j/\j<=s.size/\i=iX (j:Int)/\(∀k,k<j->byt s k≠c)/\wr=w)
 case atStart=>exact⟨0,rfl,lX,rfl,λk o=>by omega,rfl⟩
 case round=>
  obtain⟨j,g,m,rfl,d,rfl⟩:=hrel;have h:Hid (gk=s.size-j/\(∀k,k<j->byt s k≠c)):=⟨g,d⟩
  by_cases l:j<s.size
  ·have y:(j:Int)<(s.size:Int):=by omega
   have H:¬(j:Int)<0:=by omega
   have I:=zBG s j l;clear g d;by_cases f:byt s j=c
   ·have b:=vl <| t j (p j l f h.2) l
    have z:((byt s j:Int)==(c:Int))=true:=by rw[f];exact beq_self_eq_true _
    have J:(0:Int)<=(j:Int):=by omega
    have L:(j:Int)<=(s.size:Int):=by omega
    have M:(0:Int)<=(j:Int)+1:=by omega
    have N:(j:Int)+1<=(s.size:Int):=by omega
    have O:Hid (((j:Int)+1).toNat=j+1):=by show _=_;omega
    generalize byt s j=x at *;go_wp2;go_quiet (fail);go_wp2;refine gV (v:=tuple #[string (s.extract 0 j),string (s.extract (j+1) s.size),bool true]) (by simp[results,results86,go_sem]) rfl ?_;exact⟨by rw[b.out.1,b.out.2.1,b.out.2.2],Keep.alike (w':=wr.drewN nq) ⟨rfl,rfl,rfl⟩⟩
   ·have z:((byt s j:Int)==(c:Int))=false:=by rw[hX];omega
    have C:Hid (∀k,k<j+1->byt s k≠c):=λk o=>by
     by_cases e:k=j
     ·rw[e];exact f
     ·exact h.2 k (by omega)
    clear f;generalize byt s j=x at *;go_wp2;go_roundg (s.size-(j+1))
    case measure=>rw[h.out.1];omega
    case rel=>exact⟨j+1,rfl,by omega,by go_num,C,rfl⟩
  ·have y:(s.size:Int)<=(j:Int):=by omega
   have b:=vl <| u (r λk o=>d k (by omega));clear g d;go_wp2;refine gV (v:=tuple #[string s,string ⟨#[]⟩,bool false]) (by simp[results,results86,go_sem]) rfl ?_;exact⟨by rw[b.out.1,b.out.2.1,b.out.2.2],Keep.refl _ _ _⟩
theorem zAX (s:ByteArray):s.toList.isEmpty=decide (s.size=0):=by
 rw[ByteArray.toList_eq];have e:s.size=s.data.toList.length:=rfl;cases b:s.data.toList with
 |nil=>rw[e,b];rfl
 |cons a l=>rw[e,b];rfl
def jZ (c:Nat):Bool:=qS c||xS c
def xT (s:ByteArray):Bool:=decide (0<s.size)&&(decide (s.size<=6)&&(qS (byt s 0)&&decide (∀i,i<s.size->i=0\/jZ (byt s i)=true)))
theorem jL (w:World)(s:ByteArray)(R:s.size<=1048576):Calls prog 160 #[string s] w λe w'=>e=returned (bool (xT s))/\w'=w:=by
 have A:=zAX s;by_cases B:s.size=0
 ·have f:Hid (xT s=false):=by show _=_;unfold xT;rw[gU (show¬0<s.size by omega),Bool.false_and]
  rw[gJ B] at A;go_in;go_wp2;go_ret;exact⟨by rw[f.out];rfl,rfl⟩
 rw[gU B] at A;by_cases S:6<s.size
 ·have f:Hid (xT s=false):=by show _=_;unfold xT;rw[gU (show¬s.size<=6 by omega),Bool.false_and,Bool.and_false]
  have J:6<(s.size:Int):=by omega
  go_in;go_wp2;go_ret;exact⟨by rw[f.out];rfl,rfl⟩
 have J:(s.size:Int)<=6:=by omega
 have u:0<s.size:=by omega
 have T:(0:Int)<(s.size:Int):=by omega
 have K:=zBG s 0 u;have C:Hid (xT s=(qS (byt s 0)&&decide (∀i,i<s.size->i=0\/jZ (byt s i)=true))):=by show _=_;unfold xT;rw[gJ u,gJ (show s.size<=6 by omega),Bool.true_and,Bool.true_and]
 have o:Hid (∀w,Ca 181 #[int .u8 (byt s 0:Nat)] w λe w'=>e=returned (bool (qS (byt s 0)))/\w'=w):=λw=>zDp w (byt s 0);cases p:qS (byt s 0) with
 |false=>
  have f:Hid (xT s=false):=by show _=_;rw[C.out,p,Bool.false_and]
  rw[p] at o;have r:=vl o;generalize byt s 0=c0 at *;go_in;go_wp2_with (first|(go_at_call 181;refine(r _).mono ?_;rintro e l ⟨rfl,a⟩;have b:=a.symm;subst b))
  go_ret;exact⟨by rw[f.out];rfl,rfl⟩
 |true=>
  have f:Hid (xT s=decide (∀i,i<s.size->i=0\/jZ (byt s i)=true)):=by show _=_;rw[C.out,p,Bool.true_and]
  rw[p] at o;have r:=vl o;generalize xT s=D at *;go_in;apply wp_cut;intro L v;go_wp2;apply v.out;generalize byt s 0=c0 at K r;apply wp_cut;intro L v;go_wp2_with (first|(go_at_call 181;refine(r _).mono ?_;rintro e l ⟨rfl,a⟩;have b:=a.symm;subst b))
  apply v.out;go_wp2;go_loopg [3] (s.size-1) (λq i wr=>∃j:Nat,q=s.size-j/\1<=j/\j<=s.size/\i=iX (j:Int)/\(∀k,k<j->k=0\/jZ (byt s k)=true)/\wr=w)
  case atStart=>exact⟨1,rfl,lQ,u,rfl,λk M=>.inl (by omega),rfl⟩
  case round=>
   obtain⟨j,N,U,W,rfl,E,rfl⟩:=hrel;have x:Hid (gk=s.size-j/\(∀k,k<j->k=0\/jZ (byt s k)=true)):=⟨N,E⟩
   by_cases F:j<s.size
   ·have O:(j:Int)<(s.size:Int):=by omega
    have X:¬(j:Int)<0:=by omega
    have Y:=zBG s j F;have t:Hid (∀w,Ca 181 #[int .u8 (byt s j:Nat)] w λe w'=>e=returned (bool (qS (byt s j)))/\w'=w):=λw=>zDp w (byt s j);have G:Hid (jZ (byt s j)=true->∀k,k<j+1->k=0\/jZ (byt s k)=true):=λy k M=>by
     by_cases e:k=j
     ·rw[e];exact .inr y
     ·exact x.2 k (by omega)
    have H:Hid (jZ (byt s j)=false->D=false):=λy=>by
     rw[f.out];exact gU λP=>by
      rcases P j F with z|z
      ·omega
      ·rw[y] at z;cases z
    generalize byt s j=c at *;cases g:qS c with
    |true=>
     rw[g] at t;have m:=vl t;have d:=G (by unfold jZ;rw[g];rfl);go_wp2_with (first|(go_at_call 181;refine(m _).mono ?_;rintro e l ⟨rfl,a⟩;have b:=a.symm;subst b))
     go_roundg (s.size-(j+1))
     case measure=>rw[x.out.1];omega
     case rel=>exact⟨j+1,rfl,by omega,by omega,by go_num,d,rfl⟩
    |false=>
     rw[g] at t;have m:=vl t;by_cases c1:c<48
     ·have I:(c:Int)<48:=by omega
      have d:=vl <| H (by unfold jZ xS;rw[g,gU (show¬48<=c by omega)];rfl);go_wp2_with (first|(go_at_call 181;refine(m _).mono ?_;rintro e l ⟨rfl,a⟩;have b:=a.symm;subst b))
      go_ret;exact⟨by rw[d.out];rfl,rfl⟩
     by_cases c2:57<c
     ·have I:¬(c:Int)<48:=by omega
      have Q:57<(c:Int):=by omega
      have d:=vl <| H (by unfold jZ xS;rw[g,gU (show¬c<=57 by omega),Bool.and_false];rfl);go_wp2_with (first|(go_at_call 181;refine(m _).mono ?_;rintro e l ⟨rfl,a⟩;have b:=a.symm;subst b))
      go_ret;exact⟨by rw[d.out];rfl,rfl⟩
     ·have I:¬(c:Int)<48:=by omega
      have Q:¬57<(c:Int):=by omega
      have d:=G (by unfold jZ xS;rw[g,gJ (show 48<=c by omega),gJ (show c<=57 by omega)];rfl);go_wp2_with (first|(go_at_call 181;refine(m _).mono ?_;rintro e l ⟨rfl,a⟩;have b:=a.symm;subst b))
      go_roundg (s.size-(j+1))
      case measure=>rw[x.out.1];omega
      case rel=>exact⟨j+1,rfl,by omega,by omega,by go_num,d,rfl⟩
   ·have O:(s.size:Int)<=(j:Int):=by omega
    have d:Hid (D=true):=by
     show _=_;rw[f.out];exact gJ λi aa=>E i (by omega)
    go_wp2;go_ret;exact⟨by rw[d.out];rfl,rfl⟩
structure Ac where
 act:Nat
 name:ByteArray
 ok:Bool
def eqS (a b:ByteArray):Bool:=a.toList==b.toList
def zJx (s:ByteArray):Ac:=if byt s 0=62&&xT (s.extract 1 s.size) then⟨2,s.extract 1 s.size,true⟩ else⟨0,⟨#[]⟩,false⟩
def zBH (s:ByteArray):Ac:=if s.size=0 then⟨0,⟨#[]⟩,false⟩ else if eqS s ⟨#[46]⟩ then⟨0,⟨#[]⟩,true⟩ else if eqS s ⟨#[45]⟩ then⟨1,⟨#[]⟩,true⟩ else if eqS s ⟨#[60]⟩ then⟨3,⟨#[]⟩,true⟩ else zJx s
theorem zDh (w:World)(s:ByteArray)(A:s.size<=1048576):Calls prog 163 #[string s] w λe w'=>e=returned (tuple #[iX ((zBH s).act:Int),string (zBH s).name,bool (zBH s).ok])/\Grew w w':=by
 have l:=zAX s;have m:(⟨#[46]⟩:ByteArray).toList=[46]:=by rw[ByteArray.toList_eq]
 have o:(⟨#[45]⟩:ByteArray).toList=[45]:=by rw[ByteArray.toList_eq]
 have p:(⟨#[60]⟩:ByteArray).toList=[60]:=by rw[ByteArray.toList_eq]
 by_cases f:s.size=0
 ·have a:Hid (zBH s=⟨0,⟨#[]⟩,false⟩):=by show _=_;unfold zBH;rw[if_pos f]
  rw[gJ f] at l;rw[a.out];go_in;go_wp2;refine gV (v:=tuple #[iX 0,string ⟨#[]⟩,bool false]) (by simp[results,results163,go_sem]) rfl ?_;exact⟨rfl,Keep.refl _ _ _⟩
 rw[gU f] at l;have b:Hid (zBH s=if eqS s ⟨#[46]⟩ then⟨0,⟨#[]⟩,true⟩ else if eqS s ⟨#[45]⟩ then⟨1,⟨#[]⟩,true⟩ else if eqS s ⟨#[60]⟩ then⟨3,⟨#[]⟩,true⟩ else zJx s):=by show _=_;unfold zBH;rw[if_neg f]
 cases g:eqS s ⟨#[46]⟩ with
 |true=>
  have a:Hid (zBH s=⟨0,⟨#[]⟩,true⟩):=by show _=_;rw[b.out,g];rfl
  have d:(s.toList==[46])=true:=by rw[<-m];exact g
  rw[a.out];go_in;go_wp2;refine gV (v:=tuple #[iX 0,string ⟨#[]⟩,bool true]) (by simp[results,results163,go_sem]) rfl ?_;exact⟨rfl,Keep.refl _ _ _⟩
 |false=>
 have B:(s.toList==[46])=false:=by rw[<-m];exact g
 rw[g] at b;cases d:eqS s ⟨#[45]⟩ with
 |true=>
  have a:Hid (zBH s=⟨1,⟨#[]⟩,true⟩):=by show _=_;rw[b.out,d];rfl
  have C:(s.toList==[45])=true:=by rw[<-o];exact d
  rw[a.out];go_in;go_wp2;refine gV (v:=tuple #[iX 1,string ⟨#[]⟩,bool true]) (by simp[results,results163,go_sem]) rfl ?_;exact⟨rfl,Keep.refl _ _ _⟩
 |false=>
 have D:(s.toList==[45])=false:=by rw[<-o];exact d
 rw[d] at b;cases h:eqS s ⟨#[60]⟩ with
 |true=>
  have a:Hid (zBH s=⟨3,⟨#[]⟩,true⟩):=by show _=_;rw[b.out,h];rfl
  have E:(s.toList==[60])=true:=by rw[<-p];exact h
  rw[a.out];go_in;go_wp2;refine gV (v:=tuple #[iX 3,string ⟨#[]⟩,bool true]) (by simp[results,results163,go_sem]) rfl ?_;exact⟨rfl,Keep.refl _ _ _⟩
 |false=>
 have F:(s.toList==[60])=false:=by rw[<-p];exact h
 rw[h] at b;have t:=vl b;have u:0<s.size:=by omega
 have G:(0:Int)<(s.size:Int):=by omega
 have H:(1:Int)<=(s.size:Int):=by omega
 have I:=zBG s 0 u;have i:Hid (zJx s=if byt s 0=62&&xT (s.extract 1 s.size) then⟨2,s.extract 1 s.size,true⟩ else⟨0,⟨#[]⟩,false⟩):=rfl;have q:Hid (∀w,Ca 160 #[string (s.extract 1 s.size)] w λe w'=>e=returned (bool (xT (s.extract 1 s.size)))/\w'=w):=λw=>jL w _ (by rw[ByteArray.size_extract];omega);rw[t.out];generalize xT (s.extract 1 s.size)=x at *;generalize zJx s=y at *;generalize byt s 0=c at *;by_cases r:c=62
 ·subst r
  cases x with
  |true=>
   have a:=vl i;rw[a.out];go_in;go_wp2_with (first|(go_at_call 160;refine(q _).mono ?_;rintro e z ⟨rfl,j⟩;have k:=j.symm;subst k))
   go_quiet (fail);go_wp2;refine gV (v:=tuple #[iX 2,string (s.extract 1 s.size),bool true]) (by simp[results,results163,go_sem]) rfl ?_;exact⟨rfl,Keep.alike (w':=w.drewN nq) ⟨rfl,rfl,rfl⟩⟩
  |false=>
   have a:=vl i;rw[a.out];go_in;go_wp2_with (first|(go_at_call 160;refine(q _).mono ?_;rintro e z ⟨rfl,j⟩;have k:=j.symm;subst k))
   refine gV (v:=tuple #[iX 0,string ⟨#[]⟩,bool false]) (by simp[results,results163,go_sem]) rfl ?_;exact⟨rfl,Keep.refl _ _ _⟩
 ·have a:Hid (y=⟨0,⟨#[]⟩,false⟩):=by show _=_;rw[i.out,gU r];rfl
  have J:((c:Int) != 62)=true:=by simp;omega
  rw[a.out];go_in;go_wp2;refine gV (v:=tuple #[iX 0,string ⟨#[]⟩,bool false]) (by simp[results,results163,go_sem]) rfl ?_;exact⟨rfl,Keep.refl _ _ _⟩
end Go.Proofs.YtbjcfkdnjaiclaaGreat
