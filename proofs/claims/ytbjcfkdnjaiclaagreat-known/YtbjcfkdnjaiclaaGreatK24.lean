import Derived.Deep.DrawnRows
import Derived.Deep.RegionLaw
import Derived.Test.YtbjcfkdnjaiclaaGreatK0
import Derived.Test.YtbjcfkdnjaiclaaGreatK13
import Derived.Test.YtbjcfkdnjaiclaaGreatK23
/- Parts of the proof. -/
set_option linter.unusedVariables false
set_option linter.unusedSimpArgs false
set_option maxHeartbeats 4000000
set_option maxRecDepth 100000
namespace Go.Proofs.YtbjcfkdnjaiclaaGreat
open Go.RowKit Go.Proofs.Tryz Go.World
open Go.Value (int slice bool pointer string agg tuple)
open Go.IntKind (i64)
open Go.Ending (returned)
def RowsOk (len top:Nat)(rows:List (List Nat)):Prop:=∀row∈rows,row.length=len/\∀x∈row,x<top
theorem RowsOk.up {a top b:Nat}{rows:List (List Nat)}(c:RowsOk a top rows)(e:top<=b):RowsOk a b rows:=λrow d=>⟨(c row d).1,λx f=>lZ ((c row d).2 x f) e⟩
theorem RowsOk.snoc {a top:Nat}{rows:List (List Nat)}{row:List Nat}(c:RowsOk a top rows)(d:row.length=a/\∀x∈row,x<top):RowsOk a top (rows++[row]):=λr e=>by
 rcases kU.1 e with b|b
 ·exact c r b
 ·rw[kY.1 b];exact d
theorem zF9 (s:Sq)(ahead:Nat->Nat)(ends most:Nat):∀f i g rows rules k j l,s.sortGo ahead ends most f i g rows rules=some (k,j,l)->1<=f->i+f=most+1->rows.length=i->rules.length=i->i<=g.found.length->RowsOk s.sets.length g.found.length rows->(∀r∈rules,-1<=r/\r<(s.rules.length:Int))->
  j.length=k.found.length/\l.length=j.length/\g.found.length<=k.found.length/\j.length<=most+1/\RowsOk s.sets.length k.found.length j/\∀r∈l,-1<=r/\r<(s.rules.length:Int)
 |0,_,_,_,_,_,_,_,_,z,_,_,_,_,_,_=>absurd z (by omega)
 |f+1,i,g,rows,rules,k,j,l,A,_,J,o,B,K,t,u=>by
  have m:(if i<g.found.length then(if g.found.length>most then none else s.sortGo ahead ends most f (i+1) (s.rowTo (zAy ahead (g.found.getD i 0)) g s.sets.length).2 (rows++[(s.rowTo (zAy ahead (g.found.getD i 0)) g s.sets.length).1]) (rules++[vC s.rules (g.found.getD i 0&&&ends)])) else some (g,rows,rules))=some (k,j,l):=A;by_cases v:i<g.found.length
  ·rw[if_pos v] at m
   by_cases w:g.found.length>most
   ·rw[if_pos w] at m;cases m
   ·rw[if_neg w] at m
    obtain⟨p,-,-,y⟩:=s.rowTo_len (zAy ahead (g.found.getD i 0)) g s.sets.length;have C:=s.rowTo_lt (zAy ahead (g.found.getD i 0)) g s.sets.length;have D:=zI8 s.rules (g.found.getD i 0&&&ends);obtain⟨a,b,c,E,F,G⟩:=zF9 s ahead ends most f (i+1) _ _ _ k j l m (by omega) (by omega) (by rw[kX,o];rfl) (by rw[kX,B];rfl) (by omega) ((t.up y).snoc ⟨p,C⟩) (λr o=>by
     rcases kU.1 o with q|q
     ·exact u r q
     ·rw[kY.1 q];exact D)
    exact⟨a,b,lY y c,E,F,G⟩
  ·rw[if_neg v] at m
   have e:=hQ m;have p:g=k:=congrArg Prod.fst e;have H:rows=j:=congrArg (λx=>x.2.1) e;have I:rules=l:=congrArg (λx=>x.2.2) e;subst p H I;exact⟨by omega,by omega,lQ,by omega,t,u⟩
theorem zJZ {n:Nt}{most:Nat}{k:Kd}(m:n.sort most=some k)(ok:n.Ok)(fit:n.Fits):k.Ok n.areas/\k.rows.length<=most+2/\∀r∈k.rules,-1<=r/\r<(n.rules.length:Int):=by
 obtain⟨p,C,Q,R⟩:=zBp n.sets;have S:=fit.few;have J:n.areas.sets.length=n.letters.length:=by
  have:=Ar.setsN_ints p;show(yA n.sets).sets.length=(yA n.sets).setsN.length;rw[this,zO]
 unfold Nt.sort at m;cases t:n.sq.sortGo n.ahead n.ends most (most+1) 0 n.start.2 [] [] with
 |none=>rw[t] at m;cases m
 |some g=>
  obtain⟨D,rows,rules⟩:=g;rw[t] at m;have e:=hQ m;have e:=e;obtain⟨a,b,c,T,K,E⟩:=zF9 n.sq n.ahead n.ends most (most+1) 0 n.start.2 [] [] D rows rules t (by omega) (by omega) rfl rfl lX (λr o=>by cases o) (λr o=>by cases o);have L:=(n.sq.rowTo_len n.first ⟨[],[]⟩ n.letters.length).1;have M:∀x∈n.start.1,x<n.start.2.found.length:=n.sq.rowTo_lt n.first ⟨[],[]⟩ n.letters.length
  have N:=zKa (rows.map ints) rules (ints n.start.1);rw[kV] at N;have F:n.areas.Good 24:=⟨λx w=>by
   obtain⟨u,v⟩:=p.sets x w;have U:(2:Nat)^n.sets.length<=2^24:=kG (by omega) ok.len;exact⟨u,by omega⟩,p.letters,p.lens⟩
  have G:∀{l:List (List Nat)} {top:Nat},RowsOk n.letters.length top l->∀i q,i<l.length->q<n.areas.sets.length->(l.getD i []).getD q 0<top:=λ{l top} j i q f s=>by
   have y:l.getD i []∈l:=by
    rw[lW,lV f];exact List.getElem_mem _
   obtain⟨u,v⟩:=j _ y;have z:q<(l.getD i []).length:=by rw[u];omega
   have O:(l.getD i []).getD q 0=(l.getD i [])[q]:=by rw[lW,lV z];rfl
   rw[O];exact v _ (List.getElem_mem _)
  have H:∀{l:List (List Nat)} {top:Nat},RowsOk n.letters.length top l->∀i,i<l.length->(l.getD i []).length=n.areas.sets.length:=λ{l top} j i f=>by
   have y:l.getD i []∈l:=by
    rw[lW,lV f];exact List.getElem_mem _
   rw[(j _ y).1,J]
  have A:RowsOk n.letters.length D.found.length rows:=K;subst e;unfold Nt.ended;split
  ·rename_i s
   have I:(rows++[n.start.1]).length=rows.length+1:=by simp
   have j:RowsOk n.letters.length (rows.length+1) (rows++[n.start.1]):=(A.up (by omega)).snoc ⟨L,λx w=>by have:=M x w;omega⟩;refine⟨⟨C,by show(yA n.sets).lows.length<=_;omega,F,?_,λi f=>H j i f,λi q f s=>?_,?_⟩,?_,λr o=>?_⟩
   ·show(rules++[-1]).length=(rows++[n.start.1]).length
    rw[I,kX,b];rfl
   ·show _<(rows++[n.start.1]).length
    rw[I];exact G j i q f s
   ·show zAw _ _ _<(rows++[n.start.1]).length
    omega
   ·show(rows++[n.start.1]).length<=_
    omega
   ·have P:r∈rules++[-1]:=o
    rcases kU.1 P with B|B
    ·exact E r B
    ·rw[kY.1 B];omega
  ·rename_i s
   refine⟨⟨C,by show(yA n.sets).lows.length<=_;omega,F,b,λi f=>H A i f,λi q f z=>?_,?_⟩,by show rows.length<=_;omega,E⟩
   ·show _<rows.length
    rw[a];exact G A i q f z
   ·show zAw _ _ _<rows.length
    omega
def vB (l:List Cs):Prop:=∀c∈l,zLJ c
theorem zDF (n:Nt)(a b:Nat):(n.link a b).sets=n.sets:=(zBT n a b n.follow.length).1
theorem zGG {l:List Tr}{j:Nat}(a:j<l.length):l.getD j Tr.none∈l:=by
 rw[lW,lV a];exact List.getElem_mem _
theorem zEU {a:Lay}{P:Tr->Prop}(b:∀n t,P t->vB n.sets->vB (a n t).1.sets){parts:List Tr}(c:∀t∈parts,P t){n:Nt}(d:vB n.sets)(j:Nat)(f:j<=parts.length):vB (rowTo a n parts j).1.sets:=by
 induction j with
 |zero=>exact d
 |succ j e=>
  show vB ((a (rowTo a n parts j).1 (parts.getD j Tr.none)).1.link _ _).sets;rw[zDF];exact b _ _ (c _ (zGG (by omega))) (e (by omega))
theorem zIu {a:Lay}{P:Tr->Prop}(b:∀n t,P t->vB n.sets->vB (a n t).1.sets){parts:List Tr}(c:∀t∈parts,P t){n:Nt}(d:vB n.sets)(j:Nat)(f:j<=parts.length):vB (jB a n parts j).1.sets:=by
 induction j with
 |zero=>exact d
 |succ j e=>exact b _ _ (c _ (zGG (by omega))) (e (by omega))
theorem zJo (t:Tr)(j:Nat)(q:Nt×Sn):(zAv t j q).sets=q.1.sets:=by
 unfold zAv;split
 ·exact zDF _ _ _
 ·rfl
theorem zHo {a:Lay}{P:Tr->Prop}(b:∀n t,P t->vB n.sets->vB (a n t).1.sets){t:Tr}(c:∀u∈t.parts,P u){n:Nt}(d:vB n.sets)(j:Nat):vB (xT a n t j).1.sets:=by
 induction j with
 |zero=>exact d
 |succ j e=>
  show vB ((zAv t j (rowTo a (xT a n t j).1 t.parts t.parts.length)).link _ _).sets;rw[zDF,zJo];exact zEU b c e _ lQ
theorem zCg:∀a n t,TrOk a t->vB n.sets->vB (xF a n t).1.sets
 |0,_,_,b,_=>False.elim b
 |a+1,n,t,b,e=>by
  unfold xF;split
  ·intro c j
   have k:=j;rcases kU.1 k with i|i
   ·exact e c i
   ·rw[kY.1 i];exact b.1
  split
  ·exact zEU (P:=TrOk a) (λn t f g=>zCg a n t f g) b.2.1 e _ lQ
  split
  ·exact zIu (P:=TrOk a) (λn t f g=>zCg a n t f g) b.2.1 e _ lQ
  split
  ·exact zHo (P:=TrOk a) (λn t f g=>zCg a n t f g) b.2.1 e _
  ·exact e
theorem zJt (a:Nat)(rules:List Tr)(b:∀t∈rules,TrOk a t)(j:Nat)(i:j<=rules.length):vB (xM a rules j).sets:=by
 induction j with
 |zero=>exact λc f=>by cases f
 |succ j g=>
  have e:(xM a rules (j+1)).sets=(xF a (xM a rules j) (rules.getD j Tr.none)).1.sets:=rfl;rw[e];exact zCg a _ _ (b _ (zGG (by omega))) (g (by omega))
theorem zKR (l:List Cs)(a:Nat)(b:∀c∈l,c.ranges.length<=a):yE l<=l.length*a:=by
 induction l with
 |nil=>exact lX
 |cons c l d=>
  have f:=b c gQ;have g:=d λx e=>b x (List.mem_cons_of_mem _ e);show c.ranges.length+yE l<=(l.length+1)*a;rw[Nat.add_mul];omega
theorem zLR {n:Nt}(b:vB n.sets)(d:n.sets.length<=24):n.Fits:=by
 refine⟨?_,λc a r e=>?_⟩
 ·have f:=zKR n.sets 10000000 λc a=>(b c a).1
  have g:n.sets.length*10000000<=24*10000000:=Nat.mul_le_mul_right _ d;omega
 ·have:=(b c a).2 r e
  omega
theorem zLs (a:Nat)(l:List Tr)(e:∀t∈l,TrOk a t)(j:Nat)(k:j<=l.length)(f:yM l j<=24):zX (yQ a) l j=yM l j:=by
 induction j with
 |zero=>rfl
 |succ j g=>
  have m:yM l j+(l.getD j Tr.none).chars<=24:=f;have b:=(e _ (zGG (show j<l.length by omega))).chars;show zX (yQ a) l j+yQ a (l.getD j Tr.none)=yM l j+(l.getD j Tr.none).chars;rw[g (by omega) (by omega)];have c:xL (yQ a (l.getD j Tr.none))<=24:=by omega
  unfold xL at b c;split at b
  ·rename_i i
   rw[if_pos i] at c;omega
  ·omega
def zA5 (a b c d:Nat->Value)(n:Nat):List Value:=(List.range n).flatMap λi=>[a i,b i,c i,d i]
theorem zAG (a b c e:Nat->Value)(n:Nat):zA5 a b c e (n+1)=zA5 a b c e n++[a n,b n,c n,e n]:=by
 unfold zA5;rw[List.range_succ,List.flatMap_append];rfl
theorem zKS (a b c e:Nat->Value)(n:Nat):(zA5 a b c e n).length=n*4:=by
 induction n with
 |zero=>rfl
 |succ n f=>rw[zAG,kX,f];show n*4+4=_;omega
theorem zKT (a b c f:Nat->Value)(n i:Nat)(l:i<n):(zA5 a b c f n)[i*4]? =some (a i)/\(zA5 a b c f n)[i*4+1]? =some (b i)/\(zA5 a b c f n)[i*4+2]? =some (c i)/\(zA5 a b c f n)[i*4+3]? =some (f i):=by
 induction n with
 |zero=>omega
 |succ n g=>
  rw[zAG];have j:=zKS a b c f n;by_cases k:i<n
  ·rw[kW (by omega),kW (by omega),kW (by omega),kW (by omega)]
   exact g k
  ·have e:i=n:=by omega
   subst e;rw[hY (by omega),hY (by omega),hY (by omega),hY (by omega),j,Nat.sub_self,show i*4+1-i*4=1 by omega,show i*4+2-i*4=2 by omega,show i*4+3-i*4=3 by omega];exact⟨rfl,rfl,rfl,rfl⟩
theorem zH3 (a b c f g j k l:Nat->Value)(n:Nat)(e:∀i,i<n->a i=g i/\b i=j i/\c i=k i/\f i=l i):zA5 a b c f n=zA5 g j k l n:=by
 induction n with
 |zero=>rfl
 |succ n m=>rw[zAG,zAG,m λi o=>e i (by omega),(e n (by omega)).1,(e n (by omega)).2.1,(e n (by omega)).2.2.1,(e n (by omega)).2.2.2]
def Sm.nil:Sm:=⟨[],[],0,[]⟩
structure Lm (w:World)(H:Nat)(v:Value)(ms:List Sm)(a b d:Nat->Value):Prop where
 own:w.ownsRow H 134 4 v ms.length (zA5 a b (λi=>int i64 (ms.getD i Sm.nil).start) d ms.length)
 next:∀i,i<ms.length->IntRows w (λg=>H<=g/\g<w.heap.size/\some g≠v.ownBlock) (a i) (ms.getD i Sm.nil).next
 rules:∀i,i<ms.length->Ints w (λg=>H<=g/\g<w.heap.size/\some g≠v.ownBlock) (b i) (ms.getD i Sm.nil).rules
 empty:∀i,i<ms.length->Bools w (λg=>H<=g/\g<w.heap.size/\some g≠v.ownBlock) (d i) (ms.getD i Sm.nil).empty
def zLI (w:World)(H:Nat)(v:Value)(ms:List Sm):Prop:=∃a b d,Lm w H v ms a b d
theorem Lm.nil (w:World)(H:Nat):zLI w H (slice none 0 0) []:=⟨λ_=>slice none 0 0,λ_=>slice none 0 0,λ_=>slice none 0 0,ownsRow_nil _ _ _ _,λi a=>absurd a (Nat.not_lt_zero _),λi a=>absurd a (Nat.not_lt_zero _),λi a=>absurd a (Nat.not_lt_zero _)⟩
theorem Lm.grown {w w2:World}{H:Nat}{v:Value}{ms:List Sm}{a b l:Nat->Value}(j:Lm w H v ms a b l)(k:Grew w w2):Lm w2 H v ms a b l:=by
 have e:∀g,(H<=g/\g<w.heap.size/\some g≠v.ownBlock)->w2.heap[g]? =w.heap[g]? :=λg c=>k.block g c.2.1 (kJ c.2.1);have m:∀g,(H<=g/\g<w.heap.size/\some g≠v.ownBlock)->(H<=g/\g<w2.heap.size/\some g≠v.ownBlock):=λg c=>⟨c.1,lZ c.2.1 k.size,c.2.2⟩
 exact⟨zL j.own k,λi f=>((j.next i f).keep e).mono m,λi f=>((j.rules i f).keep e).mono m,λi f=>((j.empty i f).keep e).mono m⟩
theorem Lm.modes {w:World}{H:Nat}{v:Value}{ms:List Sm}(c:zLI w H v ms):ModesAt w (In w) v ms:=by
 obtain⟨a,b,m,c⟩:=c;obtain⟨ao,cap,o,q,r⟩:=zC6 c.own;refine⟨ao,cap,o,q,r,λi e=>?_⟩;obtain⟨g,x,p,-,k,-,-,f,-⟩:=qY c.own (by omega);rw[o] at p;injection p with s y z;obtain⟨t,u,q2,q3⟩:=zKT a b (λi=>iX (ms.getD i Sm.nil).start) m ms.length i e;have j:ms.getD i Sm.nil=ms[i]:=by rw[lW,lV e];rfl
 have l:∀g,(H<=g/\g<w.heap.size/\some g≠v.ownBlock)->In w g:=λg k=>k.2.1;refine⟨g,0,a i,b i,m i,s,k,?_,?_,?_,?_,?_,?_,?_⟩
 ·rw[Nat.zero_add];exact f _ _ t
 ·rw[Nat.zero_add];exact f _ _ u
 ·rw[Nat.zero_add,<-j];exact f _ _ q2
 ·rw[Nat.zero_add];exact f _ _ q3
 ·rw[<-j];exact(c.next i e).mono l
 ·rw[<-j];exact(c.rules i e).mono l
 ·rw[<-j];exact(c.empty i e).mono l
theorem Lm.app {w w2:World}{H:Nat}{v:Value}{ms:List Sm}{a b l:Nat->Value}{o:Obj}{g cap:Nat}{m:Sm}{x y p:Value}(r:Lm w H v ms a b l)(B:H<=w.heap.size)(C:IntRows w (λg=>H<=g/\g<w.heap.size/\some g≠v.ownBlock) x m.next)(D:Ints w (λg=>H<=g/\g<w.heap.size/\some g≠v.ownBlock) y m.rules)(E:Bools w (λg=>H<=g/\g<w.heap.size/\some g≠v.ownBlock) p m.empty)(F:w2.ownsRow H 134 4 (slice (qX g) (ms.length+1) cap) (ms.length+1) (zA5 a b (λi=>iX (ms.getD i Sm.nil).start) l ms.length++[x,y,iX m.start,p]))(u:(w.alloc o).grownBy w2 v.ownBlock)(G:v.ownBlock=some g\/w.heap.size<=g):
  zLI w2 H (slice (qX g) (ms.length+1) cap) (ms++[m])/\Keep H H w w2:=by
 have I:w.heap.size<=w2.heap.size:=lY (by simp) u.size;have e:∀q,(H<=q/\q<w.heap.size/\some q≠v.ownBlock)->w2.heap[q]? =w.heap[q]? :=λq j=>(u.block q (by simp;omega) j.2.2).trans (lG _ _ _ j.2.1);have k:∀q,(H<=q/\q<w.heap.size/\some q≠v.ownBlock)->(H<=q/\q<w2.heap.size/\some q≠(Value.slice (qX g) (ms.length+1) cap).ownBlock):=λq j=>⟨j.1,lZ j.2.1 I,λJ=>by
  have K:q=g:=by simpa[Value.ownBlock] using J
  rcases G with A|A
  ·exact j.2.2 (by rw[A,K])
  ·have:=j.2.1;omega⟩
 have s:(ms++[m]).length=ms.length+1:=by simp
 have hold:∀i,i<ms.length->(ms++[m]).getD i Sm.nil=ms.getD i Sm.nil:=λi c=>by rw[lW,lW,kW c]
 have t:(ms++[m]).getD ms.length Sm.nil=m:=by simp
 refine⟨⟨λi=>if i=ms.length then x else a i,λi=>if i=ms.length then y else b i,λi=>if i=ms.length then p else l i,?_,λi c=>?_,λi c=>?_,λi c=>?_⟩,xP (xQ r.own u B)⟩
 ·rw[s,zAG,if_pos rfl,if_pos rfl,if_pos rfl,t,zH3 (λi=>if i=ms.length then x else a i) (λi=>if i=ms.length then y else b i) (λi=>iX ((ms++[m]).getD i Sm.nil).start) (λi=>if i=ms.length then p else l i) a b (λi=>iX (ms.getD i Sm.nil).start) l ms.length λi c=>⟨if_neg (by omega),if_neg (by omega),by rw[hold i c],if_neg (by omega)⟩]
  exact F
 ·rw[s] at c
  by_cases f:i=ms.length
  ·subst f;rw[t];simp only[if_pos];exact(C.keep e).mono k
  ·rw[hold i (by omega)];simp only[if_neg f];exact((r.next i (by omega)).keep e).mono k
 ·rw[s] at c
  by_cases f:i=ms.length
  ·subst f;rw[t];simp only[if_pos];exact(D.keep e).mono k
  ·rw[hold i (by omega)];simp only[if_neg f];exact((r.rules i (by omega)).keep e).mono k
 ·rw[s] at c
  by_cases f:i=ms.length
  ·subst f;rw[t];simp only[if_pos];exact(E.keep e).mono k
  ·rw[hold i (by omega)];simp only[if_neg f];exact((r.empty i (by omega)).keep e).mono k
theorem Sw.treesAt {w:World}{X:Nat->Prop}{S D:Nat}{sh:Sh}{f dv k l:Value}{rv:Nat->Value}{a:Nat->List Nat}{m:Nat->Nat}(b:Sw w X S D sh f dv k l rv a m){j:Nat}(c:j<sh.modes.length):zKs w D (rv j) (sh.mode j).2:=by
 obtain⟨ao,cap,d,o,p⟩:=zC6 (b.rOwn j c);refine⟨ao,cap,d,o,p,λi q=>?_⟩;obtain⟨g,v,e,-,r,-,-,s,-⟩:=qY (b.rOwn j c) (by omega);rw[d] at e;injection e with t x y;have z:(a j).length=(sh.mode j).2.length:=by
  have:=(b.rOwn j c).1;unfold xU at this;rw[kV] at this;omega
 have u:(xU (a j))[i]? =some (pointer (some ⟨(a j).getD i 0,0,none⟩)):=by
  unfold xU;rw[gZ,lV (by omega:i<(a j).length),lW,lV (by omega:i<(a j).length)];rfl
 refine⟨g,0,(a j).getD i 0,t,r,?_,(b.rTree j c i q).at⟩;rw[Nat.zero_add];exact s _ _ u
def zBR (D:Nat)(rules:List Tr)(most:Nat):Option Sm:=
 match (xM D rules rules.length).sort most with
 |none=>none
 |some k=>if(yC k (xM D rules rules.length).areas most).full then none else some ⟨(yC k (xM D rules rules.length).areas most).next,(yC k (xM D rules rules.length).areas most).rules,(yC k (xM D rules rules.length).areas most).of.getD k.start 0,(xM D rules rules.length).empty⟩
def xS (D:Nat)(sh:Sh):Nat->Nat->Nat->Option (List Sm)
 |0,_,_=>some []
 |f+1,j,most=>match zBR D (sh.mode j).2 most with
  |none=>none
  |some m=>(xS D sh f (j+1) (most-m.next.length)).map (m::·)
section
attribute [local go_sem ↓] Go.wp_at_zero Go.wp_at_succ
theorem zJw:(prog.info? 134).map (λi=>(i.zero,i.size,i.bytes))=some (some (agg #[slice none 0 0,slice none 0 0,iX 0,slice none 0 0]),4,80):=by kernel_rfl
def zML (w:World)(G:Option (List Sm))(e:Ending)(w':World):Prop:=
 Grew w w'/\match G with
 |none=>e=returned (tuple #[slice none 0 0,bool false])
 |some ms=>∃v,e=returned (tuple #[v,bool true])/\ModesAt w' (In w') v ms
structure ModeFacts (D:Nat)(rules:List Tr):Prop where
 cnt:zX (yQ D) rules rules.length<=24
 eight:rules.length<=8
 ok:(xM D rules rules.length).Ok
 fit:(xM D rules rules.length).Fits
theorem SpecIs.facts {w:World}{D:Nat}{g i k:Value}{sh:Sh}(a:SpecIs w D g i k sh){j:Nat}(b:j<sh.modes.length):ModeFacts D (sh.mode j).2:=by
 have c:=lY (a.few j b) a.ok.acts;have d:yM (sh.mode j).2 (sh.mode j).2.length<=24:=by
  have:=a.fit;unfold Sh.fitB at this;exact(of_decide_eq_true this) j b
 have e:zX (yQ D) (sh.mode j).2 (sh.mode j).2.length<=24:=by rw[zLs D _ (a.ok.rules j b) _ lQ d];exact d
 have f:=zN6 D (sh.mode j).2 e c;exact⟨e,c,f,zLR (zJt D _ (a.ok.rules j b) _ lQ) f.len⟩
theorem zIg (D:Nat)(sh:Sh)(j a:Nat)(ms:List Sm)(b:j<sh.modes.length):(xS D sh (sh.modes.length-j) j a).map (ms++·)=match zBR D (sh.mode j).2 a with
  |none=>none
  |some m=>(xS D sh (sh.modes.length-(j+1)) (j+1) (a-m.next.length)).map ((ms++[m])++·):=by
 rw[show sh.modes.length-j=(sh.modes.length-(j+1))+1 by omega]
 conv=>lhs;unfold xS
 cases zBR D (sh.mode j).2 a with
 |none=>rfl
 |some m=>
  show((xS D sh (sh.modes.length-(j+1)) (j+1) (a-m.next.length)).map (m::·)).map (ms++·)=_;rw[Option.map_map]
  congr 1
  funext l
  simp
theorem zCt (w:World)(D:Nat)(a5 a6 a7:Value)(sh:Sh)(ak:SpecIs w D a5 a6 a7 sh)(most:Nat)(bN:most<=200):
  Calls prog 44 #[agg #[a5,a6,a7],iX (most:Int)] w (zML w (xS D sh sh.modes.length 0 most)):=by
 obtain⟨bO,bP,bQ,bR,bS⟩:=info_parts zJw;obtain⟨X,S,dv,cw,rv,cx,cy,aC⟩:=ak.sheet;obtain⟨aP,aQ,bT⟩:=zI aC.mOwn;obtain⟨a8,a9,bU⟩:=zI aC.aOwn;obtain⟨ba,bb,bc,-⟩:=ak.pushes;rw[yS] at bc;subst bT bU bc;have bd:=vl aC;have bV:Hid (∀j,j<sh.modes.length->ModeFacts D (sh.mode j).2):=λj be=>ak.facts be;have cz:=ak.ok.modes;obtain⟨w1,aR,aS,bW⟩:∃w1,w1=w.alloc (.cells #[slice aP sh.modes.length aQ,slice a8 sh.acts.length a9,slice ba sh.pushed.length bb] 79)/\w1.cell? ⟨w.heap.size,0,none⟩=some (slice aP sh.modes.length aQ)/\Hid (Grew w w1):=by
  have bX:=gY w (.cells #[slice aP sh.modes.length aQ,slice a8 sh.acts.length a9,slice ba sh.pushed.length bb] 79);refine⟨_,rfl,?_,kZ _ _ lQ⟩;unfold cell?;rw[bX];rfl
 have bY:Hid (w1.heap.size=w.heap.size+1):=by show _=_;rw[aR];simp
 obtain⟨R,aT⟩:∃R,R=xS D sh sh.modes.length 0 most:=⟨_,rfl⟩
 have bZ:Hid ((xS D sh (sh.modes.length-0) 0 most).map (([]:List Sm)++·)=R):=by
  show _=_;rw[aT,Nat.sub_zero];cases xS D sh sh.modes.length 0 most with
  |none=>rfl
  |some l=>rfl
 rw[<-aT];clear ak aC aT;go_in;apply wp_cut;intro cA bf;go_wp2;apply bf.out;clear bf;rw[<-aR];clear aR;go_wp2;clear aS;go_loopg [1,6,17] sh.modes.length (λq v1 b0 i wr=>∃(j a:Nat) (ms:List Sm),q=sh.modes.length-j/\j<=sh.modes.length/\v1=iX (a:Int)/\i=iX (j:Int)/\a<=200/\ms.length=j/\zLI wr (w.heap.size+1) b0 ms/\Grew w wr/\w.heap.size+1<=wr.heap.size/\(xS D sh (sh.modes.length-j) j a).map (ms++·)=R)
 case atStart=>exact⟨0,most,[],rfl,lX,rfl,rfl,bN,rfl,Lm.nil _ _,bW.out,by rw[bY.out];exact lQ,bZ.out⟩
 case round=>
  obtain⟨j,a,ms,bg,be,rfl,rfl,cB,bh,b1,aD,cC,s⟩:=hrel;obtain⟨K,L,M,aU⟩:=b1;obtain⟨ao,u,bi⟩:=zI aU.own;rw[bh] at bi;subst bi;have T:Hid (gk=sh.modes.length-j/\Lm wr (w.heap.size+1) (slice ao j u) ms K L M/\Grew w wr/\ms.length=j):=⟨bg,aU,aD,bh⟩
  clear bg aU;by_cases aE:j<sh.modes.length
  ·have b3:(j:Int)<(sh.modes.length:Int):=by omega
   obtain⟨cD,aF,aG,rfl,bj,aS,b4⟩:=zCG bd.out aE aD;rw[zIg D sh j a ms aE] at s;have al:=bV.out j aE;have bk:Hid (∀f,Grew w f->Ca 60 #[slice aF (sh.mode j).2.length aG] f λe w'=>∃v,e=returned (pX v)/\NwIs f w' v (xM D (sh.mode j).2 (sh.mode j).2.length)):=λf b5=>by
    have:=zK5 f D (rv j) (sh.mode j).2 ((bd.out.grown b5).treesAt aE) al.eight al.cnt;rw[bj] at this;exact this
   have bl:zBR D (sh.mode j).2 a=match (xM D (sh.mode j).2 (sh.mode j).2.length).sort a with
     |none=>none
     |some k=>if(yC k (xM D (sh.mode j).2 (sh.mode j).2.length).areas a).full then none else some ⟨(yC k (xM D (sh.mode j).2 (sh.mode j).2.length).areas a).next,(yC k (xM D (sh.mode j).2 (sh.mode j).2.length).areas a).rules,(yC k (xM D (sh.mode j).2 (sh.mode j).2.length).areas a).of.getD k.start 0,(xM D (sh.mode j).2 (sh.mode j).2.length).empty⟩:=rfl
   rw[bl] at s;clear bl;obtain⟨bm,bn⟩:(xM D (sh.mode j).2 (sh.mode j).2.length).Ok/\(xM D (sh.mode j).2 (sh.mode j).2.length).Fits:=⟨al.ok,al.fit⟩
   clear al bj;generalize b6:xM D (sh.mode j).2 (sh.mode j).2.length=n at *;clear b6;have bo:Hid (∀f w2 v,NwIs f w2 v n->Ca 61 #[pX v,iX (a:Int)] w2 (zBB w2 n a)):=λf w2 v aV=>by
    obtain⟨sv,b7,ai,b8,aq,aV⟩:=aV;exact zI5 w2 v n sv b7 ai b8 aV.netAt bm bn a (by omega)
   obtain⟨f,bp,b9,N⟩:∃f,f=wr.alloc (.cells #[string (sh.mode j).1,slice aF (sh.mode j).2.length aG] 120)/\f.cell? ⟨wr.heap.size,1,none⟩=some (slice aF (sh.mode j).2.length aG)/\Hid (Grew w f/\Lm f (w.heap.size+1) (slice ao j u) ms K L M/\w.heap.size+1<=f.heap.size):=by
    have aW:=gY wr (.cells #[string (sh.mode j).1,slice aF (sh.mode j).2.length aG] 120);refine⟨_,rfl,?_,aD.trans (kZ _ _ (by omega)),T.out.2.1.grown (kZ _ _ lQ),by simp;omega⟩;unfold cell?;rw[aW];rfl
   clear aD;apply wp_cut;intro O d;go_wp2;apply d.out;clear d;apply wp_cut;intro O d;go_wp2;apply d.out;clear d;apply wp_cut;intro cb bq;refine wp_block ?_;apply wp_cut;intro O d;go_wp2;apply d.out;clear d;rw[<-bp];clear bp aS b4;apply wp_cut;intro O d;go_wp2_with (first|(go_at_call 60;refine(bk.out f N.out.1).mono ?_;rintro e w2 ⟨v,rfl,cc⟩))
   apply d.out;clear d bk;obtain⟨aH,aI,ai,aJ,aq,aj⟩:=cc;have H:Hid (Grew w w2/\Lm w2 (w.heap.size+1) (slice ao j u) ms K L M/\w.heap.size+1<=w2.heap.size/\Nw f w2 v n aH aI ai aJ aq):=⟨N.out.1.trans (aj.keep.lower N.out.1.size N.out.1.size),N.out.2.1.grown aj.keep,lY N.out.2.2 aj.keep.size,aj⟩
   have U:=bo.out f w2 v ⟨aH,aI,ai,aJ,aq,aj⟩;unfold zBB at U;clear aj b9 bo;cases au:n.sort a with
   |none=>
    rw[au] at U s;have aK:=vl U;have V:=vl s.symm;clear U s au;go_wp2_with (first|(go_at_call 61;refine aK.out.mono ?_;rintro e c ⟨rfl,W⟩))
    rw[V.out];refine gJ (results_tmp2 rfl _ _ _) rfl ?_;exact⟨H.out.1.trans (W.lower H.out.1.size H.out.1.size),rfl⟩
   |some k=>
    obtain⟨aX,cd,br⟩:=zJZ au bm bn;rw[au] at U s;have aK:=vl U;have bs:Hid (∀c kb,KdAt c kb n.areas k->Ca 62 #[pX kb,iX (a:Int)] c (zDp c k n.areas a)):=λc kb aL=>zGJ c kb a (by omega) k n.areas aL aX (by omega);have aY:Hid ((yC k n.areas a).full=false->(yC k n.areas a).next.length<=a):=λcf=>(zGh k n.areas a (nr:=(n.rules.length:Int)) (by omega) br aX.lens cf).2.few;clear U au aX cd br;apply wp_cut;intro O d;go_wp2_with (first|(go_at_call 61;refine aK.out.mono ?_;rintro e c ⟨kb,rfl,aL,W⟩))
    apply d.out;clear d;have Y:=bs.out c kb aL;have C:Hid (Grew w c/\Lm c (w.heap.size+1) (slice ao j u) ms K L M/\w.heap.size+1<=c.heap.size/\Nw f c v n aH aI ai aJ aq):=⟨H.out.1.trans (W.lower H.out.1.size H.out.1.size),H.out.2.1.grown W,lY H.out.2.2.1 W.size,H.out.2.2.2.grown W⟩
    clear aL W bs aK H;unfold zDp at Y;cases aw:(yC k n.areas a).full with
    |true=>
     rw[aw] at Y s;have V:Hid (R=none):=s.symm;have aM:Hid (Ca 62 #[pX kb,iX (a:Int)] c λe w'=>e=returned (tuple #[agg #[slice none 0 0,slice none 0 0,iX 0],bool false])/\Grew c w'):=Y.mono λe w' ax=>by
      rcases ax.2 with ab|ab
      ·exact⟨ab.2,ax.1⟩
      ·exact absurd ab.1 (by decide)
     clear Y s aw aY;go_wp2_with (first|(go_at_call 62;refine aM.out.mono ?_;rintro e r ⟨rfl,P⟩))
     rw[V.out];refine gJ (results_tmp2 rfl _ _ _) rfl ?_;have ac:=C.out.1.trans (P.lower C.out.1.size C.out.1.size);exact⟨ac.trans (kZ _ _ ac.size),rfl⟩
    |false=>
     rw[aw] at Y s;have cE:=aY.out aw;have aM:Hid (Ca 62 #[pX kb,iX (a:Int)] c λe w'=>∃ay az,e=returned (tuple #[agg #[ay,az,iX ((yC k n.areas a).of.getD k.start 0)],bool true])/\IntRows w' (λg=>c.heap.size<=g/\g<w'.heap.size) ay (yC k n.areas a).next/\Ints w' (λg=>c.heap.size<=g/\g<w'.heap.size) az (yC k n.areas a).rules/\Grew c w'):=Y.mono λe w' ax=>by
      rcases ax.2 with ab|⟨-,ay,az,ab,cg,ch⟩
      ·exact absurd ab.1 (by decide)
      ·exact⟨ay,az,ab,cg,ch,ax.1⟩
     have V:Hid ((xS D sh (sh.modes.length-(j+1)) (j+1) (a-(yC k n.areas a).next.length)).map ((ms++[⟨(yC k n.areas a).next,(yC k n.areas a).rules,(yC k n.areas a).of.getD k.start 0,n.empty⟩])++·)=R):=s;clear Y s aw aY;generalize (yC k n.areas a).next=o at *
     generalize (yC k n.areas a).rules=p at *;generalize (yC k n.areas a).of.getD k.start 0=ST at *;apply wp_cut;intro O d;go_wp2;apply d.out;clear d;apply wp_cut;intro O d;go_wp2_with (first|(go_at_call 62;refine aM.out.mono ?_;rintro e r ⟨ay,az,rfl,aZ,a0,P⟩;obtain⟨x,y,ci,-⟩:=id aZ;obtain⟨z,A,cj,-⟩:=id a0;subst ci cj))
     apply d.out;clear d;obtain⟨b,bt,t0,bu,bv,I⟩:∃b,b=r.alloc (.cells #[slice x o.length y,slice z p.length A,iX ST] 127)/\b.cell? ⟨r.heap.size,0,none⟩=some (slice x o.length y)/\b.cell? ⟨r.heap.size,1,none⟩=some (slice z p.length A)/\b.cell? ⟨r.heap.size,2,none⟩=some (iX ST)/\Hid (Grew w b/\Lm b (w.heap.size+1) (slice ao j u) ms K L M/\w.heap.size+1<=b.heap.size/\Nw f b v n aH aI ai aJ aq/\IntRows b (λg=>c.heap.size<=g/\g<b.heap.size) (slice x o.length y) o/\Ints b (λg=>c.heap.size<=g/\g<b.heap.size) (slice z p.length A) p):=by
      have aW:=gY r (.cells #[slice x o.length y,slice z p.length A,iX ST] 127);have aN:Grew r (r.alloc (.cells #[slice x o.length y,slice z p.length A,iX ST] 127)):=kZ _ _ lQ;have ac:=C.out.1.trans (P.lower C.out.1.size C.out.1.size);have e:∀g,(c.heap.size<=g/\g<r.heap.size)->(r.alloc (.cells #[slice x o.length y,slice z p.length A,iX ST] 127)).heap[g]? =r.heap[g]? :=λg ad=>aN.block g ad.2 (kJ ad.2);have bw:∀g,(c.heap.size<=g/\g<r.heap.size)->(c.heap.size<=g/\g<(r.alloc (.cells #[slice x o.length y,slice z p.length A,iX ST] 127)).heap.size):=λg ad=>⟨ad.1,by simp;omega⟩
      refine⟨_,rfl,?_,?_,?_,ac.trans (aN.lower ac.size ac.size),(C.out.2.1.grown P).grown aN,by have:=P.size;have:=C.out.2.2.1;simp;omega,(C.out.2.2.2.grown P).grown aN,(aZ.keep e).mono bw,(a0.keep e).mono bw⟩
      all_goals (unfold cell?;rw[aW];rfl)
     rw[<-bt];have ck:c.heap.size<=r.heap.size:=P.size;clear bt aZ a0 P aM;obtain⟨bx,bz⟩:∃bx,bx=r.heap.size:=⟨_,rfl⟩
     rw[<-bz] at t0 bu bv ⊢;clear bz ck;apply wp_cut;intro O d;go_wp2;apply d.out;clear d;apply wp_cut;intro O d;go_wp2;apply d.out;clear d;obtain⟨af,ag,cl⟩:=zI I.out.2.2.2.1.eOwn;subst cl;have co:b.cell? ⟨v,5,none⟩=some (slice af n.empty.length ag):=I.out.2.2.2.1.netAt.c5;obtain⟨aA,a1⟩:∃aA,aA=zA5 K L (λi=>iX (ms.getD i Sm.nil).start) M j:=⟨_,rfl⟩
     have bA:b.ownsRow (w.heap.size+1) 134 4 (slice ao j u) j aA:=by
      have:=I.out.2.1.own;rw[T.out.2.2.2,<-a1] at this;exact this
     have bB:w.heap.size+1<=b.heap.size:=I.out.2.2.1;have bC:Hid (∀J cap E,E.ownsRow (w.heap.size+1) 134 4 (slice (qX J) (j+1) cap) (j+1) (aA++[slice x o.length y,slice z p.length A,iX ST,slice af n.empty.length ag])->(b.drew.alloc (Obj.cells #[slice x o.length y,slice z p.length A,iX ST,slice af n.empty.length ag] 134)).grownBy E (Value.slice ao j u).ownBlock->((Value.slice ao j u).ownBlock=some J\/b.heap.size<=J)->zLI E (w.heap.size+1) (slice (qX J) (j+1) cap) (ms++[⟨o,p,ST,n.empty⟩])/\Grew w E/\w.heap.size+1<=E.heap.size):=λJ cap E a2 ad aB=>by
      have a3:=T.out.2.2.2;have bD:Grew b b.drew:=Keep.drew _;have bE:Lm b.drew (w.heap.size+1) (slice ao j u) ms K L M:=I.out.2.1.grown bD;have bF:=C.out.2.1.own;have cq:=N.out.2.1.own;have cF:=C.out.2.2.1;have cG:=N.out.2.2;have bG:IntRows b.drew (λg=>w.heap.size+1<=g/\g<b.drew.heap.size/\some g≠(Value.slice ao j u).ownBlock) (slice x o.length y) o:=(I.out.2.2.2.2.1.keep (w':=b.drew) λ_ _=>rfl).mono λg ah=>⟨by omega,ah.2,λe=>by have:=(bF.lt g e.symm).2;omega⟩
      have bH:Ints b.drew (λg=>w.heap.size+1<=g/\g<b.drew.heap.size/\some g≠(Value.slice ao j u).ownBlock) (slice z p.length A) p:=(I.out.2.2.2.2.2.keep (w':=b.drew) λ_ _=>rfl).mono λg ah=>⟨by omega,ah.2,λe=>by have:=(bF.lt g e.symm).2;omega⟩
      have aO:OwnB b.drew f.heap.size (slice af n.empty.length ag) n.empty:=zL I.out.2.2.2.1.eOwn bD;have bI:Bools b.drew (λg=>w.heap.size+1<=g/\g<b.drew.heap.size/\some g≠(Value.slice ao j u).ownBlock) (slice af n.empty.length ag) n.empty:=zGe aO λg ah=>⟨by have:=(aO.lt g ah).1;omega,(aO.lt g ah).2,λe=>by have:=(cq.lt g e.symm).2;have:=(aO.lt g ah).1;omega⟩
      rw[<-a3] at a2 aB ⊢;rw[a1,<-a3] at a2;rw[<-a3] at ad bG bH bI bE;obtain⟨ct,q2⟩:=Lm.app (m:=⟨o,p,ST,n.empty⟩) bE (show w.heap.size+1<=b.heap.size from bB) bG bH bI a2 ad aB;exact⟨ct,I.out.1.trans ⟨q2.os,q2.output,q2.size,λk ac cH=>q2.block k (by omega) (by omega)⟩,lY bB q2.size⟩
     clear a1;go_region_law ((refine step_append_lies _ (by rfl) (.tmp 45) (.tmp 52) 82 (by rfl) (w.heap.size+1) 134 bO _ 4 80 underlying82 bP bQ bR bS rfl (by decide) (slice ao j u) j aA (by simp[Act.eval,Act.put]) ((bA.alloc _).drew) ⟨b.heap.size,0,none⟩ 1 1 [slice x o.length y,slice z p.length A,iX ST,slice af n.empty.length ag] (by simp[Act.eval,Act.put]) (by rfl) (news_of_block (cs:=#[slice x o.length y,slice z p.length A,iX ST,slice af n.empty.length ag]) (t:=134) (fr:=(0,0)) (gY b _)) (by simp[Value.oneCell']) (by decide) (by unfold maxLen;omega) (by omega) (by simp;omega) (b.heap.size+1) (by simp) ?_;intro J cap E bJ bK bL cu))
     all_goals
      have a4:Hid (zLI E (w.heap.size+1) (slice (qX J) (j+1) cap) (ms++[⟨o,p,ST,n.empty⟩])/\Grew w E/\w.heap.size+1<=E.heap.size):=bC.out J cap E bJ bK (by rcases bL with aB|aB;exact .inl aB;right;show b.heap.size<=J;omega);clear bJ bK bL cu bC bA t0 bu bv co;show cb _ _;apply bq.out;clear bq;have bM:((a:Int)-(o.length:Int))=((a-o.length:Nat):Int):=by omega
      rw[bM];clear bM;go_wp2;go_roundg (sh.modes.length-(j+1))
      case measure=>rw[T.out.1];omega
      case rel=>exact⟨j+1,a-o.length,ms++[⟨o,p,ST,n.empty⟩],rfl,by omega,rfl,by go_num,by omega,by rw[kX,T.out.2.2.2];rfl,a4.out.1,a4.out.2.1,a4.out.2.2,V.out⟩
  ·have b3:(sh.modes.length:Int)<=(j:Int):=by omega
   have e:j=sh.modes.length:=by omega
   have V:Hid (R=some ms):=by
    show _=_;rw[<-s,e,Nat.sub_self];show some (ms++[])=_;rw[dX]
   clear s e;go_wp2;rw[V.out];refine gJ (results_tmp2 rfl _ _ _) rfl ?_;exact⟨T.out.2.2.1,_,rfl,Lm.modes ⟨K,L,M,T.out.2.1⟩⟩
end
def xW (l:List (ByteArray×List Tr)):Nat->Nat
 |0=>0
 |j+1=>xW l j+(l.getD j (⟨#[]⟩,[])).2.length
theorem zBX (l a:List (ByteArray×List Tr))(j:Nat)(b:∀i,i<j->(l.getD i (⟨#[]⟩,[])).2.length=(a.getD i (⟨#[]⟩,[])).2.length):xW l j=xW a j:=by
 induction j with
 |zero=>rfl
 |succ j c=>
  show xW l j+_=xW a j+_;rw[c λi d=>b i (by omega),b j (by omega)]
def zBH (sh:Sh):Prop:=xW sh.modes sh.modes.length=sh.acts.length/\∀a∈sh.acts,a<4
theorem zHl (l:List (ByteArray×List Tr))(k:Nat)(x:ByteArray×List Tr)(b:x.2.length=(l.getD k (⟨#[]⟩,[])).2.length+1)(j:Nat)(f:k<j)(g:j<=l.length):xW (l.set k x) j=xW l j+1:=by
 induction j with
 |zero=>omega
 |succ j c=>
  show xW (l.set k x) j+((l.set k x).getD j (⟨#[]⟩,[])).2.length=xW l j+(l.getD j (⟨#[]⟩,[])).2.length+1;by_cases e:k=j
  ·subst e
   have d:xW (l.set k x) k=xW l k:=zBX _ _ k λi h=>by rw[lW,lW,List.getElem?_set_ne (by omega)]
   have a:(l.set k x).getD k (⟨#[]⟩,[])=x:=by rw[lW,List.getElem?_set_self (by omega)];rfl
   rw[d,a,b];omega
  ·have a:(l.set k x).getD j (⟨#[]⟩,[])=l.getD j (⟨#[]⟩,[]):=by rw[lW,lW,List.getElem?_set_ne e]
   rw[c (by omega) (by omega),a];omega
theorem zNB (s:ByteArray):(zA3 s).act<4:=by
 unfold zA3 zH5
 repeat' split
 all_goals (dsimp only;omega)
theorem zGT {sh c:Sh}{a:ByteArray}(b:yK sh a=some c)(s:zBH sh):zBH c:=by
 unfold yK at b;split at b
 ·cases b
 split at b
 ·cases b
 split at b
 ·have e:=hQ b
  subst e;refine⟨?_,s.2⟩;show xW (sh.modes++[(a,[])]) (sh.modes++[(a,[])]).length=sh.acts.length;rw[kX];show xW (sh.modes++[(a,[])]) sh.modes.length+((sh.modes++[(a,[])]).getD sh.modes.length (⟨#[]⟩,[])).2.length=_;have d:(sh.modes++[(a,[])]).getD sh.modes.length (⟨#[]⟩,[])=(a,[]):=by simp
  have f:xW (sh.modes++[(a,[])]) sh.modes.length=xW sh.modes sh.modes.length:=zBX _ _ _ λi g=>by rw[lW,lW,kW g]
  rw[d,f];exact s.1
 ·cases b
theorem zHZ {sh b:Sh}{s:ByteArray}(a:vR sh s=some b)(d:zBH sh):zBH b:=by
 unfold vR at a;split at a
 ·split at a
  ·cases a
  split at a
  ·cases a
  split at a
  ·cases c:vN (qK s 32) sh.defs with
   |none=>rw[c] at a;cases a
   |some t=>
    rw[c] at a;have e:=hQ a;subst e;exact d
  ·cases a
 ·cases a
theorem zGS {sh d:Sh}{i s:ByteArray}(b:qW sh i s=some d)(f:zBH sh):zBH d:=by
 unfold qW at b;split at b
 ·split at b
  ·cases b
  split at b
  ·cases b
  split at b
  ·split at b
   ·rename_i m _ _ _
    cases g:vN (qK s 32) sh.defs with
    |none=>rw[g] at b;cases b
    |some t=>
     rw[g] at b;have e:=hQ b;subst e;have j:=zNB (yP s 32);generalize (zA3 (yP s 32))=k at *;refine⟨?_,λa l=>by rcases kU.1 l with c|c;exact f.2 a c;rw[kY.1 c];exact j⟩;show xW (sh.modes.set (sh.modes.length-1) ((sh.mode (sh.modes.length-1)).1,(sh.mode (sh.modes.length-1)).2++[t])) (sh.modes.set (sh.modes.length-1) _).length=(sh.acts++[k.act]).length;rw[List.length_set,kX,zHl sh.modes _ _ (by show((sh.mode (sh.modes.length-1)).2++[t]).length=_;rw[kX];rfl) sh.modes.length (by omega) lQ,f.1];rfl
   ·cases b
  ·cases b
 ·cases b
theorem zGU {sh c:Sh}{s:ByteArray}(a:xX sh s=some c)(b:zBH sh):zBH c:=by
 unfold xX at a;split at a
 ·split at a
  ·exact zGT a b
  split at a
  ·exact zHZ a b
  ·exact zGS a b
 ·cases a
theorem zGi:∀f sh n s b,jN f sh n s=.inl b->zBH sh->zBH b
 |0,_,_,_,_,d,c=>by cases d;exact c
 |f+1,sh,n,s,b,d,c=>by
  have a:(if s.size=0 then .inl sh else if zAb s 10 then(match xX sh (yP s 10) with|none=>.inr n|some b=>jN f b (n+1) (qK s 10)) else .inr n)=(.inl b:Sh ⊕ Nat):=d;split at a
  ·cases a;exact c
  split at a
  ·cases e:xX sh (yP s 10) with
   |none=>rw[e] at a;cases a
   |some g=>
    rw[e] at a;exact zGi f g (n+1) _ b a (zGU e c)
  ·cases a
theorem zHK {s:ByteArray}{sh:Sh}(b:jL s=.inl sh):zBH sh:=by
 unfold jL at b;split at b
 ·cases b
 cases e:jN (s.size+1) Sh.none 1 s with
 |inr n=>rw[e] at b;cases b
 |inl d=>
  rw[e] at b;have c:(if d.there&&d.haveB then(if d.fitB then .inl d else .inr (0,4)) else .inr (0,3))=(.inl sh:Sh ⊕ (Nat×Nat)):=b;split at c
  ·split at c
   ·cases c
    exact zGi _ _ _ _ _ e ⟨rfl,λa f=>(List.not_mem_nil f).elim⟩
   ·cases c
  ·cases c
structure SmOk (m:Sm)(mo nr:Nat):Prop where
 one:1<=m.next.length
 few:m.next.length<=mo
 wide:∀row∈m.next,row.length=256/\∀x∈row,0<=x/\x<(m.next.length:Int)
 same:m.rules.length=m.next.length
 rules:∀r∈m.rules,-1<=r/\r<(m.empty.length:Int)
 start:0<=m.start/\m.start<(m.next.length:Int)
 len:m.empty.length=nr
theorem zMa {D:Nat}{rules:List Tr}{a:Nat}{m:Sm}(b:zBR D rules a=some m)(f:ModeFacts D rules):SmOk m a rules.length:=by
 have d:=zBq D rules rules.length f.cnt;have l:=f.ok;have o:=f.fit;unfold zBR at b;generalize xM D rules rules.length=n at *;cases g:n.sort a with
 |none=>rw[g] at b;cases b
 |some k=>
  rw[g] at b;obtain⟨p,-,q⟩:=zJZ g l o;have c:(if (yC k n.areas a).full then none else some ⟨(yC k n.areas a).next,(yC k n.areas a).rules,(yC k n.areas a).of.getD k.start 0,n.empty⟩)=some m:=b;cases i:(yC k n.areas a).full with
  |true=>rw[i] at c;cases c
  |false=>
   rw[i] at c;have e:=hQ c;obtain⟨t,j⟩:=zGh k n.areas a (nr:=(n.rules.length:Int)) (by omega) q p.lens i;have s:n.empty.length=n.rules.length:=by rw[d.elen,d.rlen]
   subst e;exact⟨t.one,j.few,t.wide,j.same,λr u=>by have:=t.rules r u;show -1<=r/\r<(n.empty.length:Int);rw[s];exact this,zJ5 t _,d.elen⟩
theorem zGg (D:Nat)(sh:Sh)(t:∀j,j<sh.modes.length->ModeFacts D (sh.mode j).2):∀f j d ms,xS D sh f j d=some ms->j+f<=sh.modes.length->ms.length=f/\(∀i,i<f->∃g,g<=d/\SmOk (ms.getD i ⟨[],[],0,[]⟩) g (sh.mode (j+i)).2.length)/\zE ms f<=d
 |0,_,_,ms,p,_=>by
  have e:=hQ p;subst e;exact⟨rfl,λi u=>absurd u (Nat.not_lt_zero _),lX⟩
 |f+1,j,d,ms,p,y=>by
  have k:(match zBR D (sh.mode j).2 d with|none=>none|some m=>(xS D sh f (j+1) (d-m.next.length)).map (m::·))=some ms:=p;cases r:zBR D (sh.mode j).2 d with
  |none=>rw[r] at k;cases k
  |some m=>
   rw[r] at k;have ok:=zMa r (t j (by omega));have o:(xS D sh f (j+1) (d-m.next.length)).map (m::·)=some ms:=k;cases s:xS D sh f (j+1) (d-m.next.length) with
   |none=>rw[s] at o;cases o
   |some l=>
    rw[s] at o;have e:=hQ o;have e:=e;subst e;obtain⟨a,b,c⟩:=zGg D sh t f (j+1) _ l s (by omega);have v:∀q,zE (m::l) (q+1)=m.next.length+zE l q:=λq=>by
     induction q with
     |zero=>show 0+m.next.length=m.next.length+0;omega
     |succ q w=>
      show zE (m::l) (q+1)+((m::l).getD (q+1) ⟨[],[],0,[]⟩).next.length=m.next.length+(zE l q+(l.getD q ⟨[],[],0,[]⟩).next.length)
      rw[w,show(m::l).getD (q+1) ⟨[],[],0,[]⟩=l.getD q ⟨[],[],0,[]⟩ from rfl];omega
    refine⟨by rw[hU,a],λi u=>?_,?_⟩
    ·cases i with
     |zero=>exact⟨d,lQ,ok⟩
     |succ i=>
      obtain⟨g,z,x⟩:=b i (by omega);refine⟨g,by omega,?_⟩;rw[show j+(i+1)=j+1+i by omega];exact x
    ·rw[v]
     have:=ok.few;omega
theorem zHT (D:Nat)(sh:Sh)(ms:List Sm)(a:∀i,i<sh.modes.length->(ms.getD i ⟨[],[],0,[]⟩).empty.length=(sh.mode i).2.length)(j:Nat)(c:j<=sh.modes.length):zU ms j=xW sh.modes j:=by
 induction j with
 |zero=>rfl
 |succ j b=>
  show zU ms j+(ms.getD j ⟨[],[],0,[]⟩).empty.length=xW sh.modes j+(sh.modes.getD j (⟨#[]⟩,[])).2.length;rw[b (by omega),a j (by omega)];rfl
theorem zL9 {w:World}{D:Nat}{p r s:Value}{sh:Sh}(g:SpecIs w D p r s sh)(t:zBH sh){most:Nat}(C:most<=200){ms:List Sm}(u:xS D sh sh.modes.length 0 most=some ms):ModesOk ms/\zU ms ms.length=sh.acts.length:=by
 obtain⟨a,b,c⟩:=zGg D sh (λj v=>g.facts v) sh.modes.length 0 most ms u (by omega);have l:=g.have_;unfold Sh.haveB at l;obtain⟨m,x⟩:=of_decide_eq_true l;have o:∀i (d:i<ms.length),ms.getD i ⟨[],[],0,[]⟩=ms[i]:=λi d=>by rw[lW,lV d];rfl
 have ok:∀i (d:i<ms.length),∃e,SmOk ms[i] e (sh.mode i).2.length:=λi d=>by
  obtain⟨e,-,k⟩:=b i (by omega);rw[o i d,Nat.zero_add] at k;exact⟨e,k⟩
 have y:zU ms ms.length=sh.acts.length:=by
  rw[a,zHT D sh ms (λi d=>by obtain⟨e,k⟩:=ok i (by omega);rw[o i (by omega)];exact k.len) _ lQ];exact t.1
 have k:1<=sh.acts.length:=by
  have E:=g.few 0 m;have F:=x 0 m;omega
 refine⟨⟨by omega,by have:=g.ok.modes;omega,λi d=>?_,λi d row z=>?_,λi d=>?_,λi d=>?_,by rw[a];omega,by omega,by have:=g.ok.acts;omega⟩,y⟩
 ·obtain⟨e,f⟩:=ok i d;exact f.one
 ·obtain⟨e,f⟩:=ok i d
  obtain⟨A,B⟩:=f.wide row z;refine⟨A,λq G=>B _ ?_⟩;rw[lW,lV (by omega:q<row.length)];exact List.getElem_mem _
 ·obtain⟨e,f⟩:=ok i d;exact⟨f.same,f.rules⟩
 ·obtain⟨e,f⟩:=ok i d;exact f.start
def yN (st ho:Int):Bool:=decide (st<1)||decide (200<st)||decide (ho<1)||decide (64<ho)
def zAq (s:ByteArray)(st ho:Int):(List Sm×Sh) ⊕ (Nat×Nat):=
 if yN st ho then .inr (0,6) else
 match jL s with
 | .inr e=>.inr e
 | .inl sh=>match xS (1+6*s.size) sh sh.modes.length 0 st.toNat with
  |none=>.inr (0,5)
  |some ms=>.inl (ms,sh)
def zIQ (w:World)(n k:Nat)(e:Ending)(w':World):Prop:=Grew w w'/\e=returned (tuple #[pointer none,agg #[slice none 0 0,slice none 0 0,slice none 0 0,int i64 0,bool false,int i64 (n:Int)],int i64 (k:Int)])
theorem qS (w:World)(q i:Nat)(v:Value)(c:Array Value)(t:TypeId)(b:w.heap[q]? =some (.cells c t)):∃a,a=w.setCell ⟨q,i,none⟩ v/\a.heap[q]? =some (.cells (c.setIfInBounds i v) t)/\a.heap.size=w.heap.size/\a.os=w.os/\a.output=w.output/\∀k,k≠q->a.heap[k]? =w.heap[k]? :=⟨_,rfl,by simp[setCell,lU,b],by rw[zC],rfl,rfl,λk d=>lJ _ _ _ _ d⟩
theorem zDt (w w2:World)(v0 v1 v2 d e f:Value)(l:w2.heap[w.heap.size+1]? =some (.cells #[slice none 0 0,slice none 0 0,slice none 0 0,iX 0,bool false,iX 0] 30))(m:Grew w w2):
  ∃a:World,a=((((((w2.setCell ⟨w.heap.size+1,0,none⟩ v0).setCell ⟨w.heap.size+1,1,none⟩ v1).setCell ⟨w.heap.size+1,2,none⟩ v2).setCell ⟨w.heap.size+1,3,none⟩ d).setCell ⟨w.heap.size+1,4,none⟩ e).setCell ⟨w.heap.size+1,5,none⟩ f)/\a.cell? ⟨w.heap.size+1,0,none⟩=some v0/\a.cell? ⟨w.heap.size+1,1,none⟩=some v1/\a.cell? ⟨w.heap.size+1,2,none⟩=some v2/\a.cell? ⟨w.heap.size+1,3,none⟩=some d/\a.cell? ⟨w.heap.size+1,4,none⟩=some e/\a.cell? ⟨w.heap.size+1,5,none⟩=some f/\Hid (Grew w a/\a.heap.size=w2.heap.size/\a.os=w2.os/\a.output=w2.output/\∀k,k≠w.heap.size+1->a.heap[k]? =w2.heap[k]?):=by
 obtain⟨o,p,c1,W,q,u1,r⟩:=qS w2 (w.heap.size+1) 0 v0 _ _ l;have s:=c1;obtain⟨t,u,c2,X,v,u2,x⟩:=qS o (w.heap.size+1) 1 v1 _ _ s;have b2:=c2;obtain⟨y,z,A,Y,B,u3,C⟩:=qS t (w.heap.size+1) 2 v2 _ _ b2;have D:=A;obtain⟨E,F,G,aa,H,u4,I⟩:=qS y (w.heap.size+1) 3 d _ _ D;have J:=G;obtain⟨K,L,M,ab,N,u5,O⟩:=qS E (w.heap.size+1) 4 e _ _ J;have P:=M;obtain⟨b,Q,R,ac,S,u6,T⟩:=qS K (w.heap.size+1) 5 f _ _ P;have U:b.heap[w.heap.size+1]? =some (.cells #[v0,v1,v2,d,e,f] 30):=R;have g:∀i,i≠w.heap.size+1->b.heap[i]? =w2.heap[i]? :=λi c=>(T i c).trans ((O i c).trans ((I i c).trans ((C i c).trans ((x i c).trans (r i c)))));have V:b.heap.size=w2.heap.size:=by omega
 have h:b.os=w2.os:=S.trans (N.trans (H.trans (B.trans (v.trans q))));have j:b.output=w2.output:=u6.trans (u5.trans (u4.trans (u3.trans (u2.trans u1))));refine⟨b,by rw[Q,L,F,z,u,p],?_,?_,?_,?_,?_,?_,m.trans ⟨h,j,by omega,λk ad _=>g k (by omega)⟩,V,h,j,g⟩
 all_goals (unfold cell?;rw[U];rfl)
theorem zGR {w w2:World}{c d:Int}{e:Bool}(a:Keep (w.heap.size+2) (w.heap.size+2) ((w.alloc (.cells #[iX c,iX d,bool e] 58)).alloc (.cells #[slice none 0 0,slice none 0 0,slice none 0 0,iX 0,bool false,iX 0] 30)) w2):w2.heap[w.heap.size+1]? =some (.cells #[slice none 0 0,slice none 0 0,slice none 0 0,iX 0,bool false,iX 0] 30)/\w2.cell? ⟨w.heap.size,0,none⟩=some (iX c)/\w2.cell? ⟨w.heap.size,1,none⟩=some (iX d)/\w2.cell? ⟨w.heap.size,2,none⟩=some (bool e)/\Grew w w2:=by
 have s1:(w.alloc (.cells #[iX c,iX d,bool e] 58)).heap.size=w.heap.size+1:=by simp
 have g:=gY w (.cells #[iX c,iX d,bool e] 58);have f:=gY (w.alloc (.cells #[iX c,iX d,bool e] 58)) (.cells #[slice none 0 0,slice none 0 0,slice none 0 0,iX 0,bool false,iX 0] 30);rw[s1] at f;have h:=(a.block w.heap.size (by omega) (by omega)).trans ((lG _ _ _ (by rw[s1];omega)).trans g);have i:=(a.block (w.heap.size+1) (by omega) (by omega)).trans f;refine⟨i,?_,?_,?_,((kZ (H:=w.heap.size) (b:=w.heap.size) _ _ lQ).trans (kZ _ _ (by rw[s1];omega))).trans ⟨a.os,a.output,a.size,λk g f=>a.block k (by omega) (by omega)⟩⟩
 all_goals (unfold cell?;rw[h];rfl)
theorem jC {w:World}{q:Nat}(a:w.heap[q]? =some (.cells #[slice none 0 0,slice none 0 0,slice none 0 0,iX 0,bool false,iX 0] 30)):w.cell? ⟨q,0,none⟩=some (slice none 0 0)/\w.cell? ⟨q,1,none⟩=some (slice none 0 0)/\w.cell? ⟨q,2,none⟩=some (slice none 0 0)/\w.cell? ⟨q,3,none⟩=some (iX 0)/\w.cell? ⟨q,4,none⟩=some (bool false)/\w.cell? ⟨q,5,none⟩=some (iX 0)/\w.frozen? ⟨q,0,none⟩=false/\w.frozen? ⟨q,1,none⟩=false/\w.frozen? ⟨q,2,none⟩=false/\w.frozen? ⟨q,3,none⟩=false/\w.frozen? ⟨q,4,none⟩=false/\w.frozen? ⟨q,5,none⟩=false:=by
 refine⟨?_,?_,?_,?_,?_,?_,?_,?_,?_,?_,?_,?_⟩
 all_goals first|(unfold cell?;rw[a];rfl)|(unfold frozen?;rw[a];rfl)
theorem zGo (w:World)(b c:Int)(d:Bool):∃w2,w2=(w.alloc (.cells #[iX b,iX c,bool d] 58)).alloc (.cells #[slice none 0 0,slice none 0 0,slice none 0 0,iX 0,bool false,iX 0] 30)/\Hid (∀a,Keep (w.heap.size+2) (w.heap.size+2) w2 a->a.heap[w.heap.size+1]? =some (.cells #[slice none 0 0,slice none 0 0,slice none 0 0,iX 0,bool false,iX 0] 30)/\a.cell? ⟨w.heap.size,0,none⟩=some (iX b)/\a.cell? ⟨w.heap.size,1,none⟩=some (iX c)/\a.cell? ⟨w.heap.size,2,none⟩=some (bool d)/\Grew w a):=⟨_,rfl,λa e=>zGR e⟩
theorem zEw (w:World)(s:ByteArray)(a b:Int)(f:Bool)(j:a<1\/1<=a/\200<a\/1<=a/\a<=200/\b<1\/1<=a/\a<=200/\1<=b/\64<b):Calls prog 30 #[string s,agg #[iX a,iX b,bool f]] w (zIQ w 0 6):=by
 obtain⟨w2,c,k⟩:=zGo w a b f;have y:Hid (w2.heap.size=w.heap.size+2):=by show _=_;rw[c];simp
 go_in;apply wp_cut;intro z g;go_wp2_with fail;apply g.out;clear g;rw[<-c];clear c;obtain⟨d,A,B,C,h⟩:=k w2 (Keep.refl _ _ _);obtain⟨D,E,F,G,H,I,J,K,L,M,N,O⟩:=jC d;obtain⟨P,l,m,o,p,q,r,t,u⟩:=zDt w w2 (slice none 0 0) (slice none 0 0) (slice none 0 0) (iX 0) (bool false) (iX (0)) d h;clear d h;rcases j with e|⟨e,i⟩|⟨e,i,x⟩|⟨e,i,x,Q⟩
 all_goals
  go_wp2;rw[<-l];refine gJ (v:=tuple #[pointer none,agg #[slice none 0 0,slice none 0 0,slice none 0 0,iX 0,bool false,iX (0)],iX 6]) (by simp[results,results30,go_sem,m,o,p,q,r,t]) rfl ?_;exact⟨u.1,rfl⟩
theorem zMq (w:World)(s:ByteArray)(c d:Int)(i:Bool)(t:s.size<=1048576)(L:1<=c)(M:c<=200)(N:1<=d)(O:d<=64)(n k:Nat)(u:k≠0)(j:jL s=.inr (n,k)):Calls prog 30 #[string s,agg #[iX c,iX d,bool i]] w (zIQ w n k):=by
 obtain⟨w2,f,l⟩:=zGo w c d i;have m:Hid (w2.heap.size=w.heap.size+2):=by show _=_;rw[f];simp
 have x:Hid (Ca 43 #[string s] w2 (zEz w2 (1+6*s.size) (.inr (n,k)))):=by have:=zAD w2 s t;rw[j] at this;exact this
 have P:((k:Int) != 0)=true:=by simp;omega
 clear j u;go_in;apply wp_cut;intro o a;go_wp2_with fail;apply a.out;clear a;rw[<-f];clear f;obtain⟨-,y,z,A,-⟩:=l w2 (Keep.refl _ _ _);apply wp_cut;intro o a;go_wp2;apply a.out;clear a;clear y z A;apply wp_cut;intro o a;go_wp2_with (first|(go_at_call 43;refine x.mono ?_;rintro e p ⟨g,rfl⟩))
 apply a.out;clear a;obtain⟨b,q,B⟩:∃b,b=p.alloc (.cells #[slice none 0 0,slice none 0 0,slice none 0 0] 79)/\Hid (Keep (w.heap.size+2) (w.heap.size+2) w2 b):=by
  have C:Keep (w.heap.size+2) (w.heap.size+2) w2 p:=by rw[<-m.out];exact g
  refine⟨_,rfl,C.trans (kZ _ _ (by have:=g.size;rw[m.out] at this;omega))⟩
 rw[<-q];clear q g;obtain⟨h,Q,R,S,r⟩:=l b (B);obtain⟨T,U,V,W,X,Y,aa,ab,ac,ad,ae,af⟩:=jC h;obtain⟨ag,D,E,F,G,H,I,J,K⟩:=zDt w b (slice none 0 0) (slice none 0 0) (slice none 0 0) (iX 0) (bool false) (iX ((n:Int))) h r;clear h r;go_wp2;rw[<-D];refine gJ (v:=tuple #[pointer none,agg #[slice none 0 0,slice none 0 0,slice none 0 0,iX 0,bool false,iX ((n:Int))],iX (k:Int)]) (by simp[results,results30,go_sem,E,F,G,H,I,J]) rfl ?_;exact⟨K.1,rfl⟩
end Go.Proofs.YtbjcfkdnjaiclaaGreat
