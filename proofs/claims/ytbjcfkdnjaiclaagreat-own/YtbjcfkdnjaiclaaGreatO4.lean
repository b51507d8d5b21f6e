import Derived.ChangeKeysEq
import Derived.Deep.DrawnRows
import Derived.Deep.MidRow
import Derived.Deep.RegionLaw
import Derived.Test.YtbjcfkdnjaiclaaGreatO0
import Derived.Test.YtbjcfkdnjaiclaaGreatO3
/- Parts of the proof. -/
set_option linter.unusedVariables false
set_option linter.unusedSimpArgs false
set_option maxHeartbeats 4000000
set_option maxRecDepth 100000
namespace Go.Proofs.YtbjcfkdnjaiclaaGreat
open Go.RowKit Go.Proofs.Tryz Go.World
open Go.Value (int slice bool pointer string agg tuple)
open Go.IntKind (i64)
open Go.Ending (returned)
def a64 (f:Nat->Int):Array Value:=((List.range 64).map λi=>Value.int i64 (f i)).toArray
theorem zBy (f:Nat->Int):(a64 f).size=64:=by simp[a64]
theorem zAi (f:Nat->Int)(i:Nat)(a:i<64):(a64 f)[i]? =some (iX (f i)):=by
 simp[a64,a]
theorem zQl:(prog.info? 246).map (·.size)=some 64:=by kernel_rfl
theorem zE8 (w:World)(b:Nat)(f:Nat->Int)(a:w.heap[b]? =some (.cells (a64 f) 246)):w.rangeAt b 0 (a64 f).toList:=λj v c=>by
 unfold cell?;rw[a,Nat.zero_add];simpa using c
theorem zLG (f:Nat->Int):(prog.info? 246).map (·.size)=some (a64 f).toList.length:=by
 rw[Array.length_toList,zBy];exact zQl
theorem zLJ (w:World)(f:Nat->Int)(i:Nat)(a:i<64):Sem.run prog (Instr.index 246 (agg (a64 f)) (iX (i:Int))) w=.ok (iX (f i)) w:=by
 have b:(0:Int)<=(i:Int)/\(i:Int)<64:=by omega
 simp[Instr.index,run_underlying underlying246,asIntOf,b,go_sem,zAi f i a];omega
def qP (row:List Int)(f:Nat->Int):Bool:=(List.range 64).all λi=>row.getD (128+i) 0==f i
theorem zPh (row:List Int)(f:Nat->Int)(i:Nat)(a:i<64)(b:row.getD (128+i) 0≠f i):qP row f=false:=by
 unfold qP;rw[List.all_eq_false];exact⟨i,List.mem_range.2 a,by simpa using b⟩
theorem zN4 (row:List Int)(f:Nat->Int)(a:∀i,i<64->row.getD (128+i) 0=f i):qP row f=true:=by
 unfold qP;rw[List.all_eq_true];intro i b;rw[a i (List.mem_range.1 b)];simp
theorem zGI (w:World)(v:Value)(row:List Int)(s:Ints w (In w) v row)(t:row.length=256)(f:Nat->Int):
  Calls prog 186 #[v,agg (a64 f)] w λe w'=>e=returned (bool (qP row f))/\Grew w w':=by
 obtain⟨M,N,rfl,_,_,l⟩:=s;rw[t] at l ⊢;have u:=vl l;have p:Hid ((w.alloc (.cells (a64 f) 246)).rangeAt w.heap.size 0 (a64 f).toList/\(prog.info? 246).map (·.size)=some (a64 f).toList.length):=⟨zE8 (w.alloc (.cells (a64 f) 246)) w.heap.size f (gY _ _),zLG f⟩
 have z:Hid (∀w i,i<64->Sem.run prog (Instr.index 246 (agg (a64 f)) (iX ((i:Nat):Int))) w=.ok (iX (f i)) w):=λw i=>zLJ w f i;have B:=vl <| zAi f;have C:Hid (Grew w (w.alloc (.cells (a64 f) 246))):=kZ _ _ lQ;have D:Hid (∀i,i<64->row.getD (128+i) 0≠f i->qP row f=false):=zPh row f;have E:Hid ((∀i,i<64->row.getD (128+i) 0=f i)->qP row f=true):=zN4 row f;clear l;generalize a64 f=F at *;go_in;go_wp2_with (refine wpList_load_mid rfl 246 (.tmp 3) rfl w.heap.size 0 rfl F.toList (.array 64 3) p.1 underlying246 rfl p.2 ?_)
 go_loopg [8] 64 (λk i wr=>∃j:Nat,k=64-j/\j<=64/\i=iX (j:Int)/\(∀i,i<j->row.getD (128+i) 0=f i)/\Grew w wr)
 case atStart=>exact⟨0,rfl,lX,rfl,λi q=>by omega,C⟩
 case round=>
  obtain⟨j,m,O,rfl,d,g⟩:=hrel;have b:Hid (gk=64-j/\(∀i,i<j->row.getD (128+i) 0=f i)/\Grew w wr):=⟨m,d,g⟩
  by_cases o:j<64
  ·have G:(j:Int)<64:=by omega
   obtain⟨P,R,rfl,H,r⟩:=u (128+j) (by omega);have S:=zA r H g;have T:=z wr j o;have U:=B j o;have I:Hid (row.getD (128+j) 0≠f j->qP row f=false):=D j o;have J:Hid (row.getD (128+j) 0=f j->∀i,i<j+1->row.getD (128+i) 0=f i):=λK i q=>by
    by_cases e:i=j
    ·rw[e];exact K
    ·exact b.2.1 i (by omega)
   have V:(128:Int)+(j:Int)<256:=by omega
   clear m d g r;generalize row.getD (128+j) 0=x at *;generalize f j=y at *;by_cases a:x=y
   ·have c:Hid (∀i,i<j+1->row.getD (128+i) 0=f i):=J a
    have L:(x != y)=false:=by simp[a]
    clear a;go_wp2;go_roundg (64-(j+1))
    case measure=>rw[b.out.1];omega
    case rel=>exact⟨j+1,rfl,by omega,by go_num,c,b.2.2⟩
   ·have c:Hid (qP row f=false):=I a
    have L:(x != y)=true:=by simp[a]
    clear a;go_wp2;go_ret;exact⟨by rw[c.out];rfl,b.2.2⟩
  ·have G:(64:Int)<=(j:Int):=by omega
   have c:Hid (qP row f=true):=E λi q=>d i (by omega);clear m d g;go_wp2;go_ret;exact⟨by rw[c.out];rfl,b.2.2⟩
section
structure Mk where
 next:List (List Int)
 rules:List Int
 of:List Int
 full:Bool
def zDy (l:List Int):Array Value:=(l.map λx=>Value.int i64 x).toArray
structure Mw (w0 w:World)(mb kb:Nat)(most:Nat)(m:Mk)(nv rv ov:Value)(gs:Nat->Nat):Prop where
 blk:w.heap[mb]? =some (.cells #[pointer (some ⟨kb,0,none⟩),int i64 (most:Int),bool m.full,nv,rv,int i64 0,ov] 183)
 nOwn:Row w w0.heap.size 45 nv m.next.length λi=>slice (some ⟨gs i,0,none⟩) 256 256
 each:∀i,i<m.next.length->w.heap[gs i]? =some (.cells (zDy (m.next.getD i [])) 3)/\w0.heap.size<=gs i/\(m.next.getD i []).length=256
 rOwn:OwnI w w0.heap.size rv m.rules
 oOwn:OwnI w w0.heap.size ov m.of
 inj:∀i j,i<m.next.length->j<m.next.length->gs i=gs j->i=j
 nr:∀i,i<m.next.length->some (gs i)≠rv.ownBlock
 no:∀i,i<m.next.length->some (gs i)≠ov.ownBlock
 ro:∀g,rv.ownBlock=some g->some g≠ov.ownBlock
 mH:w0.heap.size<=mb
 keep:Grew w0 w
def MwIs (w0 w:World)(mb kb most:Nat)(m:Mk):Prop:=∃nv rv ov gs,Mw w0 w mb kb most m nv rv ov gs
def StayT (w w':World):Prop:=∀(k:Nat) (c:Array Value) (t:TypeId),w.heap[k]? =some (Obj.cells c t)->t≠3->t≠45->t≠183->w'.heap[k]? =some (Obj.cells c t)
theorem StayT.refl (w:World):StayT w w:=λ_ _ _ a _ _ _=>a
theorem StayT.trans {w w' a:World}(f:StayT w w')(g:StayT w' a):StayT w a:=λk c t j b d e=>g k c t (f k c t j b d e) b d e
theorem Keep.stayT {w w':World}(d:Grew w w'):StayT w w':=λk c t a _ _ _=>by
 have b:=(kQ.1 a).1;exact(d.block k b (kJ b)).trans a
section
variable {w0 w w2:World} {mb kb most:Nat} {m:Mk} {nv rv ov:Value} {gs:Nat->Nat}
theorem zNE (l:List Int)(i:Nat)(a:i<l.length):(zDy l)[i]? =some (iX (l.getD i 0)):=by
 simp[zDy,a]
theorem zND (l:List Int)(i:Nat)(x:Int):(zDy l).setIfInBounds i (iX x)=zDy (l.set i x):=by
 simp[zDy,List.map_set]
theorem Mw.lt (a:Mw w0 w mb kb most m nv rv ov gs):mb<w.heap.size:=(kQ.1 a.blk).1
theorem Mw.gl (a:Mw w0 w mb kb most m nv rv ov gs)(i:Nat)(b:i<m.next.length):gs i<w.heap.size:=(kQ.1 (a.each i b).1).1
theorem Mw.cells (a:Mw w0 w mb kb most m nv rv ov gs):w.cell? ⟨mb,0,none⟩=some (pX kb)/\w.cell? ⟨mb,1,none⟩=some (iX (most:Int))/\w.cell? ⟨mb,2,none⟩=some (bool m.full)/\w.cell? ⟨mb,3,none⟩=some nv/\w.cell? ⟨mb,4,none⟩=some rv/\w.cell? ⟨mb,6,none⟩=some ov/\∀i,w.frozen? ⟨mb,i,none⟩=false:=by
 refine⟨?_,?_,?_,?_,?_,?_,λi=>?_⟩
 all_goals first|(unfold cell?;rw[a.blk];rfl)|(unfold frozen?;rw[a.blk];simp)
theorem Mw.row (c:Mw w0 w mb kb most m nv rv ov gs)(i b:Nat)(d:i<m.next.length)(e:b<256):w.cell? ⟨gs i,b,none⟩=some (iX ((m.next.getD i []).getD b 0))/\w.frozen? ⟨gs i,b,none⟩=false:=by
 have ⟨a,_,f⟩:=c.each i d
 constructor
 ·unfold cell?;rw[a];exact zNE _ _ (by rw[f];exact e)
 ·unfold frozen?;rw[a];simp
theorem Mw.box (a:Mw w0 w mb kb most m nv rv ov gs):some mb≠nv.ownBlock/\some mb≠rv.ownBlock/\some mb≠ov.ownBlock/\∀i,i<m.next.length->gs i≠mb:=by
 refine⟨zO a.nOwn a.blk (by decide),zO a.rOwn a.blk (by decide),zO a.oOwn a.blk (by decide),λi b e=>?_⟩;have:=(a.each i b).1;rw[e,a.blk] at this;simp at this
theorem Mw.grown (a:Mw w0 w mb kb most m nv rv ov gs)(b:Grew w w2):Mw w0 w2 mb kb most m nv rv ov gs:=by
 have e:∀k,k<w.heap.size->w2.heap[k]? =w.heap[k]? :=λk d=>b.block k d (kJ d);exact⟨(e mb a.lt).trans a.blk,zL a.nOwn b,λi c=>⟨(e _ (a.gl i c)).trans (a.each i c).1,(a.each i c).2⟩,zL a.rOwn b,zL a.oOwn b,a.inj,a.nr,a.no,a.ro,a.mH,a.keep.th b⟩
theorem Mw.put (a:Mw w0 w mb kb most m nv rv ov gs)(s b:Nat)(l:s<m.next.length)(x:Int):Mw w0 (w.setCell ⟨gs s,b,none⟩ (iX x)) mb kb most {m with next:=m.next.set s ((m.next.getD s []).set b x)} nv rv ov gs/\StayT w (w.setCell ⟨gs s,b,none⟩ (iX x)):=by
 have e:∀k,k≠gs s->(w.setCell ⟨gs s,b,none⟩ (iX x)).heap[k]? =w.heap[k]? :=λk d=>lJ _ _ _ _ d;have ⟨p,r,u⟩:=a.each s l;have v:=a.box;have y:=zO a.nOwn p (by decide);have o:(m.next.set s ((m.next.getD s []).set b x)).length=m.next.length:=List.length_set ..
 refine⟨⟨(e mb (Ne.symm (v.2.2.2 s l))).trans a.blk,?_,λi g=>?_,zE a.rOwn λk _ _ d=>e k λf=>a.nr s l (by rw[d,f]),zE a.oOwn λk _ _ d=>e k λf=>a.no s l (by rw[d,f]),λi j g z=>?_,λi g=>?_,λi g=>?_,a.ro,a.mH,a.keep.trans (zQ _ _ _ _ r)⟩,λk c t d A _ _=>?_⟩
 ·show Row _ _ _ _ (m.next.set s _).length _
  rw[o];exact zE a.nOwn λk _ _ d=>e k λf=>y (by rw[d,f])
 ·have q:i<m.next.length:=by rw[<-o];exact g
  show _=some (Obj.cells (zDy ((m.next.set s _).getD i [])) _)/\_/\((m.next.set s _).getD i []).length=256;rw[lW,List.getElem?_set];by_cases f:s=i
  ·subst f
   rw[if_pos rfl,if_pos l];refine⟨?_,r,by simp only[Option.getD_some,List.length_set];exact u⟩;show _=some (Obj.cells (zDy ((m.next.getD s []).set b x)) _);rw[<-zND];simp[setCell,lU,p]
  ·rw[if_neg f,<-lW]
   have B:gs i≠gs s:=λC=>f (a.inj s i l q C.symm);exact⟨(e _ B).trans (a.each i q).1,(a.each i q).2⟩
 ·exact a.inj i j (by rw[<-o];exact g) (by rw[<-o];exact z)
 ·exact a.nr i (by rw[<-o];exact g)
 ·exact a.no i (by rw[<-o];exact g)
 ·refine(e k λf=>?_).trans d
  rw[f,p] at d;injection d with d;injection d with _ d;exact A d.symm
end
end
section
attribute [local go_sem ↓] Go.wp_at_zero Go.wp_at_succ
def zeros:List Int:=List.replicate 256 0
theorem zNZ {w:World}{H g:Nat}(d:w.ownsRow H 3 1 (slice (qX g) 256 256) 256 ((List.range 256).map λ_=>zX)):w.heap[g]? =some (.cells (zDy zeros) 3):=by
 rcases d.2 with⟨b,_⟩|⟨p,cap,c,b,_,e,_,_,f,j⟩
 ·cases b
 ·injection b with a q k
  injection a with a;injection a with a;subst a k;rw[e];have l:c.toList=(List.range 256).map λ_=>zX:=by
   rw[<-j,List.take_of_length_le (by rw[Array.length_toList,f];exact lQ)]
  have o:c=zDy zeros:=by
   apply Array.toList_inj.1;rw[l];unfold zDy zeros;rw[List.map_replicate];apply List.ext_getElem
   ·rw[kV,List.length_range,List.length_replicate]
   ·intro i r s
    rw[List.getElem_map,List.getElem_replicate]
  rw[o]
section
variable {w0 w w1 w2:World} {mb kb most:Nat} {m:Mk} {nv rv ov:Value} {gs:Nat->Nat}
theorem Mw.newRow {o:Obj}{g cap n:Nat}(f:Mw w0 w mb kb most m nv rv ov gs)(G:n=m.next.length)(z:Grew w w1)(A:w1.heap[w.heap.size]? =some (.cells (zDy zeros) 3))
  (H:w2.ownsRow w0.heap.size 45 1 (slice (qX g) (n+1) cap) (n+1) (((List.range n).map λi=>slice (some ⟨gs i,0,none⟩) 256 256)++[slice (qX w.heap.size) 256 256])) (q:(w1.alloc o).grownBy w2 nv.ownBlock) (I:nv.ownBlock=some g\/w1.heap.size<=g):
  Mw w0 (w2.setCell ⟨mb,3,none⟩ (slice (qX g) (n+1) cap)) mb kb most {m with next:=m.next++[zeros]} (slice (qX g) (n+1) cap) rv ov (λi=>if i=n then w.heap.size else gs i)/\StayT w (w2.setCell ⟨mb,3,none⟩ (slice (qX g) (n+1) cap)):=by
 subst G;have b:=f.grown z;have s:=b.box;have J:=b.lt;have aa:=f.lt;have K:=(kQ.1 A).1;have L:=f.keep.size;have u:∀j,j<w1.heap.size->some j≠nv.ownBlock->w2.heap[j]? =w1.heap[j]? :=λj B M=>(q.block j (by simp;omega) M).trans (lG _ _ _ (by omega));have N:w1.heap.size<=w2.heap.size:=lY (by simp) q.size;have O:=(u mb J s.1).trans b.blk;have e:∀k,k≠mb->(w2.setCell ⟨mb,3,none⟩ (slice (qX g) (m.next.length+1) cap)).heap[k]? =w2.heap[k]? :=λk a=>lJ _ _ _ _ a;have P:∀i,i<m.next.length->some (gs i)≠nv.ownBlock:=λi l=>zO b.nOwn (b.each i l).1 (by decide)
 have R:some w.heap.size≠nv.ownBlock:=λd=>by have:=(f.nOwn.lt _ d.symm).2;omega
 have S:=zU q b.rOwn λk a=>xZ b.rOwn b.nOwn (by decide) a;have T:=zU q b.oOwn λk a=>xZ b.oOwn b.nOwn (by decide) a;have ab:mb≠g:=λd=>by
  rcases I with C|C
  ·exact s.1 (by rw[C,d])
  ·omega
 have U:(m.next++[zeros]).length=m.next.length+1:=by simp
 have D:∀i,i<m.next.length->gs i<w.heap.size:=λi l=>f.gl i l
 refine⟨⟨by simp[setCell,lU,O],?_,λi l=>?_,zE S λk _ _ a=>e k λd=>s.2.1 (by rw[a,d]),zE T λk _ _ a=>e k λd=>s.2.2.1 (by rw[a,d]),λi j l B=>?_,λi l=>?_,λi l=>?_,f.ro,f.mH,b.keep.trans ⟨q.os,q.output,by rw[zD];exact N,λk a _=>(e k (by have:=f.mH;omega)).trans (u k (by omega) λd=>by have:=(f.nOwn.lt k d.symm).1;omega)⟩⟩,λk c t a ac V W=>?_⟩
 ·show Row _ _ _ _ (m.next++[zeros]).length _
  rw[U];have X:Row w2 w0.heap.size 45 (slice (qX g) (m.next.length+1) cap) (m.next.length+1) (λi=>slice (some ⟨if i=m.next.length then w.heap.size else gs i,0,none⟩) 256 256):=by
   unfold Row;rw[zAn,if_pos rfl];rw[show (List.range m.next.length).map (λi=>Value.slice (some ⟨if i=m.next.length then w.heap.size else gs i,0,none⟩) 256 256)=(List.range m.next.length).map λi=>Value.slice (some ⟨gs i,0,none⟩) 256 256 from List.map_congr_left λi l=>by rw[if_neg (by have:=List.mem_range.1 l;omega)]];exact H
  exact zE X λk _ _ a=>e k λd=>by
   have:g=k:=by simpa[Value.ownBlock] using a
   omega
 ·show _=some (Obj.cells (zDy ((m.next++[zeros]).getD i [])) _)/\_/\((m.next++[zeros]).getD i []).length=256
  by_cases p:i=m.next.length
  ·subst p
   rw[if_pos rfl,lW,hZ lQ,Nat.sub_self];exact⟨(e _ (by omega)).trans ((u _ K R).trans A),L,List.length_replicate ..⟩
  ·have r:i<m.next.length:=by
    have x:i<(m.next++[zeros]).length:=l;omega
   rw[if_neg p,lW,kW r,<-lW];exact⟨(e _ (s.2.2.2 i r)).trans ((u _ (b.gl i r) (P i r)).trans (b.each i r).1),(b.each i r).2⟩
 ·have x:i<(m.next++[zeros]).length:=l
  have ad:j<(m.next++[zeros]).length:=B;intro p;by_cases y:i=m.next.length
  ·by_cases v:j=m.next.length
   ·omega
   ·rw[if_pos y,if_neg v] at p
    have:=D j (by omega);omega
  ·by_cases v:j=m.next.length
   ·rw[if_neg y,if_pos v] at p
    have:=D i (by omega);omega
   ·rw[if_neg y,if_neg v] at p
    exact f.inj i j (by omega) (by omega) p
 ·have x:i<(m.next++[zeros]).length:=l
  split
  ·intro d;have:=(f.rOwn.lt _ d.symm).2;omega
  ·exact f.nr i (by omega)
 ·have x:i<(m.next++[zeros]).length:=l
  split
  ·intro d;have:=(f.oOwn.lt _ d.symm).2;omega
  ·exact f.no i (by omega)
 ·have E:=(kQ.1 a).1
  have F:=(z.block k E (kJ E)).trans a;have Y:k≠mb:=λd=>by
   rw[d,f.blk] at a;injection a with a;injection a with _ a;exact W a.symm
  exact(e k Y).trans ((u k (by omega) (zO b.nOwn F (Ne.symm V))).trans F)
theorem Mw.newRule {o:Obj}{g cap n:Nat}{x:Int}(a:Mw w0 w mb kb most m nv rv ov gs)(u:n=m.rules.length)(v:w2.ownsRow w0.heap.size 3 1 (slice (qX g) (n+1) cap) (n+1) ((m.rules.map λx=>iX x)++[iX x]))(l:(w.alloc o).grownBy w2 rv.ownBlock)(s:rv.ownBlock=some g\/w.heap.size<=g):
  Mw w0 (w2.setCell ⟨mb,4,none⟩ (slice (qX g) (n+1) cap)) mb kb most {m with rules:=m.rules++[x]} nv (slice (qX g) (n+1) cap) ov gs/\StayT w (w2.setCell ⟨mb,4,none⟩ (slice (qX g) (n+1) cap)):=by
 subst u;have p:=a.box;have y:=a.lt;have r:∀j,j<w.heap.size->some j≠rv.ownBlock->w2.heap[j]? =w.heap[j]? :=λj J z=>(l.block j (by simp;omega) z).trans (lG _ _ _ (by omega));have A:w.heap.size<=w2.heap.size:=lY (by simp) l.size;have B:=(r mb y p.2.1).trans a.blk;have e:∀k,k≠mb->(w2.setCell ⟨mb,4,none⟩ (slice (qX g) (m.rules.length+1) cap)).heap[k]? =w2.heap[k]? :=λk b=>lJ _ _ _ _ b;have C:=zU l a.nOwn λk b=>xZ a.nOwn a.rOwn (by decide) b;have D:=zU l a.oOwn λk b=>λd=>a.ro k d.symm b.symm;have K:mb≠g:=λd=>by
  rcases s with q|q
  ·exact p.2.1 (by rw[q,d])
  ·omega
 refine⟨⟨by simp[setCell,lU,B],zE C λk _ _ b=>e k λd=>p.1 (by rw[b,d]),λi f=>⟨(e _ (p.2.2.2 i f)).trans ((r _ (a.gl i f) (a.nr i f)).trans (a.each i f).1),(a.each i f).2⟩,zE (OwnI.snoc v) λk _ _ b=>e k λd=>?_,zE D λk _ _ b=>e k λd=>p.2.2.1 (by rw[b,d]),a.inj,λi f d=>?_,a.no,qL a.oOwn a.ro s,a.mH,a.keep.trans ⟨l.os,l.output,by rw[zD];exact A,λk b _=>(e k (by have:=a.mH;omega)).trans (r k (by have:=a.keep.size;omega) λd=>by have:=(a.rOwn.lt k d.symm).1;omega)⟩⟩,λk c t b E L F=>?_⟩
 ·have:g=k:=by simpa[Value.ownBlock] using b
  omega
 ·have G:gs i=g:=by simpa[Value.ownBlock] using d
  rcases s with q|q
  ·exact a.nr i f (by rw[q,G])
  ·have:=a.gl i f;omega
 ·have H:=(kQ.1 b).1
  have I:k≠mb:=λd=>by
   rw[d,a.blk] at b;injection b with b;injection b with _ b;exact F b.symm
  exact(e k I).trans ((r k H (zO a.rOwn b (Ne.symm E))).trans b)
theorem Mw.newOf {o:Obj}{g cap n:Nat}{x:Int}(a:Mw w0 w mb kb most m nv rv ov gs)(u:n=m.of.length)(v:w2.ownsRow w0.heap.size 3 1 (slice (qX g) (n+1) cap) (n+1) ((m.of.map λx=>iX x)++[iX x]))(f:(w.alloc o).grownBy w2 ov.ownBlock)(s:ov.ownBlock=some g\/w.heap.size<=g):
  Mw w0 (w2.setCell ⟨mb,6,none⟩ (slice (qX g) (n+1) cap)) mb kb most {m with of:=m.of++[x]} nv rv (slice (qX g) (n+1) cap) gs/\StayT w (w2.setCell ⟨mb,6,none⟩ (slice (qX g) (n+1) cap)):=by
 subst u;have p:=a.box;have y:=a.lt;have r:∀j,j<w.heap.size->some j≠ov.ownBlock->w2.heap[j]? =w.heap[j]? :=λj J z=>(f.block j (by simp;omega) z).trans (lG _ _ _ (by omega));have A:w.heap.size<=w2.heap.size:=lY (by simp) f.size;have B:=(r mb y p.2.2.1).trans a.blk;have e:∀k,k≠mb->(w2.setCell ⟨mb,6,none⟩ (slice (qX g) (m.of.length+1) cap)).heap[k]? =w2.heap[k]? :=λk b=>lJ _ _ _ _ b;have C:=zU f a.nOwn λk b=>xZ a.nOwn a.oOwn (by decide) b;have D:=zU f a.rOwn a.ro;have K:mb≠g:=λd=>by
  rcases s with q|q
  ·exact p.2.2.1 (by rw[q,d])
  ·omega
 refine⟨⟨by simp[setCell,lU,B],zE C λk _ _ b=>e k λd=>p.1 (by rw[b,d]),λi l=>⟨(e _ (p.2.2.2 i l)).trans ((r _ (a.gl i l) (a.no i l)).trans (a.each i l).1),(a.each i l).2⟩,zE D λk _ _ b=>e k λd=>p.2.1 (by rw[b,d]),zE (OwnI.snoc v) λk _ _ b=>e k λd=>?_,a.inj,a.nr,λi l d=>?_,zCI (qL a.rOwn (λg f e=>a.ro g e.symm f.symm) s),a.mH,a.keep.trans ⟨f.os,f.output,by rw[zD];exact A,λk b _=>(e k (by have:=a.mH;omega)).trans (r k (by have:=a.keep.size;omega) λd=>by have:=(a.oOwn.lt k d.symm).1;omega)⟩⟩,λk c t b E L F=>?_⟩
 ·have:g=k:=by simpa[Value.ownBlock] using b
  omega
 ·have G:gs i=g:=by simpa[Value.ownBlock] using d
  rcases s with q|q
  ·exact a.no i l (by rw[q,G])
  ·have:=a.gl i l;omega
 ·have H:=(kQ.1 b).1
  have I:k≠mb:=λd=>by
   rw[d,a.blk] at b;injection b with b;injection b with _ b;exact F b.symm
  exact(e k I).trans ((r k H (zO a.oOwn b (Ne.symm E))).trans b)
theorem Mw.fill (a:Mw w0 w mb kb most m nv rv ov gs):Mw w0 (w.setCell ⟨mb,2,none⟩ (bool true)) mb kb most {m with full:=true} nv rv ov gs/\StayT w (w.setCell ⟨mb,2,none⟩ (bool true)):=by
 have f:=a.box;have e:∀k,k≠mb->(w.setCell ⟨mb,2,none⟩ tX).heap[k]? =w.heap[k]? :=λk b=>lJ _ _ _ _ b;refine⟨⟨by simp[setCell,lU,a.blk],zE a.nOwn λk _ _ b=>e k λd=>f.1 (by rw[b,d]),λi g=>⟨(e _ (f.2.2.2 i g)).trans (a.each i g).1,(a.each i g).2⟩,zE a.rOwn λk _ _ b=>e k λd=>f.2.1 (by rw[b,d]),zE a.oOwn λk _ _ b=>e k λd=>f.2.2.1 (by rw[b,d]),a.inj,a.nr,a.no,a.ro,a.mH,a.keep.trans (zQ _ _ _ _ a.mH)⟩,λk c t b l o j=>(e k λd=>?_).trans b⟩;rw[d,a.blk] at b;injection b with b;injection b with _ b;exact j b.symm
end
end
section
attribute [local go_sem ↓] Go.wp_at_zero Go.wp_at_succ
def Mk.addN (m:Mk)(most:Nat):Nat:=if most<=m.next.length then 0 else m.next.length
def Mk.add (m:Mk)(most:Nat)(rule:Int):Mk:=if most<=m.next.length then{m with full:=true} else{m with next:=m.next++[zeros],rules:=m.rules++[rule]}
theorem MwIs.grown {b w w2:World}{c kb most:Nat}{m:Mk}(a:MwIs b w c kb most m)(d:Grew w w2):MwIs b w2 c kb most m:=by
 obtain⟨e,rv,f,g,a⟩:=a;exact⟨e,rv,f,g,a.grown d⟩
theorem zER (w0 w:World)(mb kb most:Nat)(m:Mk)(h:MwIs w0 w mb kb most m)(hmost:most<=1000000)(hr:m.rules.length<=1000000)(rule:Int):
  Calls prog 133 #[pX mb,iX rule] w λe w'=>e=returned (iX ((m.addN most:Nat):Int))/\MwIs w0 w' mb kb most (m.add most rule)/\StayT w w':=by
 obtain⟨i0,hi0,hz0,hz1,hz2⟩:=info_parts yW;obtain⟨ii1,hi1,hy0,hy1,hy2⟩:=info_parts zF2;obtain⟨nv,rv,ov,gs,h⟩:=h;obtain⟨an,cn,hnv⟩:=zF h.nOwn;obtain⟨ar,cr,hrv⟩:=h.rOwn.form;subst hnv hrv;obtain⟨x0,x1,x2,x3,x4,x6,xf⟩:=h.cells;have xf2:=xf 2;have xf3:=xf 3;have HM:=vl h;have hlt:=h.lt;by_cases hc:most<=m.next.length
 ·have HZ:Hid (m.addN most=0/\m.add most rule={m with full:=true}):=⟨by unfold Mk.addN;rw[if_pos hc],by unfold Mk.add;rw[if_pos hc]⟩
  have i1:(m.next.length:Int)>=(most:Int):=by omega
  go_in;go_wp2;go_quiet (fail);have HM2:=vl <| HM.grown (Keep.alike (w':=w.drewN nq) ⟨rfl,rfl,rfl⟩);go_wp2;go_ret;refine⟨by rw[HZ.out.1];rfl,by rw[HZ.out.2];exact⟨_,_,_,_,HM2.fill.1⟩,?_⟩;exact StayT.trans (Keep.stayT (Keep.alike (w':=w.drewN nq) ⟨rfl,rfl,rfl⟩)) HM2.fill.2
 ·have HZ:Hid (m.addN most=m.next.length/\m.add most rule={m with next:=m.next++[zeros],rules:=m.rules++[rule]}):=⟨by unfold Mk.addN;rw[if_neg hc],by unfold Mk.add;rw[if_neg hc]⟩
  have i1:¬((m.next.length:Int)>=(most:Int)):=by omega
  have hnl:m.next.length<=1000000:=by omega
  go_in;go_wp2;go_quiet (fail);have HM2:Hid (Mw w0 (w.drewN nq) mb kb most m (slice an m.next.length cn) (slice ar m.rules.length cr) ov gs/\StayT w (w.drewN nq)):=⟨HM.grown (Keep.alike (w':=w.drewN nq) ⟨rfl,rfl,rfl⟩),Keep.stayT (Keep.alike (w':=w.drewN nq) ⟨rfl,rfl,rfl⟩)⟩
  generalize w.drewN nq=w3 at *;obtain⟨x0,x1,x2,x3,x4,x6,xf⟩:=HM2.1.cells;have xf3:=xf 3;have hlt:=HM2.1.lt;go_wp2;obtain⟨w4,hmk,ho4,hg4⟩:=run_makeSlice_full (P:=prog) w3.drew w3.heap.size 45 3 i0 _ 1 underlying45 hi0 hz0 hz1 i64 i64 256 (by omega) (by rw[hz2];omega) (by unfold maxLen;omega) lQ;have HK4:Hid (Grew w3 w4/\w4.heap[w3.heap.size]? =some (.cells (zDy zeros) 3)):=by
   refine⟨⟨hg4.os,hg4.output,hg4.size,λk hk _=>hg4.block k hk (by simp)⟩,?_⟩;have h:=ho4;rw[Nat.mul_one,zAy _ rfl] at h;exact zNZ h
  have HM4:=vl <| HM2.1.grown HK4.1;have x3a:=HM4.cells.2.2.2.1;have xf3a:=HM4.cells.2.2.2.2.2.2 3;have hlt4:=HM4.lt;have HNP:=vl HM4.box.1;have hH4:=HM4.keep.size;have OW:=HM4.nOwn;have hmk2:Sem.run prog (Instr.makeSlice 45 (iX 256) (iX 256)) w3.drew=.ok (slice (qX w3.heap.size) 256 256) w4:=hmk;go_region_law ((first
   |(refine step_append_lies _ (by rfl) (.tmp 24) (.tmp 26) 88 (by rfl) w0.heap.size 45 ii1 _ 1 24 underlying88 hi1 hy0 hy1 hy2 rfl (by decide) (slice an m.next.length cn) m.next.length ((List.range m.next.length).map λi=>slice (some ⟨gs i,0,none⟩) 256 256) (by simp[Act.eval,Act.put]) (OW.alloc _) ⟨w4.heap.size,0,none⟩ 1 1 [slice (qX w3.heap.size) 256 256] (by simp[Act.eval,Act.put]) (by rfl) (news_of_block (cs:=#[slice (qX w3.heap.size) 256 256]) (t:=45) (fr:=(0,0)) (gY w4 _)) (by simp[Value.oneCell']) (by decide) (by unfold maxLen;omega) (by omega) (by simp;omega) (w4.heap.size+1) (by simp) ?_;intro gg cap w5 hown hgrow hat hlt5;have hPB:=hgrow.block mb (by simp;omega) HNP;have x3b:cX w5 mb 3=some (slice an m.next.length cn):=(gW hPB).trans ((gU _ _ _ hlt4).trans x3a);have xf3b:w5.frozen? ⟨mb,3,none⟩=false:=(gV hPB).trans ((frozen?_alloc_past _ _ _ hlt4).trans xf3a))))
  all_goals
   have HM6:Hid (Mw w0 (w5.setCell ⟨mb,3,none⟩ (slice (qX gg) (m.next.length+1) cap)) mb kb most {m with next:=m.next++[zeros]} (slice (qX gg) (m.next.length+1) cap) (slice ar m.rules.length cr) ov (λi=>if i=m.next.length then w3.heap.size else gs i)/\StayT w (w5.setCell ⟨mb,3,none⟩ (slice (qX gg) (m.next.length+1) cap))):=by
    have h:=HM2.1.newRow rfl HK4.1 HK4.2 hown hgrow (by
     rcases hat with ha|ha
     ·exact .inl ha
     ·right;rw[ha];omega)
    exact⟨h.1,HM2.2.trans h.2⟩
   generalize w5.setCell ⟨mb,3,none⟩ (slice (qX gg) (m.next.length+1) cap)=w6 at *;have v3:=HM6.1.cells.2.2.2.1;have v4:=HM6.1.cells.2.2.2.2.1;have hl6:=HM6.1.lt;have hH6:w0.heap.size<=w6.heap.size:=HM6.1.keep.size;have OR:w6.ownsRow w0.heap.size 3 1 (slice ar m.rules.length cr) m.rules.length (m.rules.map λx=>iX x):=HM6.1.rOwn;go_wp2_with (first|(at_builtin;refine wpList_append_lies _ rfl _ _ 45 rfl (w0.heap.size) 3 i0 zX 1 8 underlying45 hi0 hz0 hz1 hz2 rfl (by decide) _ _ _ rfl (OR.alloc _) ⟨w6.heap.size,0,none⟩ 1 1 [iX rule] rfl rfl (cell_one_new _ _ _) (by intro u hu;simp at hu;subst hu;rfl) (by decide) (by unfold maxLen;omega) (by omega) (by simp;omega) _ rfl ?_;intro g2 cap2 w7 hown2 hgrow2 hat2 hlt7;have hPB2:w7.heap[mb]? =w6.heap[mb]? :=(hgrow2.block _ (by simp;omega) HM6.1.box.2.1).trans (lG _ _ _ (by omega));have t4:cX w7 mb 4=some (slice ar m.rules.length cr):=(gW hPB2).trans v4;have g4:w7.frozen? ⟨mb,4,none⟩=false:=(gV hPB2).trans (HM6.1.cells.2.2.2.2.2.2 4);have HM8:=vl <| HM6.1.newRule rfl hown2 hgrow2 (by rcases hat2 with ha|ha;exact .inl ha;right;rw[ha];simp);have t3:=HM8.1.cells.2.2.2.1))
   go_ret;refine⟨?_,by rw[HZ.out.2];exact⟨_,_,_,_,HM8.1⟩,HM6.2.trans HM8.2⟩;rw[HZ.out.1]
   first|rfl|(simp;done)|(show _=_;congr 2;omega)
end
def Mk.put (m:Mk)(s b:Nat)(x:Int):Mk:={m with next:=m.next.set s ((m.next.getD s []).set b x)}
theorem zKO (f w:World)(c kb most:Nat)(m:Mk)(a:MwIs f w c kb most m)(kind b s:Nat)(j:kind<m.of.length)(k:m.of.getD kind 0=(s:Int))(d:s<m.next.length)(l:b<256)(x:Int):
  Calls prog 135 #[pX c,iX (kind:Int),iX (b:Int),iX x] w λe w'=>e=rX/\MwIs f w' c kb most (m.put s b x)/\StayT w w':=by
 obtain⟨t,rv,u,v,a⟩:=a;have ⟨ao,y,o⟩:=a.oOwn.form;subst o;obtain⟨go,rfl⟩:=a.oOwn.some (by omega);have ⟨z,A,p,_,_,_,_,q,_⟩:=a.nOwn.get (by omega);subst p;have ⟨B,C,D,E,F,G,H⟩:=a.cells;have c1:=a.oOwn.cell kind j;rw[k] at c1;have c2:=q s d;have ⟨I,J⟩:=a.row s b d l;have r:=a.put s b d x;have g:=vl r;have K:(kind:Int)<(m.of.length:Int):=by omega
 have L:(s:Int)<(m.next.length:Int):=by omega
 have M:(b:Int)<256:=by omega
 generalize (m.next.getD s []).getD b 0=old at *;go_in;go_wp2;go_region;go_wp2;go_end0;exact⟨rfl,⟨_,_,_,_,g.1.grown (Keep.drew _)⟩,g.2.trans (Keep.stayT (Keep.drew _))⟩
structure Kd.Ok (k:Kd)(a:Ar):Prop where
 lows:0<a.lows.length
 few:a.lows.length<=1000000000000
 good:a.Good 24
 lens:k.rules.length=k.rows.length
 wide:∀i,i<k.rows.length->(k.rows.getD i []).length=a.sets.length
 in_:∀i l,i<k.rows.length->l<a.sets.length->(k.rows.getD i []).getD l 0<k.rows.length
 start:k.start<k.rows.length
theorem zNh (lows:List Int)(n:Int)(a:0<lows.length):jC lows n lows.length 0 lows.length<lows.length:=zJX _ _ _ _ _ a
theorem Kd.Ok.letter {k:Kd}{a:Ar}(b:k.Ok a)(c:Int):∃l:Nat,a.letter c=(l:Int)/\l<a.sets.length:=by
 have d:a.area c<a.letters.length:=by
  rw[<-b.good.lens];exact zNh a.lows c b.lows
 have e:=b.good.letters _ (zV a.letters (a.area c) 0 d);refine⟨(a.letters.getD (a.area c) 0).toNat,?_,by omega⟩;show a.letters.getD (a.area c) 0=_;omega
def Mk.behind (m:Mk)(k:Kd)(a:Ar)(kind:Nat)(c:Int):Int:=m.of.getD ((k.rows.getD kind []).getD (a.letter c).toNat 0) 0
theorem KdAt.grown {w w2:World}{kb:Nat}{a:Ar}{k:Kd}(d:KdAt w kb a k)(b:Grew w w2):KdAt w2 kb a k:=by
 obtain⟨c,lv,tv,sv,e,rv,f,g,j,l⟩:=d;exact⟨lZ c b.size,lv,tv,sv,e,rv,(b.block kb c (kJ c)).trans f,g.grown b,j.grown b,l.grown b⟩
theorem zCq (r w:World)(f kb most:Nat)(m:Mk)(d:MwIs r w f kb most m)(k:Kd)(a:Ar)(E:KdAt r kb a k)(ok:k.Ok a)(kind:Nat)(o:kind<k.rows.length)(F:m.of.length=k.rows.length)(c:Int):
  Calls prog 134 #[pX f,iX (kind:Int),iX c] w λe w'=>e=returned (iX (m.behind k a kind c))/\Grew w w':=by
 obtain⟨af,rv,ag,ah,d⟩:=d;have hK2:=E.grown d.keep;obtain⟨G,lv,tv,sv,ai,aj,g,j,H,ak⟩:=hK2;obtain⟨I,J,K,-⟩:=id j.lows;obtain⟨at_,L,M,-⟩:=id j.letters;obtain⟨as_,cs,has,-⟩:=id j.sets;have s:=vl <| zH7 w lv tv sv a j ok.few ok.lows ok.good.lens.symm c;have ⟨l,t,u⟩:=ok.letter c;have N:Hid (m.behind k a kind c=m.of.getD ((k.rows.getD kind []).getD l 0) 0):=by
  show m.of.getD ((k.rows.getD kind []).getD (a.letter c).toNat 0) 0=_;rw[t];rfl
 rw[t] at s;have am:=ok.in_ kind l o u;have ⟨p,on,v,x,O,_,_,P⟩:=H.block (by rw[kV];omega);have ⟨an,R,A⟩:=P kind (by rw[kV];exact o);have S:(k.rows.map ints).getD kind []=ints (k.rows.getD kind []):=by
  rw[lW,lW,gZ];cases k.rows[kind]? <;> rfl
 rw[S] at A;have q:=ok.wide kind o;have ⟨B,or_,T,C,U,_,_,V⟩:=A.block (by rw[zP,q];omega);have D:=V l (by rw[zP,q];exact u);rw[vY] at D;rw[zP,q] at C;rw[kV] at x;subst K M has x C;have ⟨ao,W,X⟩:=d.oOwn.form;subst X;obtain⟨go,rfl⟩:=d.oOwn.some (by omega);have ⟨Y,ap,aq,ar,au,aa,av⟩:=d.cells;have c1:=d.oOwn.cell _ (show (k.rows.getD kind []).getD l 0<m.of.length by omega);have ab:=(d.oOwn.lt go rfl).2;have aw:w.cell? ⟨kb,0,none⟩=some (slice I a.lows.length J):=by unfold cell?;rw[g];rfl
 have ax:w.cell? ⟨kb,1,none⟩=some (slice at_ a.letters.length L):=by unfold cell?;rw[g];rfl
 have ay:w.cell? ⟨kb,2,none⟩=some (slice as_ a.sets.length cs):=by unfold cell?;rw[g];rfl
 have ac:w.cell? ⟨kb,3,none⟩=some (slice (some ⟨p,on,none⟩) k.rows.length v):=by unfold cell?;rw[g];rfl
 have ad:Hid (∀w2,Grew w w2->w2.cell? ⟨f,6,none⟩=some (slice (qX go) m.of.length W)/\w2.cell? ⟨f,0,none⟩=some (pX kb)/\w2.cell? ⟨kb,3,none⟩=some (slice (some ⟨p,on,none⟩) k.rows.length v)/\w2.cell? ⟨p,on+kind,none⟩=some (slice (some ⟨B,or_,none⟩) a.sets.length T)/\w2.cell? ⟨B,or_+l,none⟩=some (iX (((k.rows.getD kind []).getD l 0:Nat):Int))/\w2.cell? ⟨go,(k.rows.getD kind []).getD l 0,none⟩=some (iX (m.of.getD ((k.rows.getD kind []).getD l 0) 0))):=λw2 b=>⟨zA aa d.lt b,zA Y d.lt b,zA ac G b,zA R O b,zA D U b,zA c1 ab b⟩
 have az:(kind:Int)<(k.rows.length:Int):=by omega
 have aA:(l:Int)<(a.sets.length:Int):=by omega
 have aB:(((k.rows.getD kind []).getD l 0:Nat):Int)<(m.of.length:Int):=by omega
 have aC:=F;generalize (k.rows.getD kind []).getD l 0=ae at *;generalize m.of.getD ae 0=y at *;go_in;go_wp2_with (go_at_call 175;refine s.mono ?_;rintro e w2 ⟨rfl,b⟩;have ⟨v0,v1,v2,aD,aE,aF⟩:=ad w2 b)
 go_quiet (fail);go_wp2;go_ret;exact⟨by rw[N.out];rfl,b.trans (Keep.lower (Keep.alike (w':=w2.drewN nq) ⟨rfl,rfl,rfl⟩) b.size b.size)⟩
def nz (f:Nat->Int):Bool:=(List.range 64).all λi=>f i==0
theorem zHD:a64 (λ_=>0)=(#[zX,zX,zX,zX,zX,zX,zX,zX,zX,zX,zX,zX,zX,zX,zX,zX,zX,zX,zX,zX,zX,zX,zX,zX,zX,zX,zX,zX,zX,zX,zX,zX,zX,zX,zX,zX,zX,zX,zX,zX,zX,zX,zX,zX,zX,zX,zX,zX,zX,zX,zX,zX,zX,zX,zX,zX,zX,zX,zX,zX,zX,zX,zX,zX]:Array Value):=rfl
theorem zLI (w:World)(a:Nat)(f g:Nat->Int):∀is:List Nat,(∀i∈is,i<64)->(Op.eqItems (a+1) 3 (prog.cellsOf 3) (a64 f) (a64 g) is).run prog w=.ok (is.all λi=>f i==g i) w
 |[],_=>rfl
 |i::is,b=>by
  have c:=b i (gQ);have m:prog.cellsOf 3=1:=by kernel_rfl
  have k:prog.plainKey 3=true:=by kernel_rfl
  have o:=run_part_plain (P:=prog) w (e:=3) k (xs:=a64 f) (off:=i*1) (v:=iX (f i)) (by rw[Nat.mul_one];exact zAi f i c);have p:=run_part_plain (P:=prog) w (e:=3) k (xs:=a64 g) (off:=i*1) (v:=iX (g i)) (by rw[Nat.mul_one];exact zAi g i c);have l:=zLI w a f g is λj q=>b j (List.mem_cons_of_mem _ q);have r:=run_equalIn_int (P:=prog) w a 3 i64 i64 (f i) (g i) underlying3;rw[m] at l ⊢;simp only[Op.eqItems,Sem.run_bind,o,p,r,Result.andThen_ok,List.all_cons];cases f i==g i
  ·rfl
  ·simpa using l
theorem zPx (w:World)(f:Nat->Int):(Op.equalIn 10000 246 (agg (a64 f)) (agg (#[zX,zX,zX,zX,zX,zX,zX,zX,zX,zX,zX,zX,zX,zX,zX,zX,zX,zX,zX,zX,zX,zX,zX,zX,zX,zX,zX,zX,zX,zX,zX,zX,zX,zX,zX,zX,zX,zX,zX,zX,zX,zX,zX,zX,zX,zX,zX,zX,zX,zX,zX,zX,zX,zX,zX,zX,zX,zX,zX,zX,zX,zX,zX,zX]:Array Value))).run prog w=.ok (nz f) w:=by
 obtain⟨c,a,-⟩:=info_parts yW;rw[<-zHD,run_equalIn_array (P:=prog) w 9999 (a64 f) (a64 λ_=>0) underlying246 a];exact zLI w 9998 f (λ_=>0) (List.range 64) λi b=>List.mem_range.1 b
section
def Mk.fillTo (m:Mk)(s:Nat)(f:Nat->Int):Nat->Mk
 |0=>m
 |j+1=>(m.fillTo s f j).put s (128+j) (f j)
theorem zDA (m:Mk)(s b:Nat)(x:Int):(m.put s b x).next.length=m.next.length:=List.length_set ..
theorem zBL (m:Mk)(s:Nat)(f:Nat->Int)(j:Nat):(m.fillTo s f j).next.length=m.next.length:=by
 induction j with
 |zero=>rfl
 |succ j a=>rw[Mk.fillTo,zDA,a]
def Mk.seek (m:Mk)(f:Nat->Int):Nat:=m.next.findIdx λrow=>qP row f
def Mk.withN (m:Mk)(most:Nat)(f:Nat->Int):Nat:=if nz f=true then 0 else if m.seek f<m.next.length then m.seek f else m.addN most
def Mk.withM (m:Mk)(most:Nat)(f:Nat->Int):Mk:=if nz f=true then m else if m.seek f<m.next.length then m else if m.addN most=0 then m.add most (-1) else(m.add most (-1)).fillTo (m.addN most) f 64
theorem zO0 (l:List (List Int))(f:Nat->Int)(j:Nat)(a:j<l.length)(b:qP (l.getD j []) f=true)(c:∀i,i<j->qP (l.getD i []) f=false):l.findIdx (λrow=>qP row f)=j:=by
 rw[List.findIdx_eq a];rw[lW,lV a] at b;refine⟨b,λi d=>?_⟩;have:=c i d;rw[lW,lV (by omega)] at this;exact this
theorem zMj (l:List (List Int))(f:Nat->Int)(b:∀i,i<l.length->qP (l.getD i []) f=false):l.findIdx (λrow=>qP row f)=l.length:=by
 rw[List.findIdx_eq_length];intro y c;obtain⟨i,a,rfl⟩:=List.getElem_of_mem c;have:=b i a;rw[lW,lV a] at this;exact this
section
variable {w0 w w2:World} {mb kb most:Nat} {m:Mk} {nv rv ov:Value} {gs:Nat->Nat}
theorem Mw.rowInts (a:Mw w0 w mb kb most m nv rv ov gs)(i:Nat)(c:i<m.next.length):Ints w (In w) (slice (some ⟨gs i,0,none⟩) 256 256) (m.next.getD i []):=by
 have d:=(a.each i c).2.2;exact⟨_,256,by rw[d],by rw[d];exact lQ,by unfold maxLen;omega,λb e=>⟨gs i,0,rfl,a.gl i c,by rw[Nat.zero_add];exact(a.row i b c (by omega)).1⟩⟩
theorem Mw.rows (c:Mw w0 w mb kb most m nv rv ov gs):∃a b,nv=slice a m.next.length b/\w.cell? ⟨mb,3,none⟩=some (slice a m.next.length b)/\∀i,i<m.next.length->∃g,a=some ⟨g,0,none⟩/\g<w.heap.size/\w.cell? ⟨g,i,none⟩=some (slice (some ⟨gs i,0,none⟩) 256 256):=by
 have ⟨a,b,d⟩:=zF c.nOwn;refine⟨a,b,d,by rw[<-d];exact c.cells.2.2.2.1,λi f=>?_⟩;have ⟨g,o,e,_,j,_,_,k,_⟩:=c.nOwn.get (by omega);rw[d] at e;injection e with l _ _;exact⟨g,l,j,k i f⟩
end
theorem zFh (w0 w:World)(mb kb most:Nat)(m:Mk)(a:MwIs w0 w mb kb most m)(aE:most<=1000000)(S:m.rules.length<=1000000)(aX:m.next.length<=1000000)(f:Nat->Int):
  Calls prog 179 #[pX mb,agg (a64 f)] w λe w'=>e=returned (iX ((m.withN most f:Nat):Int))/\MwIs w0 w' mb kb most (m.withM most f)/\StayT w w':=by
 have u:=vl <| zLG f;have I:Hid (∀wr:World,wr.heap[w.heap.size]? =some (.cells (a64 f) 246)->wr.rangeAt w.heap.size 0 (a64 f).toList):=λwr aF=>zE8 wr w.heap.size f aF;have x:Hid ((w.alloc (.cells (a64 f) 246)).heap[w.heap.size]? =some (.cells (a64 f) 246)):=gY _ _;have J:=zPx (w.alloc (.cells (a64 f) 246)) f;have z:Hid (Grew w (w.alloc (.cells (a64 f) 246))):=kZ _ _ lQ;have T:Hid (MwIs w0 (w.alloc (.cells (a64 f) 246)) mb kb most m):=a.grown z;have aG:Hid (∀(wr:World) v row,Ints wr (In wr) v row->row.length=256->Ca 186 #[v,agg (a64 f)] wr λe w'=>e=returned (bool (qP row f))/\Grew wr w'):=λwr v row aH S=>zGI wr v row aH S f;have aI:Hid (∀w i,i<64->Sem.run prog (Instr.index 246 (agg (a64 f)) (iX ((i:Nat):Int))) w=.ok (iX (f i)) w):=λw i=>zLJ w f i;have aJ:Hid (∀i,i<64->(a64 f)[i]? =some (iX (f i))):=zAi f;have aK:Hid (∀j,j<m.next.length->qP (m.next.getD j []) f=true->(∀i,i<j->qP (m.next.getD i []) f=false)->m.seek f=j):=λj ak a aL=>zO0 m.next f j ak a aL
 have aM:Hid ((∀i,i<m.next.length->qP (m.next.getD i []) f=false)->m.seek f=m.next.length):=λa=>zMj m.next f a
 have U:Hid (m.withN most f=if nz f=true then 0 else if m.seek f<m.next.length then m.seek f else m.addN most):=rfl;have V:Hid (m.withM most f=if nz f=true then m else if m.seek f<m.next.length then m else if m.addN most=0 then m.add most (-1) else(m.add most (-1)).fillTo (m.addN most) f 64):=rfl;clear a;generalize a64 f=b at *;obtain⟨w1,B⟩:∃w1,w1=w.alloc (.cells b 246):=⟨_,rfl⟩
 rw[<-B] at x J z T;cases c:nz f with
 |true=>
  rw[c] at J;have C:Hid (m.withN most f=0/\m.withM most f=m):=⟨by rw[U.out,if_pos c],by rw[V.out,if_pos c]⟩
  clear c;have W:Hid (w1.rangeAt w.heap.size 0 b.toList):=I w1 x;go_in;apply wp_cut;intro aN D;go_wp2;apply D.out;clear D;rw[<-B];clear B;go_wp2_with (refine wpList_load_mid rfl 246 (.tmp 3) rfl w.heap.size 0 rfl b.toList (.array 64 3) W underlying246 rfl u ?_)
  go_ret;exact⟨by rw[C.out.1];rfl,by rw[C.out.2];exact T,z.stayT⟩
 |false=>
  rw[c] at J;have X:Hid (m.withN most f=if m.seek f<m.next.length then m.seek f else m.addN most):=by show _=_;rw[U.out,if_neg (by rw[c];decide)]
  have Y:Hid (m.withM most f=if m.seek f<m.next.length then m else if m.addN most=0 then m.add most (-1) else(m.add most (-1)).fillTo (m.addN most) f 64):=by show _=_;rw[V.out,if_neg (by rw[c];decide)]
  clear c U V;have W:Hid (w1.rangeAt w.heap.size 0 b.toList):=I w1 x;have ⟨nv,rv,ov,gs,aa⟩:=T.out;have ⟨aO,aY,aZ,aP,al⟩:=aa.rows;have E:Hid (Mw w0 w1 mb kb most m nv rv ov gs):=aa;have am:Hid (∀i,i<m.next.length->∃g,aO=some ⟨g,0,none⟩/\g<w1.heap.size/\cX w1 g i=some (slice (some ⟨gs i,0,none⟩) 256 256)):=al;clear aa al;go_in;apply wp_cut;intro aN D;go_wp2;apply D.out;clear D;rw[<-B];clear B;go_wp2_with (refine wpList_load_mid rfl 246 (.tmp 3) rfl w.heap.size 0 rfl b.toList (.array 64 3) W underlying246 rfl u ?_)
  clear J;go_loopg [19] m.next.length (λk i wr=>∃j:Nat,k=m.next.length-j/\j<=m.next.length/\i=iX (j:Int)/\(∀i,i<j->qP (m.next.getD i []) f=false)/\Grew w1 wr)
  case atStart=>exact⟨0,rfl,lX,rfl,λi ao=>by omega,⟨rfl,rfl,lQ,λ_ _ _=>rfl⟩⟩
  case round=>
   obtain⟨j,l,ak,rfl,K,d⟩:=hrel;have F:Hid (gk=m.next.length-j/\(∀i,i<j->qP (m.next.getD i []) f=false)/\Grew w1 wr):=⟨l,K,d⟩
   have ap:w.heap.size<w1.heap.size:=(kQ.1 x).1;have aq:Hid (wr.heap[w.heap.size]? =some (.cells b 246)):=(d.block _ ap (kJ ap)).trans x;have ar:Hid (wr.rangeAt w.heap.size 0 b.toList):=I wr aq;by_cases p:j<m.next.length
   ·have aQ:(j:Int)<(m.next.length:Int):=by omega
    obtain⟨g,rfl,aR,au⟩:=am j p;have a0:=zA au aR d;have M:Hid (Ca 186 #[slice (some ⟨gs j,0,none⟩) 256 256,agg b] wr λe w'=>e=returned (bool (qP (m.next.getD j []) f))/\Grew wr w'):=aG wr _ _ ((E.grown d).rowInts j p) (E.each j p).2.2;have aS:Hid (qP (m.next.getD j []) f=true->m.seek f=j):=λa=>aK j p a F.2.1;have G:Hid (qP (m.next.getD j []) f=false->∀i,i<j+1->qP (m.next.getD i []) f=false):=λa i ao=>by
     by_cases e:i=j
     ·rw[e];exact a
     ·exact F.2.1 i (by omega)
    clear l K d au;cases q:qP (m.next.getD j []) f with
    |true=>
     rw[q] at M;have ab:=aS q;have C:Hid (m.withN most f=j/\m.withM most f=m):=⟨by rw[X.out,ab,if_pos p],by rw[Y.out,ab,if_pos p]⟩
     clear q ab;go_wp2_with (first|(refine wpList_load_mid rfl 246 (.tmp 3) rfl w.heap.size 0 rfl b.toList (.array 64 3) ar underlying246 rfl u ?_)|(go_at_call 186;refine M.mono ?_;rintro e o ⟨rfl,ac⟩))
     go_ret;have av:=F.2.2.th ac;exact⟨by rw[C.out.1];rfl,by rw[C.out.2];exact⟨_,_,_,_,E.grown av⟩,StayT.trans z.stayT av.stayT⟩
    |false=>
     rw[q] at M;have aT:Hid (∀i,i<j+1->qP (m.next.getD i []) f=false):=G q;clear q;go_wp2_with (first|(refine wpList_load_mid rfl 246 (.tmp 3) rfl w.heap.size 0 rfl b.toList (.array 64 3) ar underlying246 rfl u ?_)|(go_at_call 186;refine M.mono ?_;rintro e o ⟨rfl,ac⟩))
     go_roundg (m.next.length-(j+1))
     case measure=>rw[F.out.1];omega
     case rel=>exact⟨j+1,rfl,by omega,by go_num,aT,F.2.2.th ac⟩
   ·have aQ:(m.next.length:Int)<=(j:Int):=by omega
    have ad:m.seek f=m.next.length:=aM λi ao=>K i (by omega)
    have G:Hid (m.withN most f=m.addN most):=by show _=_;rw[X.out,ad,if_neg (Nat.lt_irrefl _)]
    have N:Hid (m.withM most f=if m.addN most=0 then m.add most (-1) else(m.add most (-1)).fillTo (m.addN most) f 64):=by show _=_;rw[Y.out,ad,if_neg (Nat.lt_irrefl _)]
    have ae:Hid (Ca 133 #[pX mb,iX (-1)] wr λe w'=>e=returned (iX ((m.addN most:Nat):Int))/\MwIs w0 w' mb kb most (m.add most (-1))/\StayT wr w'):=zER w0 wr mb kb most m ⟨_,_,_,_,E.grown d⟩ aE S (-1);have aw:Hid (StayT w wr):=StayT.trans z.stayT d.stayT;have af:Hid (m.addN most≠0->m.addN most<(m.add most (-1)).next.length):=λa=>by
     unfold Mk.addN at a ⊢;unfold Mk.add;by_cases e:most<=m.next.length
     ·rw[if_pos e] at a;exact absurd rfl a
     ·rw[if_neg e,if_neg e];show _<(m.next++[zeros]).length;simp
    clear l K d ad X Y E am aP;by_cases r:m.addN most=0
    ·rw[r] at ae G
     have ag:Hid (m.withM most f=m.add most (-1)):=by show _=_;rw[N.out,if_pos r]
     clear N af r;go_wp2_with (go_at_call 133;refine ae.mono ?_;rintro e o ⟨rfl,O,H⟩)
     go_ret;exact⟨by rw[G.out];rfl,by rw[ag.out];exact O,aw.trans H⟩
    ·have a1:=af r
     have ag:Hid (m.withM most f=(m.add most (-1)).fillTo (m.addN most) f 64):=by show _=_;rw[N.out,if_neg r]
     have a2:(((m.addN most:Nat):Int)==0)=false:=by rw[hX];omega
     clear N af r;generalize m.add most (-1)=m2 at *;generalize m.addN most=s at *;go_wp2_with (first|(go_at_call 133;refine ae.mono ?_;rintro e o ⟨rfl,O,H⟩;have ax:o.heap[w.heap.size]? =some (.cells b 246):=H _ _ _ aq (by decide) (by decide) (by decide);have ay:=I o ax)|(refine wpList_load_mid rfl 246 (.tmp 3) rfl w.heap.size 0 rfl b.toList (.array 64 3) ay underlying246 rfl u ?_))
     have az:Hid (MwIs w0 o mb kb most m2/\StayT w o):=⟨O,aw.trans H⟩
     clear O H ax ay;go_loopg [34] 64 (λk i wr=>∃j:Nat,k=64-j/\j<=64/\i=iX (j:Int)/\MwIs w0 wr mb kb most (m2.fillTo s f j)/\StayT w wr)
     case atStart=>exact⟨0,rfl,lX,rfl,az.1,az.2⟩
     case round=>
      obtain⟨t,l,a3,rfl,ah,P⟩:=hrel;have ai:Hid (gk=64-t/\MwIs w0 wr mb kb most (m2.fillTo s f t)/\StayT w wr):=⟨l,ah,P⟩
      by_cases aA:t<64
      ·have aU:(t:Int)<64:=by omega
       have a4:(128:Int)+(t:Int)<256:=by omega
       obtain⟨a5,a6,a7,aB,R⟩:=ah;have aV:=zBL m2 s f t;have ⟨a8,a9,aW,ba,aC⟩:=R.rows;obtain⟨bb,rfl,_,bc⟩:=aC s (by omega);have ⟨bd,be⟩:=R.row s (128+t) (by omega) (by omega);have aj:=R.put s (128+t) (by omega) (f t);have aD:Hid (MwIs w0 (wr.setCell ⟨aB s,128+t,none⟩ (iX (f t))) mb kb most (m2.fillTo s f (t+1))/\StayT w (wr.setCell ⟨aB s,128+t,none⟩ (iX (f t)))):=⟨⟨_,_,_,_,aj.1⟩,P.trans aj.2⟩
       have bf:=aI wr t aA;have bg:=aJ t aA;have bh:(s:Int)<((m2.fillTo s f t).next.length:Int):=by omega
       clear l P R aj aW aC aV;generalize (m2.fillTo s f t).next.length=bi at *
       generalize ((m2.fillTo s f t).next.getD s []).getD (128+t) 0=old at *;generalize f t=y at *;go_wp2;go_roundg (64-(t+1))
       case measure=>rw[ai.out.1];omega
       case rel=>exact⟨t+1,rfl,by omega,by go_num,aD.1,aD.2⟩
      ·have aU:(64:Int)<=(t:Int):=by omega
       have e:t=64:=by omega
       subst e;clear l ah P;go_wp2;go_ret;exact⟨by rw[G.out];rfl,by rw[ag.out];exact ai.2.1,ai.2.2⟩
end
section
structure Mk.Fit (m:Mk)(most:Nat):Prop where
 same:m.rules.length=m.next.length
 few:m.next.length<=most
theorem zFd {m:Mk}{most:Nat}(a:m.Fit most)(r:Int):(m.add most r).Fit most:=by
 unfold Mk.add;by_cases e:most<=m.next.length
 ·rw[if_pos e];exact⟨a.same,a.few⟩
 ·rw[if_neg e]
  have:=a.same;exact⟨by simp[this],by simp;omega⟩
theorem zLw {m:Mk}{most:Nat}(a:m.Fit most)(s b:Nat)(x:Int):(m.put s b x).Fit most:=⟨by rw[zDA];exact a.same,by rw[zDA];exact a.few⟩
theorem zK1 {m:Mk}{most:Nat}(a:m.Fit most)(s:Nat)(f:Nat->Int)(j:Nat):(m.fillTo s f j).Fit most:=by
 induction j with
 |zero=>exact a
 |succ j c=>exact zLw c _ _ _
theorem zFg {m:Mk}{most:Nat}(a:m.Fit most)(f:Nat->Int):(m.withM most f).Fit most:=by
 unfold Mk.withM;split
 ·exact a
 ·split
  ·exact a
  ·split
   ·exact zFd a _
   ·exact zK1 (zFd a _) _ _ _
theorem zMU (m:Mk)(s:Nat)(f:Nat->Int)(j:Nat):(m.fillTo s f j).of=m.of:=by
 induction j with
 |zero=>rfl
 |succ j a=>exact a
theorem zDn (m:Mk)(most:Nat)(r:Int):(m.add most r).of=m.of:=by unfold Mk.add;split <;> rfl
theorem zLk (m:Mk)(most:Nat)(f:Nat->Int):(m.withM most f).of=m.of:=by
 unfold Mk.withM;split
 ·rfl
 ·split
  ·rfl
  ·split
   ·exact zDn _ _ _
   ·rw[zMU,zDn]
structure Bx (w0 w wr:World)(mb kb most:Nat)(m:Mk)(b:Nat)(g:Nat->Int):Prop where
 ma:MwIs w0 wr mb kb most m
 arr:wr.heap[b]? =some (.cells (a64 g) 246)
 stay:StayT w wr
 new:w.heap.size<=b
 old:w0.heap.size<=w.heap.size
theorem zPJ (g:Nat->Int)(i:Nat)(x:Int)(a:i<64):(a64 g).setIfInBounds i (iX x)=a64 (λj=>if j=i then x else g j):=by
 apply Array.ext_getElem?;intro j;rw[Array.getElem?_setIfInBounds];by_cases c:j<64
 ·by_cases e:i=j
  ·subst e
   rw[if_pos rfl,zBy,if_pos a,zAi _ i a,if_pos rfl]
  ·rw[if_neg e,zAi _ j c,zAi _ j c,if_neg (Ne.symm e)]
 ·rw[if_neg (by omega),Array.getElem?_eq_none (by rw[zBy];omega),Array.getElem?_eq_none (by rw[zBy];omega)]
theorem zNp {g c:Nat->Int}(d:∀i,i<64->g i=c i):a64 g=a64 c:=by
 apply Array.ext_getElem?;intro j;by_cases a:j<64
 ·rw[zAi _ j a,zAi _ j a,d j a]
 ·rw[Array.getElem?_eq_none (by rw[zBy];omega),Array.getElem?_eq_none (by rw[zBy];omega)]
section
variable {w0 w wr w2:World} {mb kb most:Nat} {m:Mk} {b:Nat} {g:Nat->Int}
theorem Mw.setBox {p rv q:Value}{o:Nat->Nat}{i:Nat}{x:Value}{c:Array Value}(a:Mw w0 wr mb kb most m p rv q o)(j:wr.heap[b]? =some (.cells c 246))(r:w0.heap.size<=b):Mw w0 (wr.setCell ⟨b,i,none⟩ x) mb kb most m p rv q o:=by
 have e:∀k,k≠b->(wr.setCell ⟨b,i,none⟩ x).heap[k]? =wr.heap[k]? :=λk f=>lJ _ _ _ _ f;have s:mb≠b:=λd=>by
  have:=a.blk;rw[d,j] at this;simp at this
 have t:∀i,i<m.next.length->o i≠b:=λi l d=>by
  have:=(a.each i l).1;rw[d,j] at this;simp at this
 have u:=zO a.nOwn j (by decide);have v:=zO a.rOwn j (by decide);have y:=zO a.oOwn j (by decide);exact⟨(e mb s).trans a.blk,zE a.nOwn λk _ _ f=>e k λd=>u (by rw[f,d]),λi l=>⟨(e _ (t i l)).trans (a.each i l).1,(a.each i l).2⟩,zE a.rOwn λk _ _ f=>e k λd=>v (by rw[f,d]),zE a.oOwn λk _ _ f=>e k λd=>y (by rw[f,d]),a.inj,a.nr,a.no,a.ro,a.mH,a.keep.trans (zQ _ _ _ _ r)⟩
theorem Bx.set (a:Bx w0 w wr mb kb most m b g)(i:Nat)(e:i<64)(x:Int):Bx w0 w (wr.setCell ⟨b,i,none⟩ (iX x)) mb kb most m b (λj=>if j=i then x else g j):=by
 have ⟨f,rv,l,o,p⟩:=a.ma;have q:=lY a.old a.new;refine⟨⟨f,rv,l,o,p.setBox a.arr q⟩,?_,λk c t d r s u=>?_,a.new,a.old⟩
 ·rw[<-zPJ g i x e]
  simp[setCell,lU,a.arr]
 ·have v:=(kQ.1 d).1
  have y:=a.new;exact(lJ _ _ _ _ (by show k≠b;omega)).trans (a.stay k c t d r s u)
theorem Bx.call {c:Mk}(a:Bx w0 w wr mb kb most m b g)(e:MwIs w0 w2 mb kb most c)(d:StayT wr w2):Bx w0 w w2 mb kb most c b g:=⟨e,d b _ _ a.arr (by decide) (by decide) (by decide),a.stay.trans d,a.new,a.old⟩
theorem Bx.congr {c:Nat->Int}(a:Bx w0 w wr mb kb most m b g)(e:∀i,i<64->g i=c i):Bx w0 w wr mb kb most m b c:=⟨a.ma,by rw[<-zNp e];exact a.arr,a.stay,a.new,a.old⟩
theorem Bx.cell (a:Bx w0 w wr mb kb most m b g)(i:Nat)(c:i<64):wr.cell? ⟨b,i,none⟩=some (iX (g i))/\wr.frozen? ⟨b,i,none⟩=false:=by
 constructor
 ·unfold cell?;rw[a.arr];exact zAi g i c
 ·unfold frozen?;rw[a.arr];simp
theorem Bx.start {m0:Mk}(a:MwIs w0 w mb kb most m0)(wr:World)(d:StayT w wr)(e:MwIs w0 wr mb kb most m)(f:w.heap.size<=wr.heap.size):Bx w0 w (wr.alloc (.cells (a64 λ_=>0) 246)) mb kb most m wr.heap.size (λ_=>0):=by
 have c:=kZ (b:=wr.heap.size) wr (.cells (a64 λ_=>0) 246) lQ;obtain⟨_,_,_,_,a⟩:=a;exact⟨e.grown c,gY _ _,d.trans c.stayT,f,a.keep.size⟩
end
end
def xL:Nat->Nat
 |0=>0
 |1=>1
 |2=>64
 |_=>4096
def Mk.even (most:Nat):Nat->Mk->Int->Int×Mk
 |0,m,to=>(to,m)
 |c+1,m,to=>Mk.even most c (m.withM most λ_=>to) (m.withN most λ_=>to)
theorem zK4 (f w:World)(d kb most:Nat)(m:Mk)(y:MwIs f w d kb most m)(F:most<=1000000)(fit:m.Fit most)(to:Int)(c:Nat)(G:c<=3):
  Calls prog 178 #[pX d,iX to,iX (xL c:Int)] w λe w'=>e=returned (iX (Mk.even most c m to).1)/\MwIs f w' d kb most (Mk.even most c m to).2/\StayT w w':=by
 have H:=vl y;have o:=vl fit;go_in;go_wp2;go_loopg [1,2] c (λk t s wr=>∃(n:Nat) (m2:Mk) (a:Int),k=n/\n<=3/\t=iX a/\s=iX (xL n:Int)/\MwIs f wr d kb most m2/\m2.Fit most/\StayT w wr/\w.heap.size<=wr.heap.size/\Mk.even most c m to=Mk.even most n m2 a)
 case atStart=>exact⟨c,m,to,rfl,G,rfl,rfl,y,fit,StayT.refl _,lQ,rfl⟩
 case round=>
  obtain⟨n,m2,a,l,W,rfl,rfl,r,x,u,I,v⟩:=hrel;cases n with
  |zero=>
   have g:Hid (MwIs f wr d kb most m2/\StayT w wr/\Mk.even most c m to=(a,m2)):=⟨r,u,v⟩
   clear r x u v l;have z:xL 0=0:=rfl;rw[z];go_wp2;go_ret;exact⟨by rw[g.out.2.2];rfl,by rw[g.out.2.2];exact g.1,g.2.1⟩
  |succ n=>
   have z:0<xL (n+1):=by
    rcases n with _|_|_|n
    all_goals (simp [xL])
   have X:xL (n+1)/64=xL n:=by
    rcases n with _|_|_|n
    all_goals first|rfl|omega
   have Y:(xL (n+1):Int)>0:=by omega
   have aa:xL (n+1)<=4096:=by
    rcases n with _|_|_|n
    all_goals (simp [xL])
   have ab:Hid (wrap64 ((xL (n+1):Int)/64)=(xL n:Int)):=by
    show _=_;rw[w64 _ (by omega) (by omega)];omega
   have g:Hid (gk=n+1/\MwIs f wr d kb most m2/\m2.Fit most/\StayT w wr/\w.heap.size<=wr.heap.size/\Mk.even most c m to=Mk.even most (n+1) m2 a):=⟨l,r,x,u,I,v⟩
   clear r x u v l;go_wp2;rw[<-zHD];have J:=vl <| Bx.start H wr g.2.2.2.1 g.2.1 g.2.2.2.2.1;generalize wr.alloc (.cells (a64 λ_=>0) 246)=ac at *;generalize wr.heap.size=b at *;go_loopg [13] 64 (λk i wr=>∃j:Nat,k=64-j/\j<=64/\i=iX (j:Int)/\Bx f w wr d kb most m2 b (λt=>if t<j then a else 0))
   case atStart=>exact⟨0,rfl,lX,rfl,J.congr λi _=>by simp⟩
   case round=>
    obtain⟨j,l,ad,rfl,p⟩:=hrel;have K:Hid (gk=64-j/\Bx f w wr d kb most m2 b (λt=>if t<j then a else 0)):=⟨l,p⟩
    by_cases B:j<64
    ·have L:(j:Int)<64:=by omega
     have ⟨ae,af⟩:=p.cell j B;have q:Hid (Bx f w (wr.setCell ⟨b,j,none⟩ (iX a)) d kb most m2 b (λt=>if t<j+1 then a else 0)):=(p.set j B a).congr λi _=>by
      by_cases e:i=j
      ·subst e;rw[if_pos rfl,if_pos (by omega)]
      ·rw[if_neg e]
       by_cases C:i<j
       ·rw[if_pos C,if_pos (by omega)]
       ·rw[if_neg C,if_neg (by omega)]
     clear l p;generalize (if j<j then a else 0)=old at *;go_wp2;go_roundg (64-(j+1))
     case measure=>rw[K.out.1];omega
     case rel=>exact⟨j+1,rfl,by omega,by go_num,q⟩
    ·have L:(64:Int)<=(j:Int):=by omega
     have q:Hid (Bx f w wr d kb most m2 b (λ_=>a)):=p.congr λi ag=>by rw[if_pos (by omega)]
     have M:Hid (wr.rangeAt b 0 (a64 λ_=>a).toList):=zE8 wr b _ q.arr;have N:Hid ((prog.info? 246).map (·.size)=some (a64 λ_=>a).toList.length):=zLG _;have o:=g.2.2.1;have O:Hid (Ca 179 #[pX d,agg (a64 λ_=>a)] wr λe w'=>e=returned (iX ((m2.withN most (λ_=>a):Nat):Int))/\MwIs f w' d kb most (m2.withM most λ_=>a)/\StayT wr w'):=zFh f wr d kb most m2 q.ma F (by have:=o.same;have:=o.few;omega) (by have:=o.few;omega) _;have P:Hid (Mk.even most c m to=Mk.even most n (m2.withM most λ_=>a) ((m2.withN most λ_=>a:Nat):Int)):=g.2.2.2.2.2;have R:Hid ((m2.withM most λ_=>a).Fit most):=zFg o _;have ah:=q.new;clear l p o;generalize (a64 λ_=>a)=S at *;generalize (m2.withM most λ_=>a)=T at *;generalize (m2.withN most λ_=>a)=U at *;go_wp2_with (first|(refine wpList_load_mid rfl 246 (.tmp 7) rfl b 0 rfl S.toList (.array 64 3) M underlying246 rfl N ?_)|(go_at_call 179;refine O.mono ?_;rintro e ai ⟨rfl,D,V⟩))
     go_roundg n
     case measure=>rw[g.out.1];omega
     case rel=>
      have E:=q.call D V;have aj:=(kQ.1 E.arr).1;exact⟨n,T,(U:Int),rfl,by omega,rfl,by congr 1;omega,D,R,E.stay,by omega,P⟩
def jR (step:Nat):Nat:=if step=64 then 2048 else if step=4096 then 65536 else 0
def yC (sub:Mk->Nat->Int×Mk)(step low:Nat)(m:Mk):Nat->(Nat->Int)×Mk
 |0=>(λ_=>0,m)
 |j+1=>if low+j*step<jR step then(λi=>if i=j then 0 else(yC sub step low m j).1 i,(yC sub step low m j).2) else(λi=>if i=j then(sub (yC sub step low m j).2 (low+j*step)).1 else(yC sub step low m j).1 i,(sub (yC sub step low m j).2 (low+j*step)).2)
def zAT (most:Nat)(p:(Nat->Int)×Mk):Int×Mk:=(((p.2.withN most p.1:Nat):Int),p.2.withM most p.1)
def jH (k:Kd)(a:Ar)(most kind cnt step:Nat)(sub:Mk->Nat->Int×Mk)(m:Mk)(low:Nat):Int×Mk:=
 if jR step<=low/\a.alike (low:Int) ((low+64*step-1:Nat):Int)=true then Mk.even most cnt m (m.behind k a kind (low:Int)) else zAT most (yC sub step low m 64)
def yM (k:Kd)(a:Ar)(most kind:Nat):Nat->Mk->Nat->Int×Mk
 |0,m,low=>jH k a most kind 1 1 (λm c=>(m.behind k a kind (c:Int),m)) m low
 |l+1,m,low=>jH k a most kind (l+2) (xL (l+2)) (yM k a most kind l) m low
def Tame (most:Nat)(sub:Mk->Nat->Int×Mk):Prop:=∀m c,m.Fit most->(sub m c).2.Fit most/\(sub m c).2.of=m.of
theorem zMX (most:Nat)(c:Nat):∀(m:Mk) (to:Int),m.Fit most->(Mk.even most c m to).2.Fit most/\(Mk.even most c m to).2.of=m.of:=by
 induction c with
 |zero=>exact λm to a=>⟨a,rfl⟩
 |succ c b=>
  intro m to a;have:=b (m.withM most λ_=>to) ((m.withN most λ_=>to:Nat):Int) (zFg a _);exact⟨this.1,this.2.trans (zLk _ _ _)⟩
theorem zIS {most:Nat}{a:Mk->Nat->Int×Mk}(c:Tame most a)(step low:Nat){m:Mk}(d:m.Fit most)(j:Nat):(yC a step low m j).2.Fit most/\(yC a step low m j).2.of=m.of:=by
 induction j with
 |zero=>exact⟨d,rfl⟩
 |succ j b=>
  unfold yC;split
  ·exact b
  ·have:=c (yC a step low m j).2 (low+j*step) b.1
   exact⟨this.1,this.2.trans b.2⟩
theorem zDK (k:Kd)(a:Ar){most:Nat}(kind cnt step:Nat){b:Mk->Nat->Int×Mk}(d:Tame most b):Tame most (jH k a most kind cnt step b):=by
 intro m low c;unfold jH;split
 ·exact zMX most cnt m _ c
 ·have:=zIS d step low c 64
  exact⟨zFg this.1 _,(zLk _ _ _).trans this.2⟩
theorem zAB (k:Kd)(a:Ar)(most kind l:Nat):Tame most (yM k a most kind l):=by
 induction l with
 |zero=>exact zDK k a kind 1 1 λm c b=>⟨b,rfl⟩
 |succ l d=>exact zDK k a kind (l+2) (xL (l+2)) d
section
variable (b w:World) (d kb most:Nat) (m:Mk) (l:MwIs b w d kb most m)
theorem zBk (r w:World)(o kb most:Nat)(m:Mk)(s:MwIs r w o kb most m)(am:most<=1000000)(fit:m.Fit most)(k:Kd)(a:Ar)(ab:KdAt r kb a k)(ok:k.Ok a)(kind:Nat)(an:kind<k.rows.length)(ac:m.of.length=k.rows.length)(low:Nat)(a3:low<=1410000)(l d cnt s2:Nat)(R:d=1\/d=64\/d=4096)(aB:cnt<=3)(ao:xL cnt=d)(aC:d/64=s2)(f:Mk->Nat->Int×Mk)(ap:yM k a most kind l m low=jH k a most kind cnt d f m low)(aq:Tame most f)
  (ar:(d=1/\∀wr m2,MwIs r wr o kb most m2->m2.Fit most->m2.of.length=k.rows.length->∀c:Nat,c<=low+64*d->Calls prog 134 #[pX o,iX (kind:Int),iX (c:Int)] wr λe w'=>e=returned (iX (f m2 c).1)/\MwIs r w' o kb most (f m2 c).2/\StayT wr w')\/(d≠1/\∀wr m2,MwIs r wr o kb most m2->m2.Fit most->m2.of.length=k.rows.length->∀c:Nat,c<=low+64*d->Calls prog 136 #[pX o,iX (kind:Int),iX (c:Int),iX (s2:Int)] wr λe w'=>e=returned (iX (f m2 c).1)/\MwIs r w' o kb most (f m2 c).2/\StayT wr w')):
  Calls prog 136 #[pX o,iX (kind:Int),iX (low:Int),iX (d:Int)] w λe w'=>e=returned (iX (yM k a most kind l m low).1)/\MwIs r w' o kb most (yM k a most kind l m low).2/\StayT w w':=by
 have G:=vl s;obtain⟨a4,rv,a5,a6,ad⟩:=s;obtain⟨a7,lv,tv,sv,a8,a9,S,I,-,-⟩:=ab.grown ad.keep;obtain⟨ba,bb,aD,-⟩:=id I.lows;obtain⟨at_,bc,aE,-⟩:=id I.letters;obtain⟨as_,cs,has,-⟩:=id I.sets;obtain⟨t,ae⟩:∃t,t=a.alike (low:Int) ((low+64*d-1:Nat):Int):=⟨_,rfl⟩
 have af:Hid (∀y:Int,y=((low+64*d-1:Nat):Int)->Ca 177 #[agg #[lv,tv,sv],iX (low:Int),iX y] w λe w'=>e=returned (bool t)/\Grew w w'):=by
  rintro y rfl;rw[ae];exact zJ0 w lv tv sv a I ok.few _ _
 have aF:=ad.cells.1;have aG:w.cell? ⟨kb,0,none⟩=some lv:=by unfold cell?;rw[S];rfl
 have aH:w.cell? ⟨kb,1,none⟩=some tv:=by unfold cell?;rw[S];rfl
 have aI:w.cell? ⟨kb,2,none⟩=some sv:=by unfold cell?;rw[S];rfl
 subst aD aE has;obtain⟨p,J⟩:∃p,p=jR d:=⟨_,rfl⟩
 have K:Hid (∀w,Ca 176 #[iX (d:Int)] w λe w'=>e=returned (iX (p:Int))/\w'=w):=λw=>by
  have:=zJt w d R;rw[show (if d=64 then 2048 else if d=4096 then 65536 else 0:Int)=(p:Int) by rw[J];rcases R with rfl|rfl|rfl <;> rfl] at this;exact this
 have au:Hid (∀w2,Grew w w2->Ca 134 #[pX o,iX (kind:Int),iX (low:Int)] w2 λe w'=>e=returned (iX (m.behind k a kind (low:Int)))/\Grew w2 w'):=λw2 H=>zCq r w2 o kb most m (G.grown H) k a ab ok kind an ac (low:Int);have av:Hid (∀w2 to,Grew w w2->Ca 178 #[pX o,iX to,iX (d:Int)] w2 λe w'=>e=returned (iX (Mk.even most cnt m to).1)/\MwIs r w' o kb most (Mk.even most cnt m to).2/\StayT w2 w'):=λw2 to H=>by rw[<-ao];exact zK4 r w2 o kb most m (G.grown H) am fit to cnt aB
 have L:=vl ar;have aJ:=vl (And.intro fit ac);have aK:Hid (yC f d low m 0=(λ_=>0,m)):=rfl;have aL:Hid (∀j,yC f d low m (j+1)=if low+j*d<p then(λi=>if i=j then 0 else(yC f d low m j).1 i,(yC f d low m j).2) else(λi=>if i=j then(f (yC f d low m j).2 (low+j*d)).1 else(yC f d low m j).1 i,(f (yC f d low m j).2 (low+j*d)).2)):=λj=>by rw[J];rfl
 have aM:Hid (∀j,(yC f d low m j).2.Fit most/\(yC f d low m j).2.of=m.of):=λj=>zIS aq d low fit j;have D:(p<=low/\t=true)\/¬(p<=low/\t=true):=Decidable.em _;have U:Hid (((p<=low/\t=true)->yM k a most kind l m low=Mk.even most cnt m (m.behind k a kind (low:Int)))/\(¬(p<=low/\t=true)->yM k a most kind l m low=zAT most (yC f d low m 64))):=by
  rw[ap,J,ae];exact⟨λs=>if_pos s,λs=>if_neg s⟩
 have bd:p<=65536:=by rw[J];rcases R with rfl|rfl|rfl <;> decide
 have be:1<=d/\d<=4096:=by omega
 have bf:(d:Int)/64=(s2:Int):=by omega
 clear ad S I ab ok an ac fit ap aq ar J ae ao aC R;generalize a.lows.length=bg at *;generalize a.letters.length=bi at *;generalize a.sets.length=q2 at *;generalize yC f d low m=g at *;rcases D with D|D
 ·have M:=vl (U.1 D)
  obtain⟨aN,rfl⟩:=D;have ag:(low:Int)>=(p:Int):=by omega
  clear U L aN;generalize m.behind k a kind (low:Int)=aO at *;generalize yM k a most kind l m low=aP at *;go_in;go_wp2_with (first|(go_at_call 176;refine(K _).mono ?_;rintro e V ⟨rfl,u⟩;have v:=u.symm;subst v)|(go_at_call 177;refine(af _ (by omega)).mono ?_;rintro e w2 ⟨rfl,H⟩)|(go_at_call 134;refine(au w2 H).mono ?_;rintro e ah ⟨rfl,aQ⟩;have aw:=H.th aQ)|(go_at_call 178;refine(av ah aO aw).mono ?_;rintro e ai ⟨rfl,z,B⟩))
  go_ret;exact⟨by rw[M.out];rfl,by rw[M.out];exact z,StayT.trans aw.stayT B⟩
 have M:=vl (U.2 D);clear U av au;generalize yM k a most kind l m low=aP at *;have aR:(low:Int)<(p:Int)\/(low:Int)>=(p:Int)/\t=false:=by
  rcases Nat.lt_or_ge low p with s|s
  ·exact .inl (by omega)
  ·refine .inr ⟨by omega,?_⟩
   cases t with
   |false=>rfl
   |true=>exact absurd ⟨s,rfl⟩ D
 clear D;go_in;rcases aR with ag|⟨ag,rfl⟩;go_wp2_with (go_at_call 176;refine(K _).mono ?_;rintro e V ⟨rfl,u⟩;have v:=u.symm;subst v)
 rw[<-zHD];have ax:=vl (Bx.start G w (Keep.refl w.heap.size w.heap.size w).stayT G lQ);generalize w.alloc (.cells (a64 λ_=>0) 246)=ah at *;generalize w.heap.size=b at *;rotate_left;go_wp2_with (first|(go_at_call 176;refine(K _).mono ?_;rintro e V ⟨rfl,u⟩;have v:=u.symm;subst v)|(go_at_call 177;refine(af _ (by omega)).mono ?_;rintro e w2 ⟨rfl,W⟩))
 rw[<-zHD];have ax:=vl (Bx.start G w2 W.stayT (G.grown W) W.size);clear W;generalize w2.alloc (.cells (a64 λ_=>0) 246)=ah at *;generalize w2.heap.size=b at *
 all_goals
  clear af aG aH aI aF ag;go_loopg [39] 64 (λq i wr=>∃j:Nat,q=64-j/\j<=64/\i=iX (j:Int)/\Bx r w wr o kb most (g j).2 b (g j).1)
  case atStart=>exact⟨0,rfl,lX,rfl,by rw[aK.out];exact ax⟩
  case round=>
   obtain⟨j,X,bj,rfl,C⟩:=hrel;have N:=vl (And.intro X C);have E:=aM j;by_cases O:j<64
   ·have aS:(j:Int)<64:=by omega
    have ⟨bk,bl⟩:=C.cell j O;obtain⟨x,Y⟩:∃x,x=j*d:=⟨_,rfl⟩
    have bm:(j:Int)*(d:Int)=(x:Int):=by rw[Y];exact(Int.natCast_mul j d).symm
    have bn:x<=64*d:=by rw[Y];exact Nat.mul_le_mul_right d (by omega)
    have P:=vl (aL j);rw[<-Y] at P;clear Y;by_cases aa:low+x<p
    ·have aT:Hid (Bx r w (wr.setCell ⟨b,j,none⟩ zX) o kb most (g (j+1)).2 b (g (j+1)).1):=by
      have s:=C.set j O 0;show Bx _ _ _ _ _ _ (g (j+1)).2 _ (g (j+1)).1;rw[P.out,if_pos aa];exact s
     have aU:(low:Int)+(x:Int)<(p:Int):=by omega
     clear X C aa P E L;generalize (g j).1 j=old at *;go_wp2_with (go_at_call 176;refine(K _).mono ?_;rintro e V ⟨rfl,u⟩;have v:=u.symm;subst v)
     go_roundg (64-(j+1))
     case measure=>rw[N.out.1];omega
     case rel=>exact⟨j+1,rfl,by omega,by go_num,aT⟩
    ·have aV:Hid (g (j+1)=(λi=>if i=j then(f (g j).2 (low+x)).1 else(g j).1 i,(f (g j).2 (low+x)).2)):=by show _=_;rw[P.out,if_neg aa]
     have aU:(p:Int)<=(low:Int)+(x:Int):=by omega
     have bo:(0:Int)<=(low:Int)+(x:Int):=by omega
     rcases L.out with⟨ay,aj⟩|⟨ay,aj⟩;have aW:((d:Int)==1)=true:=by rw[beq_iff_eq];omega
     rotate_left;have aW:((d:Int)==1)=false:=by rw[hX];omega
     all_goals
      have ak:=aj wr _ C.ma E.1 (by rw[E.2];exact aJ.2) (low+x) (by omega);rw[Int.natCast_add] at ak;have az:=vl ak;clear X C aa P E L aj ak ay;generalize (f (g j).2 (low+x)).1=aX at *;generalize (f (g j).2 (low+x)).2=bp at *;generalize (g j).1 j=old at *;go_wp2_with (first|(go_at_call 176;refine(K _).mono ?_;rintro e V ⟨rfl,u⟩;have v:=u.symm;subst v)|(go_at_call 134;refine az.mono ?_;rintro e ai ⟨rfl,z,B⟩;have F:=N.2.call z B;have ⟨y5,aY⟩:=F.cell j O;have aA:=vl F;clear F z B)|(go_at_call 136;refine az.mono ?_;rintro e ai ⟨rfl,z,B⟩;have F:=N.2.call z B;have ⟨y5,aY⟩:=F.cell j O;have aA:=vl F;clear F z B))
      go_roundg (64-(j+1))
      case measure=>rw[N.out.1];omega
      case rel=>
       refine⟨j+1,rfl,by omega,by go_num,?_⟩;rw[aV.out];exact aA.set j O aX
   ·have aS:(64:Int)<=(j:Int):=by omega
    have e:j=64:=by omega
    subst e;have aZ:=vl (zE8 wr b _ C.arr);have a0:=vl (zLG (g 64).1);have a1:Hid (Ca 179 #[pX o,agg (a64 (g 64).1)] wr λe w'=>e=returned (iX (zAT most (g 64)).1)/\MwIs r w' o kb most (zAT most (g 64)).2/\StayT wr w'):=zFh r wr o kb most _ C.ma am (by have:=E.1.same;have:=E.1.few;omega) (by have:=E.1.few;omega) _;clear X C E L;generalize (a64 (g 64).1)=a2 at *;generalize zAT most (g 64)=bq at *;go_wp2_with (first|(refine wpList_load_mid rfl 246 (.tmp 9) rfl b 0 rfl a2.toList (.array 64 3) aZ underlying246 rfl a0 ?_)|(go_at_call 179;refine a1.mono ?_;rintro e ai ⟨rfl,z,B⟩))
    go_ret;exact⟨by rw[M.out];rfl,by rw[M.out];exact z,N.2.stay.trans B⟩
theorem zC3 (o:MwIs b w d kb most m)(p:most<=1000000)(fit:m.Fit most)(k:Kd)(a:Ar)(f:KdAt b kb a k)(ok:k.Ok a)(kind:Nat)(g:kind<k.rows.length)(q:m.of.length=k.rows.length)(low:Nat)(r:low<=1410000):Calls prog 136 #[pX d,iX (kind:Int),iX (low:Int),iX 1] w λe w'=>e=returned (iX (yM k a most kind 0 m low).1)/\MwIs b w' d kb most (yM k a most kind 0 m low).2/\StayT w w':=
 zBk b w d kb most m o p fit k a f ok kind g q low r 0 1 1 0 (.inl rfl) (by decide) rfl rfl _ rfl (λm c s=>⟨s,rfl⟩) (.inl ⟨rfl,λwr m2 j _ t c _=>(zCq b wr d kb most m2 j k a f ok kind g t (c:Int)).mono (by rintro e w2 ⟨rfl,l⟩;exact⟨rfl,j.grown l,l.stayT⟩)⟩)
theorem zC2 (l:MwIs b w d kb most m)(f:most<=1000000)(fit:m.Fit most)(k:Kd)(a:Ar)(g:KdAt b kb a k)(ok:k.Ok a)(kind:Nat)(j:kind<k.rows.length)(o:m.of.length=k.rows.length)(low:Nat)(s:low<=1400000):Calls prog 136 #[pX d,iX (kind:Int),iX (low:Int),iX 64] w λe w'=>e=returned (iX (yM k a most kind 1 m low).1)/\MwIs b w' d kb most (yM k a most kind 1 m low).2/\StayT w w':=
 zBk b w d kb most m l f fit k a g ok kind j o low (by omega) 1 64 2 1 (.inr (.inl rfl)) (by decide) rfl rfl _ rfl (zAB k a most kind 0) (.inr ⟨by decide,λwr m2 p q r c t=>zC3 b wr d kb most m2 p f q k a g ok kind j r c (by omega)⟩)
theorem zGL (l:MwIs b w d kb most m)(f:most<=1000000)(fit:m.Fit most)(k:Kd)(a:Ar)(g:KdAt b kb a k)(ok:k.Ok a)(kind:Nat)(j:kind<k.rows.length)(o:m.of.length=k.rows.length)(low:Nat)(s:low<=1100000):Calls prog 136 #[pX d,iX (kind:Int),iX (low:Int),iX 4096] w λe w'=>e=returned (iX (yM k a most kind 2 m low).1)/\MwIs b w' d kb most (yM k a most kind 2 m low).2/\StayT w w':=
 zBk b w d kb most m l f fit k a g ok kind j o low (by omega) 2 4096 3 64 (.inr (.inr rfl)) (by decide) rfl rfl _ rfl (zAB k a most kind 1) (.inr ⟨by decide,λwr m2 p q r c t=>zC2 b wr d kb most m2 p f q k a g ok kind j r c (by omega)⟩)
end
section
variable (k:Kd) (a:Ar) {most:Nat} (kind s:Nat) {m:Mk} (d:m.Fit most)
def Grows (sub:Mk->Nat->Int×Mk):Prop:=∀m c,m.next.length<=(sub m c).2.next.length
theorem zEv (m:Mk)(most:Nat)(r:Int):m.next.length<=(m.add most r).next.length:=by
 unfold Mk.add;split
 ·exact lQ
 ·show _<=(m.next++[zeros]).length;simp
theorem zFf (m:Mk)(most:Nat)(f:Nat->Int):m.next.length<=(m.withM most f).next.length:=by
 unfold Mk.withM;split
 ·exact lQ
 ·split
  ·exact lQ
  ·split
   ·exact zEv _ _ _
   ·rw[zBL];exact zEv _ _ _
theorem zK3 (most c:Nat):∀(m:Mk) (to:Int),m.next.length<=(Mk.even most c m to).2.next.length:=by
 induction c with
 |zero=>exact λm to=>lQ
 |succ c a=>exact λm to=>lY (zFf m most λ_=>to) (a _ _)
theorem zMf {a:Mk->Nat->Int×Mk}(c:Grows a)(step low:Nat)(m:Mk)(j:Nat):m.next.length<=(yC a step low m j).2.next.length:=by
 induction j with
 |zero=>exact lQ
 |succ j b=>
  unfold yC;split
  ·exact b
  ·exact lY b (c _ _)
theorem zC1 (most kind cnt step:Nat){b:Mk->Nat->Int×Mk}(c:Grows b):Grows (jH k a most kind cnt step b):=by
 intro m low;unfold jH;split
 ·exact zK3 _ _ _ _
 ·exact lY (zMf c step low m 64) (zFf _ _ _)
theorem zAP (most kind l:Nat):Grows (yM k a most kind l):=by
 induction l with
 |zero=>exact zC1 k a most kind 1 1 λm c=>lQ
 |succ l b=>exact zC1 k a most kind (l+2) (xL (l+2)) b
def qJ (sub:Mk->Nat->Int×Mk)(s lo:Nat)(m:Mk):Nat->Mk
 |0=>m
 |j+1=>(sub (qJ sub s lo m j) (lo+j)).2.put s (lo+j) (sub (qJ sub s lo m j) (lo+j)).1
theorem zA3 {a:Mk->Nat->Int×Mk}(e:Tame most a)(g:Grows a)(s b:Nat){m:Mk}(f:m.Fit most)(j:Nat):(qJ a s b m j).Fit most/\(qJ a s b m j).of=m.of/\m.next.length<=(qJ a s b m j).next.length:=by
 induction j with
 |zero=>exact⟨f,rfl,lQ⟩
 |succ j c=>
  have d:=e (qJ a s b m j) (b+j) c.1;refine⟨zLw d.1 _ _ _,d.2.trans c.2.1,?_⟩;show _<=((a (qJ a s b m j) (b+j)).2.put s (b+j) _).next.length
  rw[zDA];exact lY c.2.2 (g _ _)
theorem zBg {most s a:Nat}{b:Mk->Nat->Int×Mk}(f:Tame most b)(g:Grows b){c m:Mk}(e:c.Fit most/\c.of=m.of/\m.next.length<=c.next.length)(k:s<m.next.length)(j:Nat):(qJ b s a c j).Fit most/\(qJ b s a c j).of=m.of/\s<(qJ b s a c j).next.length/\s<(b (qJ b s a c j) (a+j)).2.next.length/\(b (qJ b s a c j) (a+j)).2.of=m.of:=by
 have d:=zA3 f g s a e.1 j;have h:=f _ (a+j) d.1;have l:=g (qJ b s a c j) (a+j);exact⟨d.1,d.2.1.trans e.2.1,by omega,by omega,h.2.trans (d.2.1.trans e.2.1)⟩
def zD0 (k:Kd)(a:Ar)(kind:Nat)(m:Mk)(b:Nat):Int×Mk:=(m.behind k a kind (b:Int),m)
def zCQ (k:Kd)(a:Ar)(most kind:Nat)(m:Mk)(b:Nat):Int×Mk:=yM k a most kind 0 m ((b-192)*64)
def zCP (k:Kd)(a:Ar)(most kind:Nat)(m:Mk)(b:Nat):Int×Mk:=yM k a most kind 1 m ((b-224)*4096)
def zCO (k:Kd)(a:Ar)(most kind:Nat)(m:Mk)(b:Nat):Int×Mk:=yM k a most kind 2 m ((b-240)*262144)
theorem zCz (most kind:Nat):Tame most (zD0 k a kind)/\Grows (zD0 k a kind):=⟨λm c b=>⟨b,rfl⟩,λm c=>lQ⟩
theorem zCy (most kind:Nat):Tame most (zCQ k a most kind)/\Grows (zCQ k a most kind):=⟨λm c b=>by unfold zCQ;exact zAB k a most kind 0 m _ b,λm c=>by unfold zCQ;exact zAP k a most kind 0 m _⟩
theorem zCx (most kind:Nat):Tame most (zCP k a most kind)/\Grows (zCP k a most kind):=⟨λm c b=>by unfold zCP;exact zAB k a most kind 1 m _ b,λm c=>by unfold zCP;exact zAP k a most kind 1 m _⟩
theorem zCw (most kind:Nat):Tame most (zCO k a most kind)/\Grows (zCO k a most kind):=⟨λm c b=>by unfold zCO;exact zAB k a most kind 2 m _ b,λm c=>by unfold zCO;exact zAP k a most kind 2 m _⟩
def zC7 (k:Kd)(a:Ar)(kind s:Nat)(m:Mk):Mk:=qJ (zD0 k a kind) s 0 m 128
def zC6 (k:Kd)(a:Ar)(most kind s:Nat)(m:Mk):Mk:=qJ (zCQ k a most kind) s 194 (zC7 k a kind s m) 30
def zC5 (k:Kd)(a:Ar)(most kind s:Nat)(m:Mk):Mk:=qJ (zCP k a most kind) s 224 (zC6 k a most kind s m) 16
def zAC (k:Kd)(a:Ar)(most kind s:Nat)(m:Mk):Mk:=qJ (zCO k a most kind) s 240 (zC5 k a most kind s m) 5
theorem zGc (b:m.Fit most):(zC7 k a kind s m).Fit most/\(zC7 k a kind s m).of=m.of/\m.next.length<=(zC7 k a kind s m).next.length:=zA3 (zCz k a most kind).1 (zCz k a most kind).2 s 0 b 128
theorem zGb (d:m.Fit most):(zC6 k a most kind s m).Fit most/\(zC6 k a most kind s m).of=m.of/\m.next.length<=(zC6 k a most kind s m).next.length:=by
 have b:=zGc k a kind s d;have c:=zA3 (zCy k a most kind).1 (zCy k a most kind).2 s 194 b.1 30;exact⟨c.1,c.2.1.trans b.2.1,lY b.2.2 c.2.2⟩
theorem zGa (d:m.Fit most):(zC5 k a most kind s m).Fit most/\(zC5 k a most kind s m).of=m.of/\m.next.length<=(zC5 k a most kind s m).next.length:=by
 have b:=zGb k a kind s d;have c:=zA3 (zCx k a most kind).1 (zCx k a most kind).2 s 224 b.1 16;exact⟨c.1,c.2.1.trans b.2.1,lY b.2.2 c.2.2⟩
theorem zK2 (d:m.Fit most):(zAC k a most kind s m).Fit most/\(zAC k a most kind s m).of=m.of/\m.next.length<=(zAC k a most kind s m).next.length:=by
 have b:=zGa k a kind s d;have c:=zA3 (zCw k a most kind).1 (zCw k a most kind).2 s 240 b.1 5;exact⟨c.1,c.2.1.trans b.2.1,lY b.2.2 c.2.2⟩
end
theorem zKZ (d w:World)(c kb most:Nat)(m:Mk)(F:MwIs d w c kb most m)(ah:most<=1000000)(fit:m.Fit most)(k:Kd)(a:Ar)(af:KdAt d kb a k)(ok:k.Ok a)(kind s:Nat)(ad:kind<k.rows.length)(ae:m.of.length=k.rows.length)(au:m.of.getD kind 0=(s:Int))(ag:s<m.next.length):
  Calls prog 97 #[pX c,iX (kind:Int)] w λe w'=>e=rX/\MwIs d w' c kb most (zAC k a most kind s m)/\StayT w w':=by
 have aE:Hid (MwIs d w c kb most m):=F;have ai:Hid (∀wr m2,MwIs d wr c kb most m2->m2.of=m.of->s<m2.next.length->∀b:Nat,b<256->∀x:Int,Ca 135 #[pX c,iX (kind:Int),iX (b:Int),iX x] wr λe w'=>e=rX/\MwIs d w' c kb most (m2.put s b x)/\StayT wr w'):=λwr m2 f o aF b l x=>zKO d wr c kb most m2 f kind b s (by rw[o,ae];exact ad) (by rw[o];exact au) aF l x;have aG:Hid (∀wr m2,MwIs d wr c kb most m2->m2.Fit most->m2.of=m.of->∀b:Nat,0<=b->b<=127->∀y:Int,y=(b:Int)->Ca 134 #[pX c,iX (kind:Int),iX y] wr λe w'=>e=returned (iX (zD0 k a kind m2 b).1)/\MwIs d w' c kb most (zD0 k a kind m2 b).2/\StayT wr w'):=by
  intro wr m2 f A o b an ao y L;subst L;refine(zCq d wr c kb most m2 f k a af ok kind ad (by rw[o];exact ae) (b:Int)).mono ?_;rintro e w2 ⟨rfl,av⟩;exact⟨rfl,f.grown av,av.stayT⟩
 have aH:Hid (∀wr m2,MwIs d wr c kb most m2->m2.Fit most->m2.of=m.of->∀b:Nat,194<=b->b<=223->∀y:Int,y=((b:Int)-192)*64->Ca 136 #[pX c,iX (kind:Int),iX y,iX 1] wr λe w'=>e=returned (iX (zCQ k a most kind m2 b).1)/\MwIs d w' c kb most (zCQ k a most kind m2 b).2/\StayT wr w'):=by
  intro wr m2 f A o b an ao y L;rw[L,show((b:Int)-192)*64=(((b-192)*64:Nat):Int) by omega];exact zC3 d wr c kb most m2 f ah A k a af ok kind ad (by rw[o];exact ae) _ (by omega)
 have aI:Hid (∀wr m2,MwIs d wr c kb most m2->m2.Fit most->m2.of=m.of->∀b:Nat,224<=b->b<=239->∀y:Int,y=((b:Int)-224)*4096->Ca 136 #[pX c,iX (kind:Int),iX y,iX 64] wr λe w'=>e=returned (iX (zCP k a most kind m2 b).1)/\MwIs d w' c kb most (zCP k a most kind m2 b).2/\StayT wr w'):=by
  intro wr m2 f A o b an ao y L;rw[L,show((b:Int)-224)*4096=(((b-224)*4096:Nat):Int) by omega];exact zC2 d wr c kb most m2 f ah A k a af ok kind ad (by rw[o];exact ae) _ (by omega)
 have aJ:Hid (∀wr m2,MwIs d wr c kb most m2->m2.Fit most->m2.of=m.of->∀b:Nat,240<=b->b<=244->∀y:Int,y=((b:Int)-240)*262144->Ca 136 #[pX c,iX (kind:Int),iX y,iX 4096] wr λe w'=>e=returned (iX (zCO k a most kind m2 b).1)/\MwIs d w' c kb most (zCO k a most kind m2 b).2/\StayT wr w'):=by
  intro wr m2 f A o b an ao y L;rw[L,show((b:Int)-240)*262144=(((b-240)*262144:Nat):Int) by omega];exact zGL d wr c kb most m2 f ah A k a af ok kind ad (by rw[o];exact ae) _ (by omega)
 obtain⟨p,aw⟩:∃M,M=qJ (zD0 k a kind) s 0 (m):=⟨_,rfl⟩
 have aj:Hid (p 0=m/\p 128=zC7 k a kind s m/\(∀j,p (j+1)=((zD0 k a kind) (p j) (0+j)).2.put s (0+j) ((zD0 k a kind) (p j) (0+j)).1)/\∀j,(p j).Fit most/\(p j).of=m.of/\s<(p j).next.length/\s<((zD0 k a kind) (p j) (0+j)).2.next.length/\((zD0 k a kind) (p j) (0+j)).2.of=m.of):=by
  rw[aw];exact⟨rfl,rfl,λj=>rfl,zBg (zCz k a most kind).1 (zCz k a most kind).2 ⟨fit,rfl,lQ⟩ ag⟩
 clear aw;obtain⟨r,ax⟩:∃M,M=qJ (zCQ k a most kind) s 194 (zC7 k a kind s m):=⟨_,rfl⟩
 have ak:Hid (r 0=zC7 k a kind s m/\r 30=zC6 k a most kind s m/\(∀j,r (j+1)=((zCQ k a most kind) (r j) (194+j)).2.put s (194+j) ((zCQ k a most kind) (r j) (194+j)).1)/\∀j,(r j).Fit most/\(r j).of=m.of/\s<(r j).next.length/\s<((zCQ k a most kind) (r j) (194+j)).2.next.length/\((zCQ k a most kind) (r j) (194+j)).2.of=m.of):=by
  rw[ax];exact⟨rfl,rfl,λj=>rfl,zBg (zCy k a most kind).1 (zCy k a most kind).2 (zGc k a kind s fit) ag⟩
 clear ax;obtain⟨t,ay⟩:∃M,M=qJ (zCP k a most kind) s 224 (zC6 k a most kind s m):=⟨_,rfl⟩
 have al:Hid (t 0=zC6 k a most kind s m/\t 16=zC5 k a most kind s m/\(∀j,t (j+1)=((zCP k a most kind) (t j) (224+j)).2.put s (224+j) ((zCP k a most kind) (t j) (224+j)).1)/\∀j,(t j).Fit most/\(t j).of=m.of/\s<(t j).next.length/\s<((zCP k a most kind) (t j) (224+j)).2.next.length/\((zCP k a most kind) (t j) (224+j)).2.of=m.of):=by
  rw[ay];exact⟨rfl,rfl,λj=>rfl,zBg (zCx k a most kind).1 (zCx k a most kind).2 (zGb k a kind s fit) ag⟩
 clear ay;obtain⟨u,az⟩:∃M,M=qJ (zCO k a most kind) s 240 (zC5 k a most kind s m):=⟨_,rfl⟩
 have am:Hid (u 0=zC5 k a most kind s m/\u 5=zAC k a most kind s m/\(∀j,u (j+1)=((zCO k a most kind) (u j) (240+j)).2.put s (240+j) ((zCO k a most kind) (u j) (240+j)).1)/\∀j,(u j).Fit most/\(u j).of=m.of/\s<(u j).next.length/\s<((zCO k a most kind) (u j) (240+j)).2.next.length/\((zCO k a most kind) (u j) (240+j)).2.of=m.of):=by
  rw[az];exact⟨rfl,rfl,λj=>rfl,zBg (zCw k a most kind).1 (zCw k a most kind).2 (zGa k a kind s fit) ag⟩
 clear az;clear F fit af ok ad ae au ag ah;generalize aK:zD0 k a kind=H at *;clear aK;generalize aL:zCQ k a most kind=I at *;clear aL;generalize aM:zCP k a most kind=J at *;clear aM;generalize aN:zCO k a most kind=K at *;clear aN;generalize aO:zC7 k a kind s m=aP at *;clear aO;generalize aQ:zC6 k a most kind s m=aR at *;clear aQ;generalize aS:zC5 k a most kind s m=aT at *;clear aS;generalize aU:zAC k a most kind s m=aV at *;clear aU;go_enter func97,ntmps97
 go_wp2_with fail;go_loopg [4] 128 (λq v wr=>∃j b:Nat,q=128-j/\j<=128/\b=0+j/\v=iX (b:Int)/\MwIs d wr c kb most (p j)/\StayT w wr)
 case atStart=>exact⟨0,0,rfl,lX,rfl,rfl,by rw[aj.out.1];exact aE,StayT.refl _⟩
 case round=>
  obtain⟨j,b,B,N,l,rfl,f,z⟩:=hrel;have C:Hid (gk=128-j/\MwIs d wr c kb most (p j)/\StayT w wr):=⟨B,f,z⟩
  by_cases O:j<128
  ·have P:(b:Int)<128:=by omega
   have ap:(b:Int)<256:=by omega
   have ⟨A,o,R,D,E⟩:=aj.2.2.2 j;have S:Hid (∀y:Int,y=(b:Int)->Ca 134 #[pX c,iX (kind:Int),iX y] wr λe w'=>e=returned (iX (H (p j) b).1)/\MwIs d w' c kb most (H (p j) b).2/\StayT wr w'):=aG wr _ f A o b (by omega) (by omega);have T:Hid (p (j+1)=(H (p j) b).2.put s b (H (p j) b).1):=by have F:=aj.2.2.1 j;rw[<-l] at F;exact F
   rw[<-l] at D E;have U:Hid (∀g,MwIs d g c kb most (H (p j) b).2->∀x:Int,Ca 135 #[pX c,iX (kind:Int),iX (b:Int),iX x] g λe w'=>e=rX/\MwIs d w' c kb most ((H (p j) b).2.put s b x)/\StayT g w'):=λg V x=>ai g _ V E D b (by omega) x;have W:Hid (b=0+j):=l;clear B f z A o R D E l;generalize (H (p j) b).1=X at *;generalize (H (p j) b).2=aq at *;go_wp2_with (first|(go_at_call 134;refine(S _ (by omega)).mono ?_;rintro e g ⟨rfl,Y,aa⟩)|(go_at_call 135;refine(U g Y X).mono ?_;rintro e ar ⟨rfl,ab,ac⟩))
   go_roundg (128-(j+1))
   case measure=>rw[C.out.1];omega
   case rel=>exact⟨j+1,b+1,rfl,by omega,by have:=W.out;omega,by go_num,by rw[T.out];exact ab,(C.2.2.trans aa).trans ac⟩
  ·have P:128<=(b:Int):=by omega
   have G:j=128:=by omega
   have aA:Hid (MwIs d wr c kb most aP/\StayT w wr):=by
    rw[G,aj.out.2.1] at f;exact⟨f,z⟩
   clear B f z C G O N l;go_wp2_with fail;go_loopg [6] 30 (λq v wr=>∃j b:Nat,q=30-j/\j<=30/\b=194+j/\v=iX (b:Int)/\MwIs d wr c kb most (r j)/\StayT w wr)
   case atStart=>exact⟨0,194,rfl,lX,rfl,rfl,by rw[ak.out.1];exact aA.1,aA.2⟩
   case round=>
    obtain⟨j,b,B,N,l,rfl,f,z⟩:=hrel;have C:Hid (gk=30-j/\MwIs d wr c kb most (r j)/\StayT w wr):=⟨B,f,z⟩
    by_cases O:j<30
    ·have P:(b:Int)<=223:=by omega
     have ap:(b:Int)<256:=by omega
     have ⟨A,o,R,D,E⟩:=ak.2.2.2 j;have S:Hid (∀y:Int,y=((b:Int)-192)*64->Ca 136 #[pX c,iX (kind:Int),iX y,iX 1] wr λe w'=>e=returned (iX (I (r j) b).1)/\MwIs d w' c kb most (I (r j) b).2/\StayT wr w'):=aH wr _ f A o b (by omega) (by omega);have T:Hid (r (j+1)=(I (r j) b).2.put s b (I (r j) b).1):=by have F:=ak.2.2.1 j;rw[<-l] at F;exact F
     rw[<-l] at D E;have U:Hid (∀g,MwIs d g c kb most (I (r j) b).2->∀x:Int,Ca 135 #[pX c,iX (kind:Int),iX (b:Int),iX x] g λe w'=>e=rX/\MwIs d w' c kb most ((I (r j) b).2.put s b x)/\StayT g w'):=λg V x=>ai g _ V E D b (by omega) x;have W:Hid (b=194+j):=l;clear B f z A o R D E l;generalize (I (r j) b).1=X at *;generalize (I (r j) b).2=aq at *;go_wp2_with (first|(go_at_call 136;refine(S _ (by omega)).mono ?_;rintro e g ⟨rfl,Y,aa⟩)|(go_at_call 135;refine(U g Y X).mono ?_;rintro e ar ⟨rfl,ab,ac⟩))
     go_roundg (30-(j+1))
     case measure=>rw[C.out.1];omega
     case rel=>exact⟨j+1,b+1,rfl,by omega,by have:=W.out;omega,by go_num,by rw[T.out];exact ab,(C.2.2.trans aa).trans ac⟩
    ·have P:223<(b:Int):=by omega
     have G:j=30:=by omega
     have aB:Hid (MwIs d wr c kb most aR/\StayT w wr):=by
      rw[G,ak.out.2.1] at f;exact⟨f,z⟩
     clear B f z C G O N l;go_wp2_with fail;go_loopg [8] 16 (λq v wr=>∃j b:Nat,q=16-j/\j<=16/\b=224+j/\v=iX (b:Int)/\MwIs d wr c kb most (t j)/\StayT w wr)
     case atStart=>exact⟨0,224,rfl,lX,rfl,rfl,by rw[al.out.1];exact aB.1,aB.2⟩
     case round=>
      obtain⟨j,b,B,N,l,rfl,f,z⟩:=hrel;have C:Hid (gk=16-j/\MwIs d wr c kb most (t j)/\StayT w wr):=⟨B,f,z⟩
      by_cases O:j<16
      ·have P:(b:Int)<=239:=by omega
       have ap:(b:Int)<256:=by omega
       have ⟨A,o,R,D,E⟩:=al.2.2.2 j;have S:Hid (∀y:Int,y=((b:Int)-224)*4096->Ca 136 #[pX c,iX (kind:Int),iX y,iX 64] wr λe w'=>e=returned (iX (J (t j) b).1)/\MwIs d w' c kb most (J (t j) b).2/\StayT wr w'):=aI wr _ f A o b (by omega) (by omega);have T:Hid (t (j+1)=(J (t j) b).2.put s b (J (t j) b).1):=by have F:=al.2.2.1 j;rw[<-l] at F;exact F
       rw[<-l] at D E;have U:Hid (∀g,MwIs d g c kb most (J (t j) b).2->∀x:Int,Ca 135 #[pX c,iX (kind:Int),iX (b:Int),iX x] g λe w'=>e=rX/\MwIs d w' c kb most ((J (t j) b).2.put s b x)/\StayT g w'):=λg V x=>ai g _ V E D b (by omega) x;have W:Hid (b=224+j):=l;clear B f z A o R D E l;generalize (J (t j) b).1=X at *;generalize (J (t j) b).2=aq at *;go_wp2_with (first|(go_at_call 136;refine(S _ (by omega)).mono ?_;rintro e g ⟨rfl,Y,aa⟩)|(go_at_call 135;refine(U g Y X).mono ?_;rintro e ar ⟨rfl,ab,ac⟩))
       go_roundg (16-(j+1))
       case measure=>rw[C.out.1];omega
       case rel=>exact⟨j+1,b+1,rfl,by omega,by have:=W.out;omega,by go_num,by rw[T.out];exact ab,(C.2.2.trans aa).trans ac⟩
      ·have P:239<(b:Int):=by omega
       have G:j=16:=by omega
       have aC:Hid (MwIs d wr c kb most aT/\StayT w wr):=by
        rw[G,al.out.2.1] at f;exact⟨f,z⟩
       clear B f z C G O N l;go_wp2_with fail;go_loopg [10] 5 (λq v wr=>∃j b:Nat,q=5-j/\j<=5/\b=240+j/\v=iX (b:Int)/\MwIs d wr c kb most (u j)/\StayT w wr)
       case atStart=>exact⟨0,240,rfl,lX,rfl,rfl,by rw[am.out.1];exact aC.1,aC.2⟩
       case round=>
        obtain⟨j,b,B,N,l,rfl,f,z⟩:=hrel;have C:Hid (gk=5-j/\MwIs d wr c kb most (u j)/\StayT w wr):=⟨B,f,z⟩
        by_cases O:j<5
        ·have P:(b:Int)<=244:=by omega
         have ap:(b:Int)<256:=by omega
         have ⟨A,o,R,D,E⟩:=am.2.2.2 j;have S:Hid (∀y:Int,y=((b:Int)-240)*262144->Ca 136 #[pX c,iX (kind:Int),iX y,iX 4096] wr λe w'=>e=returned (iX (K (u j) b).1)/\MwIs d w' c kb most (K (u j) b).2/\StayT wr w'):=aJ wr _ f A o b (by omega) (by omega);have T:Hid (u (j+1)=(K (u j) b).2.put s b (K (u j) b).1):=by have F:=am.2.2.1 j;rw[<-l] at F;exact F
         rw[<-l] at D E;have U:Hid (∀g,MwIs d g c kb most (K (u j) b).2->∀x:Int,Ca 135 #[pX c,iX (kind:Int),iX (b:Int),iX x] g λe w'=>e=rX/\MwIs d w' c kb most ((K (u j) b).2.put s b x)/\StayT g w'):=λg V x=>ai g _ V E D b (by omega) x;have W:Hid (b=240+j):=l;clear B f z A o R D E l;generalize (K (u j) b).1=X at *;generalize (K (u j) b).2=aq at *;go_wp2_with (first|(go_at_call 136;refine(S _ (by omega)).mono ?_;rintro e g ⟨rfl,Y,aa⟩)|(go_at_call 135;refine(U g Y X).mono ?_;rintro e ar ⟨rfl,ab,ac⟩))
         go_roundg (5-(j+1))
         case measure=>rw[C.out.1];omega
         case rel=>exact⟨j+1,b+1,rfl,by omega,by have:=W.out;omega,by go_num,by rw[T.out];exact ab,(C.2.2.trans aa).trans ac⟩
        ·have P:244<(b:Int):=by omega
         have G:j=5:=by omega
         have aD:Hid (MwIs d wr c kb most aV/\StayT w wr):=by
          rw[G,am.out.2.1] at f;exact⟨f,z⟩
         clear B f z C G O N l;go_wp2_with fail;go_end0;exact⟨rfl,aD.1,aD.2⟩
def Mk.blank:Mk:=⟨[],[],[],false⟩
def Mk.withOf (m:Mk)(l:List Int):Mk:={m with of:=l}
def zG (k:Kd)(most:Nat):Nat->Mk
 |0=>Mk.blank.add most (-1)
 |j+1=>if j=k.dead then(zG k most j).withOf ((zG k most j).of++[0]) else((zG k most j).add most (k.rules.getD j 0)).withOf ((zG k most j).of++[((zG k most j).addN most:Int)])
theorem zFi {m:Mk}{most:Nat}(a:m.Fit most)(l:List Int):(m.withOf l).Fit most:=⟨a.same,a.few⟩
theorem zCv (k:Kd)(most j:Nat):(zG k most j).Fit most/\(zG k most j).of.length=j:=by
 induction j with
 |zero=>exact⟨zFd ⟨rfl,lX⟩ _,by show(Mk.blank.add most (-1)).of.length=0;rw[zDn];rfl⟩
 |succ j a=>
  unfold zG;split
  ·exact⟨zFi a.1 _,by show((zG k most j).of++[0]).length=j+1;rw[kX,a.2];rfl⟩
  ·exact⟨zFi (zFd a.1 _) _,by show((zG k most j).of++[_]).length=j+1;rw[kX,a.2];rfl⟩
theorem zGs (f w:World)(c kb most:Nat)(ac:MwIs f w c kb most Mk.blank)(aC:most<=1000000)(k:Kd)(a:Ar)(ad:KdAt f kb a k)(ae:k.rules.length=k.rows.length)(aY:k.rows.length<=10000000000):
  Calls prog 96 #[pX c] w λe w'=>e=rX/\MwIs f w' c kb most (zG k most k.rows.length)/\StayT w w':=by
 have ⟨af,ag,ah,ai,aj⟩:=info_parts yW;have ak:Hid (∀wr m2,MwIs f wr c kb most m2->m2.Fit most->∀r:Int,Ca 133 #[pX c,iX r] wr λe w'=>e=returned (iX ((m2.addN most:Nat):Int))/\MwIs f w' c kb most (m2.add most r)/\StayT wr w'):=λwr m2 l al r=>zER f wr c kb most m2 l aC (by have:=al.same;have:=al.few;omega) r;have aD:Hid (Mk.blank.Fit most):=⟨rfl,lX⟩
 have aE:=vl ac;have am:Hid (∀wr m2,MwIs f wr c kb most m2->∃R I A J,wr.cell? ⟨c,0,none⟩=some (pX kb)/\wr.cell? ⟨kb,3,none⟩=some (slice R k.rows.length I)/\wr.cell? ⟨kb,4,none⟩=some (slice A k.rows.length J)/\wr.cell? ⟨kb,6,none⟩=some (iX (k.dead:Int))/\∀i,i<k.rows.length->∃b o,A=some ⟨b,o,none⟩/\wr.cell? ⟨b,o+i,none⟩=some (iX (k.rules.getD i 0))):=by
  rintro wr m2 ⟨S,rv,ap,T,l⟩;have ⟨aZ,lv,tv,sv,R,a0,B,a1,aF,aG⟩:=ad.grown l.keep;obtain⟨aH,I,rfl,-⟩:=aF;obtain⟨A,J,rfl,_,_,aq⟩:=aG;rw[kV] at B;rw[ae] at B aq;refine⟨aH,I,A,J,l.cells.1,?_,?_,?_,λi aI=>?_⟩
  ·unfold cell?;rw[B];rfl
  ·unfold cell?;rw[B];rfl
  ·unfold cell?;rw[B];rfl
  ·have ⟨b,o,aJ,_,aK⟩:=aq i aI
   exact⟨b,o,aJ,aK⟩
 obtain⟨d,au⟩:∃d,d=zG k most:=⟨_,rfl⟩
 have p:Hid (d 0=Mk.blank.add most (-1)/\(∀j,j=k.dead->d (j+1)=(d j).withOf ((d j).of++[0]))/\(∀j,j≠k.dead->d (j+1)=((d j).add most (k.rules.getD j 0)).withOf ((d j).of++[((d j).addN most:Int)]))/\(∀j,(d j).Fit most/\(d j).of.length=j)/\d k.rows.length=zG k most k.rows.length):=by
  rw[au];exact⟨rfl,λj K=>if_pos K,λj K=>if_neg K,λj=>zCv k most j,rfl⟩
 generalize zG k most k.rows.length=aL at *;clear au ac ad ae;go_in;go_wp2_with (go_at_call 133;refine(ak w _ aE aD (-1)).mono ?_;rintro e w1 ⟨rfl,U,av⟩;obtain⟨R,I,A,J,aw,y3,V,ax,-⟩:=am w1 _ U;have ay:Hid (MwIs f w1 c kb most (d 0)/\StayT w w1):=⟨(by rw[p.out.1];exact U),av⟩;clear U av)
 clear aw y3 V ax;go_loopg [14] k.rows.length (λq i wr=>∃j:Nat,q=k.rows.length-j/\j<=k.rows.length/\i=iX (j:Int)/\MwIs f wr c kb most (d j)/\StayT w wr)
 case atStart=>exact⟨0,rfl,lX,rfl,ay.1,ay.2⟩
 case round=>
  obtain⟨j,L,K,rfl,l,C⟩:=hrel;have M:Hid (gk=k.rows.length-j/\MwIs f wr c kb most (d j)/\StayT w wr):=⟨L,l,C⟩
  have ⟨a2,a3,a4,a5,aw,y3,V,ax,N⟩:=am wr _ l;by_cases aM:j<k.rows.length
  ·have aN:(j:Int)<(k.rows.length:Int):=by omega
   obtain⟨b,o,rfl,aO⟩:=N j aM;by_cases O:j=k.dead
   ·have aP:((j:Int)==(k.dead:Int))=true:=by simp;omega
    have P:=vl <| p.2.1 j O;have t:=(p.2.2.2.1 j).2;obtain⟨S,rv,ap,T,g⟩:=l;have ⟨ao,z,D⟩:=g.oOwn.form;rw[t] at D;subst D;have W:=g.cells.2.2.2.2.2.1;have aQ:=g.lt;have aR:f.heap.size<=wr.heap.size:=g.keep.size;have v:=vl g;have X:wr.ownsRow f.heap.size 3 1 (slice ao j z) j ((d j).of.map λx=>iX x):=by have:=g.oOwn;unfold OwnI at this;rw[t] at this;exact this
    clear L C g N O y3 V aO;go_wp2_with (at_builtin;refine wpList_append_lies _ rfl _ _ 45 rfl (f.heap.size) 3 af zX 1 8 underlying45 ag ah ai aj rfl (by decide) _ _ _ rfl (X.alloc _) ⟨wr.heap.size,0,none⟩ 1 1 [zX] rfl rfl (cell_one_new _ _ _) (by intro u E;simp at E;subst E;rfl) (by decide) (by unfold maxLen;omega) (by omega) (by simp;omega) _ rfl ?_;intro aS cap m Y F aa aT;have G:m.heap[c]? =wr.heap[c]? :=(F.block _ (by simp;omega) v.box.2.2.1).trans (lG _ _ _ (by omega));have aU:m.cell? ⟨c,6,none⟩=some (slice ao j z):=(gW G).trans W;have aV:m.frozen? ⟨c,6,none⟩=false:=(gV G).trans (v.cells.2.2.2.2.2.2 6);have H:=v.newOf t.symm Y F (by rcases aa with y|y;exact .inl y;right;rw[y];simp))
    go_roundg (k.rows.length-(j+1))
    case measure=>rw[M.out.1];omega
    case rel=>exact⟨j+1,rfl,by omega,by go_num,by rw[P.out];exact⟨_,_,_,_,H.1⟩,M.2.2.trans H.2⟩
   ·have aP:((j:Int)==(k.dead:Int))=false:=by simp;omega
    have P:=vl <| p.2.2.1 j O;have t:((d j).add most (k.rules.getD j 0)).of.length=j:=by rw[zDn];exact(p.2.2.2.1 j).2
    have az:((d j).add most (k.rules.getD j 0)).of=(d j).of:=zDn _ _ _;rw[<-az] at P;have aW:Hid (Ca 133 #[pX c,iX (k.rules.getD j 0)] wr λe w'=>e=returned (iX (((d j).addN most:Nat):Int))/\MwIs f w' c kb most ((d j).add most (k.rules.getD j 0))/\StayT wr w'):=ak wr _ l (p.2.2.2.1 j).1 _;clear L l C N O y3 az;generalize k.rules.getD j 0=r at *;generalize (d j).addN most=s at *;generalize (d j).add most r=aA at *;go_wp2_with (first|(go_at_call 133;refine aW.mono ?_;rintro e m ⟨rfl,⟨S,rv,ap,T,g⟩,aX⟩;have ⟨ao,z,D⟩:=g.oOwn.form;rw[t] at D;subst D;have W:=g.cells.2.2.2.2.2.1;have aQ:=g.lt;have aR:f.heap.size<=m.heap.size:=g.keep.size;have v:Hid (Mw f m c kb most aA S rv (slice ao j z) T):=g;have X:m.ownsRow f.heap.size 3 1 (slice ao j z) j (aA.of.map λx=>iX x):=(by have:=g.oOwn;unfold OwnI at this;rw[t] at this;exact this);clear g)|(at_builtin;refine wpList_append_lies _ rfl _ _ 45 rfl (f.heap.size) 3 af zX 1 8 underlying45 ag ah ai aj rfl (by decide) _ _ _ rfl (X.alloc _) ⟨m.heap.size,0,none⟩ 1 1 [iX (s:Int)] rfl rfl (cell_one_new _ _ _) (by intro u E;simp at E;subst E;rfl) (by decide) (by unfold maxLen;omega) (by omega) (by simp;omega) _ rfl ?_;intro aS cap ab Y F aa aT;have G:ab.heap[c]? =m.heap[c]? :=(F.block _ (by simp;omega) v.box.2.2.1).trans (lG _ _ _ (by omega));have aU:ab.cell? ⟨c,6,none⟩=some (slice ao j z):=(gW G).trans W;have aV:ab.frozen? ⟨c,6,none⟩=false:=(gV G).trans (v.cells.2.2.2.2.2.2 6);have H:=v.newOf t.symm Y F (by rcases aa with y|y;exact .inl y;right;rw[y];simp)))
    go_roundg (k.rows.length-(j+1))
    case measure=>rw[M.out.1];omega
    case rel=>exact⟨j+1,rfl,by omega,by go_num,by rw[P.out];exact⟨_,_,_,_,H.1⟩,(M.2.2.trans aX).trans H.2⟩
  ·have aN:(k.rows.length:Int)<=(j:Int):=by omega
   have e:j=k.rows.length:=by omega
   subst e;have aB:Hid (MwIs f wr c kb most aL/\StayT w wr):=⟨by rw[<-p.out.2.2.2.2];exact l,C⟩
   clear L l C N;go_wp2;go_end0;exact⟨rfl,aB.1,aB.2⟩
theorem zBV {m:Mk}{most:Nat}{r:Int}(a:(m.add most r).full=false):m.full=false/\(m.add most r).next.length=m.next.length+1/\m.addN most=m.next.length:=by
 unfold Mk.add at a ⊢;unfold Mk.addN;by_cases e:most<=m.next.length
 ·rw[if_pos e] at a
  exact absurd a (by simp)
 ·rw[if_neg e] at a
  rw[if_neg e,if_neg e];exact⟨a,by show(m.next++[zeros]).length=_;simp,rfl⟩
structure Mk.Has (m:Mk):Prop where
 one:1<=m.next.length
 of:∀x∈m.of,0<=x/\x<(m.next.length:Int)
theorem zGV (k:Kd)(most j:Nat)(c:(zG k most j).full=false):(zG k most j).Has:=by
 induction j with
 |zero=>
  have a:=zBV (m:=Mk.blank) (most:=most) (r:=-1) c;exact⟨by show 1<=(Mk.blank.add most (-1)).next.length;rw[a.2.1];omega,λx b=>by rw[show (zG k most 0).of=[] from zDn _ _ _] at b;exact absurd b List.not_mem_nil⟩
 |succ j f=>
  unfold zG at c ⊢;split at c
  ·rename_i d
   rw[if_pos d];have:=f c;refine⟨this.one,λx b=>?_⟩;rcases kU.1 b with a|a
   ·exact this.of x a
   ·rw[kY.1 a]
    have:=this.one;exact⟨by omega,by show(0:Int)<((zG k most j).next.length:Nat);omega⟩
  ·rename_i d
   rw[if_neg d];have a:=zBV (m:=zG k most j) (most:=most) (r:=k.rules.getD j 0) c;have g:=f a.1;have l:=g.one;refine⟨by show 1<=((zG k most j).add most (k.rules.getD j 0)).next.length;omega,λx b=>?_⟩;show 0<=x/\x<(((zG k most j).add most (k.rules.getD j 0)).next.length:Nat);rw[a.2.1];rcases kU.1 b with e|e
   ·have:=g.of x e
    omega
   ·rw[kY.1 e,a.2.2]
    omega
def yY (k:Kd)(a:Ar)(most:Nat):Nat->Mk
 |0=>zG k most k.rows.length
 |j+1=>if j≠k.dead/\(yY k a most j).full=false then zAC k a most j ((yY k a most j).of.getD j 0).toNat (yY k a most j) else yY k a most j
theorem zCC (k:Kd)(a:Ar)(most j:Nat):(yY k a most j).Fit most/\(yY k a most j).of=(zG k most k.rows.length).of/\(zG k most k.rows.length).next.length<=(yY k a most j).next.length/\((yY k a most j).full=false->(zG k most k.rows.length).full=false):=by
 induction j with
 |zero=>exact⟨(zCv k most _).1,rfl,lQ,id⟩
 |succ j b=>
  unfold yY;split
  ·rename_i c
   have:=zK2 k a j ((yY k a most j).of.getD j 0).toNat b.1;exact⟨this.1,this.2.1.trans b.2.1,lY b.2.2.1 this.2.2,λ_=>b.2.2.2 c.2⟩
  ·exact b
theorem zJp (k:Kd)(a:Ar)(most j:Nat)(e:(yY k a most j).full=false):(yY k a most j).Has/\(yY k a most j).of.length=k.rows.length:=by
 have ⟨_,b,g,f⟩:=zCC k a most j;have c:=zGV k most k.rows.length (f e);have:=c.one;refine⟨⟨by omega,λx d=>?_⟩,by rw[b];exact(zCv k most _).2⟩;rw[b] at d;have:=c.of x d;omega
def xQ (k:Kd)(a:Ar)(most:Nat):Mk:=yY k a most k.rows.length
theorem Mw.tables {l w:World}{o kb most j:Nat}{m:Mk}{p rv B:Value}{q:Nat->Nat}{c:Array Value}(a:Mw l w o kb most m p rv B q)(r:w.heap[j]? =some (.cells c 127)):IntRows w (λg=>g<w.heap.size/\g≠o/\g≠j/\l.heap.size<=g) p m.next/\Ints w (λg=>g<w.heap.size/\g≠o/\g≠j/\l.heap.size<=g) rv m.rules:=by
 have s:=a.box;have C:=zO a.nOwn r (by decide);have D:=zO a.rOwn r (by decide);have E:∀i,i<m.next.length->q i≠j:=λi d e=>by
  have:=(a.each i d).1;rw[e,r] at this;simp at this
 constructor
 ·by_cases v:m.next.length=0
  ·rcases a.nOwn.2 with⟨f,_⟩|⟨g,cap,G,f,x,H,t,u,y,I⟩
   ·exact⟨none,0,by rw[f,v],by rw[v];exact lQ,by unfold maxLen;omega,λi d=>by omega⟩
   ·exact⟨_,cap,f,t,u,λi d=>by omega⟩
  ·have ⟨g,cap,f,x,F,t,u,y,_⟩:=a.nOwn.get (by omega)
   have z:p.ownBlock=some g:=by rw[f];rfl
   refine⟨_,cap,f,t,u,λi d=>⟨g,0,_,rfl,⟨F,λe=>s.1 (by rw[z,e]),λe=>C (by rw[z,e]),x⟩,by rw[Nat.zero_add];exact y i d,?_⟩⟩;have A:=(a.each i d).2.2;exact⟨_,256,by rw[A],by rw[A];exact lQ,by unfold maxLen;omega,λb J=>⟨q i,0,rfl,⟨a.gl i d,s.2.2.2 i d,E i d,(a.each i d).2.1⟩,by rw[Nat.zero_add];exact(a.row i b d (by omega)).1⟩⟩
 ·exact zCc a.rOwn λg k=>⟨(a.rOwn.lt g k).2,λe=>s.2.1 (by rw[k,e]),λe=>D (by rw[k,e]),(a.rOwn.lt g k).1⟩
theorem IntRows.moved {w w':World}{S a:Nat->Prop}{v:Value}{l:List (List Int)}(c:IntRows w S v l)(e:∀b,S b->w'.heap[b]? =w.heap[b]?)(d:∀b,S b->a b):IntRows w' a v l:=(c.keep e).mono d
def zDU (w:World)(k:Kd)(a:Ar)(most:Nat)(e:Ending)(w':World):Prop:=
 Grew w w'/\(((xQ k a most).full=true/\e=returned (tuple #[agg #[slice none 0 0,slice none 0 0,int i64 0],bool false]))\/((xQ k a most).full=false/\∃nv rv,e=returned (tuple #[agg #[nv,rv,int i64 ((xQ k a most).of.getD k.start 0)],bool true])/\IntRows w' (λg=>w.heap.size<=g/\g<w'.heap.size) nv (xQ k a most).next/\Ints w' (λg=>w.heap.size<=g/\g<w'.heap.size) rv (xQ k a most).rules))
theorem Mw.begin {b w:World}{kb most:Nat}(c:Grew b w):Mw b (w.alloc (.cells #[pX kb,iX (most:Int),bool false,nX,nX,zX,nX] 183)) w.heap.size kb most Mk.blank nX nX nX (λ_=>0):=
 ⟨gY _ _,ownsRow_nil _ _ _ _,λi a=>absurd a (Nat.not_lt_zero _),OwnI.nil _ _,OwnI.nil _ _,λi j a=>absurd a (Nat.not_lt_zero _),λi a=>absurd a (Nat.not_lt_zero _),λi a=>absurd a (Nat.not_lt_zero _),λg d=>(by cases d),c.size,c.trans (kZ _ _ c.size)⟩
theorem zHK (w:World)(kb most:Nat)(ag:most<=1000000)(k:Kd)(a:Ar)(R:KdAt w kb a k)(ok:k.Ok a)(aB:k.rows.length<=10000000000):
  Calls prog 62 #[pX kb,iX (most:Int)] w (zDU w k a most):=by
 obtain⟨w1,ah,H⟩:∃w1,w1=w.alloc (.cells #[nX,nX,zX] 127)/\Hid (Grew w w1/\w1.heap.size=w.heap.size+1/\w1.heap[w.heap.size]? =some (.cells #[nX,nX,zX] 127)):=⟨_,rfl,kZ _ _ lQ,by simp,gY _ _⟩
 obtain⟨w2,ai,aj⟩:∃w2,w2=w1.alloc (.cells #[pX kb,iX (most:Int),fX,nX,nX,zX,nX] 183)/\Hid (MwIs w w2 (w.heap.size+1) kb most Mk.blank/\w2.heap[w.heap.size]? =some (.cells #[nX,nX,zX] 127)):=by
  refine⟨_,rfl,⟨nX,nX,nX,λ_=>0,?_⟩,?_⟩
  ·have s:=Mw.begin (kb:=kb) (most:=most) H.1
   rw[H.out.2.1] at s;exact s
  ·exact(lG _ _ _ (by rw[H.out.2.1];omega)).trans H.2.2
 have aC:=vl H.2.1;have aD:=vl <| zGs w w2 (w.heap.size+1) kb most aj.1 ag k a R ok.lens aB;have ak:Hid (∀wr m2,MwIs w wr (w.heap.size+1) kb most m2->∃S P,wr.cell? ⟨w.heap.size+1,2,none⟩=some (bool m2.full)/\wr.cell? ⟨kb,3,none⟩=some (slice S k.rows.length P)/\wr.cell? ⟨kb,5,none⟩=some (iX (k.start:Int))/\wr.cell? ⟨kb,6,none⟩=some (iX (k.dead:Int))/\kb<wr.heap.size):=by
  rintro wr m2 ⟨I,rv,al,am,m⟩;have ⟨ap,lv,tv,sv,S,bc,aq,bd,aE,be⟩:=R.grown m.keep;obtain⟨x,P,rfl,-⟩:=aE;rw[kV] at aq;refine⟨x,P,m.cells.2.2.1,?_,?_,?_,ap⟩
  all_goals (unfold cell?;rw[aq];rfl)
 obtain⟨d,aF⟩:∃d,d=yY k a most:=⟨_,rfl⟩
 have y:Hid (d 0=zG k most k.rows.length/\(∀j,j≠k.dead->(d j).full=false->d (j+1)=zAC k a most j ((d j).of.getD j 0).toNat (d j))/\(∀j,¬(j≠k.dead/\(d j).full=false)->d (j+1)=d j)/\(∀j,(d j).Fit most)/\(∀j,(d j).full=false->(d j).Has/\(d j).of.length=k.rows.length)/\d k.rows.length=xQ k a most):=by
  rw[aF];exact⟨rfl,λj F T=>if_pos ⟨F,T⟩,λj s=>if_neg s,λj=>(zCC k a most j).1,λj s=>zJp k a most j s,rfl⟩
 have aG:Hid (∀wr j,j<k.rows.length->MwIs w wr (w.heap.size+1) kb most (d j)->(d j).full=false->Ca 97 #[pointer (some ⟨w.heap.size+1,0,none⟩),iX ((j:Nat):Int)] wr λe w'=>e=rX/\MwIs w w' (w.heap.size+1) kb most (zAC k a most j ((d j).of.getD j 0).toNat (d j))/\StayT wr w'):=λwr j au m aH=>by
  have ⟨U,J⟩:=y.2.2.2.2.1 j aH;have bf:=U.of _ (zV (d j).of j 0 (by omega));exact zKZ w wr (w.heap.size+1) kb most (d j) m ag (y.2.2.2.1 j) k a R ok j _ au J (by omega) (by omega)
 have bg:=ok.start;generalize aI:xQ k a most=c at *;have av:Hid (∀e w',zDU w k a most e w'↔Grew w w'/\((c.full=true/\e=returned (tuple #[agg #[nX,nX,zX],fX]))\/(c.full=false/\∃I rv,e=returned (tuple #[agg #[I,rv,iX (c.of.getD k.start 0)],tX])/\IntRows w' (λg=>w.heap.size<=g/\g<w'.heap.size) I c.next/\Ints w' (λg=>w.heap.size<=g/\g<w'.heap.size) rv c.rules))):=λe w'=>by unfold zDU;rw[aI]
 go_in;apply wp_cut;intro aJ K;go_wp2;apply K.out;clear K;rw[<-ah];clear ah;apply wp_cut;intro aJ K;go_wp2;apply K.out;clear K;rw[<-ai,aC.out];clear ai;go_wp2_with (go_at_call 96;refine aD.mono ?_;rintro e V ⟨rfl,W,aw⟩;obtain⟨S,P,z,y3,y5,X,-⟩:=ak V _ W;have ax:Hid (MwIs w V (w.heap.size+1) kb most (d 0)/\V.heap[w.heap.size]? =some (.cells #[nX,nX,zX] 127)):=⟨(by rw[y.out.1];exact W),aw _ _ _ aj.2 (by decide) (by decide) (by decide)⟩;clear W aw z y5 X)
 clear y3;go_loopg [19] k.rows.length (λq i wr=>∃j:Nat,q=k.rows.length-j/\j<=k.rows.length/\i=iX (j:Int)/\MwIs w wr (w.heap.size+1) kb most (d j)/\wr.heap[w.heap.size]? =some (.cells #[nX,nX,zX] 127))
 case atStart=>exact⟨0,rfl,lX,rfl,ax.1,ax.2⟩
 case round=>
  obtain⟨j,G,au,rfl,m,r⟩:=hrel;have A:Hid (gk=k.rows.length-j/\MwIs w wr (w.heap.size+1) kb most (d j)/\wr.heap[w.heap.size]? =some (.cells #[nX,nX,zX] 127)):=⟨G,m,r⟩
  have ⟨bh,bi,z,y3,y5,X,ap⟩:=ak wr _ m;by_cases aK:j<k.rows.length
  ·have aL:(j:Int)<(k.rows.length:Int):=by omega
   by_cases L:j=k.dead
   ·have aM:((j:Int) != (k.dead:Int))=false:=by simp;omega
    have M:=vl <| y.2.2.1 j λs=>s.1 L;clear G m r L y3 y5;generalize (d j).full=bj at *;go_wp2;go_roundg (k.rows.length-(j+1))
    case measure=>rw[A.out.1];omega
    case rel=>exact⟨j+1,rfl,by omega,by go_num,by rw[M.out];exact A.2.1,A.2.2⟩
   ·have aM:((j:Int) != (k.dead:Int))=true:=by simp;omega
    cases o:(d j).full with
    |true=>
     rw[o] at z;have M:=vl <| y.2.2.1 j λs=>by rw[o] at s;exact absurd s.2 (by decide)
     clear G m r L y3 y5 o;go_wp2;go_roundg (k.rows.length-(j+1))
     case measure=>rw[A.out.1];omega
     case rel=>exact⟨j+1,rfl,by omega,by go_num,by rw[M.out];exact A.2.1,A.2.2⟩
    |false=>
     rw[o] at z;have M:=vl <| y.2.1 j L o;have aN:=vl <| aG wr j aK m o;clear G m r L y3 y5 o;generalize zAC k a most j ((d j).of.getD j 0).toNat (d j)=bk at *;go_wp2_with (go_at_call 97;refine aN.mono ?_;rintro e bl ⟨rfl,aO,aP⟩)
     go_roundg (k.rows.length-(j+1))
     case measure=>rw[A.out.1];omega
     case rel=>exact⟨j+1,rfl,by omega,by go_num,by rw[M.out];exact aO,aP _ _ _ A.2.2 (by decide) (by decide) (by decide)⟩
  ·have aL:(k.rows.length:Int)<=(j:Int):=by omega
   have e:j=k.rows.length:=by omega
   subst e;rw[y.out.2.2.2.2.2] at m z;have Y:Hid (MwIs w wr (w.heap.size+1) kb most c/\wr.heap[w.heap.size]? =some (.cells #[nX,nX,zX] 127)):=⟨m,r⟩
   have ay:Hid (c.full=false->c.Has/\c.of.length=k.rows.length):=by have:=y.2.2.2.2.1 k.rows.length;rw[y.out.2.2.2.2.2] at this;exact this
   have bm:w.heap.size<wr.heap.size:=(kQ.1 r).1;have aQ:wr.cell? ⟨w.heap.size,0,none⟩=some nX:=by unfold cell?;rw[r];rfl
   have aR:wr.cell? ⟨w.heap.size,1,none⟩=some nX:=by unfold cell?;rw[r];rfl
   have aS:wr.cell? ⟨w.heap.size,2,none⟩=some zX:=by unfold cell?;rw[r];rfl
   have aa:Hid (∀i,wr.frozen? ⟨w.heap.size,i,none⟩=false):=λi=>by unfold frozen?;rw[r];simp
   have aT:=aa 0;have aU:=aa 1;have q2:=aa 2;cases o:c.full with
   |true=>
    rw[o] at z;have ab:=vl o;clear G m r o;go_wp2;obtain⟨l,N,c0,c1,c2,O⟩:∃l,l=((wr.setCell ⟨w.heap.size,0,none⟩ nX).setCell ⟨w.heap.size,1,none⟩ nX).setCell ⟨w.heap.size,2,none⟩ (Value.int IntKind.i64 0)/\l.cell? ⟨w.heap.size,0,none⟩=some nX/\l.cell? ⟨w.heap.size,1,none⟩=some nX/\l.cell? ⟨w.heap.size,2,none⟩=some zX/\Hid (Grew w l):=by
     have ⟨⟨I,rv,al,am,p⟩,r⟩:=Y.out;refine⟨_,rfl,?_,?_,?_,p.keep.trans (((zQ _ _ _ _ lQ).trans (zQ _ _ _ _ lQ)).trans (zQ _ _ _ _ lQ))⟩
     all_goals simp[World.cell?,setCell,lU,r]
    rw[<-N];clear N;refine gJ (v:=tuple #[agg #[nX,nX,zX],fX]) (by simp[results,results62,go_sem,c0,c1,c2]) rfl ?_;exact(av _ _).2 ⟨O,.inl ⟨ab,rfl⟩⟩
   |false=>
    rw[o] at z;have ab:=vl o;have ⟨U,J⟩:=ay o;obtain⟨I,rv,al,am,p⟩:=m;have ⟨x,B,aV⟩:=zF p.nOwn;have ⟨C,D,aW⟩:=p.rOwn.form;have ⟨ao,aX,aY⟩:=p.oOwn.form;subst aV aW aY;obtain⟨go,rfl⟩:=p.oOwn.some (by omega);have aZ:=p.oOwn.cell k.start (by omega);rw[J] at p;have a0:=p.cells.2.2.2.2.2.1;have a1:=p.cells.2.2.2.1;have a2:=p.cells.2.2.2.2.1;have a3:wr.cell? ⟨w.heap.size+1,5,none⟩=some zX:=by unfold cell?;rw[p.blk];rfl
    have a4:=p.cells.2.2.2.2.2.2 5;have bn:(k.start:Int)<(k.rows.length:Int):=by omega
    have ac:=vl p;have bo:=vl J;have bp:Hid (c.of.getD k.start 0=c.of.getD k.start 0):=rfl;clear G r o U p J ay;generalize c.of.getD k.start 0=t at *;go_wp2;go_region;obtain⟨f,az,bq,br,bs,v0,v1,v2,bt,bu,bv,a5⟩:∃f,f=(wr.setCell ⟨w.heap.size+1,5,none⟩ (iX t)).drew/\f.cell? ⟨w.heap.size+1,3,none⟩=some (slice x c.next.length B)/\f.cell? ⟨w.heap.size+1,4,none⟩=some (slice C c.rules.length D)/\f.cell? ⟨w.heap.size+1,5,none⟩=some (iX t)/\f.cell? ⟨w.heap.size,0,none⟩=some nX/\f.cell? ⟨w.heap.size,1,none⟩=some nX/\f.cell? ⟨w.heap.size,2,none⟩=some zX/\f.frozen? ⟨w.heap.size,0,none⟩=false/\f.frozen? ⟨w.heap.size,1,none⟩=false/\f.frozen? ⟨w.heap.size,2,none⟩=false/\Hid (f.heap[w.heap.size]? =some (.cells #[nX,nX,zX] 127)/\f.heap.size=wr.heap.size/\f.os=wr.os/\f.output=wr.output/\∀k,k≠w.heap.size+1->f.heap[k]? =wr.heap[k]?):=by
     have e:∀k,k≠w.heap.size+1->((wr.setCell ⟨w.heap.size+1,5,none⟩ (iX t)).drew).heap[k]? =wr.heap[k]? :=λk a6=>lJ _ _ _ _ a6;have E:=(e w.heap.size (by omega)).trans Y.2;have ad:((wr.setCell ⟨w.heap.size+1,5,none⟩ (iX t)).drew).heap[w.heap.size+1]? =some (.cells #[pX kb,iX (most:Int),bool c.full,slice x c.next.length B,slice C c.rules.length D,iX t,slice (qX go) k.rows.length aX] 183):=by
      show(wr.setCell ⟨w.heap.size+1,5,none⟩ (iX t)).heap[w.heap.size+1]? =_;simp[setCell,lU,ac.out.blk]
     refine⟨_,rfl,?_,?_,?_,?_,?_,?_,?_,?_,?_,E,zD _ _ _,rfl,rfl,e⟩
     ·unfold cell?;rw[ad];rfl
     ·unfold cell?;rw[ad];rfl
     ·unfold cell?;rw[ad];rfl
     ·unfold cell?;rw[E];rfl
     ·unfold cell?;rw[E];rfl
     ·unfold cell?;rw[E];rfl
     ·unfold frozen?;rw[E];rfl
     ·unfold frozen?;rw[E];rfl
     ·unfold frozen?;rw[E];rfl
    rw[<-az];clear az a1 a2 a3 a0 aZ a4 aQ aR aS aT aU q2 z y3 y5 X;go_wp2;obtain⟨l,N,c0,c1,c2,O⟩:∃l,l=((f.setCell ⟨w.heap.size,0,none⟩ (Value.slice x c.next.length B)).setCell ⟨w.heap.size,1,none⟩ (Value.slice C c.rules.length D)).setCell ⟨w.heap.size,2,none⟩ (Value.int IntKind.i64 t)/\l.cell? ⟨w.heap.size,0,none⟩=some (slice x c.next.length B)/\l.cell? ⟨w.heap.size,1,none⟩=some (slice C c.rules.length D)/\l.cell? ⟨w.heap.size,2,none⟩=some (iX t)/\Hid (Grew w l/\IntRows l (λg=>w.heap.size<=g/\g<l.heap.size) (slice x c.next.length B) c.next/\Ints l (λg=>w.heap.size<=g/\g<l.heap.size) (slice C c.rules.length D) c.rules):=by
     have ⟨a7,a8,a9,ba,bb⟩:=a5.out;have aA:=ac.tables Y.2;have ae:∀k,k≠w.heap.size->k≠w.heap.size+1->(((f.setCell ⟨w.heap.size,0,none⟩ (Value.slice x c.next.length B)).setCell ⟨w.heap.size,1,none⟩ (Value.slice C c.rules.length D)).setCell ⟨w.heap.size,2,none⟩ (Value.int IntKind.i64 t)).heap[k]? =wr.heap[k]? :=λk F T=>(lJ _ _ _ _ F).trans ((lJ _ _ _ _ F).trans ((lJ _ _ _ _ F).trans (bb k T)));have af:(((f.setCell ⟨w.heap.size,0,none⟩ (Value.slice x c.next.length B)).setCell ⟨w.heap.size,1,none⟩ (Value.slice C c.rules.length D)).setCell ⟨w.heap.size,2,none⟩ (Value.int IntKind.i64 t)).heap.size=wr.heap.size:=by rw[zD,zD,zD];exact a8
     refine⟨_,rfl,?_,?_,?_,ac.keep.trans ⟨a9,ba,by rw[af];exact lQ,λk F _=>ae k (by omega) (by omega)⟩,aA.1.moved (λb u=>ae b u.2.2.1 u.2.1) (λb u=>⟨u.2.2.2,by rw[af];exact u.1⟩),(aA.2.keep λb u=>ae b u.2.2.1 u.2.1).mono λb u=>⟨u.2.2.2,by rw[af];exact u.1⟩⟩
     all_goals simp[World.cell?,setCell,lU,a7]
    rw[<-N];clear N;refine gJ (v:=tuple #[agg #[slice x c.next.length B,slice C c.rules.length D,iX t],tX]) (by simp[results,results62,go_sem,c0,c1,c2]) rfl ?_;exact(av _ _).2 ⟨O.1,.inr ⟨ab,_,_,rfl,O.2.1,O.2.2⟩⟩
section
def jQ (ps:List (Value×Bool)):List Value:=ps.flatMap λp=>[p.1,bool p.2]
theorem zHP (ps:List (Value×Bool))(u:Value)(o:Bool):jQ (ps++[(u,o)])=jQ ps++[u,bool o]:=by simp[jQ]
theorem zEA (ps:List (Value×Bool))(i:Nat)(a:i<ps.length):(jQ ps)[i*2]? =some (ps.getD i (undef,false)).1/\(jQ ps)[i*2+1]? =some (bool (ps.getD i (undef,false)).2):=by
 induction ps generalizing i with
 |nil=>simp at a
 |cons p ps b=>
  cases i with
  |zero=>exact⟨rfl,rfl⟩
  |succ i=>
   have:=b i (by simpa using a);have e:jQ (p::ps)=p.1::bool p.2::jQ ps:=rfl;rw[e,show(i+1)*2=i*2+1+1 by omega];exact this
structure Nw (w0 w:World)(nb:Nat)(n:Nt)(sv fv rv ev:Value)(ps:List (Value×Bool)):Prop where
 blk:w.heap[nb]? =some (.cells #[sv,fv,int i64 (n.first:Int),int i64 (n.ends:Int),rv,ev] 132)
 sOwn:w.ownsRow w0.heap.size 161 2 sv n.sets.length (jQ ps)
 plen:ps.length=n.sets.length
 each:∀i,i<n.sets.length->RangesAt w0 (ps.getD i (undef,false)).1 (n.sets.getD i ⟨[],false⟩).ranges/\(ps.getD i (undef,false)).2=(n.sets.getD i ⟨[],false⟩).others
 fOwn:OwnI w w0.heap.size fv (ints n.follow)
 rOwn:OwnI w w0.heap.size rv (ints n.rules)
 eOwn:OwnB w w0.heap.size ev n.empty
 fr:∀g,fv.ownBlock=some g->some g≠rv.ownBlock
 nH:w0.heap.size<=nb
 keep:Grew w0 w
def NwIs (w0 w:World)(nb:Nat)(n:Nt):Prop:=∃sv fv rv ev ps,Nw w0 w nb n sv fv rv ev ps
def StayS (w w':World):Prop:=∀(k:Nat) (c:Array Value),w.heap[k]? =some (Obj.cells c 167)->w'.heap[k]? =some (Obj.cells c 167)
theorem StayS.refl (w:World):StayS w w:=λ_ _ a=>a
theorem StayS.trans {w w' a:World}(b:StayS w w')(d:StayS w' a):StayS w a:=λk c e=>d k c (b k c e)
theorem Keep.stayS {w w':World}(d:Grew w w'):StayS w w':=λk c a=>by
 have b:=(kQ.1 a).1;exact(d.block k b (kJ b)).trans a
section
variable {w0 w w2:World} {nb:Nat} {n:Nt} {sv fv rv ev:Value} {ps:List (Value×Bool)}
theorem Nw.lt (a:Nw w0 w nb n sv fv rv ev ps):nb<w.heap.size:=(kQ.1 a.blk).1
theorem Nw.cells (a:Nw w0 w nb n sv fv rv ev ps):w.cell? ⟨nb,0,none⟩=some sv/\w.cell? ⟨nb,1,none⟩=some fv/\w.cell? ⟨nb,2,none⟩=some (iX (n.first:Int))/\w.cell? ⟨nb,3,none⟩=some (iX (n.ends:Int))/\w.cell? ⟨nb,4,none⟩=some rv/\w.cell? ⟨nb,5,none⟩=some ev/\∀i,w.frozen? ⟨nb,i,none⟩=false:=by
 refine⟨?_,?_,?_,?_,?_,?_,λi=>?_⟩
 all_goals first|(unfold cell?;rw[a.blk];rfl)|(unfold frozen?;rw[a.blk];simp)
theorem Nw.box (a:Nw w0 w nb n sv fv rv ev ps):some nb≠sv.ownBlock/\some nb≠fv.ownBlock/\some nb≠rv.ownBlock/\some nb≠ev.ownBlock:=⟨zO a.sOwn a.blk (by decide),zO a.fOwn a.blk (by decide),zO a.rOwn a.blk (by decide),zO a.eOwn a.blk (by decide)⟩
theorem Nw.grown (a:Nw w0 w nb n sv fv rv ev ps)(b:Grew w w2):Nw w0 w2 nb n sv fv rv ev ps:=
 ⟨(b.block nb a.lt (kJ a.lt)).trans a.blk,zL a.sOwn b,a.plen,a.each,zL a.fOwn b,zL a.rOwn b,zL a.eOwn b,a.fr,a.nH,a.keep.th b⟩
theorem Nw.setSpan {b i:Nat}{x:Value}{c:Array Value}(a:Nw w0 w nb n sv fv rv ev ps)(g:w.heap[b]? =some (.cells c 167))(j:w0.heap.size<=b):Nw w0 (w.setCell ⟨b,i,none⟩ x) nb n sv fv rv ev ps:=by
 have e:∀k,k≠b->(w.setCell ⟨b,i,none⟩ x).heap[k]? =w.heap[k]? :=λk d=>lJ _ _ _ _ d;have l:nb≠b:=λf=>by
  have:=a.blk;rw[f,g] at this;simp at this
 have m:=zO a.sOwn g (by decide);have o:=zO a.fOwn g (by decide);have p:=zO a.rOwn g (by decide);have q:=zO a.eOwn g (by decide);exact⟨(e nb l).trans a.blk,zE a.sOwn λk _ _ d=>e k λf=>m (by rw[d,f]),a.plen,a.each,zE a.fOwn λk _ _ d=>e k λf=>o (by rw[d,f]),zE a.rOwn λk _ _ d=>e k λf=>p (by rw[d,f]),zE a.eOwn λk _ _ d=>e k λf=>q (by rw[d,f]),a.fr,a.nH,a.keep.trans (zQ _ _ _ _ j)⟩
theorem Nw.setFollow {g cap p x:Nat}(a:Nw w0 w nb n sv (slice (qX g) n.follow.length cap) rv ev ps)(q:p<n.follow.length):Nw w0 (w.setCell ⟨g,p,none⟩ (iX (x:Int))) nb {n with follow:=n.follow.set p x} sv (slice (qX g) n.follow.length cap) rv ev ps/\StayS w (w.setCell ⟨g,p,none⟩ (iX (x:Int))):=by
 have e:∀k,k≠g->(w.setCell ⟨g,p,none⟩ (iX (x:Int))).heap[k]? =w.heap[k]? :=λk d=>lJ _ _ _ _ d;have r:=(a.fOwn.lt g rfl).1;have s:=a.box.2.1;have t:Row w w0.heap.size 3 (slice (qX g) n.follow.length cap) n.follow.length λi=>iX ((ints n.follow).getD i 0):=by
  have:=a.fOwn.rowOf;rw[zP] at this;exact this
 have u:OwnI (w.setCell ⟨g,p,none⟩ (iX (x:Int))) w0.heap.size (slice (qX g) n.follow.length cap) (ints (n.follow.set p x)):=by
  refine Row.ownI ?_;rw[zP,List.length_set];refine Row.congr (t.set p (iX (x:Int))) λi C=>?_;have y:(n.follow.set p x).getD i 0=if i=p then x else n.follow.getD i 0:=by
   rw[lW,List.getElem?_set];by_cases f:i=p
   ·subst f;rw[if_pos rfl,if_pos rfl,if_pos q];rfl
   ·rw[if_neg f,if_neg (Ne.symm f),<-lW]
  rw[vY,vY,y];split <;> rfl
 have l:∀{v:Value} {j o m:Nat} {xs:List Value},w.ownsRow w0.heap.size j o v m xs->3≠j->some g≠v.ownBlock:=λ{v} {j} {o} {m} {xs} A B b=>xZ a.fOwn A B (g:=g) rfl b;refine⟨⟨(e nb λb=>s (by rw[b];rfl)).trans a.blk,zE a.sOwn λk _ _ d=>e k λb=>l a.sOwn (by decide) (by rw[d,b]),a.plen,a.each,u,zE a.rOwn λk _ _ d=>e k λb=>a.fr g rfl (by rw[d,b]),zE a.eOwn λk _ _ d=>e k λb=>l a.eOwn (by decide) (by rw[d,b]),a.fr,a.nH,a.keep.trans (zQ _ _ _ _ r)⟩,λk c d=>(e k λb=>?_).trans d⟩;exact zO a.fOwn d (by decide) (by rw[b];rfl)
end
end
def Nt.linkTo (n:Nt)(from_ to:Nat):Nat->Nt
 |0=>n
 |j+1=>if from_.testBit j then{n.linkTo from_ to j with follow:=(n.linkTo from_ to j).follow.set j ((n.linkTo from_ to j).follow.getD j 0|||to)} else n.linkTo from_ to j
def Nt.link (n:Nt)(from_ to:Nat):Nt:=n.linkTo from_ to n.follow.length
theorem zFQ (n:Nt)(a b j:Nat):(n.linkTo a b j).follow.length=n.follow.length:=by
 induction j with
 |zero=>rfl
 |succ j c=>
  unfold Nt.linkTo;split
  ·show(List.set _ _ _).length=_;rw[List.length_set,c]
  ·exact c
theorem zPe {b:Type}{l:List b}{i:Nat}{x y:b}(c:y∈l.set i x):y=x\/y∈l:=by
 rcases List.mem_or_eq_of_mem_set c with a|a
 ·exact .inr a
 ·exact .inl a
theorem zDG {n:Nt}{B:Nat}(a b j:Nat)(e:b<2^B)(f:∀x∈n.follow,x<2^B):∀x∈(n.linkTo a b j).follow,x<2^B:=by
 induction j with
 |zero=>exact f
 |succ j c=>
  unfold Nt.linkTo;split
  ·intro x g
   rcases zPe g with d|d
   ·subst d
    refine Nat.or_lt_two_pow ?_ e;by_cases k:j<(n.linkTo a b j).follow.length
    ·exact c _ (zV _ _ 0 k)
    ·rw[lW,List.getElem?_eq_none (by omega)];exact Nat.pow_pos (by omega)
   ·exact c x d
  ·exact c
theorem zFP (l w:World)(f:Nat)(n:Nt)(o:NwIs l w f n)(aa:n.follow.length<=24)(E:∀x∈n.follow,x<2^24)(a b:Nat)(ab:a<16777216)(F:b<2^24):
  Calls prog 166 #[pX f,iX (a:Int),iX (b:Int)] w λe w'=>e=rX/\NwIs l w' f (n.link a b)/\StayS w w':=by
 have ac:b<16777216:=F;obtain⟨c,G⟩:∃c,c=n.linkTo a b:=⟨_,rfl⟩
 have t:Hid (c 0=n/\(∀j,a.testBit j=true->c (j+1)={c j with follow:=(c j).follow.set j ((c j).follow.getD j 0|||b)})/\(∀j,a.testBit j=false->c (j+1)=c j)/\(∀j,(c j).follow.length=n.follow.length/\∀x∈(c j).follow,x<16777216)/\c n.follow.length=n.link a b):=by
  rw[G];refine⟨rfl,λj o=>?_,λj o=>?_,λj=>⟨zFQ n a b j,zDG a b j F E⟩,rfl⟩
  ·show(if a.testBit j=true then _ else _)=_;rw[if_pos o]
  ·show(if a.testBit j=true then _ else _)=_;rw[if_neg (by rw[o];decide)]
 have H:Hid (∀wr m,NwIs l wr f m->∃u cap,cX wr f 1=some (slice u m.follow.length cap)/\∀p,p<m.follow.length->∃g,u=some ⟨g,0,none⟩/\cX wr g p=some (iX ((m.follow.getD p 0:Nat):Int))/\wr.frozen? ⟨g,p,none⟩=false/\∀x:Nat,NwIs l (wr.setCell ⟨g,p,none⟩ (iX (x:Int))) f {m with follow:=m.follow.set p x}/\StayS wr (wr.setCell ⟨g,p,none⟩ (iX (x:Int)))):=by
  rintro wr m ⟨sv,ad,rv,ae,af,d⟩;have ⟨u,cap,I⟩:=d.fOwn.form;rw[zP] at I;subst I;refine⟨u,cap,d.cells.2.1,λp J=>?_⟩;obtain⟨g,rfl⟩:=d.fOwn.some (by rw[zP];omega);have K:=d.fOwn.cell p (by rw[zP];exact J);rw[vY] at K;refine⟨g,rfl,K,?_,λx=>?_⟩
  ·have ⟨ag,c2,P,_,_,_,_,_,R⟩:=d.fOwn.rowOf.get (by rw[zP];omega)
   injection P with v _ _;injection v with v;injection v with v;rw[v];exact R p
  ·have:=d.setFollow (x:=x) J
   exact⟨⟨_,_,_,_,_,this.1⟩,this.2⟩
 have S:=vl o;obtain⟨ah,ai,T,-⟩:=H w n o;generalize n.link a b=U at *;clear G o E;generalize V:n.follow.length=k at *;clear V;go_in;go_wp2;clear T;go_loopg [12] k (λq i wr=>∃j:Nat,q=k-j/\j<=k/\i=iX (j:Int)/\NwIs l wr f (c j)/\StayS w wr)
 case atStart=>exact⟨0,rfl,lX,rfl,by rw[t.out.1];exact S,StayS.refl _⟩
 case round=>
  obtain⟨j,A,aj,rfl,d,y⟩:=hrel;have z:Hid (gk=k-j/\NwIs l wr f (c j)/\StayS w wr):=⟨A,d,y⟩
  by_cases ak:j<k
  ·have W:(j:Int)<(k:Int):=by omega
   have ⟨B,C⟩:=t.2.2.2.1 j;have M:=zLV a j (by omega);cases r:a.testBit j with
   |false=>
    rw[r] at M;have s:=vl <| t.2.2.1 j r;clear A d y B C r;go_wp2;go_roundg (k-(j+1))
    case measure=>rw[z.out.1];omega
    case rel=>exact⟨j+1,rfl,by omega,by go_num,by rw[s.out];exact z.2.1,z.2.2⟩
   |true=>
    rw[r] at M;have s:=vl <| t.2.1 j r;have ⟨u,cap,X,N⟩:=H wr (c j) d;obtain⟨g,rfl,al,am,O⟩:=N j (by omega);have D:Hid (NwIs l (wr.setCell ⟨g,j,none⟩ (iX (((c j).follow.getD j 0|||b:Nat):Int))) f {c j with follow:=(c j).follow.set j ((c j).follow.getD j 0|||b)}/\StayS wr (wr.setCell ⟨g,j,none⟩ (iX (((c j).follow.getD j 0|||b:Nat):Int)))):=O _;have an:=C _ (zV (c j).follow j 0 (by omega));have Y:Hid (bits .or i64 (((c j).follow.getD j 0:Nat):Int) (b:Int)=(((c j).follow.getD j 0|||b:Nat):Int)):=yZ _ _ (by omega) (by omega);rw[B] at X;clear A d y B C r N O;rw[<-s.out,<-Y.out] at D;generalize (c j).follow.getD j 0=x at *;go_wp2;go_roundg (k-(j+1))
    case measure=>rw[z.out.1];omega
    case rel=>exact⟨j+1,rfl,by omega,by go_num,D.1,z.2.2.trans D.2⟩
  ·have W:(k:Int)<=(j:Int):=by omega
   have e:j=k:=by omega
   subst e;have s:Hid (NwIs l wr f U/\StayS w wr):=⟨by rw[<-t.out.2.2.2.2];exact d,y⟩
   clear A d y;go_wp2;go_end0;exact⟨rfl,s.1,s.2⟩
section
structure Sn where
 first:Nat
 last:Nat
 empty:Bool
def Sn.val (s:Sn):Value:=agg #[int i64 (s.first:Int),int i64 (s.last:Int),bool s.empty]
def Sn.cells (s:Sn):Array Value:=#[int i64 (s.first:Int),int i64 (s.last:Int),bool s.empty]
def Sn.then (a b:Sn):Sn:=⟨if a.empty then a.first|||b.first else a.first,if b.empty then b.last|||a.last else b.last,a.empty&&b.empty⟩
structure Sn.Small (s:Sn)(k:Nat):Prop where
 first:s.first<2^k
 last:s.last<2^k
theorem Sn.then_small {a b:Sn}{k:Nat}(d:a.Small k)(e:b.Small k):(a.then b).Small k:=by
 constructor
 ·show(if _ then _ else _)<_
  split
  ·exact Nat.or_lt_two_pow d.first e.first
  ·exact d.first
 ·show(if _ then _ else _)<_
  split
  ·exact Nat.or_lt_two_pow e.last d.last
  ·exact e.last
theorem NwIs.grown {w0 w w2:World}{nb:Nat}{n:Nt}(d:NwIs w0 w nb n)(e:Grew w w2):NwIs w0 w2 nb n:=by
 obtain⟨sv,f,rv,g,j,d⟩:=d;exact⟨sv,f,rv,g,j,d.grown e⟩
structure Three (w0 w wr:World)(nb:Nat)(n:Nt)(a b c:Sn):Prop where
 net:NwIs w0 wr nb n
 a1:wr.heap[w.heap.size]? =some (.cells a.cells 167)
 b1:wr.heap[w.heap.size+1]? =some (.cells b.cells 167)
 c1:wr.heap[w.heap.size+1+1]? =some (.cells c.cells 167)
 stay:StayS w wr
 old:w0.heap.size<=w.heap.size
section
variable {w0 w wr w2:World} {nb:Nat} {n:Nt} {a b c:Sn}
theorem Three.at (d:Three w0 w wr nb n a b c):wr.cell? ⟨w.heap.size,0,none⟩=some (iX (a.first:Int))/\wr.cell? ⟨w.heap.size,1,none⟩=some (iX (a.last:Int))/\wr.cell? ⟨w.heap.size,2,none⟩=some (bool a.empty)/\wr.cell? ⟨w.heap.size+1,0,none⟩=some (iX (b.first:Int))/\wr.cell? ⟨w.heap.size+1,1,none⟩=some (iX (b.last:Int))/\wr.cell? ⟨w.heap.size+1,2,none⟩=some (bool b.empty)/\wr.cell? ⟨w.heap.size+1+1,0,none⟩=some (iX (c.first:Int))/\wr.cell? ⟨w.heap.size+1+1,1,none⟩=some (iX (c.last:Int))/\wr.cell? ⟨w.heap.size+1+1,2,none⟩=some (bool c.empty):=by
 refine⟨?_,?_,?_,?_,?_,?_,?_,?_,?_⟩
 all_goals first|(unfold cell?;rw[d.a1];rfl)|(unfold cell?;rw[d.b1];rfl)|(unfold cell?;rw[d.c1];rfl)
theorem Three.fz (d:Three w0 w wr nb n a b c)(i:Nat):wr.frozen? ⟨w.heap.size,i,none⟩=false/\wr.frozen? ⟨w.heap.size+1,i,none⟩=false/\wr.frozen? ⟨w.heap.size+1+1,i,none⟩=false:=by
 refine⟨?_,?_,?_⟩
 ·unfold frozen?;rw[d.a1];simp
 ·unfold frozen?;rw[d.b1];simp
 ·unfold frozen?;rw[d.c1];simp
theorem NwIs.setSpan {b i:Nat}{x:Value}{c:Array Value}(d:NwIs w0 w nb n)(e:w.heap[b]? =some (.cells c 167))(f:w0.heap.size<=b):NwIs w0 (w.setCell ⟨b,i,none⟩ x) nb n:=by
 obtain⟨sv,g,rv,j,k,d⟩:=d;exact⟨sv,g,rv,j,k,d.setSpan e f⟩
theorem zAd {b i:Nat}{x:Value}(e:StayS w wr)(f:w.heap.size<=b):StayS w (wr.setCell ⟨b,i,none⟩ x):=λk c d=>by
 have g:=(kQ.1 d).1;exact(lJ _ _ _ _ (by show k≠b;omega)).trans (e k c d)
theorem Three.setA (d:Three w0 w wr nb n a b c)(x:Nat):Three w0 w (wr.setCell ⟨w.heap.size,0,none⟩ (iX (x:Int))) nb n {a with first:=x} b c:=by
 have e:∀k,k≠w.heap.size->(wr.setCell ⟨w.heap.size,0,none⟩ (iX (x:Int))).heap[k]? =wr.heap[k]? :=λk f=>lJ _ _ _ _ f;exact⟨d.net.setSpan d.a1 d.old,by simp[setCell,lU,d.a1,Sn.cells],(e _ (by omega)).trans d.b1,(e _ (by omega)).trans d.c1,zAd d.stay lQ,d.old⟩
theorem Three.setB (d:Three w0 w wr nb n a b c)(x:Nat):Three w0 w (wr.setCell ⟨w.heap.size+1,1,none⟩ (iX (x:Int))) nb n a {b with last:=x} c:=by
 have e:∀k,k≠w.heap.size+1->(wr.setCell ⟨w.heap.size+1,1,none⟩ (iX (x:Int))).heap[k]? =wr.heap[k]? :=λk f=>lJ _ _ _ _ f;have:=d.old;exact⟨d.net.setSpan d.b1 (by omega),(e _ (by omega)).trans d.a1,by simp[setCell,lU,d.b1,Sn.cells],(e _ (by omega)).trans d.c1,zAd d.stay (by omega),d.old⟩
theorem Three.setC (d:Three w0 w wr nb n a b c)(s:Sn):Three w0 w (((wr.setCell ⟨w.heap.size+1+1,0,none⟩ (iX (s.first:Int))).setCell ⟨w.heap.size+1+1,1,none⟩ (iX (s.last:Int))).setCell ⟨w.heap.size+1+1,2,none⟩ (bool s.empty)) nb n a b s:=by
 have e:∀(f:World) (i k:Nat) (x:Value),k≠w.heap.size+1+1->(f.setCell ⟨w.heap.size+1+1,i,none⟩ x).heap[k]? =f.heap[k]? :=λf i k x j=>lJ _ _ _ _ j;have m:=d.old;have c2:(wr.setCell ⟨w.heap.size+1+1,0,none⟩ (iX (s.first:Int))).heap[w.heap.size+1+1]? =some (.cells #[iX (s.first:Int),iX (c.last:Int),bool c.empty] 167):=by simp[setCell,lU,d.c1,Sn.cells]
 have g:((wr.setCell ⟨w.heap.size+1+1,0,none⟩ (iX (s.first:Int))).setCell ⟨w.heap.size+1+1,1,none⟩ (iX (s.last:Int))).heap[w.heap.size+1+1]? =some (.cells #[iX (s.first:Int),iX (s.last:Int),bool c.empty] 167):=by
  generalize l:wr.setCell ⟨w.heap.size+1+1,0,none⟩ (iX (s.first:Int))=f at *;simp[setCell,lU,c2]
 refine⟨((d.net.setSpan d.c1 (by omega)).setSpan c2 (by omega)).setSpan g (by omega),(e _ _ _ _ (by omega)).trans ((e _ _ _ _ (by omega)).trans ((e _ _ _ _ (by omega)).trans d.a1)),(e _ _ _ _ (by omega)).trans ((e _ _ _ _ (by omega)).trans ((e _ _ _ _ (by omega)).trans d.b1)),?_,zAd (zAd (zAd d.stay (by omega)) (by omega)) (by omega),d.old⟩;generalize l:(wr.setCell ⟨w.heap.size+1+1,0,none⟩ (iX (s.first:Int))).setCell ⟨w.heap.size+1+1,1,none⟩ (iX (s.last:Int))=f at *;simp[setCell,lU,g,Sn.cells]
theorem Three.start (g:NwIs w0 w nb n)(j:w0.heap.size<=w.heap.size)(a b:Sn):Three w0 w (((w.alloc (.cells a.cells 167)).alloc (.cells b.cells 167)).alloc (.cells (Sn.mk 0 0 false).cells 167)) nb n a b ⟨0,0,false⟩:=by
 have s1:(w.alloc (.cells a.cells 167)).heap.size=w.heap.size+1:=by simp
 have s2:((w.alloc (.cells a.cells 167)).alloc (.cells b.cells 167)).heap.size=w.heap.size+1+1:=by simp
 have d:=kZ (b:=w.heap.size) w (.cells a.cells 167) lQ;have e:=kZ (b:=(w.alloc (.cells a.cells 167)).heap.size) (w.alloc (.cells a.cells 167)) (.cells b.cells 167) lQ;have f:=kZ (b:=((w.alloc (.cells a.cells 167)).alloc (.cells b.cells 167)).heap.size) ((w.alloc (.cells a.cells 167)).alloc (.cells b.cells 167)) (.cells (Sn.mk 0 0 false).cells 167) lQ;refine⟨((g.grown d).grown e).grown f,?_,?_,?_,(d.stayS.trans e.stayS).trans f.stayS,j⟩
 ·exact(lG _ _ _ (by rw[s2];omega)).trans ((lG _ _ _ (by rw[s1];omega)).trans (gY _ _))
 ·refine(lG _ _ _ (by rw[s2];omega)).trans ?_
  have:=gY (w.alloc (.cells a.cells 167)) (.cells b.cells 167);rw[s1] at this;exact this
 ·have:=gY ((w.alloc (.cells a.cells 167)).alloc (.cells b.cells 167)) (.cells (Sn.mk 0 0 false).cells 167)
  rw[s2] at this;exact this
theorem Three.call {f:Nt}(d:Three w0 w wr nb n a b c)(g:NwIs w0 w2 nb f)(e:StayS wr w2):Three w0 w w2 nb f a b c:=⟨g,e _ _ d.a1,e _ _ d.b1,e _ _ d.c1,d.stay.trans e,d.old⟩
end
end
theorem zDa (s w:World)(p:Nat)(n:Nt)(B:NwIs s w p n)(ap:n.follow.length<=24)(aq:∀x∈n.follow,x<2^24)(a b:Sn)(D:a.Small 24)(E:b.Small 24):
  Calls prog 164 #[pX p,a.val,b.val] w λe w'=>e=returned (a.then b).val/\NwIs s w' p (n.link a.last b.first)/\StayS w w':=by
 have ar:s.heap.size<=w.heap.size:=by obtain⟨_,_,_,_,_,B⟩:=B;exact B.keep.size
 have C:Hid (∀w2,NwIs s w2 p n->Ca 166 #[pX p,iX (a.last:Int),iX (b.first:Int)] w2 λe w'=>e=rX/\NwIs s w' p (n.link a.last b.first)/\StayS w2 w'):=λw2 F=>zFP s w2 p n F ap aq a.last b.first D.last E.first
 obtain⟨r,am,q⟩:∃r,r=((w.alloc (.cells a.cells 167)).alloc (.cells b.cells 167)).alloc (.cells (Sn.mk 0 0 false).cells 167)/\Three s w r p n a b ⟨0,0,false⟩:=⟨_,rfl,Three.start B ar a b⟩
 have au:a.first<16777216:=D.first
 have av:a.last<16777216:=D.last;have aw:b.first<16777216:=E.first
 have ax:b.last<16777216:=E.last;obtain⟨d,j,G⟩:=a;obtain⟨k,f,H⟩:=b;have a1:d<16777216:=au;have a2:j<16777216:=av;have a3:k<16777216:=aw;have a4:f<16777216:=ax;have a5:bits .or i64 (d:Int) (k:Int)=((d|||k:Nat):Int):=yZ _ _ (by omega) (by omega);have a6:bits .or i64 (f:Int) (j:Int)=((f|||j:Nat):Int):=yZ _ _ (by omega) (by omega);have ⟨a7,a8,a9,y3,ba,y5,bb,bc,bd⟩:=q.at
 show Calls prog 164 #[pX p,agg #[iX (d:Int),iX (j:Int),bool G],agg #[iX (k:Int),iX (f:Int),bool H]] w _;go_in;apply wp_cut;intro bg an;go_wp2;apply an.out;clear an;have ao:r=((w.alloc (Obj.cells #[iX (d:Int),iX (j:Int),bool G] 167)).alloc (Obj.cells #[iX (k:Int),iX (f:Int),bool H] 167)).alloc (Obj.cells #[zX,zX,fX] 167):=am;rw[<-ao];clear am ao;rcases G with _|_ <;> rcases H with _|_
 ·have l:=vl q
  clear q;go_wp2_with (go_at_call 166;refine(C r l.net).mono ?_;rintro e I ⟨rfl,t,u⟩;have c:=l.call t u;have ⟨J,K,L,M,N,O,P,R,S⟩:=c.at;have ⟨T,U,V⟩:=c.fz 0;have ⟨W,X,Y⟩:=c.fz 1;have ⟨aa,ab,ac⟩:=c.fz 2;have g:=c.setC ⟨d,f,false⟩;have ⟨ad,ag,ah,ai,aj,ak,y,z,A⟩:=g.at)
  refine gJ (v:=agg #[iX ((d:Nat):Int),iX ((f:Nat):Int),fX]) (by simp[results,results164,go_sem,y,z,A]) rfl ?_;exact⟨rfl,g.net,g.stay⟩
 ·have l:=vl q
  clear q;go_wp2_with (go_at_call 166;refine(C r l.net).mono ?_;rintro e I ⟨rfl,t,u⟩;have c:=l.call t u;have ⟨J,K,L,M,N,O,P,R,S⟩:=c.at;have ⟨T,U,V⟩:=c.fz 0;have ⟨W,X,Y⟩:=c.fz 1;have ⟨aa,ab,ac⟩:=c.fz 2;have m:=c.setB (f|||j);have ⟨v0,v1,v2,ay,az,aA,aB,aC,aD⟩:=m.at;have ⟨aE,aF,F⟩:=m.fz 0;have ⟨aG,aH,aI⟩:=m.fz 1;have ⟨aJ,aK,aL⟩:=m.fz 2;have g:=m.setC ⟨d,f|||j,false⟩;have ⟨ad,ag,ah,ai,aj,ak,y,z,A⟩:=g.at)
  refine gJ (v:=agg #[iX ((d:Nat):Int),iX ((f|||j:Nat):Int),fX]) (by simp[results,results164,go_sem,y,z,A]) rfl ?_;exact⟨rfl,g.net,g.stay⟩
 ·have l:=vl q
  clear q;go_wp2_with (go_at_call 166;refine(C r l.net).mono ?_;rintro e I ⟨rfl,t,u⟩;have c:=l.call t u;have ⟨J,K,L,M,N,O,P,R,S⟩:=c.at;have ⟨T,U,V⟩:=c.fz 0;have ⟨W,X,Y⟩:=c.fz 1;have ⟨aa,ab,ac⟩:=c.fz 2;have o:=c.setA (d|||k);have ⟨s0,s1,s2,aM,aN,aO,aP,aQ,aR⟩:=o.at;have ⟨aS,aT,aU⟩:=o.fz 0;have ⟨aV,aW,aX⟩:=o.fz 1;have ⟨aY,aZ,a0⟩:=o.fz 2;have g:=o.setC ⟨d|||k,f,false⟩;have ⟨ad,ag,ah,ai,aj,ak,y,z,A⟩:=g.at)
  refine gJ (v:=agg #[iX ((d|||k:Nat):Int),iX ((f:Nat):Int),fX]) (by simp[results,results164,go_sem,y,z,A]) rfl ?_;exact⟨rfl,g.net,g.stay⟩
 ·have l:=vl q
  clear q;go_wp2_with (go_at_call 166;refine(C r l.net).mono ?_;rintro e I ⟨rfl,t,u⟩;have c:=l.call t u;have ⟨J,K,L,M,N,O,P,R,S⟩:=c.at;have ⟨T,U,V⟩:=c.fz 0;have ⟨W,X,Y⟩:=c.fz 1;have ⟨aa,ab,ac⟩:=c.fz 2;have o:=c.setA (d|||k);have ⟨s0,s1,s2,aM,aN,aO,aP,aQ,aR⟩:=o.at;have ⟨aS,aT,aU⟩:=o.fz 0;have ⟨aV,aW,aX⟩:=o.fz 1;have ⟨aY,aZ,a0⟩:=o.fz 2;have m:=o.setB (f|||j);have ⟨v0,v1,v2,ay,az,aA,aB,aC,aD⟩:=m.at;have ⟨aE,aF,F⟩:=m.fz 0;have ⟨aG,aH,aI⟩:=m.fz 1;have ⟨aJ,aK,aL⟩:=m.fz 2;have g:=m.setC ⟨d|||k,f|||j,true⟩;have ⟨ad,ag,ah,ai,aj,ak,y,z,A⟩:=g.at)
  refine gJ (v:=agg #[iX ((d|||k:Nat):Int),iX ((f|||j:Nat):Int),tX]) (by simp[results,results164,go_sem,y,z,A]) rfl ?_;exact⟨rfl,g.net,g.stay⟩
section
attribute [local go_sem ↓] Go.wp_at_zero Go.wp_at_succ
theorem zPl:(prog.info? 161).map (λi=>(i.zero,i.size,i.bytes))=some (some (agg #[nX,bool false]),2,32):=by kernel_rfl
section
variable {w0 w w2:World} {nb:Nat} {n:Nt} {sv fv rv ev:Value} {ps:List (Value×Bool)}
theorem Nw.addSet {o:Obj}{g cap m:Nat}{u:Value}{c:Cs}(b:Nw w0 w nb n sv fv rv ev ps)(r:m=n.sets.length)(s:RangesAt w0 u c.ranges)(t:w2.ownsRow w0.heap.size 161 2 (slice (qX g) (m+1) cap) (m+1) (jQ ps++[u,bool c.others]))(f:(w.alloc o).grownBy w2 sv.ownBlock)(v:sv.ownBlock=some g\/w.heap.size<=g):
  Nw w0 (w2.setCell ⟨nb,0,none⟩ (slice (qX g) (m+1) cap)) nb {n with sets:=n.sets++[c]} (slice (qX g) (m+1) cap) fv rv ev (ps++[(u,c.others)])/\StayS w (w2.setCell ⟨nb,0,none⟩ (slice (qX g) (m+1) cap)):=by
 subst r;have l:=b.box;have x:=b.lt;have p:∀j,j<w.heap.size->some j≠sv.ownBlock->w2.heap[j]? =w.heap[j]? :=λj J y=>(f.block j (by simp;omega) y).trans (lG _ _ _ (by omega));have z:w.heap.size<=w2.heap.size:=lY (by simp) f.size;have A:=(p nb x l.1).trans b.blk;have e:∀k,k≠nb->(w2.setCell ⟨nb,0,none⟩ (slice (qX g) (n.sets.length+1) cap)).heap[k]? =w2.heap[k]? :=λk a=>lJ _ _ _ _ a;have B:=zU f b.fOwn λk a=>xZ b.fOwn b.sOwn (by decide) a;have C:=zU f b.rOwn λk a=>xZ b.rOwn b.sOwn (by decide) a;have D:=zU f b.eOwn λk a=>xZ b.eOwn b.sOwn (by decide) a;have K:nb≠g:=λd=>by
  rcases v with q|q
  ·exact l.1 (by rw[q,d])
  ·omega
 have E:=b.plen;have F:(n.sets++[c]).length=n.sets.length+1:=by simp
 refine⟨⟨by simp[setCell,lU,A],?_,by simp[E],λi G=>?_,zE B λk _ _ a=>e k λd=>l.2.1 (by rw[a,d]),zE C λk _ _ a=>e k λd=>l.2.2.1 (by rw[a,d]),zE D λk _ _ a=>e k λd=>l.2.2.2 (by rw[a,d]),b.fr,b.nH,b.keep.trans ⟨f.os,f.output,by rw[zD];exact z,λk a _=>(e k (by have:=b.nH;omega)).trans (p k (by have:=b.keep.size;omega) λd=>by have:=(b.sOwn.lt k d.symm).1;omega)⟩⟩,λk L a=>?_⟩
 ·show World.ownsRow _ _ _ _ _ (n.sets++[c]).length (jQ (ps++[(u,c.others)]))
  rw[F,zHP];exact zE t λk _ _ a=>e k λd=>by
   have:g=k:=by simpa[Value.ownBlock] using a
   omega
 ·have M:i<(n.sets++[c]).length:=G
  show RangesAt w0 ((ps++[(u,c.others)]).getD i (undef,false)).1 ((n.sets++[c]).getD i ⟨[],false⟩).ranges/\((ps++[(u,c.others)]).getD i (undef,false)).2=((n.sets++[c]).getD i ⟨[],false⟩).others;by_cases N:i=n.sets.length
  ·rw[lW,hZ (by omega),show i-ps.length=0 by omega,lW,hZ (by omega),show i-n.sets.length=0 by omega]
   exact⟨s,rfl⟩
  ·rw[lW,kW (by omega),lW,kW (by omega),<-lW,<-lW]
   exact b.each i (by omega)
 ·have H:=(kQ.1 a).1
  have I:k≠nb:=λd=>by
   rw[d,b.blk] at a;injection a with a;injection a with _ a;exact absurd a (by decide)
  exact(e k I).trans ((p k H (zO b.sOwn a (by decide))).trans a)
theorem Nw.addFollow {o:Obj}{g cap m x:Nat}(b:Nw w0 w nb n sv fv rv ev ps)(t:m=n.follow.length)(u:w2.ownsRow w0.heap.size 3 1 (slice (qX g) (m+1) cap) (m+1) (((ints n.follow).map λx=>iX x)++[iX (x:Int)]))(d:(w.alloc o).grownBy w2 fv.ownBlock)(q:fv.ownBlock=some g\/w.heap.size<=g):
  Nw w0 (w2.setCell ⟨nb,1,none⟩ (slice (qX g) (m+1) cap)) nb {n with follow:=n.follow++[x]} sv (slice (qX g) (m+1) cap) rv ev ps/\StayS w (w2.setCell ⟨nb,1,none⟩ (slice (qX g) (m+1) cap)):=by
 subst t;have f:=b.box;have v:=b.lt;have p:∀j,j<w.heap.size->some j≠fv.ownBlock->w2.heap[j]? =w.heap[j]? :=λj H y=>(d.block j (by simp;omega) y).trans (lG _ _ _ (by omega));have z:w.heap.size<=w2.heap.size:=lY (by simp) d.size;have A:=(p nb v f.2.1).trans b.blk;have e:∀k,k≠nb->(w2.setCell ⟨nb,1,none⟩ (slice (qX g) (n.follow.length+1) cap)).heap[k]? =w2.heap[k]? :=λk a=>lJ _ _ _ _ a;have B:=zU d b.sOwn λk a=>xZ b.sOwn b.fOwn (by decide) a;have C:=zU d b.rOwn λk a c=>b.fr k c.symm a.symm;have D:=zU d b.eOwn λk a=>xZ b.eOwn b.fOwn (by decide) a;have I:nb≠g:=λc=>by
  rcases q with r|r
  ·exact f.2.1 (by rw[r,c])
  ·omega
 have E:OwnI w2 w0.heap.size (slice (qX g) (n.follow.length+1) cap) (ints (n.follow++[x])):=by
  rw[zBr];have:=zP n.follow;have s:=OwnI.snoc (l:=ints n.follow) (x:=(x:Int)) (by rw[this];exact u);rw[this] at s;exact s
 refine⟨⟨by simp[setCell,lU,A],zE B λk _ _ a=>e k λc=>f.1 (by rw[a,c]),b.plen,b.each,zE E λk _ _ a=>e k λc=>?_,zE C λk _ _ a=>e k λc=>f.2.2.1 (by rw[a,c]),zE D λk _ _ a=>e k λc=>f.2.2.2 (by rw[a,c]),qL b.rOwn b.fr q,b.nH,b.keep.trans ⟨d.os,d.output,by rw[zD];exact z,λk a _=>(e k (by have:=b.nH;omega)).trans (p k (by have:=b.keep.size;omega) λc=>by have:=(b.fOwn.lt k c.symm).1;omega)⟩⟩,λk J a=>?_⟩
 ·have:g=k:=by simpa[Value.ownBlock] using a
  omega
 ·have F:=(kQ.1 a).1
  have G:k≠nb:=λc=>by
   rw[c,b.blk] at a;injection a with a;injection a with _ a;exact absurd a (by decide)
  exact(e k G).trans ((p k F (zO b.fOwn a (by decide))).trans a)
end
def Nt.place (n:Nt)(c:Cs):Nt:={n with sets:=n.sets++[c],follow:=n.follow++[0]}
def Nt.spot (n:Nt):Sn:=⟨2^n.sets.length,2^n.sets.length,false⟩
end
section
attribute [local go_sem ↓] Go.wp_at_zero Go.wp_at_succ
theorem zJc (d w:World)(a:Nat)(n:Nt)(m:NwIs d w a n)(aU:n.sets.length<=24)(aV:n.follow.length<=24)(u:Value)(c:Cs)(J:RangesAt d u c.ranges):
  Calls prog 123 #[pX a,agg #[u,bool c.others]] w λe w'=>e=returned n.spot.val/\NwIs d w' a (n.place c)/\StayS w w':=by
 have ⟨am,an,ao,ap,aq⟩:=info_parts yW;have ⟨is_,ar,av,aw,ax⟩:=info_parts zPl;obtain⟨sv,ay,rv,az,C,m⟩:=m;obtain⟨D,E,r,-⟩:=id J;obtain⟨w1,K,o,L,aA,aB,aC⟩:∃w1,w1=(w.alloc (.cells #[u,bool c.others] 161)).alloc (.cells #[zX,zX,fX] 167)/\Hid (Nw d w1 a n sv ay rv az C)/\Hid (StayS w w1/\w1.heap.size=w.heap.size+1+1)/\w1.cell? ⟨w.heap.size,0,none⟩=some u/\w1.cell? ⟨w.heap.size,1,none⟩=some (bool c.others)/\Hid (w1.heap[w.heap.size+1]? =some (.cells #[zX,zX,fX] 167)):=by
  have M:=kZ (b:=w.heap.size) w (.cells #[u,bool c.others] 161) lQ;have N:=kZ (b:=(w.alloc (.cells #[u,bool c.others] 161)).heap.size) (w.alloc (.cells #[u,bool c.others] 161)) (.cells #[zX,zX,fX] 167) lQ;have s1:(w.alloc (.cells #[u,bool c.others] 161)).heap.size=w.heap.size+1:=by simp
  have O:((w.alloc (.cells #[u,bool c.others] 161)).alloc (.cells #[zX,zX,fX] 167)).heap[w.heap.size]? =some (.cells #[u,bool c.others] 161):=(lG _ _ _ (by rw[s1];omega)).trans (gY _ _);refine⟨_,rfl,(m.grown M).grown N,⟨M.stayS.trans N.stayS,by simp⟩,?_,?_,?_⟩
  ·unfold cell?;rw[O];rfl
  ·unfold cell?;rw[O];rfl
  ·have:=gY (w.alloc (.cells #[u,bool c.others] 161)) (.cells #[zX,zX,fX] 167)
   rw[s1] at this;exact this
 have ⟨s,y,aD⟩:=zF m.sOwn;have ⟨R,S,T⟩:=m.fOwn.form;rw[zP] at T;have aW:=m.plen;have aX:d.heap.size<=w.heap.size:=m.keep.size;subst aD T;have U:=o.cells.1;have V:=o.cells.2.2.2.2.2.2 0;have W:=o.lt;have aY:d.heap.size<=w1.heap.size:=o.keep.size;have aE:=vl o.box.1;have X:w1.ownsRow d.heap.size 161 2 (slice s n.sets.length y) n.sets.length (jQ C):=o.sOwn;have aZ:=zFJ n.sets.length (by omega);have aF:=vl J;have aG:Hid (n.spot.val=agg #[iX ((2^n.sets.length:Nat):Int),iX ((2^n.sets.length:Nat):Int),fX]):=rfl;generalize a0:2^n.sets.length=P at *;generalize c.ranges.length=rl at *;subst r;have a1:w.heap.size<w1.heap.size:=by rw[L.out.2];omega
 go_in;apply wp_cut;intro a2 aH;go_wp2;apply aH.out;rw[<-K];clear K;go_wp2;go_region_law ((refine step_append_lies _ (by rfl) (.tmp 16) (.tmp 18) 130 (by rfl) d.heap.size 161 is_ _ 2 32 underlying130 ar av aw ax rfl (by decide) (slice s n.sets.length y) n.sets.length (jQ C) (by simp[Act.eval,Act.put]) ((X.alloc _).drew) ⟨w1.heap.size,0,none⟩ 1 1 [slice D rl E,bool c.others] (by simp[Act.eval,Act.put]) (by rfl) (news_of_block (cs:=#[slice D rl E,bool c.others]) (t:=161) (fr:=(0,0)) (gY w1 _)) (by simp[Value.oneCell']) (by decide) (by unfold maxLen;omega) (by omega) (by simp;omega) (w1.heap.size+1) (by simp) ?_;intro Y cap w2 aa F ab aI;have G:=F.block a (by simp;omega) aE;have aJ:w2.cell? ⟨a,0,none⟩=some (slice s n.sets.length y):=(gW G).trans ((gU _ _ _ W).trans U);have aK:w2.frozen? ⟨a,0,none⟩=false:=(gV G).trans ((frozen?_alloc_past _ _ _ W).trans V)))
 all_goals
  have ac:(w1.drew.alloc (Obj.cells #[Value.slice D rl E,Value.bool c.others] 161)).grownBy w2 (Value.slice s n.sets.length y).ownBlock:=F;have g:=vl <| (o.grown (Keep.drew _)).addSet rfl aF aa ac (by
   rcases ab with q|q
   ·exact .inl q
   ·right;show w1.heap.size<=Y;omega)
  clear aa F ac ab aI G aJ aK X U V aA aB;generalize w2.setCell ⟨a,0,none⟩ (slice (qX Y) (n.sets.length+1) cap)=z at *;have v1:=g.1.cells.2.1;have a3:=g.1.lt;have a4:d.heap.size<=z.heap.size:=g.1.keep.size;have aL:z.ownsRow d.heap.size 3 1 (slice R n.follow.length S) n.follow.length ((ints n.follow).map λx=>iX x):=by
   have:=g.1.fOwn;unfold OwnI at this;rw[zP] at this;exact this
  go_wp2_with (at_builtin;refine wpList_append_lies _ rfl _ _ 45 rfl (d.heap.size) 3 am zX 1 8 underlying45 an ao ap aq rfl (by decide) _ _ _ rfl (aL.alloc _) ⟨z.heap.size,0,none⟩ 1 1 [zX] rfl rfl (cell_one_new _ _ _) (by intro u r;simp at r;subst r;rfl) (by decide) (by unfold maxLen;omega) (by omega) (by simp;omega) _ rfl ?_;intro j k f aM ad aN a5;have ae:f.heap[a]? =z.heap[a]? :=(ad.block _ (by simp;omega) g.1.box.2.1).trans (lG _ _ _ (by omega));have ag:f.cell? ⟨a,1,none⟩=some (slice R n.follow.length S):=(gW ae).trans v1;have a6:f.frozen? ⟨a,1,none⟩=false:=(gV ae).trans (g.1.cells.2.2.2.2.2.2 1);have H:=g.1.addFollow (x:=0) rfl aM ad (by rcases aN with q|q;exact .inl q;right;rw[q];simp);have l:=H.2 _ _ (g.2 _ _ aC);have aO:=vl H;have aP:=vl l;have a7:(f.setCell ⟨a,1,none⟩ (slice (qX j) (n.follow.length+1) k)).cell? ⟨w.heap.size+1,0,none⟩=some zX:=(by unfold cell?;rw[l];rfl);have a8:(f.setCell ⟨a,1,none⟩ (slice (qX j) (n.follow.length+1) k)).cell? ⟨w.heap.size+1,1,none⟩=some zX:=(by unfold cell?;rw[l];rfl);have a9:(f.setCell ⟨a,1,none⟩ (slice (qX j) (n.follow.length+1) k)).cell? ⟨w.heap.size+1,2,none⟩=some fX:=(by unfold cell?;rw[l];rfl);have ba:(f.setCell ⟨a,1,none⟩ (slice (qX j) (n.follow.length+1) k)).frozen? ⟨w.heap.size+1,0,none⟩=false:=(by unfold frozen?;rw[l];rfl);have bb:(f.setCell ⟨a,1,none⟩ (slice (qX j) (n.follow.length+1) k)).frozen? ⟨w.heap.size+1,1,none⟩=false:=(by unfold frozen?;rw[l];rfl);have q2:(f.setCell ⟨a,1,none⟩ (slice (qX j) (n.follow.length+1) k)).frozen? ⟨w.heap.size+1,2,none⟩=false:=(by unfold frozen?;rw[l];rfl);clear H l)
  obtain⟨p,ah,c0,c1,c2,ai⟩:∃p,p=(((f.setCell ⟨a,1,none⟩ (slice (qX j) (n.follow.length+1) k)).setCell ⟨w.heap.size+1,0,none⟩ (iX (P:Int))).setCell ⟨w.heap.size+1,1,none⟩ (iX (P:Int))).setCell ⟨w.heap.size+1,2,none⟩ fX/\p.cell? ⟨w.heap.size+1,0,none⟩=some (iX (P:Int))/\p.cell? ⟨w.heap.size+1,1,none⟩=some (iX (P:Int))/\p.cell? ⟨w.heap.size+1,2,none⟩=some fX/\Hid (NwIs d p a (n.place c)/\StayS w p):=by
   have aj:=aO.out;have ak:=aP.out;generalize f.setCell ⟨a,1,none⟩ (slice (qX j) (n.follow.length+1) k)=A at *;have al:(A.setCell ⟨w.heap.size+1,0,none⟩ (iX (P:Int))).heap[w.heap.size+1]? =some (.cells #[iX (P:Int),zX,fX] 167):=by simp[setCell,lU,ak]
   have aQ:NwIs d (A.setCell ⟨w.heap.size+1,0,none⟩ (iX (P:Int))) a (n.place c):=NwIs.setSpan ⟨_,_,_,_,_,aj.1⟩ ak (by omega);have ag:StayS w (A.setCell ⟨w.heap.size+1,0,none⟩ (iX (P:Int))):=zAd ((L.1.trans g.2).trans aj.2) (by omega);generalize A.setCell ⟨w.heap.size+1,0,none⟩ (iX (P:Int))=B at *;have b2:(B.setCell ⟨w.heap.size+1,1,none⟩ (iX (P:Int))).heap[w.heap.size+1]? =some (.cells #[iX (P:Int),iX (P:Int),fX] 167):=by simp[setCell,lU,al]
   have aR:NwIs d (B.setCell ⟨w.heap.size+1,1,none⟩ (iX (P:Int))) a (n.place c):=aQ.setSpan al (by omega);have aS:StayS w (B.setCell ⟨w.heap.size+1,1,none⟩ (iX (P:Int))):=zAd ag (by omega);generalize B.setCell ⟨w.heap.size+1,1,none⟩ (iX (P:Int))=aT at *;have I:(aT.setCell ⟨w.heap.size+1,2,none⟩ fX).heap[w.heap.size+1]? =some (.cells #[iX (P:Int),iX (P:Int),fX] 167):=by simp[setCell,lU,b2]
   refine⟨_,rfl,?_,?_,?_,aR.setSpan b2 (by omega),zAd aS (by omega)⟩
   ·unfold cell?;rw[I];rfl
   ·unfold cell?;rw[I];rfl
   ·unfold cell?;rw[I];rfl
  rw[<-ah];clear ah;refine gJ (v:=agg #[iX (P:Int),iX (P:Int),fX]) (by simp[results,results123,go_sem,c0,c1,c2]) rfl ?_;exact⟨by rw[aG.out],ai.1,ai.2⟩
end
structure Tr where
 kind:Nat
 set:Cs
 parts:List Tr
 least:Nat
 most:Nat
 endless:Bool
 chars:Nat
def Tr.none:Tr:=⟨0,⟨[],false⟩,[],0,0,false,0⟩
def Tr.copies (t:Tr):Nat:=if t.endless then(if t.least=0 then 1 else t.least) else t.most
def TreeAt (w:World):Nat->Nat->Tr->Prop
 |0,_,_=>False
 |d+1,b,t=>b<w.heap.size/\∃rv pv,w.heap[b]? =some (.cells #[int i64 (t.kind:Int),rv,bool t.set.others,pv,int i64 (t.least:Int),int i64 (t.most:Int),bool t.endless,int i64 (t.chars:Int)] 165)/\RangesAt w rv t.set.ranges/\
   ∃ao cap,pv=slice ao t.parts.length cap/\(t.parts.length<=cap/\t.parts.length<=1000000000000/\t.least<=1000/\t.most<=1000)/\cap<=maxLen/\∀i,i<t.parts.length->∃g o p,ao=some ⟨g,o,none⟩/\In w g/\w.cell? ⟨g,o+i,none⟩=some (pointer (some ⟨p,0,none⟩))/\TreeAt w d p (t.parts.getD i Tr.none)
abbrev Lay:=Nt->Tr->Nt×Sn
def rowTo (sub:Lay)(n:Nt)(parts:List Tr):Nat->Nt×Sn
 |0=>(n,⟨0,0,true⟩)
 |j+1=>((sub (rowTo sub n parts j).1 (parts.getD j Tr.none)).1.link (rowTo sub n parts j).2.last (sub (rowTo sub n parts j).1 (parts.getD j Tr.none)).2.first,(rowTo sub n parts j).2.then (sub (rowTo sub n parts j).1 (parts.getD j Tr.none)).2)
def Sn.or (a b:Sn):Sn:=⟨a.first|||b.first,a.last|||b.last,a.empty||b.empty⟩
def qA (sub:Lay)(n:Nt)(parts:List Tr):Nat->Nt×Sn
 |0=>(n,⟨0,0,false⟩)
 |j+1=>((sub (qA sub n parts j).1 (parts.getD j Tr.none)).1,(qA sub n parts j).2.or (sub (qA sub n parts j).1 (parts.getD j Tr.none)).2)
def zAz (t:Tr)(j:Nat)(q:Nt×Sn):Nt:=if t.endless&&(j+1==t.copies) then q.1.link q.2.last q.2.first else q.1
def zAM (t:Tr)(j:Nat)(q:Nt×Sn):Sn:=if t.least<=j then{q.2 with empty:=true} else q.2
def xE (sub:Lay)(n:Nt)(t:Tr):Nat->Nt×Sn
 |0=>(n,⟨0,0,true⟩)
 |j+1=>((zAz t j (rowTo sub (xE sub n t j).1 t.parts t.parts.length)).link (xE sub n t j).2.last (zAM t j (rowTo sub (xE sub n t j).1 t.parts t.parts.length)).first,(xE sub n t j).2.then (zAM t j (rowTo sub (xE sub n t j).1 t.parts t.parts.length)))
def xA:Nat->Lay
 |0,n,_=>(n,⟨0,0,true⟩)
 |d+1,n,t=>if t.kind=1 then(n.place t.set,n.spot) else if t.kind=2 then rowTo (xA d) n t.parts t.parts.length else if t.kind=3 then qA (xA d) n t.parts t.parts.length else if t.kind=4 then xE (xA d) n t t.copies else(n,⟨0,0,true⟩)
def zS (f:Tr->Nat)(parts:List Tr):Nat->Nat
 |0=>0
 |j+1=>zS f parts j+f (parts.getD j Tr.none)
def xW:Nat->Tr->Nat
 |0,_=>0
 |d+1,t=>if t.kind=1 then 1 else if t.kind=2\/t.kind=3 then zS (xW d) t.parts t.parts.length else if t.kind=4 then t.copies*zS (xW d) t.parts t.parts.length else 0
structure Nt.Good (n:Nt):Prop where
 len:n.sets.length<=24
 same:n.follow.length=n.sets.length
 fol:∀x∈n.follow,x<2^n.sets.length
theorem Nt.Good.top {n:Nt}(a:n.Good):∀x∈n.follow,x<2^24:=λx b=>lZ (a.fol x b) (kG (by omega) a.len)
theorem Sn.Small.up {s:Sn}{k m:Nat}(a:s.Small k)(b:k<=m):s.Small m:=⟨lZ a.first (kG (by omega) b),lZ a.last (kG (by omega) b)⟩
theorem zAA (n:Nt)(a b j:Nat):(n.linkTo a b j).sets=n.sets/\(n.linkTo a b j).rules=n.rules/\(n.linkTo a b j).empty=n.empty/\(n.linkTo a b j).first=n.first/\(n.linkTo a b j).ends=n.ends:=by
 induction j with
 |zero=>exact⟨rfl,rfl,rfl,rfl,rfl⟩
 |succ j c=>
  unfold Nt.linkTo;split
  ·exact c
  ·exact c
theorem zCD {n:Nt}(c:n.Good)(a b:Nat)(d:b<2^n.sets.length):(n.link a b).Good/\(n.link a b).sets=n.sets:=by
 have e:=(zAA n a b n.follow.length).1;refine⟨⟨by unfold Nt.link;rw[e];exact c.len,by unfold Nt.link;rw[e,zFQ];exact c.same,?_⟩,e⟩;unfold Nt.link;rw[e];exact zDG a b _ d c.fol
theorem zKv {n:Nt}(d:n.Good)(c:Cs)(g:n.sets.length+1<=24):(n.place c).Good/\(n.place c).sets.length=n.sets.length+1/\n.spot.Small (n.sets.length+1):=by
 have e:(n.place c).sets.length=n.sets.length+1:=by simp[Nt.place]
 have a:2^n.sets.length<2^(n.sets.length+1):=Nat.pow_lt_pow_right (by omega) (by omega);refine⟨⟨by omega,by simp[Nt.place,d.same],λx f=>?_⟩,e,⟨a,a⟩⟩;rw[e];rcases kU.1 f with b|b
 ·exact Nat.lt_trans (d.fol x b) a
 ·rw[kY.1 b];exact Nat.pow_pos (by omega)
def Lays (sub:Lay)(cnt:Tr->Nat):Prop:=∀n t,n.Good->n.sets.length+cnt t<=24->(sub n t).1.Good/\(sub n t).1.sets.length=n.sets.length+cnt t/\(sub n t).2.Small (n.sets.length+cnt t)
theorem zAW (k:Nat)(e:Bool):(Sn.mk 0 0 e).Small k:=⟨Nat.pow_pos (by omega),Nat.pow_pos (by omega)⟩
theorem zDl (f:Tr->Nat)(parts:List Tr)(j m:Nat)(a:j<=m):zS f parts j<=zS f parts m:=by
 induction m with
 |zero=>rw[Nat.le_zero.1 a];exact lQ
 |succ m b=>
  by_cases e:j=m+1
  ·rw[e];exact lQ
  ·exact lY (b (by omega)) (Nat.le_add_right _ _)
theorem zAX {a:Lay}{cnt:Tr->Nat}(f:Lays a cnt){n:Nt}(g:n.Good)(parts:List Tr)(j:Nat)(k:n.sets.length+zS cnt parts j<=24):(rowTo a n parts j).1.Good/\(rowTo a n parts j).1.sets.length=n.sets.length+zS cnt parts j/\(rowTo a n parts j).2.Small (n.sets.length+zS cnt parts j):=by
 induction j with
 |zero=>exact⟨g,rfl,zAW _ _⟩
 |succ j l=>
  have r:n.sets.length+(zS cnt parts j+cnt (parts.getD j Tr.none))<=24:=k;have ⟨m,o,p⟩:=l (by omega);have ⟨q,b,c⟩:=f _ (parts.getD j Tr.none) m (by omega);rw[o] at b c;have e:n.sets.length+zS cnt parts (j+1)=n.sets.length+zS cnt parts j+cnt (parts.getD j Tr.none):=by show n.sets.length+(zS cnt parts j+cnt (parts.getD j Tr.none))=_;omega
  rw[e];have d:=zCD q (rowTo a n parts j).2.last _ (by rw[b];exact c.first);exact⟨d.1,by show((a _ _).1.link _ _).sets.length=_;rw[d.2];exact b,Sn.then_small (p.up (by omega)) c⟩
theorem zCj {a:Lay}{cnt:Tr->Nat}(f:Lays a cnt){n:Nt}(g:n.Good)(parts:List Tr)(j:Nat)(k:n.sets.length+zS cnt parts j<=24):(qA a n parts j).1.Good/\(qA a n parts j).1.sets.length=n.sets.length+zS cnt parts j/\(qA a n parts j).2.Small (n.sets.length+zS cnt parts j):=by
 induction j with
 |zero=>exact⟨g,rfl,zAW _ _⟩
 |succ j l=>
  have s:n.sets.length+(zS cnt parts j+cnt (parts.getD j Tr.none))<=24:=k;have ⟨o,p,q⟩:=l (by omega);have ⟨r,c,b⟩:=f _ (parts.getD j Tr.none) o (by omega);rw[p] at c b;have e:n.sets.length+zS cnt parts (j+1)=n.sets.length+zS cnt parts j+cnt (parts.getD j Tr.none):=by show n.sets.length+(zS cnt parts j+cnt (parts.getD j Tr.none))=_;omega
  rw[e];have d:=q.up (m:=n.sets.length+zS cnt parts j+cnt (parts.getD j Tr.none)) (by omega);exact⟨r,c,⟨Nat.or_lt_two_pow d.first b.first,Nat.or_lt_two_pow d.last b.last⟩⟩
theorem zJv {t:Tr}{j k:Nat}{q:Nt×Sn}(a:q.2.Small k):(zAM t j q).Small k:=by
 unfold zAM;split
 ·exact⟨a.first,a.last⟩
 ·exact a
theorem zBT {a:Lay}{cnt:Tr->Nat}(k:Lays a cnt){n:Nt}(l:n.Good)(t:Tr)(j:Nat)(m:n.sets.length+j*zS cnt t.parts t.parts.length<=24):(xE a n t j).1.Good/\(xE a n t j).1.sets.length=n.sets.length+j*zS cnt t.parts t.parts.length/\(xE a n t j).2.Small (n.sets.length+j*zS cnt t.parts t.parts.length):=by
 induction j with
 |zero=>exact⟨l,by simp[xE],zAW _ _⟩
 |succ j o=>
  rw[Nat.add_mul,Nat.one_mul] at m ⊢;have ⟨p,q,r⟩:=o (by omega);have ⟨f,b,c⟩:=zAX k p t.parts t.parts.length (by omega);rw[q] at b c;have d:(zAz t j (rowTo a (xE a n t j).1 t.parts t.parts.length)).Good/\(zAz t j (rowTo a (xE a n t j).1 t.parts t.parts.length)).sets=(rowTo a (xE a n t j).1 t.parts t.parts.length).1.sets:=by
   unfold zAz;split
   ·exact zCD f _ _ (by rw[b];exact c.first)
   ·exact⟨f,rfl⟩
  have s2:=zJv (t:=t) (j:=j) c;have g:=zCD d.1 (xE a n t j).2.last (zAM t j (rowTo a (xE a n t j).1 t.parts t.parts.length)).first (by rw[d.2,b];exact s2.first)
  have e:n.sets.length+(j*zS cnt t.parts t.parts.length+zS cnt t.parts t.parts.length)=n.sets.length+j*zS cnt t.parts t.parts.length+zS cnt t.parts t.parts.length:=by omega
  rw[e];exact⟨g.1,by show((zAz t j _).link _ _).sets.length=_;rw[g.2,d.2];exact b,Sn.then_small (r.up (by omega)) s2⟩
theorem jW (c:Nat):Lays (xA c) (xW c):=by
 induction c with
 |zero=>exact λn t b _=>⟨b,rfl,zAW _ _⟩
 |succ c e=>
  intro n t b a;unfold xA;unfold xW at a ⊢;by_cases h:t.kind=1
  ·simp only[if_pos h] at a ⊢
   have:=zKv b t.set a;exact this
  ·simp only[if_neg h] at a ⊢
   by_cases f:t.kind=2
   ·simp only[if_pos f,if_pos (Or.inl f:t.kind=2\/t.kind=3)] at a ⊢
    exact zAX e b _ _ a
   ·simp only[if_neg f] at a ⊢
    by_cases g:t.kind=3
    ·simp only[if_pos g,if_pos (Or.inr g:t.kind=2\/t.kind=3)] at a ⊢
     exact zCj e b _ _ a
    ·simp only[if_neg g,if_neg (show¬(t.kind=2\/t.kind=3) by omega)] at a ⊢
     by_cases j:t.kind=4
     ·simp only[if_pos j] at a ⊢
      exact zBT e b t _ a
     ·simp only[if_neg j] at a ⊢
      exact⟨b,rfl,zAW _ _⟩
section
def zCs (w0:World)(nb d:Nat)(sub:Lay)(cnt:Tr->Nat):Prop:=∀(w:World) (n:Nt) (b:Nat) (t:Tr),NwIs w0 w nb n->n.Good->TreeAt w0 d b t->n.sets.length+cnt t<=24->Calls prog 89 #[pointer (some ⟨nb,0,none⟩),pointer (some ⟨b,0,none⟩)] w λe w'=>e=returned (sub n t).2.val/\NwIs w0 w' nb (sub n t).1/\StayS w w'
structure Al (w0 w wr:World)(nb:Nat)(n:Nt)(s:Sn):Prop where
 net:NwIs w0 wr nb n
 res:wr.heap[w.heap.size]? =some (.cells (Sn.mk 0 0 false).cells 167)
 all:wr.heap[w.heap.size+1]? =some (.cells s.cells 167)
 stay:StayS w wr
 old:w0.heap.size<=w.heap.size
theorem zK {w:World}{b:Nat}{s:Sn}(a:w.heap[b]? =some (.cells s.cells 167)):w.cell? ⟨b,0,none⟩=some (iX (s.first:Int))/\w.cell? ⟨b,1,none⟩=some (iX (s.last:Int))/\w.cell? ⟨b,2,none⟩=some (bool s.empty)/\∀i,w.frozen? ⟨b,i,none⟩=false:=by
 refine⟨?_,?_,?_,λi=>?_⟩
 ·unfold cell?;rw[a];rfl
 ·unfold cell?;rw[a];rfl
 ·unfold cell?;rw[a];rfl
 ·unfold frozen?;rw[a];simp
def World.span (w:World)(b:Nat)(s:Sn):World:=((w.setCell ⟨b,0,none⟩ (int i64 (s.first:Int))).setCell ⟨b,1,none⟩ (int i64 (s.last:Int))).setCell ⟨b,2,none⟩ (bool s.empty)
theorem zFt {w:World}{b:Nat}{s s':Sn}(e:w.heap[b]? =some (.cells s.cells 167)):(World.span w b s').heap[b]? =some (.cells s'.cells 167)/\(∀k,k≠b->(World.span w b s').heap[k]? =w.heap[k]?)/\(∀w0 nb n,NwIs w0 w nb n->w0.heap.size<=b->NwIs w0 (World.span w b s') nb n):=by
 have c2:(w.setCell ⟨b,0,none⟩ (iX (s'.first:Int))).heap[b]? =some (.cells #[iX (s'.first:Int),iX (s.last:Int),bool s.empty] 167):=by simp[setCell,lU,e,Sn.cells]
 have g:∀k,k≠b->(w.setCell ⟨b,0,none⟩ (iX (s'.first:Int))).heap[k]? =w.heap[k]? :=λk a=>lJ _ _ _ _ a;have j:∀w0 nb n,NwIs w0 w nb n->w0.heap.size<=b->NwIs w0 (w.setCell ⟨b,0,none⟩ (iX (s'.first:Int))) nb n:=λw0 nb n d c=>d.setSpan e c;unfold World.span;generalize w.setCell ⟨b,0,none⟩ (iX (s'.first:Int))=w1 at *;have f:(w1.setCell ⟨b,1,none⟩ (iX (s'.last:Int))).heap[b]? =some (.cells #[iX (s'.first:Int),iX (s'.last:Int),bool s.empty] 167):=by simp[setCell,lU,c2]
 have l:∀k,k≠b->(w1.setCell ⟨b,1,none⟩ (iX (s'.last:Int))).heap[k]? =w.heap[k]? :=λk a=>(lJ _ _ _ _ a).trans (g k a);have m:∀w0 nb n,NwIs w0 w nb n->w0.heap.size<=b->NwIs w0 (w1.setCell ⟨b,1,none⟩ (iX (s'.last:Int))) nb n:=λw0 nb n d c=>(j w0 nb n d c).setSpan c2 c;generalize w1.setCell ⟨b,1,none⟩ (iX (s'.last:Int))=w2 at *;refine⟨by simp[setCell,lU,f,Sn.cells],λk a=>(lJ _ _ _ _ a).trans (l k a),λw0 nb n d c=>(m w0 nb n d c).setSpan f c⟩
section
variable {w0 w wr w2:World} {nb:Nat} {n:Nt} {s:Sn}
theorem Al.call {c:Nt}(a:Al w0 w wr nb n s)(d:NwIs w0 w2 nb c)(b:StayS wr w2):Al w0 w w2 nb c s:=⟨d,b _ _ a.res,b _ _ a.all,a.stay.trans b,a.old⟩
theorem Al.grown (a:Al w0 w wr nb n s)(b:Grew wr w2):Al w0 w w2 nb n s:=a.call (a.net.grown b) b.stayS
theorem Al.setAll (a:Al w0 w wr nb n s)(s':Sn):Al w0 w (World.span wr (w.heap.size+1) s') nb n s':=by
 have ⟨e,b,f⟩:=zFt (s':=s') a.all;have g:=a.old;exact⟨f _ _ _ a.net (by omega),(b _ (by omega)).trans a.res,e,λk c d=>by
  have j:=(kQ.1 d).1;exact(b k (by omega)).trans (a.stay k c d),a.old⟩
theorem Al.fin (a:Al w0 w wr nb n s)(s':Sn):NwIs w0 (World.span wr w.heap.size s') nb n/\StayS w (World.span wr w.heap.size s')/\(World.span wr w.heap.size s').cell? ⟨w.heap.size,0,none⟩=some (iX (s'.first:Int))/\(World.span wr w.heap.size s').cell? ⟨w.heap.size,1,none⟩=some (iX (s'.last:Int))/\(World.span wr w.heap.size s').cell? ⟨w.heap.size,2,none⟩=some (bool s'.empty):=by
 have ⟨d,e,f⟩:=zFt (s':=s') a.res;have ⟨c0,c1,c2,_⟩:=zK d;exact⟨f _ _ _ a.net a.old,λk c b=>by
  have g:=(kQ.1 b).1;exact(e k (by omega)).trans (a.stay k c b),c0,c1,c2⟩
theorem Al.start (a:NwIs w0 w nb n)(s:Sn):Al w0 w ((w.alloc (.cells (Sn.mk 0 0 false).cells 167)).alloc (.cells s.cells 167)) nb n s:=by
 have s1:(w.alloc (.cells (Sn.mk 0 0 false).cells 167)).heap.size=w.heap.size+1:=by simp
 have c:=kZ (b:=w.heap.size) w (.cells (Sn.mk 0 0 false).cells 167) lQ;have d:=kZ (b:=(w.alloc (.cells (Sn.mk 0 0 false).cells 167)).heap.size) (w.alloc (.cells (Sn.mk 0 0 false).cells 167)) (.cells s.cells 167) lQ;refine⟨(a.grown c).grown d,(lG _ _ _ (by rw[s1];omega)).trans (gY _ _),?_,c.stayS.trans d.stayS,by obtain⟨_,_,_,_,_,a⟩:=a;exact a.keep.size⟩;have:=gY (w.alloc (.cells (Sn.mk 0 0 false).cells 167)) (.cells s.cells 167);rw[s1] at this;exact this
end
theorem zDJ (w0:World)(nb H:Nat)(c:Lay)(cnt:Tr->Nat)(O:zCs w0 nb H c cnt)(B:Lays c cnt)(w:World)(n:Nt)(b:Nat)(t:Tr)(P:NwIs w0 w nb n)(I:n.Good)(ax:TreeAt w0 (H+1) b t)(R:n.sets.length+zS cnt t.parts t.parts.length<=24)(aY:t.parts.length<=1000000000000):
  Calls prog 124 #[pX nb,pX b] w λe w'=>e=returned (rowTo c n t.parts t.parts.length).2.val/\NwIs w0 w' nb (rowTo c n t.parts t.parts.length).1/\StayS w w':=by
 obtain⟨S,rv,aZ,T,_,ao,cap,rfl,_,_,U⟩:=ax;have V:Hid (∀wr W,NwIs w0 wr nb W->wr.cell? ⟨b,3,none⟩=some (slice ao t.parts.length cap)/\∀i,i<t.parts.length->∃g o p,ao=some ⟨g,o,none⟩/\wr.cell? ⟨g,o+i,none⟩=some (pX p)/\TreeAt w0 H p (t.parts.getD i Tr.none)):=by
  rintro wr W ⟨_,_,_,_,_,ay⟩;have X:=ay.keep;have az:=(X.block b S (kJ S)).trans T;refine⟨by unfold cell?;rw[az];rfl,λi aA=>?_⟩;have ⟨g,o,p,aB,aC,Y,C⟩:=U i aA;exact⟨g,o,p,aB,zA Y aC X,C⟩
 obtain⟨a,aa⟩:∃a,a=rowTo c n t.parts:=⟨_,rfl⟩
 have y:Hid (a 0=(n,⟨0,0,true⟩)/\(∀j,a (j+1)=((c (a j).1 (t.parts.getD j Tr.none)).1.link (a j).2.last (c (a j).1 (t.parts.getD j Tr.none)).2.first,(a j).2.then (c (a j).1 (t.parts.getD j Tr.none)).2))/\(∀j,j<=t.parts.length->(a j).1.Good/\(a j).2.Small 24)/\(∀j,j<t.parts.length->(a j).1.sets.length+cnt (t.parts.getD j Tr.none)<=24/\(c (a j).1 (t.parts.getD j Tr.none)).1.Good/\(c (a j).1 (t.parts.getD j Tr.none)).2.Small 24)/\a t.parts.length=rowTo c n t.parts t.parts.length):=by
  rw[aa];have D:∀j,j<=t.parts.length->n.sets.length+zS cnt t.parts j<=24:=λj m=>lY (Nat.add_le_add_left (zDl cnt t.parts j _ m) _) R;refine⟨rfl,λj=>rfl,λj m=>?_,λj m=>?_,rfl⟩
  ·have:=zAX B I t.parts j (D j m)
   exact⟨this.1,this.2.2.up (D j m)⟩
  ·have u:=zAX B I t.parts j (D j (by omega))
   have ab:n.sets.length+(zS cnt t.parts j+cnt (t.parts.getD j Tr.none))<=24:=D (j+1) m;have E:=B _ (t.parts.getD j Tr.none) u.1 (by rw[u.2.1];omega);exact⟨by rw[u.2.1];omega,E.1,E.2.2.up (by rw[u.2.1];omega)⟩
 obtain⟨w1,ac,ad⟩:∃w1,w1=(w.alloc (.cells #[zX,zX,fX] 167)).alloc (.cells #[zX,zX,tX] 167)/\Hid (Al w0 w w1 nb n ⟨0,0,true⟩):=⟨_,rfl,Al.start P ⟨0,0,true⟩⟩
 have aD:=vl O;generalize aE:rowTo c n t.parts t.parts.length=f at *;clear aE aa U T O B R P I;go_in;apply wp_cut;intro aF z;go_wp2;apply z.out;clear z;apply wp_cut;intro aF z;go_wp2;apply z.out;clear z;rw[<-ac];clear ac;have y3:=(V w1 n ad.net).1;go_wp2;clear y3;go_loopg [15] t.parts.length (λq i wr=>∃j:Nat,q=t.parts.length-j/\j<=t.parts.length/\i=iX (j:Int)/\Al w0 w wr nb (a j).1 (a j).2)
 case atStart=>exact⟨0,rfl,lX,rfl,by rw[y.out.1];exact ad⟩
 case round=>
  obtain⟨j,J,m,rfl,k⟩:=hrel;have aG:Hid (gk=t.parts.length-j/\Al w0 w wr nb (a j).1 (a j).2):=⟨J,k⟩
  by_cases ae:j<t.parts.length
  ·have aH:(j:Int)<(t.parts.length:Int):=by omega
   obtain⟨g,o,p,rfl,Y,C⟩:=(V wr _ k.net).2 j ae;have ⟨af,b2,ag⟩:=y.2.2.2.1 j ae;have ⟨ah,ai⟩:=y.2.2.1 j m;have aj:=aD wr (a j).1 p (t.parts.getD j Tr.none) k.net ah C af;have ak:=λx (aI:NwIs w0 x nb (c (a j).1 (t.parts.getD j Tr.none)).1)=>zDa w0 x nb _ aI (by rw[b2.same];exact b2.len) b2.top (a j).2 (c (a j).1 (t.parts.getD j Tr.none)).2 ai ag;have aJ:=vl <| y.2.1 j;have aK:=vl k;clear J k C af b2 ag ah ai;generalize (a j).1=al at *;generalize (a j).2=l at *;generalize (c al (t.parts.getD j Tr.none)).1=A at *;generalize (c al (t.parts.getD j Tr.none)).2=q2 at *;have aL:Hid (Ca 89 #[pX nb,pX p] wr λe w'=>e=returned (agg #[iX (q2.first:Int),iX (q2.last:Int),bool q2.empty])/\NwIs w0 w' nb A/\StayS wr w'):=aj;have aM:Hid (∀x,NwIs w0 x nb A->Ca 164 #[pX nb,agg #[iX (l.first:Int),iX (l.last:Int),bool l.empty],agg #[iX (q2.first:Int),iX (q2.last:Int),bool q2.empty]] x λe w'=>e=returned (agg #[iX ((l.then q2).first:Int),iX ((l.then q2).last:Int),bool (l.then q2).empty])/\NwIs w0 w' nb (A.link l.last q2.first)/\StayS x w'):=ak;clear aj ak;generalize l.then q2=K at *
   go_wp2_with (first|(go_at_call 89;refine aL.mono ?_;rintro e L ⟨rfl,am,an⟩;have ap:=aK.call am an;have M:=ap.grown (kZ L (Obj.cells #[iX (q2.first:Int),iX (q2.last:Int),bool q2.empty] 167) lQ);obtain⟨c0,c1,c2,-⟩:=zK M.all;obtain⟨a0,a1,a2,-⟩:=zK (s:=q2) (gY L (Obj.cells #[iX (q2.first:Int),iX (q2.last:Int),bool q2.empty] 167));have aq:Hid (Al w0 w (L.alloc (Obj.cells #[iX (q2.first:Int),iX (q2.last:Int),bool q2.empty] 167)) nb A l):=M;clear ap M am an)|(go_at_call 164;refine(aM _ aq.net).mono ?_;rintro e aN ⟨rfl,ar,au⟩;have N:=aq.call ar au;have ⟨a3,a4,a5,F⟩:=zK N.all;have aO:=F 0;have aP:=F 1;have aQ:=F 2;have aR:Hid (Al w0 w (World.span aN (w.heap.size+1) K) nb (A.link l.last q2.first) K):=N.setAll K;clear N ar au F))
   go_roundg (t.parts.length-(j+1))
   case measure=>rw[aG.out.1];omega
   case rel=>exact⟨j+1,rfl,by omega,by go_num,by rw[aJ.out];exact aR⟩
  ·have aH:(t.parts.length:Int)<=(j:Int):=by omega
   have e:j=t.parts.length:=by omega
   subst e;rw[y.out.2.2.2.2] at k;obtain⟨c0,c1,c2,-⟩:=zK k.all;have ⟨a6,a7,a8,G⟩:=zK k.res;have aO:=G 0;have aP:=G 1;have aQ:=G 2;have aS:Hid (Al w0 w wr nb f.1 f.2):=k;clear J k G;go_wp2;obtain⟨r,av,aw,aT,aU,aV⟩:∃r,r=((wr.setCell ⟨w.heap.size,0,none⟩ (iX (f.2.first:Int))).setCell ⟨w.heap.size,1,none⟩ (iX (f.2.last:Int))).setCell ⟨w.heap.size,2,none⟩ (bool f.2.empty)/\Hid (NwIs w0 r nb f.1/\StayS w r)/\r.cell? ⟨w.heap.size,0,none⟩=some (iX (f.2.first:Int))/\r.cell? ⟨w.heap.size,1,none⟩=some (iX (f.2.last:Int))/\r.cell? ⟨w.heap.size,2,none⟩=some (bool f.2.empty):=by
    have ⟨u,ab,E,aW,aX⟩:=aS.fin f.2;exact⟨_,rfl,⟨u,ab⟩,E,aW,aX⟩
   rw[<-av];clear av;refine gJ (v:=agg #[iX (f.2.first:Int),iX (f.2.last:Int),bool f.2.empty]) (by simp[results,results124,go_sem,aT,aU,aV]) rfl ?_;exact⟨rfl,aw.1,aw.2⟩
end
theorem zEY (k:World)(c ab:Nat)(r:Lay)(cnt:Tr->Nat)(am:zCs k c ab r cnt)(U:Lays r cnt)(w:World)(n:Nt)(b:Nat)(t:Tr)(an:NwIs k w c n)(ac:n.Good)(aY:TreeAt k (ab+1) b t)(ap:n.sets.length+zS cnt t.parts t.parts.length<=24)(bw:t.parts.length<=1000000000000):
  Calls prog 125 #[pX c,pX b] w λe w'=>e=returned (qA r n t.parts t.parts.length).2.val/\NwIs k w' c (qA r n t.parts t.parts.length).1/\StayS w w':=by
 obtain⟨aq,rv,bx,ar,_,ao,cap,rfl,_,_,au⟩:=aY;have av:Hid (∀wr aw,NwIs k wr c aw->wr.cell? ⟨b,3,none⟩=some (slice ao t.parts.length cap)/\∀i,i<t.parts.length->∃g o p,ao=some ⟨g,o,none⟩/\wr.cell? ⟨g,o+i,none⟩=some (pX p)/\TreeAt k ab p (t.parts.getD i Tr.none)):=by
  rintro wr aw ⟨_,_,_,_,_,aZ⟩;have ax:=aZ.keep;have a0:=(ax.block b aq (kJ aq)).trans ar;refine⟨by unfold cell?;rw[a0];rfl,λi a1=>?_⟩;have ⟨g,o,p,a2,a3,ay,V⟩:=au i a1;exact⟨g,o,p,a2,zA ay a3 ax,V⟩
 obtain⟨a,az⟩:∃a,a=qA r n t.parts:=⟨_,rfl⟩
 have M:Hid (a 0=(n,⟨0,0,false⟩)/\(∀j,a (j+1)=((r (a j).1 (t.parts.getD j Tr.none)).1,(a j).2.or (r (a j).1 (t.parts.getD j Tr.none)).2))/\(∀j,j<=t.parts.length->(a j).1.Good/\(a j).2.Small 24)/\(∀j,j<t.parts.length->(a j).1.sets.length+cnt (t.parts.getD j Tr.none)<=24/\(r (a j).1 (t.parts.getD j Tr.none)).1.Good/\(r (a j).1 (t.parts.getD j Tr.none)).2.Small 24)/\a t.parts.length=qA r n t.parts t.parts.length):=by
  rw[az];have W:∀j,j<=t.parts.length->n.sets.length+zS cnt t.parts j<=24:=λj H=>lY (Nat.add_le_add_left (zDl cnt t.parts j _ H) _) ap;refine⟨rfl,λj=>rfl,λj H=>?_,λj H=>?_,rfl⟩
  ·have:=zCj U ac t.parts j (W j H)
   exact⟨this.1,this.2.2.up (W j H)⟩
  ·have K:=zCj U ac t.parts j (W j (by omega))
   have aA:n.sets.length+(zS cnt t.parts j+cnt (t.parts.getD j Tr.none))<=24:=W (j+1) H;have X:=U _ (t.parts.getD j Tr.none) K.1 (by rw[K.2.1];omega);exact⟨by rw[K.2.1];omega,X.1,X.2.2.up (by rw[K.2.1];omega)⟩
 obtain⟨w1,aB,aC⟩:∃w1,w1=(w.alloc (.cells #[zX,zX,fX] 167)).alloc (.cells #[zX,zX,fX] 167)/\Hid (Al k w w1 c n ⟨0,0,false⟩):=⟨_,rfl,Al.start an ⟨0,0,false⟩⟩
 have a4:=vl am;generalize a5:qA r n t.parts t.parts.length=u at *;clear a5 az au ar am U ap an ac;go_in;apply wp_cut;intro a6 N;go_wp2;apply N.out;clear N;apply wp_cut;intro a6 N;go_wp2;apply N.out;clear N;rw[<-aB];clear aB;have y3:=(av w1 n aC.net).1;go_wp2;clear y3;go_loopg [15] t.parts.length (λq i wr=>∃j:Nat,q=t.parts.length-j/\j<=t.parts.length/\i=iX (j:Int)/\Al k w wr c (a j).1 (a j).2)
 case atStart=>exact⟨0,rfl,lX,rfl,by rw[M.out.1];exact aC⟩
 case round=>
  obtain⟨j,ad,H,rfl,D⟩:=hrel;have aD:Hid (gk=t.parts.length-j/\Al k w wr c (a j).1 (a j).2):=⟨ad,D⟩
  by_cases aE:j<t.parts.length
  ·have a7:(j:Int)<(t.parts.length:Int):=by omega
   obtain⟨g,o,p,rfl,ay,V⟩:=(av wr _ D.net).2 j aE;have ⟨aF,b2,ag⟩:=M.2.2.2.1 j aE;have ⟨aG,ah⟩:=M.2.2.1 j H;have aH:=a4 wr (a j).1 p (t.parts.getD j Tr.none) D.net aG V aF;have a8:(a j).2.first<16777216:=ah.first
   have a9:(a j).2.last<16777216:=ah.last;have ba:(r (a j).1 (t.parts.getD j Tr.none)).2.first<16777216:=ag.first
   have bb:(r (a j).1 (t.parts.getD j Tr.none)).2.last<16777216:=ag.last;have ai:=vl <| M.2.1 j;have aI:=vl D;clear ad D V aF b2 ag aG ah;generalize (a j).1=aJ at *;generalize (a j).2=B at *;generalize (r aJ (t.parts.getD j Tr.none)).1=E at *;generalize (r aJ (t.parts.getD j Tr.none)).2=q2 at *;have aK:Hid (Ca 89 #[pX c,pX p] wr λe w'=>e=returned (agg #[iX (q2.first:Int),iX (q2.last:Int),bool q2.empty])/\NwIs k w' c E/\StayS wr w'):=aH;clear aH;have aL:bits .or i64 (B.first:Int) (q2.first:Int)=((B.first|||q2.first:Nat):Int):=yZ _ _ (by omega) (by omega);have aM:bits .or i64 (B.last:Int) (q2.last:Int)=((B.last|||q2.last:Nat):Int):=yZ _ _ (by omega) (by omega);clear a8 a9 ba bb;have aN:Hid (∀m,Al k w m c E B->w.heap.size+1<m.heap.size/\Al k w (m.alloc (Obj.cells #[iX (q2.first:Int),iX (q2.last:Int),bool q2.empty] 167)) c E B/\(m.alloc (Obj.cells #[iX (q2.first:Int),iX (q2.last:Int),bool q2.empty] 167)).heap[m.heap.size]? =some (.cells q2.cells 167)):=λm Y=>⟨(kQ.1 Y.all).1,Y.grown (kZ m _ lQ),gY m _⟩
   have aO:Hid (B.or q2=⟨B.first|||q2.first,B.last|||q2.last,B.empty||q2.empty⟩):=rfl;rw[aO.out] at ai;clear aO;obtain⟨z,s,L⟩:=B;obtain⟨l,f,C⟩:=q2;have aP:Hid (Ca 89 #[pX c,pX p] wr λe w'=>e=returned (agg #[iX (l:Int),iX (f:Int),bool C])/\NwIs k w' c E/\StayS wr w'):=aK;clear aK;have bz:bits .or i64 (z:Int) (l:Int)=((z|||l:Nat):Int):=aL;have bA:bits .or i64 (s:Int) (f:Int)=((s|||f:Nat):Int):=aM;clear aL aM;have aQ:Hid (a (j+1)=(E,⟨z|||l,s|||f,L||C⟩)):=ai;clear ai;have aR:Hid (∀A:World,A.heap[w.heap.size+1]? =some (.cells #[iX (z:Int),iX (s:Int),bool L] 167)->∀F,w.heap.size+1<F->A.heap[F]? =some (.cells #[iX (l:Int),iX (f:Int),bool C] 167)->∀x y:Nat,
     ((A.setCell ⟨w.heap.size+1,0,none⟩ (iX (x:Int))).cell? ⟨w.heap.size+1,1,none⟩=some (iX (s:Int))/\(A.setCell ⟨w.heap.size+1,0,none⟩ (iX (x:Int))).cell? ⟨F,1,none⟩=some (iX (f:Int))/\(A.setCell ⟨w.heap.size+1,0,none⟩ (iX (x:Int))).frozen? ⟨w.heap.size+1,1,none⟩=false)/\
     (((A.setCell ⟨w.heap.size+1,0,none⟩ (iX (x:Int))).setCell ⟨w.heap.size+1,1,none⟩ (iX (y:Int))).cell? ⟨w.heap.size+1,2,none⟩=some (bool L)/\((A.setCell ⟨w.heap.size+1,0,none⟩ (iX (x:Int))).setCell ⟨w.heap.size+1,1,none⟩ (iX (y:Int))).cell? ⟨F,2,none⟩=some (bool C)/\((A.setCell ⟨w.heap.size+1,0,none⟩ (iX (x:Int))).setCell ⟨w.heap.size+1,1,none⟩ (iX (y:Int))).frozen? ⟨w.heap.size+1,2,none⟩=false)):=by
    intro A bc F I bd x y;have c2:(A.setCell ⟨w.heap.size+1,0,none⟩ (iX (x:Int))).heap[w.heap.size+1]? =some (.cells #[iX (x:Int),iX (s:Int),bool L] 167):=by simp[setCell,lU,bc]
    have aS:(A.setCell ⟨w.heap.size+1,0,none⟩ (iX (x:Int))).heap[F]? =some (.cells #[iX (l:Int),iX (f:Int),bool C] 167):=(lJ _ _ _ _ (by show F≠w.heap.size+1;omega)).trans bd;generalize A.setCell ⟨w.heap.size+1,0,none⟩ (iX (x:Int))=aT at *;have aU:(aT.setCell ⟨w.heap.size+1,1,none⟩ (iX (y:Int))).heap[w.heap.size+1]? =some (.cells #[iX (x:Int),iX (y:Int),bool L] 167):=by simp[setCell,lU,c2]
    have bg:(aT.setCell ⟨w.heap.size+1,1,none⟩ (iX (y:Int))).heap[F]? =some (.cells #[iX (l:Int),iX (f:Int),bool C] 167):=(lJ _ _ _ _ (by show F≠w.heap.size+1;omega)).trans aS;refine⟨⟨?_,?_,?_⟩,?_,?_,?_⟩
    ·unfold cell?;rw[c2];rfl
    ·unfold cell?;rw[aS];rfl
    ·unfold frozen?;rw[c2];rfl
    ·unfold cell?;rw[aU];rfl
    ·unfold cell?;rw[bg];rfl
    ·unfold frozen?;rw[aU];rfl
   rcases L with _|_
   ·have aj:Hid (a (j+1)=(E,⟨z|||l,s|||f,C⟩)):=aQ
    go_wp2_with (go_at_call 89;refine aP.mono ?_;rintro e m ⟨rfl,O,P⟩;have R:=aI.call O P;have ⟨S,G,I⟩:=aN m R;have ⟨c0,c1,c2,T⟩:=zK G.all;have aV:=T 0;obtain⟨bh,bi,bj,-⟩:=zK I;have ⟨⟨bk,bm,bn⟩,bo,bp,bq⟩:=aR _ G.all m.heap.size S I (z|||l) (s|||f);have ak:Hid (Al k w (World.span (m.alloc (Obj.cells #[iX (l:Int),iX (f:Int),bool C] 167)) (w.heap.size+1) ⟨z|||l,s|||f,C⟩) c E ⟨z|||l,s|||f,C⟩):=G.setAll _;clear R G O P T I S)
    go_roundg (t.parts.length-(j+1))
    case measure=>rw[aD.out.1];omega
    case rel=>exact⟨j+1,rfl,by omega,by go_num,by rw[aj.out];exact ak⟩
   ·have aj:Hid (a (j+1)=(E,⟨z|||l,s|||f,true⟩)):=aQ
    go_wp2_with (go_at_call 89;refine aP.mono ?_;rintro e m ⟨rfl,O,P⟩;have R:=aI.call O P;have ⟨S,G,I⟩:=aN m R;have ⟨c0,c1,c2,T⟩:=zK G.all;have aV:=T 0;obtain⟨bh,bi,bj,-⟩:=zK I;have ⟨⟨bk,bm,bn⟩,bo,bp,bq⟩:=aR _ G.all m.heap.size S I (z|||l) (s|||f);have ak:Hid (Al k w (World.span (m.alloc (Obj.cells #[iX (l:Int),iX (f:Int),bool C] 167)) (w.heap.size+1) ⟨z|||l,s|||f,true⟩) c E ⟨z|||l,s|||f,true⟩):=G.setAll _;clear R G O P T I S)
    go_roundg (t.parts.length-(j+1))
    case measure=>rw[aD.out.1];omega
    case rel=>exact⟨j+1,rfl,by omega,by go_num,by rw[aj.out];exact ak⟩
  ·have a7:(t.parts.length:Int)<=(j:Int):=by omega
   have e:j=t.parts.length:=by omega
   subst e;rw[M.out.2.2.2.2] at D;obtain⟨c0,c1,c2,-⟩:=zK D.all;have ⟨bB,bC,bD,aa⟩:=zK D.res;have aV:=aa 0;have bE:=aa 1;have bF:=aa 2;have br:Hid (Al k w wr c u.1 u.2):=D;clear ad D aa;go_wp2;obtain⟨J,aW,aX,bs,bt,bu⟩:∃J,J=((wr.setCell ⟨w.heap.size,0,none⟩ (iX (u.2.first:Int))).setCell ⟨w.heap.size,1,none⟩ (iX (u.2.last:Int))).setCell ⟨w.heap.size,2,none⟩ (bool u.2.empty)/\Hid (NwIs k J c u.1/\StayS w J)/\J.cell? ⟨w.heap.size,0,none⟩=some (iX (u.2.first:Int))/\J.cell? ⟨w.heap.size,1,none⟩=some (iX (u.2.last:Int))/\J.cell? ⟨w.heap.size,2,none⟩=some (bool u.2.empty):=by
    have ⟨K,aA,X,bv,Y⟩:=br.fin u.2;exact⟨_,rfl,⟨K,aA⟩,X,bv,Y⟩
   rw[<-aW];clear aW;refine gJ (v:=agg #[iX (u.2.first:Int),iX (u.2.last:Int),bool u.2.empty]) (by simp[results,results125,go_sem,bs,bt,bu]) rfl ?_;exact⟨rfl,aX.1,aX.2⟩
theorem zDO (w:World)(l m:Nat)(e:Bool):
  Calls prog 165 #[agg #[iX (l:Int),iX (m:Int),bool e]] w λx w'=>x=returned (iX (((if e then(if l=0 then 1 else l) else m:Nat)):Int))/\Grew w w':=by
 cases e with
 |false=>
  go_in;go_wp2;go_ret;exact⟨rfl,kZ _ _ lQ⟩
 |true=>
  by_cases a:l=0
  ·subst a
   go_in;go_wp2;go_ret;exact⟨rfl,kZ _ _ lQ⟩
  ·have b:((l:Int)==0)=false:=by rw[hX];omega
   go_in;go_wp2;go_ret;exact⟨rfl,kZ _ _ lQ⟩
theorem zFU (l:World)(f aS:Nat)(A:Lay)(cnt:Tr->Nat)(bc:zCs l f aS A cnt)(aC:Lays A cnt)(w:World)(n:Nt)(b:Nat)(t:Tr)(E:NwIs l w f n)(aT:n.Good)(aU:TreeAt l (aS+1) b t)(bd:n.sets.length+t.copies*zS cnt t.parts t.parts.length<=24)(bx:t.parts.length<=1000000000000)(bZ:t.copies<=1000000000000)(b0:t.least<=1000000000000):
  Calls prog 126 #[pX f,pX b] w λe w'=>e=returned (xE A n t t.copies).2.val/\NwIs l w' f (xE A n t t.copies).1/\StayS w w':=by
 have bz:=vl aU;obtain⟨be,rv,b6,bf,-⟩:=id aU;have aV:Hid (∀wr C,NwIs l wr f C->wr.cell? ⟨b,4,none⟩=some (iX (t.least:Int))/\wr.cell? ⟨b,5,none⟩=some (iX (t.most:Int))/\wr.cell? ⟨b,6,none⟩=some (bool t.endless)):=by
  rintro wr C ⟨_,_,_,_,_,ar⟩;have aW:=ar.keep;have bA:=(aW.block b be (kJ be)).trans bf;refine⟨?_,?_,?_⟩
  all_goals (unfold cell?;rw[bA];rfl)
 have W:Hid (∀wr C,NwIs l wr f C->wr.cell? ⟨b,6,none⟩=some (bool t.endless)/\wr.cell? ⟨b,4,none⟩=some (iX (t.least:Int))):=λwr C ar=>⟨(aV wr C ar).2.2,(aV wr C ar).1⟩
 have bB:Hid (∀w2,Ca 165 #[agg #[iX (t.least:Int),iX (t.most:Int),bool t.endless]] w2 λx w'=>x=returned (iX (t.copies:Int))/\Grew w2 w'):=λw2=>zDO w2 t.least t.most t.endless;have aD:∀j,j<=t.copies->n.sets.length+j*zS cnt t.parts t.parts.length<=24:=λj ab=>lY (Nat.add_le_add_left (Nat.mul_le_mul_right _ ab) _) bd;obtain⟨o,bg⟩:∃o,o=xE A n t:=⟨_,rfl⟩
 have aE:Hid (o 0=(n,⟨0,0,true⟩)/\(∀j,o (j+1)=((zAz t j (rowTo A (o j).1 t.parts t.parts.length)).link (o j).2.last (zAM t j (rowTo A (o j).1 t.parts t.parts.length)).first,(o j).2.then (zAM t j (rowTo A (o j).1 t.parts t.parts.length))))/\(∀j,j<=t.copies->(o j).1.Good/\(o j).2.Small 24)/\(∀j,j<t.copies->(o j).1.sets.length+zS cnt t.parts t.parts.length<=24/\(rowTo A (o j).1 t.parts t.parts.length).1.Good/\(rowTo A (o j).1 t.parts t.parts.length).2.Small 24/\(rowTo A (o j).1 t.parts t.parts.length).2.first<2^(rowTo A (o j).1 t.parts t.parts.length).1.sets.length)/\o t.copies=xE A n t t.copies):=by
  rw[bg];refine⟨rfl,λj=>rfl,λj ab=>?_,λj ab=>?_,rfl⟩
  ·have:=zBT aC aT t j (aD j ab)
   exact⟨this.1,this.2.2.up (aD j ab)⟩
  ·have au:=zBT aC aT t j (aD j (by omega))
   have ai:=aD (j+1) ab;rw[Nat.add_mul,Nat.one_mul] at ai;have av:=zAX aC au.1 t.parts t.parts.length (by rw[au.2.1];omega);exact⟨by rw[au.2.1];omega,av.1,av.2.2.up (by rw[au.2.1];omega),by rw[av.2.1];exact av.2.2.first⟩
 have bC:Hid (∀wr C,NwIs l wr f C->C.Good->C.sets.length+zS cnt t.parts t.parts.length<=24->Ca 124 #[pX f,pX b] wr λe w'=>e=returned (rowTo A C t.parts t.parts.length).2.val/\NwIs l w' f (rowTo A C t.parts t.parts.length).1/\StayS wr w'):=λwr C ar bD bE=>zDJ l f aS A cnt bc aC wr C b t ar bD bz bE bx;obtain⟨w1,bh,bi⟩:∃w1,w1=(w.alloc (.cells #[zX,zX,fX] 167)).alloc (.cells #[zX,zX,tX] 167)/\Hid (Al l w w1 f n ⟨0,0,true⟩):=⟨_,rfl,Al.start E ⟨0,0,true⟩⟩
 generalize bF:xE A n t t.copies=N at *;generalize bj:t.copies=D at *;have bG:=vl bj;clear bF bg bf bc aC bd E aT aU aD bj;go_in;apply wp_cut;intro bH aF;go_wp2;apply aF.out;clear aF;apply wp_cut;intro bH aF;go_wp2;apply aF.out;clear aF;rw[<-bh];clear bh;have ⟨bI,y5,bJ⟩:=aV w1 n bi.net;go_wp2_with (go_at_call 165;refine(bB _).mono ?_;rintro e w2 ⟨rfl,bk⟩;have bK:=vl <| bi.grown bk;clear bk)
 clear bI y5 bJ;go_loopg [7] D (λq i wr=>∃j:Nat,q=D-j/\j<=D/\i=iX (j:Int)/\Al l w wr f (o j).1 (o j).2)
 case atStart=>exact⟨0,rfl,lX,rfl,by rw[aE.out.1];exact bK⟩
 case round=>
  obtain⟨j,aX,ab,rfl,X⟩:=hrel;have aJ:Hid (gk=D-j/\Al l w wr f (o j).1 (o j).2):=⟨aX,X⟩
  by_cases bL:j<D
  ·have bM:(j:Int)<(D:Int):=by omega
   have ⟨bl,b2,bm,bn⟩:=aE.2.2.2.1 j bL;have ⟨bo,aY⟩:=aE.2.2.1 j ab;have bp:=bC wr (o j).1 X.net bo bl;have ac:Hid (o (j+1)=((zAz t j (rowTo A (o j).1 t.parts t.parts.length)).link (o j).2.last (zAM t j (rowTo A (o j).1 t.parts t.parts.length)).first,(o j).2.then (zAM t j (rowTo A (o j).1 t.parts t.parts.length)))):=aE.2.1 j;have aK:Hid (Al l w wr f (o j).1 (o j).2):=X;clear aX X bl;generalize (o j).1=bN at *;generalize (o j).2=bO at *;generalize rowTo A bN t.parts t.parts.length=q at *;obtain⟨z,⟨a,c,p⟩⟩:=q;obtain⟨r,g,u⟩:=bO;have ad:z.Good:=b2;have aj:(Sn.mk a c p).Small 24:=bm;have bq:a<2^z.sets.length:=bn;have aL:=zCD ad c a bq;have aM:Hid (Ca 124 #[pX f,pX b] wr λe w'=>e=returned (agg #[iX (a:Int),iX (c:Int),bool p])/\NwIs l w' f z/\StayS wr w'):=bp;have br:Hid (∀m,NwIs l m f z->Ca 166 #[pX f,iX (c:Int),iX (a:Int)] m λe w'=>e=rX/\NwIs l w' f (z.link c a)/\StayS m w'):=λm O=>zFP l m f z O (by rw[ad.same];exact ad.len) ad.top c a aj.last aj.first
   have aw:Hid (∀m,NwIs l m f z->∀x:Bool,Ca 164 #[pX f,agg #[iX (r:Int),iX (g:Int),bool u],agg #[iX (a:Int),iX (c:Int),bool x]] m λe w'=>e=returned ((Sn.mk r g u).then ⟨a,c,x⟩).val/\NwIs l w' f (z.link g a)/\StayS m w'):=λm O x=>zDa l m f z O (by rw[ad.same];exact ad.len) ad.top ⟨r,g,u⟩ ⟨a,c,x⟩ aY ⟨aj.first,aj.last⟩;have ax:Hid (∀m,NwIs l m f (z.link c a)->∀x:Bool,Ca 164 #[pX f,agg #[iX (r:Int),iX (g:Int),bool u],agg #[iX (a:Int),iX (c:Int),bool x]] m λe w'=>e=returned ((Sn.mk r g u).then ⟨a,c,x⟩).val/\NwIs l w' f ((z.link c a).link g a)/\StayS m w'):=λm O x=>zDa l m f _ O (by rw[aL.1.same];exact aL.1.len) aL.1.top ⟨r,g,u⟩ ⟨a,c,x⟩ aY ⟨aj.first,aj.last⟩;have aG:Hid (∀y,Al l w y f z ⟨r,g,u⟩->∀x:Bool,w.heap.size+1<y.heap.size/\Al l w (y.alloc (Obj.cells #[iX (a:Int),iX (c:Int),bool x] 167)) f z ⟨r,g,u⟩/\(y.alloc (Obj.cells #[iX (a:Int),iX (c:Int),bool x] 167)).heap[y.heap.size]? =some (.cells #[iX (a:Int),iX (c:Int),bool x] 167)):=λy aN x=>⟨(kQ.1 aN.all).1,aN.grown (kZ y _ lQ),gY y _⟩
   have bP:Hid (∀(K:World) (ag:Nat),w.heap.size+1<ag->Al l w K f (z.link c a) ⟨r,g,u⟩->K.heap[ag]? =some (.cells #[iX (a:Int),iX (c:Int),bool p] 167)->Al l w (K.setCell ⟨ag,2,none⟩ tX) f (z.link c a) ⟨r,g,u⟩/\(K.setCell ⟨ag,2,none⟩ tX).heap[ag]? =some (.cells #[iX (a:Int),iX (c:Int),tX] 167)):=by
    intro K ag L ay Y;have e:∀k,k≠ag->(K.setCell ⟨ag,2,none⟩ tX).heap[k]? =K.heap[k]? :=λk aW=>lJ _ _ _ _ aW;have b7:=ay.old;exact⟨⟨ay.net.setSpan Y (by omega),(e _ (by omega)).trans ay.res,(e _ (by omega)).trans ay.all,zAd ay.stay (by omega),ay.old⟩,by simp[setCell,lU,Y]⟩
   have b9:=bG.out;clear bp b2 bm bn ad aj bq aL bo aY;have bQ:(t.endless=false\/(t.endless=true/\(j+1==t.copies)=false))\/(t.endless=true/\(j+1==t.copies)=true):=by
    cases t.endless
    ·exact .inl (.inl rfl)
    ·cases E:(j+1==t.copies)
     ·exact .inl (.inr ⟨rfl,rfl⟩)
     ·exact .inr ⟨rfl,rfl⟩
   rcases bQ with az|⟨M,aA⟩
   all_goals (by_cases ah:t.least<=j)
   ·have ak:Hid (o (j+1)=(z.link g a,(Sn.mk r g u).then ⟨a,c,true⟩)):=by
     show o (j+1)=_;rw[ac.out];unfold zAz zAM;rw[if_neg (by rcases az with E|⟨E,ai⟩ <;> simp[E];exact hX.1 ai),if_pos ah]
    have am:Hid (∀m,NwIs l m f z->Ca 164 #[pX f,agg #[iX (r:Int),iX (g:Int),bool u],agg #[iX (a:Int),iX (c:Int),tX]] m λe w'=>e=returned (agg #[iX (((Sn.mk r g u).then ⟨a,c,true⟩).first:Int),iX (((Sn.mk r g u).then ⟨a,c,true⟩).last:Int),bool ((Sn.mk r g u).then ⟨a,c,true⟩).empty])/\NwIs l w' f (z.link g a)/\StayS m w'):=λm O=>aw m O true;have aZ:(j:Int)>=(t.least:Int):=by omega
    clear ac aw ax ah;generalize (Sn.mk r g u).then ⟨a,c,true⟩=F at *
    have a0:t.endless=false\/t.endless=true/\((j:Int)==(D:Int)-1)=false:=az.imp_right λE=>⟨E.1,by rw[hX];have:=hX.1 E.2;omega⟩
    clear az;rcases a0 with M|⟨M,a1⟩
    all_goals
     have R:=vl M;clear M;go_wp2_with (first|(go_at_call 124;refine aM.mono ?_;rintro e y ⟨rfl,G,S⟩;have P:=aK.call G S;have ⟨an,a2⟩:=W y _ G;rw[R.out] at an;have ⟨aa,H,L⟩:=aG y P p;obtain⟨a3,a4,a5,-⟩:=zK (s:=⟨a,c,p⟩) L;have ⟨u6,u4⟩:=W (y.alloc (Obj.cells #[iX (a:Int),iX (c:Int),bool p] 167)) _ H.net;rw[R.out] at u6;obtain⟨-,a6,bs⟩:=aG y P true;obtain⟨m0,m1,m2,-⟩:=zK (s:=⟨a,c,true⟩) bs;obtain⟨c0,c1,c2,-⟩:=zK a6.all;have T:Hid (Al l w (y.alloc (Obj.cells #[iX (a:Int),iX (c:Int),tX] 167)) f z ⟨r,g,u⟩):=a6;clear a6 bs;clear P H G S L aa)|(go_at_call 164;refine(am _ T.net).mono ?_;rintro e I ⟨rfl,U,V⟩;have J:=T.call U V;have ⟨a7,a8,a9,B⟩:=zK J.all;have aO:=B 0;have aP:=B 1;have aQ:=B 2;have ao:Hid (Al l w (World.span I (w.heap.size+1) F) f (z.link g a) F):=J.setAll F;clear J U V B))
     go_roundg (D-(j+1))
     case measure=>rw[aJ.out.1];omega
     case rel=>exact⟨j+1,rfl,by omega,by go_num,by rw[ak.out];exact ao⟩
   ·have ak:Hid (o (j+1)=(z.link g a,(Sn.mk r g u).then ⟨a,c,p⟩)):=by
     show o (j+1)=_;rw[ac.out];unfold zAz zAM;rw[if_neg (by rcases az with E|⟨E,ai⟩ <;> simp[E];exact hX.1 ai),if_neg ah]
    have am:Hid (∀m,NwIs l m f z->Ca 164 #[pX f,agg #[iX (r:Int),iX (g:Int),bool u],agg #[iX (a:Int),iX (c:Int),bool p]] m λe w'=>e=returned (agg #[iX (((Sn.mk r g u).then ⟨a,c,p⟩).first:Int),iX (((Sn.mk r g u).then ⟨a,c,p⟩).last:Int),bool ((Sn.mk r g u).then ⟨a,c,p⟩).empty])/\NwIs l w' f (z.link g a)/\StayS m w'):=λm O=>aw m O p;have aZ:(j:Int)<(t.least:Int):=by omega
    clear ac aw ax ah;generalize (Sn.mk r g u).then ⟨a,c,p⟩=F at *
    have a0:t.endless=false\/t.endless=true/\((j:Int)==(D:Int)-1)=false:=az.imp_right λE=>⟨E.1,by rw[hX];have:=hX.1 E.2;omega⟩
    clear az;rcases a0 with M|⟨M,a1⟩
    all_goals
     have R:=vl M;clear M;go_wp2_with (first|(go_at_call 124;refine aM.mono ?_;rintro e y ⟨rfl,G,S⟩;have P:=aK.call G S;have ⟨an,a2⟩:=W y _ G;rw[R.out] at an;have ⟨aa,H,L⟩:=aG y P p;obtain⟨a3,a4,a5,-⟩:=zK (s:=⟨a,c,p⟩) L;have ⟨u6,u4⟩:=W (y.alloc (Obj.cells #[iX (a:Int),iX (c:Int),bool p] 167)) _ H.net;rw[R.out] at u6;obtain⟨c0,c1,c2,-⟩:=zK H.all;have T:Hid (Al l w (y.alloc (Obj.cells #[iX (a:Int),iX (c:Int),bool p] 167)) f z ⟨r,g,u⟩):=H;clear P H G S L aa)|(go_at_call 164;refine(am _ T.net).mono ?_;rintro e I ⟨rfl,U,V⟩;have J:=T.call U V;have ⟨a7,a8,a9,B⟩:=zK J.all;have aO:=B 0;have aP:=B 1;have aQ:=B 2;have ao:Hid (Al l w (World.span I (w.heap.size+1) F) f (z.link g a) F):=J.setAll F;clear J U V B))
     go_roundg (D-(j+1))
     case measure=>rw[aJ.out.1];omega
     case rel=>exact⟨j+1,rfl,by omega,by go_num,by rw[ak.out];exact ao⟩
   ·have ak:Hid (o (j+1)=((z.link c a).link g a,(Sn.mk r g u).then ⟨a,c,true⟩)):=by
     show o (j+1)=_;rw[ac.out];unfold zAz zAM;rw[if_pos (by rw[M,aA];rfl),if_pos ah]
    have am:Hid (∀m,NwIs l m f (z.link c a)->Ca 164 #[pX f,agg #[iX (r:Int),iX (g:Int),bool u],agg #[iX (a:Int),iX (c:Int),tX]] m λe w'=>e=returned (agg #[iX (((Sn.mk r g u).then ⟨a,c,true⟩).first:Int),iX (((Sn.mk r g u).then ⟨a,c,true⟩).last:Int),bool ((Sn.mk r g u).then ⟨a,c,true⟩).empty])/\NwIs l w' f ((z.link c a).link g a)/\StayS m w'):=λm O=>ax m O true;have aZ:(j:Int)>=(t.least:Int):=by omega
    have a1:((j:Int)==(D:Int)-1)=true:=by rw[beq_iff_eq];have:=beq_iff_eq.1 aA;omega
    have R:Hid (t.endless=true):=M;clear ac aw ax ah aA M;generalize (Sn.mk r g u).then ⟨a,c,true⟩=F at *
    go_wp2_with (first|(go_at_call 124;refine aM.mono ?_;rintro e y ⟨rfl,G,S⟩;have P:=aK.call G S;have ⟨an,a2⟩:=W y _ G;rw[R.out] at an;have ⟨aa,H,L⟩:=aG y P p;obtain⟨a3,a4,a5,-⟩:=zK (s:=⟨a,c,p⟩) L;have ⟨u6,u4⟩:=W (y.alloc (Obj.cells #[iX (a:Int),iX (c:Int),bool p] 167)) _ H.net;rw[R.out] at u6;have aH:Hid (Al l w (y.alloc (Obj.cells #[iX (a:Int),iX (c:Int),bool p] 167)) f z ⟨r,g,u⟩):=H;have ba:Hid ((y.alloc (Obj.cells #[iX (a:Int),iX (c:Int),bool p] 167)).heap[y.heap.size]? =some (.cells #[iX (a:Int),iX (c:Int),bool p] 167)):=L;have bt:Hid (w.heap.size+1<y.heap.size):=aa;clear P H G S L aa)|(go_at_call 166;refine(br (y.alloc (Obj.cells #[iX (a:Int),iX (c:Int),bool p] 167)) aH.net).mono ?_;rintro e K ⟨rfl,ap,aq⟩;have aB:=aH.call ap aq;have Y:=aq _ _ ba;have ⟨bR,bS⟩:=W K _ ap;have ⟨m0,m1,m2,aI⟩:=zK (s:=⟨a,c,p⟩) Y;have bT:=aI 2;have ⟨bb,bu⟩:=bP K y.heap.size bt aB Y;obtain⟨ca,cb,C,-⟩:=zK (s:=⟨a,c,true⟩) bu;obtain⟨c0,c1,c2,-⟩:=zK bb.all;have T:Hid (Al l w (K.setCell ⟨y.heap.size,2,none⟩ tX) f (z.link c a) ⟨r,g,u⟩):=bb;clear bb bu;clear aB ap aq Y aI)|(go_at_call 164;refine(am _ T.net).mono ?_;rintro e I ⟨rfl,U,V⟩;have J:=T.call U V;have ⟨a7,a8,a9,B⟩:=zK J.all;have aO:=B 0;have aP:=B 1;have aQ:=B 2;have ao:Hid (Al l w (World.span I (w.heap.size+1) F) f ((z.link c a).link g a) F):=J.setAll F;clear J U V B))
    go_roundg (D-(j+1))
    case measure=>rw[aJ.out.1];omega
    case rel=>exact⟨j+1,rfl,by omega,by go_num,by rw[ak.out];exact ao⟩
   ·have ak:Hid (o (j+1)=((z.link c a).link g a,(Sn.mk r g u).then ⟨a,c,p⟩)):=by
     show o (j+1)=_;rw[ac.out];unfold zAz zAM;rw[if_pos (by rw[M,aA];rfl),if_neg ah]
    have am:Hid (∀m,NwIs l m f (z.link c a)->Ca 164 #[pX f,agg #[iX (r:Int),iX (g:Int),bool u],agg #[iX (a:Int),iX (c:Int),bool p]] m λe w'=>e=returned (agg #[iX (((Sn.mk r g u).then ⟨a,c,p⟩).first:Int),iX (((Sn.mk r g u).then ⟨a,c,p⟩).last:Int),bool ((Sn.mk r g u).then ⟨a,c,p⟩).empty])/\NwIs l w' f ((z.link c a).link g a)/\StayS m w'):=λm O=>ax m O p;have aZ:(j:Int)<(t.least:Int):=by omega
    have a1:((j:Int)==(D:Int)-1)=true:=by rw[beq_iff_eq];have:=beq_iff_eq.1 aA;omega
    have R:Hid (t.endless=true):=M;clear ac aw ax ah aA M;generalize (Sn.mk r g u).then ⟨a,c,p⟩=F at *
    go_wp2_with (first|(go_at_call 124;refine aM.mono ?_;rintro e y ⟨rfl,G,S⟩;have P:=aK.call G S;have ⟨an,a2⟩:=W y _ G;rw[R.out] at an;have ⟨aa,H,L⟩:=aG y P p;obtain⟨a3,a4,a5,-⟩:=zK (s:=⟨a,c,p⟩) L;have ⟨u6,u4⟩:=W (y.alloc (Obj.cells #[iX (a:Int),iX (c:Int),bool p] 167)) _ H.net;rw[R.out] at u6;have aH:Hid (Al l w (y.alloc (Obj.cells #[iX (a:Int),iX (c:Int),bool p] 167)) f z ⟨r,g,u⟩):=H;have ba:Hid ((y.alloc (Obj.cells #[iX (a:Int),iX (c:Int),bool p] 167)).heap[y.heap.size]? =some (.cells #[iX (a:Int),iX (c:Int),bool p] 167)):=L;have bt:Hid (w.heap.size+1<y.heap.size):=aa;clear P H G S L aa)|(go_at_call 166;refine(br (y.alloc (Obj.cells #[iX (a:Int),iX (c:Int),bool p] 167)) aH.net).mono ?_;rintro e K ⟨rfl,ap,aq⟩;have aB:=aH.call ap aq;have Y:=aq _ _ ba;have ⟨bR,bS⟩:=W K _ ap;have ⟨m0,m1,m2,aI⟩:=zK (s:=⟨a,c,p⟩) Y;have bT:=aI 2;obtain⟨c0,c1,c2,-⟩:=zK aB.all;have T:Hid (Al l w K f (z.link c a) ⟨r,g,u⟩):=aB;clear aB ap aq Y aI)|(go_at_call 164;refine(am _ T.net).mono ?_;rintro e I ⟨rfl,U,V⟩;have J:=T.call U V;have ⟨a7,a8,a9,B⟩:=zK J.all;have aO:=B 0;have aP:=B 1;have aQ:=B 2;have ao:Hid (Al l w (World.span I (w.heap.size+1) F) f ((z.link c a).link g a) F):=J.setAll F;clear J U V B))
    go_roundg (D-(j+1))
    case measure=>rw[aJ.out.1];omega
    case rel=>exact⟨j+1,rfl,by omega,by go_num,by rw[ak.out];exact ao⟩
  ·have bM:(D:Int)<=(j:Int):=by omega
   have e:j=D:=by omega
   subst e;rw[aE.out.2.2.2.2] at X;obtain⟨c0,c1,c2,-⟩:=zK X.all;have ⟨cc,cd,ce,aR⟩:=zK X.res;have aO:=aR 0;have aP:=aR 1;have aQ:=aR 2;have bU:Hid (Al l w wr f N.1 N.2):=X;clear aX X aR;go_wp2;obtain⟨I,bv,bw,bV,bW,bX⟩:∃I,I=((wr.setCell ⟨w.heap.size,0,none⟩ (iX (N.2.first:Int))).setCell ⟨w.heap.size,1,none⟩ (iX (N.2.last:Int))).setCell ⟨w.heap.size,2,none⟩ (bool N.2.empty)/\Hid (NwIs l I f N.1/\StayS w I)/\I.cell? ⟨w.heap.size,0,none⟩=some (iX (N.2.first:Int))/\I.cell? ⟨w.heap.size,1,none⟩=some (iX (N.2.last:Int))/\I.cell? ⟨w.heap.size,2,none⟩=some (bool N.2.empty):=by
    have ⟨au,ai,av,bY,aN⟩:=bU.fin N.2;exact⟨_,rfl,⟨au,ai⟩,av,bY,aN⟩
   rw[<-bv];clear bv;refine gJ (v:=agg #[iX (N.2.first:Int),iX (N.2.last:Int),bool N.2.empty]) (by simp[results,results126,go_sem,bV,bW,bX]) rfl ?_;exact⟨rfl,bw.1,bw.2⟩
theorem zM8 (t:Tr):t.copies<=t.least+t.most+1:=by
 unfold Tr.copies;split
 ·split <;> omega
 ·omega
theorem zFm (g:World)(j:Nat):∀a,zCs g j a (xA a) (xW a)
 |0=>λw n b t _ _ G _=>G.elim
 |a+1=>by
  have U:=zFm g j a;intro w n b t G J aa A;have V:=vl aa;obtain⟨ab,rv,ay,ak,ac,ao,cap,rfl,⟨_,W,az,aA⟩,_,_⟩:=aa;obtain⟨ad,ae,al,-⟩:=id ac;subst al;obtain⟨w1,af,o⟩:∃w1,w1=w.alloc (.cells #[zX,zX,fX] 167)/\Hid (NwIs g w1 j n/\w1.heap[w.heap.size]? =some (.cells (Sn.mk 0 0 false).cells 167)/\StayS w w1/\g.heap.size<=w.heap.size):=by
   have ag:=kZ (b:=w.heap.size) w (.cells #[zX,zX,fX] 167) lQ;exact⟨_,rfl,G.grown ag,gY _ _,ag.stayS,by obtain⟨_,_,_,_,_,G⟩:=G;exact G.keep.size⟩
  have am:Grew g w1:=by have ⟨_,_,_,_,_,G⟩:=o.1;exact G.keep
  have X:=(am.block b ab (kJ ab)).trans ak;have aB:w1.cell? ⟨b,0,none⟩=some (iX (t.kind:Int)):=by unfold cell?;rw[X];rfl
  have aC:w1.cell? ⟨b,1,none⟩=some (slice ad t.set.ranges.length ae):=by unfold cell?;rw[X];rfl
  have aD:w1.cell? ⟨b,2,none⟩=some (bool t.set.others):=by unfold cell?;rw[X];rfl
  have K:Hid (∀y,NwIs g y j (xA (a+1) n t).1->StayS w1 y->∃l,l=((y.setCell ⟨w.heap.size,0,none⟩ (iX ((xA (a+1) n t).2.first:Int))).setCell ⟨w.heap.size,1,none⟩ (iX ((xA (a+1) n t).2.last:Int))).setCell ⟨w.heap.size,2,none⟩ (bool (xA (a+1) n t).2.empty)/\Hid (NwIs g l j (xA (a+1) n t).1/\StayS w l)/\l.cell? ⟨w.heap.size,0,none⟩=some (iX ((xA (a+1) n t).2.first:Int))/\l.cell? ⟨w.heap.size,1,none⟩=some (iX ((xA (a+1) n t).2.last:Int))/\l.cell? ⟨w.heap.size,2,none⟩=some (bool (xA (a+1) n t).2.empty)):=by
   intro y B p;have ⟨an,ap,aq⟩:=zFt (s':=(xA (a+1) n t).2) (p _ _ o.2.1);have ⟨c0,c1,c2,_⟩:=zK an;exact⟨_,rfl,⟨aq _ _ _ B o.2.2.2,λk c ah=>by
    have A:=(kQ.1 ah).1;exact(ap k (by omega)).trans (p _ _ (o.2.2.1 k c ah))⟩,c0,c1,c2⟩
  go_in;apply wp_cut;intro aE ar;go_wp2;apply ar.out;rw[<-af];clear af;by_cases u:t.kind=1
  ·have x:Hid (xA (a+1) n t=(n.place t.set,n.spot)):=by show xA (a+1) n t=_;unfold xA;rw[if_pos u]
   have z:=vl <| zJc g w1 j n o.1 J.len (by rw[J.same];exact J.len) _ t.set ac;have H:Hid (Ca 123 #[pX j,agg #[slice ad t.set.ranges.length ae,bool t.set.others]] w1 λe w'=>e=returned (agg #[iX ((xA (a+1) n t).2.first:Int),iX ((xA (a+1) n t).2.last:Int),bool (xA (a+1) n t).2.empty])/\NwIs g w' j (xA (a+1) n t).1/\StayS w1 w'):=by
    show Calls _ _ _ _ _;rw[x.out];exact z
   clear x z;have M:((t.kind:Int)==1)=true:=by rw[beq_iff_eq];omega
   generalize xA (a+1) n t=m at *;clear u;go_wp2_with (go_at_call 123;refine H.mono ?_;rintro e y ⟨rfl,B,p⟩;have ⟨N,O,P,f⟩:=zK (s:=⟨0,0,false⟩) (p _ _ o.2.1);have R:=f 0;have S:=f 1;have T:=f 2;clear f)
   have ⟨l,q,r,C,D,E⟩:=K y B p;rw[<-q];clear q;refine gJ (v:=agg #[iX (m.2.first:Int),iX (m.2.last:Int),bool m.2.empty]) (by simp[results,results89,go_sem,C,D,E]) rfl ?_;exact⟨rfl,r.1,r.2⟩
  by_cases F:t.kind=2
  ·have x:Hid (xA (a+1) n t=rowTo (xA a) n t.parts t.parts.length):=by show xA (a+1) n t=_;unfold xA;rw[if_neg u,if_pos F]
   have z:=vl <| zDJ g j a (xA a) (xW a) U (jW a) w1 n b t o.1 J V (by unfold xW at A;rw[if_neg u,if_pos (Or.inl F)] at A;exact A) W;have H:Hid (Ca 124 #[pX j,pX b] w1 λe w'=>e=returned (agg #[iX ((xA (a+1) n t).2.first:Int),iX ((xA (a+1) n t).2.last:Int),bool (xA (a+1) n t).2.empty])/\NwIs g w' j (xA (a+1) n t).1/\StayS w1 w'):=by
    show Calls _ _ _ _ _;rw[x.out];exact z
   clear x z;have M:((t.kind:Int)==1)=false:=by rw[hX];omega
   have Y:((t.kind:Int)==2)=true:=by rw[beq_iff_eq];omega
   generalize xA (a+1) n t=m at *;clear u F;go_wp2_with (go_at_call 124;refine H.mono ?_;rintro e y ⟨rfl,B,p⟩;have ⟨N,O,P,f⟩:=zK (s:=⟨0,0,false⟩) (p _ _ o.2.1);have R:=f 0;have S:=f 1;have T:=f 2;clear f)
   have ⟨l,q,r,C,D,E⟩:=K y B p;rw[<-q];clear q;refine gJ (v:=agg #[iX (m.2.first:Int),iX (m.2.last:Int),bool m.2.empty]) (by simp[results,results89,go_sem,C,D,E]) rfl ?_;exact⟨rfl,r.1,r.2⟩
  by_cases I:t.kind=3
  ·have x:Hid (xA (a+1) n t=qA (xA a) n t.parts t.parts.length):=by show xA (a+1) n t=_;unfold xA;rw[if_neg u,if_neg F,if_pos I]
   have z:=vl <| zEY g j a (xA a) (xW a) U (jW a) w1 n b t o.1 J V (by unfold xW at A;rw[if_neg u,if_pos (Or.inr I)] at A;exact A) W;have H:Hid (Ca 125 #[pX j,pX b] w1 λe w'=>e=returned (agg #[iX ((xA (a+1) n t).2.first:Int),iX ((xA (a+1) n t).2.last:Int),bool (xA (a+1) n t).2.empty])/\NwIs g w' j (xA (a+1) n t).1/\StayS w1 w'):=by
    show Calls _ _ _ _ _;rw[x.out];exact z
   clear x z;have M:((t.kind:Int)==1)=false:=by rw[hX];omega
   have Y:((t.kind:Int)==2)=false:=by rw[hX];omega
   have ai:((t.kind:Int)==3)=true:=by rw[beq_iff_eq];omega
   generalize xA (a+1) n t=m at *;clear u F I;go_wp2_with (go_at_call 125;refine H.mono ?_;rintro e y ⟨rfl,B,p⟩;have ⟨N,O,P,f⟩:=zK (s:=⟨0,0,false⟩) (p _ _ o.2.1);have R:=f 0;have S:=f 1;have T:=f 2;clear f)
   have ⟨l,q,r,C,D,E⟩:=K y B p;rw[<-q];clear q;refine gJ (v:=agg #[iX (m.2.first:Int),iX (m.2.last:Int),bool m.2.empty]) (by simp[results,results89,go_sem,C,D,E]) rfl ?_;exact⟨rfl,r.1,r.2⟩
  by_cases L:t.kind=4
  ·have x:Hid (xA (a+1) n t=xE (xA a) n t t.copies):=by show xA (a+1) n t=_;unfold xA;rw[if_neg u,if_neg F,if_neg I,if_pos L]
   have z:=vl <| zFU g j a (xA a) (xW a) U (jW a) w1 n b t o.1 J V (by unfold xW at A;rw[if_neg u,if_neg (by omega),if_pos L] at A;exact A) W (by have:=zM8 t;omega) (by omega);have H:Hid (Ca 126 #[pX j,pX b] w1 λe w'=>e=returned (agg #[iX ((xA (a+1) n t).2.first:Int),iX ((xA (a+1) n t).2.last:Int),bool (xA (a+1) n t).2.empty])/\NwIs g w' j (xA (a+1) n t).1/\StayS w1 w'):=by
    show Calls _ _ _ _ _;rw[x.out];exact z
   clear x z;have M:((t.kind:Int)==1)=false:=by rw[hX];omega
   have Y:((t.kind:Int)==2)=false:=by rw[hX];omega
   have ai:((t.kind:Int)==3)=false:=by rw[hX];omega
   have au:((t.kind:Int)==4)=true:=by rw[beq_iff_eq];omega
   generalize xA (a+1) n t=m at *;clear u F I L;go_wp2_with (go_at_call 126;refine H.mono ?_;rintro e y ⟨rfl,B,p⟩;have ⟨N,O,P,f⟩:=zK (s:=⟨0,0,false⟩) (p _ _ o.2.1);have R:=f 0;have S:=f 1;have T:=f 2;clear f)
   have ⟨l,q,r,C,D,E⟩:=K y B p;rw[<-q];clear q;refine gJ (v:=agg #[iX (m.2.first:Int),iX (m.2.last:Int),bool m.2.empty]) (by simp[results,results89,go_sem,C,D,E]) rfl ?_;exact⟨rfl,r.1,r.2⟩
  ·have x:Hid (xA (a+1) n t=(n,⟨0,0,true⟩)):=by show xA (a+1) n t=_;unfold xA;rw[if_neg u,if_neg F,if_neg I,if_neg L]
   rw[x.out] at K ⊢;have M:((t.kind:Int)==1)=false:=by rw[hX];omega
   have Y:((t.kind:Int)==2)=false:=by rw[hX];omega
   have ai:((t.kind:Int)==3)=false:=by rw[hX];omega
   have au:((t.kind:Int)==4)=false:=by rw[hX];omega
   have ⟨N,O,P,f⟩:=zK (s:=⟨0,0,false⟩) o.2.1;have R:=f 0;have S:=f 1;have T:=f 2;clear u F I L f;go_wp2;have ⟨l,q,r,C,D,E⟩:=K w1 o.1 (StayS.refl _);have aj:l=((w1.setCell ⟨w.heap.size,0,none⟩ zX).setCell ⟨w.heap.size,1,none⟩ zX).setCell ⟨w.heap.size,2,none⟩ tX:=q;have av:l.cell? ⟨w.heap.size,0,none⟩=some zX:=C;have aw:l.cell? ⟨w.heap.size,1,none⟩=some zX:=D;have ax:l.cell? ⟨w.heap.size,2,none⟩=some tX:=E;rw[<-aj];clear q aj;refine gJ (v:=agg #[zX,zX,tX]) (by simp[results,results89,go_sem,av,aw,ax]) rfl ?_;exact⟨rfl,r.1,r.2⟩
section
section
variable {w0 w w2:World} {nb:Nat} {n:Nt} {sv fv rv ev:Value} {ps:List (Value×Bool)}
theorem Nw.addRule {o:Obj}{g cap m x:Nat}(b:Nw w0 w nb n sv fv rv ev ps)(t:m=n.rules.length)(u:w2.ownsRow w0.heap.size 3 1 (slice (qX g) (m+1) cap) (m+1) (((ints n.rules).map λx=>iX x)++[iX (x:Int)]))(d:(w.alloc o).grownBy w2 rv.ownBlock)(q:rv.ownBlock=some g\/w.heap.size<=g):
  Nw w0 (w2.setCell ⟨nb,4,none⟩ (slice (qX g) (m+1) cap)) nb {n with rules:=n.rules++[x]} sv fv (slice (qX g) (m+1) cap) ev ps/\StayS w (w2.setCell ⟨nb,4,none⟩ (slice (qX g) (m+1) cap)):=by
 subst t;have f:=b.box;have v:=b.lt;have p:∀j,j<w.heap.size->some j≠rv.ownBlock->w2.heap[j]? =w.heap[j]? :=λj H y=>(d.block j (by simp;omega) y).trans (lG _ _ _ (by omega));have z:w.heap.size<=w2.heap.size:=lY (by simp) d.size;have A:=(p nb v f.2.2.1).trans b.blk;have e:∀k,k≠nb->(w2.setCell ⟨nb,4,none⟩ (slice (qX g) (n.rules.length+1) cap)).heap[k]? =w2.heap[k]? :=λk a=>lJ _ _ _ _ a;have B:=zU d b.sOwn λk a=>xZ b.sOwn b.rOwn (by decide) a;have C:=zU d b.fOwn b.fr;have D:=zU d b.eOwn λk a=>xZ b.eOwn b.rOwn (by decide) a;have I:nb≠g:=λc=>by
  rcases q with r|r
  ·exact f.2.2.1 (by rw[r,c])
  ·omega
 have E:OwnI w2 w0.heap.size (slice (qX g) (n.rules.length+1) cap) (ints (n.rules++[x])):=by
  rw[zBr];have:=zP n.rules;have s:=OwnI.snoc (l:=ints n.rules) (x:=(x:Int)) (by rw[this];exact u);rw[this] at s;exact s
 refine⟨⟨by simp[setCell,lU,A],zE B λk _ _ a=>e k λc=>f.1 (by rw[a,c]),b.plen,b.each,zE C λk _ _ a=>e k λc=>f.2.1 (by rw[a,c]),zE E λk _ _ a=>e k λc=>?_,zE D λk _ _ a=>e k λc=>f.2.2.2 (by rw[a,c]),zCI (qL b.fOwn (λg d e=>b.fr g e.symm d.symm) q),b.nH,b.keep.trans ⟨d.os,d.output,by rw[zD];exact z,λk a _=>(e k (by have:=b.nH;omega)).trans (p k (by have:=b.keep.size;omega) λc=>by have:=(b.rOwn.lt k c.symm).1;omega)⟩⟩,λk J a=>?_⟩
 ·have:g=k:=by simpa[Value.ownBlock] using a
  omega
 ·have F:=(kQ.1 a).1
  have G:k≠nb:=λc=>by
   rw[c,b.blk] at a;injection a with a;injection a with _ a;exact absurd a (by decide)
  exact(e k G).trans ((p k F (zO b.rOwn a (by decide))).trans a)
theorem Nw.addEmpty {o:Obj}{g cap m:Nat}{x:Bool}(b:Nw w0 w nb n sv fv rv ev ps)(q:m=n.empty.length)(r:w2.ownsRow w0.heap.size 4 1 (slice (qX g) (m+1) cap) (m+1) ((n.empty.map λx=>bool x)++[bool x]))(d:(w.alloc o).grownBy w2 ev.ownBlock)(s:ev.ownBlock=some g\/w.heap.size<=g):
  Nw w0 (w2.setCell ⟨nb,5,none⟩ (slice (qX g) (m+1) cap)) nb {n with empty:=n.empty++[x]} sv fv rv (slice (qX g) (m+1) cap) ps/\StayS w (w2.setCell ⟨nb,5,none⟩ (slice (qX g) (m+1) cap)):=by
 subst q;have f:=b.box;have t:=b.lt;have l:∀j,j<w.heap.size->some j≠ev.ownBlock->w2.heap[j]? =w.heap[j]? :=λj F u=>(d.block j (by simp;omega) u).trans (lG _ _ _ (by omega));have v:w.heap.size<=w2.heap.size:=lY (by simp) d.size;have y:=(l nb t f.2.2.2).trans b.blk;have e:∀k,k≠nb->(w2.setCell ⟨nb,5,none⟩ (slice (qX g) (n.empty.length+1) cap)).heap[k]? =w2.heap[k]? :=λk a=>lJ _ _ _ _ a;have z:=zU d b.sOwn λk a=>xZ b.sOwn b.eOwn (by decide) a;have A:=zU d b.fOwn λk a=>xZ b.fOwn b.eOwn (by decide) a;have B:=zU d b.rOwn λk a=>xZ b.rOwn b.eOwn (by decide) a;have G:nb≠g:=λc=>by
  rcases s with p|p
  ·exact f.2.2.2 (by rw[p,c])
  ·omega
 have C:=OwnB.snoc r;refine⟨⟨by simp[setCell,lU,y],zE z λk _ _ a=>e k λc=>f.1 (by rw[a,c]),b.plen,b.each,zE A λk _ _ a=>e k λc=>f.2.1 (by rw[a,c]),zE B λk _ _ a=>e k λc=>f.2.2.1 (by rw[a,c]),zE C λk _ _ a=>e k λc=>?_,b.fr,b.nH,b.keep.trans ⟨d.os,d.output,by rw[zD];exact v,λk a _=>(e k (by have:=b.nH;omega)).trans (l k (by have:=b.keep.size;omega) λc=>by have:=(b.eOwn.lt k c.symm).1;omega)⟩⟩,λk H a=>?_⟩
 ·have:g=k:=by simpa[Value.ownBlock] using a
  omega
 ·have D:=(kQ.1 a).1
  have E:k≠nb:=λc=>by
   rw[c,b.blk] at a;injection a with a;injection a with _ a;exact absurd a (by decide)
  exact(e k E).trans ((l k D (zO b.eOwn a (by decide))).trans a)
theorem Nw.setNet {i:Nat}{x:Value}{f:Nt}(b:Nw w0 w nb n sv fv rv ev ps)(j:f.sets=n.sets)(l:f.follow=n.follow)(m:f.rules=n.rules)(o:f.empty=n.empty)(p:(w.setCell ⟨nb,i,none⟩ x).heap[nb]? =some (.cells #[sv,fv,iX (f.first:Int),iX (f.ends:Int),rv,ev] 132)):Nw w0 (w.setCell ⟨nb,i,none⟩ x) nb f sv fv rv ev ps/\StayS w (w.setCell ⟨nb,i,none⟩ x):=by
 have e:∀k,k≠nb->(w.setCell ⟨nb,i,none⟩ x).heap[k]? =w.heap[k]? :=λk a=>lJ _ _ _ _ a;have g:=b.box;refine⟨⟨p,by rw[j];exact zE b.sOwn λk _ _ a=>e k λd=>g.1 (by rw[a,d]),by rw[j];exact b.plen,by rw[j];exact b.each,by rw[l];exact zE b.fOwn λk _ _ a=>e k λd=>g.2.1 (by rw[a,d]),by rw[m];exact zE b.rOwn λk _ _ a=>e k λd=>g.2.2.1 (by rw[a,d]),by rw[o];exact zE b.eOwn λk _ _ a=>e k λd=>g.2.2.2 (by rw[a,d]),b.fr,b.nH,b.keep.trans (zQ _ _ _ _ b.nH)⟩,λk c a=>(e k λd=>?_).trans a⟩;rw[d,b.blk] at a;injection a with a;injection a with _ a;exact absurd a (by decide)
theorem Nw.setFirst (a:Nw w0 w nb n sv fv rv ev ps)(x:Nat):Nw w0 (w.setCell ⟨nb,2,none⟩ (iX (x:Int))) nb {n with first:=x} sv fv rv ev ps/\StayS w (w.setCell ⟨nb,2,none⟩ (iX (x:Int))):=a.setNet rfl rfl rfl rfl (by simp[setCell,lU,a.blk])
theorem Nw.setEnds (a:Nw w0 w nb n sv fv rv ev ps)(x:Nat):Nw w0 (w.setCell ⟨nb,3,none⟩ (iX (x:Int))) nb {n with ends:=x} sv fv rv ev ps/\StayS w (w.setCell ⟨nb,3,none⟩ (iX (x:Int))):=a.setNet rfl rfl rfl rfl (by simp[setCell,lU,a.blk])
end
def Nt.blank:Nt:=⟨[],[],0,0,[],[]⟩
def zIZ (before:Nat)(q:Nt×Sn):Nt:={q.1 with first:=q.1.first|||q.2.first,ends:=q.1.ends|||q.2.last,rules:=q.1.rules++[2^q.1.sets.length-2^before],empty:=q.1.empty++[q.2.empty]}
def zC (d:Nat)(rules:List Tr):Nat->Nt
 |0=>Nt.blank
 |j+1=>zIZ (zC d rules j).sets.length (xA d (zC d rules j) (rules.getD j Tr.none))
theorem Nw.begin (w:World):Nw w (w.alloc (.cells #[nX,nX,zX,zX,nX,nX] 132)) w.heap.size Nt.blank nX nX nX nX []:=
 ⟨gY _ _,ownsRow_nil _ _ _ _,rfl,λi a=>absurd a (Nat.not_lt_zero _),OwnI.nil _ _,OwnI.nil _ _,ownsRow_nil _ _ _ _,λg b=>(by cases b),lQ,kZ _ _ lQ⟩
theorem qY (a:Nat)(rules:List Tr)(j:Nat)(c:zS (xW a) rules j<=24):(zC a rules j).Good/\(zC a rules j).sets.length=zS (xW a) rules j:=by
 induction j with
 |zero=>exact⟨⟨lX,rfl,λx e=>absurd e List.not_mem_nil⟩,rfl⟩
 |succ j f=>
  have h:zS (xW a) rules j+xW a (rules.getD j Tr.none)<=24:=c;have ⟨g,k⟩:=f (by omega);have ⟨b,l,m⟩:=jW a (zC a rules j) (rules.getD j Tr.none) g (by omega);exact⟨⟨b.len,b.same,b.fol⟩,by show(xA a (zC a rules j) (rules.getD j Tr.none)).1.sets.length=zS (xW a) rules j+_;omega⟩
end
def Nt.Same (a b:Nt):Prop:=a.first=b.first/\a.ends=b.ends/\a.rules=b.rules/\a.empty=b.empty
theorem Nt.Same.refl (a:Nt):a.Same a:=⟨rfl,rfl,rfl,rfl⟩
theorem Nt.Same.trans {a b c:Nt}(d:a.Same b)(e:b.Same c):a.Same c:=⟨d.1.trans e.1,d.2.1.trans e.2.1,d.2.2.1.trans e.2.2.1,d.2.2.2.trans e.2.2.2⟩
theorem zEc (n:Nt)(a b:Nat):(n.link a b).Same n:=by
 have:=zAA n a b n.follow.length;exact⟨this.2.2.2.1,this.2.2.2.2,this.2.1,this.2.2.1⟩
def Still (sub:Lay):Prop:=∀n t,(sub n t).1.Same n
theorem zEE {a:Lay}(b:Still a)(n:Nt)(parts:List Tr)(j:Nat):(rowTo a n parts j).1.Same n:=by
 induction j with
 |zero=>exact Nt.Same.refl _
 |succ j c=>exact((zEc _ _ _).trans (b _ _)).trans c
theorem zIk {a:Lay}(b:Still a)(n:Nt)(parts:List Tr)(j:Nat):(qA a n parts j).1.Same n:=by
 induction j with
 |zero=>exact Nt.Same.refl _
 |succ j c=>exact(b _ _).trans c
theorem zKK (t:Tr)(j:Nat)(q:Nt×Sn):(zAz t j q).Same q.1:=by
 unfold zAz;split
 ·exact zEc _ _ _
 ·exact Nt.Same.refl _
theorem zGP {a:Lay}(b:Still a)(n:Nt)(t:Tr)(j:Nat):(xE a n t j).1.Same n:=by
 induction j with
 |zero=>exact Nt.Same.refl _
 |succ j c=>exact(((zEc _ _ _).trans (zKK _ _ _)).trans (zEE b _ _ _)).trans c
theorem zBJ (a:Nat):Still (xA a):=by
 induction a with
 |zero=>exact λn t=>Nt.Same.refl _
 |succ a b=>
  intro n t;unfold xA;split
  ·exact⟨rfl,rfl,rfl,rfl⟩
  ·split
   ·exact zEE b _ _ _
   ·split
    ·exact zIk b _ _ _
    ·split
     ·exact zGP b _ _ _
     ·exact Nt.Same.refl _
structure Nt.Laid (n:Nt)(j:Nat):Prop where
 first:n.first<2^n.sets.length
 ends:n.ends<2^n.sets.length
 rules:∀x∈n.rules,x<2^n.sets.length
 rlen:n.rules.length=j
 elen:n.empty.length=j
theorem vV (a:Nat)(rules:List Tr)(j:Nat)(k:zS (xW a) rules j<=24):(zC a rules j).Laid j:=by
 induction j with
 |zero=>exact⟨(by decide:0<2^0),(by decide:0<2^0),λx e=>absurd e List.not_mem_nil,rfl,rfl⟩
 |succ j l=>
  have r:zS (xW a) rules j+xW a (rules.getD j Tr.none)<=24:=k;have ⟨m,s⟩:=qY a rules j (by omega);have b:=l (by omega);have ⟨t,o,f⟩:=jW a (zC a rules j) (rules.getD j Tr.none) m (by omega);have ⟨s1,s2,h,p⟩:=zBJ a (zC a rules j) (rules.getD j Tr.none);rw[<-o] at f;have g:2^(zC a rules j).sets.length<=2^(xA a (zC a rules j) (rules.getD j Tr.none)).1.sets.length:=kG (by omega) (by omega);have u:0<2^(zC a rules j).sets.length:=Nat.pow_pos (by omega);refine⟨Nat.or_lt_two_pow (by rw[s1];exact lZ b.first g) f.first,Nat.or_lt_two_pow (by rw[s2];exact lZ b.ends g) f.last,λx e=>?_,?_,?_⟩
  ·show x<2^(xA a (zC a rules j) (rules.getD j Tr.none)).1.sets.length
   have q:=e;rcases kU.1 q with c|c
   ·rw[h] at c
    exact lZ (b.rules x c) g
   ·rw[kY.1 c]
    omega
  ·show((xA a (zC a rules j) (rules.getD j Tr.none)).1.rules++[_]).length=j+1
   rw[h,kX,b.rlen];rfl
  ·show((xA a (zC a rules j) (rules.getD j Tr.none)).1.empty++[_]).length=j+1
   rw[p,kX,b.elen];rfl
theorem zIa (a:Nat)(rules:List Tr)(e:zS (xW a) rules rules.length<=24)(f:rules.length<=8):(zC a rules rules.length).Ok:=by
 have c:=qY a rules rules.length e;have b:=vV a rules rules.length e;exact⟨c.1.len,c.1.same,c.1.fol,b.first,b.ends,by rw[b.rlen];exact f,b.rules⟩
theorem Nw.netAt {k w:World}{e:Nat}{n:Nt}{sv f rv j:Value}{d:List (Value×Bool)}(a:Nw k w e n sv f rv j d):NetAt w e n sv f rv j:=by
 have ⟨c0,c1,c2,l,m,o,_⟩:=a.cells;refine⟨a.lt,c0,c1,c2,l,m,o,?_,zA0 a.fOwn,zA0 a.rOwn,zG6 a.eOwn λg p=>(a.eOwn.lt g p).2⟩;have q:∀i,i<n.sets.length->RangesAt w (d.getD i (undef,false)).1 (n.sets.getD i ⟨[],false⟩).ranges:=λi b=>(a.each i b).1.grown a.keep;rcases a.sOwn.2 with⟨c,r⟩|⟨g,cap,v,c,x,y,s,t,z,A⟩
 ·exact⟨none,0,by rw[c,r],by omega,by unfold maxLen;omega,λi b=>by omega⟩
 ·have u:=(a.sOwn.lt g (by rw[c];rfl)).2
  refine⟨some ⟨g,0,none⟩,cap,c,s,t,λi b=>⟨g,0,(d.getD i (undef,false)).1,rfl,u,?_,?_,q i b⟩⟩
  ·have:=a.sOwn.cells (g:=g) (by rw[c];rfl) (i*2) _ (zEA d i (by rw[a.plen];exact b)).1
   rw[Addr.add_lit] at this;rw[Nat.zero_add] at this ⊢;exact this
  ·have:=a.sOwn.cells (g:=g) (by rw[c];rfl) (i*2+1) _ (zEA d i (by rw[a.plen];exact b)).2
   rw[Addr.add_lit,(a.each i b).2] at this;rw[Nat.zero_add] at this ⊢;exact this
section
attribute [local go_sem ↓] Go.wp_at_zero Go.wp_at_succ
def zLY (w:World)(d:Nat)(v:Value)(l:List Tr):Prop:=∃ao cap,v=slice ao l.length cap/\l.length<=cap/\cap<=maxLen/\∀i,i<l.length->∃g o p,ao=some ⟨g,o,none⟩/\In w g/\w.cell? ⟨g,o+i,none⟩=some (pointer (some ⟨p,0,none⟩))/\TreeAt w d p (l.getD i Tr.none)
theorem zMJ (w:World)(d:Nat)(v:Value)(rules:List Tr)(hT:zLY w d v rules)(h8:rules.length<=8)(hl:zS (xW d) rules rules.length<=24):
  Calls prog 60 #[v] w λe w'=>∃nb,e=returned (pX nb)/\NwIs w w' nb (zC d rules rules.length):=by
 obtain⟨i0,hi0,hz0,hz1,hz2⟩:=info_parts yW;obtain⟨ib,hib,hb0,hb1,hb2⟩:=info_parts vL;obtain⟨ao,cap,rfl,_,_,hpc⟩:=hT;have HPT:Hid (∀wr n2,NwIs w wr w.heap.size n2->∀i,i<rules.length->∃g o p,ao=some ⟨g,o,none⟩/\cX wr g (o+i)=some (pX p)/\TreeAt w d p (rules.getD i Tr.none)):=by
  rintro wr n2 ⟨_,_,_,_,_,hN⟩ i hi;obtain⟨g,o,p,ha,hgi,hc,hti⟩:=hpc i hi;exact⟨g,o,p,ha,zA hc hgi hN.keep,hti⟩
 obtain⟨w1,hw1,HN1⟩:∃w1,w1=w.alloc (.cells #[nX,nX,zX,zX,nX,nX] 132)/\Hid (NwIs w w1 w.heap.size Nt.blank):=⟨_,rfl,_,_,_,_,_,Nw.begin w⟩
 have HTC:Hid (zCs w w.heap.size d (xA d) (xW d)):=zFm w w.heap.size d;obtain⟨LT,hLT⟩:∃LT,LT=zC d rules:=⟨_,rfl⟩
 have HLT:Hid (LT 0=Nt.blank/\(∀j,LT (j+1)=zIZ (LT j).sets.length (xA d (LT j) (rules.getD j Tr.none)))/\(∀j,j<=rules.length->(LT j).Good/\(LT j).Laid j)/\(∀j,j<rules.length->(LT j).sets.length+xW d (rules.getD j Tr.none)<=24/\(xA d (LT j) (rules.getD j Tr.none)).1.Good/\(xA d (LT j) (rules.getD j Tr.none)).2.Small 24/\(xA d (LT j) (rules.getD j Tr.none)).1.first<16777216/\(xA d (LT j) (rules.getD j Tr.none)).1.ends<16777216/\(xA d (LT j) (rules.getD j Tr.none)).1.rules.length=j/\(xA d (LT j) (rules.getD j Tr.none)).1.empty.length=j)/\LT rules.length=zC d rules rules.length/\∀j,j<rules.length->(LT j).sets.length<=(xA d (LT j) (rules.getD j Tr.none)).1.sets.length):=by
  rw[hLT];have hm:∀j,j<=rules.length->zS (xW d) rules j<=24:=λj hj=>lY (zDl _ rules j _ hj) hl;refine⟨rfl,λj=>rfl,λj hj=>⟨(qY d rules j (hm j hj)).1,vV d rules j (hm j hj)⟩,λj hj=>?_,rfl,λj hj=>?_⟩;rotate_left
  ·have h1:=qY d rules j (hm j (by omega))
   have h2:zS (xW d) rules j+xW d (rules.getD j Tr.none)<=24:=hm (j+1) hj;have h3:=jW d (zC d rules j) (rules.getD j Tr.none) h1.1 (by omega);omega
  have h1:=qY d rules j (hm j (by omega));have h2:zS (xW d) rules j+xW d (rules.getD j Tr.none)<=24:=hm (j+1) hj;have h3:=jW d (zC d rules j) (rules.getD j Tr.none) h1.1 (by omega);obtain⟨s1,s2,s3,s4⟩:=zBJ d (zC d rules j) (rules.getD j Tr.none);have h4:=vV d rules j (hm j (by omega));have hp:2^(zC d rules j).sets.length<=2^24:=kG (by omega) h1.1.len;exact⟨by omega,h3.1,h3.2.2.up (by omega),by rw[s1];exact lZ h4.first hp,by rw[s2];exact lZ h4.ends hp,by rw[s3];exact h4.rlen,by rw[s4];exact h4.elen⟩
 have HNC:Hid (∀wr n2,NwIs w wr w.heap.size n2->∃sa sc,cX wr w.heap.size 0=some (slice sa n2.sets.length sc)):=by
  rintro wr n2 ⟨sv,_,_,_,_,hN⟩;obtain⟨sa,sc,hsv⟩:=zF hN.sOwn;exact⟨sa,sc,by rw[<-hsv];exact hN.cells.1⟩
 generalize zC d rules rules.length=LE at *;clear hLT hl hpc;go_enter func60,ntmps60
 refine wp_seq_k ?_;intro K0 hK0;have HK0:Hid (∀a w,_->K0 a w):=hK0;clear hK0;go_wp2_with fail;apply HK0.out;clear HK0;refine wp_seq_k ?_;intro K0 hK0;have HK0:Hid (∀a w,_->K0 a w):=hK0;clear hK0;go_wp2_with fail;apply HK0.out;clear HK0;rw[<-hw1];clear hw1;go_wp2_with fail;go_loopg [12] rules.length (λq i wr=>∃j:Nat,q=rules.length-j/\j<=rules.length/\i=iX (j:Int)/\NwIs w wr w.heap.size (LT j))
 case atStart=>exact⟨0,rfl,lX,rfl,by rw[HLT.out.1];exact HN1⟩
 case round=>
  obtain⟨j,hgk,hj,rfl,hN⟩:=hrel;have HB:Hid (gk=rules.length-j/\NwIs w wr w.heap.size (LT j)):=⟨hgk,hN⟩
  by_cases hj2:j<rules.length
  ·have i1:(j:Int)<(rules.length:Int):=by omega
   obtain⟨g,o,p,rfl,hc,hti⟩:=HPT wr _ hN j hj2;obtain⟨b1,b2,b3,b4,b5,b6,b7⟩:=HLT.2.2.2.1 j hj2;obtain⟨g1,g2⟩:=HLT.2.2.1 j hj;have HC0:=HTC wr (LT j) p (rules.getD j Tr.none) hN g1 hti b1;have HNX:Hid (LT (j+1)=zIZ (LT j).sets.length (xA d (LT j) (rules.getD j Tr.none))):=HLT.2.1 j;obtain⟨sa,sc,y0⟩:=HNC wr _ hN;have hBL:=g1.len;have hBq0:(LT j).sets.length<=(xA d (LT j) (rules.getD j Tr.none)).1.sets.length:=HLT.2.2.2.2.2 j hj2;clear hgk hN hti b1 g1 g2;generalize (LT j).sets.length=B at *;generalize xA d (LT j) (rules.getD j Tr.none)=q at *;obtain⟨q1,⟨qf,ql,qe⟩⟩:=q;have b2':q1.sets.length<=24:=b2.len;have l3:qf<16777216:=b3.first
   have l4:ql<16777216:=b3.last;have b4':q1.first<16777216:=b4
   have b5':q1.ends<16777216:=b5;have b6':q1.rules.length=j:=b6;have b7':q1.empty.length=j:=b7;have HC:Hid (Ca 89 #[pX w.heap.size,pX p] wr λe w'=>e=returned (agg #[iX (qf:Int),iX (ql:Int),bool qe])/\NwIs w w' w.heap.size q1/\StayS wr w'):=HC0;have HNX2:Hid (LT (j+1)={q1 with first:=q1.first|||qf,ends:=q1.ends|||ql,rules:=q1.rules++[2^q1.sets.length-2^B],empty:=q1.empty++[qe]}):=HNX;clear HC0 HNX b2 b3 b4 b5 b6 b7;go_wp2_with (first|(go_at_call 89;refine HC.mono ?_;rintro e w5 ⟨rfl,⟨sv,fv,rv,ev,ps,hN5⟩,hS5⟩;have HN5:Hid (Nw w w5 w.heap.size q1 sv fv rv ev ps):=hN5;clear hN5 hS5))
   obtain⟨w6,hw6,HN6,HB6⟩:∃w6,w6=w5.alloc (.cells #[iX (qf:Int),iX (ql:Int),bool qe] 167)/\Hid (Nw w w6 w.heap.size q1 sv fv rv ev ps)/\Hid (w6.heap[w5.heap.size]? =some (.cells (Sn.mk qf ql qe).cells 167)):=⟨_,rfl,HN5.grown (kZ _ _ lQ),gY _ _⟩
   rw[<-hw6];clear hw6 HN5 y0 hc;generalize w5.heap.size=b8 at *;obtain⟨c0,c1,c2,c3,c4,c5,cf⟩:=HN6.cells;obtain⟨d0,d1,d2,-⟩:=zK HB6;have cf2:=cf 2;have hor1:bits .or i64 (q1.first:Int) (qf:Int)=((q1.first|||qf:Nat):Int):=yZ _ _ (by omega) (by omega);have hor2:bits .or i64 (q1.ends:Int) (ql:Int)=((q1.ends|||ql:Nat):Int):=yZ _ _ (by omega) (by omega);clear cf;go_region;obtain⟨w7,hw7,HN7,HB7⟩:∃w7,w7=(w6.setCell ⟨w.heap.size,2,none⟩ (iX ((q1.first|||qf:Nat):Int))).drew/\Hid (Nw w w7 w.heap.size {q1 with first:=q1.first|||qf} sv fv rv ev ps)/\Hid (w7.heap[b8]? =some (.cells (Sn.mk qf ql qe).cells 167)):=by
    have h:=HN6.setFirst (q1.first|||qf);exact⟨_,rfl,h.1.grown (Keep.drew _),h.2 _ _ HB6⟩
   rw[<-hw7];clear hw7 c0 c1 c2 c3 c4 c5 d0 d1 d2 cf2 HN6 HB6;obtain⟨c0,c1,c2,c3,c4,c5,cf⟩:=HN7.cells;obtain⟨d0,d1,d2,-⟩:=zK HB7;have cf3:=cf 3;clear cf;go_wp2_with fail;go_region;obtain⟨w8,hw8,HN8,HB8⟩:∃w8,w8=(w7.setCell ⟨w.heap.size,3,none⟩ (iX ((q1.ends|||ql:Nat):Int))).drew/\Hid (Nw w w8 w.heap.size {q1 with first:=q1.first|||qf,ends:=q1.ends|||ql} sv fv rv ev ps)/\Hid (w8.heap[b8]? =some (.cells (Sn.mk qf ql qe).cells 167)):=by
    have h:=HN7.setEnds (q1.ends|||ql);exact⟨_,rfl,h.1.grown (Keep.drew _),h.2 _ _ HB7⟩
   rw[<-hw8];clear hw8 c0 c1 c2 c3 c4 c5 d0 d1 d2 cf3 HN7 HB7 hor1 hor2;go_wp2_with fail;have hpl:q1.sets.length<=24:=b2';have hBq:B<=q1.sets.length:=hBq0;obtain⟨P1,hP1e⟩:∃P1:Nat,P1=2^q1.sets.length:=⟨_,rfl⟩
   obtain⟨P2,hP2e⟩:∃P2:Nat,P2=2^B:=⟨_,rfl⟩
   have hP1:P1<=16777216:=by rw[hP1e];exact(kG (by omega) hpl:2^q1.sets.length<=2^24)
   have hP2:P2<=16777216:=by rw[hP2e];exact(kG (by omega) hBL:2^B<=2^24)
   have hP3:P2<=P1:=by rw[hP1e,hP2e];exact kG (by omega) hBq
   obtain⟨R,hR⟩:∃R:Nat,R=P1-P2:=⟨_,rfl⟩
   have hR1:(P1:Int)-(P2:Int)=(R:Int):=by omega
   have hR0:R<16777217:=by omega
   have HR:Hid (R=P1-P2):=hR;have HX:Hid ((IntKind.i64.wrap (IntKind.i64.wrap ((2:Int)^q1.sets.length)-IntKind.i64.wrap ((2:Int)^B)))=(R:Int)):=by
    show _=_;have e1:((2:Int)^q1.sets.length)=(P1:Int):=by rw[hP1e];simp
    have e2:((2:Int)^B)=(P2:Int):=by rw[hP2e];simp
    rw[e1,e2,zA8 (P1:Int) (by omega) (by omega),zA8 (P2:Int) (by omega) (by omega),hR1];exact zA8 _ (by omega) (by omega)
   have HPP:Hid (P1=2^q1.sets.length/\P2=2^B):=⟨hP1e,hP2e⟩
   clear hP1e hP2e;obtain⟨sa2,sc2,hsv⟩:=zF HN8.sOwn;obtain⟨ra,rc,hrv⟩:=HN8.rOwn.form;obtain⟨ea,ec,hev⟩:=zF HN8.eOwn;rw[zP] at hrv;have hrv2:rv=slice ra j rc:=by rw[hrv];show Value.slice ra q1.rules.length rc=_;rw[b6']
   have hev2:ev=slice ea j ec:=by rw[hev];show Value.slice ea q1.empty.length ec=_;rw[b7']
   have hsv2:sv=slice sa2 q1.sets.length sc2:=hsv;clear hsv hrv hev;subst hsv2 hrv2 hev2;obtain⟨c0,-,-,-,c4,c5,cf⟩:=HN8.cells;have cf4:=cf 4;have hlt:=HN8.lt;have hH8:w.heap.size<=w8.heap.size:=HN8.keep.size;have HNP:Hid (some w.heap.size≠(Value.slice ra j rc).ownBlock):=HN8.box.2.2.1;have OW:w8.ownsRow w.heap.size 3 1 (slice ra j rc) j ((ints q1.rules).map λx=>iX x):=by
    have:=HN8.rOwn;unfold OwnI at this;rw[zP] at this;have h2:w8.ownsRow w.heap.size 3 1 (slice ra j rc) q1.rules.length ((ints q1.rules).map λx=>iX x):=this;rw[b6'] at h2;exact h2
   obtain⟨d0,d1,d2,-⟩:=zK HB8;clear cf hR hP1 hP2 hP3 hBq hBq0 hR1;go_region_law ((refine step_append_lies _ (by rfl) (.tmp 46) (.tmp 56) 45 (by rfl) w.heap.size 3 i0 _ 1 8 underlying45 hi0 hz0 hz1 hz2 rfl (by decide) (slice ra j rc) j ((ints q1.rules).map λx=>iX x) (by simp[Act.eval,Act.put]) ((OW.alloc _).drew) ⟨w8.heap.size,0,none⟩ 1 1 [iX (IntKind.i64.wrap (IntKind.i64.wrap ((2:Int)^q1.sets.length)-IntKind.i64.wrap ((2:Int)^B)))] (by simp[Act.eval,Act.put]) (by rfl) (news_of_block (cs:=#[iX (IntKind.i64.wrap (IntKind.i64.wrap ((2:Int)^q1.sets.length)-IntKind.i64.wrap ((2:Int)^B)))]) (t:=3) (fr:=(0,0)) (gY w8 _)) (by simp[Value.oneCell']) (by decide) (by unfold maxLen;omega) (by omega) (by simp;omega) (w8.heap.size+1) (by simp) ?_;intro gg cap2 w9 hown hgrow hat hlt9;have hPB:=hgrow.block w.heap.size (by simp;omega) HNP;have c4b:cX w9 w.heap.size 4=some (slice ra j rc):=(gW hPB).trans ((gU _ _ _ hlt).trans c4);have cf4b:w9.frozen? ⟨w.heap.size,4,none⟩=false:=(gV hPB).trans ((frozen?_alloc_past _ _ _ hlt).trans cf4)))
   all_goals
    rw[HX.out] at hown;have HN9:Hid (Nw w (w9.setCell ⟨w.heap.size,4,none⟩ (slice (qX gg) (j+1) cap2)) w.heap.size {q1 with first:=q1.first|||qf,ends:=q1.ends|||ql,rules:=q1.rules++[R]} (slice sa2 q1.sets.length sc2) fv (slice (qX gg) (j+1) cap2) (slice ea j ec) ps/\StayS w8.drew (w9.setCell ⟨w.heap.size,4,none⟩ (slice (qX gg) (j+1) cap2))):=(HN8.grown (Keep.drew _)).addRule (o:=Obj.cells #[iX (IntKind.i64.wrap (IntKind.i64.wrap ((2:Int)^q1.sets.length)-IntKind.i64.wrap ((2:Int)^B)))] 3) b6'.symm hown hgrow (by
     rcases hat with ha|ha
     ·exact .inl ha
     ·right;show w8.heap.size<=gg;omega)
    have HB9:Hid ((w9.setCell ⟨w.heap.size,4,none⟩ (slice (qX gg) (j+1) cap2)).heap[b8]? =some (.cells (Sn.mk qf ql qe).cells 167)):=HN9.2 _ _ HB8;clear hown hgrow hat hlt9 hPB c4b cf4b OW c0 c4 c5 cf4 d0 d1 d2 HX HN8 HB8 HNP;generalize w9.setCell ⟨w.heap.size,4,none⟩ (slice (qX gg) (j+1) cap2)=w10 at *;obtain⟨-,-,-,-,-,c5,cf⟩:=HN9.1.cells;have cf5:=cf 5;have hlt10:=HN9.1.lt;have hH10:w.heap.size<=w10.heap.size:=HN9.1.keep.size;have HNE:Hid (some w.heap.size≠(Value.slice ea j ec).ownBlock):=HN9.1.box.2.2.2;have OE:w10.ownsRow w.heap.size 4 1 (slice ea j ec) j (q1.empty.map λx=>bool x):=by
     have:=HN9.1.eOwn;unfold OwnB at this;have h2:w10.ownsRow w.heap.size 4 1 (slice ea j ec) q1.empty.length (q1.empty.map λx=>bool x):=this;rw[b7'] at h2;exact h2
    obtain⟨d0,d1,d2,-⟩:=zK HB9;clear cf;go_wp2_with fail;go_region_law ((refine step_append_lies _ (by rfl) (.tmp 64) (.tmp 67) 28 (by rfl) w.heap.size 4 ib _ 1 1 underlying28 hib hb0 hb1 hb2 rfl (by decide) (slice ea j ec) j (q1.empty.map λx=>bool x) (by simp[Act.eval,Act.put]) ((OE.alloc _).drew) ⟨w10.heap.size,0,none⟩ 1 1 [bool qe] (by simp[Act.eval,Act.put]) (by rfl) (news_of_block (cs:=#[bool qe]) (t:=4) (fr:=(0,0)) (gY w10 _)) (by simp[Value.oneCell']) (by decide) (by unfold maxLen;omega) (by omega) (by simp;omega) (w10.heap.size+1) (by simp) ?_;intro g5 cap5 w11 hown5 hgrow5 hat5 hlt11;have hPB5:=hgrow5.block w.heap.size (by simp;omega) HNE;have c5b:cX w11 w.heap.size 5=some (slice ea j ec):=(gW hPB5).trans ((gU _ _ _ hlt10).trans c5);have cf5b:w11.frozen? ⟨w.heap.size,5,none⟩=false:=(gV hPB5).trans ((frozen?_alloc_past _ _ _ hlt10).trans cf5)))
    all_goals
     have HN12:Hid (NwIs w (w11.setCell ⟨w.heap.size,5,none⟩ (slice (qX g5) (j+1) cap5)) w.heap.size (LT (j+1))):=by
      have h:=(HN9.1.grown (Keep.drew _)).addEmpty (o:=Obj.cells #[bool qe] 4) b7'.symm hown5 hgrow5 (by
       rcases hat5 with ha|ha
       ·exact .inl ha
       ·right;show w10.heap.size<=g5;omega)
      show NwIs _ _ _ (LT (j+1));rw[HNX2.out,<-HPP.out.1,<-HPP.out.2,<-HR.out];exact⟨_,_,_,_,_,h.1⟩
     clear hown5 hgrow5 hat5 hlt11 hPB5 c5b cf5b OE c5 cf5 d0 d1 d2;go_wp2_with fail;go_roundg (rules.length-(j+1))
     case measure=>rw[HB.out.1];omega
     case rel=>exact⟨j+1,rfl,by omega,by go_num,HN12⟩
  ·have i1:(rules.length:Int)<=(j:Int):=by omega
   have e:j=rules.length:=by omega
   subst e;rw[HLT.out.2.2.2.2.1] at hN;clear hgk;go_wp2_with fail;go_ret;exact⟨_,rfl,hN⟩
end
def xP (c:Nat):Bool:=decide (48<=c)&&decide (c<=57)
def zCH (c:Nat):Bool:=(decide (97<=c)&&decide (c<=122))||(decide (65<=c)&&decide (c<=90))
def isPrintedB (c:Nat):Bool:=decide (32<=c)&&decide (c<=126)
theorem zAv (w:World)(c:Nat):Calls prog 206 #[int .u8 (c:Int)] w λe w'=>e=returned (bool (xP c))/\w'=w:=by
 have a:xP c=(decide (48<=c)&&decide (c<=57)):=rfl;rcases(show c<48\/(48<=c/\c<=57)\/(48<=c/\57<c) by omega) with b|⟨b,d⟩|⟨b,d⟩
 all_goals
  have f:=vl a;clear a
  try have g:(c:Int)<48:=by omega
  try have g:(c:Int)>=48:=by omega
  try have j:(c:Int)<=57:=by omega
  try have j:57<(c:Int):=by omega
  go_in;go_wp2;go_ret;exact⟨by rw[f.out];first|(simp;done)|(simp;omega)|(simp;rw[Bool.eq_iff_iff];simp;omega),rfl⟩
theorem zB1 (w:World)(c:Nat):Calls prog 218 #[int .u8 (c:Int)] w λe w'=>e=returned (bool (isPrintedB c))/\w'=w:=by
 have a:isPrintedB c=(decide (32<=c)&&decide (c<=126)):=rfl;rcases(show c<32\/(32<=c/\c<=126)\/(32<=c/\126<c) by omega) with b|⟨b,d⟩|⟨b,d⟩
 all_goals
  have f:=vl a;clear a
  try have g:(c:Int)<32:=by omega
  try have g:(c:Int)>=32:=by omega
  try have j:(c:Int)<=126:=by omega
  try have j:126<(c:Int):=by omega
  go_in;go_wp2;go_ret;exact⟨by rw[f.out];first|(simp;done)|(simp;omega)|(simp;rw[Bool.eq_iff_iff];simp;omega),rfl⟩
theorem zFY (w:World)(c:Nat):Calls prog 217 #[int .u8 (c:Int)] w λe w'=>e=returned (bool (zCH c))/\w'=w:=by
 have d:(c<65)\/(65<=c/\c<=90)\/(90<c/\c<97)\/(97<=c/\c<=122)\/(122<c):=by omega
 have b:zCH c=((decide (97<=c)&&decide (c<=122))||(decide (65<=c)&&decide (c<=90))):=rfl;rcases d with a|a|a|a|a
 all_goals
  have f:=vl b;clear b
  try have g:(c:Int)<97:=by omega
  try have g:(c:Int)>=97:=by omega
  try have j:(c:Int)<65:=by omega
  try have j:(c:Int)>=65:=by omega
  try have k:(c:Int)<=90:=by omega
  try have k:90<(c:Int):=by omega
  try have l:(c:Int)<=122:=by omega
  try have l:122<(c:Int):=by omega
  go_in;go_wp2;go_ret;exact⟨by rw[f.out];first|(simp;done)|(simp;omega)|(simp;rw[Bool.eq_iff_iff];simp;omega),rfl⟩
def zA2 (c:Nat):Bool:=!(c==92||c==124||c==40||c==41||c==91||c==93||c==123||c==125||c==42||c==43||c==63||c==46)&&isPrintedB c
theorem zC0 (w:World)(c:Nat):Calls prog 212 #[int .u8 (c:Int)] w λe w'=>e=returned (bool (zA2 c))/\w'=w:=by
 have a:Hid (∀w,Ca 218 #[int .u8 (c:Int)] w λe w'=>e=returned (bool (isPrintedB c))/\w'=w):=λw=>zB1 w c;by_cases d:c=92\/c=124\/c=40\/c=41\/c=91\/c=93\/c=123\/c=125\/c=42\/c=43\/c=63\/c=46
 ·rcases d with rfl|rfl|rfl|rfl|rfl|rfl|rfl|rfl|rfl|rfl|rfl|rfl
  all_goals
   go_in;go_wp2;go_ret;exact⟨rfl,rfl⟩
 obtain⟨f,g,h,j,k,l,m,o,p,q,r,s⟩:¬c=92/\¬c=124/\¬c=40/\¬c=41/\¬c=91/\¬c=93/\¬c=123/\¬c=125/\¬c=42/\¬c=43/\¬c=63/\¬c=46:=by omega
 have t:Hid (zA2 c=isPrintedB c):=by
  show _=_;unfold zA2;simp[f,g,h,j,k,l,m,o,p,q,r,s]
 have x:((c:Int)==92)=false:=by rw[hX];omega
 have y:((c:Int)==124)=false:=by rw[hX];omega
 have z:((c:Int)==40)=false:=by rw[hX];omega
 have A:((c:Int)==41)=false:=by rw[hX];omega
 have B:((c:Int)==91)=false:=by rw[hX];omega
 have C:((c:Int)==93)=false:=by rw[hX];omega
 have D:((c:Int)==123)=false:=by rw[hX];omega
 have E:((c:Int)==125)=false:=by rw[hX];omega
 have F:((c:Int)==42)=false:=by rw[hX];omega
 have G:((c:Int)==43)=false:=by rw[hX];omega
 have H:((c:Int)==63)=false:=by rw[hX];omega
 have I:((c:Int)==46)=false:=by rw[hX];omega
 generalize isPrintedB c=b at *;go_in;go_wp2_with (go_at_call 218;refine(a _).mono ?_;rintro e J ⟨rfl,u⟩;have v:=u.symm;subst v)
 go_ret;exact⟨by rw[t.out];rfl,rfl⟩
def jU (c:Nat):Int:=if xP c then(c:Int)-48 else if 97<=c/\c<=102 then(c:Int)-87 else -1
theorem zF5 (w:World)(c:Nat)(p:c<256):Calls prog 220 #[int .u8 (c:Int)] w λe w'=>e=returned (iX (jU c))/\w'=w:=by
 have h:Hid (∀w,Ca 206 #[int .u8 (c:Int)] w λe w'=>e=returned (bool (xP c))/\w'=w):=λw=>zAv w c;by_cases q:48<=c/\c<=57
 ·have d:xP c=true:=by unfold xP;simp;omega
  rw[d] at h;have g:=vl h;have f:Hid (jU c=(c:Int)-48):=by show _=_;unfold jU;rw[if_pos d]
  have j:IntKind.u8.wrap ((c:Int)-48)=(c:Int)-48:=by rw[IntKind.wrap_u8];omega
  go_in;go_wp2_with (go_at_call 206;refine(g _).mono ?_;rintro e k ⟨rfl,a⟩;have b:=a.symm;subst b)
  go_ret;exact⟨by rw[f.out];first|rfl|(simp [j];done)|(simp;omega),rfl⟩
 ·have d:xP c=false:=by unfold xP;simp;omega
  rw[d] at h;have g:=vl h;by_cases l:97<=c/\c<=102
  ·have f:Hid (jU c=(c:Int)-87):=by show _=_;unfold jU;rw[if_neg (by rw[d];decide),if_pos l]
   have m:(c:Int)>=97:=by omega
   have o:(c:Int)<=102:=by omega
   have j:IntKind.u8.wrap ((c:Int)-97)=(c:Int)-97:=by rw[IntKind.wrap_u8];omega
   go_in;go_wp2_with (go_at_call 206;refine(g _).mono ?_;rintro e k ⟨rfl,a⟩;have b:=a.symm;subst b)
   go_ret;exact⟨by rw[f.out];first|rfl|(simp [j];done)|(simp;omega),rfl⟩
  ·have f:Hid (jU c=-1):=by show _=_;unfold jU;rw[if_neg (by rw[d];decide),if_neg l]
   by_cases r:97<=c
   ·have m:(c:Int)>=97:=by omega
    have o:102<(c:Int):=by omega
    go_in;go_wp2_with (go_at_call 206;refine(g _).mono ?_;rintro e k ⟨rfl,a⟩;have b:=a.symm;subst b)
    go_ret;exact⟨by rw[f.out];rfl,rfl⟩
   ·have m:(c:Int)<97:=by omega
    go_in;go_wp2_with (go_at_call 206;refine(g _).mono ?_;rintro e k ⟨rfl,a⟩;have b:=a.symm;subst b)
    go_ret;exact⟨by rw[f.out];rfl,rfl⟩
def qQ (c:Nat):Bool:=decide (97<=c)&&decide (c<=122)
theorem zCZ (w:World)(c:Nat):Calls prog 181 #[int .u8 (c:Int)] w λe w'=>e=returned (bool (qQ c))/\w'=w:=by
 by_cases b:97<=c
 ·by_cases d:c<=122
  ·have a:Hid (qQ c=true):=by show _=_;unfold qQ;rw[dQ b,dQ d];rfl
   have f:(c:Int)>=97:=by omega
   have g:(c:Int)<=122:=by omega
   go_in;go_wp2;go_ret;exact⟨by rw[a.out];first|rfl|(simp;done)|(simp;omega),rfl⟩
  ·have a:Hid (qQ c=false):=by show _=_;unfold qQ;rw[dQ b,gG d];rfl
   have f:(c:Int)>=97:=by omega
   have g:122<(c:Int):=by omega
   go_in;go_wp2;go_ret;exact⟨by rw[a.out];first|rfl|(simp;done)|(simp;omega),rfl⟩
 ·have a:Hid (qQ c=false):=by show _=_;unfold qQ;rw[gG b];rfl
  have f:(c:Int)<97:=by omega
  go_in;go_wp2;go_ret;exact⟨by rw[a.out];first|rfl|(simp;done)|(simp;omega),rfl⟩
def zAb (s:ByteArray)(c:Nat):Nat:=(List.range s.size).findIdx λi=>byt s i==c
theorem zLS (s:ByteArray)(c j:Nat)(a:j<s.size)(b:byt s j=c)(d:∀i,i<j->byt s i≠c):zAb s c=j:=
 zDM _ _ j (by rw[List.length_range];exact a) (by rw[vH _ _ a];exact beq_iff_eq.2 b) λk e=>by rw[vH _ _ (by omega)];exact hX.2 (d k e)
theorem zM6 (s:ByteArray)(c:Nat)(d:∀i,i<s.size->byt s i≠c):zAb s c=s.size:=by
 have b:=zBs (List.range s.size) (λi=>byt s i==c) λk a=>by
  rw[List.length_range] at a;rw[vH _ _ a];exact hX.2 (d k a)
 rw[List.length_range] at b;exact b
def vM (s:ByteArray)(c:Nat):Bool:=decide (zAb s c<s.size)
def yA (s:ByteArray)(c:Nat):ByteArray:=if vM s c then s.extract 0 (zAb s c) else s
def yH (s:ByteArray)(c:Nat):ByteArray:=if vM s c then s.extract (zAb s c+1) s.size else⟨#[]⟩
theorem zCK (w:World)(s:ByteArray)(D:s.size<=1048576)(c:Nat):
  Calls prog 86 #[string s,int .u8 (c:Int)] w λe w'=>e=returned (tuple #[string (yA s c),string (yH s c),bool (vM s c)])/\Grew w w':=by
 have p:Hid (∀j,j<s.size->byt s j=c->(∀i,i<j->byt s i≠c)->zAb s c=j):=λj=>zLS s c j;have r:=vl <| zM6 s c;have t:Hid (∀j,zAb s c=j->j<s.size->(vM s c=true/\yA s c=s.extract 0 j/\yH s c=s.extract (j+1) s.size)):=λj e m=>by
  have a:vM s c=true:=by unfold vM;rw[e];exact dQ m
  exact⟨a,by unfold yA;rw[if_pos a,e],by unfold yH;rw[if_pos a,e]⟩
 have u:Hid (zAb s c=s.size->(vM s c=false/\yA s c=s/\yH s c=⟨#[]⟩)):=λe=>by
  have a:vM s c=false:=by unfold vM;rw[e];exact gG (by omega)
  exact⟨a,by unfold yA;rw[if_neg (by rw[a];decide)],by unfold yH;rw[if_neg (by rw[a];decide)]⟩
 generalize vM s c=E at *;generalize yA s c=F at *;generalize yH s c=B at *;go_in;go_wp2;go_loopg [7] s.size (λq i wr=>∃j:Nat,q=s.size-j/\j<=s.size/\i=iX (j:Int)/\(∀k,k<j->byt s k≠c)/\wr=w)
 case atStart=>exact⟨0,rfl,lX,rfl,λk o=>by omega,rfl⟩
 case round=>
  obtain⟨j,g,m,rfl,d,rfl⟩:=hrel;have h:Hid (gk=s.size-j/\(∀k,k<j->byt s k≠c)):=⟨g,d⟩
  by_cases l:j<s.size
  ·have y:(j:Int)<(s.size:Int):=by omega
   have G:¬(j:Int)<0:=by omega
   have H:=zCn s j l;clear g d;by_cases f:byt s j=c
   ·have b:=vl <| t j (p j l f h.2) l
    have z:((byt s j:Int)==(c:Int))=true:=by rw[f];exact beq_self_eq_true _
    have I:(0:Int)<=(j:Int):=by omega
    have J:(j:Int)<=(s.size:Int):=by omega
    have L:(0:Int)<=(j:Int)+1:=by omega
    have M:(j:Int)+1<=(s.size:Int):=by omega
    have N:Hid (((j:Int)+1).toNat=j+1):=by show _=_;omega
    generalize byt s j=x at *;go_wp2;go_quiet (fail);go_wp2;refine gJ (v:=tuple #[string (s.extract 0 j),string (s.extract (j+1) s.size),tX]) (by simp[results,results86,go_sem]) rfl ?_;exact⟨by rw[b.out.1,b.out.2.1,b.out.2.2],Keep.alike (w':=wr.drewN nq) ⟨rfl,rfl,rfl⟩⟩
   ·have z:((byt s j:Int)==(c:Int))=false:=by rw[hX];omega
    have C:Hid (∀k,k<j+1->byt s k≠c):=λk o=>by
     by_cases e:k=j
     ·rw[e];exact f
     ·exact h.2 k (by omega)
    clear f;generalize byt s j=x at *;go_wp2;go_roundg (s.size-(j+1))
    case measure=>rw[h.out.1];omega
    case rel=>exact⟨j+1,rfl,by omega,by go_num,C,rfl⟩
  ·have y:(s.size:Int)<=(j:Int):=by omega
   have b:=vl <| u (r λk o=>d k (by omega));clear g d;go_wp2;refine gJ (v:=tuple #[string s,string ⟨#[]⟩,fX]) (by simp[results,results86,go_sem]) rfl ?_;exact⟨by rw[b.out.1,b.out.2.1,b.out.2.2],Keep.refl _ _ _⟩
end Go.Proofs.YtbjcfkdnjaiclaaGreat
