import Derived.Deep.DrawnRows
import Derived.Deep.RegionLaw
import Derived.Test.YtbjcfkdnjaiclaaGreatA0
import Derived.Test.YtbjcfkdnjaiclaaGreatA5
/- Parts of the proof. -/
set_option linter.unusedVariables false
set_option linter.unusedSimpArgs false
set_option maxHeartbeats 4000000
set_option maxRecDepth 100000
namespace Go.Proofs.YtbjcfkdnjaiclaaGreat
open Go.RowKit Go.Proofs.Tryz Go.World
open Go.Value (int slice bool pointer string agg tuple)
open Go.IntKind (i64)
open Go.Ending (returned)
section
def vX (ps:List (Value×Bool)):List Value:=ps.flatMap fun p=>[p.1,bool p.2]
theorem zGL (ps:List (Value×Bool))(u:Value)(o:Bool):vX (ps++[(u,o)])=vX ps++[u,bool o]:=by simp[vX]
theorem zDX (ps:List (Value×Bool))(i:Nat)(hi:i<ps.length):(vX ps)[i*2]? =some (ps.getD i (undef,false)).1∧(vX ps)[i*2+1]? =some (bool (ps.getD i (undef,false)).2):=by
 induction ps generalizing i with
 |nil=>simp at hi
 |cons p ps ih=>
  cases i with
  |zero=>exact⟨rfl,rfl⟩
  |succ i=>
   have:=ih i (by simpa using hi);have e:vX (p::ps)=p.1::bool p.2::vX ps:=rfl;rw[e,show(i+1)*2=i*2+1+1 by omega];exact this
structure Nw (w0 w:World)(nb:Nat)(n:Nt)(sv fv rv ev:Value)(ps:List (Value×Bool)):Prop where
 blk:w.heap[nb]? =some (.cells #[sv,fv,int i64 (n.first:Int),int i64 (n.ends:Int),rv,ev] 132)
 sOwn:w.ownsRow w0.heap.size 161 2 sv n.sets.length (vX ps)
 plen:ps.length=n.sets.length
 each:∀i,i<n.sets.length->RangesAt w0 (ps.getD i (undef,false)).1 (n.sets.getD i ⟨[],false⟩).ranges∧(ps.getD i (undef,false)).2=(n.sets.getD i ⟨[],false⟩).others
 fOwn:OwnI w w0.heap.size fv (ints n.follow)
 rOwn:OwnI w w0.heap.size rv (ints n.rules)
 eOwn:OwnB w w0.heap.size ev n.empty
 fr:∀g,fv.ownBlock=some g->some g≠rv.ownBlock
 nH:w0.heap.size<=nb
 keep:Grew w0 w
def NwIs (w0 w:World)(nb:Nat)(n:Nt):Prop:=∃sv fv rv ev ps,Nw w0 w nb n sv fv rv ev ps
def StayS (w w':World):Prop:=∀(k:Nat) (c:Array Value),w.heap[k]? =some (Obj.cells c 167)->w'.heap[k]? =some (Obj.cells c 167)
theorem StayS.refl (w:World):StayS w w:=fun _ _ h=>h
theorem StayS.trans {w w' w'':World}(h:StayS w w')(h':StayS w' w''):StayS w w'':=fun k c hk=>h' k c (h k c hk)
theorem Keep.stayS {w w':World}(h:Grew w w'):StayS w w':=fun k c hk=>by
 have hl:=(kQ.1 hk).1;exact(h.block k hl (kJ hl)).trans hk
section
variable {w0 w w2:World} {nb:Nat} {n:Nt} {sv fv rv ev:Value} {ps:List (Value×Bool)}
theorem Nw.lt (h:Nw w0 w nb n sv fv rv ev ps):nb<w.heap.size:=(kQ.1 h.blk).1
theorem Nw.cells (h:Nw w0 w nb n sv fv rv ev ps):w.cell? ⟨nb,0,none⟩=some sv∧w.cell? ⟨nb,1,none⟩=some fv∧w.cell? ⟨nb,2,none⟩=some (int i64 (n.first:Int))∧w.cell? ⟨nb,3,none⟩=some (int i64 (n.ends:Int))∧w.cell? ⟨nb,4,none⟩=some rv∧w.cell? ⟨nb,5,none⟩=some ev∧∀i,w.frozen? ⟨nb,i,none⟩=false:=by
 refine⟨?_,?_,?_,?_,?_,?_,fun i=>?_⟩
 all_goals first|(unfold cell?;rw[h.blk];rfl)|(unfold frozen?;rw[h.blk];simp)
theorem Nw.box (h:Nw w0 w nb n sv fv rv ev ps):some nb≠sv.ownBlock∧some nb≠fv.ownBlock∧some nb≠rv.ownBlock∧some nb≠ev.ownBlock:=⟨zM h.sOwn h.blk (by decide),zM h.fOwn h.blk (by decide),zM h.rOwn h.blk (by decide),zM h.eOwn h.blk (by decide)⟩
theorem Nw.grown (h:Nw w0 w nb n sv fv rv ev ps)(hk:Grew w w2):Nw w0 w2 nb n sv fv rv ev ps:=
 ⟨(hk.block nb h.lt (kJ h.lt)).trans h.blk,zK h.sOwn hk,h.plen,h.each,zK h.fOwn hk,zK h.rOwn hk,zK h.eOwn hk,h.fr,h.nH,h.keep.trans (hk.lower h.keep.size h.keep.size)⟩
theorem Nw.setSpan {b i:Nat}{x:Value}{c:Array Value}(h:Nw w0 w nb n sv fv rv ev ps)(hb:w.heap[b]? =some (.cells c 167))(hH:w0.heap.size<=b):Nw w0 (w.setCell ⟨b,i,none⟩ x) nb n sv fv rv ev ps:=by
 have e:∀k,k≠b->(w.setCell ⟨b,i,none⟩ x).heap[k]? =w.heap[k]? :=fun k hk=>lJ _ _ _ _ hk;have n1:nb≠b:=fun e2=>by
  have:=h.blk;rw[e2,hb] at this;simp at this
 have n3:=zM h.sOwn hb (by decide);have n4:=zM h.fOwn hb (by decide);have n5:=zM h.rOwn hb (by decide);have n6:=zM h.eOwn hb (by decide);exact⟨(e nb n1).trans h.blk,zD h.sOwn fun k _ _ hk=>e k fun e2=>n3 (by rw[hk,e2]),h.plen,h.each,zD h.fOwn fun k _ _ hk=>e k fun e2=>n4 (by rw[hk,e2]),zD h.rOwn fun k _ _ hk=>e k fun e2=>n5 (by rw[hk,e2]),zD h.eOwn fun k _ _ hk=>e k fun e2=>n6 (by rw[hk,e2]),h.fr,h.nH,h.keep.trans (zO _ _ _ _ hH)⟩
theorem Nw.setFollow {g cap p x:Nat}(h:Nw w0 w nb n sv (slice (some ⟨g,0,none⟩) n.follow.length cap) rv ev ps)(hp:p<n.follow.length):Nw w0 (w.setCell ⟨g,p,none⟩ (int i64 (x:Int))) nb {n with follow:=n.follow.set p x} sv (slice (some ⟨g,0,none⟩) n.follow.length cap) rv ev ps∧StayS w (w.setCell ⟨g,p,none⟩ (int i64 (x:Int))):=by
 have e:∀k,k≠g->(w.setCell ⟨g,p,none⟩ (int i64 (x:Int))).heap[k]? =w.heap[k]? :=fun k hk=>lJ _ _ _ _ hk;have hgH:=(h.fOwn.lt g rfl).1;have hn:=h.box.2.1;have hrow:Row w w0.heap.size 3 (slice (some ⟨g,0,none⟩) n.follow.length cap) n.follow.length fun i=>int i64 ((ints n.follow).getD i 0):=by
  have:=h.fOwn.rowOf;rw[zN] at this;exact this
 have hf2:OwnI (w.setCell ⟨g,p,none⟩ (int i64 (x:Int))) w0.heap.size (slice (some ⟨g,0,none⟩) n.follow.length cap) (ints (n.follow.set p x)):=by
  refine Row.ownI ?_;rw[zN,List.length_set];refine Row.congr (hrow.set p (int i64 (x:Int))) fun i hi=>?_;have e0:(n.follow.set p x).getD i 0=if i=p then x else n.follow.getD i 0:=by
   rw[lW,List.getElem?_set];by_cases e1:i=p
   ·subst e1;rw[if_pos rfl,if_pos rfl,if_pos hp];rfl
   ·rw[if_neg e1,if_neg (Ne.symm e1),<-lW]
  rw[vI,vI,e0];split <;> rfl
 have hb1:∀{v:Value} {ee z m:Nat} {xs:List Value},w.ownsRow w0.heap.size ee z v m xs->3≠ee->some g≠v.ownBlock:=fun{v} {ee} {z} {m} {xs} hv he e2=>xN h.fOwn hv he (g:=g) rfl e2;refine⟨⟨(e nb fun e2=>hn (by rw[e2];rfl)).trans h.blk,zD h.sOwn fun k _ _ hk=>e k fun e2=>hb1 h.sOwn (by decide) (by rw[hk,e2]),h.plen,h.each,hf2,zD h.rOwn fun k _ _ hk=>e k fun e2=>h.fr g rfl (by rw[hk,e2]),zD h.eOwn fun k _ _ hk=>e k fun e2=>hb1 h.eOwn (by decide) (by rw[hk,e2]),h.fr,h.nH,h.keep.trans (zO _ _ _ _ hgH)⟩,fun k c hk=>(e k fun e2=>?_).trans hk⟩;exact zM h.fOwn hk (by decide) (by rw[e2];rfl)
end
end
def Nt.linkTo (n:Nt)(from_ to:Nat):Nat->Nt
 |0=>n
 |j+1=>if from_.testBit j then{n.linkTo from_ to j with follow:=(n.linkTo from_ to j).follow.set j ((n.linkTo from_ to j).follow.getD j 0|||to)} else n.linkTo from_ to j
def Nt.link (n:Nt)(from_ to:Nat):Nt:=n.linkTo from_ to n.follow.length
theorem zE9 (n:Nt)(a b j:Nat):(n.linkTo a b j).follow.length=n.follow.length:=by
 induction j with
 |zero=>rfl
 |succ j ih=>
  unfold Nt.linkTo;split
  ·show(List.set _ _ _).length=_;rw[List.length_set,ih]
  ·exact ih
theorem zNg {α:Type}{l:List α}{i:Nat}{x y:α}(h:y∈l.set i x):y=x∨y∈l:=by
 rcases List.mem_or_eq_of_mem_set h with h1|h1
 ·exact .inr h1
 ·exact .inl h1
theorem zC7 {n:Nt}{B:Nat}(a b j:Nat)(hb:b<2^B)(h:∀x∈n.follow,x<2^B):∀x∈(n.linkTo a b j).follow,x<2^B:=by
 induction j with
 |zero=>exact h
 |succ j ih=>
  unfold Nt.linkTo;split
  ·intro x hx
   rcases zNg hx with h1|h1
   ·subst h1
    refine Nat.or_lt_two_pow ?_ hb;by_cases hj:j<(n.linkTo a b j).follow.length
    ·exact ih _ (zS _ _ 0 hj)
    ·rw[lW,List.getElem?_eq_none (by omega)];exact Nat.pow_pos (by omega)
   ·exact ih x h1
  ·exact ih
theorem zE8 (w0 w:World)(nb:Nat)(n:Nt)(h:NwIs w0 w nb n)(hl:n.follow.length<=24)(hf:∀x∈n.follow,x<2^24)(a b:Nat)(ha:a<16777216)(hb:b<2^24):
  Calls prog 166 #[pointer (some ⟨nb,0,none⟩),int i64 (a:Int),int i64 (b:Int)] w fun e w'=>e=returned (tuple #[])∧NwIs w0 w' nb (n.link a b)∧StayS w w':=by
 have hb2:b<16777216:=hb;obtain⟨LT,hLT⟩:∃LT,LT=n.linkTo a b:=⟨_,rfl⟩
 have HL:Hid (LT 0=n∧(∀j,a.testBit j=true->LT (j+1)={LT j with follow:=(LT j).follow.set j ((LT j).follow.getD j 0|||b)})∧(∀j,a.testBit j=false->LT (j+1)=LT j)∧(∀j,(LT j).follow.length=n.follow.length∧∀x∈(LT j).follow,x<16777216)∧LT n.follow.length=n.link a b):=by
  rw[hLT];refine⟨rfl,fun j h=>?_,fun j h=>?_,fun j=>⟨zE9 n a b j,zC7 a b j hb hf⟩,rfl⟩
  ·show(if a.testBit j=true then _ else _)=_;rw[if_pos h]
  ·show(if a.testBit j=true then _ else _)=_;rw[if_neg (by rw[h];decide)]
 have HN:Hid (∀wr m,NwIs w0 wr nb m->∃fa cap,wr.cell? ⟨nb,1,none⟩=some (slice fa m.follow.length cap)∧∀p,p<m.follow.length->∃g,fa=some ⟨g,0,none⟩∧wr.cell? ⟨g,p,none⟩=some (int i64 ((m.follow.getD p 0:Nat):Int))∧wr.frozen? ⟨g,p,none⟩=false∧∀x:Nat,NwIs w0 (wr.setCell ⟨g,p,none⟩ (int i64 (x:Int))) nb {m with follow:=m.follow.set p x}∧StayS wr (wr.setCell ⟨g,p,none⟩ (int i64 (x:Int)))):=by
  rintro wr m ⟨sv,fv,rv,ev,ps,hM⟩;obtain⟨fa,cap,hfv⟩:=hM.fOwn.form;rw[zN] at hfv;subst hfv;refine⟨fa,cap,hM.cells.2.1,fun p hp=>?_⟩;obtain⟨g,rfl⟩:=hM.fOwn.some (by rw[zN];omega);have hc:=hM.fOwn.cell p (by rw[zN];exact hp);rw[vI] at hc;refine⟨g,rfl,hc,?_,fun x=>?_⟩
  ·obtain⟨g2,c2,hv,_,_,_,_,_,hz⟩:=hM.fOwn.rowOf.get (by rw[zN];omega)
   injection hv with e1 _ _;injection e1 with e1;injection e1 with e1;rw[e1];exact hz p
  ·have:=hM.setFollow (x:=x) hp
   exact⟨⟨_,_,_,_,_,this.1⟩,this.2⟩
 have HH:=vl h;obtain⟨fa0,cap0,y1,-⟩:=HN.out w n h;generalize n.link a b=NE at *;clear hLT h hf;generalize hln:n.follow.length=L at *;clear hln;go_in;go_wp2;clear y1;go_loopg [12] L (fun q i wr=>∃j:Nat,q=L-j∧j<=L∧i=int i64 (j:Int)∧NwIs w0 wr nb (LT j)∧StayS w wr)
 case atStart=>exact⟨0,rfl,lX,rfl,by rw[HL.out.1];exact HH.out,StayS.refl _⟩
 case round=>
  obtain⟨j,hgk,hj,rfl,hM,hS⟩:=hrel;have HB:Hid (gk=L-j∧NwIs w0 wr nb (LT j)∧StayS w wr):=⟨hgk,hM,hS⟩
  by_cases hj2:j<L
  ·have i1:(j:Int)<(L:Int):=by omega
   obtain⟨hlen,hsm⟩:=HL.out.2.2.2.1 j;have hbit:=zKr a j (by omega);cases htb:a.testBit j with
   |false=>
    rw[htb] at hbit;have HE:=vl <| HL.out.2.2.1 j htb;clear hgk hM hS hlen hsm htb;go_wp2;go_roundg (L-(j+1))
    case measure=>rw[HB.out.1];omega
    case rel=>exact⟨j+1,rfl,by omega,by go_num,by rw[HE.out];exact HB.out.2.1,HB.out.2.2⟩
   |true=>
    rw[htb] at hbit;have HE:=vl <| HL.out.2.1 j htb;obtain⟨fa,cap,z1,hzc⟩:=HN.out wr (LT j) hM;obtain⟨g,rfl,z2,z3,hset⟩:=hzc j (by omega);have HSET:Hid (NwIs w0 (wr.setCell ⟨g,j,none⟩ (int i64 (((LT j).follow.getD j 0|||b:Nat):Int))) nb {LT j with follow:=(LT j).follow.set j ((LT j).follow.getD j 0|||b)}∧StayS wr (wr.setCell ⟨g,j,none⟩ (int i64 (((LT j).follow.getD j 0|||b:Nat):Int)))):=hset _;have hxl:=hsm _ (zS (LT j).follow j 0 (by omega));have HOR:Hid (bits .or i64 (((LT j).follow.getD j 0:Nat):Int) (b:Int)=(((LT j).follow.getD j 0|||b:Nat):Int)):=yO _ _ (by omega) (by omega);rw[hlen] at z1;clear hgk hM hS hlen hsm htb hzc hset;rw[<-HE.out,<-HOR.out] at HSET;generalize (LT j).follow.getD j 0=x at *;go_wp2;go_roundg (L-(j+1))
    case measure=>rw[HB.out.1];omega
    case rel=>exact⟨j+1,rfl,by omega,by go_num,HSET.out.1,HB.out.2.2.trans HSET.out.2⟩
  ·have i1:(L:Int)<=(j:Int):=by omega
   have e:j=L:=by omega
   subst e;have HE:Hid (NwIs w0 wr nb NE∧StayS w wr):=⟨by rw[<-HL.out.2.2.2.2];exact hM,hS⟩
   clear hgk hM hS;go_wp2;go_end0;exact⟨rfl,HE.out.1,HE.out.2⟩
section
structure Sn where
 first:Nat
 last:Nat
 empty:Bool
def Sn.val (s:Sn):Value:=agg #[int i64 (s.first:Int),int i64 (s.last:Int),bool s.empty]
def Sn.cells (s:Sn):Array Value:=#[int i64 (s.first:Int),int i64 (s.last:Int),bool s.empty]
def Sn.then (a b:Sn):Sn:=⟨if a.empty then a.first|||b.first else a.first,if b.empty then b.last|||a.last else b.last,a.empty&&b.empty⟩
structure Sn.Small (s:Sn)(k:Nat):Prop where
 first:s.first<2^k
 last:s.last<2^k
theorem Sn.then_small {a b:Sn}{k:Nat}(ha:a.Small k)(hb:b.Small k):(a.then b).Small k:=by
 constructor
 ·show(if _ then _ else _)<_
  split
  ·exact Nat.or_lt_two_pow ha.first hb.first
  ·exact ha.first
 ·show(if _ then _ else _)<_
  split
  ·exact Nat.or_lt_two_pow hb.last ha.last
  ·exact hb.last
theorem NwIs.grown {w0 w w2:World}{nb:Nat}{n:Nt}(h:NwIs w0 w nb n)(hk:Grew w w2):NwIs w0 w2 nb n:=by
 obtain⟨sv,fv,rv,ev,ps,h⟩:=h;exact⟨sv,fv,rv,ev,ps,h.grown hk⟩
structure Three (w0 w wr:World)(nb:Nat)(n:Nt)(a b c:Sn):Prop where
 net:NwIs w0 wr nb n
 a1:wr.heap[w.heap.size]? =some (.cells a.cells 167)
 b1:wr.heap[w.heap.size+1]? =some (.cells b.cells 167)
 c1:wr.heap[w.heap.size+1+1]? =some (.cells c.cells 167)
 stay:StayS w wr
 old:w0.heap.size<=w.heap.size
section
variable {w0 w wr w2:World} {nb:Nat} {n:Nt} {a b c:Sn}
theorem Three.at (h:Three w0 w wr nb n a b c):wr.cell? ⟨w.heap.size,0,none⟩=some (int i64 (a.first:Int))∧wr.cell? ⟨w.heap.size,1,none⟩=some (int i64 (a.last:Int))∧wr.cell? ⟨w.heap.size,2,none⟩=some (bool a.empty)∧wr.cell? ⟨w.heap.size+1,0,none⟩=some (int i64 (b.first:Int))∧wr.cell? ⟨w.heap.size+1,1,none⟩=some (int i64 (b.last:Int))∧wr.cell? ⟨w.heap.size+1,2,none⟩=some (bool b.empty)∧wr.cell? ⟨w.heap.size+1+1,0,none⟩=some (int i64 (c.first:Int))∧wr.cell? ⟨w.heap.size+1+1,1,none⟩=some (int i64 (c.last:Int))∧wr.cell? ⟨w.heap.size+1+1,2,none⟩=some (bool c.empty):=by
 refine⟨?_,?_,?_,?_,?_,?_,?_,?_,?_⟩
 all_goals first|(unfold cell?;rw[h.a1];rfl)|(unfold cell?;rw[h.b1];rfl)|(unfold cell?;rw[h.c1];rfl)
theorem Three.fz (h:Three w0 w wr nb n a b c)(i:Nat):wr.frozen? ⟨w.heap.size,i,none⟩=false∧wr.frozen? ⟨w.heap.size+1,i,none⟩=false∧wr.frozen? ⟨w.heap.size+1+1,i,none⟩=false:=by
 refine⟨?_,?_,?_⟩
 ·unfold frozen?;rw[h.a1];simp
 ·unfold frozen?;rw[h.b1];simp
 ·unfold frozen?;rw[h.c1];simp
theorem NwIs.setSpan {b i:Nat}{x:Value}{c:Array Value}(h:NwIs w0 w nb n)(hb:w.heap[b]? =some (.cells c 167))(hH:w0.heap.size<=b):NwIs w0 (w.setCell ⟨b,i,none⟩ x) nb n:=by
 obtain⟨sv,fv,rv,ev,ps,h⟩:=h;exact⟨sv,fv,rv,ev,ps,h.setSpan hb hH⟩
theorem jJ {b i:Nat}{x:Value}(h:StayS w wr)(hb:w.heap.size<=b):StayS w (wr.setCell ⟨b,i,none⟩ x):=fun k c hk=>by
 have hl:=(kQ.1 hk).1;exact(lJ _ _ _ _ (by show k≠b;omega)).trans (h k c hk)
theorem Three.setA (h:Three w0 w wr nb n a b c)(x:Nat):Three w0 w (wr.setCell ⟨w.heap.size,0,none⟩ (int i64 (x:Int))) nb n {a with first:=x} b c:=by
 have e:∀k,k≠w.heap.size->(wr.setCell ⟨w.heap.size,0,none⟩ (int i64 (x:Int))).heap[k]? =wr.heap[k]? :=fun k hk=>lJ _ _ _ _ hk;exact⟨h.net.setSpan h.a1 h.old,by simp[setCell,lU,h.a1,Sn.cells],(e _ (by omega)).trans h.b1,(e _ (by omega)).trans h.c1,jJ h.stay lQ,h.old⟩
theorem Three.setB (h:Three w0 w wr nb n a b c)(x:Nat):Three w0 w (wr.setCell ⟨w.heap.size+1,1,none⟩ (int i64 (x:Int))) nb n a {b with last:=x} c:=by
 have e:∀k,k≠w.heap.size+1->(wr.setCell ⟨w.heap.size+1,1,none⟩ (int i64 (x:Int))).heap[k]? =wr.heap[k]? :=fun k hk=>lJ _ _ _ _ hk;have:=h.old;exact⟨h.net.setSpan h.b1 (by omega),(e _ (by omega)).trans h.a1,by simp[setCell,lU,h.b1,Sn.cells],(e _ (by omega)).trans h.c1,jJ h.stay (by omega),h.old⟩
theorem Three.setC (h:Three w0 w wr nb n a b c)(s:Sn):Three w0 w (((wr.setCell ⟨w.heap.size+1+1,0,none⟩ (int i64 (s.first:Int))).setCell ⟨w.heap.size+1+1,1,none⟩ (int i64 (s.last:Int))).setCell ⟨w.heap.size+1+1,2,none⟩ (bool s.empty)) nb n a b s:=by
 have e:∀(wq:World) (i k:Nat) (x:Value),k≠w.heap.size+1+1->(wq.setCell ⟨w.heap.size+1+1,i,none⟩ x).heap[k]? =wq.heap[k]? :=fun wq i k x hk=>lJ _ _ _ _ hk;have ho:=h.old;have c2:(wr.setCell ⟨w.heap.size+1+1,0,none⟩ (int i64 (s.first:Int))).heap[w.heap.size+1+1]? =some (.cells #[int i64 (s.first:Int),int i64 (c.last:Int),bool c.empty] 167):=by simp[setCell,lU,h.c1,Sn.cells]
 have c3:((wr.setCell ⟨w.heap.size+1+1,0,none⟩ (int i64 (s.first:Int))).setCell ⟨w.heap.size+1+1,1,none⟩ (int i64 (s.last:Int))).heap[w.heap.size+1+1]? =some (.cells #[int i64 (s.first:Int),int i64 (s.last:Int),bool c.empty] 167):=by
  generalize hq:wr.setCell ⟨w.heap.size+1+1,0,none⟩ (int i64 (s.first:Int))=wq at *;simp[setCell,lU,c2]
 refine⟨((h.net.setSpan h.c1 (by omega)).setSpan c2 (by omega)).setSpan c3 (by omega),(e _ _ _ _ (by omega)).trans ((e _ _ _ _ (by omega)).trans ((e _ _ _ _ (by omega)).trans h.a1)),(e _ _ _ _ (by omega)).trans ((e _ _ _ _ (by omega)).trans ((e _ _ _ _ (by omega)).trans h.b1)),?_,jJ (jJ (jJ h.stay (by omega)) (by omega)) (by omega),h.old⟩;generalize hq:(wr.setCell ⟨w.heap.size+1+1,0,none⟩ (int i64 (s.first:Int))).setCell ⟨w.heap.size+1+1,1,none⟩ (int i64 (s.last:Int))=wq at *;simp[setCell,lU,c3,Sn.cells]
theorem Three.start (h:NwIs w0 w nb n)(hw:w0.heap.size<=w.heap.size)(a b:Sn):Three w0 w (((w.alloc (.cells a.cells 167)).alloc (.cells b.cells 167)).alloc (.cells (Sn.mk 0 0 false).cells 167)) nb n a b ⟨0,0,false⟩:=by
 have s1:(w.alloc (.cells a.cells 167)).heap.size=w.heap.size+1:=by simp
 have s2:((w.alloc (.cells a.cells 167)).alloc (.cells b.cells 167)).heap.size=w.heap.size+1+1:=by simp
 have k1:=kZ (b:=w.heap.size) w (.cells a.cells 167) lQ;have k2:=kZ (b:=(w.alloc (.cells a.cells 167)).heap.size) (w.alloc (.cells a.cells 167)) (.cells b.cells 167) lQ;have k3:=kZ (b:=((w.alloc (.cells a.cells 167)).alloc (.cells b.cells 167)).heap.size) ((w.alloc (.cells a.cells 167)).alloc (.cells b.cells 167)) (.cells (Sn.mk 0 0 false).cells 167) lQ;refine⟨((h.grown k1).grown k2).grown k3,?_,?_,?_,(k1.stayS.trans k2.stayS).trans k3.stayS,hw⟩
 ·exact(lG _ _ _ (by rw[s2];omega)).trans ((lG _ _ _ (by rw[s1];omega)).trans (gJ _ _))
 ·refine(lG _ _ _ (by rw[s2];omega)).trans ?_
  have:=gJ (w.alloc (.cells a.cells 167)) (.cells b.cells 167);rw[s1] at this;exact this
 ·have:=gJ ((w.alloc (.cells a.cells 167)).alloc (.cells b.cells 167)) (.cells (Sn.mk 0 0 false).cells 167)
  rw[s2] at this;exact this
theorem Three.call {n2:Nt}(h:Three w0 w wr nb n a b c)(hn:NwIs w0 w2 nb n2)(hs:StayS wr w2):Three w0 w w2 nb n2 a b c:=⟨hn,hs _ _ h.a1,hs _ _ h.b1,hs _ _ h.c1,h.stay.trans hs,h.old⟩
end
end
theorem zCz (w0 w:World)(nb:Nat)(n:Nt)(h:NwIs w0 w nb n)(hl:n.follow.length<=24)(hf:∀x∈n.follow,x<2^24)(a b:Sn)(ha:a.Small 24)(hb:b.Small 24):
  Calls prog 164 #[pointer (some ⟨nb,0,none⟩),a.val,b.val] w fun e w'=>e=returned (a.then b).val∧NwIs w0 w' nb (n.link a.last b.first)∧StayS w w':=by
 have hw:w0.heap.size<=w.heap.size:=by obtain⟨_,_,_,_,_,h⟩:=h;exact h.keep.size
 have HLK:Hid (∀w2,NwIs w0 w2 nb n->Ca 166 #[pointer (some ⟨nb,0,none⟩),int i64 (a.last:Int),int i64 (b.first:Int)] w2 fun e w'=>e=returned (tuple #[])∧NwIs w0 w' nb (n.link a.last b.first)∧StayS w2 w'):=fun w2 h2=>zE8 w0 w2 nb n h2 hl hf a.last b.first ha.last hb.first
 obtain⟨w3,hw3,HT⟩:∃w3,w3=((w.alloc (.cells a.cells 167)).alloc (.cells b.cells 167)).alloc (.cells (Sn.mk 0 0 false).cells 167)∧Three w0 w w3 nb n a b ⟨0,0,false⟩:=⟨_,rfl,Three.start h hw a b⟩
 have l1:a.first<16777216:=ha.first
 have l2:a.last<16777216:=ha.last;have l3:b.first<16777216:=hb.first
 have l4:b.last<16777216:=hb.last;obtain⟨af,al,ae⟩:=a;obtain⟨bf,bl,be⟩:=b;have l1':af<16777216:=l1;have l2':al<16777216:=l2;have l3':bf<16777216:=l3;have l4':bl<16777216:=l4;have hor1:bits .or i64 (af:Int) (bf:Int)=((af|||bf:Nat):Int):=yO _ _ (by omega) (by omega);have hor2:bits .or i64 (bl:Int) (al:Int)=((bl|||al:Nat):Int):=yO _ _ (by omega) (by omega);obtain⟨y0,y1,y2,y3,y4,y5,y6,y7,y8⟩:=HT.at
 show Calls prog 164 #[pointer (some ⟨nb,0,none⟩),agg #[int i64 (af:Int),int i64 (al:Int),bool ae],agg #[int i64 (bf:Int),int i64 (bl:Int),bool be]] w _;go_in;apply wp_cut;intro K0 J;go_wp2;apply J.out;clear J;have hw4:w3=((w.alloc (Obj.cells #[int i64 (af:Int),int i64 (al:Int),bool ae] 167)).alloc (Obj.cells #[int i64 (bf:Int),int i64 (bl:Int),bool be] 167)).alloc (Obj.cells #[int i64 0,int i64 0,bool false] 167):=hw3;rw[<-hw4];clear hw3 hw4;rcases ae with _|_ <;> rcases be with _|_
 ·have HT3:=vl HT
  clear HT;go_wp2_with (first|(go_at_call 166;refine(HLK.out w3 HT3.out.net).mono ?_;rintro e w4 ⟨rfl,hM5,hS5⟩;have T4:=HT3.out.call hM5 hS5;obtain⟨p0,p1,p2,p3,p4,p5,p6,p7,p8⟩:=T4.at;obtain⟨f0,f1,f2⟩:=T4.fz 0;obtain⟨f3,f4,f5⟩:=T4.fz 1;obtain⟨f6,f7,f8⟩:=T4.fz 2;have T7:=T4.setC ⟨af,bl,false⟩;obtain⟨z0,z1,z2,z3,z4,z5,z6,z7,z8⟩:=T7.at))
  refine dZ (v:=agg #[int i64 ((af:Nat):Int),int i64 ((bl:Nat):Int),bool false]) (by simp[results,results164,go_sem,z6,z7,z8]) rfl ?_;exact⟨rfl,T7.net,T7.stay⟩
 ·have HT3:=vl HT
  clear HT;go_wp2_with (first|(go_at_call 166;refine(HLK.out w3 HT3.out.net).mono ?_;rintro e w4 ⟨rfl,hM5,hS5⟩;have T4:=HT3.out.call hM5 hS5;obtain⟨p0,p1,p2,p3,p4,p5,p6,p7,p8⟩:=T4.at;obtain⟨f0,f1,f2⟩:=T4.fz 0;obtain⟨f3,f4,f5⟩:=T4.fz 1;obtain⟨f6,f7,f8⟩:=T4.fz 2;have T6:=T4.setB (bl|||al);obtain⟨v0,v1,v2,v3,v4,v5,v6,v7,v8⟩:=T6.at;obtain⟨h0,h1,h2⟩:=T6.fz 0;obtain⟨h3,h4,h5⟩:=T6.fz 1;obtain⟨h6,h7,h8⟩:=T6.fz 2;have T7:=T6.setC ⟨af,bl|||al,false⟩;obtain⟨z0,z1,z2,z3,z4,z5,z6,z7,z8⟩:=T7.at))
  refine dZ (v:=agg #[int i64 ((af:Nat):Int),int i64 ((bl|||al:Nat):Int),bool false]) (by simp[results,results164,go_sem,z6,z7,z8]) rfl ?_;exact⟨rfl,T7.net,T7.stay⟩
 ·have HT3:=vl HT
  clear HT;go_wp2_with (first|(go_at_call 166;refine(HLK.out w3 HT3.out.net).mono ?_;rintro e w4 ⟨rfl,hM5,hS5⟩;have T4:=HT3.out.call hM5 hS5;obtain⟨p0,p1,p2,p3,p4,p5,p6,p7,p8⟩:=T4.at;obtain⟨f0,f1,f2⟩:=T4.fz 0;obtain⟨f3,f4,f5⟩:=T4.fz 1;obtain⟨f6,f7,f8⟩:=T4.fz 2;have T5:=T4.setA (af|||bf);obtain⟨s0,s1,s2,s3,s4,s5,s6,s7,s8⟩:=T5.at;obtain⟨g0,g1,g2⟩:=T5.fz 0;obtain⟨g3,g4,g5⟩:=T5.fz 1;obtain⟨g6,g7,g8⟩:=T5.fz 2;have T7:=T5.setC ⟨af|||bf,bl,false⟩;obtain⟨z0,z1,z2,z3,z4,z5,z6,z7,z8⟩:=T7.at))
  refine dZ (v:=agg #[int i64 ((af|||bf:Nat):Int),int i64 ((bl:Nat):Int),bool false]) (by simp[results,results164,go_sem,z6,z7,z8]) rfl ?_;exact⟨rfl,T7.net,T7.stay⟩
 ·have HT3:=vl HT
  clear HT;go_wp2_with (first|(go_at_call 166;refine(HLK.out w3 HT3.out.net).mono ?_;rintro e w4 ⟨rfl,hM5,hS5⟩;have T4:=HT3.out.call hM5 hS5;obtain⟨p0,p1,p2,p3,p4,p5,p6,p7,p8⟩:=T4.at;obtain⟨f0,f1,f2⟩:=T4.fz 0;obtain⟨f3,f4,f5⟩:=T4.fz 1;obtain⟨f6,f7,f8⟩:=T4.fz 2;have T5:=T4.setA (af|||bf);obtain⟨s0,s1,s2,s3,s4,s5,s6,s7,s8⟩:=T5.at;obtain⟨g0,g1,g2⟩:=T5.fz 0;obtain⟨g3,g4,g5⟩:=T5.fz 1;obtain⟨g6,g7,g8⟩:=T5.fz 2;have T6:=T5.setB (bl|||al);obtain⟨v0,v1,v2,v3,v4,v5,v6,v7,v8⟩:=T6.at;obtain⟨h0,h1,h2⟩:=T6.fz 0;obtain⟨h3,h4,h5⟩:=T6.fz 1;obtain⟨h6,h7,h8⟩:=T6.fz 2;have T7:=T6.setC ⟨af|||bf,bl|||al,true⟩;obtain⟨z0,z1,z2,z3,z4,z5,z6,z7,z8⟩:=T7.at))
  refine dZ (v:=agg #[int i64 ((af|||bf:Nat):Int),int i64 ((bl|||al:Nat):Int),bool true]) (by simp[results,results164,go_sem,z6,z7,z8]) rfl ?_;exact⟨rfl,T7.net,T7.stay⟩
section
attribute [local go_sem ↓] Go.wp_at_zero Go.wp_at_succ
theorem zNn:(prog.info? 161).map (fun i=>(i.zero,i.size,i.bytes))=some (some (agg #[slice none 0 0,bool false]),2,32):=by kernel_rfl
section
variable {w0 w w2:World} {nb:Nat} {n:Nt} {sv fv rv ev:Value} {ps:List (Value×Bool)}
theorem Nw.addSet {o:Obj}{g cap m:Nat}{u:Value}{c:Cs}(h:Nw w0 w nb n sv fv rv ev ps)(hm:m=n.sets.length)(hc:RangesAt w0 u c.ranges)(hown:w2.ownsRow w0.heap.size 161 2 (slice (some ⟨g,0,none⟩) (m+1) cap) (m+1) (vX ps++[u,bool c.others]))(hg:(w.alloc o).grownBy w2 sv.ownBlock)(hat:sv.ownBlock=some g∨w.heap.size<=g):
  Nw w0 (w2.setCell ⟨nb,0,none⟩ (slice (some ⟨g,0,none⟩) (m+1) cap)) nb {n with sets:=n.sets++[c]} (slice (some ⟨g,0,none⟩) (m+1) cap) fv rv ev (ps++[(u,c.others)])∧StayS w (w2.setCell ⟨nb,0,none⟩ (slice (some ⟨g,0,none⟩) (m+1) cap)):=by
 subst hm;have hbx:=h.box;have hlt:=h.lt;have hbl:∀j,j<w.heap.size->some j≠sv.ownBlock->w2.heap[j]? =w.heap[j]? :=fun j hj hf=>(hg.block j (by simp;omega) hf).trans (lG _ _ _ (by omega));have hsz:w.heap.size<=w2.heap.size:=lY (by simp) hg.size;have hb:=(hbl nb hlt hbx.1).trans h.blk;have e:∀k,k≠nb->(w2.setCell ⟨nb,0,none⟩ (slice (some ⟨g,0,none⟩) (n.sets.length+1) cap)).heap[k]? =w2.heap[k]? :=fun k hk=>lJ _ _ _ _ hk;have hf2:=zR hg h.fOwn fun k hk=>xN h.fOwn h.sOwn (by decide) hk;have hr2:=zR hg h.rOwn fun k hk=>xN h.rOwn h.sOwn (by decide) hk;have he2:=zR hg h.eOwn fun k hk=>xN h.eOwn h.sOwn (by decide) hk;have hgm:nb≠g:=fun e2=>by
  rcases hat with ha|ha
  ·exact hbx.1 (by rw[ha,e2])
  ·omega
 have hpl:=h.plen;have hlen:(n.sets++[c]).length=n.sets.length+1:=by simp
 refine⟨⟨by simp[setCell,lU,hb],?_,by simp[hpl],fun i hi=>?_,zD hf2 fun k _ _ hk=>e k fun e2=>hbx.2.1 (by rw[hk,e2]),zD hr2 fun k _ _ hk=>e k fun e2=>hbx.2.2.1 (by rw[hk,e2]),zD he2 fun k _ _ hk=>e k fun e2=>hbx.2.2.2 (by rw[hk,e2]),h.fr,h.nH,h.keep.trans ⟨hg.os,hg.output,by rw[zC];exact hsz,fun k hk _=>(e k (by have:=h.nH;omega)).trans (hbl k (by have:=h.keep.size;omega) fun e2=>by have:=(h.sOwn.lt k e2.symm).1;omega)⟩⟩,fun k cc hk=>?_⟩
 ·show World.ownsRow _ _ _ _ _ (n.sets++[c]).length (vX (ps++[(u,c.others)]))
  rw[hlen,zGL];exact zD hown fun k _ _ hk=>e k fun e2=>by
   have:g=k:=by simpa[Value.ownBlock] using hk
   omega
 ·have hi':i<(n.sets++[c]).length:=hi
  show RangesAt w0 ((ps++[(u,c.others)]).getD i (undef,false)).1 ((n.sets++[c]).getD i ⟨[],false⟩).ranges∧((ps++[(u,c.others)]).getD i (undef,false)).2=((n.sets++[c]).getD i ⟨[],false⟩).others;by_cases e3:i=n.sets.length
  ·rw[lW,gQ (by omega),show i-ps.length=0 by omega,lW,gQ (by omega),show i-n.sets.length=0 by omega]
   exact⟨hc,rfl⟩
  ·rw[lW,kW (by omega),lW,kW (by omega),<-lW,<-lW]
   exact h.each i (by omega)
 ·have hl:=(kQ.1 hk).1
  have hkm:k≠nb:=fun e2=>by
   rw[e2,h.blk] at hk;injection hk with hk;injection hk with _ hk;exact absurd hk (by decide)
  exact(e k hkm).trans ((hbl k hl (zM h.sOwn hk (by decide))).trans hk)
theorem Nw.addFollow {o:Obj}{g cap m x:Nat}(h:Nw w0 w nb n sv fv rv ev ps)(hm:m=n.follow.length)(hown:w2.ownsRow w0.heap.size 3 1 (slice (some ⟨g,0,none⟩) (m+1) cap) (m+1) (((ints n.follow).map fun x=>int i64 x)++[int i64 (x:Int)]))(hg:(w.alloc o).grownBy w2 fv.ownBlock)(hat:fv.ownBlock=some g∨w.heap.size<=g):
  Nw w0 (w2.setCell ⟨nb,1,none⟩ (slice (some ⟨g,0,none⟩) (m+1) cap)) nb {n with follow:=n.follow++[x]} sv (slice (some ⟨g,0,none⟩) (m+1) cap) rv ev ps∧StayS w (w2.setCell ⟨nb,1,none⟩ (slice (some ⟨g,0,none⟩) (m+1) cap)):=by
 subst hm;have hbx:=h.box;have hlt:=h.lt;have hbl:∀j,j<w.heap.size->some j≠fv.ownBlock->w2.heap[j]? =w.heap[j]? :=fun j hj hf=>(hg.block j (by simp;omega) hf).trans (lG _ _ _ (by omega));have hsz:w.heap.size<=w2.heap.size:=lY (by simp) hg.size;have hb:=(hbl nb hlt hbx.2.1).trans h.blk;have e:∀k,k≠nb->(w2.setCell ⟨nb,1,none⟩ (slice (some ⟨g,0,none⟩) (n.follow.length+1) cap)).heap[k]? =w2.heap[k]? :=fun k hk=>lJ _ _ _ _ hk;have hs2:=zR hg h.sOwn fun k hk=>xN h.sOwn h.fOwn (by decide) hk;have hr2:=zR hg h.rOwn fun k hk e2=>h.fr k e2.symm hk.symm;have he2:=zR hg h.eOwn fun k hk=>xN h.eOwn h.fOwn (by decide) hk;have hgm:nb≠g:=fun e2=>by
  rcases hat with ha|ha
  ·exact hbx.2.1 (by rw[ha,e2])
  ·omega
 have hO1:OwnI w2 w0.heap.size (slice (some ⟨g,0,none⟩) (n.follow.length+1) cap) (ints (n.follow++[x])):=by
  rw[zA6];have:=zN n.follow;have h2:=OwnI.snoc (l:=ints n.follow) (x:=(x:Int)) (by rw[this];exact hown);rw[this] at h2;exact h2
 refine⟨⟨by simp[setCell,lU,hb],zD hs2 fun k _ _ hk=>e k fun e2=>hbx.1 (by rw[hk,e2]),h.plen,h.each,zD hO1 fun k _ _ hk=>e k fun e2=>?_,zD hr2 fun k _ _ hk=>e k fun e2=>hbx.2.2.1 (by rw[hk,e2]),zD he2 fun k _ _ hk=>e k fun e2=>hbx.2.2.2 (by rw[hk,e2]),yX h.rOwn h.fr hat,h.nH,h.keep.trans ⟨hg.os,hg.output,by rw[zC];exact hsz,fun k hk _=>(e k (by have:=h.nH;omega)).trans (hbl k (by have:=h.keep.size;omega) fun e2=>by have:=(h.fOwn.lt k e2.symm).1;omega)⟩⟩,fun k cc hk=>?_⟩
 ·have:g=k:=by simpa[Value.ownBlock] using hk
  omega
 ·have hl:=(kQ.1 hk).1
  have hkm:k≠nb:=fun e2=>by
   rw[e2,h.blk] at hk;injection hk with hk;injection hk with _ hk;exact absurd hk (by decide)
  exact(e k hkm).trans ((hbl k hl (zM h.fOwn hk (by decide))).trans hk)
end
def Nt.place (n:Nt)(c:Cs):Nt:={n with sets:=n.sets++[c],follow:=n.follow++[0]}
def Nt.spot (n:Nt):Sn:=⟨2^n.sets.length,2^n.sets.length,false⟩
end
section
attribute [local go_sem ↓] Go.wp_at_zero Go.wp_at_succ
theorem zH2 (w0 w:World)(nb:Nat)(n:Nt)(h:NwIs w0 w nb n)(hl:n.sets.length<=24)(hl2:n.follow.length<=24)(u:Value)(c:Cs)(hc:RangesAt w0 u c.ranges):
  Calls prog 123 #[pointer (some ⟨nb,0,none⟩),agg #[u,bool c.others]] w fun e w'=>e=returned n.spot.val∧NwIs w0 w' nb (n.place c)∧StayS w w':=by
 obtain⟨i0,hi0,hz0,hz1,hz2⟩:=info_parts yL;obtain⟨is_,his,hs0,hs1,hs2⟩:=info_parts zNn;obtain⟨sv,fv,rv,ev,ps,h⟩:=h;obtain⟨au,cu,hu,-⟩:=id hc;obtain⟨w1,hw1,HN1,HS1,y0,y1,HB2⟩:∃w1,w1=(w.alloc (.cells #[u,bool c.others] 161)).alloc (.cells #[int i64 0,int i64 0,bool false] 167)∧Hid (Nw w0 w1 nb n sv fv rv ev ps)∧Hid (StayS w w1∧w1.heap.size=w.heap.size+1+1)∧w1.cell? ⟨w.heap.size,0,none⟩=some u∧w1.cell? ⟨w.heap.size,1,none⟩=some (bool c.others)∧Hid (w1.heap[w.heap.size+1]? =some (.cells #[int i64 0,int i64 0,bool false] 167)):=by
  have k1:=kZ (b:=w.heap.size) w (.cells #[u,bool c.others] 161) lQ;have k2:=kZ (b:=(w.alloc (.cells #[u,bool c.others] 161)).heap.size) (w.alloc (.cells #[u,bool c.others] 161)) (.cells #[int i64 0,int i64 0,bool false] 167) lQ;have s1:(w.alloc (.cells #[u,bool c.others] 161)).heap.size=w.heap.size+1:=by simp
  have hb:((w.alloc (.cells #[u,bool c.others] 161)).alloc (.cells #[int i64 0,int i64 0,bool false] 167)).heap[w.heap.size]? =some (.cells #[u,bool c.others] 161):=(lG _ _ _ (by rw[s1];omega)).trans (gJ _ _);refine⟨_,rfl,(h.grown k1).grown k2,⟨k1.stayS.trans k2.stayS,by simp⟩,?_,?_,?_⟩
  ·unfold cell?;rw[hb];rfl
  ·unfold cell?;rw[hb];rfl
  ·have:=gJ (w.alloc (.cells #[u,bool c.others] 161)) (.cells #[int i64 0,int i64 0,bool false] 167)
   rw[s1] at this;exact this
 obtain⟨asv,csv,hsv⟩:=zG h.sOwn;obtain⟨af,cf,hfv⟩:=h.fOwn.form;rw[zN] at hfv;have hplen:=h.plen;have hH:w0.heap.size<=w.heap.size:=h.keep.size;subst hsv hfv;have x0:=HN1.out.cells.1;have xf0:=HN1.out.cells.2.2.2.2.2.2 0;have hlt1:=HN1.out.lt;have hH1:w0.heap.size<=w1.heap.size:=HN1.out.keep.size;have HNP:=vl HN1.out.box.1;have OW:w1.ownsRow w0.heap.size 161 2 (slice asv n.sets.length csv) n.sets.length (vX ps):=HN1.out.sOwn;have hpw:=zE2 n.sets.length (by omega);have HRC:=vl hc;have HSP:Hid (n.spot.val=agg #[int i64 ((2^n.sets.length:Nat):Int),int i64 ((2^n.sets.length:Nat):Int),bool false]):=rfl;generalize hP:2^n.sets.length=P at *;generalize c.ranges.length=rl at *;subst hu;have lb0:w.heap.size<w1.heap.size:=by rw[HS1.out.2];omega
 go_in;apply wp_cut;intro K0 J;go_wp2;apply J.out;rw[<-hw1];clear hw1;go_wp2;go_region_law ((refine step_append_lies _ (by rfl) (.tmp 16) (.tmp 18) 130 (by rfl) w0.heap.size 161 is_ _ 2 32 underlying130 his hs0 hs1 hs2 rfl (by decide) (slice asv n.sets.length csv) n.sets.length (vX ps) (by simp[Act.eval,Act.put]) ((OW.alloc _).drew) ⟨w1.heap.size,0,none⟩ 1 1 [slice au rl cu,bool c.others] (by simp[Act.eval,Act.put]) (by rfl) (news_of_block (cs:=#[slice au rl cu,bool c.others]) (t:=161) (fr:=(0,0)) (gJ w1 _)) (by simp[Value.oneCell']) (by decide) (by unfold maxLen;omega) (by omega) (by simp;omega) (w1.heap.size+1) (by simp) ?_;intro gg cap w2 hown hgrow hat hlt;have hPB:=hgrow.block nb (by simp;omega) HNP.out;have x0b:w2.cell? ⟨nb,0,none⟩=some (slice asv n.sets.length csv):=(gG hPB).trans ((dX _ _ _ hlt1).trans x0);have xf0b:w2.frozen? ⟨nb,0,none⟩=false:=(dQ hPB).trans ((frozen?_alloc_past _ _ _ hlt1).trans xf0)))
 all_goals
  have hgrow':(w1.drew.alloc (Obj.cells #[Value.slice au rl cu,Value.bool c.others] 161)).grownBy w2 (Value.slice asv n.sets.length csv).ownBlock:=hgrow;have HN3:=vl <| (HN1.out.grown (Keep.drew _)).addSet rfl HRC.out hown hgrow' (by
   rcases hat with ha|ha
   ·exact .inl ha
   ·right;show w1.heap.size<=gg;omega)
  clear hown hgrow hgrow' hat hlt hPB x0b xf0b OW x0 xf0 y0 y1;generalize w2.setCell ⟨nb,0,none⟩ (slice (some ⟨gg,0,none⟩) (n.sets.length+1) cap)=w3 at *;have v1:=HN3.out.1.cells.2.1;have hl3:=HN3.out.1.lt;have hH3:w0.heap.size<=w3.heap.size:=HN3.out.1.keep.size;have OF:w3.ownsRow w0.heap.size 3 1 (slice af n.follow.length cf) n.follow.length ((ints n.follow).map fun x=>int i64 x):=by
   have:=HN3.out.1.fOwn;unfold OwnI at this;rw[zN] at this;exact this
  go_wp2_with (first|(at_builtin;refine wpList_append_lies _ rfl _ _ 45 rfl (w0.heap.size) 3 i0 (int i64 0) 1 8 underlying45 hi0 hz0 hz1 hz2 rfl (by decide) _ _ _ rfl (OF.alloc _) ⟨w3.heap.size,0,none⟩ 1 1 [int i64 0] rfl rfl (cell_one_new _ _ _) (by intro u hu;simp at hu;subst hu;rfl) (by decide) (by unfold maxLen;omega) (by omega) (by simp;omega) _ rfl ?_;intro g2 cap2 w4 hown2 hgrow2 hat2 hlt2;have hPB2:w4.heap[nb]? =w3.heap[nb]? :=(hgrow2.block _ (by simp;omega) HN3.out.1.box.2.1).trans (lG _ _ _ (by omega));have t1:w4.cell? ⟨nb,1,none⟩=some (slice af n.follow.length cf):=(gG hPB2).trans v1;have g1:w4.frozen? ⟨nb,1,none⟩=false:=(dQ hPB2).trans (HN3.out.1.cells.2.2.2.2.2.2 1);have HN5:=HN3.out.1.addFollow (x:=0) rfl hown2 hgrow2 (by rcases hat2 with ha|ha;exact .inl ha;right;rw[ha];simp);have hsp:=HN5.2 _ _ (HN3.out.2 _ _ HB2.out);have HN6:=vl HN5;have HSP5:=vl hsp;have r0:(w4.setCell ⟨nb,1,none⟩ (slice (some ⟨g2,0,none⟩) (n.follow.length+1) cap2)).cell? ⟨w.heap.size+1,0,none⟩=some (int i64 0):=(by unfold cell?;rw[hsp];rfl);have r1:(w4.setCell ⟨nb,1,none⟩ (slice (some ⟨g2,0,none⟩) (n.follow.length+1) cap2)).cell? ⟨w.heap.size+1,1,none⟩=some (int i64 0):=(by unfold cell?;rw[hsp];rfl);have r2:(w4.setCell ⟨nb,1,none⟩ (slice (some ⟨g2,0,none⟩) (n.follow.length+1) cap2)).cell? ⟨w.heap.size+1,2,none⟩=some (bool false):=(by unfold cell?;rw[hsp];rfl);have q0:(w4.setCell ⟨nb,1,none⟩ (slice (some ⟨g2,0,none⟩) (n.follow.length+1) cap2)).frozen? ⟨w.heap.size+1,0,none⟩=false:=(by unfold frozen?;rw[hsp];rfl);have q1:(w4.setCell ⟨nb,1,none⟩ (slice (some ⟨g2,0,none⟩) (n.follow.length+1) cap2)).frozen? ⟨w.heap.size+1,1,none⟩=false:=(by unfold frozen?;rw[hsp];rfl);have q2:(w4.setCell ⟨nb,1,none⟩ (slice (some ⟨g2,0,none⟩) (n.follow.length+1) cap2)).frozen? ⟨w.heap.size+1,2,none⟩=false:=(by unfold frozen?;rw[hsp];rfl);clear HN5 hsp))
  obtain⟨w9,hw9,c0,c1,c2,K9⟩:∃w9,w9=(((w4.setCell ⟨nb,1,none⟩ (slice (some ⟨g2,0,none⟩) (n.follow.length+1) cap2)).setCell ⟨w.heap.size+1,0,none⟩ (int i64 (P:Int))).setCell ⟨w.heap.size+1,1,none⟩ (int i64 (P:Int))).setCell ⟨w.heap.size+1,2,none⟩ (bool false)∧w9.cell? ⟨w.heap.size+1,0,none⟩=some (int i64 (P:Int))∧w9.cell? ⟨w.heap.size+1,1,none⟩=some (int i64 (P:Int))∧w9.cell? ⟨w.heap.size+1,2,none⟩=some (bool false)∧Hid (NwIs w0 w9 nb (n.place c)∧StayS w w9):=by
   have hk:=HN6.out;have hb0:=HSP5.out;generalize w4.setCell ⟨nb,1,none⟩ (slice (some ⟨g2,0,none⟩) (n.follow.length+1) cap2)=w5 at *;have b1:(w5.setCell ⟨w.heap.size+1,0,none⟩ (int i64 (P:Int))).heap[w.heap.size+1]? =some (.cells #[int i64 (P:Int),int i64 0,bool false] 167):=by simp[setCell,lU,hb0]
   have n1:NwIs w0 (w5.setCell ⟨w.heap.size+1,0,none⟩ (int i64 (P:Int))) nb (n.place c):=NwIs.setSpan ⟨_,_,_,_,_,hk.1⟩ hb0 (by omega);have t1:StayS w (w5.setCell ⟨w.heap.size+1,0,none⟩ (int i64 (P:Int))):=jJ ((HS1.out.1.trans HN3.out.2).trans hk.2) (by omega);generalize w5.setCell ⟨w.heap.size+1,0,none⟩ (int i64 (P:Int))=w6 at *;have b2:(w6.setCell ⟨w.heap.size+1,1,none⟩ (int i64 (P:Int))).heap[w.heap.size+1]? =some (.cells #[int i64 (P:Int),int i64 (P:Int),bool false] 167):=by simp[setCell,lU,b1]
   have n2:NwIs w0 (w6.setCell ⟨w.heap.size+1,1,none⟩ (int i64 (P:Int))) nb (n.place c):=n1.setSpan b1 (by omega);have t2:StayS w (w6.setCell ⟨w.heap.size+1,1,none⟩ (int i64 (P:Int))):=jJ t1 (by omega);generalize w6.setCell ⟨w.heap.size+1,1,none⟩ (int i64 (P:Int))=w7 at *;have b3:(w7.setCell ⟨w.heap.size+1,2,none⟩ (bool false)).heap[w.heap.size+1]? =some (.cells #[int i64 (P:Int),int i64 (P:Int),bool false] 167):=by simp[setCell,lU,b2]
   refine⟨_,rfl,?_,?_,?_,n2.setSpan b2 (by omega),jJ t2 (by omega)⟩
   ·unfold cell?;rw[b3];rfl
   ·unfold cell?;rw[b3];rfl
   ·unfold cell?;rw[b3];rfl
  rw[<-hw9];clear hw9;refine dZ (v:=agg #[int i64 (P:Int),int i64 (P:Int),bool false]) (by simp[results,results123,go_sem,c0,c1,c2]) rfl ?_;exact⟨by rw[HSP.out],K9.out.1,K9.out.2⟩
end
structure Tr where
 kind:Nat
 set:Cs
 parts:List Tr
 least:Nat
 most:Nat
 endless:Bool
 chars:Nat
def Tr.none:Tr:=⟨0,⟨[],false⟩,[],0,0,false,0⟩
def Tr.copies (t:Tr):Nat:=if t.endless then(if t.least=0 then 1 else t.least) else t.most
def TreeAt (w:World):Nat->Nat->Tr->Prop
 |0,_,_=>False
 |d+1,b,t=>b<w.heap.size∧∃rv pv,w.heap[b]? =some (.cells #[int i64 (t.kind:Int),rv,bool t.set.others,pv,int i64 (t.least:Int),int i64 (t.most:Int),bool t.endless,int i64 (t.chars:Int)] 165)∧RangesAt w rv t.set.ranges∧
   ∃ao cap,pv=slice ao t.parts.length cap∧(t.parts.length<=cap∧t.parts.length<=1000000000000∧t.least<=1000∧t.most<=1000)∧cap<=maxLen∧∀i,i<t.parts.length->∃g o p,ao=some ⟨g,o,none⟩∧In w g∧w.cell? ⟨g,o+i,none⟩=some (pointer (some ⟨p,0,none⟩))∧TreeAt w d p (t.parts.getD i Tr.none)
abbrev Lay:=Nt->Tr->Nt×Sn
def rowTo (sub:Lay)(n:Nt)(parts:List Tr):Nat->Nt×Sn
 |0=>(n,⟨0,0,true⟩)
 |j+1=>((sub (rowTo sub n parts j).1 (parts.getD j Tr.none)).1.link (rowTo sub n parts j).2.last (sub (rowTo sub n parts j).1 (parts.getD j Tr.none)).2.first,(rowTo sub n parts j).2.then (sub (rowTo sub n parts j).1 (parts.getD j Tr.none)).2)
def Sn.or (a b:Sn):Sn:=⟨a.first|||b.first,a.last|||b.last,a.empty||b.empty⟩
def jB (sub:Lay)(n:Nt)(parts:List Tr):Nat->Nt×Sn
 |0=>(n,⟨0,0,false⟩)
 |j+1=>((sub (jB sub n parts j).1 (parts.getD j Tr.none)).1,(jB sub n parts j).2.or (sub (jB sub n parts j).1 (parts.getD j Tr.none)).2)
def zAq (t:Tr)(j:Nat)(q:Nt×Sn):Nt:=if t.endless&&(j+1==t.copies) then q.1.link q.2.last q.2.first else q.1
def zA4 (t:Tr)(j:Nat)(q:Nt×Sn):Sn:=if t.least<=j then{q.2 with empty:=true} else q.2
def xT (sub:Lay)(n:Nt)(t:Tr):Nat->Nt×Sn
 |0=>(n,⟨0,0,true⟩)
 |j+1=>((zAq t j (rowTo sub (xT sub n t j).1 t.parts t.parts.length)).link (xT sub n t j).2.last (zA4 t j (rowTo sub (xT sub n t j).1 t.parts t.parts.length)).first,(xT sub n t j).2.then (zA4 t j (rowTo sub (xT sub n t j).1 t.parts t.parts.length)))
def xC:Nat->Lay
 |0,n,_=>(n,⟨0,0,true⟩)
 |d+1,n,t=>if t.kind=1 then(n.place t.set,n.spot) else if t.kind=2 then rowTo (xC d) n t.parts t.parts.length else if t.kind=3 then jB (xC d) n t.parts t.parts.length else if t.kind=4 then xT (xC d) n t t.copies else(n,⟨0,0,true⟩)
def zW (f:Tr->Nat)(parts:List Tr):Nat->Nat
 |0=>0
 |j+1=>zW f parts j+f (parts.getD j Tr.none)
def yQ:Nat->Tr->Nat
 |0,_=>0
 |d+1,t=>if t.kind=1 then 1 else if t.kind=2∨t.kind=3 then zW (yQ d) t.parts t.parts.length else if t.kind=4 then t.copies*zW (yQ d) t.parts t.parts.length else 0
structure Nt.Good (n:Nt):Prop where
 len:n.sets.length<=24
 same:n.follow.length=n.sets.length
 fol:∀x∈n.follow,x<2^n.sets.length
theorem Nt.Good.top {n:Nt}(h:n.Good):∀x∈n.follow,x<2^24:=fun x hx=>lZ (h.fol x hx) (kG (by omega) h.len)
theorem Sn.Small.up {s:Sn}{k m:Nat}(h:s.Small k)(hk:k<=m):s.Small m:=⟨lZ h.first (kG (by omega) hk),lZ h.last (kG (by omega) hk)⟩
theorem zBQ (n:Nt)(a b j:Nat):(n.linkTo a b j).sets=n.sets∧(n.linkTo a b j).rules=n.rules∧(n.linkTo a b j).empty=n.empty∧(n.linkTo a b j).first=n.first∧(n.linkTo a b j).ends=n.ends:=by
 induction j with
 |zero=>exact⟨rfl,rfl,rfl,rfl,rfl⟩
 |succ j ih=>
  unfold Nt.linkTo;split
  ·exact ih
  ·exact ih
theorem zCd {n:Nt}(h:n.Good)(a b:Nat)(hb:b<2^n.sets.length):(n.link a b).Good∧(n.link a b).sets=n.sets:=by
 have e:=(zBQ n a b n.follow.length).1;refine⟨⟨by unfold Nt.link;rw[e];exact h.len,by unfold Nt.link;rw[e,zE9];exact h.same,?_⟩,e⟩;unfold Nt.link;rw[e];exact zC7 a b _ hb h.fol
theorem zI9 {n:Nt}(h:n.Good)(c:Cs)(hl:n.sets.length+1<=24):(n.place c).Good∧(n.place c).sets.length=n.sets.length+1∧n.spot.Small (n.sets.length+1):=by
 have e:(n.place c).sets.length=n.sets.length+1:=by simp[Nt.place]
 have hp:2^n.sets.length<2^(n.sets.length+1):=Nat.pow_lt_pow_right (by omega) (by omega);refine⟨⟨by omega,by simp[Nt.place,h.same],fun x hx=>?_⟩,e,⟨hp,hp⟩⟩;rw[e];rcases kU.1 hx with h1|h1
 ·exact Nat.lt_trans (h.fol x h1) hp
 ·rw[kY.1 h1];exact Nat.pow_pos (by omega)
def Lays (sub:Lay)(cnt:Tr->Nat):Prop:=∀n t,n.Good->n.sets.length+cnt t<=24->(sub n t).1.Good∧(sub n t).1.sets.length=n.sets.length+cnt t∧(sub n t).2.Small (n.sets.length+cnt t)
theorem zAB (k:Nat)(e:Bool):(Sn.mk 0 0 e).Small k:=⟨Nat.pow_pos (by omega),Nat.pow_pos (by omega)⟩
theorem zCK (f:Tr->Nat)(parts:List Tr)(j m:Nat)(h:j<=m):zW f parts j<=zW f parts m:=by
 induction m with
 |zero=>rw[Nat.le_zero.1 h];exact lQ
 |succ m ih=>
  by_cases e:j=m+1
  ·rw[e];exact lQ
  ·exact lY (ih (by omega)) (Nat.le_add_right _ _)
theorem zAC {sub:Lay}{cnt:Tr->Nat}(h:Lays sub cnt){n:Nt}(hn:n.Good)(parts:List Tr)(j:Nat)(hl:n.sets.length+zW cnt parts j<=24):(rowTo sub n parts j).1.Good∧(rowTo sub n parts j).1.sets.length=n.sets.length+zW cnt parts j∧(rowTo sub n parts j).2.Small (n.sets.length+zW cnt parts j):=by
 induction j with
 |zero=>exact⟨hn,rfl,zAB _ _⟩
 |succ j ih=>
  have hl2:n.sets.length+(zW cnt parts j+cnt (parts.getD j Tr.none))<=24:=hl;obtain⟨h1,h2,h3⟩:=ih (by omega);obtain⟨g1,g2,g3⟩:=h _ (parts.getD j Tr.none) h1 (by omega);rw[h2] at g2 g3;have e:n.sets.length+zW cnt parts (j+1)=n.sets.length+zW cnt parts j+cnt (parts.getD j Tr.none):=by show n.sets.length+(zW cnt parts j+cnt (parts.getD j Tr.none))=_;omega
  rw[e];have k1:=zCd g1 (rowTo sub n parts j).2.last _ (by rw[g2];exact g3.first);exact⟨k1.1,by show((sub _ _).1.link _ _).sets.length=_;rw[k1.2];exact g2,Sn.then_small (h3.up (by omega)) g3⟩
theorem zBU {sub:Lay}{cnt:Tr->Nat}(h:Lays sub cnt){n:Nt}(hn:n.Good)(parts:List Tr)(j:Nat)(hl:n.sets.length+zW cnt parts j<=24):(jB sub n parts j).1.Good∧(jB sub n parts j).1.sets.length=n.sets.length+zW cnt parts j∧(jB sub n parts j).2.Small (n.sets.length+zW cnt parts j):=by
 induction j with
 |zero=>exact⟨hn,rfl,zAB _ _⟩
 |succ j ih=>
  have hl2:n.sets.length+(zW cnt parts j+cnt (parts.getD j Tr.none))<=24:=hl;obtain⟨h1,h2,h3⟩:=ih (by omega);obtain⟨g1,g2,g3⟩:=h _ (parts.getD j Tr.none) h1 (by omega);rw[h2] at g2 g3;have e:n.sets.length+zW cnt parts (j+1)=n.sets.length+zW cnt parts j+cnt (parts.getD j Tr.none):=by show n.sets.length+(zW cnt parts j+cnt (parts.getD j Tr.none))=_;omega
  rw[e];have h4:=h3.up (m:=n.sets.length+zW cnt parts j+cnt (parts.getD j Tr.none)) (by omega);exact⟨g1,g2,⟨Nat.or_lt_two_pow h4.first g3.first,Nat.or_lt_two_pow h4.last g3.last⟩⟩
theorem zIg {t:Tr}{j k:Nat}{q:Nt×Sn}(h:q.2.Small k):(zA4 t j q).Small k:=by
 unfold zA4;split
 ·exact⟨h.first,h.last⟩
 ·exact h
theorem zBu {sub:Lay}{cnt:Tr->Nat}(h:Lays sub cnt){n:Nt}(hn:n.Good)(t:Tr)(j:Nat)(hl:n.sets.length+j*zW cnt t.parts t.parts.length<=24):(xT sub n t j).1.Good∧(xT sub n t j).1.sets.length=n.sets.length+j*zW cnt t.parts t.parts.length∧(xT sub n t j).2.Small (n.sets.length+j*zW cnt t.parts t.parts.length):=by
 induction j with
 |zero=>exact⟨hn,by simp[xT],zAB _ _⟩
 |succ j ih=>
  rw[Nat.add_mul,Nat.one_mul] at hl ⊢;obtain⟨h1,h2,h3⟩:=ih (by omega);obtain⟨g1,g2,g3⟩:=zAC h h1 t.parts t.parts.length (by omega);rw[h2] at g2 g3;have k0:(zAq t j (rowTo sub (xT sub n t j).1 t.parts t.parts.length)).Good∧(zAq t j (rowTo sub (xT sub n t j).1 t.parts t.parts.length)).sets=(rowTo sub (xT sub n t j).1 t.parts t.parts.length).1.sets:=by
   unfold zAq;split
   ·exact zCd g1 _ _ (by rw[g2];exact g3.first)
   ·exact⟨g1,rfl⟩
  have s2:=zIg (t:=t) (j:=j) g3;have k1:=zCd k0.1 (xT sub n t j).2.last (zA4 t j (rowTo sub (xT sub n t j).1 t.parts t.parts.length)).first (by rw[k0.2,g2];exact s2.first)
  have e:n.sets.length+(j*zW cnt t.parts t.parts.length+zW cnt t.parts t.parts.length)=n.sets.length+j*zW cnt t.parts t.parts.length+zW cnt t.parts t.parts.length:=by omega
  rw[e];exact⟨k1.1,by show((zAq t j _).link _ _).sets.length=_;rw[k1.2,k0.2];exact g2,Sn.then_small (h3.up (by omega)) s2⟩
theorem jW (d:Nat):Lays (xC d) (yQ d):=by
 induction d with
 |zero=>exact fun n t hn _=>⟨hn,rfl,zAB _ _⟩
 |succ d ih=>
  intro n t hn hl;unfold xC;unfold yQ at hl ⊢;by_cases k1:t.kind=1
  ·simp only[if_pos k1] at hl ⊢
   have:=zI9 hn t.set hl;exact this
  ·simp only[if_neg k1] at hl ⊢
   by_cases k2:t.kind=2
   ·simp only[if_pos k2,if_pos (Or.inl k2:t.kind=2∨t.kind=3)] at hl ⊢
    exact zAC ih hn _ _ hl
   ·simp only[if_neg k2] at hl ⊢
    by_cases k3:t.kind=3
    ·simp only[if_pos k3,if_pos (Or.inr k3:t.kind=2∨t.kind=3)] at hl ⊢
     exact zBU ih hn _ _ hl
    ·simp only[if_neg k3,if_neg (show¬(t.kind=2∨t.kind=3) by omega)] at hl ⊢
     by_cases k4:t.kind=4
     ·simp only[if_pos k4] at hl ⊢
      exact zBu ih hn t _ hl
     ·simp only[if_neg k4] at hl ⊢
      exact⟨hn,rfl,zAB _ _⟩
section
def zB1 (w0:World)(nb d:Nat)(sub:Lay)(cnt:Tr->Nat):Prop:=∀(w:World) (n:Nt) (b:Nat) (t:Tr),NwIs w0 w nb n->n.Good->TreeAt w0 d b t->n.sets.length+cnt t<=24->Calls prog 89 #[pointer (some ⟨nb,0,none⟩),pointer (some ⟨b,0,none⟩)] w fun e w'=>e=returned (sub n t).2.val∧NwIs w0 w' nb (sub n t).1∧StayS w w'
structure Al (w0 w wr:World)(nb:Nat)(n:Nt)(s:Sn):Prop where
 net:NwIs w0 wr nb n
 res:wr.heap[w.heap.size]? =some (.cells (Sn.mk 0 0 false).cells 167)
 all:wr.heap[w.heap.size+1]? =some (.cells s.cells 167)
 stay:StayS w wr
 old:w0.heap.size<=w.heap.size
theorem zI {w:World}{b:Nat}{s:Sn}(h:w.heap[b]? =some (.cells s.cells 167)):w.cell? ⟨b,0,none⟩=some (int i64 (s.first:Int))∧w.cell? ⟨b,1,none⟩=some (int i64 (s.last:Int))∧w.cell? ⟨b,2,none⟩=some (bool s.empty)∧∀i,w.frozen? ⟨b,i,none⟩=false:=by
 refine⟨?_,?_,?_,fun i=>?_⟩
 ·unfold cell?;rw[h];rfl
 ·unfold cell?;rw[h];rfl
 ·unfold cell?;rw[h];rfl
 ·unfold frozen?;rw[h];simp
def World.span (w:World)(b:Nat)(s:Sn):World:=((w.setCell ⟨b,0,none⟩ (int i64 (s.first:Int))).setCell ⟨b,1,none⟩ (int i64 (s.last:Int))).setCell ⟨b,2,none⟩ (bool s.empty)
theorem zEO {w:World}{b:Nat}{s s':Sn}(h:w.heap[b]? =some (.cells s.cells 167)):(World.span w b s').heap[b]? =some (.cells s'.cells 167)∧(∀k,k≠b->(World.span w b s').heap[k]? =w.heap[k]?)∧(∀w0 nb n,NwIs w0 w nb n->w0.heap.size<=b->NwIs w0 (World.span w b s') nb n):=by
 have c2:(w.setCell ⟨b,0,none⟩ (int i64 (s'.first:Int))).heap[b]? =some (.cells #[int i64 (s'.first:Int),int i64 (s.last:Int),bool s.empty] 167):=by simp[setCell,lU,h,Sn.cells]
 have e1:∀k,k≠b->(w.setCell ⟨b,0,none⟩ (int i64 (s'.first:Int))).heap[k]? =w.heap[k]? :=fun k hk=>lJ _ _ _ _ hk;have n1:∀w0 nb n,NwIs w0 w nb n->w0.heap.size<=b->NwIs w0 (w.setCell ⟨b,0,none⟩ (int i64 (s'.first:Int))) nb n:=fun w0 nb n hn hb=>hn.setSpan h hb;unfold World.span;generalize w.setCell ⟨b,0,none⟩ (int i64 (s'.first:Int))=w1 at *;have c3:(w1.setCell ⟨b,1,none⟩ (int i64 (s'.last:Int))).heap[b]? =some (.cells #[int i64 (s'.first:Int),int i64 (s'.last:Int),bool s.empty] 167):=by simp[setCell,lU,c2]
 have e2:∀k,k≠b->(w1.setCell ⟨b,1,none⟩ (int i64 (s'.last:Int))).heap[k]? =w.heap[k]? :=fun k hk=>(lJ _ _ _ _ hk).trans (e1 k hk);have n2:∀w0 nb n,NwIs w0 w nb n->w0.heap.size<=b->NwIs w0 (w1.setCell ⟨b,1,none⟩ (int i64 (s'.last:Int))) nb n:=fun w0 nb n hn hb=>(n1 w0 nb n hn hb).setSpan c2 hb;generalize w1.setCell ⟨b,1,none⟩ (int i64 (s'.last:Int))=w2 at *;refine⟨by simp[setCell,lU,c3,Sn.cells],fun k hk=>(lJ _ _ _ _ hk).trans (e2 k hk),fun w0 nb n hn hb=>(n2 w0 nb n hn hb).setSpan c3 hb⟩
section
variable {w0 w wr w2:World} {nb:Nat} {n:Nt} {s:Sn}
theorem Al.call {n2:Nt}(h:Al w0 w wr nb n s)(hn:NwIs w0 w2 nb n2)(hs:StayS wr w2):Al w0 w w2 nb n2 s:=⟨hn,hs _ _ h.res,hs _ _ h.all,h.stay.trans hs,h.old⟩
theorem Al.grown (h:Al w0 w wr nb n s)(hk:Grew wr w2):Al w0 w w2 nb n s:=h.call (h.net.grown hk) hk.stayS
theorem Al.setAll (h:Al w0 w wr nb n s)(s':Sn):Al w0 w (World.span wr (w.heap.size+1) s') nb n s':=by
 obtain⟨h1,h2,h3⟩:=zEO (s':=s') h.all;have ho:=h.old;exact⟨h3 _ _ _ h.net (by omega),(h2 _ (by omega)).trans h.res,h1,fun k c hk=>by
  have hl:=(kQ.1 hk).1;exact(h2 k (by omega)).trans (h.stay k c hk),h.old⟩
theorem Al.fin (h:Al w0 w wr nb n s)(s':Sn):NwIs w0 (World.span wr w.heap.size s') nb n∧StayS w (World.span wr w.heap.size s')∧(World.span wr w.heap.size s').cell? ⟨w.heap.size,0,none⟩=some (int i64 (s'.first:Int))∧(World.span wr w.heap.size s').cell? ⟨w.heap.size,1,none⟩=some (int i64 (s'.last:Int))∧(World.span wr w.heap.size s').cell? ⟨w.heap.size,2,none⟩=some (bool s'.empty):=by
 obtain⟨h1,h2,h3⟩:=zEO (s':=s') h.res;obtain⟨c0,c1,c2,_⟩:=zI h1;exact⟨h3 _ _ _ h.net h.old,fun k c hk=>by
  have hl:=(kQ.1 hk).1;exact(h2 k (by omega)).trans (h.stay k c hk),c0,c1,c2⟩
theorem Al.start (h:NwIs w0 w nb n)(s:Sn):Al w0 w ((w.alloc (.cells (Sn.mk 0 0 false).cells 167)).alloc (.cells s.cells 167)) nb n s:=by
 have s1:(w.alloc (.cells (Sn.mk 0 0 false).cells 167)).heap.size=w.heap.size+1:=by simp
 have k1:=kZ (b:=w.heap.size) w (.cells (Sn.mk 0 0 false).cells 167) lQ;have k2:=kZ (b:=(w.alloc (.cells (Sn.mk 0 0 false).cells 167)).heap.size) (w.alloc (.cells (Sn.mk 0 0 false).cells 167)) (.cells s.cells 167) lQ;refine⟨(h.grown k1).grown k2,(lG _ _ _ (by rw[s1];omega)).trans (gJ _ _),?_,k1.stayS.trans k2.stayS,by obtain⟨_,_,_,_,_,h⟩:=h;exact h.keep.size⟩;have:=gJ (w.alloc (.cells (Sn.mk 0 0 false).cells 167)) (.cells s.cells 167);rw[s1] at this;exact this
end
theorem zC8 (w0:World)(nb d:Nat)(sub:Lay)(cnt:Tr->Nat)(hs:zB1 w0 nb d sub cnt)(hy:Lays sub cnt)(w:World)(n:Nt)(b:Nat)(t:Tr)(h:NwIs w0 w nb n)(hg:n.Good)(ht:TreeAt w0 (d+1) b t)(hl:n.sets.length+zW cnt t.parts t.parts.length<=24)(hpl:t.parts.length<=1000000000000):
  Calls prog 124 #[pointer (some ⟨nb,0,none⟩),pointer (some ⟨b,0,none⟩)] w fun e w'=>e=returned (rowTo sub n t.parts t.parts.length).2.val∧NwIs w0 w' nb (rowTo sub n t.parts t.parts.length).1∧StayS w w':=by
 obtain⟨hbl,rv,pv,hb,_,ao,cap,rfl,_,_,hpc⟩:=ht;have HPT:Hid (∀wr n2,NwIs w0 wr nb n2->wr.cell? ⟨b,3,none⟩=some (slice ao t.parts.length cap)∧∀i,i<t.parts.length->∃g o p,ao=some ⟨g,o,none⟩∧wr.cell? ⟨g,o+i,none⟩=some (pointer (some ⟨p,0,none⟩))∧TreeAt w0 d p (t.parts.getD i Tr.none)):=by
  rintro wr n2 ⟨_,_,_,_,_,hN⟩;have hk:=hN.keep;have hb2:=(hk.block b hbl (kJ hbl)).trans hb;refine⟨by unfold cell?;rw[hb2];rfl,fun i hi=>?_⟩;obtain⟨g,o,p,ha,hgi,hc,hti⟩:=hpc i hi;exact⟨g,o,p,ha,zA hc hgi hk,hti⟩
 obtain⟨RT,hRT⟩:∃RT,RT=rowTo sub n t.parts:=⟨_,rfl⟩
 have HRT:Hid (RT 0=(n,⟨0,0,true⟩)∧(∀j,RT (j+1)=((sub (RT j).1 (t.parts.getD j Tr.none)).1.link (RT j).2.last (sub (RT j).1 (t.parts.getD j Tr.none)).2.first,(RT j).2.then (sub (RT j).1 (t.parts.getD j Tr.none)).2))∧(∀j,j<=t.parts.length->(RT j).1.Good∧(RT j).2.Small 24)∧(∀j,j<t.parts.length->(RT j).1.sets.length+cnt (t.parts.getD j Tr.none)<=24∧(sub (RT j).1 (t.parts.getD j Tr.none)).1.Good∧(sub (RT j).1 (t.parts.getD j Tr.none)).2.Small 24)∧RT t.parts.length=rowTo sub n t.parts t.parts.length):=by
  rw[hRT];have hm:∀j,j<=t.parts.length->n.sets.length+zW cnt t.parts j<=24:=fun j hj=>lY (Nat.add_le_add_left (zCK cnt t.parts j _ hj) _) hl;refine⟨rfl,fun j=>rfl,fun j hj=>?_,fun j hj=>?_,rfl⟩
  ·have:=zAC hy hg t.parts j (hm j hj)
   exact⟨this.1,this.2.2.up (hm j hj)⟩
  ·have h1:=zAC hy hg t.parts j (hm j (by omega))
   have h2:n.sets.length+(zW cnt t.parts j+cnt (t.parts.getD j Tr.none))<=24:=hm (j+1) hj;have h3:=hy _ (t.parts.getD j Tr.none) h1.1 (by rw[h1.2.1];omega);exact⟨by rw[h1.2.1];omega,h3.1,h3.2.2.up (by rw[h1.2.1];omega)⟩
 obtain⟨w1,hw1,HA1⟩:∃w1,w1=(w.alloc (.cells #[int i64 0,int i64 0,bool false] 167)).alloc (.cells #[int i64 0,int i64 0,bool true] 167)∧Hid (Al w0 w w1 nb n ⟨0,0,true⟩):=⟨_,rfl,Al.start h ⟨0,0,true⟩⟩
 have HS:=vl hs;generalize hRE:rowTo sub n t.parts t.parts.length=RE at *;clear hRE hRT hpc hb hs hy hl h hg;go_in;apply wp_cut;intro K0 J;go_wp2;apply J.out;clear J;apply wp_cut;intro K0 J;go_wp2;apply J.out;clear J;rw[<-hw1];clear hw1;have y3:=(HPT.out w1 n HA1.out.net).1;go_wp2;clear y3;go_loopg [15] t.parts.length (fun q i wr=>∃j:Nat,q=t.parts.length-j∧j<=t.parts.length∧i=int i64 (j:Int)∧Al w0 w wr nb (RT j).1 (RT j).2)
 case atStart=>exact⟨0,rfl,lX,rfl,by rw[HRT.out.1];exact HA1.out⟩
 case round=>
  obtain⟨j,hgk,hj,rfl,hA⟩:=hrel;have HB:Hid (gk=t.parts.length-j∧Al w0 w wr nb (RT j).1 (RT j).2):=⟨hgk,hA⟩
  by_cases hj2:j<t.parts.length
  ·have i1:(j:Int)<(t.parts.length:Int):=by omega
   obtain⟨g,o,p,rfl,hc,hti⟩:=(HPT.out wr _ hA.net).2 j hj2;obtain⟨b1,b2,b3⟩:=HRT.out.2.2.2.1 j hj2;obtain⟨g1,g2⟩:=HRT.out.2.2.1 j hj;have HC0:=HS.out wr (RT j).1 p (t.parts.getD j Tr.none) hA.net g1 hti b1;have HTH0:=fun w6 (h6:NwIs w0 w6 nb (sub (RT j).1 (t.parts.getD j Tr.none)).1)=>zCz w0 w6 nb _ h6 (by rw[b2.same];exact b2.len) b2.top (RT j).2 (sub (RT j).1 (t.parts.getD j Tr.none)).2 g2 b3;have HN:=vl <| HRT.out.2.1 j;have HA:=vl hA;clear hgk hA hti b1 b2 b3 g1 g2;generalize (RT j).1=nj at *;generalize (RT j).2=sj at *;generalize (sub nj (t.parts.getD j Tr.none)).1=q1 at *;generalize (sub nj (t.parts.getD j Tr.none)).2=q2 at *;have HC:Hid (Ca 89 #[pointer (some ⟨nb,0,none⟩),pointer (some ⟨p,0,none⟩)] wr fun e w'=>e=returned (agg #[int i64 (q2.first:Int),int i64 (q2.last:Int),bool q2.empty])∧NwIs w0 w' nb q1∧StayS wr w'):=HC0;have HTH:Hid (∀w6,NwIs w0 w6 nb q1->Ca 164 #[pointer (some ⟨nb,0,none⟩),agg #[int i64 (sj.first:Int),int i64 (sj.last:Int),bool sj.empty],agg #[int i64 (q2.first:Int),int i64 (q2.last:Int),bool q2.empty]] w6 fun e w'=>e=returned (agg #[int i64 ((sj.then q2).first:Int),int i64 ((sj.then q2).last:Int),bool (sj.then q2).empty])∧NwIs w0 w' nb (q1.link sj.last q2.first)∧StayS w6 w'):=HTH0;clear HC0 HTH0;generalize sj.then q2=s9 at *
   go_wp2_with (first|(go_at_call 89;refine HC.out.mono ?_;rintro e w5 ⟨rfl,hN5,hS5⟩;have A5:=HA.out.call hN5 hS5;have A6:=A5.grown (kZ w5 (Obj.cells #[int i64 (q2.first:Int),int i64 (q2.last:Int),bool q2.empty] 167) lQ);obtain⟨c0,c1,c2,-⟩:=zI A6.all;obtain⟨d0,d1,d2,-⟩:=zI (s:=q2) (gJ w5 (Obj.cells #[int i64 (q2.first:Int),int i64 (q2.last:Int),bool q2.empty] 167));have HA6:Hid (Al w0 w (w5.alloc (Obj.cells #[int i64 (q2.first:Int),int i64 (q2.last:Int),bool q2.empty] 167)) nb q1 sj):=A6;clear A5 A6 hN5 hS5)|(go_at_call 164;refine(HTH.out _ HA6.out.net).mono ?_;rintro e w7 ⟨rfl,hN7,hS7⟩;have A7:=HA6.out.call hN7 hS7;obtain⟨e0,e1,e2,ef⟩:=zI A7.all;have f0:=ef 0;have f1:=ef 1;have f2:=ef 2;have HA8:Hid (Al w0 w (World.span w7 (w.heap.size+1) s9) nb (q1.link sj.last q2.first) s9):=A7.setAll s9;clear A7 hN7 hS7 ef))
   go_roundg (t.parts.length-(j+1))
   case measure=>rw[HB.out.1];omega
   case rel=>exact⟨j+1,rfl,by omega,by go_num,by rw[HN.out];exact HA8.out⟩
  ·have i1:(t.parts.length:Int)<=(j:Int):=by omega
   have e:j=t.parts.length:=by omega
   subst e;rw[HRT.out.2.2.2.2] at hA;obtain⟨c0,c1,c2,-⟩:=zI hA.all;obtain⟨r0,r1,r2,rf⟩:=zI hA.res;have f0:=rf 0;have f1:=rf 1;have f2:=rf 2;have HF:Hid (Al w0 w wr nb RE.1 RE.2):=hA;clear hgk hA rf;go_wp2;obtain⟨w9,hw9,K9,z0,z1,z2⟩:∃w9,w9=((wr.setCell ⟨w.heap.size,0,none⟩ (int i64 (RE.2.first:Int))).setCell ⟨w.heap.size,1,none⟩ (int i64 (RE.2.last:Int))).setCell ⟨w.heap.size,2,none⟩ (bool RE.2.empty)∧Hid (NwIs w0 w9 nb RE.1∧StayS w w9)∧w9.cell? ⟨w.heap.size,0,none⟩=some (int i64 (RE.2.first:Int))∧w9.cell? ⟨w.heap.size,1,none⟩=some (int i64 (RE.2.last:Int))∧w9.cell? ⟨w.heap.size,2,none⟩=some (bool RE.2.empty):=by
    obtain⟨h1,h2,h3,h4,h5⟩:=HF.out.fin RE.2;exact⟨_,rfl,⟨h1,h2⟩,h3,h4,h5⟩
   rw[<-hw9];clear hw9;refine dZ (v:=agg #[int i64 (RE.2.first:Int),int i64 (RE.2.last:Int),bool RE.2.empty]) (by simp[results,results124,go_sem,z0,z1,z2]) rfl ?_;exact⟨rfl,K9.out.1,K9.out.2⟩
end
theorem zEk (w0:World)(nb d:Nat)(sub:Lay)(cnt:Tr->Nat)(hs:zB1 w0 nb d sub cnt)(hy:Lays sub cnt)(w:World)(n:Nt)(b:Nat)(t:Tr)(h:NwIs w0 w nb n)(hg:n.Good)(ht:TreeAt w0 (d+1) b t)(hl:n.sets.length+zW cnt t.parts t.parts.length<=24)(hpl:t.parts.length<=1000000000000):
  Calls prog 125 #[pointer (some ⟨nb,0,none⟩),pointer (some ⟨b,0,none⟩)] w fun e w'=>e=returned (jB sub n t.parts t.parts.length).2.val∧NwIs w0 w' nb (jB sub n t.parts t.parts.length).1∧StayS w w':=by
 obtain⟨hbl,rv,pv,hb,_,ao,cap,rfl,_,_,hpc⟩:=ht;have HPT:Hid (∀wr n2,NwIs w0 wr nb n2->wr.cell? ⟨b,3,none⟩=some (slice ao t.parts.length cap)∧∀i,i<t.parts.length->∃g o p,ao=some ⟨g,o,none⟩∧wr.cell? ⟨g,o+i,none⟩=some (pointer (some ⟨p,0,none⟩))∧TreeAt w0 d p (t.parts.getD i Tr.none)):=by
  rintro wr n2 ⟨_,_,_,_,_,hN⟩;have hk:=hN.keep;have hb2:=(hk.block b hbl (kJ hbl)).trans hb;refine⟨by unfold cell?;rw[hb2];rfl,fun i hi=>?_⟩;obtain⟨g,o,p,ha,hgi,hc,hti⟩:=hpc i hi;exact⟨g,o,p,ha,zA hc hgi hk,hti⟩
 obtain⟨RT,hRT⟩:∃RT,RT=jB sub n t.parts:=⟨_,rfl⟩
 have HRT:Hid (RT 0=(n,⟨0,0,false⟩)∧(∀j,RT (j+1)=((sub (RT j).1 (t.parts.getD j Tr.none)).1,(RT j).2.or (sub (RT j).1 (t.parts.getD j Tr.none)).2))∧(∀j,j<=t.parts.length->(RT j).1.Good∧(RT j).2.Small 24)∧(∀j,j<t.parts.length->(RT j).1.sets.length+cnt (t.parts.getD j Tr.none)<=24∧(sub (RT j).1 (t.parts.getD j Tr.none)).1.Good∧(sub (RT j).1 (t.parts.getD j Tr.none)).2.Small 24)∧RT t.parts.length=jB sub n t.parts t.parts.length):=by
  rw[hRT];have hm:∀j,j<=t.parts.length->n.sets.length+zW cnt t.parts j<=24:=fun j hj=>lY (Nat.add_le_add_left (zCK cnt t.parts j _ hj) _) hl;refine⟨rfl,fun j=>rfl,fun j hj=>?_,fun j hj=>?_,rfl⟩
  ·have:=zBU hy hg t.parts j (hm j hj)
   exact⟨this.1,this.2.2.up (hm j hj)⟩
  ·have h1:=zBU hy hg t.parts j (hm j (by omega))
   have h2:n.sets.length+(zW cnt t.parts j+cnt (t.parts.getD j Tr.none))<=24:=hm (j+1) hj;have h3:=hy _ (t.parts.getD j Tr.none) h1.1 (by rw[h1.2.1];omega);exact⟨by rw[h1.2.1];omega,h3.1,h3.2.2.up (by rw[h1.2.1];omega)⟩
 obtain⟨w1,hw1,HA1⟩:∃w1,w1=(w.alloc (.cells #[int i64 0,int i64 0,bool false] 167)).alloc (.cells #[int i64 0,int i64 0,bool false] 167)∧Hid (Al w0 w w1 nb n ⟨0,0,false⟩):=⟨_,rfl,Al.start h ⟨0,0,false⟩⟩
 have HS:=vl hs;generalize hRE:jB sub n t.parts t.parts.length=RE at *;clear hRE hRT hpc hb hs hy hl h hg;go_in;apply wp_cut;intro K0 J;go_wp2;apply J.out;clear J;apply wp_cut;intro K0 J;go_wp2;apply J.out;clear J;rw[<-hw1];clear hw1;have y3:=(HPT.out w1 n HA1.out.net).1;go_wp2;clear y3;go_loopg [15] t.parts.length (fun q i wr=>∃j:Nat,q=t.parts.length-j∧j<=t.parts.length∧i=int i64 (j:Int)∧Al w0 w wr nb (RT j).1 (RT j).2)
 case atStart=>exact⟨0,rfl,lX,rfl,by rw[HRT.out.1];exact HA1.out⟩
 case round=>
  obtain⟨j,hgk,hj,rfl,hA⟩:=hrel;have HB:Hid (gk=t.parts.length-j∧Al w0 w wr nb (RT j).1 (RT j).2):=⟨hgk,hA⟩
  by_cases hj2:j<t.parts.length
  ·have i1:(j:Int)<(t.parts.length:Int):=by omega
   obtain⟨g,o,p,rfl,hc,hti⟩:=(HPT.out wr _ hA.net).2 j hj2;obtain⟨b1,b2,b3⟩:=HRT.out.2.2.2.1 j hj2;obtain⟨g1,g2⟩:=HRT.out.2.2.1 j hj;have HC0:=HS.out wr (RT j).1 p (t.parts.getD j Tr.none) hA.net g1 hti b1;have l1:(RT j).2.first<16777216:=g2.first
   have l2:(RT j).2.last<16777216:=g2.last;have l3:(sub (RT j).1 (t.parts.getD j Tr.none)).2.first<16777216:=b3.first
   have l4:(sub (RT j).1 (t.parts.getD j Tr.none)).2.last<16777216:=b3.last;have HN:=vl <| HRT.out.2.1 j;have HA:=vl hA;clear hgk hA hti b1 b2 b3 g1 g2;generalize (RT j).1=nj at *;generalize (RT j).2=sj at *;generalize (sub nj (t.parts.getD j Tr.none)).1=q1 at *;generalize (sub nj (t.parts.getD j Tr.none)).2=q2 at *;have HC:Hid (Ca 89 #[pointer (some ⟨nb,0,none⟩),pointer (some ⟨p,0,none⟩)] wr fun e w'=>e=returned (agg #[int i64 (q2.first:Int),int i64 (q2.last:Int),bool q2.empty])∧NwIs w0 w' nb q1∧StayS wr w'):=HC0;clear HC0;have hor1:bits .or i64 (sj.first:Int) (q2.first:Int)=((sj.first|||q2.first:Nat):Int):=yO _ _ (by omega) (by omega);have hor2:bits .or i64 (sj.last:Int) (q2.last:Int)=((sj.last|||q2.last:Nat):Int):=yO _ _ (by omega) (by omega);clear l1 l2 l3 l4;have HW6:Hid (∀w5,Al w0 w w5 nb q1 sj->w.heap.size+1<w5.heap.size∧Al w0 w (w5.alloc (Obj.cells #[int i64 (q2.first:Int),int i64 (q2.last:Int),bool q2.empty] 167)) nb q1 sj∧(w5.alloc (Obj.cells #[int i64 (q2.first:Int),int i64 (q2.last:Int),bool q2.empty] 167)).heap[w5.heap.size]? =some (.cells q2.cells 167)):=fun w5 h5=>⟨(kQ.1 h5.all).1,h5.grown (kZ w5 _ lQ),gJ w5 _⟩
   have HOR:Hid (sj.or q2=⟨sj.first|||q2.first,sj.last|||q2.last,sj.empty||q2.empty⟩):=rfl;rw[HOR.out] at HN;clear HOR;obtain⟨af,al,ae⟩:=sj;obtain⟨bf,bl,be⟩:=q2;have HC2:Hid (Ca 89 #[pointer (some ⟨nb,0,none⟩),pointer (some ⟨p,0,none⟩)] wr fun e w'=>e=returned (agg #[int i64 (bf:Int),int i64 (bl:Int),bool be])∧NwIs w0 w' nb q1∧StayS wr w'):=HC.out;clear HC;have hor1':bits .or i64 (af:Int) (bf:Int)=((af|||bf:Nat):Int):=hor1;have hor2':bits .or i64 (al:Int) (bl:Int)=((al|||bl:Nat):Int):=hor2;clear hor1 hor2;have HN2:Hid (RT (j+1)=(q1,⟨af|||bf,al|||bl,ae||be⟩)):=HN.out;clear HN;have HBX:Hid (∀wq:World,wq.heap[w.heap.size+1]? =some (.cells #[int i64 (af:Int),int i64 (al:Int),bool ae] 167)->∀b8,w.heap.size+1<b8->wq.heap[b8]? =some (.cells #[int i64 (bf:Int),int i64 (bl:Int),bool be] 167)->∀x y:Nat,
     ((wq.setCell ⟨w.heap.size+1,0,none⟩ (int i64 (x:Int))).cell? ⟨w.heap.size+1,1,none⟩=some (int i64 (al:Int))∧(wq.setCell ⟨w.heap.size+1,0,none⟩ (int i64 (x:Int))).cell? ⟨b8,1,none⟩=some (int i64 (bl:Int))∧(wq.setCell ⟨w.heap.size+1,0,none⟩ (int i64 (x:Int))).frozen? ⟨w.heap.size+1,1,none⟩=false)∧
     (((wq.setCell ⟨w.heap.size+1,0,none⟩ (int i64 (x:Int))).setCell ⟨w.heap.size+1,1,none⟩ (int i64 (y:Int))).cell? ⟨w.heap.size+1,2,none⟩=some (bool ae)∧((wq.setCell ⟨w.heap.size+1,0,none⟩ (int i64 (x:Int))).setCell ⟨w.heap.size+1,1,none⟩ (int i64 (y:Int))).cell? ⟨b8,2,none⟩=some (bool be)∧((wq.setCell ⟨w.heap.size+1,0,none⟩ (int i64 (x:Int))).setCell ⟨w.heap.size+1,1,none⟩ (int i64 (y:Int))).frozen? ⟨w.heap.size+1,2,none⟩=false)):=by
    intro wq hq b8 hb8 h8 x y;have c2:(wq.setCell ⟨w.heap.size+1,0,none⟩ (int i64 (x:Int))).heap[w.heap.size+1]? =some (.cells #[int i64 (x:Int),int i64 (al:Int),bool ae] 167):=by simp[setCell,lU,hq]
    have c8:(wq.setCell ⟨w.heap.size+1,0,none⟩ (int i64 (x:Int))).heap[b8]? =some (.cells #[int i64 (bf:Int),int i64 (bl:Int),bool be] 167):=(lJ _ _ _ _ (by show b8≠w.heap.size+1;omega)).trans h8;generalize wq.setCell ⟨w.heap.size+1,0,none⟩ (int i64 (x:Int))=w6 at *;have c3:(w6.setCell ⟨w.heap.size+1,1,none⟩ (int i64 (y:Int))).heap[w.heap.size+1]? =some (.cells #[int i64 (x:Int),int i64 (y:Int),bool ae] 167):=by simp[setCell,lU,c2]
    have c9:(w6.setCell ⟨w.heap.size+1,1,none⟩ (int i64 (y:Int))).heap[b8]? =some (.cells #[int i64 (bf:Int),int i64 (bl:Int),bool be] 167):=(lJ _ _ _ _ (by show b8≠w.heap.size+1;omega)).trans c8;refine⟨⟨?_,?_,?_⟩,?_,?_,?_⟩
    ·unfold cell?;rw[c2];rfl
    ·unfold cell?;rw[c8];rfl
    ·unfold frozen?;rw[c2];rfl
    ·unfold cell?;rw[c3];rfl
    ·unfold cell?;rw[c9];rfl
    ·unfold frozen?;rw[c3];rfl
   rcases ae with _|_
   ·have HN3:Hid (RT (j+1)=(q1,⟨af|||bf,al|||bl,be⟩)):=HN2.out
    go_wp2_with (first|(go_at_call 89;refine HC2.out.mono ?_;rintro e w5 ⟨rfl,hN5,hS5⟩;have A5:=HA.out.call hN5 hS5;obtain⟨hlt5,A6,hb8⟩:=HW6.out w5 A5;obtain⟨c0,c1,c2,cf⟩:=zI A6.all;have f0:=cf 0;obtain⟨d0,d1,d2,-⟩:=zI hb8;obtain⟨⟨k1,k2,k3⟩,k4,k5,k6⟩:=HBX.out _ A6.all w5.heap.size hlt5 hb8 (af|||bf) (al|||bl);have HA8:Hid (Al w0 w (World.span (w5.alloc (Obj.cells #[int i64 (bf:Int),int i64 (bl:Int),bool be] 167)) (w.heap.size+1) ⟨af|||bf,al|||bl,be⟩) nb q1 ⟨af|||bf,al|||bl,be⟩):=A6.setAll _;clear A5 A6 hN5 hS5 cf hb8 hlt5))
    go_roundg (t.parts.length-(j+1))
    case measure=>rw[HB.out.1];omega
    case rel=>exact⟨j+1,rfl,by omega,by go_num,by rw[HN3.out];exact HA8.out⟩
   ·have HN3:Hid (RT (j+1)=(q1,⟨af|||bf,al|||bl,true⟩)):=HN2.out
    go_wp2_with (first|(go_at_call 89;refine HC2.out.mono ?_;rintro e w5 ⟨rfl,hN5,hS5⟩;have A5:=HA.out.call hN5 hS5;obtain⟨hlt5,A6,hb8⟩:=HW6.out w5 A5;obtain⟨c0,c1,c2,cf⟩:=zI A6.all;have f0:=cf 0;obtain⟨d0,d1,d2,-⟩:=zI hb8;obtain⟨⟨k1,k2,k3⟩,k4,k5,k6⟩:=HBX.out _ A6.all w5.heap.size hlt5 hb8 (af|||bf) (al|||bl);have HA8:Hid (Al w0 w (World.span (w5.alloc (Obj.cells #[int i64 (bf:Int),int i64 (bl:Int),bool be] 167)) (w.heap.size+1) ⟨af|||bf,al|||bl,true⟩) nb q1 ⟨af|||bf,al|||bl,true⟩):=A6.setAll _;clear A5 A6 hN5 hS5 cf hb8 hlt5))
    go_roundg (t.parts.length-(j+1))
    case measure=>rw[HB.out.1];omega
    case rel=>exact⟨j+1,rfl,by omega,by go_num,by rw[HN3.out];exact HA8.out⟩
  ·have i1:(t.parts.length:Int)<=(j:Int):=by omega
   have e:j=t.parts.length:=by omega
   subst e;rw[HRT.out.2.2.2.2] at hA;obtain⟨c0,c1,c2,-⟩:=zI hA.all;obtain⟨r0,r1,r2,rf⟩:=zI hA.res;have f0:=rf 0;have f1:=rf 1;have f2:=rf 2;have HF:Hid (Al w0 w wr nb RE.1 RE.2):=hA;clear hgk hA rf;go_wp2;obtain⟨w9,hw9,K9,z0,z1,z2⟩:∃w9,w9=((wr.setCell ⟨w.heap.size,0,none⟩ (int i64 (RE.2.first:Int))).setCell ⟨w.heap.size,1,none⟩ (int i64 (RE.2.last:Int))).setCell ⟨w.heap.size,2,none⟩ (bool RE.2.empty)∧Hid (NwIs w0 w9 nb RE.1∧StayS w w9)∧w9.cell? ⟨w.heap.size,0,none⟩=some (int i64 (RE.2.first:Int))∧w9.cell? ⟨w.heap.size,1,none⟩=some (int i64 (RE.2.last:Int))∧w9.cell? ⟨w.heap.size,2,none⟩=some (bool RE.2.empty):=by
    obtain⟨h1,h2,h3,h4,h5⟩:=HF.out.fin RE.2;exact⟨_,rfl,⟨h1,h2⟩,h3,h4,h5⟩
   rw[<-hw9];clear hw9;refine dZ (v:=agg #[int i64 (RE.2.first:Int),int i64 (RE.2.last:Int),bool RE.2.empty]) (by simp[results,results125,go_sem,z0,z1,z2]) rfl ?_;exact⟨rfl,K9.out.1,K9.out.2⟩
theorem zDg (w:World)(l m:Nat)(e:Bool):
  Calls prog 165 #[agg #[int i64 (l:Int),int i64 (m:Int),bool e]] w fun x w'=>x=returned (int i64 (((if e then(if l=0 then 1 else l) else m:Nat)):Int))∧Grew w w':=by
 cases e with
 |false=>
  go_in;go_wp2;go_ret;exact⟨rfl,kZ _ _ lQ⟩
 |true=>
  by_cases h:l=0
  ·subst h
   go_in;go_wp2;go_ret;exact⟨rfl,kZ _ _ lQ⟩
  ·have hc:((l:Int)==0)=false:=by rw[hJ];omega
   go_in;go_wp2;go_ret;exact⟨rfl,kZ _ _ lQ⟩
theorem zFd (w0:World)(nb d:Nat)(sub:Lay)(cnt:Tr->Nat)(hs:zB1 w0 nb d sub cnt)(hy:Lays sub cnt)(w:World)(n:Nt)(b:Nat)(t:Tr)(h:NwIs w0 w nb n)(hg:n.Good)(ht:TreeAt w0 (d+1) b t)(hl:n.sets.length+t.copies*zW cnt t.parts t.parts.length<=24)(hpl:t.parts.length<=1000000000000)(hcp:t.copies<=1000000000000)(hls:t.least<=1000000000000):
  Calls prog 126 #[pointer (some ⟨nb,0,none⟩),pointer (some ⟨b,0,none⟩)] w fun e w'=>e=returned (xT sub n t t.copies).2.val∧NwIs w0 w' nb (xT sub n t t.copies).1∧StayS w w':=by
 have HTR:=vl ht;obtain⟨hbl,rv,pv,hb,-⟩:=id ht;have HTM0:Hid (∀wr n2,NwIs w0 wr nb n2->wr.cell? ⟨b,4,none⟩=some (int i64 (t.least:Int))∧wr.cell? ⟨b,5,none⟩=some (int i64 (t.most:Int))∧wr.cell? ⟨b,6,none⟩=some (bool t.endless)):=by
  rintro wr n2 ⟨_,_,_,_,_,hN⟩;have hk:=hN.keep;have hb2:=(hk.block b hbl (kJ hbl)).trans hb;refine⟨?_,?_,?_⟩
  all_goals (unfold cell?;rw[hb2];rfl)
 have HTM:Hid (∀wr n2,NwIs w0 wr nb n2->wr.cell? ⟨b,6,none⟩=some (bool t.endless)∧wr.cell? ⟨b,4,none⟩=some (int i64 (t.least:Int))):=fun wr n2 hN=>⟨(HTM0.out wr n2 hN).2.2,(HTM0.out wr n2 hN).1⟩
 have HCP:Hid (∀w2,Ca 165 #[agg #[int i64 (t.least:Int),int i64 (t.most:Int),bool t.endless]] w2 fun x w'=>x=returned (int i64 (t.copies:Int))∧Grew w2 w'):=fun w2=>zDg w2 t.least t.most t.endless;have hm:∀j,j<=t.copies->n.sets.length+j*zW cnt t.parts t.parts.length<=24:=fun j hj=>lY (Nat.add_le_add_left (Nat.mul_le_mul_right _ hj) _) hl;obtain⟨RT,hRT⟩:∃RT,RT=xT sub n t:=⟨_,rfl⟩
 have HRT:Hid (RT 0=(n,⟨0,0,true⟩)∧(∀j,RT (j+1)=((zAq t j (rowTo sub (RT j).1 t.parts t.parts.length)).link (RT j).2.last (zA4 t j (rowTo sub (RT j).1 t.parts t.parts.length)).first,(RT j).2.then (zA4 t j (rowTo sub (RT j).1 t.parts t.parts.length))))∧(∀j,j<=t.copies->(RT j).1.Good∧(RT j).2.Small 24)∧(∀j,j<t.copies->(RT j).1.sets.length+zW cnt t.parts t.parts.length<=24∧(rowTo sub (RT j).1 t.parts t.parts.length).1.Good∧(rowTo sub (RT j).1 t.parts t.parts.length).2.Small 24∧(rowTo sub (RT j).1 t.parts t.parts.length).2.first<2^(rowTo sub (RT j).1 t.parts t.parts.length).1.sets.length)∧RT t.copies=xT sub n t t.copies):=by
  rw[hRT];refine⟨rfl,fun j=>rfl,fun j hj=>?_,fun j hj=>?_,rfl⟩
  ·have:=zBu hy hg t j (hm j hj)
   exact⟨this.1,this.2.2.up (hm j hj)⟩
  ·have h1:=zBu hy hg t j (hm j (by omega))
   have h2:=hm (j+1) hj;rw[Nat.add_mul,Nat.one_mul] at h2;have h3:=zAC hy h1.1 t.parts t.parts.length (by rw[h1.2.1];omega);exact⟨by rw[h1.2.1];omega,h3.1,h3.2.2.up (by rw[h1.2.1];omega),by rw[h3.2.1];exact h3.2.2.first⟩
 have HROW:Hid (∀wr n2,NwIs w0 wr nb n2->n2.Good->n2.sets.length+zW cnt t.parts t.parts.length<=24->Ca 124 #[pointer (some ⟨nb,0,none⟩),pointer (some ⟨b,0,none⟩)] wr fun e w'=>e=returned (rowTo sub n2 t.parts t.parts.length).2.val∧NwIs w0 w' nb (rowTo sub n2 t.parts t.parts.length).1∧StayS wr w'):=fun wr n2 hN hG hc=>zC8 w0 nb d sub cnt hs hy wr n2 b t hN hG HTR.out hc hpl;obtain⟨w1,hw1,HA1⟩:∃w1,w1=(w.alloc (.cells #[int i64 0,int i64 0,bool false] 167)).alloc (.cells #[int i64 0,int i64 0,bool true] 167)∧Hid (Al w0 w w1 nb n ⟨0,0,true⟩):=⟨_,rfl,Al.start h ⟨0,0,true⟩⟩
 generalize hRE:xT sub n t t.copies=RE at *;generalize hcpp:t.copies=cp at *;have HCPP:=vl hcpp;clear hRE hRT hb hs hy hl h hg ht hm hcpp;go_in;apply wp_cut;intro K0 J;go_wp2;apply J.out;clear J;apply wp_cut;intro K0 J;go_wp2;apply J.out;clear J;rw[<-hw1];clear hw1;obtain⟨y4,y5,y6⟩:=HTM0.out w1 n HA1.out.net;go_wp2_with (first|(go_at_call 165;refine(HCP.out _).mono ?_;rintro e w2 ⟨rfl,hk2⟩;have HA2:=vl <| HA1.out.grown hk2;clear hk2))
 clear y4 y5 y6;go_loopg [7] cp (fun q i wr=>∃j:Nat,q=cp-j∧j<=cp∧i=int i64 (j:Int)∧Al w0 w wr nb (RT j).1 (RT j).2)
 case atStart=>exact⟨0,rfl,lX,rfl,by rw[HRT.out.1];exact HA2.out⟩
 case round=>
  obtain⟨j,hgk,hj,rfl,hA⟩:=hrel;have HB:Hid (gk=cp-j∧Al w0 w wr nb (RT j).1 (RT j).2):=⟨hgk,hA⟩
  by_cases hj2:j<cp
  ·have i1:(j:Int)<(cp:Int):=by omega
   obtain⟨b1,b2,b3,b4⟩:=HRT.out.2.2.2.1 j hj2;obtain⟨g1,g2⟩:=HRT.out.2.2.1 j hj;have HC0:=HROW.out wr (RT j).1 hA.net g1 b1;have HN2:Hid (RT (j+1)=((zAq t j (rowTo sub (RT j).1 t.parts t.parts.length)).link (RT j).2.last (zA4 t j (rowTo sub (RT j).1 t.parts t.parts.length)).first,(RT j).2.then (zA4 t j (rowTo sub (RT j).1 t.parts t.parts.length)))):=HRT.out.2.1 j;have HA:Hid (Al w0 w wr nb (RT j).1 (RT j).2):=hA;clear hgk hA b1;generalize (RT j).1=nj at *;generalize (RT j).2=sj at *;generalize rowTo sub nj t.parts t.parts.length=q at *;obtain⟨q1,⟨qf,ql,qe⟩⟩:=q;obtain⟨af,al,ae⟩:=sj;have b2':q1.Good:=b2;have b3':(Sn.mk qf ql qe).Small 24:=b3;have b4':qf<2^q1.sets.length:=b4;have b5:=zCd b2' ql qf b4';have HC2:Hid (Ca 124 #[pointer (some ⟨nb,0,none⟩),pointer (some ⟨b,0,none⟩)] wr fun e w'=>e=returned (agg #[int i64 (qf:Int),int i64 (ql:Int),bool qe])∧NwIs w0 w' nb q1∧StayS wr w'):=HC0;have HLK:Hid (∀w6,NwIs w0 w6 nb q1->Ca 166 #[pointer (some ⟨nb,0,none⟩),int i64 (ql:Int),int i64 (qf:Int)] w6 fun e w'=>e=returned (tuple #[])∧NwIs w0 w' nb (q1.link ql qf)∧StayS w6 w'):=fun w6 h6=>zE8 w0 w6 nb q1 h6 (by rw[b2'.same];exact b2'.len) b2'.top ql qf b3'.last b3'.first
   have HTA:Hid (∀w6,NwIs w0 w6 nb q1->∀x:Bool,Ca 164 #[pointer (some ⟨nb,0,none⟩),agg #[int i64 (af:Int),int i64 (al:Int),bool ae],agg #[int i64 (qf:Int),int i64 (ql:Int),bool x]] w6 fun e w'=>e=returned ((Sn.mk af al ae).then ⟨qf,ql,x⟩).val∧NwIs w0 w' nb (q1.link al qf)∧StayS w6 w'):=fun w6 h6 x=>zCz w0 w6 nb q1 h6 (by rw[b2'.same];exact b2'.len) b2'.top ⟨af,al,ae⟩ ⟨qf,ql,x⟩ g2 ⟨b3'.first,b3'.last⟩;have HTB:Hid (∀w6,NwIs w0 w6 nb (q1.link ql qf)->∀x:Bool,Ca 164 #[pointer (some ⟨nb,0,none⟩),agg #[int i64 (af:Int),int i64 (al:Int),bool ae],agg #[int i64 (qf:Int),int i64 (ql:Int),bool x]] w6 fun e w'=>e=returned ((Sn.mk af al ae).then ⟨qf,ql,x⟩).val∧NwIs w0 w' nb ((q1.link ql qf).link al qf)∧StayS w6 w'):=fun w6 h6 x=>zCz w0 w6 nb _ h6 (by rw[b5.1.same];exact b5.1.len) b5.1.top ⟨af,al,ae⟩ ⟨qf,ql,x⟩ g2 ⟨b3'.first,b3'.last⟩;have HW6:Hid (∀w5,Al w0 w w5 nb q1 ⟨af,al,ae⟩->∀x:Bool,w.heap.size+1<w5.heap.size∧Al w0 w (w5.alloc (Obj.cells #[int i64 (qf:Int),int i64 (ql:Int),bool x] 167)) nb q1 ⟨af,al,ae⟩∧(w5.alloc (Obj.cells #[int i64 (qf:Int),int i64 (ql:Int),bool x] 167)).heap[w5.heap.size]? =some (.cells #[int i64 (qf:Int),int i64 (ql:Int),bool x] 167)):=fun w5 h5 x=>⟨(kQ.1 h5.all).1,h5.grown (kZ w5 _ lQ),gJ w5 _⟩
   have HST:Hid (∀(w7:World) (b8:Nat),w.heap.size+1<b8->Al w0 w w7 nb (q1.link ql qf) ⟨af,al,ae⟩->w7.heap[b8]? =some (.cells #[int i64 (qf:Int),int i64 (ql:Int),bool qe] 167)->Al w0 w (w7.setCell ⟨b8,2,none⟩ (bool true)) nb (q1.link ql qf) ⟨af,al,ae⟩∧(w7.setCell ⟨b8,2,none⟩ (bool true)).heap[b8]? =some (.cells #[int i64 (qf:Int),int i64 (ql:Int),bool true] 167)):=by
    intro w7 b8 hb8 h7 hb7;have e:∀k,k≠b8->(w7.setCell ⟨b8,2,none⟩ (bool true)).heap[k]? =w7.heap[k]? :=fun k hk=>lJ _ _ _ _ hk;have ho:=h7.old;exact⟨⟨h7.net.setSpan hb7 (by omega),(e _ (by omega)).trans h7.res,(e _ (by omega)).trans h7.all,jJ h7.stay (by omega),h7.old⟩,by simp[setCell,lU,hb7]⟩
   have HCQ:=HCPP.out;clear HC0 b2 b3 b4 b2' b3' b4' b5 g1 g2;have hcases:(t.endless=false∨(t.endless=true∧(j+1==t.copies)=false))∨(t.endless=true∧(j+1==t.copies)=true):=by
    cases t.endless
    ·exact .inl (.inl rfl)
    ·cases h:(j+1==t.copies)
     ·exact .inl (.inr ⟨rfl,rfl⟩)
     ·exact .inr ⟨rfl,rfl⟩
   rcases hcases with hno|⟨hen,hq⟩
   all_goals (by_cases hle:t.least<=j)
   ·have HN3:Hid (RT (j+1)=(q1.link al qf,(Sn.mk af al ae).then ⟨qf,ql,true⟩)):=by
     show RT (j+1)=_;rw[HN2.out];unfold zAq zA4;rw[if_neg (by rcases hno with h|⟨h,h2⟩ <;> simp[h];exact hJ.1 h2),if_pos hle]
    have HTH:Hid (∀w6,NwIs w0 w6 nb q1->Ca 164 #[pointer (some ⟨nb,0,none⟩),agg #[int i64 (af:Int),int i64 (al:Int),bool ae],agg #[int i64 (qf:Int),int i64 (ql:Int),bool true]] w6 fun e w'=>e=returned (agg #[int i64 (((Sn.mk af al ae).then ⟨qf,ql,true⟩).first:Int),int i64 (((Sn.mk af al ae).then ⟨qf,ql,true⟩).last:Int),bool ((Sn.mk af al ae).then ⟨qf,ql,true⟩).empty])∧NwIs w0 w' nb (q1.link al qf)∧StayS w6 w'):=fun w6 h6=>HTA.out w6 h6 true;have i2:(j:Int)>=(t.least:Int):=by omega
    clear HN2 HTA HTB hle;generalize (Sn.mk af al ae).then ⟨qf,ql,true⟩=s9 at *
    have hno2:t.endless=false∨t.endless=true∧((j:Int)==(cp:Int)-1)=false:=hno.imp_right fun h=>⟨h.1,by rw[hJ];have:=hJ.1 h.2;omega⟩
    clear hno;rcases hno2 with hen|⟨hen,hceq⟩
    all_goals
     have hen0:=vl hen;clear hen;go_wp2_with (first|(go_at_call 124;refine HC2.out.mono ?_;rintro e w5 ⟨rfl,hN5,hS5⟩;have A5:=HA.out.call hN5 hS5;obtain⟨v6,v4⟩:=HTM.out w5 _ hN5;rw[hen0.out] at v6;obtain⟨hlt5,A6,hb8⟩:=HW6.out w5 A5 qe;obtain⟨d0,d1,d2,-⟩:=zI (s:=⟨qf,ql,qe⟩) hb8;obtain⟨u6,u4⟩:=HTM.out (w5.alloc (Obj.cells #[int i64 (qf:Int),int i64 (ql:Int),bool qe] 167)) _ A6.net;rw[hen0.out] at u6;obtain⟨-,A6t,hb8t⟩:=HW6.out w5 A5 true;obtain⟨m0,m1,m2,-⟩:=zI (s:=⟨qf,ql,true⟩) hb8t;obtain⟨c0,c1,c2,-⟩:=zI A6t.all;have HAW:Hid (Al w0 w (w5.alloc (Obj.cells #[int i64 (qf:Int),int i64 (ql:Int),bool true] 167)) nb q1 ⟨af,al,ae⟩):=A6t;clear A6t hb8t;clear A5 A6 hN5 hS5 hb8 hlt5)|(go_at_call 164;refine(HTH.out _ HAW.out.net).mono ?_;rintro e w9 ⟨rfl,hN9,hS9⟩;have A9:=HAW.out.call hN9 hS9;obtain⟨e0,e1,e2,ef⟩:=zI A9.all;have f0:=ef 0;have f1:=ef 1;have f2:=ef 2;have HA10:Hid (Al w0 w (World.span w9 (w.heap.size+1) s9) nb (q1.link al qf) s9):=A9.setAll s9;clear A9 hN9 hS9 ef))
     go_roundg (cp-(j+1))
     case measure=>rw[HB.out.1];omega
     case rel=>exact⟨j+1,rfl,by omega,by go_num,by rw[HN3.out];exact HA10.out⟩
   ·have HN3:Hid (RT (j+1)=(q1.link al qf,(Sn.mk af al ae).then ⟨qf,ql,qe⟩)):=by
     show RT (j+1)=_;rw[HN2.out];unfold zAq zA4;rw[if_neg (by rcases hno with h|⟨h,h2⟩ <;> simp[h];exact hJ.1 h2),if_neg hle]
    have HTH:Hid (∀w6,NwIs w0 w6 nb q1->Ca 164 #[pointer (some ⟨nb,0,none⟩),agg #[int i64 (af:Int),int i64 (al:Int),bool ae],agg #[int i64 (qf:Int),int i64 (ql:Int),bool qe]] w6 fun e w'=>e=returned (agg #[int i64 (((Sn.mk af al ae).then ⟨qf,ql,qe⟩).first:Int),int i64 (((Sn.mk af al ae).then ⟨qf,ql,qe⟩).last:Int),bool ((Sn.mk af al ae).then ⟨qf,ql,qe⟩).empty])∧NwIs w0 w' nb (q1.link al qf)∧StayS w6 w'):=fun w6 h6=>HTA.out w6 h6 qe;have i2:(j:Int)<(t.least:Int):=by omega
    clear HN2 HTA HTB hle;generalize (Sn.mk af al ae).then ⟨qf,ql,qe⟩=s9 at *
    have hno2:t.endless=false∨t.endless=true∧((j:Int)==(cp:Int)-1)=false:=hno.imp_right fun h=>⟨h.1,by rw[hJ];have:=hJ.1 h.2;omega⟩
    clear hno;rcases hno2 with hen|⟨hen,hceq⟩
    all_goals
     have hen0:=vl hen;clear hen;go_wp2_with (first|(go_at_call 124;refine HC2.out.mono ?_;rintro e w5 ⟨rfl,hN5,hS5⟩;have A5:=HA.out.call hN5 hS5;obtain⟨v6,v4⟩:=HTM.out w5 _ hN5;rw[hen0.out] at v6;obtain⟨hlt5,A6,hb8⟩:=HW6.out w5 A5 qe;obtain⟨d0,d1,d2,-⟩:=zI (s:=⟨qf,ql,qe⟩) hb8;obtain⟨u6,u4⟩:=HTM.out (w5.alloc (Obj.cells #[int i64 (qf:Int),int i64 (ql:Int),bool qe] 167)) _ A6.net;rw[hen0.out] at u6;obtain⟨c0,c1,c2,-⟩:=zI A6.all;have HAW:Hid (Al w0 w (w5.alloc (Obj.cells #[int i64 (qf:Int),int i64 (ql:Int),bool qe] 167)) nb q1 ⟨af,al,ae⟩):=A6;clear A5 A6 hN5 hS5 hb8 hlt5)|(go_at_call 164;refine(HTH.out _ HAW.out.net).mono ?_;rintro e w9 ⟨rfl,hN9,hS9⟩;have A9:=HAW.out.call hN9 hS9;obtain⟨e0,e1,e2,ef⟩:=zI A9.all;have f0:=ef 0;have f1:=ef 1;have f2:=ef 2;have HA10:Hid (Al w0 w (World.span w9 (w.heap.size+1) s9) nb (q1.link al qf) s9):=A9.setAll s9;clear A9 hN9 hS9 ef))
     go_roundg (cp-(j+1))
     case measure=>rw[HB.out.1];omega
     case rel=>exact⟨j+1,rfl,by omega,by go_num,by rw[HN3.out];exact HA10.out⟩
   ·have HN3:Hid (RT (j+1)=((q1.link ql qf).link al qf,(Sn.mk af al ae).then ⟨qf,ql,true⟩)):=by
     show RT (j+1)=_;rw[HN2.out];unfold zAq zA4;rw[if_pos (by rw[hen,hq];rfl),if_pos hle]
    have HTH:Hid (∀w6,NwIs w0 w6 nb (q1.link ql qf)->Ca 164 #[pointer (some ⟨nb,0,none⟩),agg #[int i64 (af:Int),int i64 (al:Int),bool ae],agg #[int i64 (qf:Int),int i64 (ql:Int),bool true]] w6 fun e w'=>e=returned (agg #[int i64 (((Sn.mk af al ae).then ⟨qf,ql,true⟩).first:Int),int i64 (((Sn.mk af al ae).then ⟨qf,ql,true⟩).last:Int),bool ((Sn.mk af al ae).then ⟨qf,ql,true⟩).empty])∧NwIs w0 w' nb ((q1.link ql qf).link al qf)∧StayS w6 w'):=fun w6 h6=>HTB.out w6 h6 true;have i2:(j:Int)>=(t.least:Int):=by omega
    have hceq:((j:Int)==(cp:Int)-1)=true:=by rw[beq_iff_eq];have:=beq_iff_eq.1 hq;omega
    have hen0:Hid (t.endless=true):=hen;clear HN2 HTA HTB hle hq hen;generalize (Sn.mk af al ae).then ⟨qf,ql,true⟩=s9 at *
    go_wp2_with (first|(go_at_call 124;refine HC2.out.mono ?_;rintro e w5 ⟨rfl,hN5,hS5⟩;have A5:=HA.out.call hN5 hS5;obtain⟨v6,v4⟩:=HTM.out w5 _ hN5;rw[hen0.out] at v6;obtain⟨hlt5,A6,hb8⟩:=HW6.out w5 A5 qe;obtain⟨d0,d1,d2,-⟩:=zI (s:=⟨qf,ql,qe⟩) hb8;obtain⟨u6,u4⟩:=HTM.out (w5.alloc (Obj.cells #[int i64 (qf:Int),int i64 (ql:Int),bool qe] 167)) _ A6.net;rw[hen0.out] at u6;have HA6:Hid (Al w0 w (w5.alloc (Obj.cells #[int i64 (qf:Int),int i64 (ql:Int),bool qe] 167)) nb q1 ⟨af,al,ae⟩):=A6;have HB8:Hid ((w5.alloc (Obj.cells #[int i64 (qf:Int),int i64 (ql:Int),bool qe] 167)).heap[w5.heap.size]? =some (.cells #[int i64 (qf:Int),int i64 (ql:Int),bool qe] 167)):=hb8;have HLT5:Hid (w.heap.size+1<w5.heap.size):=hlt5;clear A5 A6 hN5 hS5 hb8 hlt5)|(go_at_call 166;refine(HLK.out (w5.alloc (Obj.cells #[int i64 (qf:Int),int i64 (ql:Int),bool qe] 167)) HA6.out.net).mono ?_;rintro e w7 ⟨rfl,hN7,hS7⟩;have A7:=HA6.out.call hN7 hS7;have hb7:=hS7 _ _ HB8.out;obtain⟨t6,t4⟩:=HTM.out w7 _ hN7;obtain⟨m0,m1,m2,mf⟩:=zI (s:=⟨qf,ql,qe⟩) hb7;have mf2:=mf 2;obtain⟨A8,hb9⟩:=HST.out w7 w5.heap.size HLT5.out A7 hb7;obtain⟨n0,n1,n2,-⟩:=zI (s:=⟨qf,ql,true⟩) hb9;obtain⟨c0,c1,c2,-⟩:=zI A8.all;have HAW:Hid (Al w0 w (w7.setCell ⟨w5.heap.size,2,none⟩ (bool true)) nb (q1.link ql qf) ⟨af,al,ae⟩):=A8;clear A8 hb9;clear A7 hN7 hS7 hb7 mf)|(go_at_call 164;refine(HTH.out _ HAW.out.net).mono ?_;rintro e w9 ⟨rfl,hN9,hS9⟩;have A9:=HAW.out.call hN9 hS9;obtain⟨e0,e1,e2,ef⟩:=zI A9.all;have f0:=ef 0;have f1:=ef 1;have f2:=ef 2;have HA10:Hid (Al w0 w (World.span w9 (w.heap.size+1) s9) nb ((q1.link ql qf).link al qf) s9):=A9.setAll s9;clear A9 hN9 hS9 ef))
    go_roundg (cp-(j+1))
    case measure=>rw[HB.out.1];omega
    case rel=>exact⟨j+1,rfl,by omega,by go_num,by rw[HN3.out];exact HA10.out⟩
   ·have HN3:Hid (RT (j+1)=((q1.link ql qf).link al qf,(Sn.mk af al ae).then ⟨qf,ql,qe⟩)):=by
     show RT (j+1)=_;rw[HN2.out];unfold zAq zA4;rw[if_pos (by rw[hen,hq];rfl),if_neg hle]
    have HTH:Hid (∀w6,NwIs w0 w6 nb (q1.link ql qf)->Ca 164 #[pointer (some ⟨nb,0,none⟩),agg #[int i64 (af:Int),int i64 (al:Int),bool ae],agg #[int i64 (qf:Int),int i64 (ql:Int),bool qe]] w6 fun e w'=>e=returned (agg #[int i64 (((Sn.mk af al ae).then ⟨qf,ql,qe⟩).first:Int),int i64 (((Sn.mk af al ae).then ⟨qf,ql,qe⟩).last:Int),bool ((Sn.mk af al ae).then ⟨qf,ql,qe⟩).empty])∧NwIs w0 w' nb ((q1.link ql qf).link al qf)∧StayS w6 w'):=fun w6 h6=>HTB.out w6 h6 qe;have i2:(j:Int)<(t.least:Int):=by omega
    have hceq:((j:Int)==(cp:Int)-1)=true:=by rw[beq_iff_eq];have:=beq_iff_eq.1 hq;omega
    have hen0:Hid (t.endless=true):=hen;clear HN2 HTA HTB hle hq hen;generalize (Sn.mk af al ae).then ⟨qf,ql,qe⟩=s9 at *
    go_wp2_with (first|(go_at_call 124;refine HC2.out.mono ?_;rintro e w5 ⟨rfl,hN5,hS5⟩;have A5:=HA.out.call hN5 hS5;obtain⟨v6,v4⟩:=HTM.out w5 _ hN5;rw[hen0.out] at v6;obtain⟨hlt5,A6,hb8⟩:=HW6.out w5 A5 qe;obtain⟨d0,d1,d2,-⟩:=zI (s:=⟨qf,ql,qe⟩) hb8;obtain⟨u6,u4⟩:=HTM.out (w5.alloc (Obj.cells #[int i64 (qf:Int),int i64 (ql:Int),bool qe] 167)) _ A6.net;rw[hen0.out] at u6;have HA6:Hid (Al w0 w (w5.alloc (Obj.cells #[int i64 (qf:Int),int i64 (ql:Int),bool qe] 167)) nb q1 ⟨af,al,ae⟩):=A6;have HB8:Hid ((w5.alloc (Obj.cells #[int i64 (qf:Int),int i64 (ql:Int),bool qe] 167)).heap[w5.heap.size]? =some (.cells #[int i64 (qf:Int),int i64 (ql:Int),bool qe] 167)):=hb8;have HLT5:Hid (w.heap.size+1<w5.heap.size):=hlt5;clear A5 A6 hN5 hS5 hb8 hlt5)|(go_at_call 166;refine(HLK.out (w5.alloc (Obj.cells #[int i64 (qf:Int),int i64 (ql:Int),bool qe] 167)) HA6.out.net).mono ?_;rintro e w7 ⟨rfl,hN7,hS7⟩;have A7:=HA6.out.call hN7 hS7;have hb7:=hS7 _ _ HB8.out;obtain⟨t6,t4⟩:=HTM.out w7 _ hN7;obtain⟨m0,m1,m2,mf⟩:=zI (s:=⟨qf,ql,qe⟩) hb7;have mf2:=mf 2;obtain⟨c0,c1,c2,-⟩:=zI A7.all;have HAW:Hid (Al w0 w w7 nb (q1.link ql qf) ⟨af,al,ae⟩):=A7;clear A7 hN7 hS7 hb7 mf)|(go_at_call 164;refine(HTH.out _ HAW.out.net).mono ?_;rintro e w9 ⟨rfl,hN9,hS9⟩;have A9:=HAW.out.call hN9 hS9;obtain⟨e0,e1,e2,ef⟩:=zI A9.all;have f0:=ef 0;have f1:=ef 1;have f2:=ef 2;have HA10:Hid (Al w0 w (World.span w9 (w.heap.size+1) s9) nb ((q1.link ql qf).link al qf) s9):=A9.setAll s9;clear A9 hN9 hS9 ef))
    go_roundg (cp-(j+1))
    case measure=>rw[HB.out.1];omega
    case rel=>exact⟨j+1,rfl,by omega,by go_num,by rw[HN3.out];exact HA10.out⟩
  ·have i1:(cp:Int)<=(j:Int):=by omega
   have e:j=cp:=by omega
   subst e;rw[HRT.out.2.2.2.2] at hA;obtain⟨c0,c1,c2,-⟩:=zI hA.all;obtain⟨r0,r1,r2,rf⟩:=zI hA.res;have f0:=rf 0;have f1:=rf 1;have f2:=rf 2;have HF:Hid (Al w0 w wr nb RE.1 RE.2):=hA;clear hgk hA rf;go_wp2;obtain⟨w9,hw9,K9,z0,z1,z2⟩:∃w9,w9=((wr.setCell ⟨w.heap.size,0,none⟩ (int i64 (RE.2.first:Int))).setCell ⟨w.heap.size,1,none⟩ (int i64 (RE.2.last:Int))).setCell ⟨w.heap.size,2,none⟩ (bool RE.2.empty)∧Hid (NwIs w0 w9 nb RE.1∧StayS w w9)∧w9.cell? ⟨w.heap.size,0,none⟩=some (int i64 (RE.2.first:Int))∧w9.cell? ⟨w.heap.size,1,none⟩=some (int i64 (RE.2.last:Int))∧w9.cell? ⟨w.heap.size,2,none⟩=some (bool RE.2.empty):=by
    obtain⟨h1,h2,h3,h4,h5⟩:=HF.out.fin RE.2;exact⟨_,rfl,⟨h1,h2⟩,h3,h4,h5⟩
   rw[<-hw9];clear hw9;refine dZ (v:=agg #[int i64 (RE.2.first:Int),int i64 (RE.2.last:Int),bool RE.2.empty]) (by simp[results,results126,go_sem,z0,z1,z2]) rfl ?_;exact⟨rfl,K9.out.1,K9.out.2⟩
theorem zLv (t:Tr):t.copies<=t.least+t.most+1:=by
 unfold Tr.copies;split
 ·split <;> omega
 ·omega
theorem zEI (w0:World)(nb:Nat):∀d,zB1 w0 nb d (xC d) (yQ d)
 |0=>fun w n b t _ _ h _=>h.elim
 |d+1=>by
  have ih:=zEI w0 nb d;intro w n b t h hg ht hl;have HT:=vl ht;obtain⟨hbl,rv,pv,hb,hrange,ao,cap,rfl,⟨_,hb1,hb2,hb3⟩,_,_⟩:=ht;obtain⟨ra,rc,hrv,-⟩:=id hrange;subst hrv;obtain⟨w1,hw1,HR1⟩:∃w1,w1=w.alloc (.cells #[int i64 0,int i64 0,bool false] 167)∧Hid (NwIs w0 w1 nb n∧w1.heap[w.heap.size]? =some (.cells (Sn.mk 0 0 false).cells 167)∧StayS w w1∧w0.heap.size<=w.heap.size):=by
   have k1:=kZ (b:=w.heap.size) w (.cells #[int i64 0,int i64 0,bool false] 167) lQ;exact⟨_,rfl,h.grown k1,gJ _ _,k1.stayS,by obtain⟨_,_,_,_,_,h⟩:=h;exact h.keep.size⟩
  have hk0:Grew w0 w1:=by obtain⟨_,_,_,_,_,h⟩:=HR1.out.1;exact h.keep
  have hb4:=(hk0.block b hbl (kJ hbl)).trans hb;have y0:w1.cell? ⟨b,0,none⟩=some (int i64 (t.kind:Int)):=by unfold cell?;rw[hb4];rfl
  have y1:w1.cell? ⟨b,1,none⟩=some (slice ra t.set.ranges.length rc):=by unfold cell?;rw[hb4];rfl
  have y2:w1.cell? ⟨b,2,none⟩=some (bool t.set.others):=by unfold cell?;rw[hb4];rfl
  have HFIN:Hid (∀w5,NwIs w0 w5 nb (xC (d+1) n t).1->StayS w1 w5->∃w9,w9=((w5.setCell ⟨w.heap.size,0,none⟩ (int i64 ((xC (d+1) n t).2.first:Int))).setCell ⟨w.heap.size,1,none⟩ (int i64 ((xC (d+1) n t).2.last:Int))).setCell ⟨w.heap.size,2,none⟩ (bool (xC (d+1) n t).2.empty)∧Hid (NwIs w0 w9 nb (xC (d+1) n t).1∧StayS w w9)∧w9.cell? ⟨w.heap.size,0,none⟩=some (int i64 ((xC (d+1) n t).2.first:Int))∧w9.cell? ⟨w.heap.size,1,none⟩=some (int i64 ((xC (d+1) n t).2.last:Int))∧w9.cell? ⟨w.heap.size,2,none⟩=some (bool (xC (d+1) n t).2.empty)):=by
   intro w5 hN5 hS5;obtain⟨h1,h2,h3⟩:=zEO (s':=(xC (d+1) n t).2) (hS5 _ _ HR1.out.2.1);obtain⟨c0,c1,c2,_⟩:=zI h1;exact⟨_,rfl,⟨h3 _ _ _ hN5 HR1.out.2.2.2,fun k c hk=>by
    have hl:=(kQ.1 hk).1;exact(h2 k (by omega)).trans (hS5 _ _ (HR1.out.2.2.1 k c hk))⟩,c0,c1,c2⟩
  go_in;apply wp_cut;intro K0 J;go_wp2;apply J.out;rw[<-hw1];clear hw1;by_cases hk1:t.kind=1
  ·have HE:Hid (xC (d+1) n t=(n.place t.set,n.spot)):=by show xC (d+1) n t=_;unfold xC;rw[if_pos hk1]
   have HCALL:=vl <| zH2 w0 w1 nb n HR1.out.1 hg.len (by rw[hg.same];exact hg.len) _ t.set hrange;have HC2:Hid (Ca 123 #[pointer (some ⟨nb,0,none⟩),agg #[slice ra t.set.ranges.length rc,bool t.set.others]] w1 fun e w'=>e=returned (agg #[int i64 ((xC (d+1) n t).2.first:Int),int i64 ((xC (d+1) n t).2.last:Int),bool (xC (d+1) n t).2.empty])∧NwIs w0 w' nb (xC (d+1) n t).1∧StayS w1 w'):=by
    show Calls _ _ _ _ _;rw[HE.out];exact HCALL.out
   clear HE HCALL;have d1:((t.kind:Int)==1)=true:=by rw[beq_iff_eq];omega
   generalize xC (d+1) n t=RE at *;clear hk1;go_wp2_with (first|(go_at_call 123;refine HC2.out.mono ?_;rintro e w5 ⟨rfl,hN5,hS5⟩;obtain⟨r0,r1,r2,rf⟩:=zI (s:=⟨0,0,false⟩) (hS5 _ _ HR1.out.2.1);have f0:=rf 0;have f1:=rf 1;have f2:=rf 2;clear rf))
   obtain⟨w9,hw9,K9,z0,z1,z2⟩:=HFIN.out w5 hN5 hS5;rw[<-hw9];clear hw9;refine dZ (v:=agg #[int i64 (RE.2.first:Int),int i64 (RE.2.last:Int),bool RE.2.empty]) (by simp[results,results89,go_sem,z0,z1,z2]) rfl ?_;exact⟨rfl,K9.out.1,K9.out.2⟩
  by_cases hk2:t.kind=2
  ·have HE:Hid (xC (d+1) n t=rowTo (xC d) n t.parts t.parts.length):=by show xC (d+1) n t=_;unfold xC;rw[if_neg hk1,if_pos hk2]
   have HCALL:=vl <| zC8 w0 nb d (xC d) (yQ d) ih (jW d) w1 n b t HR1.out.1 hg HT.out (by unfold yQ at hl;rw[if_neg hk1,if_pos (Or.inl hk2)] at hl;exact hl) hb1;have HC2:Hid (Ca 124 #[pointer (some ⟨nb,0,none⟩),pointer (some ⟨b,0,none⟩)] w1 fun e w'=>e=returned (agg #[int i64 ((xC (d+1) n t).2.first:Int),int i64 ((xC (d+1) n t).2.last:Int),bool (xC (d+1) n t).2.empty])∧NwIs w0 w' nb (xC (d+1) n t).1∧StayS w1 w'):=by
    show Calls _ _ _ _ _;rw[HE.out];exact HCALL.out
   clear HE HCALL;have d1:((t.kind:Int)==1)=false:=by rw[hJ];omega
   have d2:((t.kind:Int)==2)=true:=by rw[beq_iff_eq];omega
   generalize xC (d+1) n t=RE at *;clear hk1 hk2;go_wp2_with (first|(go_at_call 124;refine HC2.out.mono ?_;rintro e w5 ⟨rfl,hN5,hS5⟩;obtain⟨r0,r1,r2,rf⟩:=zI (s:=⟨0,0,false⟩) (hS5 _ _ HR1.out.2.1);have f0:=rf 0;have f1:=rf 1;have f2:=rf 2;clear rf))
   obtain⟨w9,hw9,K9,z0,z1,z2⟩:=HFIN.out w5 hN5 hS5;rw[<-hw9];clear hw9;refine dZ (v:=agg #[int i64 (RE.2.first:Int),int i64 (RE.2.last:Int),bool RE.2.empty]) (by simp[results,results89,go_sem,z0,z1,z2]) rfl ?_;exact⟨rfl,K9.out.1,K9.out.2⟩
  by_cases hk3:t.kind=3
  ·have HE:Hid (xC (d+1) n t=jB (xC d) n t.parts t.parts.length):=by show xC (d+1) n t=_;unfold xC;rw[if_neg hk1,if_neg hk2,if_pos hk3]
   have HCALL:=vl <| zEk w0 nb d (xC d) (yQ d) ih (jW d) w1 n b t HR1.out.1 hg HT.out (by unfold yQ at hl;rw[if_neg hk1,if_pos (Or.inr hk3)] at hl;exact hl) hb1;have HC2:Hid (Ca 125 #[pointer (some ⟨nb,0,none⟩),pointer (some ⟨b,0,none⟩)] w1 fun e w'=>e=returned (agg #[int i64 ((xC (d+1) n t).2.first:Int),int i64 ((xC (d+1) n t).2.last:Int),bool (xC (d+1) n t).2.empty])∧NwIs w0 w' nb (xC (d+1) n t).1∧StayS w1 w'):=by
    show Calls _ _ _ _ _;rw[HE.out];exact HCALL.out
   clear HE HCALL;have d1:((t.kind:Int)==1)=false:=by rw[hJ];omega
   have d2:((t.kind:Int)==2)=false:=by rw[hJ];omega
   have d3:((t.kind:Int)==3)=true:=by rw[beq_iff_eq];omega
   generalize xC (d+1) n t=RE at *;clear hk1 hk2 hk3;go_wp2_with (first|(go_at_call 125;refine HC2.out.mono ?_;rintro e w5 ⟨rfl,hN5,hS5⟩;obtain⟨r0,r1,r2,rf⟩:=zI (s:=⟨0,0,false⟩) (hS5 _ _ HR1.out.2.1);have f0:=rf 0;have f1:=rf 1;have f2:=rf 2;clear rf))
   obtain⟨w9,hw9,K9,z0,z1,z2⟩:=HFIN.out w5 hN5 hS5;rw[<-hw9];clear hw9;refine dZ (v:=agg #[int i64 (RE.2.first:Int),int i64 (RE.2.last:Int),bool RE.2.empty]) (by simp[results,results89,go_sem,z0,z1,z2]) rfl ?_;exact⟨rfl,K9.out.1,K9.out.2⟩
  by_cases hk4:t.kind=4
  ·have HE:Hid (xC (d+1) n t=xT (xC d) n t t.copies):=by show xC (d+1) n t=_;unfold xC;rw[if_neg hk1,if_neg hk2,if_neg hk3,if_pos hk4]
   have HCALL:=vl <| zFd w0 nb d (xC d) (yQ d) ih (jW d) w1 n b t HR1.out.1 hg HT.out (by unfold yQ at hl;rw[if_neg hk1,if_neg (by omega),if_pos hk4] at hl;exact hl) hb1 (by have:=zLv t;omega) (by omega);have HC2:Hid (Ca 126 #[pointer (some ⟨nb,0,none⟩),pointer (some ⟨b,0,none⟩)] w1 fun e w'=>e=returned (agg #[int i64 ((xC (d+1) n t).2.first:Int),int i64 ((xC (d+1) n t).2.last:Int),bool (xC (d+1) n t).2.empty])∧NwIs w0 w' nb (xC (d+1) n t).1∧StayS w1 w'):=by
    show Calls _ _ _ _ _;rw[HE.out];exact HCALL.out
   clear HE HCALL;have d1:((t.kind:Int)==1)=false:=by rw[hJ];omega
   have d2:((t.kind:Int)==2)=false:=by rw[hJ];omega
   have d3:((t.kind:Int)==3)=false:=by rw[hJ];omega
   have d4:((t.kind:Int)==4)=true:=by rw[beq_iff_eq];omega
   generalize xC (d+1) n t=RE at *;clear hk1 hk2 hk3 hk4;go_wp2_with (first|(go_at_call 126;refine HC2.out.mono ?_;rintro e w5 ⟨rfl,hN5,hS5⟩;obtain⟨r0,r1,r2,rf⟩:=zI (s:=⟨0,0,false⟩) (hS5 _ _ HR1.out.2.1);have f0:=rf 0;have f1:=rf 1;have f2:=rf 2;clear rf))
   obtain⟨w9,hw9,K9,z0,z1,z2⟩:=HFIN.out w5 hN5 hS5;rw[<-hw9];clear hw9;refine dZ (v:=agg #[int i64 (RE.2.first:Int),int i64 (RE.2.last:Int),bool RE.2.empty]) (by simp[results,results89,go_sem,z0,z1,z2]) rfl ?_;exact⟨rfl,K9.out.1,K9.out.2⟩
  ·have HE:Hid (xC (d+1) n t=(n,⟨0,0,true⟩)):=by show xC (d+1) n t=_;unfold xC;rw[if_neg hk1,if_neg hk2,if_neg hk3,if_neg hk4]
   rw[HE.out] at HFIN ⊢;have d1:((t.kind:Int)==1)=false:=by rw[hJ];omega
   have d2:((t.kind:Int)==2)=false:=by rw[hJ];omega
   have d3:((t.kind:Int)==3)=false:=by rw[hJ];omega
   have d4:((t.kind:Int)==4)=false:=by rw[hJ];omega
   obtain⟨r0,r1,r2,rf⟩:=zI (s:=⟨0,0,false⟩) HR1.out.2.1;have f0:=rf 0;have f1:=rf 1;have f2:=rf 2;clear hk1 hk2 hk3 hk4 rf;go_wp2;obtain⟨w9,hw9,K9,z0,z1,z2⟩:=HFIN.out w1 HR1.out.1 (StayS.refl _);have hw9':w9=((w1.setCell ⟨w.heap.size,0,none⟩ (int i64 0)).setCell ⟨w.heap.size,1,none⟩ (int i64 0)).setCell ⟨w.heap.size,2,none⟩ (bool true):=hw9;have z0':w9.cell? ⟨w.heap.size,0,none⟩=some (int i64 0):=z0;have z1':w9.cell? ⟨w.heap.size,1,none⟩=some (int i64 0):=z1;have z2':w9.cell? ⟨w.heap.size,2,none⟩=some (bool true):=z2;rw[<-hw9'];clear hw9 hw9';refine dZ (v:=agg #[int i64 0,int i64 0,bool true]) (by simp[results,results89,go_sem,z0',z1',z2']) rfl ?_;exact⟨rfl,K9.out.1,K9.out.2⟩
section
section
variable {w0 w w2:World} {nb:Nat} {n:Nt} {sv fv rv ev:Value} {ps:List (Value×Bool)}
theorem Nw.addRule {o:Obj}{g cap m x:Nat}(h:Nw w0 w nb n sv fv rv ev ps)(hm:m=n.rules.length)(hown:w2.ownsRow w0.heap.size 3 1 (slice (some ⟨g,0,none⟩) (m+1) cap) (m+1) (((ints n.rules).map fun x=>int i64 x)++[int i64 (x:Int)]))(hg:(w.alloc o).grownBy w2 rv.ownBlock)(hat:rv.ownBlock=some g∨w.heap.size<=g):
  Nw w0 (w2.setCell ⟨nb,4,none⟩ (slice (some ⟨g,0,none⟩) (m+1) cap)) nb {n with rules:=n.rules++[x]} sv fv (slice (some ⟨g,0,none⟩) (m+1) cap) ev ps∧StayS w (w2.setCell ⟨nb,4,none⟩ (slice (some ⟨g,0,none⟩) (m+1) cap)):=by
 subst hm;have hbx:=h.box;have hlt:=h.lt;have hbl:∀j,j<w.heap.size->some j≠rv.ownBlock->w2.heap[j]? =w.heap[j]? :=fun j hj hf=>(hg.block j (by simp;omega) hf).trans (lG _ _ _ (by omega));have hsz:w.heap.size<=w2.heap.size:=lY (by simp) hg.size;have hb:=(hbl nb hlt hbx.2.2.1).trans h.blk;have e:∀k,k≠nb->(w2.setCell ⟨nb,4,none⟩ (slice (some ⟨g,0,none⟩) (n.rules.length+1) cap)).heap[k]? =w2.heap[k]? :=fun k hk=>lJ _ _ _ _ hk;have hs2:=zR hg h.sOwn fun k hk=>xN h.sOwn h.rOwn (by decide) hk;have hf2:=zR hg h.fOwn h.fr;have he2:=zR hg h.eOwn fun k hk=>xN h.eOwn h.rOwn (by decide) hk;have hgm:nb≠g:=fun e2=>by
  rcases hat with ha|ha
  ·exact hbx.2.2.1 (by rw[ha,e2])
  ·omega
 have hO1:OwnI w2 w0.heap.size (slice (some ⟨g,0,none⟩) (n.rules.length+1) cap) (ints (n.rules++[x])):=by
  rw[zA6];have:=zN n.rules;have h2:=OwnI.snoc (l:=ints n.rules) (x:=(x:Int)) (by rw[this];exact hown);rw[this] at h2;exact h2
 refine⟨⟨by simp[setCell,lU,hb],zD hs2 fun k _ _ hk=>e k fun e2=>hbx.1 (by rw[hk,e2]),h.plen,h.each,zD hf2 fun k _ _ hk=>e k fun e2=>hbx.2.1 (by rw[hk,e2]),zD hO1 fun k _ _ hk=>e k fun e2=>?_,zD he2 fun k _ _ hk=>e k fun e2=>hbx.2.2.2 (by rw[hk,e2]),zCg (yX h.fOwn (fun g hg e=>h.fr g e.symm hg.symm) hat),h.nH,h.keep.trans ⟨hg.os,hg.output,by rw[zC];exact hsz,fun k hk _=>(e k (by have:=h.nH;omega)).trans (hbl k (by have:=h.keep.size;omega) fun e2=>by have:=(h.rOwn.lt k e2.symm).1;omega)⟩⟩,fun k cc hk=>?_⟩
 ·have:g=k:=by simpa[Value.ownBlock] using hk
  omega
 ·have hl:=(kQ.1 hk).1
  have hkm:k≠nb:=fun e2=>by
   rw[e2,h.blk] at hk;injection hk with hk;injection hk with _ hk;exact absurd hk (by decide)
  exact(e k hkm).trans ((hbl k hl (zM h.rOwn hk (by decide))).trans hk)
theorem Nw.addEmpty {o:Obj}{g cap m:Nat}{x:Bool}(h:Nw w0 w nb n sv fv rv ev ps)(hm:m=n.empty.length)(hown:w2.ownsRow w0.heap.size 4 1 (slice (some ⟨g,0,none⟩) (m+1) cap) (m+1) ((n.empty.map fun x=>bool x)++[bool x]))(hg:(w.alloc o).grownBy w2 ev.ownBlock)(hat:ev.ownBlock=some g∨w.heap.size<=g):
  Nw w0 (w2.setCell ⟨nb,5,none⟩ (slice (some ⟨g,0,none⟩) (m+1) cap)) nb {n with empty:=n.empty++[x]} sv fv rv (slice (some ⟨g,0,none⟩) (m+1) cap) ps∧StayS w (w2.setCell ⟨nb,5,none⟩ (slice (some ⟨g,0,none⟩) (m+1) cap)):=by
 subst hm;have hbx:=h.box;have hlt:=h.lt;have hbl:∀j,j<w.heap.size->some j≠ev.ownBlock->w2.heap[j]? =w.heap[j]? :=fun j hj hf=>(hg.block j (by simp;omega) hf).trans (lG _ _ _ (by omega));have hsz:w.heap.size<=w2.heap.size:=lY (by simp) hg.size;have hb:=(hbl nb hlt hbx.2.2.2).trans h.blk;have e:∀k,k≠nb->(w2.setCell ⟨nb,5,none⟩ (slice (some ⟨g,0,none⟩) (n.empty.length+1) cap)).heap[k]? =w2.heap[k]? :=fun k hk=>lJ _ _ _ _ hk;have hs2:=zR hg h.sOwn fun k hk=>xN h.sOwn h.eOwn (by decide) hk;have hf2:=zR hg h.fOwn fun k hk=>xN h.fOwn h.eOwn (by decide) hk;have hr2:=zR hg h.rOwn fun k hk=>xN h.rOwn h.eOwn (by decide) hk;have hgm:nb≠g:=fun e2=>by
  rcases hat with ha|ha
  ·exact hbx.2.2.2 (by rw[ha,e2])
  ·omega
 have hO1:=OwnB.snoc hown;refine⟨⟨by simp[setCell,lU,hb],zD hs2 fun k _ _ hk=>e k fun e2=>hbx.1 (by rw[hk,e2]),h.plen,h.each,zD hf2 fun k _ _ hk=>e k fun e2=>hbx.2.1 (by rw[hk,e2]),zD hr2 fun k _ _ hk=>e k fun e2=>hbx.2.2.1 (by rw[hk,e2]),zD hO1 fun k _ _ hk=>e k fun e2=>?_,h.fr,h.nH,h.keep.trans ⟨hg.os,hg.output,by rw[zC];exact hsz,fun k hk _=>(e k (by have:=h.nH;omega)).trans (hbl k (by have:=h.keep.size;omega) fun e2=>by have:=(h.eOwn.lt k e2.symm).1;omega)⟩⟩,fun k cc hk=>?_⟩
 ·have:g=k:=by simpa[Value.ownBlock] using hk
  omega
 ·have hl:=(kQ.1 hk).1
  have hkm:k≠nb:=fun e2=>by
   rw[e2,h.blk] at hk;injection hk with hk;injection hk with _ hk;exact absurd hk (by decide)
  exact(e k hkm).trans ((hbl k hl (zM h.eOwn hk (by decide))).trans hk)
theorem Nw.setNet {i:Nat}{x:Value}{n2:Nt}(h:Nw w0 w nb n sv fv rv ev ps)(hs:n2.sets=n.sets)(hf:n2.follow=n.follow)(hr:n2.rules=n.rules)(he:n2.empty=n.empty)(hb:(w.setCell ⟨nb,i,none⟩ x).heap[nb]? =some (.cells #[sv,fv,int i64 (n2.first:Int),int i64 (n2.ends:Int),rv,ev] 132)):Nw w0 (w.setCell ⟨nb,i,none⟩ x) nb n2 sv fv rv ev ps∧StayS w (w.setCell ⟨nb,i,none⟩ x):=by
 have e:∀k,k≠nb->(w.setCell ⟨nb,i,none⟩ x).heap[k]? =w.heap[k]? :=fun k hk=>lJ _ _ _ _ hk;have hbx:=h.box;refine⟨⟨hb,by rw[hs];exact zD h.sOwn fun k _ _ hk=>e k fun e2=>hbx.1 (by rw[hk,e2]),by rw[hs];exact h.plen,by rw[hs];exact h.each,by rw[hf];exact zD h.fOwn fun k _ _ hk=>e k fun e2=>hbx.2.1 (by rw[hk,e2]),by rw[hr];exact zD h.rOwn fun k _ _ hk=>e k fun e2=>hbx.2.2.1 (by rw[hk,e2]),by rw[he];exact zD h.eOwn fun k _ _ hk=>e k fun e2=>hbx.2.2.2 (by rw[hk,e2]),h.fr,h.nH,h.keep.trans (zO _ _ _ _ h.nH)⟩,fun k c hk=>(e k fun e2=>?_).trans hk⟩;rw[e2,h.blk] at hk;injection hk with hk;injection hk with _ hk;exact absurd hk (by decide)
theorem Nw.setFirst (h:Nw w0 w nb n sv fv rv ev ps)(x:Nat):Nw w0 (w.setCell ⟨nb,2,none⟩ (int i64 (x:Int))) nb {n with first:=x} sv fv rv ev ps∧StayS w (w.setCell ⟨nb,2,none⟩ (int i64 (x:Int))):=h.setNet rfl rfl rfl rfl (by simp[setCell,lU,h.blk])
theorem Nw.setEnds (h:Nw w0 w nb n sv fv rv ev ps)(x:Nat):Nw w0 (w.setCell ⟨nb,3,none⟩ (int i64 (x:Int))) nb {n with ends:=x} sv fv rv ev ps∧StayS w (w.setCell ⟨nb,3,none⟩ (int i64 (x:Int))):=h.setNet rfl rfl rfl rfl (by simp[setCell,lU,h.blk])
end
def Nt.blank:Nt:=⟨[],[],0,0,[],[]⟩
def zL0 (before:Nat)(q:Nt×Sn):Nt:={q.1 with first:=q.1.first|||q.2.first,ends:=q.1.ends|||q.2.last,rules:=q.1.rules++[2^q.1.sets.length-2^before],empty:=q.1.empty++[q.2.empty]}
def xJ (d:Nat)(rules:List Tr):Nat->Nt
 |0=>Nt.blank
 |j+1=>zL0 (xJ d rules j).sets.length (xC d (xJ d rules j) (rules.getD j Tr.none))
theorem Nw.begin (w:World):Nw w (w.alloc (.cells #[slice none 0 0,slice none 0 0,int i64 0,int i64 0,slice none 0 0,slice none 0 0] 132)) w.heap.size Nt.blank (slice none 0 0) (slice none 0 0) (slice none 0 0) (slice none 0 0) []:=
 ⟨gJ _ _,ownsRow_nil _ _ _ _,rfl,fun i hi=>absurd hi (Nat.not_lt_zero _),OwnI.nil _ _,OwnI.nil _ _,ownsRow_nil _ _ _ _,fun g hg=>(by cases hg),lQ,kZ _ _ lQ⟩
theorem zAF (d:Nat)(rules:List Tr)(j:Nat)(hl:zW (yQ d) rules j<=24):(xJ d rules j).Good∧(xJ d rules j).sets.length=zW (yQ d) rules j:=by
 induction j with
 |zero=>exact⟨⟨lX,rfl,fun x hx=>absurd hx List.not_mem_nil⟩,rfl⟩
 |succ j ih=>
  have hl2:zW (yQ d) rules j+yQ d (rules.getD j Tr.none)<=24:=hl;obtain⟨h1,h2⟩:=ih (by omega);obtain⟨g1,g2,g3⟩:=jW d (xJ d rules j) (rules.getD j Tr.none) h1 (by omega);exact⟨⟨g1.len,g1.same,g1.fol⟩,by show(xC d (xJ d rules j) (rules.getD j Tr.none)).1.sets.length=zW (yQ d) rules j+_;omega⟩
end
def Nt.Same (a b:Nt):Prop:=a.first=b.first∧a.ends=b.ends∧a.rules=b.rules∧a.empty=b.empty
theorem Nt.Same.refl (a:Nt):a.Same a:=⟨rfl,rfl,rfl,rfl⟩
theorem Nt.Same.trans {a b c:Nt}(h:a.Same b)(h':b.Same c):a.Same c:=⟨h.1.trans h'.1,h.2.1.trans h'.2.1,h.2.2.1.trans h'.2.2.1,h.2.2.2.trans h'.2.2.2⟩
theorem zDD (n:Nt)(a b:Nat):(n.link a b).Same n:=by
 have:=zBQ n a b n.follow.length;exact⟨this.2.2.2.1,this.2.2.2.2,this.2.1,this.2.2.1⟩
def Still (sub:Lay):Prop:=∀n t,(sub n t).1.Same n
theorem zD0 {sub:Lay}(h:Still sub)(n:Nt)(parts:List Tr)(j:Nat):(rowTo sub n parts j).1.Same n:=by
 induction j with
 |zero=>exact Nt.Same.refl _
 |succ j ih=>exact((zDD _ _ _).trans (h _ _)).trans ih
theorem zHe {sub:Lay}(h:Still sub)(n:Nt)(parts:List Tr)(j:Nat):(jB sub n parts j).1.Same n:=by
 induction j with
 |zero=>exact Nt.Same.refl _
 |succ j ih=>exact(h _ _).trans ih
theorem zJm (t:Tr)(j:Nat)(q:Nt×Sn):(zAq t j q).Same q.1:=by
 unfold zAq;split
 ·exact zDD _ _ _
 ·exact Nt.Same.refl _
theorem zF0 {sub:Lay}(h:Still sub)(n:Nt)(t:Tr)(j:Nat):(xT sub n t j).1.Same n:=by
 induction j with
 |zero=>exact Nt.Same.refl _
 |succ j ih=>exact(((zDD _ _ _).trans (zJm _ _ _)).trans (zD0 h _ _ _)).trans ih
theorem zFc (d:Nat):Still (xC d):=by
 induction d with
 |zero=>exact fun n t=>Nt.Same.refl _
 |succ d ih=>
  intro n t;unfold xC;split
  ·exact⟨rfl,rfl,rfl,rfl⟩
  ·split
   ·exact zD0 ih _ _ _
   ·split
    ·exact zHe ih _ _ _
    ·split
     ·exact zF0 ih _ _ _
     ·exact Nt.Same.refl _
structure Nt.Laid (n:Nt)(j:Nat):Prop where
 first:n.first<2^n.sets.length
 ends:n.ends<2^n.sets.length
 rules:∀x∈n.rules,x<2^n.sets.length
 rlen:n.rules.length=j
 elen:n.empty.length=j
theorem zBn (d:Nat)(rules:List Tr)(j:Nat)(hl:zW (yQ d) rules j<=24):(xJ d rules j).Laid j:=by
 induction j with
 |zero=>exact⟨(by decide:0<2^0),(by decide:0<2^0),fun x hx=>absurd hx List.not_mem_nil,rfl,rfl⟩
 |succ j ih=>
  have hl2:zW (yQ d) rules j+yQ d (rules.getD j Tr.none)<=24:=hl;obtain⟨h1,h2⟩:=zAF d rules j (by omega);have h3:=ih (by omega);obtain⟨g1,g2,g3⟩:=jW d (xJ d rules j) (rules.getD j Tr.none) h1 (by omega);obtain⟨s1,s2,s3,s4⟩:=zFc d (xJ d rules j) (rules.getD j Tr.none);rw[<-g2] at g3;have hp:2^(xJ d rules j).sets.length<=2^(xC d (xJ d rules j) (rules.getD j Tr.none)).1.sets.length:=kG (by omega) (by omega);have hp0:0<2^(xJ d rules j).sets.length:=Nat.pow_pos (by omega);refine⟨Nat.or_lt_two_pow (by rw[s1];exact lZ h3.first hp) g3.first,Nat.or_lt_two_pow (by rw[s2];exact lZ h3.ends hp) g3.last,fun x hx=>?_,?_,?_⟩
  ·show x<2^(xC d (xJ d rules j) (rules.getD j Tr.none)).1.sets.length
   have hx2:=hx;rcases kU.1 hx2 with h4|h4
   ·rw[s3] at h4
    exact lZ (h3.rules x h4) hp
   ·rw[kY.1 h4]
    omega
  ·show((xC d (xJ d rules j) (rules.getD j Tr.none)).1.rules++[_]).length=j+1
   rw[s3,kX,h3.rlen];rfl
  ·show((xC d (xJ d rules j) (rules.getD j Tr.none)).1.empty++[_]).length=j+1
   rw[s4,kX,h3.elen];rfl
theorem zN9 (d:Nat)(rules:List Tr)(hl:zW (yQ d) rules rules.length<=24)(h8:rules.length<=8):(xJ d rules rules.length).Ok:=by
 have h1:=zAF d rules rules.length hl;have h2:=zBn d rules rules.length hl;exact⟨h1.1.len,h1.1.same,h1.1.fol,h2.first,h2.ends,by rw[h2.rlen];exact h8,h2.rules⟩
theorem Nw.netAt {w0 w:World}{nb:Nat}{n:Nt}{sv fv rv ev:Value}{ps:List (Value×Bool)}(h:Nw w0 w nb n sv fv rv ev ps):NetAt w nb n sv fv rv ev:=by
 obtain⟨c0,c1,c2,c3,c4,c5,_⟩:=h.cells;refine⟨h.lt,c0,c1,c2,c3,c4,c5,?_,zAE h.fOwn,zAE h.rOwn,zGd h.eOwn fun g hg=>(h.eOwn.lt g hg).2⟩;have hgi:∀i,i<n.sets.length->RangesAt w (ps.getD i (undef,false)).1 (n.sets.getD i ⟨[],false⟩).ranges:=fun i hi=>(h.each i hi).1.grown h.keep;rcases h.sOwn.2 with⟨hv,h0⟩|⟨g,cap,cur,hv,hH,hh,h1,h2,h3,h4⟩
 ·exact⟨none,0,by rw[hv,h0],by omega,by unfold maxLen;omega,fun i hi=>by omega⟩
 ·have hgl:=(h.sOwn.lt g (by rw[hv];rfl)).2
  refine⟨some ⟨g,0,none⟩,cap,hv,h1,h2,fun i hi=>⟨g,0,(ps.getD i (undef,false)).1,rfl,hgl,?_,?_,hgi i hi⟩⟩
  ·have:=h.sOwn.cells (g:=g) (by rw[hv];rfl) (i*2) _ (zDX ps i (by rw[h.plen];exact hi)).1
   rw[Addr.add_lit] at this;rw[Nat.zero_add] at this ⊢;exact this
  ·have:=h.sOwn.cells (g:=g) (by rw[hv];rfl) (i*2+1) _ (zDX ps i (by rw[h.plen];exact hi)).2
   rw[Addr.add_lit,(h.each i hi).2] at this;rw[Nat.zero_add] at this ⊢;exact this
end Go.Proofs.YtbjcfkdnjaiclaaGreat
