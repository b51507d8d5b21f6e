import Derived.Deep.DrawnRows
import Derived.Deep.RegionLaw
import Derived.Test.YtbjcfkdnjaiclaaGreatK0
import Derived.Test.YtbjcfkdnjaiclaaGreatK13
/- Parts of the proof. -/
set_option linter.unusedVariables false
set_option linter.unusedSimpArgs false
set_option maxHeartbeats 4000000
set_option maxRecDepth 100000
namespace Go.Proofs.YtbjcfkdnjaiclaaGreat
open Go.RowKit Go.Proofs.Tryz Go.World
open Go.Value (int slice bool pointer string agg tuple)
open Go.IntKind (i64)
open Go.Ending (returned)
section
structure Sn where
 first:Nat
 last:Nat
 empty:Bool
def Sn.val (s:Sn):Value:=agg #[int i64 (s.first:Int),int i64 (s.last:Int),bool s.empty]
def Sn.cells (s:Sn):Array Value:=#[int i64 (s.first:Int),int i64 (s.last:Int),bool s.empty]
def Sn.then (a b:Sn):Sn:=⟨if a.empty then a.first|||b.first else a.first,if b.empty then b.last|||a.last else b.last,a.empty&&b.empty⟩
structure Sn.Small (s:Sn)(k:Nat):Prop where
 first:s.first<2^k
 last:s.last<2^k
theorem Sn.then_small {a b:Sn}{k:Nat}(d:a.Small k)(e:b.Small k):(a.then b).Small k:=by
 constructor
 ·show(if _ then _ else _)<_
  split
  ·exact Nat.or_lt_two_pow d.first e.first
  ·exact d.first
 ·show(if _ then _ else _)<_
  split
  ·exact Nat.or_lt_two_pow e.last d.last
  ·exact e.last
theorem NwIs.grown {w0 w w2:World}{nb:Nat}{n:Nt}(d:NwIs w0 w nb n)(e:Grew w w2):NwIs w0 w2 nb n:=by
 obtain⟨sv,f,rv,g,i,d⟩:=d;exact⟨sv,f,rv,g,i,d.grown e⟩
structure Three (w0 w wr:World)(nb:Nat)(n:Nt)(a b c:Sn):Prop where
 net:NwIs w0 wr nb n
 a1:wr.heap[w.heap.size]? =some (.cells a.cells 167)
 b1:wr.heap[w.heap.size+1]? =some (.cells b.cells 167)
 c1:wr.heap[w.heap.size+1+1]? =some (.cells c.cells 167)
 stay:StayS w wr
 old:w0.heap.size<=w.heap.size
section
variable {w0 w wr w2:World} {nb:Nat} {n:Nt} {a b c:Sn}
theorem Three.at (d:Three w0 w wr nb n a b c):wr.cell? ⟨w.heap.size,0,none⟩=some (iX (a.first:Int))/\wr.cell? ⟨w.heap.size,1,none⟩=some (iX (a.last:Int))/\wr.cell? ⟨w.heap.size,2,none⟩=some (bool a.empty)/\wr.cell? ⟨w.heap.size+1,0,none⟩=some (iX (b.first:Int))/\wr.cell? ⟨w.heap.size+1,1,none⟩=some (iX (b.last:Int))/\wr.cell? ⟨w.heap.size+1,2,none⟩=some (bool b.empty)/\wr.cell? ⟨w.heap.size+1+1,0,none⟩=some (iX (c.first:Int))/\wr.cell? ⟨w.heap.size+1+1,1,none⟩=some (iX (c.last:Int))/\wr.cell? ⟨w.heap.size+1+1,2,none⟩=some (bool c.empty):=by
 refine⟨?_,?_,?_,?_,?_,?_,?_,?_,?_⟩
 all_goals first|(unfold cell?;rw[d.a1];rfl)|(unfold cell?;rw[d.b1];rfl)|(unfold cell?;rw[d.c1];rfl)
theorem Three.fz (d:Three w0 w wr nb n a b c)(i:Nat):wr.frozen? ⟨w.heap.size,i,none⟩=false/\wr.frozen? ⟨w.heap.size+1,i,none⟩=false/\wr.frozen? ⟨w.heap.size+1+1,i,none⟩=false:=by
 refine⟨?_,?_,?_⟩
 ·unfold frozen?;rw[d.a1];simp
 ·unfold frozen?;rw[d.b1];simp
 ·unfold frozen?;rw[d.c1];simp
theorem NwIs.setSpan {b i:Nat}{x:Value}{c:Array Value}(d:NwIs w0 w nb n)(e:w.heap[b]? =some (.cells c 167))(f:w0.heap.size<=b):NwIs w0 (w.setCell ⟨b,i,none⟩ x) nb n:=by
 obtain⟨sv,g,rv,j,k,d⟩:=d;exact⟨sv,g,rv,j,k,d.setSpan e f⟩
theorem jK {b i:Nat}{x:Value}(e:StayS w wr)(f:w.heap.size<=b):StayS w (wr.setCell ⟨b,i,none⟩ x):=λk c d=>by
 have g:=(kQ.1 d).1;exact(lJ _ _ _ _ (by show k≠b;omega)).trans (e k c d)
theorem Three.setA (d:Three w0 w wr nb n a b c)(x:Nat):Three w0 w (wr.setCell ⟨w.heap.size,0,none⟩ (iX (x:Int))) nb n {a with first:=x} b c:=by
 have e:∀k,k≠w.heap.size->(wr.setCell ⟨w.heap.size,0,none⟩ (iX (x:Int))).heap[k]? =wr.heap[k]? :=λk f=>lJ _ _ _ _ f;exact⟨d.net.setSpan d.a1 d.old,by simp[setCell,lU,d.a1,Sn.cells],(e _ (by omega)).trans d.b1,(e _ (by omega)).trans d.c1,jK d.stay lQ,d.old⟩
theorem Three.setB (d:Three w0 w wr nb n a b c)(x:Nat):Three w0 w (wr.setCell ⟨w.heap.size+1,1,none⟩ (iX (x:Int))) nb n a {b with last:=x} c:=by
 have e:∀k,k≠w.heap.size+1->(wr.setCell ⟨w.heap.size+1,1,none⟩ (iX (x:Int))).heap[k]? =wr.heap[k]? :=λk f=>lJ _ _ _ _ f;have:=d.old;exact⟨d.net.setSpan d.b1 (by omega),(e _ (by omega)).trans d.a1,by simp[setCell,lU,d.b1,Sn.cells],(e _ (by omega)).trans d.c1,jK d.stay (by omega),d.old⟩
theorem Three.setC (d:Three w0 w wr nb n a b c)(s:Sn):Three w0 w (((wr.setCell ⟨w.heap.size+1+1,0,none⟩ (iX (s.first:Int))).setCell ⟨w.heap.size+1+1,1,none⟩ (iX (s.last:Int))).setCell ⟨w.heap.size+1+1,2,none⟩ (bool s.empty)) nb n a b s:=by
 have e:∀(f:World) (i k:Nat) (x:Value),k≠w.heap.size+1+1->(f.setCell ⟨w.heap.size+1+1,i,none⟩ x).heap[k]? =f.heap[k]? :=λf i k x j=>lJ _ _ _ _ j;have m:=d.old;have c2:(wr.setCell ⟨w.heap.size+1+1,0,none⟩ (iX (s.first:Int))).heap[w.heap.size+1+1]? =some (.cells #[iX (s.first:Int),iX (c.last:Int),bool c.empty] 167):=by simp[setCell,lU,d.c1,Sn.cells]
 have g:((wr.setCell ⟨w.heap.size+1+1,0,none⟩ (iX (s.first:Int))).setCell ⟨w.heap.size+1+1,1,none⟩ (iX (s.last:Int))).heap[w.heap.size+1+1]? =some (.cells #[iX (s.first:Int),iX (s.last:Int),bool c.empty] 167):=by
  generalize l:wr.setCell ⟨w.heap.size+1+1,0,none⟩ (iX (s.first:Int))=f at *;simp[setCell,lU,c2]
 refine⟨((d.net.setSpan d.c1 (by omega)).setSpan c2 (by omega)).setSpan g (by omega),(e _ _ _ _ (by omega)).trans ((e _ _ _ _ (by omega)).trans ((e _ _ _ _ (by omega)).trans d.a1)),(e _ _ _ _ (by omega)).trans ((e _ _ _ _ (by omega)).trans ((e _ _ _ _ (by omega)).trans d.b1)),?_,jK (jK (jK d.stay (by omega)) (by omega)) (by omega),d.old⟩;generalize l:(wr.setCell ⟨w.heap.size+1+1,0,none⟩ (iX (s.first:Int))).setCell ⟨w.heap.size+1+1,1,none⟩ (iX (s.last:Int))=f at *;simp[setCell,lU,g,Sn.cells]
theorem Three.start (g:NwIs w0 w nb n)(i:w0.heap.size<=w.heap.size)(a b:Sn):Three w0 w (((w.alloc (.cells a.cells 167)).alloc (.cells b.cells 167)).alloc (.cells (Sn.mk 0 0 false).cells 167)) nb n a b ⟨0,0,false⟩:=by
 have s1:(w.alloc (.cells a.cells 167)).heap.size=w.heap.size+1:=by simp
 have s2:((w.alloc (.cells a.cells 167)).alloc (.cells b.cells 167)).heap.size=w.heap.size+1+1:=by simp
 have d:=kZ (b:=w.heap.size) w (.cells a.cells 167) lQ;have e:=kZ (b:=(w.alloc (.cells a.cells 167)).heap.size) (w.alloc (.cells a.cells 167)) (.cells b.cells 167) lQ;have f:=kZ (b:=((w.alloc (.cells a.cells 167)).alloc (.cells b.cells 167)).heap.size) ((w.alloc (.cells a.cells 167)).alloc (.cells b.cells 167)) (.cells (Sn.mk 0 0 false).cells 167) lQ;refine⟨((g.grown d).grown e).grown f,?_,?_,?_,(d.stayS.trans e.stayS).trans f.stayS,i⟩
 ·exact(lG _ _ _ (by rw[s2];omega)).trans ((lG _ _ _ (by rw[s1];omega)).trans (gY _ _))
 ·refine(lG _ _ _ (by rw[s2];omega)).trans ?_
  have:=gY (w.alloc (.cells a.cells 167)) (.cells b.cells 167);rw[s1] at this;exact this
 ·have:=gY ((w.alloc (.cells a.cells 167)).alloc (.cells b.cells 167)) (.cells (Sn.mk 0 0 false).cells 167)
  rw[s2] at this;exact this
theorem Three.call {f:Nt}(d:Three w0 w wr nb n a b c)(g:NwIs w0 w2 nb f)(e:StayS wr w2):Three w0 w w2 nb f a b c:=⟨g,e _ _ d.a1,e _ _ d.b1,e _ _ d.c1,d.stay.trans e,d.old⟩
end
end
theorem zCC (r w:World)(o:Nat)(n:Nt)(A:NwIs r w o n)(an:n.follow.length<=24)(ao:∀x∈n.follow,x<2^24)(a b:Sn)(C:a.Small 24)(D:b.Small 24):
  Calls prog 164 #[pX o,a.val,b.val] w λe w'=>e=returned (a.then b).val/\NwIs r w' o (n.link a.last b.first)/\StayS w w':=by
 have ap:r.heap.size<=w.heap.size:=by obtain⟨_,_,_,_,_,A⟩:=A;exact A.keep.size
 have B:Hid (∀w2,NwIs r w2 o n->Ca 166 #[pX o,iX (a.last:Int),iX (b.first:Int)] w2 λe w'=>e=returned (tuple #[])/\NwIs r w' o (n.link a.last b.first)/\StayS w2 w'):=λw2 E=>zE6 r w2 o n E an ao a.last b.first C.last D.first
 obtain⟨q,aj,p⟩:∃q,q=((w.alloc (.cells a.cells 167)).alloc (.cells b.cells 167)).alloc (.cells (Sn.mk 0 0 false).cells 167)/\Three r w q o n a b ⟨0,0,false⟩:=⟨_,rfl,Three.start A ap a b⟩
 have aq:a.first<16777216:=C.first
 have ar:a.last<16777216:=C.last;have au:b.first<16777216:=D.first
 have av:b.last<16777216:=D.last;obtain⟨d,i,F⟩:=a;obtain⟨j,f,G⟩:=b;have aZ:d<16777216:=aq;have a0:i<16777216:=ar;have a1:j<16777216:=au;have a2:f<16777216:=av;have a3:bits .or i64 (d:Int) (j:Int)=((d|||j:Nat):Int):=yO _ _ (by omega) (by omega);have a4:bits .or i64 (f:Int) (i:Int)=((f|||i:Nat):Int):=yO _ _ (by omega) (by omega);obtain⟨a5,a6,a7,y3,a8,y5,a9,ba,bb⟩:=p.at
 show Calls prog 164 #[pX o,agg #[iX (d:Int),iX (i:Int),bool F],agg #[iX (j:Int),iX (f:Int),bool G]] w _;go_in;apply wp_cut;intro bc ak;go_wp2;apply ak.out;clear ak;have am:q=((w.alloc (Obj.cells #[iX (d:Int),iX (i:Int),bool F] 167)).alloc (Obj.cells #[iX (j:Int),iX (f:Int),bool G] 167)).alloc (Obj.cells #[iX 0,iX 0,bool false] 167):=aj;rw[<-am];clear aj am;rcases F with _|_ <;> rcases G with _|_
 ·have k:=vl p
  clear p;go_wp2_with (first|(go_at_call 166;refine(B q k.net).mono ?_;rintro e H ⟨rfl,s,t⟩;have c:=k.call s t;obtain⟨I,J,K,L,M,N,O,P,Q⟩:=c.at;obtain⟨R,S,T⟩:=c.fz 0;obtain⟨U,V,W⟩:=c.fz 1;obtain⟨X,Y,aa⟩:=c.fz 2;have g:=c.setC ⟨d,f,false⟩;obtain⟨ab,ac,ad,ag,ah,ai,u,y,z⟩:=g.at))
  refine gJ (v:=agg #[iX ((d:Nat):Int),iX ((f:Nat):Int),bool false]) (by simp[results,results164,go_sem,u,y,z]) rfl ?_;exact⟨rfl,g.net,g.stay⟩
 ·have k:=vl p
  clear p;go_wp2_with (first|(go_at_call 166;refine(B q k.net).mono ?_;rintro e H ⟨rfl,s,t⟩;have c:=k.call s t;obtain⟨I,J,K,L,M,N,O,P,Q⟩:=c.at;obtain⟨R,S,T⟩:=c.fz 0;obtain⟨U,V,W⟩:=c.fz 1;obtain⟨X,Y,aa⟩:=c.fz 2;have l:=c.setB (f|||i);obtain⟨v0,v1,v2,aw,ax,ay,az,aA,aB⟩:=l.at;obtain⟨aC,aD,E⟩:=l.fz 0;obtain⟨aE,aF,aG⟩:=l.fz 1;obtain⟨aH,aI,aJ⟩:=l.fz 2;have g:=l.setC ⟨d,f|||i,false⟩;obtain⟨ab,ac,ad,ag,ah,ai,u,y,z⟩:=g.at))
  refine gJ (v:=agg #[iX ((d:Nat):Int),iX ((f|||i:Nat):Int),bool false]) (by simp[results,results164,go_sem,u,y,z]) rfl ?_;exact⟨rfl,g.net,g.stay⟩
 ·have k:=vl p
  clear p;go_wp2_with (first|(go_at_call 166;refine(B q k.net).mono ?_;rintro e H ⟨rfl,s,t⟩;have c:=k.call s t;obtain⟨I,J,K,L,M,N,O,P,Q⟩:=c.at;obtain⟨R,S,T⟩:=c.fz 0;obtain⟨U,V,W⟩:=c.fz 1;obtain⟨X,Y,aa⟩:=c.fz 2;have m:=c.setA (d|||j);obtain⟨s0,s1,s2,aK,aL,aM,aN,aO,aP⟩:=m.at;obtain⟨aQ,aR,aS⟩:=m.fz 0;obtain⟨aT,aU,aV⟩:=m.fz 1;obtain⟨aW,aX,aY⟩:=m.fz 2;have g:=m.setC ⟨d|||j,f,false⟩;obtain⟨ab,ac,ad,ag,ah,ai,u,y,z⟩:=g.at))
  refine gJ (v:=agg #[iX ((d|||j:Nat):Int),iX ((f:Nat):Int),bool false]) (by simp[results,results164,go_sem,u,y,z]) rfl ?_;exact⟨rfl,g.net,g.stay⟩
 ·have k:=vl p
  clear p;go_wp2_with (first|(go_at_call 166;refine(B q k.net).mono ?_;rintro e H ⟨rfl,s,t⟩;have c:=k.call s t;obtain⟨I,J,K,L,M,N,O,P,Q⟩:=c.at;obtain⟨R,S,T⟩:=c.fz 0;obtain⟨U,V,W⟩:=c.fz 1;obtain⟨X,Y,aa⟩:=c.fz 2;have m:=c.setA (d|||j);obtain⟨s0,s1,s2,aK,aL,aM,aN,aO,aP⟩:=m.at;obtain⟨aQ,aR,aS⟩:=m.fz 0;obtain⟨aT,aU,aV⟩:=m.fz 1;obtain⟨aW,aX,aY⟩:=m.fz 2;have l:=m.setB (f|||i);obtain⟨v0,v1,v2,aw,ax,ay,az,aA,aB⟩:=l.at;obtain⟨aC,aD,E⟩:=l.fz 0;obtain⟨aE,aF,aG⟩:=l.fz 1;obtain⟨aH,aI,aJ⟩:=l.fz 2;have g:=l.setC ⟨d|||j,f|||i,true⟩;obtain⟨ab,ac,ad,ag,ah,ai,u,y,z⟩:=g.at))
  refine gJ (v:=agg #[iX ((d|||j:Nat):Int),iX ((f|||i:Nat):Int),bool true]) (by simp[results,results164,go_sem,u,y,z]) rfl ?_;exact⟨rfl,g.net,g.stay⟩
section
attribute [local go_sem ↓] Go.wp_at_zero Go.wp_at_succ
theorem zNh:(prog.info? 161).map (λi=>(i.zero,i.size,i.bytes))=some (some (agg #[slice none 0 0,bool false]),2,32):=by kernel_rfl
section
variable {w0 w w2:World} {nb:Nat} {n:Nt} {sv fv rv ev:Value} {ps:List (Value×Bool)}
theorem Nw.addSet {o:Obj}{g cap m:Nat}{u:Value}{c:Cs}(b:Nw w0 w nb n sv fv rv ev ps)(r:m=n.sets.length)(s:RangesAt w0 u c.ranges)(t:w2.ownsRow w0.heap.size 161 2 (slice (qX g) (m+1) cap) (m+1) (vV ps++[u,bool c.others]))(f:(w.alloc o).grownBy w2 sv.ownBlock)(v:sv.ownBlock=some g\/w.heap.size<=g):
  Nw w0 (w2.setCell ⟨nb,0,none⟩ (slice (qX g) (m+1) cap)) nb {n with sets:=n.sets++[c]} (slice (qX g) (m+1) cap) fv rv ev (ps++[(u,c.others)])/\StayS w (w2.setCell ⟨nb,0,none⟩ (slice (qX g) (m+1) cap)):=by
 subst r;have l:=b.box;have x:=b.lt;have p:∀j,j<w.heap.size->some j≠sv.ownBlock->w2.heap[j]? =w.heap[j]? :=λj J y=>(f.block j (by simp;omega) y).trans (lG _ _ _ (by omega));have z:w.heap.size<=w2.heap.size:=lY (by simp) f.size;have A:=(p nb x l.1).trans b.blk;have e:∀k,k≠nb->(w2.setCell ⟨nb,0,none⟩ (slice (qX g) (n.sets.length+1) cap)).heap[k]? =w2.heap[k]? :=λk a=>lJ _ _ _ _ a;have B:=zT f b.fOwn λk a=>xO b.fOwn b.sOwn (by decide) a;have C:=zT f b.rOwn λk a=>xO b.rOwn b.sOwn (by decide) a;have D:=zT f b.eOwn λk a=>xO b.eOwn b.sOwn (by decide) a;have K:nb≠g:=λd=>by
  rcases v with q|q
  ·exact l.1 (by rw[q,d])
  ·omega
 have E:=b.plen;have F:(n.sets++[c]).length=n.sets.length+1:=by simp
 refine⟨⟨by simp[setCell,lU,A],?_,by simp[E],λi G=>?_,zF B λk _ _ a=>e k λd=>l.2.1 (by rw[a,d]),zF C λk _ _ a=>e k λd=>l.2.2.1 (by rw[a,d]),zF D λk _ _ a=>e k λd=>l.2.2.2 (by rw[a,d]),b.fr,b.nH,b.keep.trans ⟨f.os,f.output,by rw[zC];exact z,λk a _=>(e k (by have:=b.nH;omega)).trans (p k (by have:=b.keep.size;omega) λd=>by have:=(b.sOwn.lt k d.symm).1;omega)⟩⟩,λk L a=>?_⟩
 ·show World.ownsRow _ _ _ _ _ (n.sets++[c]).length (vV (ps++[(u,c.others)]))
  rw[F,zGN];exact zF t λk _ _ a=>e k λd=>by
   have:g=k:=by simpa[Value.ownBlock] using a
   omega
 ·have M:i<(n.sets++[c]).length:=G
  show RangesAt w0 ((ps++[(u,c.others)]).getD i (undef,false)).1 ((n.sets++[c]).getD i ⟨[],false⟩).ranges/\((ps++[(u,c.others)]).getD i (undef,false)).2=((n.sets++[c]).getD i ⟨[],false⟩).others;by_cases N:i=n.sets.length
  ·rw[lW,hY (by omega),show i-ps.length=0 by omega,lW,hY (by omega),show i-n.sets.length=0 by omega]
   exact⟨s,rfl⟩
  ·rw[lW,kW (by omega),lW,kW (by omega),<-lW,<-lW]
   exact b.each i (by omega)
 ·have H:=(kQ.1 a).1
  have I:k≠nb:=λd=>by
   rw[d,b.blk] at a;injection a with a;injection a with _ a;exact absurd a (by decide)
  exact(e k I).trans ((p k H (zN b.sOwn a (by decide))).trans a)
theorem Nw.addFollow {o:Obj}{g cap m x:Nat}(b:Nw w0 w nb n sv fv rv ev ps)(s:m=n.follow.length)(t:w2.ownsRow w0.heap.size 3 1 (slice (qX g) (m+1) cap) (m+1) (((ints n.follow).map λx=>iX x)++[iX (x:Int)]))(d:(w.alloc o).grownBy w2 fv.ownBlock)(p:fv.ownBlock=some g\/w.heap.size<=g):
  Nw w0 (w2.setCell ⟨nb,1,none⟩ (slice (qX g) (m+1) cap)) nb {n with follow:=n.follow++[x]} sv (slice (qX g) (m+1) cap) rv ev ps/\StayS w (w2.setCell ⟨nb,1,none⟩ (slice (qX g) (m+1) cap)):=by
 subst s;have f:=b.box;have u:=b.lt;have i:∀j,j<w.heap.size->some j≠fv.ownBlock->w2.heap[j]? =w.heap[j]? :=λj G v=>(d.block j (by simp;omega) v).trans (lG _ _ _ (by omega));have y:w.heap.size<=w2.heap.size:=lY (by simp) d.size;have z:=(i nb u f.2.1).trans b.blk;have e:∀k,k≠nb->(w2.setCell ⟨nb,1,none⟩ (slice (qX g) (n.follow.length+1) cap)).heap[k]? =w2.heap[k]? :=λk a=>lJ _ _ _ _ a;have A:=zT d b.sOwn λk a=>xO b.sOwn b.fOwn (by decide) a;have B:=zT d b.rOwn λk a c=>b.fr k c.symm a.symm;have C:=zT d b.eOwn λk a=>xO b.eOwn b.fOwn (by decide) a;have H:nb≠g:=λc=>by
  rcases p with q|q
  ·exact f.2.1 (by rw[q,c])
  ·omega
 have D:OwnI w2 w0.heap.size (slice (qX g) (n.follow.length+1) cap) (ints (n.follow++[x])):=by
  rw[zBa];have:=zO n.follow;have r:=OwnI.snoc (l:=ints n.follow) (x:=(x:Int)) (by rw[this];exact t);rw[this] at r;exact r
 refine⟨⟨by simp[setCell,lU,z],zF A λk _ _ a=>e k λc=>f.1 (by rw[a,c]),b.plen,b.each,zF D λk _ _ a=>e k λc=>?_,zF B λk _ _ a=>e k λc=>f.2.2.1 (by rw[a,c]),zF C λk _ _ a=>e k λc=>f.2.2.2 (by rw[a,c]),qA b.rOwn b.fr p,b.nH,b.keep.trans ⟨d.os,d.output,by rw[zC];exact y,λk a _=>(e k (by have:=b.nH;omega)).trans (i k (by have:=b.keep.size;omega) λc=>by have:=(b.fOwn.lt k c.symm).1;omega)⟩⟩,λk I a=>?_⟩
 ·have:g=k:=by simpa[Value.ownBlock] using a
  omega
 ·have E:=(kQ.1 a).1
  have F:k≠nb:=λc=>by
   rw[c,b.blk] at a;injection a with a;injection a with _ a;exact absurd a (by decide)
  exact(e k F).trans ((i k E (zN b.fOwn a (by decide))).trans a)
end
def Nt.place (n:Nt)(c:Cs):Nt:={n with sets:=n.sets++[c],follow:=n.follow++[0]}
def Nt.spot (n:Nt):Sn:=⟨2^n.sets.length,2^n.sets.length,false⟩
end
section
attribute [local go_sem ↓] Go.wp_at_zero Go.wp_at_succ
theorem zH6 (d w:World)(a:Nat)(n:Nt)(l:NwIs d w a n)(aT:n.sets.length<=24)(aU:n.follow.length<=24)(u:Value)(c:Cs)(J:RangesAt d u c.ranges):
  Calls prog 123 #[pX a,agg #[u,bool c.others]] w λe w'=>e=returned n.spot.val/\NwIs d w' a (n.place c)/\StayS w w':=by
 obtain⟨al,am,an,ao,ap⟩:=info_parts yL;obtain⟨is_,aq,ar,av,aw⟩:=info_parts zNh;obtain⟨sv,ax,rv,ay,B,l⟩:=l;obtain⟨C,D,q,-⟩:=id J;obtain⟨w1,K,m,L,az,aA,aB⟩:∃w1,w1=(w.alloc (.cells #[u,bool c.others] 161)).alloc (.cells #[iX 0,iX 0,bool false] 167)/\Hid (Nw d w1 a n sv ax rv ay B)/\Hid (StayS w w1/\w1.heap.size=w.heap.size+1+1)/\w1.cell? ⟨w.heap.size,0,none⟩=some u/\w1.cell? ⟨w.heap.size,1,none⟩=some (bool c.others)/\Hid (w1.heap[w.heap.size+1]? =some (.cells #[iX 0,iX 0,bool false] 167)):=by
  have M:=kZ (b:=w.heap.size) w (.cells #[u,bool c.others] 161) lQ;have N:=kZ (b:=(w.alloc (.cells #[u,bool c.others] 161)).heap.size) (w.alloc (.cells #[u,bool c.others] 161)) (.cells #[iX 0,iX 0,bool false] 167) lQ;have s1:(w.alloc (.cells #[u,bool c.others] 161)).heap.size=w.heap.size+1:=by simp
  have O:((w.alloc (.cells #[u,bool c.others] 161)).alloc (.cells #[iX 0,iX 0,bool false] 167)).heap[w.heap.size]? =some (.cells #[u,bool c.others] 161):=(lG _ _ _ (by rw[s1];omega)).trans (gY _ _);refine⟨_,rfl,(l.grown M).grown N,⟨M.stayS.trans N.stayS,by simp⟩,?_,?_,?_⟩
  ·unfold cell?;rw[O];rfl
  ·unfold cell?;rw[O];rfl
  ·have:=gY (w.alloc (.cells #[u,bool c.others] 161)) (.cells #[iX 0,iX 0,bool false] 167)
   rw[s1] at this;exact this
 obtain⟨r,s,aC⟩:=zI l.sOwn;obtain⟨Q,R,S⟩:=l.fOwn.form;rw[zO] at S;have aV:=l.plen;have aW:d.heap.size<=w.heap.size:=l.keep.size;subst aC S;have T:=m.cells.1;have U:=m.cells.2.2.2.2.2.2 0;have V:=m.lt;have aX:d.heap.size<=w1.heap.size:=m.keep.size;have aD:=vl m.box.1;have W:w1.ownsRow d.heap.size 161 2 (slice r n.sets.length s) n.sets.length (vV B):=m.sOwn;have aY:=zE1 n.sets.length (by omega);have aE:=vl J;have aF:Hid (n.spot.val=agg #[iX ((2^n.sets.length:Nat):Int),iX ((2^n.sets.length:Nat):Int),bool false]):=rfl;generalize aZ:2^n.sets.length=P at *;generalize c.ranges.length=E at *;subst q;have a0:w.heap.size<w1.heap.size:=by rw[L.out.2];omega
 go_in;apply wp_cut;intro a1 aG;go_wp2;apply aG.out;rw[<-K];clear K;go_wp2;go_region_law ((refine step_append_lies _ (by rfl) (.tmp 16) (.tmp 18) 130 (by rfl) d.heap.size 161 is_ _ 2 32 underlying130 aq ar av aw rfl (by decide) (slice r n.sets.length s) n.sets.length (vV B) (by simp[Act.eval,Act.put]) ((W.alloc _).drew) ⟨w1.heap.size,0,none⟩ 1 1 [slice C E D,bool c.others] (by simp[Act.eval,Act.put]) (by rfl) (news_of_block (cs:=#[slice C E D,bool c.others]) (t:=161) (fr:=(0,0)) (gY w1 _)) (by simp[Value.oneCell']) (by decide) (by unfold maxLen;omega) (by omega) (by simp;omega) (w1.heap.size+1) (by simp) ?_;intro X cap w2 Y F aa aH;have G:=F.block a (by simp;omega) aD;have aI:w2.cell? ⟨a,0,none⟩=some (slice r n.sets.length s):=(gW G).trans ((gU _ _ _ V).trans T);have aJ:w2.frozen? ⟨a,0,none⟩=false:=(gV G).trans ((frozen?_alloc_past _ _ _ V).trans U)))
 all_goals
  have ab:(w1.drew.alloc (Obj.cells #[Value.slice C E D,Value.bool c.others] 161)).grownBy w2 (Value.slice r n.sets.length s).ownBlock:=F;have g:=vl <| (m.grown (Keep.drew _)).addSet rfl aE Y ab (by
   rcases aa with p|p
   ·exact .inl p
   ·right;show w1.heap.size<=X;omega)
  clear Y F ab aa aH G aI aJ W T U az aA;generalize w2.setCell ⟨a,0,none⟩ (slice (qX X) (n.sets.length+1) cap)=y at *;have v1:=g.1.cells.2.1;have a2:=g.1.lt;have a3:d.heap.size<=y.heap.size:=g.1.keep.size;have aK:y.ownsRow d.heap.size 3 1 (slice Q n.follow.length R) n.follow.length ((ints n.follow).map λx=>iX x):=by
   have:=g.1.fOwn;unfold OwnI at this;rw[zO] at this;exact this
  go_wp2_with (first|(at_builtin;refine wpList_append_lies _ rfl _ _ 45 rfl (d.heap.size) 3 al (iX 0) 1 8 underlying45 am an ao ap rfl (by decide) _ _ _ rfl (aK.alloc _) ⟨y.heap.size,0,none⟩ 1 1 [iX 0] rfl rfl (cell_one_new _ _ _) (by intro u q;simp at q;subst q;rfl) (by decide) (by unfold maxLen;omega) (by omega) (by simp;omega) _ rfl ?_;intro i j f aL ac aM a4;have ad:f.heap[a]? =y.heap[a]? :=(ac.block _ (by simp;omega) g.1.box.2.1).trans (lG _ _ _ (by omega));have ae:f.cell? ⟨a,1,none⟩=some (slice Q n.follow.length R):=(gW ad).trans v1;have a5:f.frozen? ⟨a,1,none⟩=false:=(gV ad).trans (g.1.cells.2.2.2.2.2.2 1);have H:=g.1.addFollow (x:=0) rfl aL ac (by rcases aM with p|p;exact .inl p;right;rw[p];simp);have k:=H.2 _ _ (g.2 _ _ aB);have aN:=vl H;have aO:=vl k;have a6:(f.setCell ⟨a,1,none⟩ (slice (qX i) (n.follow.length+1) j)).cell? ⟨w.heap.size+1,0,none⟩=some (iX 0):=(by unfold cell?;rw[k];rfl);have a7:(f.setCell ⟨a,1,none⟩ (slice (qX i) (n.follow.length+1) j)).cell? ⟨w.heap.size+1,1,none⟩=some (iX 0):=(by unfold cell?;rw[k];rfl);have a8:(f.setCell ⟨a,1,none⟩ (slice (qX i) (n.follow.length+1) j)).cell? ⟨w.heap.size+1,2,none⟩=some (bool false):=(by unfold cell?;rw[k];rfl);have a9:(f.setCell ⟨a,1,none⟩ (slice (qX i) (n.follow.length+1) j)).frozen? ⟨w.heap.size+1,0,none⟩=false:=(by unfold frozen?;rw[k];rfl);have ba:(f.setCell ⟨a,1,none⟩ (slice (qX i) (n.follow.length+1) j)).frozen? ⟨w.heap.size+1,1,none⟩=false:=(by unfold frozen?;rw[k];rfl);have q2:(f.setCell ⟨a,1,none⟩ (slice (qX i) (n.follow.length+1) j)).frozen? ⟨w.heap.size+1,2,none⟩=false:=(by unfold frozen?;rw[k];rfl);clear H k))
  obtain⟨o,ag,c0,c1,c2,ah⟩:∃o,o=(((f.setCell ⟨a,1,none⟩ (slice (qX i) (n.follow.length+1) j)).setCell ⟨w.heap.size+1,0,none⟩ (iX (P:Int))).setCell ⟨w.heap.size+1,1,none⟩ (iX (P:Int))).setCell ⟨w.heap.size+1,2,none⟩ (bool false)/\o.cell? ⟨w.heap.size+1,0,none⟩=some (iX (P:Int))/\o.cell? ⟨w.heap.size+1,1,none⟩=some (iX (P:Int))/\o.cell? ⟨w.heap.size+1,2,none⟩=some (bool false)/\Hid (NwIs d o a (n.place c)/\StayS w o):=by
   have ai:=aN.out;have aj:=aO.out;generalize f.setCell ⟨a,1,none⟩ (slice (qX i) (n.follow.length+1) j)=z at *;have ak:(z.setCell ⟨w.heap.size+1,0,none⟩ (iX (P:Int))).heap[w.heap.size+1]? =some (.cells #[iX (P:Int),iX 0,bool false] 167):=by simp[setCell,lU,aj]
   have aP:NwIs d (z.setCell ⟨w.heap.size+1,0,none⟩ (iX (P:Int))) a (n.place c):=NwIs.setSpan ⟨_,_,_,_,_,ai.1⟩ aj (by omega);have ae:StayS w (z.setCell ⟨w.heap.size+1,0,none⟩ (iX (P:Int))):=jK ((L.1.trans g.2).trans ai.2) (by omega);generalize z.setCell ⟨w.heap.size+1,0,none⟩ (iX (P:Int))=A at *;have b2:(A.setCell ⟨w.heap.size+1,1,none⟩ (iX (P:Int))).heap[w.heap.size+1]? =some (.cells #[iX (P:Int),iX (P:Int),bool false] 167):=by simp[setCell,lU,ak]
   have aQ:NwIs d (A.setCell ⟨w.heap.size+1,1,none⟩ (iX (P:Int))) a (n.place c):=aP.setSpan ak (by omega);have aR:StayS w (A.setCell ⟨w.heap.size+1,1,none⟩ (iX (P:Int))):=jK ae (by omega);generalize A.setCell ⟨w.heap.size+1,1,none⟩ (iX (P:Int))=aS at *;have I:(aS.setCell ⟨w.heap.size+1,2,none⟩ (bool false)).heap[w.heap.size+1]? =some (.cells #[iX (P:Int),iX (P:Int),bool false] 167):=by simp[setCell,lU,b2]
   refine⟨_,rfl,?_,?_,?_,aQ.setSpan b2 (by omega),jK aR (by omega)⟩
   ·unfold cell?;rw[I];rfl
   ·unfold cell?;rw[I];rfl
   ·unfold cell?;rw[I];rfl
  rw[<-ag];clear ag;refine gJ (v:=agg #[iX (P:Int),iX (P:Int),bool false]) (by simp[results,results123,go_sem,c0,c1,c2]) rfl ?_;exact⟨by rw[aF.out],ah.1,ah.2⟩
end
structure Tr where
 kind:Nat
 set:Cs
 parts:List Tr
 least:Nat
 most:Nat
 endless:Bool
 chars:Nat
def Tr.none:Tr:=⟨0,⟨[],false⟩,[],0,0,false,0⟩
def Tr.copies (t:Tr):Nat:=if t.endless then(if t.least=0 then 1 else t.least) else t.most
def TreeAt (w:World):Nat->Nat->Tr->Prop
 |0,_,_=>False
 |d+1,b,t=>b<w.heap.size/\∃rv pv,w.heap[b]? =some (.cells #[int i64 (t.kind:Int),rv,bool t.set.others,pv,int i64 (t.least:Int),int i64 (t.most:Int),bool t.endless,int i64 (t.chars:Int)] 165)/\RangesAt w rv t.set.ranges/\
   ∃ao cap,pv=slice ao t.parts.length cap/\(t.parts.length<=cap/\t.parts.length<=1000000000000/\t.least<=1000/\t.most<=1000)/\cap<=maxLen/\∀i,i<t.parts.length->∃g o p,ao=some ⟨g,o,none⟩/\In w g/\w.cell? ⟨g,o+i,none⟩=some (pointer (some ⟨p,0,none⟩))/\TreeAt w d p (t.parts.getD i Tr.none)
abbrev Lay:=Nt->Tr->Nt×Sn
def rowTo (sub:Lay)(n:Nt)(parts:List Tr):Nat->Nt×Sn
 |0=>(n,⟨0,0,true⟩)
 |j+1=>((sub (rowTo sub n parts j).1 (parts.getD j Tr.none)).1.link (rowTo sub n parts j).2.last (sub (rowTo sub n parts j).1 (parts.getD j Tr.none)).2.first,(rowTo sub n parts j).2.then (sub (rowTo sub n parts j).1 (parts.getD j Tr.none)).2)
def Sn.or (a b:Sn):Sn:=⟨a.first|||b.first,a.last|||b.last,a.empty||b.empty⟩
def jB (sub:Lay)(n:Nt)(parts:List Tr):Nat->Nt×Sn
 |0=>(n,⟨0,0,false⟩)
 |j+1=>((sub (jB sub n parts j).1 (parts.getD j Tr.none)).1,(jB sub n parts j).2.or (sub (jB sub n parts j).1 (parts.getD j Tr.none)).2)
def zAv (t:Tr)(j:Nat)(q:Nt×Sn):Nt:=if t.endless&&(j+1==t.copies) then q.1.link q.2.last q.2.first else q.1
def zA8 (t:Tr)(j:Nat)(q:Nt×Sn):Sn:=if t.least<=j then{q.2 with empty:=true} else q.2
def xT (sub:Lay)(n:Nt)(t:Tr):Nat->Nt×Sn
 |0=>(n,⟨0,0,true⟩)
 |j+1=>((zAv t j (rowTo sub (xT sub n t j).1 t.parts t.parts.length)).link (xT sub n t j).2.last (zA8 t j (rowTo sub (xT sub n t j).1 t.parts t.parts.length)).first,(xT sub n t j).2.then (zA8 t j (rowTo sub (xT sub n t j).1 t.parts t.parts.length)))
def xF:Nat->Lay
 |0,n,_=>(n,⟨0,0,true⟩)
 |d+1,n,t=>if t.kind=1 then(n.place t.set,n.spot) else if t.kind=2 then rowTo (xF d) n t.parts t.parts.length else if t.kind=3 then jB (xF d) n t.parts t.parts.length else if t.kind=4 then xT (xF d) n t t.copies else(n,⟨0,0,true⟩)
def zX (f:Tr->Nat)(parts:List Tr):Nat->Nat
 |0=>0
 |j+1=>zX f parts j+f (parts.getD j Tr.none)
def yQ:Nat->Tr->Nat
 |0,_=>0
 |d+1,t=>if t.kind=1 then 1 else if t.kind=2\/t.kind=3 then zX (yQ d) t.parts t.parts.length else if t.kind=4 then t.copies*zX (yQ d) t.parts t.parts.length else 0
structure Nt.Good (n:Nt):Prop where
 len:n.sets.length<=24
 same:n.follow.length=n.sets.length
 fol:∀x∈n.follow,x<2^n.sets.length
theorem Nt.Good.top {n:Nt}(a:n.Good):∀x∈n.follow,x<2^24:=λx b=>lZ (a.fol x b) (kG (by omega) a.len)
theorem Sn.Small.up {s:Sn}{k m:Nat}(a:s.Small k)(b:k<=m):s.Small m:=⟨lZ a.first (kG (by omega) b),lZ a.last (kG (by omega) b)⟩
theorem zBT (n:Nt)(a b j:Nat):(n.linkTo a b j).sets=n.sets/\(n.linkTo a b j).rules=n.rules/\(n.linkTo a b j).empty=n.empty/\(n.linkTo a b j).first=n.first/\(n.linkTo a b j).ends=n.ends:=by
 induction j with
 |zero=>exact⟨rfl,rfl,rfl,rfl,rfl⟩
 |succ j c=>
  unfold Nt.linkTo;split
  ·exact c
  ·exact c
theorem zCf {n:Nt}(c:n.Good)(a b:Nat)(d:b<2^n.sets.length):(n.link a b).Good/\(n.link a b).sets=n.sets:=by
 have e:=(zBT n a b n.follow.length).1;refine⟨⟨by unfold Nt.link;rw[e];exact c.len,by unfold Nt.link;rw[e,zE7];exact c.same,?_⟩,e⟩;unfold Nt.link;rw[e];exact zDa a b _ d c.fol
theorem zJc {n:Nt}(d:n.Good)(c:Cs)(g:n.sets.length+1<=24):(n.place c).Good/\(n.place c).sets.length=n.sets.length+1/\n.spot.Small (n.sets.length+1):=by
 have e:(n.place c).sets.length=n.sets.length+1:=by simp[Nt.place]
 have a:2^n.sets.length<2^(n.sets.length+1):=Nat.pow_lt_pow_right (by omega) (by omega);refine⟨⟨by omega,by simp[Nt.place,d.same],λx f=>?_⟩,e,⟨a,a⟩⟩;rw[e];rcases kU.1 f with b|b
 ·exact Nat.lt_trans (d.fol x b) a
 ·rw[kY.1 b];exact Nat.pow_pos (by omega)
def Lays (sub:Lay)(cnt:Tr->Nat):Prop:=∀n t,n.Good->n.sets.length+cnt t<=24->(sub n t).1.Good/\(sub n t).1.sets.length=n.sets.length+cnt t/\(sub n t).2.Small (n.sets.length+cnt t)
theorem zAE (k:Nat)(e:Bool):(Sn.mk 0 0 e).Small k:=⟨Nat.pow_pos (by omega),Nat.pow_pos (by omega)⟩
theorem zCM (f:Tr->Nat)(parts:List Tr)(j m:Nat)(a:j<=m):zX f parts j<=zX f parts m:=by
 induction m with
 |zero=>rw[Nat.le_zero.1 a];exact lQ
 |succ m b=>
  by_cases e:j=m+1
  ·rw[e];exact lQ
  ·exact lY (b (by omega)) (Nat.le_add_right _ _)
theorem zAF {a:Lay}{cnt:Tr->Nat}(f:Lays a cnt){n:Nt}(g:n.Good)(parts:List Tr)(j:Nat)(i:n.sets.length+zX cnt parts j<=24):(rowTo a n parts j).1.Good/\(rowTo a n parts j).1.sets.length=n.sets.length+zX cnt parts j/\(rowTo a n parts j).2.Small (n.sets.length+zX cnt parts j):=by
 induction j with
 |zero=>exact⟨g,rfl,zAE _ _⟩
 |succ j k=>
  have q:n.sets.length+(zX cnt parts j+cnt (parts.getD j Tr.none))<=24:=i;obtain⟨l,m,o⟩:=k (by omega);obtain⟨p,b,c⟩:=f _ (parts.getD j Tr.none) l (by omega);rw[m] at b c;have e:n.sets.length+zX cnt parts (j+1)=n.sets.length+zX cnt parts j+cnt (parts.getD j Tr.none):=by show n.sets.length+(zX cnt parts j+cnt (parts.getD j Tr.none))=_;omega
  rw[e];have d:=zCf p (rowTo a n parts j).2.last _ (by rw[b];exact c.first);exact⟨d.1,by show((a _ _).1.link _ _).sets.length=_;rw[d.2];exact b,Sn.then_small (o.up (by omega)) c⟩
theorem zBW {a:Lay}{cnt:Tr->Nat}(f:Lays a cnt){n:Nt}(g:n.Good)(parts:List Tr)(j:Nat)(i:n.sets.length+zX cnt parts j<=24):(jB a n parts j).1.Good/\(jB a n parts j).1.sets.length=n.sets.length+zX cnt parts j/\(jB a n parts j).2.Small (n.sets.length+zX cnt parts j):=by
 induction j with
 |zero=>exact⟨g,rfl,zAE _ _⟩
 |succ j k=>
  have r:n.sets.length+(zX cnt parts j+cnt (parts.getD j Tr.none))<=24:=i;obtain⟨l,o,p⟩:=k (by omega);obtain⟨q,c,b⟩:=f _ (parts.getD j Tr.none) l (by omega);rw[o] at c b;have e:n.sets.length+zX cnt parts (j+1)=n.sets.length+zX cnt parts j+cnt (parts.getD j Tr.none):=by show n.sets.length+(zX cnt parts j+cnt (parts.getD j Tr.none))=_;omega
  rw[e];have d:=p.up (m:=n.sets.length+zX cnt parts j+cnt (parts.getD j Tr.none)) (by omega);exact⟨q,c,⟨Nat.or_lt_two_pow d.first b.first,Nat.or_lt_two_pow d.last b.last⟩⟩
theorem zIk {t:Tr}{j k:Nat}{q:Nt×Sn}(a:q.2.Small k):(zA8 t j q).Small k:=by
 unfold zA8;split
 ·exact⟨a.first,a.last⟩
 ·exact a
theorem zBy {a:Lay}{cnt:Tr->Nat}(i:Lays a cnt){n:Nt}(k:n.Good)(t:Tr)(j:Nat)(l:n.sets.length+j*zX cnt t.parts t.parts.length<=24):(xT a n t j).1.Good/\(xT a n t j).1.sets.length=n.sets.length+j*zX cnt t.parts t.parts.length/\(xT a n t j).2.Small (n.sets.length+j*zX cnt t.parts t.parts.length):=by
 induction j with
 |zero=>exact⟨k,by simp[xT],zAE _ _⟩
 |succ j m=>
  rw[Nat.add_mul,Nat.one_mul] at l ⊢;obtain⟨o,p,q⟩:=m (by omega);obtain⟨f,b,c⟩:=zAF i o t.parts t.parts.length (by omega);rw[p] at b c;have d:(zAv t j (rowTo a (xT a n t j).1 t.parts t.parts.length)).Good/\(zAv t j (rowTo a (xT a n t j).1 t.parts t.parts.length)).sets=(rowTo a (xT a n t j).1 t.parts t.parts.length).1.sets:=by
   unfold zAv;split
   ·exact zCf f _ _ (by rw[b];exact c.first)
   ·exact⟨f,rfl⟩
  have s2:=zIk (t:=t) (j:=j) c;have g:=zCf d.1 (xT a n t j).2.last (zA8 t j (rowTo a (xT a n t j).1 t.parts t.parts.length)).first (by rw[d.2,b];exact s2.first)
  have e:n.sets.length+(j*zX cnt t.parts t.parts.length+zX cnt t.parts t.parts.length)=n.sets.length+j*zX cnt t.parts t.parts.length+zX cnt t.parts t.parts.length:=by omega
  rw[e];exact⟨g.1,by show((zAv t j _).link _ _).sets.length=_;rw[g.2,d.2];exact b,Sn.then_small (q.up (by omega)) s2⟩
theorem jX (c:Nat):Lays (xF c) (yQ c):=by
 induction c with
 |zero=>exact λn t b _=>⟨b,rfl,zAE _ _⟩
 |succ c e=>
  intro n t b a;unfold xF;unfold yQ at a ⊢;by_cases h:t.kind=1
  ·simp only[if_pos h] at a ⊢
   have:=zJc b t.set a;exact this
  ·simp only[if_neg h] at a ⊢
   by_cases f:t.kind=2
   ·simp only[if_pos f,if_pos (Or.inl f:t.kind=2\/t.kind=3)] at a ⊢
    exact zAF e b _ _ a
   ·simp only[if_neg f] at a ⊢
    by_cases g:t.kind=3
    ·simp only[if_pos g,if_pos (Or.inr g:t.kind=2\/t.kind=3)] at a ⊢
     exact zBW e b _ _ a
    ·simp only[if_neg g,if_neg (show¬(t.kind=2\/t.kind=3) by omega)] at a ⊢
     by_cases i:t.kind=4
     ·simp only[if_pos i] at a ⊢
      exact zBy e b t _ a
     ·simp only[if_neg i] at a ⊢
      exact⟨b,rfl,zAE _ _⟩
section
def zB4 (w0:World)(nb d:Nat)(sub:Lay)(cnt:Tr->Nat):Prop:=∀(w:World) (n:Nt) (b:Nat) (t:Tr),NwIs w0 w nb n->n.Good->TreeAt w0 d b t->n.sets.length+cnt t<=24->Calls prog 89 #[pointer (some ⟨nb,0,none⟩),pointer (some ⟨b,0,none⟩)] w λe w'=>e=returned (sub n t).2.val/\NwIs w0 w' nb (sub n t).1/\StayS w w'
structure Al (w0 w wr:World)(nb:Nat)(n:Nt)(s:Sn):Prop where
 net:NwIs w0 wr nb n
 res:wr.heap[w.heap.size]? =some (.cells (Sn.mk 0 0 false).cells 167)
 all:wr.heap[w.heap.size+1]? =some (.cells s.cells 167)
 stay:StayS w wr
 old:w0.heap.size<=w.heap.size
theorem zJ {w:World}{b:Nat}{s:Sn}(a:w.heap[b]? =some (.cells s.cells 167)):w.cell? ⟨b,0,none⟩=some (iX (s.first:Int))/\w.cell? ⟨b,1,none⟩=some (iX (s.last:Int))/\w.cell? ⟨b,2,none⟩=some (bool s.empty)/\∀i,w.frozen? ⟨b,i,none⟩=false:=by
 refine⟨?_,?_,?_,λi=>?_⟩
 ·unfold cell?;rw[a];rfl
 ·unfold cell?;rw[a];rfl
 ·unfold cell?;rw[a];rfl
 ·unfold frozen?;rw[a];simp
def World.span (w:World)(b:Nat)(s:Sn):World:=((w.setCell ⟨b,0,none⟩ (int i64 (s.first:Int))).setCell ⟨b,1,none⟩ (int i64 (s.last:Int))).setCell ⟨b,2,none⟩ (bool s.empty)
theorem zEO {w:World}{b:Nat}{s s':Sn}(e:w.heap[b]? =some (.cells s.cells 167)):(World.span w b s').heap[b]? =some (.cells s'.cells 167)/\(∀k,k≠b->(World.span w b s').heap[k]? =w.heap[k]?)/\(∀w0 nb n,NwIs w0 w nb n->w0.heap.size<=b->NwIs w0 (World.span w b s') nb n):=by
 have c2:(w.setCell ⟨b,0,none⟩ (iX (s'.first:Int))).heap[b]? =some (.cells #[iX (s'.first:Int),iX (s.last:Int),bool s.empty] 167):=by simp[setCell,lU,e,Sn.cells]
 have g:∀k,k≠b->(w.setCell ⟨b,0,none⟩ (iX (s'.first:Int))).heap[k]? =w.heap[k]? :=λk a=>lJ _ _ _ _ a;have i:∀w0 nb n,NwIs w0 w nb n->w0.heap.size<=b->NwIs w0 (w.setCell ⟨b,0,none⟩ (iX (s'.first:Int))) nb n:=λw0 nb n d c=>d.setSpan e c;unfold World.span;generalize w.setCell ⟨b,0,none⟩ (iX (s'.first:Int))=w1 at *;have f:(w1.setCell ⟨b,1,none⟩ (iX (s'.last:Int))).heap[b]? =some (.cells #[iX (s'.first:Int),iX (s'.last:Int),bool s.empty] 167):=by simp[setCell,lU,c2]
 have j:∀k,k≠b->(w1.setCell ⟨b,1,none⟩ (iX (s'.last:Int))).heap[k]? =w.heap[k]? :=λk a=>(lJ _ _ _ _ a).trans (g k a);have l:∀w0 nb n,NwIs w0 w nb n->w0.heap.size<=b->NwIs w0 (w1.setCell ⟨b,1,none⟩ (iX (s'.last:Int))) nb n:=λw0 nb n d c=>(i w0 nb n d c).setSpan c2 c;generalize w1.setCell ⟨b,1,none⟩ (iX (s'.last:Int))=w2 at *;refine⟨by simp[setCell,lU,f,Sn.cells],λk a=>(lJ _ _ _ _ a).trans (j k a),λw0 nb n d c=>(l w0 nb n d c).setSpan f c⟩
section
variable {w0 w wr w2:World} {nb:Nat} {n:Nt} {s:Sn}
theorem Al.call {c:Nt}(a:Al w0 w wr nb n s)(d:NwIs w0 w2 nb c)(b:StayS wr w2):Al w0 w w2 nb c s:=⟨d,b _ _ a.res,b _ _ a.all,a.stay.trans b,a.old⟩
theorem Al.grown (a:Al w0 w wr nb n s)(b:Grew wr w2):Al w0 w w2 nb n s:=a.call (a.net.grown b) b.stayS
theorem Al.setAll (a:Al w0 w wr nb n s)(s':Sn):Al w0 w (World.span wr (w.heap.size+1) s') nb n s':=by
 obtain⟨e,b,f⟩:=zEO (s':=s') a.all;have g:=a.old;exact⟨f _ _ _ a.net (by omega),(b _ (by omega)).trans a.res,e,λk c d=>by
  have i:=(kQ.1 d).1;exact(b k (by omega)).trans (a.stay k c d),a.old⟩
theorem Al.fin (a:Al w0 w wr nb n s)(s':Sn):NwIs w0 (World.span wr w.heap.size s') nb n/\StayS w (World.span wr w.heap.size s')/\(World.span wr w.heap.size s').cell? ⟨w.heap.size,0,none⟩=some (iX (s'.first:Int))/\(World.span wr w.heap.size s').cell? ⟨w.heap.size,1,none⟩=some (iX (s'.last:Int))/\(World.span wr w.heap.size s').cell? ⟨w.heap.size,2,none⟩=some (bool s'.empty):=by
 obtain⟨d,e,f⟩:=zEO (s':=s') a.res;obtain⟨c0,c1,c2,_⟩:=zJ d;exact⟨f _ _ _ a.net a.old,λk c b=>by
  have g:=(kQ.1 b).1;exact(e k (by omega)).trans (a.stay k c b),c0,c1,c2⟩
theorem Al.start (a:NwIs w0 w nb n)(s:Sn):Al w0 w ((w.alloc (.cells (Sn.mk 0 0 false).cells 167)).alloc (.cells s.cells 167)) nb n s:=by
 have s1:(w.alloc (.cells (Sn.mk 0 0 false).cells 167)).heap.size=w.heap.size+1:=by simp
 have c:=kZ (b:=w.heap.size) w (.cells (Sn.mk 0 0 false).cells 167) lQ;have d:=kZ (b:=(w.alloc (.cells (Sn.mk 0 0 false).cells 167)).heap.size) (w.alloc (.cells (Sn.mk 0 0 false).cells 167)) (.cells s.cells 167) lQ;refine⟨(a.grown c).grown d,(lG _ _ _ (by rw[s1];omega)).trans (gY _ _),?_,c.stayS.trans d.stayS,by obtain⟨_,_,_,_,_,a⟩:=a;exact a.keep.size⟩;have:=gY (w.alloc (.cells (Sn.mk 0 0 false).cells 167)) (.cells s.cells 167);rw[s1] at this;exact this
end
theorem zDb (w0:World)(nb H:Nat)(c:Lay)(cnt:Tr->Nat)(O:zB4 w0 nb H c cnt)(B:Lays c cnt)(w:World)(n:Nt)(b:Nat)(t:Tr)(P:NwIs w0 w nb n)(I:n.Good)(aw:TreeAt w0 (H+1) b t)(Q:n.sets.length+zX cnt t.parts t.parts.length<=24)(aX:t.parts.length<=1000000000000):
  Calls prog 124 #[pX nb,pX b] w λe w'=>e=returned (rowTo c n t.parts t.parts.length).2.val/\NwIs w0 w' nb (rowTo c n t.parts t.parts.length).1/\StayS w w':=by
 obtain⟨R,rv,aY,S,_,ao,cap,rfl,_,_,T⟩:=aw;have U:Hid (∀wr V,NwIs w0 wr nb V->wr.cell? ⟨b,3,none⟩=some (slice ao t.parts.length cap)/\∀i,i<t.parts.length->∃g o p,ao=some ⟨g,o,none⟩/\wr.cell? ⟨g,o+i,none⟩=some (pX p)/\TreeAt w0 H p (t.parts.getD i Tr.none)):=by
  rintro wr V ⟨_,_,_,_,_,ax⟩;have W:=ax.keep;have ay:=(W.block b R (kJ R)).trans S;refine⟨by unfold cell?;rw[ay];rfl,λi az=>?_⟩;obtain⟨g,o,p,aA,aB,X,C⟩:=T i az;exact⟨g,o,p,aA,zA X aB W,C⟩
 obtain⟨a,Y⟩:∃a,a=rowTo c n t.parts:=⟨_,rfl⟩
 have y:Hid (a 0=(n,⟨0,0,true⟩)/\(∀j,a (j+1)=((c (a j).1 (t.parts.getD j Tr.none)).1.link (a j).2.last (c (a j).1 (t.parts.getD j Tr.none)).2.first,(a j).2.then (c (a j).1 (t.parts.getD j Tr.none)).2))/\(∀j,j<=t.parts.length->(a j).1.Good/\(a j).2.Small 24)/\(∀j,j<t.parts.length->(a j).1.sets.length+cnt (t.parts.getD j Tr.none)<=24/\(c (a j).1 (t.parts.getD j Tr.none)).1.Good/\(c (a j).1 (t.parts.getD j Tr.none)).2.Small 24)/\a t.parts.length=rowTo c n t.parts t.parts.length):=by
  rw[Y];have D:∀j,j<=t.parts.length->n.sets.length+zX cnt t.parts j<=24:=λj m=>lY (Nat.add_le_add_left (zCM cnt t.parts j _ m) _) Q;refine⟨rfl,λj=>rfl,λj m=>?_,λj m=>?_,rfl⟩
  ·have:=zAF B I t.parts j (D j m)
   exact⟨this.1,this.2.2.up (D j m)⟩
  ·have u:=zAF B I t.parts j (D j (by omega))
   have aa:n.sets.length+(zX cnt t.parts j+cnt (t.parts.getD j Tr.none))<=24:=D (j+1) m;have E:=B _ (t.parts.getD j Tr.none) u.1 (by rw[u.2.1];omega);exact⟨by rw[u.2.1];omega,E.1,E.2.2.up (by rw[u.2.1];omega)⟩
 obtain⟨w1,ab,ac⟩:∃w1,w1=(w.alloc (.cells #[iX 0,iX 0,bool false] 167)).alloc (.cells #[iX 0,iX 0,bool true] 167)/\Hid (Al w0 w w1 nb n ⟨0,0,true⟩):=⟨_,rfl,Al.start P ⟨0,0,true⟩⟩
 have aC:=vl O;generalize aD:rowTo c n t.parts t.parts.length=f at *;clear aD Y T S O B Q P I;go_in;apply wp_cut;intro aE z;go_wp2;apply z.out;clear z;apply wp_cut;intro aE z;go_wp2;apply z.out;clear z;rw[<-ab];clear ab;have y3:=(U w1 n ac.net).1;go_wp2;clear y3;go_loopg [15] t.parts.length (λq i wr=>∃j:Nat,q=t.parts.length-j/\j<=t.parts.length/\i=iX (j:Int)/\Al w0 w wr nb (a j).1 (a j).2)
 case atStart=>exact⟨0,rfl,lX,rfl,by rw[y.out.1];exact ac⟩
 case round=>
  obtain⟨j,J,m,rfl,k⟩:=hrel;have aF:Hid (gk=t.parts.length-j/\Al w0 w wr nb (a j).1 (a j).2):=⟨J,k⟩
  by_cases ad:j<t.parts.length
  ·have aG:(j:Int)<(t.parts.length:Int):=by omega
   obtain⟨g,o,p,rfl,X,C⟩:=(U wr _ k.net).2 j ad;obtain⟨ae,b2,af⟩:=y.2.2.2.1 j ad;obtain⟨ag,ah⟩:=y.2.2.1 j m;have ai:=aC wr (a j).1 p (t.parts.getD j Tr.none) k.net ag C ae;have aj:=λx (aH:NwIs w0 x nb (c (a j).1 (t.parts.getD j Tr.none)).1)=>zCC w0 x nb _ aH (by rw[b2.same];exact b2.len) b2.top (a j).2 (c (a j).1 (t.parts.getD j Tr.none)).2 ah af;have aI:=vl <| y.2.1 j;have aJ:=vl k;clear J k C ae b2 af ag ah;generalize (a j).1=ak at *;generalize (a j).2=l at *;generalize (c ak (t.parts.getD j Tr.none)).1=A at *;generalize (c ak (t.parts.getD j Tr.none)).2=q2 at *;have aK:Hid (Ca 89 #[pX nb,pX p] wr λe w'=>e=returned (agg #[iX (q2.first:Int),iX (q2.last:Int),bool q2.empty])/\NwIs w0 w' nb A/\StayS wr w'):=ai;have aL:Hid (∀x,NwIs w0 x nb A->Ca 164 #[pX nb,agg #[iX (l.first:Int),iX (l.last:Int),bool l.empty],agg #[iX (q2.first:Int),iX (q2.last:Int),bool q2.empty]] x λe w'=>e=returned (agg #[iX ((l.then q2).first:Int),iX ((l.then q2).last:Int),bool (l.then q2).empty])/\NwIs w0 w' nb (A.link l.last q2.first)/\StayS x w'):=aj;clear ai aj;generalize l.then q2=K at *
   go_wp2_with (first|(go_at_call 89;refine aK.mono ?_;rintro e L ⟨rfl,al,am⟩;have an:=aJ.call al am;have M:=an.grown (kZ L (Obj.cells #[iX (q2.first:Int),iX (q2.last:Int),bool q2.empty] 167) lQ);obtain⟨c0,c1,c2,-⟩:=zJ M.all;obtain⟨aZ,a0,a1,-⟩:=zJ (s:=q2) (gY L (Obj.cells #[iX (q2.first:Int),iX (q2.last:Int),bool q2.empty] 167));have ap:Hid (Al w0 w (L.alloc (Obj.cells #[iX (q2.first:Int),iX (q2.last:Int),bool q2.empty] 167)) nb A l):=M;clear an M al am)|(go_at_call 164;refine(aL _ ap.net).mono ?_;rintro e aM ⟨rfl,aq,ar⟩;have N:=ap.call aq ar;obtain⟨a2,a3,a4,F⟩:=zJ N.all;have aN:=F 0;have aO:=F 1;have aP:=F 2;have aQ:Hid (Al w0 w (World.span aM (w.heap.size+1) K) nb (A.link l.last q2.first) K):=N.setAll K;clear N aq ar F))
   go_roundg (t.parts.length-(j+1))
   case measure=>rw[aF.out.1];omega
   case rel=>exact⟨j+1,rfl,by omega,by go_num,by rw[aI.out];exact aQ⟩
  ·have aG:(t.parts.length:Int)<=(j:Int):=by omega
   have e:j=t.parts.length:=by omega
   subst e;rw[y.out.2.2.2.2] at k;obtain⟨c0,c1,c2,-⟩:=zJ k.all;obtain⟨a5,a6,a7,G⟩:=zJ k.res;have aN:=G 0;have aO:=G 1;have aP:=G 2;have aR:Hid (Al w0 w wr nb f.1 f.2):=k;clear J k G;go_wp2;obtain⟨r,au,av,aS,aT,aU⟩:∃r,r=((wr.setCell ⟨w.heap.size,0,none⟩ (iX (f.2.first:Int))).setCell ⟨w.heap.size,1,none⟩ (iX (f.2.last:Int))).setCell ⟨w.heap.size,2,none⟩ (bool f.2.empty)/\Hid (NwIs w0 r nb f.1/\StayS w r)/\r.cell? ⟨w.heap.size,0,none⟩=some (iX (f.2.first:Int))/\r.cell? ⟨w.heap.size,1,none⟩=some (iX (f.2.last:Int))/\r.cell? ⟨w.heap.size,2,none⟩=some (bool f.2.empty):=by
    obtain⟨u,aa,E,aV,aW⟩:=aR.fin f.2;exact⟨_,rfl,⟨u,aa⟩,E,aV,aW⟩
   rw[<-au];clear au;refine gJ (v:=agg #[iX (f.2.first:Int),iX (f.2.last:Int),bool f.2.empty]) (by simp[results,results124,go_sem,aS,aT,aU]) rfl ?_;exact⟨rfl,av.1,av.2⟩
end
end Go.Proofs.YtbjcfkdnjaiclaaGreat
