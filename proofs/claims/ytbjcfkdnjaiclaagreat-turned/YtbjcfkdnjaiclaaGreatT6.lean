import Derived.Deep.DrawnRows
import Derived.Deep.RegionLaw
import Derived.Test.YtbjcfkdnjaiclaaGreatT0
import Derived.Test.YtbjcfkdnjaiclaaGreatT5
/- Parts of the proof. -/
set_option linter.unusedVariables false
set_option linter.unusedSimpArgs false
set_option maxHeartbeats 4000000
set_option maxRecDepth 100000
namespace Go.Proofs.YtbjcfkdnjaiclaaGreat
open Go.RowKit Go.Proofs.Tryz Go.World
open Go.Value (int slice bool pointer string agg tuple)
open Go.IntKind (i64)
open Go.Ending (returned)
section
def zC5 (w0:World)(nb d:Nat)(sub:Lay)(cnt:Tr->Nat):Prop:=∀(w:World) (n:Nt) (b:Nat) (t:Tr),NwIs w0 w nb n->n.Good->TreeAt w0 d b t->n.sets.length+cnt t<=24->Calls prog 89 #[pointer (some ⟨nb,0,none⟩),pointer (some ⟨b,0,none⟩)] w λe w'=>e=returned (sub n t).2.val/\NwIs w0 w' nb (sub n t).1/\StayS w w'
structure Al (w0 w wr:World)(nb:Nat)(n:Nt)(s:Sn):Prop where
 net:NwIs w0 wr nb n
 res:wr.heap[w.heap.size]? =some (.cells (Sn.mk 0 0 false).cells 167)
 all:wr.heap[w.heap.size+1]? =some (.cells s.cells 167)
 stay:StayS w wr
 old:w0.heap.size<=w.heap.size
theorem zI {w:World}{b:Nat}{s:Sn}(a:w.heap[b]? =some (.cells s.cells 167)):w.cell? ⟨b,0,none⟩=some (iX (s.first:Int))/\w.cell? ⟨b,1,none⟩=some (iX (s.last:Int))/\w.cell? ⟨b,2,none⟩=some (bool s.empty)/\∀i,w.frozen? ⟨b,i,none⟩=false:=by
 refine⟨?_,?_,?_,λi=>?_⟩
 ·unfold cell?;rw[a];rfl
 ·unfold cell?;rw[a];rfl
 ·unfold cell?;rw[a];rfl
 ·unfold frozen?;rw[a];simp
def World.span (w:World)(b:Nat)(s:Sn):World:=((w.setCell ⟨b,0,none⟩ (int i64 (s.first:Int))).setCell ⟨b,1,none⟩ (int i64 (s.last:Int))).setCell ⟨b,2,none⟩ (bool s.empty)
theorem zF9 {w:World}{b:Nat}{s s':Sn}(e:w.heap[b]? =some (.cells s.cells 167)):(World.span w b s').heap[b]? =some (.cells s'.cells 167)/\(∀k,k≠b->(World.span w b s').heap[k]? =w.heap[k]?)/\(∀w0 nb n,NwIs w0 w nb n->w0.heap.size<=b->NwIs w0 (World.span w b s') nb n):=by
 have c2:(w.setCell ⟨b,0,none⟩ (iX (s'.first:Int))).heap[b]? =some (.cells #[iX (s'.first:Int),iX (s.last:Int),bool s.empty] 167):=by simp[setCell,lU,e,Sn.cells]
 have g:∀k,k≠b->(w.setCell ⟨b,0,none⟩ (iX (s'.first:Int))).heap[k]? =w.heap[k]? :=λk a=>lJ _ _ _ _ a;have j:∀w0 nb n,NwIs w0 w nb n->w0.heap.size<=b->NwIs w0 (w.setCell ⟨b,0,none⟩ (iX (s'.first:Int))) nb n:=λw0 nb n d c=>d.setSpan e c;unfold World.span;generalize w.setCell ⟨b,0,none⟩ (iX (s'.first:Int))=w1 at *;have f:(w1.setCell ⟨b,1,none⟩ (iX (s'.last:Int))).heap[b]? =some (.cells #[iX (s'.first:Int),iX (s'.last:Int),bool s.empty] 167):=by simp[setCell,lU,c2]
 have l:∀k,k≠b->(w1.setCell ⟨b,1,none⟩ (iX (s'.last:Int))).heap[k]? =w.heap[k]? :=λk a=>(lJ _ _ _ _ a).trans (g k a);have m:∀w0 nb n,NwIs w0 w nb n->w0.heap.size<=b->NwIs w0 (w1.setCell ⟨b,1,none⟩ (iX (s'.last:Int))) nb n:=λw0 nb n d c=>(j w0 nb n d c).setSpan c2 c;generalize w1.setCell ⟨b,1,none⟩ (iX (s'.last:Int))=w2 at *;refine⟨by simp[setCell,lU,f,Sn.cells],λk a=>(lJ _ _ _ _ a).trans (l k a),λw0 nb n d c=>(m w0 nb n d c).setSpan f c⟩
section
variable {w0 w wr w2:World} {nb:Nat} {n:Nt} {s:Sn}
theorem Al.call {c:Nt}(a:Al w0 w wr nb n s)(d:NwIs w0 w2 nb c)(b:StayS wr w2):Al w0 w w2 nb c s:=⟨d,b _ _ a.res,b _ _ a.all,a.stay.trans b,a.old⟩
theorem Al.grown (a:Al w0 w wr nb n s)(b:Grew wr w2):Al w0 w w2 nb n s:=a.call (a.net.grown b) b.stayS
theorem Al.setAll (a:Al w0 w wr nb n s)(s':Sn):Al w0 w (World.span wr (w.heap.size+1) s') nb n s':=by
 have ⟨e,b,f⟩:=zF9 (s':=s') a.all;have g:=a.old;exact⟨f _ _ _ a.net (by omega),(b _ (by omega)).trans a.res,e,λk c d=>by
  have j:=(kQ.1 d).1;exact(b k (by omega)).trans (a.stay k c d),a.old⟩
theorem Al.fin (a:Al w0 w wr nb n s)(s':Sn):NwIs w0 (World.span wr w.heap.size s') nb n/\StayS w (World.span wr w.heap.size s')/\(World.span wr w.heap.size s').cell? ⟨w.heap.size,0,none⟩=some (iX (s'.first:Int))/\(World.span wr w.heap.size s').cell? ⟨w.heap.size,1,none⟩=some (iX (s'.last:Int))/\(World.span wr w.heap.size s').cell? ⟨w.heap.size,2,none⟩=some (bool s'.empty):=by
 have ⟨d,e,f⟩:=zF9 (s':=s') a.res;have ⟨c0,c1,c2,_⟩:=zI d;exact⟨f _ _ _ a.net a.old,λk c b=>by
  have g:=(kQ.1 b).1;exact(e k (by omega)).trans (a.stay k c b),c0,c1,c2⟩
theorem Al.start (a:NwIs w0 w nb n)(s:Sn):Al w0 w ((w.alloc (.cells (Sn.mk 0 0 false).cells 167)).alloc (.cells s.cells 167)) nb n s:=by
 have s1:(w.alloc (.cells (Sn.mk 0 0 false).cells 167)).heap.size=w.heap.size+1:=by simp
 have c:=kZ (b:=w.heap.size) w (.cells (Sn.mk 0 0 false).cells 167) lQ;have d:=kZ (b:=(w.alloc (.cells (Sn.mk 0 0 false).cells 167)).heap.size) (w.alloc (.cells (Sn.mk 0 0 false).cells 167)) (.cells s.cells 167) lQ;refine⟨(a.grown c).grown d,(lG _ _ _ (by rw[s1];omega)).trans (gZ _ _),?_,c.stayS.trans d.stayS,by obtain⟨_,_,_,_,_,a⟩:=a;exact a.keep.size⟩;have:=gZ (w.alloc (.cells (Sn.mk 0 0 false).cells 167)) (.cells s.cells 167);rw[s1] at this;exact this
end
theorem zEn (w0:World)(nb H:Nat)(c:Lay)(cnt:Tr->Nat)(O:zC5 w0 nb H c cnt)(B:Lays c cnt)(w:World)(n:Nt)(b:Nat)(t:Tr)(P:NwIs w0 w nb n)(I:n.Good)(ax:TreeAt w0 (H+1) b t)(R:n.sets.length+xG cnt t.parts t.parts.length<=24)(aY:t.parts.length<=1000000000000):
  Calls prog 124 #[pX nb,pX b] w λe w'=>e=returned (rowTo c n t.parts t.parts.length).2.val/\NwIs w0 w' nb (rowTo c n t.parts t.parts.length).1/\StayS w w':=by
 obtain⟨S,rv,aZ,T,_,ao,cap,rfl,_,_,U⟩:=ax;have V:Hid (∀wr W,NwIs w0 wr nb W->wr.cell? ⟨b,3,none⟩=some (slice ao t.parts.length cap)/\∀i,i<t.parts.length->∃g o p,ao=some ⟨g,o,none⟩/\wr.cell? ⟨g,o+i,none⟩=some (pX p)/\TreeAt w0 H p (t.parts.getD i Tr.none)):=by
  rintro wr W ⟨_,_,_,_,_,ay⟩;have X:=ay.keep;have az:=(X.block b S (kJ S)).trans T;refine⟨by unfold cell?;rw[az];rfl,λi aA=>?_⟩;have ⟨g,o,p,aB,aC,Y,C⟩:=U i aA;exact⟨g,o,p,aB,zA Y aC X,C⟩
 obtain⟨a,aa⟩:∃a,a=rowTo c n t.parts:=⟨_,rfl⟩
 have y:Hid (a 0=(n,⟨0,0,true⟩)/\(∀j,a (j+1)=((c (a j).1 (t.parts.getD j Tr.none)).1.link (a j).2.last (c (a j).1 (t.parts.getD j Tr.none)).2.first,(a j).2.then (c (a j).1 (t.parts.getD j Tr.none)).2))/\(∀j,j<=t.parts.length->(a j).1.Good/\(a j).2.Small 24)/\(∀j,j<t.parts.length->(a j).1.sets.length+cnt (t.parts.getD j Tr.none)<=24/\(c (a j).1 (t.parts.getD j Tr.none)).1.Good/\(c (a j).1 (t.parts.getD j Tr.none)).2.Small 24)/\a t.parts.length=rowTo c n t.parts t.parts.length):=by
  rw[aa];have D:∀j,j<=t.parts.length->n.sets.length+xG cnt t.parts j<=24:=λj m=>lY (Nat.add_le_add_left (zDT cnt t.parts j _ m) _) R;refine⟨rfl,λj=>rfl,λj m=>?_,λj m=>?_,rfl⟩
  ·have:=zBa B I t.parts j (D j m)
   exact⟨this.1,this.2.2.up (D j m)⟩
  ·have u:=zBa B I t.parts j (D j (by omega))
   have ab:n.sets.length+(xG cnt t.parts j+cnt (t.parts.getD j Tr.none))<=24:=D (j+1) m;have E:=B _ (t.parts.getD j Tr.none) u.1 (by rw[u.2.1];omega);exact⟨by rw[u.2.1];omega,E.1,E.2.2.up (by rw[u.2.1];omega)⟩
 obtain⟨w1,ac,ad⟩:∃w1,w1=(w.alloc (.cells #[zX,zX,fX] 167)).alloc (.cells #[zX,zX,tX] 167)/\Hid (Al w0 w w1 nb n ⟨0,0,true⟩):=⟨_,rfl,Al.start P ⟨0,0,true⟩⟩
 have aD:=vl O;generalize aE:rowTo c n t.parts t.parts.length=f at *;clear aE aa U T O B R P I;go_in;apply wp_cut;intro aF z;go_wp2;apply z.out;clear z;apply wp_cut;intro aF z;go_wp2;apply z.out;clear z;rw[<-ac];clear ac;have y3:=(V w1 n ad.net).1;go_wp2;clear y3;go_loopg [15] t.parts.length (λq i wr=>∃j:Nat,q=t.parts.length-j/\j<=t.parts.length/\i=iX (j:Int)/\Al w0 w wr nb (a j).1 (a j).2)
 case atStart=>exact⟨0,rfl,lX,rfl,by rw[y.out.1];exact ad⟩
 case round=>
  obtain⟨j,J,m,rfl,k⟩:=hrel;have aG:Hid (gk=t.parts.length-j/\Al w0 w wr nb (a j).1 (a j).2):=⟨J,k⟩
  by_cases ae:j<t.parts.length
  ·have aH:(j:Int)<(t.parts.length:Int):=by omega
   obtain⟨g,o,p,rfl,Y,C⟩:=(V wr _ k.net).2 j ae;have ⟨af,b2,ag⟩:=y.2.2.2.1 j ae;have ⟨ah,ai⟩:=y.2.2.1 j m;have aj:=aD wr (a j).1 p (t.parts.getD j Tr.none) k.net ah C af;have ak:=λx (aI:NwIs w0 x nb (c (a j).1 (t.parts.getD j Tr.none)).1)=>zDH w0 x nb _ aI (by rw[b2.same];exact b2.len) b2.top (a j).2 (c (a j).1 (t.parts.getD j Tr.none)).2 ai ag;have aJ:=vl <| y.2.1 j;have aK:=vl k;clear J k C af b2 ag ah ai;generalize (a j).1=al at *;generalize (a j).2=l at *;generalize (c al (t.parts.getD j Tr.none)).1=A at *;generalize (c al (t.parts.getD j Tr.none)).2=q2 at *;have aL:Hid (Ca 89 #[pX nb,pX p] wr λe w'=>e=returned (agg #[iX (q2.first:Int),iX (q2.last:Int),bool q2.empty])/\NwIs w0 w' nb A/\StayS wr w'):=aj;have aM:Hid (∀x,NwIs w0 x nb A->Ca 164 #[pX nb,agg #[iX (l.first:Int),iX (l.last:Int),bool l.empty],agg #[iX (q2.first:Int),iX (q2.last:Int),bool q2.empty]] x λe w'=>e=returned (agg #[iX ((l.then q2).first:Int),iX ((l.then q2).last:Int),bool (l.then q2).empty])/\NwIs w0 w' nb (A.link l.last q2.first)/\StayS x w'):=ak;clear aj ak;generalize l.then q2=K at *
   go_wp2_with (first|(go_at_call 89;refine aL.mono ?_;rintro e L ⟨rfl,am,an⟩;have ap:=aK.call am an;have M:=ap.grown (kZ L (Obj.cells #[iX (q2.first:Int),iX (q2.last:Int),bool q2.empty] 167) lQ);obtain⟨c0,c1,c2,-⟩:=zI M.all;obtain⟨a0,a1,a2,-⟩:=zI (s:=q2) (gZ L (Obj.cells #[iX (q2.first:Int),iX (q2.last:Int),bool q2.empty] 167));have aq:Hid (Al w0 w (L.alloc (Obj.cells #[iX (q2.first:Int),iX (q2.last:Int),bool q2.empty] 167)) nb A l):=M;clear ap M am an)|(go_at_call 164;refine(aM _ aq.net).mono ?_;rintro e aN ⟨rfl,ar,au⟩;have N:=aq.call ar au;have ⟨a3,a4,a5,F⟩:=zI N.all;have aO:=F 0;have aP:=F 1;have aQ:=F 2;have aR:Hid (Al w0 w (World.span aN (w.heap.size+1) K) nb (A.link l.last q2.first) K):=N.setAll K;clear N ar au F))
   go_roundg (t.parts.length-(j+1))
   case measure=>rw[aG.out.1];omega
   case rel=>exact⟨j+1,rfl,by omega,by go_num,by rw[aJ.out];exact aR⟩
  ·have aH:(t.parts.length:Int)<=(j:Int):=by omega
   have e:j=t.parts.length:=by omega
   subst e;rw[y.out.2.2.2.2] at k;obtain⟨c0,c1,c2,-⟩:=zI k.all;have ⟨a6,a7,a8,G⟩:=zI k.res;have aO:=G 0;have aP:=G 1;have aQ:=G 2;have aS:Hid (Al w0 w wr nb f.1 f.2):=k;clear J k G;go_wp2;obtain⟨r,av,aw,aT,aU,aV⟩:∃r,r=((wr.setCell ⟨w.heap.size,0,none⟩ (iX (f.2.first:Int))).setCell ⟨w.heap.size,1,none⟩ (iX (f.2.last:Int))).setCell ⟨w.heap.size,2,none⟩ (bool f.2.empty)/\Hid (NwIs w0 r nb f.1/\StayS w r)/\r.cell? ⟨w.heap.size,0,none⟩=some (iX (f.2.first:Int))/\r.cell? ⟨w.heap.size,1,none⟩=some (iX (f.2.last:Int))/\r.cell? ⟨w.heap.size,2,none⟩=some (bool f.2.empty):=by
    have ⟨u,ab,E,aW,aX⟩:=aS.fin f.2;exact⟨_,rfl,⟨u,ab⟩,E,aW,aX⟩
   rw[<-av];clear av;refine gU (v:=agg #[iX (f.2.first:Int),iX (f.2.last:Int),bool f.2.empty]) (by simp[results,results124,go_sem,aT,aU,aV]) rfl ?_;exact⟨rfl,aw.1,aw.2⟩
end
theorem zFE (k:World)(c ab:Nat)(r:Lay)(cnt:Tr->Nat)(am:zC5 k c ab r cnt)(U:Lays r cnt)(w:World)(n:Nt)(b:Nat)(t:Tr)(an:NwIs k w c n)(ac:n.Good)(aY:TreeAt k (ab+1) b t)(ap:n.sets.length+xG cnt t.parts t.parts.length<=24)(bw:t.parts.length<=1000000000000):
  Calls prog 125 #[pX c,pX b] w λe w'=>e=returned (zAf r n t.parts t.parts.length).2.val/\NwIs k w' c (zAf r n t.parts t.parts.length).1/\StayS w w':=by
 obtain⟨aq,rv,bx,ar,_,ao,cap,rfl,_,_,au⟩:=aY;have av:Hid (∀wr aw,NwIs k wr c aw->wr.cell? ⟨b,3,none⟩=some (slice ao t.parts.length cap)/\∀i,i<t.parts.length->∃g o p,ao=some ⟨g,o,none⟩/\wr.cell? ⟨g,o+i,none⟩=some (pX p)/\TreeAt k ab p (t.parts.getD i Tr.none)):=by
  rintro wr aw ⟨_,_,_,_,_,aZ⟩;have ax:=aZ.keep;have a0:=(ax.block b aq (kJ aq)).trans ar;refine⟨by unfold cell?;rw[a0];rfl,λi a1=>?_⟩;have ⟨g,o,p,a2,a3,ay,V⟩:=au i a1;exact⟨g,o,p,a2,zA ay a3 ax,V⟩
 obtain⟨a,az⟩:∃a,a=zAf r n t.parts:=⟨_,rfl⟩
 have M:Hid (a 0=(n,⟨0,0,false⟩)/\(∀j,a (j+1)=((r (a j).1 (t.parts.getD j Tr.none)).1,(a j).2.or (r (a j).1 (t.parts.getD j Tr.none)).2))/\(∀j,j<=t.parts.length->(a j).1.Good/\(a j).2.Small 24)/\(∀j,j<t.parts.length->(a j).1.sets.length+cnt (t.parts.getD j Tr.none)<=24/\(r (a j).1 (t.parts.getD j Tr.none)).1.Good/\(r (a j).1 (t.parts.getD j Tr.none)).2.Small 24)/\a t.parts.length=zAf r n t.parts t.parts.length):=by
  rw[az];have W:∀j,j<=t.parts.length->n.sets.length+xG cnt t.parts j<=24:=λj H=>lY (Nat.add_le_add_left (zDT cnt t.parts j _ H) _) ap;refine⟨rfl,λj=>rfl,λj H=>?_,λj H=>?_,rfl⟩
  ·have:=zCX U ac t.parts j (W j H)
   exact⟨this.1,this.2.2.up (W j H)⟩
  ·have K:=zCX U ac t.parts j (W j (by omega))
   have aA:n.sets.length+(xG cnt t.parts j+cnt (t.parts.getD j Tr.none))<=24:=W (j+1) H;have X:=U _ (t.parts.getD j Tr.none) K.1 (by rw[K.2.1];omega);exact⟨by rw[K.2.1];omega,X.1,X.2.2.up (by rw[K.2.1];omega)⟩
 obtain⟨w1,aB,aC⟩:∃w1,w1=(w.alloc (.cells #[zX,zX,fX] 167)).alloc (.cells #[zX,zX,fX] 167)/\Hid (Al k w w1 c n ⟨0,0,false⟩):=⟨_,rfl,Al.start an ⟨0,0,false⟩⟩
 have a4:=vl am;generalize a5:zAf r n t.parts t.parts.length=u at *;clear a5 az au ar am U ap an ac;go_in;apply wp_cut;intro a6 N;go_wp2;apply N.out;clear N;apply wp_cut;intro a6 N;go_wp2;apply N.out;clear N;rw[<-aB];clear aB;have y3:=(av w1 n aC.net).1;go_wp2;clear y3;go_loopg [15] t.parts.length (λq i wr=>∃j:Nat,q=t.parts.length-j/\j<=t.parts.length/\i=iX (j:Int)/\Al k w wr c (a j).1 (a j).2)
 case atStart=>exact⟨0,rfl,lX,rfl,by rw[M.out.1];exact aC⟩
 case round=>
  obtain⟨j,ad,H,rfl,D⟩:=hrel;have aD:Hid (gk=t.parts.length-j/\Al k w wr c (a j).1 (a j).2):=⟨ad,D⟩
  by_cases aE:j<t.parts.length
  ·have a7:(j:Int)<(t.parts.length:Int):=by omega
   obtain⟨g,o,p,rfl,ay,V⟩:=(av wr _ D.net).2 j aE;have ⟨aF,b2,ag⟩:=M.2.2.2.1 j aE;have ⟨aG,ah⟩:=M.2.2.1 j H;have aH:=a4 wr (a j).1 p (t.parts.getD j Tr.none) D.net aG V aF;have a8:(a j).2.first<16777216:=ah.first
   have a9:(a j).2.last<16777216:=ah.last;have ba:(r (a j).1 (t.parts.getD j Tr.none)).2.first<16777216:=ag.first
   have bb:(r (a j).1 (t.parts.getD j Tr.none)).2.last<16777216:=ag.last;have ai:=vl <| M.2.1 j;have aI:=vl D;clear ad D V aF b2 ag aG ah;generalize (a j).1=aJ at *;generalize (a j).2=B at *;generalize (r aJ (t.parts.getD j Tr.none)).1=E at *;generalize (r aJ (t.parts.getD j Tr.none)).2=q2 at *;have aK:Hid (Ca 89 #[pX c,pX p] wr λe w'=>e=returned (agg #[iX (q2.first:Int),iX (q2.last:Int),bool q2.empty])/\NwIs k w' c E/\StayS wr w'):=aH;clear aH;have aL:bits .or i64 (B.first:Int) (q2.first:Int)=((B.first|||q2.first:Nat):Int):=qF _ _ (by omega) (by omega);have aM:bits .or i64 (B.last:Int) (q2.last:Int)=((B.last|||q2.last:Nat):Int):=qF _ _ (by omega) (by omega);clear a8 a9 ba bb;have aN:Hid (∀m,Al k w m c E B->w.heap.size+1<m.heap.size/\Al k w (m.alloc (Obj.cells #[iX (q2.first:Int),iX (q2.last:Int),bool q2.empty] 167)) c E B/\(m.alloc (Obj.cells #[iX (q2.first:Int),iX (q2.last:Int),bool q2.empty] 167)).heap[m.heap.size]? =some (.cells q2.cells 167)):=λm Y=>⟨(kQ.1 Y.all).1,Y.grown (kZ m _ lQ),gZ m _⟩
   have aO:Hid (B.or q2=⟨B.first|||q2.first,B.last|||q2.last,B.empty||q2.empty⟩):=rfl;rw[aO.out] at ai;clear aO;obtain⟨z,s,L⟩:=B;obtain⟨l,f,C⟩:=q2;have aP:Hid (Ca 89 #[pX c,pX p] wr λe w'=>e=returned (agg #[iX (l:Int),iX (f:Int),bool C])/\NwIs k w' c E/\StayS wr w'):=aK;clear aK;have bz:bits .or i64 (z:Int) (l:Int)=((z|||l:Nat):Int):=aL;have bA:bits .or i64 (s:Int) (f:Int)=((s|||f:Nat):Int):=aM;clear aL aM;have aQ:Hid (a (j+1)=(E,⟨z|||l,s|||f,L||C⟩)):=ai;clear ai;have aR:Hid (∀A:World,A.heap[w.heap.size+1]? =some (.cells #[iX (z:Int),iX (s:Int),bool L] 167)->∀F,w.heap.size+1<F->A.heap[F]? =some (.cells #[iX (l:Int),iX (f:Int),bool C] 167)->∀x y:Nat,
     ((A.setCell ⟨w.heap.size+1,0,none⟩ (iX (x:Int))).cell? ⟨w.heap.size+1,1,none⟩=some (iX (s:Int))/\(A.setCell ⟨w.heap.size+1,0,none⟩ (iX (x:Int))).cell? ⟨F,1,none⟩=some (iX (f:Int))/\(A.setCell ⟨w.heap.size+1,0,none⟩ (iX (x:Int))).frozen? ⟨w.heap.size+1,1,none⟩=false)/\
     (((A.setCell ⟨w.heap.size+1,0,none⟩ (iX (x:Int))).setCell ⟨w.heap.size+1,1,none⟩ (iX (y:Int))).cell? ⟨w.heap.size+1,2,none⟩=some (bool L)/\((A.setCell ⟨w.heap.size+1,0,none⟩ (iX (x:Int))).setCell ⟨w.heap.size+1,1,none⟩ (iX (y:Int))).cell? ⟨F,2,none⟩=some (bool C)/\((A.setCell ⟨w.heap.size+1,0,none⟩ (iX (x:Int))).setCell ⟨w.heap.size+1,1,none⟩ (iX (y:Int))).frozen? ⟨w.heap.size+1,2,none⟩=false)):=by
    intro A bc F I bd x y;have c2:(A.setCell ⟨w.heap.size+1,0,none⟩ (iX (x:Int))).heap[w.heap.size+1]? =some (.cells #[iX (x:Int),iX (s:Int),bool L] 167):=by simp[setCell,lU,bc]
    have aS:(A.setCell ⟨w.heap.size+1,0,none⟩ (iX (x:Int))).heap[F]? =some (.cells #[iX (l:Int),iX (f:Int),bool C] 167):=(lJ _ _ _ _ (by show F≠w.heap.size+1;omega)).trans bd;generalize A.setCell ⟨w.heap.size+1,0,none⟩ (iX (x:Int))=aT at *;have aU:(aT.setCell ⟨w.heap.size+1,1,none⟩ (iX (y:Int))).heap[w.heap.size+1]? =some (.cells #[iX (x:Int),iX (y:Int),bool L] 167):=by simp[setCell,lU,c2]
    have bg:(aT.setCell ⟨w.heap.size+1,1,none⟩ (iX (y:Int))).heap[F]? =some (.cells #[iX (l:Int),iX (f:Int),bool C] 167):=(lJ _ _ _ _ (by show F≠w.heap.size+1;omega)).trans aS;refine⟨⟨?_,?_,?_⟩,?_,?_,?_⟩
    ·unfold cell?;rw[c2];rfl
    ·unfold cell?;rw[aS];rfl
    ·unfold frozen?;rw[c2];rfl
    ·unfold cell?;rw[aU];rfl
    ·unfold cell?;rw[bg];rfl
    ·unfold frozen?;rw[aU];rfl
   rcases L with _|_
   ·have aj:Hid (a (j+1)=(E,⟨z|||l,s|||f,C⟩)):=aQ
    go_wp2_with (go_at_call 89;refine aP.mono ?_;rintro e m ⟨rfl,O,P⟩;have R:=aI.call O P;have ⟨S,G,I⟩:=aN m R;have ⟨c0,c1,c2,T⟩:=zI G.all;have aV:=T 0;obtain⟨bh,bi,bj,-⟩:=zI I;have ⟨⟨bk,bm,bn⟩,bo,bp,bq⟩:=aR _ G.all m.heap.size S I (z|||l) (s|||f);have ak:Hid (Al k w (World.span (m.alloc (Obj.cells #[iX (l:Int),iX (f:Int),bool C] 167)) (w.heap.size+1) ⟨z|||l,s|||f,C⟩) c E ⟨z|||l,s|||f,C⟩):=G.setAll _;clear R G O P T I S)
    go_roundg (t.parts.length-(j+1))
    case measure=>rw[aD.out.1];omega
    case rel=>exact⟨j+1,rfl,by omega,by go_num,by rw[aj.out];exact ak⟩
   ·have aj:Hid (a (j+1)=(E,⟨z|||l,s|||f,true⟩)):=aQ
    go_wp2_with (go_at_call 89;refine aP.mono ?_;rintro e m ⟨rfl,O,P⟩;have R:=aI.call O P;have ⟨S,G,I⟩:=aN m R;have ⟨c0,c1,c2,T⟩:=zI G.all;have aV:=T 0;obtain⟨bh,bi,bj,-⟩:=zI I;have ⟨⟨bk,bm,bn⟩,bo,bp,bq⟩:=aR _ G.all m.heap.size S I (z|||l) (s|||f);have ak:Hid (Al k w (World.span (m.alloc (Obj.cells #[iX (l:Int),iX (f:Int),bool C] 167)) (w.heap.size+1) ⟨z|||l,s|||f,true⟩) c E ⟨z|||l,s|||f,true⟩):=G.setAll _;clear R G O P T I S)
    go_roundg (t.parts.length-(j+1))
    case measure=>rw[aD.out.1];omega
    case rel=>exact⟨j+1,rfl,by omega,by go_num,by rw[aj.out];exact ak⟩
  ·have a7:(t.parts.length:Int)<=(j:Int):=by omega
   have e:j=t.parts.length:=by omega
   subst e;rw[M.out.2.2.2.2] at D;obtain⟨c0,c1,c2,-⟩:=zI D.all;have ⟨bB,bC,bD,aa⟩:=zI D.res;have aV:=aa 0;have bE:=aa 1;have bF:=aa 2;have br:Hid (Al k w wr c u.1 u.2):=D;clear ad D aa;go_wp2;obtain⟨J,aW,aX,bs,bt,bu⟩:∃J,J=((wr.setCell ⟨w.heap.size,0,none⟩ (iX (u.2.first:Int))).setCell ⟨w.heap.size,1,none⟩ (iX (u.2.last:Int))).setCell ⟨w.heap.size,2,none⟩ (bool u.2.empty)/\Hid (NwIs k J c u.1/\StayS w J)/\J.cell? ⟨w.heap.size,0,none⟩=some (iX (u.2.first:Int))/\J.cell? ⟨w.heap.size,1,none⟩=some (iX (u.2.last:Int))/\J.cell? ⟨w.heap.size,2,none⟩=some (bool u.2.empty):=by
    have ⟨K,aA,X,bv,Y⟩:=br.fin u.2;exact⟨_,rfl,⟨K,aA⟩,X,bv,Y⟩
   rw[<-aW];clear aW;refine gU (v:=agg #[iX (u.2.first:Int),iX (u.2.last:Int),bool u.2.empty]) (by simp[results,results125,go_sem,bs,bt,bu]) rfl ?_;exact⟨rfl,aX.1,aX.2⟩
theorem zEx (w:World)(l m:Nat)(e:Bool):
  Calls prog 165 #[agg #[iX (l:Int),iX (m:Int),bool e]] w λx w'=>x=returned (iX (((if e then(if l=0 then 1 else l) else m:Nat)):Int))/\Grew w w':=by
 cases e with
 |false=>
  go_in;go_wp2;go_ret;exact⟨rfl,kZ _ _ lQ⟩
 |true=>
  by_cases a:l=0
  ·subst a
   go_in;go_wp2;go_ret;exact⟨rfl,kZ _ _ lQ⟩
  ·have b:((l:Int)==0)=false:=by rw[hX];omega
   go_in;go_wp2;go_ret;exact⟨rfl,kZ _ _ lQ⟩
theorem zGw (l:World)(f aS:Nat)(A:Lay)(cnt:Tr->Nat)(bc:zC5 l f aS A cnt)(aC:Lays A cnt)(w:World)(n:Nt)(b:Nat)(t:Tr)(E:NwIs l w f n)(aT:n.Good)(aU:TreeAt l (aS+1) b t)(bd:n.sets.length+t.copies*xG cnt t.parts t.parts.length<=24)(bx:t.parts.length<=1000000000000)(bZ:t.copies<=1000000000000)(b0:t.least<=1000000000000):
  Calls prog 126 #[pX f,pX b] w λe w'=>e=returned (yI A n t t.copies).2.val/\NwIs l w' f (yI A n t t.copies).1/\StayS w w':=by
 have bz:=vl aU;obtain⟨be,rv,b6,bf,-⟩:=id aU;have aV:Hid (∀wr C,NwIs l wr f C->wr.cell? ⟨b,4,none⟩=some (iX (t.least:Int))/\wr.cell? ⟨b,5,none⟩=some (iX (t.most:Int))/\wr.cell? ⟨b,6,none⟩=some (bool t.endless)):=by
  rintro wr C ⟨_,_,_,_,_,ar⟩;have aW:=ar.keep;have bA:=(aW.block b be (kJ be)).trans bf;refine⟨?_,?_,?_⟩
  all_goals (unfold cell?;rw[bA];rfl)
 have W:Hid (∀wr C,NwIs l wr f C->wr.cell? ⟨b,6,none⟩=some (bool t.endless)/\wr.cell? ⟨b,4,none⟩=some (iX (t.least:Int))):=λwr C ar=>⟨(aV wr C ar).2.2,(aV wr C ar).1⟩
 have bB:Hid (∀w2,Ca 165 #[agg #[iX (t.least:Int),iX (t.most:Int),bool t.endless]] w2 λx w'=>x=returned (iX (t.copies:Int))/\Grew w2 w'):=λw2=>zEx w2 t.least t.most t.endless;have aD:∀j,j<=t.copies->n.sets.length+j*xG cnt t.parts t.parts.length<=24:=λj ab=>lY (Nat.add_le_add_left (Nat.mul_le_mul_right _ ab) _) bd;obtain⟨o,bg⟩:∃o,o=yI A n t:=⟨_,rfl⟩
 have aE:Hid (o 0=(n,⟨0,0,true⟩)/\(∀j,o (j+1)=((zAY t j (rowTo A (o j).1 t.parts t.parts.length)).link (o j).2.last (zBQ t j (rowTo A (o j).1 t.parts t.parts.length)).first,(o j).2.then (zBQ t j (rowTo A (o j).1 t.parts t.parts.length))))/\(∀j,j<=t.copies->(o j).1.Good/\(o j).2.Small 24)/\(∀j,j<t.copies->(o j).1.sets.length+xG cnt t.parts t.parts.length<=24/\(rowTo A (o j).1 t.parts t.parts.length).1.Good/\(rowTo A (o j).1 t.parts t.parts.length).2.Small 24/\(rowTo A (o j).1 t.parts t.parts.length).2.first<2^(rowTo A (o j).1 t.parts t.parts.length).1.sets.length)/\o t.copies=yI A n t t.copies):=by
  rw[bg];refine⟨rfl,λj=>rfl,λj ab=>?_,λj ab=>?_,rfl⟩
  ·have:=zCm aC aT t j (aD j ab)
   exact⟨this.1,this.2.2.up (aD j ab)⟩
  ·have au:=zCm aC aT t j (aD j (by omega))
   have ai:=aD (j+1) ab;rw[Nat.add_mul,Nat.one_mul] at ai;have av:=zBa aC au.1 t.parts t.parts.length (by rw[au.2.1];omega);exact⟨by rw[au.2.1];omega,av.1,av.2.2.up (by rw[au.2.1];omega),by rw[av.2.1];exact av.2.2.first⟩
 have bC:Hid (∀wr C,NwIs l wr f C->C.Good->C.sets.length+xG cnt t.parts t.parts.length<=24->Ca 124 #[pX f,pX b] wr λe w'=>e=returned (rowTo A C t.parts t.parts.length).2.val/\NwIs l w' f (rowTo A C t.parts t.parts.length).1/\StayS wr w'):=λwr C ar bD bE=>zEn l f aS A cnt bc aC wr C b t ar bD bz bE bx;obtain⟨w1,bh,bi⟩:∃w1,w1=(w.alloc (.cells #[zX,zX,fX] 167)).alloc (.cells #[zX,zX,tX] 167)/\Hid (Al l w w1 f n ⟨0,0,true⟩):=⟨_,rfl,Al.start E ⟨0,0,true⟩⟩
 generalize bF:yI A n t t.copies=N at *;generalize bj:t.copies=D at *;have bG:=vl bj;clear bF bg bf bc aC bd E aT aU aD bj;go_in;apply wp_cut;intro bH aF;go_wp2;apply aF.out;clear aF;apply wp_cut;intro bH aF;go_wp2;apply aF.out;clear aF;rw[<-bh];clear bh;have ⟨bI,y5,bJ⟩:=aV w1 n bi.net;go_wp2_with (go_at_call 165;refine(bB _).mono ?_;rintro e w2 ⟨rfl,bk⟩;have bK:=vl <| bi.grown bk;clear bk)
 clear bI y5 bJ;go_loopg [7] D (λq i wr=>∃j:Nat,q=D-j/\j<=D/\i=iX (j:Int)/\Al l w wr f (o j).1 (o j).2)
 case atStart=>exact⟨0,rfl,lX,rfl,by rw[aE.out.1];exact bK⟩
 case round=>
  obtain⟨j,aX,ab,rfl,X⟩:=hrel;have aJ:Hid (gk=D-j/\Al l w wr f (o j).1 (o j).2):=⟨aX,X⟩
  by_cases bL:j<D
  ·have bM:(j:Int)<(D:Int):=by omega
   have ⟨bl,b2,bm,bn⟩:=aE.2.2.2.1 j bL;have ⟨bo,aY⟩:=aE.2.2.1 j ab;have bp:=bC wr (o j).1 X.net bo bl;have ac:Hid (o (j+1)=((zAY t j (rowTo A (o j).1 t.parts t.parts.length)).link (o j).2.last (zBQ t j (rowTo A (o j).1 t.parts t.parts.length)).first,(o j).2.then (zBQ t j (rowTo A (o j).1 t.parts t.parts.length)))):=aE.2.1 j;have aK:Hid (Al l w wr f (o j).1 (o j).2):=X;clear aX X bl;generalize (o j).1=bN at *;generalize (o j).2=bO at *;generalize rowTo A bN t.parts t.parts.length=q at *;obtain⟨z,⟨a,c,p⟩⟩:=q;obtain⟨r,g,u⟩:=bO;have ad:z.Good:=b2;have aj:(Sn.mk a c p).Small 24:=bm;have bq:a<2^z.sets.length:=bn;have aL:=zDh ad c a bq;have aM:Hid (Ca 124 #[pX f,pX b] wr λe w'=>e=returned (agg #[iX (a:Int),iX (c:Int),bool p])/\NwIs l w' f z/\StayS wr w'):=bp;have br:Hid (∀m,NwIs l m f z->Ca 166 #[pX f,iX (c:Int),iX (a:Int)] m λe w'=>e=rX/\NwIs l w' f (z.link c a)/\StayS m w'):=λm O=>zGs l m f z O (by rw[ad.same];exact ad.len) ad.top c a aj.last aj.first
   have aw:Hid (∀m,NwIs l m f z->∀x:Bool,Ca 164 #[pX f,agg #[iX (r:Int),iX (g:Int),bool u],agg #[iX (a:Int),iX (c:Int),bool x]] m λe w'=>e=returned ((Sn.mk r g u).then ⟨a,c,x⟩).val/\NwIs l w' f (z.link g a)/\StayS m w'):=λm O x=>zDH l m f z O (by rw[ad.same];exact ad.len) ad.top ⟨r,g,u⟩ ⟨a,c,x⟩ aY ⟨aj.first,aj.last⟩;have ax:Hid (∀m,NwIs l m f (z.link c a)->∀x:Bool,Ca 164 #[pX f,agg #[iX (r:Int),iX (g:Int),bool u],agg #[iX (a:Int),iX (c:Int),bool x]] m λe w'=>e=returned ((Sn.mk r g u).then ⟨a,c,x⟩).val/\NwIs l w' f ((z.link c a).link g a)/\StayS m w'):=λm O x=>zDH l m f _ O (by rw[aL.1.same];exact aL.1.len) aL.1.top ⟨r,g,u⟩ ⟨a,c,x⟩ aY ⟨aj.first,aj.last⟩;have aG:Hid (∀y,Al l w y f z ⟨r,g,u⟩->∀x:Bool,w.heap.size+1<y.heap.size/\Al l w (y.alloc (Obj.cells #[iX (a:Int),iX (c:Int),bool x] 167)) f z ⟨r,g,u⟩/\(y.alloc (Obj.cells #[iX (a:Int),iX (c:Int),bool x] 167)).heap[y.heap.size]? =some (.cells #[iX (a:Int),iX (c:Int),bool x] 167)):=λy aN x=>⟨(kQ.1 aN.all).1,aN.grown (kZ y _ lQ),gZ y _⟩
   have bP:Hid (∀(K:World) (ag:Nat),w.heap.size+1<ag->Al l w K f (z.link c a) ⟨r,g,u⟩->K.heap[ag]? =some (.cells #[iX (a:Int),iX (c:Int),bool p] 167)->Al l w (K.setCell ⟨ag,2,none⟩ tX) f (z.link c a) ⟨r,g,u⟩/\(K.setCell ⟨ag,2,none⟩ tX).heap[ag]? =some (.cells #[iX (a:Int),iX (c:Int),tX] 167)):=by
    intro K ag L ay Y;have e:∀k,k≠ag->(K.setCell ⟨ag,2,none⟩ tX).heap[k]? =K.heap[k]? :=λk aW=>lJ _ _ _ _ aW;have b7:=ay.old;exact⟨⟨ay.net.setSpan Y (by omega),(e _ (by omega)).trans ay.res,(e _ (by omega)).trans ay.all,zAp ay.stay (by omega),ay.old⟩,by simp[setCell,lU,Y]⟩
   have b9:=bG.out;clear bp b2 bm bn ad aj bq aL bo aY;have bQ:(t.endless=false\/(t.endless=true/\(j+1==t.copies)=false))\/(t.endless=true/\(j+1==t.copies)=true):=by
    cases t.endless
    ·exact .inl (.inl rfl)
    ·cases E:(j+1==t.copies)
     ·exact .inl (.inr ⟨rfl,rfl⟩)
     ·exact .inr ⟨rfl,rfl⟩
   rcases bQ with az|⟨M,aA⟩
   all_goals (by_cases ah:t.least<=j)
   ·have ak:Hid (o (j+1)=(z.link g a,(Sn.mk r g u).then ⟨a,c,true⟩)):=by
     show o (j+1)=_;rw[ac.out];unfold zAY zBQ;rw[if_neg (by rcases az with E|⟨E,ai⟩ <;> simp[E];exact hX.1 ai),if_pos ah]
    have am:Hid (∀m,NwIs l m f z->Ca 164 #[pX f,agg #[iX (r:Int),iX (g:Int),bool u],agg #[iX (a:Int),iX (c:Int),tX]] m λe w'=>e=returned (agg #[iX (((Sn.mk r g u).then ⟨a,c,true⟩).first:Int),iX (((Sn.mk r g u).then ⟨a,c,true⟩).last:Int),bool ((Sn.mk r g u).then ⟨a,c,true⟩).empty])/\NwIs l w' f (z.link g a)/\StayS m w'):=λm O=>aw m O true;have aZ:(j:Int)>=(t.least:Int):=by omega
    clear ac aw ax ah;generalize (Sn.mk r g u).then ⟨a,c,true⟩=F at *
    have a0:t.endless=false\/t.endless=true/\((j:Int)==(D:Int)-1)=false:=az.imp_right λE=>⟨E.1,by rw[hX];have:=hX.1 E.2;omega⟩
    clear az;rcases a0 with M|⟨M,a1⟩
    all_goals
     have R:=vl M;clear M;go_wp2_with (first|(go_at_call 124;refine aM.mono ?_;rintro e y ⟨rfl,G,S⟩;have P:=aK.call G S;have ⟨an,a2⟩:=W y _ G;rw[R.out] at an;have ⟨aa,H,L⟩:=aG y P p;obtain⟨a3,a4,a5,-⟩:=zI (s:=⟨a,c,p⟩) L;have ⟨u6,u4⟩:=W (y.alloc (Obj.cells #[iX (a:Int),iX (c:Int),bool p] 167)) _ H.net;rw[R.out] at u6;obtain⟨-,a6,bs⟩:=aG y P true;obtain⟨m0,m1,m2,-⟩:=zI (s:=⟨a,c,true⟩) bs;obtain⟨c0,c1,c2,-⟩:=zI a6.all;have T:Hid (Al l w (y.alloc (Obj.cells #[iX (a:Int),iX (c:Int),tX] 167)) f z ⟨r,g,u⟩):=a6;clear a6 bs;clear P H G S L aa)|(go_at_call 164;refine(am _ T.net).mono ?_;rintro e I ⟨rfl,U,V⟩;have J:=T.call U V;have ⟨a7,a8,a9,B⟩:=zI J.all;have aO:=B 0;have aP:=B 1;have aQ:=B 2;have ao:Hid (Al l w (World.span I (w.heap.size+1) F) f (z.link g a) F):=J.setAll F;clear J U V B))
     go_roundg (D-(j+1))
     case measure=>rw[aJ.out.1];omega
     case rel=>exact⟨j+1,rfl,by omega,by go_num,by rw[ak.out];exact ao⟩
   ·have ak:Hid (o (j+1)=(z.link g a,(Sn.mk r g u).then ⟨a,c,p⟩)):=by
     show o (j+1)=_;rw[ac.out];unfold zAY zBQ;rw[if_neg (by rcases az with E|⟨E,ai⟩ <;> simp[E];exact hX.1 ai),if_neg ah]
    have am:Hid (∀m,NwIs l m f z->Ca 164 #[pX f,agg #[iX (r:Int),iX (g:Int),bool u],agg #[iX (a:Int),iX (c:Int),bool p]] m λe w'=>e=returned (agg #[iX (((Sn.mk r g u).then ⟨a,c,p⟩).first:Int),iX (((Sn.mk r g u).then ⟨a,c,p⟩).last:Int),bool ((Sn.mk r g u).then ⟨a,c,p⟩).empty])/\NwIs l w' f (z.link g a)/\StayS m w'):=λm O=>aw m O p;have aZ:(j:Int)<(t.least:Int):=by omega
    clear ac aw ax ah;generalize (Sn.mk r g u).then ⟨a,c,p⟩=F at *
    have a0:t.endless=false\/t.endless=true/\((j:Int)==(D:Int)-1)=false:=az.imp_right λE=>⟨E.1,by rw[hX];have:=hX.1 E.2;omega⟩
    clear az;rcases a0 with M|⟨M,a1⟩
    all_goals
     have R:=vl M;clear M;go_wp2_with (first|(go_at_call 124;refine aM.mono ?_;rintro e y ⟨rfl,G,S⟩;have P:=aK.call G S;have ⟨an,a2⟩:=W y _ G;rw[R.out] at an;have ⟨aa,H,L⟩:=aG y P p;obtain⟨a3,a4,a5,-⟩:=zI (s:=⟨a,c,p⟩) L;have ⟨u6,u4⟩:=W (y.alloc (Obj.cells #[iX (a:Int),iX (c:Int),bool p] 167)) _ H.net;rw[R.out] at u6;obtain⟨c0,c1,c2,-⟩:=zI H.all;have T:Hid (Al l w (y.alloc (Obj.cells #[iX (a:Int),iX (c:Int),bool p] 167)) f z ⟨r,g,u⟩):=H;clear P H G S L aa)|(go_at_call 164;refine(am _ T.net).mono ?_;rintro e I ⟨rfl,U,V⟩;have J:=T.call U V;have ⟨a7,a8,a9,B⟩:=zI J.all;have aO:=B 0;have aP:=B 1;have aQ:=B 2;have ao:Hid (Al l w (World.span I (w.heap.size+1) F) f (z.link g a) F):=J.setAll F;clear J U V B))
     go_roundg (D-(j+1))
     case measure=>rw[aJ.out.1];omega
     case rel=>exact⟨j+1,rfl,by omega,by go_num,by rw[ak.out];exact ao⟩
   ·have ak:Hid (o (j+1)=((z.link c a).link g a,(Sn.mk r g u).then ⟨a,c,true⟩)):=by
     show o (j+1)=_;rw[ac.out];unfold zAY zBQ;rw[if_pos (by rw[M,aA];rfl),if_pos ah]
    have am:Hid (∀m,NwIs l m f (z.link c a)->Ca 164 #[pX f,agg #[iX (r:Int),iX (g:Int),bool u],agg #[iX (a:Int),iX (c:Int),tX]] m λe w'=>e=returned (agg #[iX (((Sn.mk r g u).then ⟨a,c,true⟩).first:Int),iX (((Sn.mk r g u).then ⟨a,c,true⟩).last:Int),bool ((Sn.mk r g u).then ⟨a,c,true⟩).empty])/\NwIs l w' f ((z.link c a).link g a)/\StayS m w'):=λm O=>ax m O true;have aZ:(j:Int)>=(t.least:Int):=by omega
    have a1:((j:Int)==(D:Int)-1)=true:=by rw[beq_iff_eq];have:=beq_iff_eq.1 aA;omega
    have R:Hid (t.endless=true):=M;clear ac aw ax ah aA M;generalize (Sn.mk r g u).then ⟨a,c,true⟩=F at *
    go_wp2_with (first|(go_at_call 124;refine aM.mono ?_;rintro e y ⟨rfl,G,S⟩;have P:=aK.call G S;have ⟨an,a2⟩:=W y _ G;rw[R.out] at an;have ⟨aa,H,L⟩:=aG y P p;obtain⟨a3,a4,a5,-⟩:=zI (s:=⟨a,c,p⟩) L;have ⟨u6,u4⟩:=W (y.alloc (Obj.cells #[iX (a:Int),iX (c:Int),bool p] 167)) _ H.net;rw[R.out] at u6;have aH:Hid (Al l w (y.alloc (Obj.cells #[iX (a:Int),iX (c:Int),bool p] 167)) f z ⟨r,g,u⟩):=H;have ba:Hid ((y.alloc (Obj.cells #[iX (a:Int),iX (c:Int),bool p] 167)).heap[y.heap.size]? =some (.cells #[iX (a:Int),iX (c:Int),bool p] 167)):=L;have bt:Hid (w.heap.size+1<y.heap.size):=aa;clear P H G S L aa)|(go_at_call 166;refine(br (y.alloc (Obj.cells #[iX (a:Int),iX (c:Int),bool p] 167)) aH.net).mono ?_;rintro e K ⟨rfl,ap,aq⟩;have aB:=aH.call ap aq;have Y:=aq _ _ ba;have ⟨bR,bS⟩:=W K _ ap;have ⟨m0,m1,m2,aI⟩:=zI (s:=⟨a,c,p⟩) Y;have bT:=aI 2;have ⟨bb,bu⟩:=bP K y.heap.size bt aB Y;obtain⟨ca,cb,C,-⟩:=zI (s:=⟨a,c,true⟩) bu;obtain⟨c0,c1,c2,-⟩:=zI bb.all;have T:Hid (Al l w (K.setCell ⟨y.heap.size,2,none⟩ tX) f (z.link c a) ⟨r,g,u⟩):=bb;clear bb bu;clear aB ap aq Y aI)|(go_at_call 164;refine(am _ T.net).mono ?_;rintro e I ⟨rfl,U,V⟩;have J:=T.call U V;have ⟨a7,a8,a9,B⟩:=zI J.all;have aO:=B 0;have aP:=B 1;have aQ:=B 2;have ao:Hid (Al l w (World.span I (w.heap.size+1) F) f ((z.link c a).link g a) F):=J.setAll F;clear J U V B))
    go_roundg (D-(j+1))
    case measure=>rw[aJ.out.1];omega
    case rel=>exact⟨j+1,rfl,by omega,by go_num,by rw[ak.out];exact ao⟩
   ·have ak:Hid (o (j+1)=((z.link c a).link g a,(Sn.mk r g u).then ⟨a,c,p⟩)):=by
     show o (j+1)=_;rw[ac.out];unfold zAY zBQ;rw[if_pos (by rw[M,aA];rfl),if_neg ah]
    have am:Hid (∀m,NwIs l m f (z.link c a)->Ca 164 #[pX f,agg #[iX (r:Int),iX (g:Int),bool u],agg #[iX (a:Int),iX (c:Int),bool p]] m λe w'=>e=returned (agg #[iX (((Sn.mk r g u).then ⟨a,c,p⟩).first:Int),iX (((Sn.mk r g u).then ⟨a,c,p⟩).last:Int),bool ((Sn.mk r g u).then ⟨a,c,p⟩).empty])/\NwIs l w' f ((z.link c a).link g a)/\StayS m w'):=λm O=>ax m O p;have aZ:(j:Int)<(t.least:Int):=by omega
    have a1:((j:Int)==(D:Int)-1)=true:=by rw[beq_iff_eq];have:=beq_iff_eq.1 aA;omega
    have R:Hid (t.endless=true):=M;clear ac aw ax ah aA M;generalize (Sn.mk r g u).then ⟨a,c,p⟩=F at *
    go_wp2_with (first|(go_at_call 124;refine aM.mono ?_;rintro e y ⟨rfl,G,S⟩;have P:=aK.call G S;have ⟨an,a2⟩:=W y _ G;rw[R.out] at an;have ⟨aa,H,L⟩:=aG y P p;obtain⟨a3,a4,a5,-⟩:=zI (s:=⟨a,c,p⟩) L;have ⟨u6,u4⟩:=W (y.alloc (Obj.cells #[iX (a:Int),iX (c:Int),bool p] 167)) _ H.net;rw[R.out] at u6;have aH:Hid (Al l w (y.alloc (Obj.cells #[iX (a:Int),iX (c:Int),bool p] 167)) f z ⟨r,g,u⟩):=H;have ba:Hid ((y.alloc (Obj.cells #[iX (a:Int),iX (c:Int),bool p] 167)).heap[y.heap.size]? =some (.cells #[iX (a:Int),iX (c:Int),bool p] 167)):=L;have bt:Hid (w.heap.size+1<y.heap.size):=aa;clear P H G S L aa)|(go_at_call 166;refine(br (y.alloc (Obj.cells #[iX (a:Int),iX (c:Int),bool p] 167)) aH.net).mono ?_;rintro e K ⟨rfl,ap,aq⟩;have aB:=aH.call ap aq;have Y:=aq _ _ ba;have ⟨bR,bS⟩:=W K _ ap;have ⟨m0,m1,m2,aI⟩:=zI (s:=⟨a,c,p⟩) Y;have bT:=aI 2;obtain⟨c0,c1,c2,-⟩:=zI aB.all;have T:Hid (Al l w K f (z.link c a) ⟨r,g,u⟩):=aB;clear aB ap aq Y aI)|(go_at_call 164;refine(am _ T.net).mono ?_;rintro e I ⟨rfl,U,V⟩;have J:=T.call U V;have ⟨a7,a8,a9,B⟩:=zI J.all;have aO:=B 0;have aP:=B 1;have aQ:=B 2;have ao:Hid (Al l w (World.span I (w.heap.size+1) F) f ((z.link c a).link g a) F):=J.setAll F;clear J U V B))
    go_roundg (D-(j+1))
    case measure=>rw[aJ.out.1];omega
    case rel=>exact⟨j+1,rfl,by omega,by go_num,by rw[ak.out];exact ao⟩
  ·have bM:(D:Int)<=(j:Int):=by omega
   have e:j=D:=by omega
   subst e;rw[aE.out.2.2.2.2] at X;obtain⟨c0,c1,c2,-⟩:=zI X.all;have ⟨cc,cd,ce,aR⟩:=zI X.res;have aO:=aR 0;have aP:=aR 1;have aQ:=aR 2;have bU:Hid (Al l w wr f N.1 N.2):=X;clear aX X aR;go_wp2;obtain⟨I,bv,bw,bV,bW,bX⟩:∃I,I=((wr.setCell ⟨w.heap.size,0,none⟩ (iX (N.2.first:Int))).setCell ⟨w.heap.size,1,none⟩ (iX (N.2.last:Int))).setCell ⟨w.heap.size,2,none⟩ (bool N.2.empty)/\Hid (NwIs l I f N.1/\StayS w I)/\I.cell? ⟨w.heap.size,0,none⟩=some (iX (N.2.first:Int))/\I.cell? ⟨w.heap.size,1,none⟩=some (iX (N.2.last:Int))/\I.cell? ⟨w.heap.size,2,none⟩=some (bool N.2.empty):=by
    have ⟨au,ai,av,bY,aN⟩:=bU.fin N.2;exact⟨_,rfl,⟨au,ai⟩,av,bY,aN⟩
   rw[<-bv];clear bv;refine gU (v:=agg #[iX (N.2.first:Int),iX (N.2.last:Int),bool N.2.empty]) (by simp[results,results126,go_sem,bV,bW,bX]) rfl ?_;exact⟨rfl,bw.1,bw.2⟩
theorem zNq (t:Tr):t.copies<=t.least+t.most+1:=by
 unfold Tr.copies;split
 ·split <;> omega
 ·omega
theorem zF0 (g:World)(j:Nat):∀a,zC5 g j a (xR a) (qI a)
 |0=>λw n b t _ _ G _=>G.elim
 |a+1=>by
  have U:=zF0 g j a;intro w n b t G J aa A;have V:=vl aa;obtain⟨ab,rv,ay,ak,ac,ao,cap,rfl,⟨_,W,az,aA⟩,_,_⟩:=aa;obtain⟨ad,ae,al,-⟩:=id ac;subst al;obtain⟨w1,af,o⟩:∃w1,w1=w.alloc (.cells #[zX,zX,fX] 167)/\Hid (NwIs g w1 j n/\w1.heap[w.heap.size]? =some (.cells (Sn.mk 0 0 false).cells 167)/\StayS w w1/\g.heap.size<=w.heap.size):=by
   have ag:=kZ (b:=w.heap.size) w (.cells #[zX,zX,fX] 167) lQ;exact⟨_,rfl,G.grown ag,gZ _ _,ag.stayS,by obtain⟨_,_,_,_,_,G⟩:=G;exact G.keep.size⟩
  have am:Grew g w1:=by have ⟨_,_,_,_,_,G⟩:=o.1;exact G.keep
  have X:=(am.block b ab (kJ ab)).trans ak;have aB:w1.cell? ⟨b,0,none⟩=some (iX (t.kind:Int)):=by unfold cell?;rw[X];rfl
  have aC:w1.cell? ⟨b,1,none⟩=some (slice ad t.set.ranges.length ae):=by unfold cell?;rw[X];rfl
  have aD:w1.cell? ⟨b,2,none⟩=some (bool t.set.others):=by unfold cell?;rw[X];rfl
  have K:Hid (∀y,NwIs g y j (xR (a+1) n t).1->StayS w1 y->∃l,l=((y.setCell ⟨w.heap.size,0,none⟩ (iX ((xR (a+1) n t).2.first:Int))).setCell ⟨w.heap.size,1,none⟩ (iX ((xR (a+1) n t).2.last:Int))).setCell ⟨w.heap.size,2,none⟩ (bool (xR (a+1) n t).2.empty)/\Hid (NwIs g l j (xR (a+1) n t).1/\StayS w l)/\l.cell? ⟨w.heap.size,0,none⟩=some (iX ((xR (a+1) n t).2.first:Int))/\l.cell? ⟨w.heap.size,1,none⟩=some (iX ((xR (a+1) n t).2.last:Int))/\l.cell? ⟨w.heap.size,2,none⟩=some (bool (xR (a+1) n t).2.empty)):=by
   intro y B p;have ⟨an,ap,aq⟩:=zF9 (s':=(xR (a+1) n t).2) (p _ _ o.2.1);have ⟨c0,c1,c2,_⟩:=zI an;exact⟨_,rfl,⟨aq _ _ _ B o.2.2.2,λk c ah=>by
    have A:=(kQ.1 ah).1;exact(ap k (by omega)).trans (p _ _ (o.2.2.1 k c ah))⟩,c0,c1,c2⟩
  go_in;apply wp_cut;intro aE ar;go_wp2;apply ar.out;rw[<-af];clear af;by_cases u:t.kind=1
  ·have x:Hid (xR (a+1) n t=(n.place t.set,n.spot)):=by show xR (a+1) n t=_;unfold xR;rw[if_pos u]
   have z:=vl <| zJL g w1 j n o.1 J.len (by rw[J.same];exact J.len) _ t.set ac;have H:Hid (Ca 123 #[pX j,agg #[slice ad t.set.ranges.length ae,bool t.set.others]] w1 λe w'=>e=returned (agg #[iX ((xR (a+1) n t).2.first:Int),iX ((xR (a+1) n t).2.last:Int),bool (xR (a+1) n t).2.empty])/\NwIs g w' j (xR (a+1) n t).1/\StayS w1 w'):=by
    show Calls _ _ _ _ _;rw[x.out];exact z
   clear x z;have M:((t.kind:Int)==1)=true:=by rw[beq_iff_eq];omega
   generalize xR (a+1) n t=m at *;clear u;go_wp2_with (go_at_call 123;refine H.mono ?_;rintro e y ⟨rfl,B,p⟩;have ⟨N,O,P,f⟩:=zI (s:=⟨0,0,false⟩) (p _ _ o.2.1);have R:=f 0;have S:=f 1;have T:=f 2;clear f)
   have ⟨l,q,r,C,D,E⟩:=K y B p;rw[<-q];clear q;refine gU (v:=agg #[iX (m.2.first:Int),iX (m.2.last:Int),bool m.2.empty]) (by simp[results,results89,go_sem,C,D,E]) rfl ?_;exact⟨rfl,r.1,r.2⟩
  by_cases F:t.kind=2
  ·have x:Hid (xR (a+1) n t=rowTo (xR a) n t.parts t.parts.length):=by show xR (a+1) n t=_;unfold xR;rw[if_neg u,if_pos F]
   have z:=vl <| zEn g j a (xR a) (qI a) U (zAD a) w1 n b t o.1 J V (by unfold qI at A;rw[if_neg u,if_pos (Or.inl F)] at A;exact A) W;have H:Hid (Ca 124 #[pX j,pX b] w1 λe w'=>e=returned (agg #[iX ((xR (a+1) n t).2.first:Int),iX ((xR (a+1) n t).2.last:Int),bool (xR (a+1) n t).2.empty])/\NwIs g w' j (xR (a+1) n t).1/\StayS w1 w'):=by
    show Calls _ _ _ _ _;rw[x.out];exact z
   clear x z;have M:((t.kind:Int)==1)=false:=by rw[hX];omega
   have Y:((t.kind:Int)==2)=true:=by rw[beq_iff_eq];omega
   generalize xR (a+1) n t=m at *;clear u F;go_wp2_with (go_at_call 124;refine H.mono ?_;rintro e y ⟨rfl,B,p⟩;have ⟨N,O,P,f⟩:=zI (s:=⟨0,0,false⟩) (p _ _ o.2.1);have R:=f 0;have S:=f 1;have T:=f 2;clear f)
   have ⟨l,q,r,C,D,E⟩:=K y B p;rw[<-q];clear q;refine gU (v:=agg #[iX (m.2.first:Int),iX (m.2.last:Int),bool m.2.empty]) (by simp[results,results89,go_sem,C,D,E]) rfl ?_;exact⟨rfl,r.1,r.2⟩
  by_cases I:t.kind=3
  ·have x:Hid (xR (a+1) n t=zAf (xR a) n t.parts t.parts.length):=by show xR (a+1) n t=_;unfold xR;rw[if_neg u,if_neg F,if_pos I]
   have z:=vl <| zFE g j a (xR a) (qI a) U (zAD a) w1 n b t o.1 J V (by unfold qI at A;rw[if_neg u,if_pos (Or.inr I)] at A;exact A) W;have H:Hid (Ca 125 #[pX j,pX b] w1 λe w'=>e=returned (agg #[iX ((xR (a+1) n t).2.first:Int),iX ((xR (a+1) n t).2.last:Int),bool (xR (a+1) n t).2.empty])/\NwIs g w' j (xR (a+1) n t).1/\StayS w1 w'):=by
    show Calls _ _ _ _ _;rw[x.out];exact z
   clear x z;have M:((t.kind:Int)==1)=false:=by rw[hX];omega
   have Y:((t.kind:Int)==2)=false:=by rw[hX];omega
   have ai:((t.kind:Int)==3)=true:=by rw[beq_iff_eq];omega
   generalize xR (a+1) n t=m at *;clear u F I;go_wp2_with (go_at_call 125;refine H.mono ?_;rintro e y ⟨rfl,B,p⟩;have ⟨N,O,P,f⟩:=zI (s:=⟨0,0,false⟩) (p _ _ o.2.1);have R:=f 0;have S:=f 1;have T:=f 2;clear f)
   have ⟨l,q,r,C,D,E⟩:=K y B p;rw[<-q];clear q;refine gU (v:=agg #[iX (m.2.first:Int),iX (m.2.last:Int),bool m.2.empty]) (by simp[results,results89,go_sem,C,D,E]) rfl ?_;exact⟨rfl,r.1,r.2⟩
  by_cases L:t.kind=4
  ·have x:Hid (xR (a+1) n t=yI (xR a) n t t.copies):=by show xR (a+1) n t=_;unfold xR;rw[if_neg u,if_neg F,if_neg I,if_pos L]
   have z:=vl <| zGw g j a (xR a) (qI a) U (zAD a) w1 n b t o.1 J V (by unfold qI at A;rw[if_neg u,if_neg (by omega),if_pos L] at A;exact A) W (by have:=zNq t;omega) (by omega);have H:Hid (Ca 126 #[pX j,pX b] w1 λe w'=>e=returned (agg #[iX ((xR (a+1) n t).2.first:Int),iX ((xR (a+1) n t).2.last:Int),bool (xR (a+1) n t).2.empty])/\NwIs g w' j (xR (a+1) n t).1/\StayS w1 w'):=by
    show Calls _ _ _ _ _;rw[x.out];exact z
   clear x z;have M:((t.kind:Int)==1)=false:=by rw[hX];omega
   have Y:((t.kind:Int)==2)=false:=by rw[hX];omega
   have ai:((t.kind:Int)==3)=false:=by rw[hX];omega
   have au:((t.kind:Int)==4)=true:=by rw[beq_iff_eq];omega
   generalize xR (a+1) n t=m at *;clear u F I L;go_wp2_with (go_at_call 126;refine H.mono ?_;rintro e y ⟨rfl,B,p⟩;have ⟨N,O,P,f⟩:=zI (s:=⟨0,0,false⟩) (p _ _ o.2.1);have R:=f 0;have S:=f 1;have T:=f 2;clear f)
   have ⟨l,q,r,C,D,E⟩:=K y B p;rw[<-q];clear q;refine gU (v:=agg #[iX (m.2.first:Int),iX (m.2.last:Int),bool m.2.empty]) (by simp[results,results89,go_sem,C,D,E]) rfl ?_;exact⟨rfl,r.1,r.2⟩
  ·have x:Hid (xR (a+1) n t=(n,⟨0,0,true⟩)):=by show xR (a+1) n t=_;unfold xR;rw[if_neg u,if_neg F,if_neg I,if_neg L]
   rw[x.out] at K ⊢;have M:((t.kind:Int)==1)=false:=by rw[hX];omega
   have Y:((t.kind:Int)==2)=false:=by rw[hX];omega
   have ai:((t.kind:Int)==3)=false:=by rw[hX];omega
   have au:((t.kind:Int)==4)=false:=by rw[hX];omega
   have ⟨N,O,P,f⟩:=zI (s:=⟨0,0,false⟩) o.2.1;have R:=f 0;have S:=f 1;have T:=f 2;clear u F I L f;go_wp2;have ⟨l,q,r,C,D,E⟩:=K w1 o.1 (StayS.refl _);have aj:l=((w1.setCell ⟨w.heap.size,0,none⟩ zX).setCell ⟨w.heap.size,1,none⟩ zX).setCell ⟨w.heap.size,2,none⟩ tX:=q;have av:l.cell? ⟨w.heap.size,0,none⟩=some zX:=C;have aw:l.cell? ⟨w.heap.size,1,none⟩=some zX:=D;have ax:l.cell? ⟨w.heap.size,2,none⟩=some tX:=E;rw[<-aj];clear q aj;refine gU (v:=agg #[zX,zX,tX]) (by simp[results,results89,go_sem,av,aw,ax]) rfl ?_;exact⟨rfl,r.1,r.2⟩
section
section
variable {w0 w w2:World} {nb:Nat} {n:Nt} {sv fv rv ev:Value} {ps:List (Value×Bool)}
theorem Nw.addRule {o:Obj}{g cap m x:Nat}(b:Nw w0 w nb n sv fv rv ev ps)(t:m=n.rules.length)(u:w2.ownsRow w0.heap.size 3 1 (slice (qX g) (m+1) cap) (m+1) (((ints n.rules).map λx=>iX x)++[iX (x:Int)]))(d:(w.alloc o).grownBy w2 rv.ownBlock)(q:rv.ownBlock=some g\/w.heap.size<=g):
  Nw w0 (w2.setCell ⟨nb,4,none⟩ (slice (qX g) (m+1) cap)) nb {n with rules:=n.rules++[x]} sv fv (slice (qX g) (m+1) cap) ev ps/\StayS w (w2.setCell ⟨nb,4,none⟩ (slice (qX g) (m+1) cap)):=by
 subst t;have f:=b.box;have v:=b.lt;have p:∀j,j<w.heap.size->some j≠rv.ownBlock->w2.heap[j]? =w.heap[j]? :=λj H y=>(d.block j (by simp;omega) y).trans (lG _ _ _ (by omega));have z:w.heap.size<=w2.heap.size:=lY (by simp) d.size;have A:=(p nb v f.2.2.1).trans b.blk;have e:∀k,k≠nb->(w2.setCell ⟨nb,4,none⟩ (slice (qX g) (n.rules.length+1) cap)).heap[k]? =w2.heap[k]? :=λk a=>lJ _ _ _ _ a;have B:=zU d b.sOwn λk a=>yD b.sOwn b.rOwn (by decide) a;have C:=zU d b.fOwn b.fr;have D:=zU d b.eOwn λk a=>yD b.eOwn b.rOwn (by decide) a;have I:nb≠g:=λc=>by
  rcases q with r|r
  ·exact f.2.2.1 (by rw[r,c])
  ·omega
 have E:OwnI w2 w0.heap.size (slice (qX g) (n.rules.length+1) cap) (ints (n.rules++[x])):=by
  rw[zBS];have:=zR n.rules;have s:=OwnI.snoc (l:=ints n.rules) (x:=(x:Int)) (by rw[this];exact u);rw[this] at s;exact s
 refine⟨⟨by simp[setCell,lU,A],zD B λk _ _ a=>e k λc=>f.1 (by rw[a,c]),b.plen,b.each,zD C λk _ _ a=>e k λc=>f.2.1 (by rw[a,c]),zD E λk _ _ a=>e k λc=>?_,zD D λk _ _ a=>e k λc=>f.2.2.2 (by rw[a,c]),zDm (qR b.fOwn (λg d e=>b.fr g e.symm d.symm) q),b.nH,b.keep.trans ⟨d.os,d.output,by rw[zC];exact z,λk a _=>(e k (by have:=b.nH;omega)).trans (p k (by have:=b.keep.size;omega) λc=>by have:=(b.rOwn.lt k c.symm).1;omega)⟩⟩,λk J a=>?_⟩
 ·have:g=k:=by simpa[Value.ownBlock] using a
  omega
 ·have F:=(kQ.1 a).1
  have G:k≠nb:=λc=>by
   rw[c,b.blk] at a;injection a with a;injection a with _ a;exact absurd a (by decide)
  exact(e k G).trans ((p k F (zO b.rOwn a (by decide))).trans a)
theorem Nw.addEmpty {o:Obj}{g cap m:Nat}{x:Bool}(b:Nw w0 w nb n sv fv rv ev ps)(q:m=n.empty.length)(r:w2.ownsRow w0.heap.size 4 1 (slice (qX g) (m+1) cap) (m+1) ((n.empty.map λx=>bool x)++[bool x]))(d:(w.alloc o).grownBy w2 ev.ownBlock)(s:ev.ownBlock=some g\/w.heap.size<=g):
  Nw w0 (w2.setCell ⟨nb,5,none⟩ (slice (qX g) (m+1) cap)) nb {n with empty:=n.empty++[x]} sv fv rv (slice (qX g) (m+1) cap) ps/\StayS w (w2.setCell ⟨nb,5,none⟩ (slice (qX g) (m+1) cap)):=by
 subst q;have f:=b.box;have t:=b.lt;have l:∀j,j<w.heap.size->some j≠ev.ownBlock->w2.heap[j]? =w.heap[j]? :=λj F u=>(d.block j (by simp;omega) u).trans (lG _ _ _ (by omega));have v:w.heap.size<=w2.heap.size:=lY (by simp) d.size;have y:=(l nb t f.2.2.2).trans b.blk;have e:∀k,k≠nb->(w2.setCell ⟨nb,5,none⟩ (slice (qX g) (n.empty.length+1) cap)).heap[k]? =w2.heap[k]? :=λk a=>lJ _ _ _ _ a;have z:=zU d b.sOwn λk a=>yD b.sOwn b.eOwn (by decide) a;have A:=zU d b.fOwn λk a=>yD b.fOwn b.eOwn (by decide) a;have B:=zU d b.rOwn λk a=>yD b.rOwn b.eOwn (by decide) a;have G:nb≠g:=λc=>by
  rcases s with p|p
  ·exact f.2.2.2 (by rw[p,c])
  ·omega
 have C:=OwnB.snoc r;refine⟨⟨by simp[setCell,lU,y],zD z λk _ _ a=>e k λc=>f.1 (by rw[a,c]),b.plen,b.each,zD A λk _ _ a=>e k λc=>f.2.1 (by rw[a,c]),zD B λk _ _ a=>e k λc=>f.2.2.1 (by rw[a,c]),zD C λk _ _ a=>e k λc=>?_,b.fr,b.nH,b.keep.trans ⟨d.os,d.output,by rw[zC];exact v,λk a _=>(e k (by have:=b.nH;omega)).trans (l k (by have:=b.keep.size;omega) λc=>by have:=(b.eOwn.lt k c.symm).1;omega)⟩⟩,λk H a=>?_⟩
 ·have:g=k:=by simpa[Value.ownBlock] using a
  omega
 ·have D:=(kQ.1 a).1
  have E:k≠nb:=λc=>by
   rw[c,b.blk] at a;injection a with a;injection a with _ a;exact absurd a (by decide)
  exact(e k E).trans ((l k D (zO b.eOwn a (by decide))).trans a)
theorem Nw.setNet {i:Nat}{x:Value}{f:Nt}(b:Nw w0 w nb n sv fv rv ev ps)(j:f.sets=n.sets)(l:f.follow=n.follow)(m:f.rules=n.rules)(o:f.empty=n.empty)(p:(w.setCell ⟨nb,i,none⟩ x).heap[nb]? =some (.cells #[sv,fv,iX (f.first:Int),iX (f.ends:Int),rv,ev] 132)):Nw w0 (w.setCell ⟨nb,i,none⟩ x) nb f sv fv rv ev ps/\StayS w (w.setCell ⟨nb,i,none⟩ x):=by
 have e:∀k,k≠nb->(w.setCell ⟨nb,i,none⟩ x).heap[k]? =w.heap[k]? :=λk a=>lJ _ _ _ _ a;have g:=b.box;refine⟨⟨p,by rw[j];exact zD b.sOwn λk _ _ a=>e k λd=>g.1 (by rw[a,d]),by rw[j];exact b.plen,by rw[j];exact b.each,by rw[l];exact zD b.fOwn λk _ _ a=>e k λd=>g.2.1 (by rw[a,d]),by rw[m];exact zD b.rOwn λk _ _ a=>e k λd=>g.2.2.1 (by rw[a,d]),by rw[o];exact zD b.eOwn λk _ _ a=>e k λd=>g.2.2.2 (by rw[a,d]),b.fr,b.nH,b.keep.trans (zP _ _ _ _ b.nH)⟩,λk c a=>(e k λd=>?_).trans a⟩;rw[d,b.blk] at a;injection a with a;injection a with _ a;exact absurd a (by decide)
theorem Nw.setFirst (a:Nw w0 w nb n sv fv rv ev ps)(x:Nat):Nw w0 (w.setCell ⟨nb,2,none⟩ (iX (x:Int))) nb {n with first:=x} sv fv rv ev ps/\StayS w (w.setCell ⟨nb,2,none⟩ (iX (x:Int))):=a.setNet rfl rfl rfl rfl (by simp[setCell,lU,a.blk])
theorem Nw.setEnds (a:Nw w0 w nb n sv fv rv ev ps)(x:Nat):Nw w0 (w.setCell ⟨nb,3,none⟩ (iX (x:Int))) nb {n with ends:=x} sv fv rv ev ps/\StayS w (w.setCell ⟨nb,3,none⟩ (iX (x:Int))):=a.setNet rfl rfl rfl rfl (by simp[setCell,lU,a.blk])
end
def Nt.blank:Nt:=⟨[],[],0,0,[],[]⟩
def zNR (before:Nat)(q:Nt×Sn):Nt:={q.1 with first:=q.1.first|||q.2.first,ends:=q.1.ends|||q.2.last,rules:=q.1.rules++[2^q.1.sets.length-2^before],empty:=q.1.empty++[q.2.empty]}
def yA (d:Nat)(rules:List Tr):Nat->Nt
 |0=>Nt.blank
 |j+1=>zNR (yA d rules j).sets.length (xR d (yA d rules j) (rules.getD j Tr.none))
theorem Nw.begin (w:World):Nw w (w.alloc (.cells #[nX,nX,zX,zX,nX,nX] 132)) w.heap.size Nt.blank nX nX nX nX []:=
 ⟨gZ _ _,ownsRow_nil _ _ _ _,rfl,λi a=>absurd a (Nat.not_lt_zero _),OwnI.nil _ _,OwnI.nil _ _,ownsRow_nil _ _ _ _,λg b=>(by cases b),lQ,kZ _ _ lQ⟩
theorem zBg (a:Nat)(rules:List Tr)(j:Nat)(c:xG (qI a) rules j<=24):(yA a rules j).Good/\(yA a rules j).sets.length=xG (qI a) rules j:=by
 induction j with
 |zero=>exact⟨⟨lX,rfl,λx e=>absurd e List.not_mem_nil⟩,rfl⟩
 |succ j f=>
  have h:xG (qI a) rules j+qI a (rules.getD j Tr.none)<=24:=c;have ⟨g,k⟩:=f (by omega);have ⟨b,l,m⟩:=zAD a (yA a rules j) (rules.getD j Tr.none) g (by omega);exact⟨⟨b.len,b.same,b.fol⟩,by show(xR a (yA a rules j) (rules.getD j Tr.none)).1.sets.length=xG (qI a) rules j+_;omega⟩
end
def Nt.Same (a b:Nt):Prop:=a.first=b.first/\a.ends=b.ends/\a.rules=b.rules/\a.empty=b.empty
theorem Nt.Same.refl (a:Nt):a.Same a:=⟨rfl,rfl,rfl,rfl⟩
theorem Nt.Same.trans {a b c:Nt}(d:a.Same b)(e:b.Same c):a.Same c:=⟨d.1.trans e.1,d.2.1.trans e.2.1,d.2.2.1.trans e.2.2.1,d.2.2.2.trans e.2.2.2⟩
theorem zE0 (n:Nt)(a b:Nat):(n.link a b).Same n:=by
 have:=zCO n a b n.follow.length;exact⟨this.2.2.2.1,this.2.2.2.2,this.2.1,this.2.2.1⟩
def Still (sub:Lay):Prop:=∀n t,(sub n t).1.Same n
theorem zFm {a:Lay}(b:Still a)(n:Nt)(parts:List Tr)(j:Nat):(rowTo a n parts j).1.Same n:=by
 induction j with
 |zero=>exact Nt.Same.refl _
 |succ j c=>exact((zE0 _ _ _).trans (b _ _)).trans c
theorem zIL {a:Lay}(b:Still a)(n:Nt)(parts:List Tr)(j:Nat):(zAf a n parts j).1.Same n:=by
 induction j with
 |zero=>exact Nt.Same.refl _
 |succ j c=>exact(b _ _).trans c
theorem zLj (t:Tr)(j:Nat)(q:Nt×Sn):(zAY t j q).Same q.1:=by
 unfold zAY;split
 ·exact zE0 _ _ _
 ·exact Nt.Same.refl _
theorem zHn {a:Lay}(b:Still a)(n:Nt)(t:Tr)(j:Nat):(yI a n t j).1.Same n:=by
 induction j with
 |zero=>exact Nt.Same.refl _
 |succ j c=>exact(((zE0 _ _ _).trans (zLj _ _ _)).trans (zFm b _ _ _)).trans c
theorem zGv (a:Nat):Still (xR a):=by
 induction a with
 |zero=>exact λn t=>Nt.Same.refl _
 |succ a b=>
  intro n t;unfold xR;split
  ·exact⟨rfl,rfl,rfl,rfl⟩
  ·split
   ·exact zFm b _ _ _
   ·split
    ·exact zIL b _ _ _
    ·split
     ·exact zHn b _ _ _
     ·exact Nt.Same.refl _
structure Nt.Laid (n:Nt)(j:Nat):Prop where
 first:n.first<2^n.sets.length
 ends:n.ends<2^n.sets.length
 rules:∀x∈n.rules,x<2^n.sets.length
 rlen:n.rules.length=j
 elen:n.empty.length=j
theorem zCe (a:Nat)(rules:List Tr)(j:Nat)(k:xG (qI a) rules j<=24):(yA a rules j).Laid j:=by
 induction j with
 |zero=>exact⟨(by decide:0<2^0),(by decide:0<2^0),λx e=>absurd e List.not_mem_nil,rfl,rfl⟩
 |succ j l=>
  have r:xG (qI a) rules j+qI a (rules.getD j Tr.none)<=24:=k;have ⟨m,s⟩:=zBg a rules j (by omega);have b:=l (by omega);have ⟨t,o,f⟩:=zAD a (yA a rules j) (rules.getD j Tr.none) m (by omega);have ⟨s1,s2,h,p⟩:=zGv a (yA a rules j) (rules.getD j Tr.none);rw[<-o] at f;have g:2^(yA a rules j).sets.length<=2^(xR a (yA a rules j) (rules.getD j Tr.none)).1.sets.length:=kG (by omega) (by omega);have u:0<2^(yA a rules j).sets.length:=Nat.pow_pos (by omega);refine⟨Nat.or_lt_two_pow (by rw[s1];exact lZ b.first g) f.first,Nat.or_lt_two_pow (by rw[s2];exact lZ b.ends g) f.last,λx e=>?_,?_,?_⟩
  ·show x<2^(xR a (yA a rules j) (rules.getD j Tr.none)).1.sets.length
   have q:=e;rcases kU.1 q with c|c
   ·rw[h] at c
    exact lZ (b.rules x c) g
   ·rw[kY.1 c]
    omega
  ·show((xR a (yA a rules j) (rules.getD j Tr.none)).1.rules++[_]).length=j+1
   rw[h,kX,b.rlen];rfl
  ·show((xR a (yA a rules j) (rules.getD j Tr.none)).1.empty++[_]).length=j+1
   rw[p,kX,b.elen];rfl
theorem zP6 (a:Nat)(rules:List Tr)(e:xG (qI a) rules rules.length<=24)(f:rules.length<=8):(yA a rules rules.length).Ok:=by
 have c:=zBg a rules rules.length e;have b:=zCe a rules rules.length e;exact⟨c.1.len,c.1.same,c.1.fol,b.first,b.ends,by rw[b.rlen];exact f,b.rules⟩
theorem Nw.netAt {k w:World}{e:Nat}{n:Nt}{sv f rv j:Value}{d:List (Value×Bool)}(a:Nw k w e n sv f rv j d):NetAt w e n sv f rv j:=by
 have ⟨c0,c1,c2,l,m,o,_⟩:=a.cells;refine⟨a.lt,c0,c1,c2,l,m,o,?_,zBf a.fOwn,zBf a.rOwn,zHC a.eOwn λg p=>(a.eOwn.lt g p).2⟩;have q:∀i,i<n.sets.length->RangesAt w (d.getD i (undef,false)).1 (n.sets.getD i ⟨[],false⟩).ranges:=λi b=>(a.each i b).1.grown a.keep;rcases a.sOwn.2 with⟨c,r⟩|⟨g,cap,v,c,x,y,s,t,z,A⟩
 ·exact⟨none,0,by rw[c,r],by omega,by unfold maxLen;omega,λi b=>by omega⟩
 ·have u:=(a.sOwn.lt g (by rw[c];rfl)).2
  refine⟨some ⟨g,0,none⟩,cap,c,s,t,λi b=>⟨g,0,(d.getD i (undef,false)).1,rfl,u,?_,?_,q i b⟩⟩
  ·have:=a.sOwn.cells (g:=g) (by rw[c];rfl) (i*2) _ (zFj d i (by rw[a.plen];exact b)).1
   rw[Addr.add_lit] at this;rw[Nat.zero_add] at this ⊢;exact this
  ·have:=a.sOwn.cells (g:=g) (by rw[c];rfl) (i*2+1) _ (zFj d i (by rw[a.plen];exact b)).2
   rw[Addr.add_lit,(a.each i b).2] at this;rw[Nat.zero_add] at this ⊢;exact this
section
attribute [local go_sem ↓] Go.wp_at_zero Go.wp_at_succ
def zMt (w:World)(d:Nat)(v:Value)(l:List Tr):Prop:=∃ao cap,v=slice ao l.length cap/\l.length<=cap/\cap<=maxLen/\∀i,i<l.length->∃g o p,ao=some ⟨g,o,none⟩/\In w g/\w.cell? ⟨g,o+i,none⟩=some (pointer (some ⟨p,0,none⟩))/\TreeAt w d p (l.getD i Tr.none)
theorem zM4 (w:World)(d:Nat)(v:Value)(rules:List Tr)(hT:zMt w d v rules)(h8:rules.length<=8)(hl:xG (qI d) rules rules.length<=24):
  Calls prog 60 #[v] w λe w'=>∃nb,e=returned (pX nb)/\NwIs w w' nb (yA d rules rules.length):=by
 obtain⟨i0,hi0,hz0,hz1,hz2⟩:=info_parts yG;obtain⟨ib,hib,hb0,hb1,hb2⟩:=info_parts vR;obtain⟨ao,cap,rfl,_,_,hpc⟩:=hT;have HPT:Hid (∀wr n2,NwIs w wr w.heap.size n2->∀i,i<rules.length->∃g o p,ao=some ⟨g,o,none⟩/\cX wr g (o+i)=some (pX p)/\TreeAt w d p (rules.getD i Tr.none)):=by
  rintro wr n2 ⟨_,_,_,_,_,hN⟩ i hi;obtain⟨g,o,p,ha,hgi,hc,hti⟩:=hpc i hi;exact⟨g,o,p,ha,zA hc hgi hN.keep,hti⟩
 obtain⟨w1,hw1,HN1⟩:∃w1,w1=w.alloc (.cells #[nX,nX,zX,zX,nX,nX] 132)/\Hid (NwIs w w1 w.heap.size Nt.blank):=⟨_,rfl,_,_,_,_,_,Nw.begin w⟩
 have HTC:Hid (zC5 w w.heap.size d (xR d) (qI d)):=zF0 w w.heap.size d;obtain⟨LT,hLT⟩:∃LT,LT=yA d rules:=⟨_,rfl⟩
 have HLT:Hid (LT 0=Nt.blank/\(∀j,LT (j+1)=zNR (LT j).sets.length (xR d (LT j) (rules.getD j Tr.none)))/\(∀j,j<=rules.length->(LT j).Good/\(LT j).Laid j)/\(∀j,j<rules.length->(LT j).sets.length+qI d (rules.getD j Tr.none)<=24/\(xR d (LT j) (rules.getD j Tr.none)).1.Good/\(xR d (LT j) (rules.getD j Tr.none)).2.Small 24/\(xR d (LT j) (rules.getD j Tr.none)).1.first<16777216/\(xR d (LT j) (rules.getD j Tr.none)).1.ends<16777216/\(xR d (LT j) (rules.getD j Tr.none)).1.rules.length=j/\(xR d (LT j) (rules.getD j Tr.none)).1.empty.length=j)/\LT rules.length=yA d rules rules.length/\∀j,j<rules.length->(LT j).sets.length<=(xR d (LT j) (rules.getD j Tr.none)).1.sets.length):=by
  rw[hLT];have hm:∀j,j<=rules.length->xG (qI d) rules j<=24:=λj hj=>lY (zDT _ rules j _ hj) hl;refine⟨rfl,λj=>rfl,λj hj=>⟨(zBg d rules j (hm j hj)).1,zCe d rules j (hm j hj)⟩,λj hj=>?_,rfl,λj hj=>?_⟩;rotate_left
  ·have h1:=zBg d rules j (hm j (by omega))
   have h2:xG (qI d) rules j+qI d (rules.getD j Tr.none)<=24:=hm (j+1) hj;have h3:=zAD d (yA d rules j) (rules.getD j Tr.none) h1.1 (by omega);omega
  have h1:=zBg d rules j (hm j (by omega));have h2:xG (qI d) rules j+qI d (rules.getD j Tr.none)<=24:=hm (j+1) hj;have h3:=zAD d (yA d rules j) (rules.getD j Tr.none) h1.1 (by omega);obtain⟨s1,s2,s3,s4⟩:=zGv d (yA d rules j) (rules.getD j Tr.none);have h4:=zCe d rules j (hm j (by omega));have hp:2^(yA d rules j).sets.length<=2^24:=kG (by omega) h1.1.len;exact⟨by omega,h3.1,h3.2.2.up (by omega),by rw[s1];exact lZ h4.first hp,by rw[s2];exact lZ h4.ends hp,by rw[s3];exact h4.rlen,by rw[s4];exact h4.elen⟩
 have HNC:Hid (∀wr n2,NwIs w wr w.heap.size n2->∃sa sc,cX wr w.heap.size 0=some (slice sa n2.sets.length sc)):=by
  rintro wr n2 ⟨sv,_,_,_,_,hN⟩;obtain⟨sa,sc,hsv⟩:=zF hN.sOwn;exact⟨sa,sc,by rw[<-hsv];exact hN.cells.1⟩
 generalize yA d rules rules.length=LE at *;clear hLT hl hpc;go_enter func60,ntmps60
 refine wp_seq_k ?_;intro K0 hK0;have HK0:Hid (∀a w,_->K0 a w):=hK0;clear hK0;go_wp2_with fail;apply HK0.out;clear HK0;refine wp_seq_k ?_;intro K0 hK0;have HK0:Hid (∀a w,_->K0 a w):=hK0;clear hK0;go_wp2_with fail;apply HK0.out;clear HK0;rw[<-hw1];clear hw1;go_wp2_with fail;go_loopg [12] rules.length (λq i wr=>∃j:Nat,q=rules.length-j/\j<=rules.length/\i=iX (j:Int)/\NwIs w wr w.heap.size (LT j))
 case atStart=>exact⟨0,rfl,lX,rfl,by rw[HLT.out.1];exact HN1⟩
 case round=>
  obtain⟨j,hgk,hj,rfl,hN⟩:=hrel;have HB:Hid (gk=rules.length-j/\NwIs w wr w.heap.size (LT j)):=⟨hgk,hN⟩
  by_cases hj2:j<rules.length
  ·have i1:(j:Int)<(rules.length:Int):=by omega
   obtain⟨g,o,p,rfl,hc,hti⟩:=HPT wr _ hN j hj2;obtain⟨b1,b2,b3,b4,b5,b6,b7⟩:=HLT.2.2.2.1 j hj2;obtain⟨g1,g2⟩:=HLT.2.2.1 j hj;have HC0:=HTC wr (LT j) p (rules.getD j Tr.none) hN g1 hti b1;have HNX:Hid (LT (j+1)=zNR (LT j).sets.length (xR d (LT j) (rules.getD j Tr.none))):=HLT.2.1 j;obtain⟨sa,sc,y0⟩:=HNC wr _ hN;have hBL:=g1.len;have hBq0:(LT j).sets.length<=(xR d (LT j) (rules.getD j Tr.none)).1.sets.length:=HLT.2.2.2.2.2 j hj2;clear hgk hN hti b1 g1 g2;generalize (LT j).sets.length=B at *;generalize xR d (LT j) (rules.getD j Tr.none)=q at *;obtain⟨q1,⟨qf,ql,qe⟩⟩:=q;have b2':q1.sets.length<=24:=b2.len;have l3:qf<16777216:=b3.first
   have l4:ql<16777216:=b3.last;have b4':q1.first<16777216:=b4
   have b5':q1.ends<16777216:=b5;have b6':q1.rules.length=j:=b6;have b7':q1.empty.length=j:=b7;have HC:Hid (Ca 89 #[pX w.heap.size,pX p] wr λe w'=>e=returned (agg #[iX (qf:Int),iX (ql:Int),bool qe])/\NwIs w w' w.heap.size q1/\StayS wr w'):=HC0;have HNX2:Hid (LT (j+1)={q1 with first:=q1.first|||qf,ends:=q1.ends|||ql,rules:=q1.rules++[2^q1.sets.length-2^B],empty:=q1.empty++[qe]}):=HNX;clear HC0 HNX b2 b3 b4 b5 b6 b7;go_wp2_with (first|(go_at_call 89;refine HC.mono ?_;rintro e w5 ⟨rfl,⟨sv,fv,rv,ev,ps,hN5⟩,hS5⟩;have HN5:Hid (Nw w w5 w.heap.size q1 sv fv rv ev ps):=hN5;clear hN5 hS5))
   obtain⟨w6,hw6,HN6,HB6⟩:∃w6,w6=w5.alloc (.cells #[iX (qf:Int),iX (ql:Int),bool qe] 167)/\Hid (Nw w w6 w.heap.size q1 sv fv rv ev ps)/\Hid (w6.heap[w5.heap.size]? =some (.cells (Sn.mk qf ql qe).cells 167)):=⟨_,rfl,HN5.grown (kZ _ _ lQ),gZ _ _⟩
   rw[<-hw6];clear hw6 HN5 y0 hc;generalize w5.heap.size=b8 at *;obtain⟨c0,c1,c2,c3,c4,c5,cf⟩:=HN6.cells;obtain⟨d0,d1,d2,-⟩:=zI HB6;have cf2:=cf 2;have hor1:bits .or i64 (q1.first:Int) (qf:Int)=((q1.first|||qf:Nat):Int):=qF _ _ (by omega) (by omega);have hor2:bits .or i64 (q1.ends:Int) (ql:Int)=((q1.ends|||ql:Nat):Int):=qF _ _ (by omega) (by omega);clear cf;go_region;obtain⟨w7,hw7,HN7,HB7⟩:∃w7,w7=(w6.setCell ⟨w.heap.size,2,none⟩ (iX ((q1.first|||qf:Nat):Int))).drew/\Hid (Nw w w7 w.heap.size {q1 with first:=q1.first|||qf} sv fv rv ev ps)/\Hid (w7.heap[b8]? =some (.cells (Sn.mk qf ql qe).cells 167)):=by
    have h:=HN6.setFirst (q1.first|||qf);exact⟨_,rfl,h.1.grown (Keep.drew _),h.2 _ _ HB6⟩
   rw[<-hw7];clear hw7 c0 c1 c2 c3 c4 c5 d0 d1 d2 cf2 HN6 HB6;obtain⟨c0,c1,c2,c3,c4,c5,cf⟩:=HN7.cells;obtain⟨d0,d1,d2,-⟩:=zI HB7;have cf3:=cf 3;clear cf;go_wp2_with fail;go_region;obtain⟨w8,hw8,HN8,HB8⟩:∃w8,w8=(w7.setCell ⟨w.heap.size,3,none⟩ (iX ((q1.ends|||ql:Nat):Int))).drew/\Hid (Nw w w8 w.heap.size {q1 with first:=q1.first|||qf,ends:=q1.ends|||ql} sv fv rv ev ps)/\Hid (w8.heap[b8]? =some (.cells (Sn.mk qf ql qe).cells 167)):=by
    have h:=HN7.setEnds (q1.ends|||ql);exact⟨_,rfl,h.1.grown (Keep.drew _),h.2 _ _ HB7⟩
   rw[<-hw8];clear hw8 c0 c1 c2 c3 c4 c5 d0 d1 d2 cf3 HN7 HB7 hor1 hor2;go_wp2_with fail;have hpl:q1.sets.length<=24:=b2';have hBq:B<=q1.sets.length:=hBq0;obtain⟨P1,hP1e⟩:∃P1:Nat,P1=2^q1.sets.length:=⟨_,rfl⟩
   obtain⟨P2,hP2e⟩:∃P2:Nat,P2=2^B:=⟨_,rfl⟩
   have hP1:P1<=16777216:=by rw[hP1e];exact(kG (by omega) hpl:2^q1.sets.length<=2^24)
   have hP2:P2<=16777216:=by rw[hP2e];exact(kG (by omega) hBL:2^B<=2^24)
   have hP3:P2<=P1:=by rw[hP1e,hP2e];exact kG (by omega) hBq
   obtain⟨R,hR⟩:∃R:Nat,R=P1-P2:=⟨_,rfl⟩
   have hR1:(P1:Int)-(P2:Int)=(R:Int):=by omega
   have hR0:R<16777217:=by omega
   have HR:Hid (R=P1-P2):=hR;have HX:Hid ((IntKind.i64.wrap (IntKind.i64.wrap ((2:Int)^q1.sets.length)-IntKind.i64.wrap ((2:Int)^B)))=(R:Int)):=by
    show _=_;have e1:((2:Int)^q1.sets.length)=(P1:Int):=by rw[hP1e];simp
    have e2:((2:Int)^B)=(P2:Int):=by rw[hP2e];simp
    rw[e1,e2,zBt (P1:Int) (by omega) (by omega),zBt (P2:Int) (by omega) (by omega),hR1];exact zBt _ (by omega) (by omega)
   have HPP:Hid (P1=2^q1.sets.length/\P2=2^B):=⟨hP1e,hP2e⟩
   clear hP1e hP2e;obtain⟨sa2,sc2,hsv⟩:=zF HN8.sOwn;obtain⟨ra,rc,hrv⟩:=HN8.rOwn.form;obtain⟨ea,ec,hev⟩:=zF HN8.eOwn;rw[zR] at hrv;have hrv2:rv=slice ra j rc:=by rw[hrv];show Value.slice ra q1.rules.length rc=_;rw[b6']
   have hev2:ev=slice ea j ec:=by rw[hev];show Value.slice ea q1.empty.length ec=_;rw[b7']
   have hsv2:sv=slice sa2 q1.sets.length sc2:=hsv;clear hsv hrv hev;subst hsv2 hrv2 hev2;obtain⟨c0,-,-,-,c4,c5,cf⟩:=HN8.cells;have cf4:=cf 4;have hlt:=HN8.lt;have hH8:w.heap.size<=w8.heap.size:=HN8.keep.size;have HNP:Hid (some w.heap.size≠(Value.slice ra j rc).ownBlock):=HN8.box.2.2.1;have OW:w8.ownsRow w.heap.size 3 1 (slice ra j rc) j ((ints q1.rules).map λx=>iX x):=by
    have:=HN8.rOwn;unfold OwnI at this;rw[zR] at this;have h2:w8.ownsRow w.heap.size 3 1 (slice ra j rc) q1.rules.length ((ints q1.rules).map λx=>iX x):=this;rw[b6'] at h2;exact h2
   obtain⟨d0,d1,d2,-⟩:=zI HB8;clear cf hR hP1 hP2 hP3 hBq hBq0 hR1;go_region_law ((refine step_append_lies _ (by rfl) (.tmp 46) (.tmp 56) 45 (by rfl) w.heap.size 3 i0 _ 1 8 underlying45 hi0 hz0 hz1 hz2 rfl (by decide) (slice ra j rc) j ((ints q1.rules).map λx=>iX x) (by simp[Act.eval,Act.put]) ((OW.alloc _).drew) ⟨w8.heap.size,0,none⟩ 1 1 [iX (IntKind.i64.wrap (IntKind.i64.wrap ((2:Int)^q1.sets.length)-IntKind.i64.wrap ((2:Int)^B)))] (by simp[Act.eval,Act.put]) (by rfl) (news_of_block (cs:=#[iX (IntKind.i64.wrap (IntKind.i64.wrap ((2:Int)^q1.sets.length)-IntKind.i64.wrap ((2:Int)^B)))]) (t:=3) (fr:=(0,0)) (gZ w8 _)) (by simp[Value.oneCell']) (by decide) (by unfold maxLen;omega) (by omega) (by simp;omega) (w8.heap.size+1) (by simp) ?_;intro gg cap2 w9 hown hgrow hat hlt9;have hPB:=hgrow.block w.heap.size (by simp;omega) HNP;have c4b:cX w9 w.heap.size 4=some (slice ra j rc):=(gY hPB).trans ((gV _ _ _ hlt).trans c4);have cf4b:w9.frozen? ⟨w.heap.size,4,none⟩=false:=(gW hPB).trans ((frozen?_alloc_past _ _ _ hlt).trans cf4)))
   all_goals
    rw[HX.out] at hown;have HN9:Hid (Nw w (w9.setCell ⟨w.heap.size,4,none⟩ (slice (qX gg) (j+1) cap2)) w.heap.size {q1 with first:=q1.first|||qf,ends:=q1.ends|||ql,rules:=q1.rules++[R]} (slice sa2 q1.sets.length sc2) fv (slice (qX gg) (j+1) cap2) (slice ea j ec) ps/\StayS w8.drew (w9.setCell ⟨w.heap.size,4,none⟩ (slice (qX gg) (j+1) cap2))):=(HN8.grown (Keep.drew _)).addRule (o:=Obj.cells #[iX (IntKind.i64.wrap (IntKind.i64.wrap ((2:Int)^q1.sets.length)-IntKind.i64.wrap ((2:Int)^B)))] 3) b6'.symm hown hgrow (by
     rcases hat with ha|ha
     ·exact .inl ha
     ·right;show w8.heap.size<=gg;omega)
    have HB9:Hid ((w9.setCell ⟨w.heap.size,4,none⟩ (slice (qX gg) (j+1) cap2)).heap[b8]? =some (.cells (Sn.mk qf ql qe).cells 167)):=HN9.2 _ _ HB8;clear hown hgrow hat hlt9 hPB c4b cf4b OW c0 c4 c5 cf4 d0 d1 d2 HX HN8 HB8 HNP;generalize w9.setCell ⟨w.heap.size,4,none⟩ (slice (qX gg) (j+1) cap2)=w10 at *;obtain⟨-,-,-,-,-,c5,cf⟩:=HN9.1.cells;have cf5:=cf 5;have hlt10:=HN9.1.lt;have hH10:w.heap.size<=w10.heap.size:=HN9.1.keep.size;have HNE:Hid (some w.heap.size≠(Value.slice ea j ec).ownBlock):=HN9.1.box.2.2.2;have OE:w10.ownsRow w.heap.size 4 1 (slice ea j ec) j (q1.empty.map λx=>bool x):=by
     have:=HN9.1.eOwn;unfold OwnB at this;have h2:w10.ownsRow w.heap.size 4 1 (slice ea j ec) q1.empty.length (q1.empty.map λx=>bool x):=this;rw[b7'] at h2;exact h2
    obtain⟨d0,d1,d2,-⟩:=zI HB9;clear cf;go_wp2_with fail;go_region_law ((refine step_append_lies _ (by rfl) (.tmp 64) (.tmp 67) 28 (by rfl) w.heap.size 4 ib _ 1 1 underlying28 hib hb0 hb1 hb2 rfl (by decide) (slice ea j ec) j (q1.empty.map λx=>bool x) (by simp[Act.eval,Act.put]) ((OE.alloc _).drew) ⟨w10.heap.size,0,none⟩ 1 1 [bool qe] (by simp[Act.eval,Act.put]) (by rfl) (news_of_block (cs:=#[bool qe]) (t:=4) (fr:=(0,0)) (gZ w10 _)) (by simp[Value.oneCell']) (by decide) (by unfold maxLen;omega) (by omega) (by simp;omega) (w10.heap.size+1) (by simp) ?_;intro g5 cap5 w11 hown5 hgrow5 hat5 hlt11;have hPB5:=hgrow5.block w.heap.size (by simp;omega) HNE;have c5b:cX w11 w.heap.size 5=some (slice ea j ec):=(gY hPB5).trans ((gV _ _ _ hlt10).trans c5);have cf5b:w11.frozen? ⟨w.heap.size,5,none⟩=false:=(gW hPB5).trans ((frozen?_alloc_past _ _ _ hlt10).trans cf5)))
    all_goals
     have HN12:Hid (NwIs w (w11.setCell ⟨w.heap.size,5,none⟩ (slice (qX g5) (j+1) cap5)) w.heap.size (LT (j+1))):=by
      have h:=(HN9.1.grown (Keep.drew _)).addEmpty (o:=Obj.cells #[bool qe] 4) b7'.symm hown5 hgrow5 (by
       rcases hat5 with ha|ha
       ·exact .inl ha
       ·right;show w10.heap.size<=g5;omega)
      show NwIs _ _ _ (LT (j+1));rw[HNX2.out,<-HPP.out.1,<-HPP.out.2,<-HR.out];exact⟨_,_,_,_,_,h.1⟩
     clear hown5 hgrow5 hat5 hlt11 hPB5 c5b cf5b OE c5 cf5 d0 d1 d2;go_wp2_with fail;go_roundg (rules.length-(j+1))
     case measure=>rw[HB.out.1];omega
     case rel=>exact⟨j+1,rfl,by omega,by go_num,HN12⟩
  ·have i1:(rules.length:Int)<=(j:Int):=by omega
   have e:j=rules.length:=by omega
   subst e;rw[HLT.out.2.2.2.2.1] at hN;clear hgk;go_wp2_with fail;go_ret;exact⟨_,rfl,hN⟩
end
def xT (c:Nat):Bool:=decide (48<=c)&&decide (c<=57)
def zDk (c:Nat):Bool:=(decide (97<=c)&&decide (c<=122))||(decide (65<=c)&&decide (c<=90))
def isPrintedB (c:Nat):Bool:=decide (32<=c)&&decide (c<=126)
theorem zAK (w:World)(c:Nat):Calls prog 206 #[int .u8 (c:Int)] w λe w'=>e=returned (bool (xT c))/\w'=w:=by
 have a:xT c=(decide (48<=c)&&decide (c<=57)):=rfl;rcases(show c<48\/(48<=c/\c<=57)\/(48<=c/\57<c) by omega) with b|⟨b,d⟩|⟨b,d⟩
 all_goals
  have f:=vl a;clear a
  try have g:(c:Int)<48:=by omega
  try have g:(c:Int)>=48:=by omega
  try have j:(c:Int)<=57:=by omega
  try have j:57<(c:Int):=by omega
  go_in;go_wp2;go_ret;exact⟨by rw[f.out];first|(simp;done)|(simp;omega)|(simp;rw[Bool.eq_iff_iff];simp;omega),rfl⟩
theorem zCt (w:World)(c:Nat):Calls prog 218 #[int .u8 (c:Int)] w λe w'=>e=returned (bool (isPrintedB c))/\w'=w:=by
 have a:isPrintedB c=(decide (32<=c)&&decide (c<=126)):=rfl;rcases(show c<32\/(32<=c/\c<=126)\/(32<=c/\126<c) by omega) with b|⟨b,d⟩|⟨b,d⟩
 all_goals
  have f:=vl a;clear a
  try have g:(c:Int)<32:=by omega
  try have g:(c:Int)>=32:=by omega
  try have j:(c:Int)<=126:=by omega
  try have j:126<(c:Int):=by omega
  go_in;go_wp2;go_ret;exact⟨by rw[f.out];first|(simp;done)|(simp;omega)|(simp;rw[Bool.eq_iff_iff];simp;omega),rfl⟩
theorem zGz (w:World)(c:Nat):Calls prog 217 #[int .u8 (c:Int)] w λe w'=>e=returned (bool (zDk c))/\w'=w:=by
 have d:(c<65)\/(65<=c/\c<=90)\/(90<c/\c<97)\/(97<=c/\c<=122)\/(122<c):=by omega
 have b:zDk c=((decide (97<=c)&&decide (c<=122))||(decide (65<=c)&&decide (c<=90))):=rfl;rcases d with a|a|a|a|a
 all_goals
  have f:=vl b;clear b
  try have g:(c:Int)<97:=by omega
  try have g:(c:Int)>=97:=by omega
  try have j:(c:Int)<65:=by omega
  try have j:(c:Int)>=65:=by omega
  try have k:(c:Int)<=90:=by omega
  try have k:90<(c:Int):=by omega
  try have l:(c:Int)<=122:=by omega
  try have l:122<(c:Int):=by omega
  go_in;go_wp2;go_ret;exact⟨by rw[f.out];first|(simp;done)|(simp;omega)|(simp;rw[Bool.eq_iff_iff];simp;omega),rfl⟩
def zBl (c:Nat):Bool:=!(c==92||c==124||c==40||c==41||c==91||c==93||c==123||c==125||c==42||c==43||c==63||c==46)&&isPrintedB c
theorem zDB (w:World)(c:Nat):Calls prog 212 #[int .u8 (c:Int)] w λe w'=>e=returned (bool (zBl c))/\w'=w:=by
 have a:Hid (∀w,Ca 218 #[int .u8 (c:Int)] w λe w'=>e=returned (bool (isPrintedB c))/\w'=w):=λw=>zCt w c;by_cases d:c=92\/c=124\/c=40\/c=41\/c=91\/c=93\/c=123\/c=125\/c=42\/c=43\/c=63\/c=46
 ·rcases d with rfl|rfl|rfl|rfl|rfl|rfl|rfl|rfl|rfl|rfl|rfl|rfl
  all_goals
   go_in;go_wp2;go_ret;exact⟨rfl,rfl⟩
 obtain⟨f,g,h,j,k,l,m,o,p,q,r,s⟩:¬c=92/\¬c=124/\¬c=40/\¬c=41/\¬c=91/\¬c=93/\¬c=123/\¬c=125/\¬c=42/\¬c=43/\¬c=63/\¬c=46:=by omega
 have t:Hid (zBl c=isPrintedB c):=by
  show _=_;unfold zBl;simp[f,g,h,j,k,l,m,o,p,q,r,s]
 have x:((c:Int)==92)=false:=by rw[hX];omega
 have y:((c:Int)==124)=false:=by rw[hX];omega
 have z:((c:Int)==40)=false:=by rw[hX];omega
 have A:((c:Int)==41)=false:=by rw[hX];omega
 have B:((c:Int)==91)=false:=by rw[hX];omega
 have C:((c:Int)==93)=false:=by rw[hX];omega
 have D:((c:Int)==123)=false:=by rw[hX];omega
 have E:((c:Int)==125)=false:=by rw[hX];omega
 have F:((c:Int)==42)=false:=by rw[hX];omega
 have G:((c:Int)==43)=false:=by rw[hX];omega
 have H:((c:Int)==63)=false:=by rw[hX];omega
 have I:((c:Int)==46)=false:=by rw[hX];omega
 generalize isPrintedB c=b at *;go_in;go_wp2_with (go_at_call 218;refine(a _).mono ?_;rintro e J ⟨rfl,u⟩;have v:=u.symm;subst v)
 go_ret;exact⟨by rw[t.out];rfl,rfl⟩
def zAe (c:Nat):Int:=if xT c then(c:Int)-48 else if 97<=c/\c<=102 then(c:Int)-87 else -1
theorem zGC (w:World)(c:Nat)(p:c<256):Calls prog 220 #[int .u8 (c:Int)] w λe w'=>e=returned (iX (zAe c))/\w'=w:=by
 have h:Hid (∀w,Ca 206 #[int .u8 (c:Int)] w λe w'=>e=returned (bool (xT c))/\w'=w):=λw=>zAK w c;by_cases q:48<=c/\c<=57
 ·have d:xT c=true:=by unfold xT;simp;omega
  rw[d] at h;have g:=vl h;have f:Hid (zAe c=(c:Int)-48):=by show _=_;unfold zAe;rw[if_pos d]
  have j:IntKind.u8.wrap ((c:Int)-48)=(c:Int)-48:=by rw[IntKind.wrap_u8];omega
  go_in;go_wp2_with (go_at_call 206;refine(g _).mono ?_;rintro e k ⟨rfl,a⟩;have b:=a.symm;subst b)
  go_ret;exact⟨by rw[f.out];first|rfl|(simp [j];done)|(simp;omega),rfl⟩
 ·have d:xT c=false:=by unfold xT;simp;omega
  rw[d] at h;have g:=vl h;by_cases l:97<=c/\c<=102
  ·have f:Hid (zAe c=(c:Int)-87):=by show _=_;unfold zAe;rw[if_neg (by rw[d];decide),if_pos l]
   have m:(c:Int)>=97:=by omega
   have o:(c:Int)<=102:=by omega
   have j:IntKind.u8.wrap ((c:Int)-97)=(c:Int)-97:=by rw[IntKind.wrap_u8];omega
   go_in;go_wp2_with (go_at_call 206;refine(g _).mono ?_;rintro e k ⟨rfl,a⟩;have b:=a.symm;subst b)
   go_ret;exact⟨by rw[f.out];first|rfl|(simp [j];done)|(simp;omega),rfl⟩
  ·have f:Hid (zAe c=-1):=by show _=_;unfold zAe;rw[if_neg (by rw[d];decide),if_neg l]
   by_cases r:97<=c
   ·have m:(c:Int)>=97:=by omega
    have o:102<(c:Int):=by omega
    go_in;go_wp2_with (go_at_call 206;refine(g _).mono ?_;rintro e k ⟨rfl,a⟩;have b:=a.symm;subst b)
    go_ret;exact⟨by rw[f.out];rfl,rfl⟩
   ·have m:(c:Int)<97:=by omega
    go_in;go_wp2_with (go_at_call 206;refine(g _).mono ?_;rintro e k ⟨rfl,a⟩;have b:=a.symm;subst b)
    go_ret;exact⟨by rw[f.out];rfl,rfl⟩
def qW (c:Nat):Bool:=decide (97<=c)&&decide (c<=122)
theorem zDA (w:World)(c:Nat):Calls prog 181 #[int .u8 (c:Int)] w λe w'=>e=returned (bool (qW c))/\w'=w:=by
 by_cases b:97<=c
 ·by_cases d:c<=122
  ·have a:Hid (qW c=true):=by show _=_;unfold qW;rw[gG b,gG d];rfl
   have f:(c:Int)>=97:=by omega
   have g:(c:Int)<=122:=by omega
   go_in;go_wp2;go_ret;exact⟨by rw[a.out];first|rfl|(simp;done)|(simp;omega),rfl⟩
  ·have a:Hid (qW c=false):=by show _=_;unfold qW;rw[gG b,gJ d];rfl
   have f:(c:Int)>=97:=by omega
   have g:122<(c:Int):=by omega
   go_in;go_wp2;go_ret;exact⟨by rw[a.out];first|rfl|(simp;done)|(simp;omega),rfl⟩
 ·have a:Hid (qW c=false):=by show _=_;unfold qW;rw[gJ b];rfl
  have f:(c:Int)<97:=by omega
  go_in;go_wp2;go_ret;exact⟨by rw[a.out];first|rfl|(simp;done)|(simp;omega),rfl⟩
def zIN (s:ByteArray)(c:Nat):Nat:=(List.range s.size).findIdx λi=>byt s i==c
theorem zPy (s:ByteArray)(c j:Nat)(a:j<s.size)(b:byt s j=c)(d:∀i,i<j->byt s i≠c):zIN s c=j:=
 zEr _ _ j (by rw[List.length_range];exact a) (by rw[vN _ _ a];exact beq_iff_eq.2 b) λk e=>by rw[vN _ _ (by omega)];exact hX.2 (d k e)
theorem zNo (s:ByteArray)(c:Nat)(d:∀i,i<s.size->byt s i≠c):zIN s c=s.size:=by
 have b:=zBV (List.range s.size) (λi=>byt s i==c) λk a=>by
  rw[List.length_range] at a;rw[vN _ _ a];exact hX.2 (d k a)
 rw[List.length_range] at b;exact b
def zAG (s:ByteArray)(c:Nat):Bool:=decide (zIN s c<s.size)
def qH (s:ByteArray)(c:Nat):ByteArray:=if zAG s c then s.extract 0 (zIN s c) else s
def vE (s:ByteArray)(c:Nat):ByteArray:=if zAG s c then s.extract (zIN s c+1) s.size else⟨#[]⟩
theorem zDo (w:World)(s:ByteArray)(D:s.size<=1048576)(c:Nat):
  Calls prog 86 #[string s,int .u8 (c:Int)] w λe w'=>e=returned (tuple #[string (qH s c),string (vE s c),bool (zAG s c)])/\Grew w w':=by
 have p:Hid (∀j,j<s.size->byt s j=c->(∀i,i<j->byt s i≠c)->zIN s c=j):=λj=>zPy s c j;have r:=vl <| zNo s c;have t:Hid (∀j,zIN s c=j->j<s.size->(zAG s c=true/\qH s c=s.extract 0 j/\vE s c=s.extract (j+1) s.size)):=λj e m=>by
  have a:zAG s c=true:=by unfold zAG;rw[e];exact gG m
  exact⟨a,by unfold qH;rw[if_pos a,e],by unfold vE;rw[if_pos a,e]⟩
 have u:Hid (zIN s c=s.size->(zAG s c=false/\qH s c=s/\vE s c=⟨#[]⟩)):=λe=>by
  have a:zAG s c=false:=by unfold zAG;rw[e];exact gJ (by omega)
  exact⟨a,by unfold qH;rw[if_neg (by rw[a];decide)],by unfold vE;rw[if_neg (by rw[a];decide)]⟩
 generalize zAG s c=E at *;generalize qH s c=F at *;generalize vE s c=B at *;go_in;go_wp2;go_loopg [7] s.size (λq i wr=>∃j:Nat,q=s.size-j/\j<=s.size/\i=iX (j:Int)/\(∀k,k<j->byt s k≠c)/\wr=w)
 case atStart=>exact⟨0,rfl,lX,rfl,λk o=>by omega,rfl⟩
 case round=>
  obtain⟨j,g,m,rfl,d,rfl⟩:=hrel;have h:Hid (gk=s.size-j/\(∀k,k<j->byt s k≠c)):=⟨g,d⟩
  by_cases l:j<s.size
  ·have y:(j:Int)<(s.size:Int):=by omega
   have G:¬(j:Int)<0:=by omega
   have H:=zBK s j l;clear g d;by_cases f:byt s j=c
   ·have b:=vl <| t j (p j l f h.2) l
    have z:((byt s j:Int)==(c:Int))=true:=by rw[f];exact beq_self_eq_true _
    have I:(0:Int)<=(j:Int):=by omega
    have J:(j:Int)<=(s.size:Int):=by omega
    have L:(0:Int)<=(j:Int)+1:=by omega
    have M:(j:Int)+1<=(s.size:Int):=by omega
    have N:Hid (((j:Int)+1).toNat=j+1):=by show _=_;omega
    generalize byt s j=x at *;go_wp2;go_quiet (fail);go_wp2;refine gU (v:=tuple #[string (s.extract 0 j),string (s.extract (j+1) s.size),tX]) (by simp[results,results86,go_sem]) rfl ?_;exact⟨by rw[b.out.1,b.out.2.1,b.out.2.2],Keep.alike (w':=wr.drewN nq) ⟨rfl,rfl,rfl⟩⟩
   ·have z:((byt s j:Int)==(c:Int))=false:=by rw[hX];omega
    have C:Hid (∀k,k<j+1->byt s k≠c):=λk o=>by
     by_cases e:k=j
     ·rw[e];exact f
     ·exact h.2 k (by omega)
    clear f;generalize byt s j=x at *;go_wp2;go_roundg (s.size-(j+1))
    case measure=>rw[h.out.1];omega
    case rel=>exact⟨j+1,rfl,by omega,by go_num,C,rfl⟩
  ·have y:(s.size:Int)<=(j:Int):=by omega
   have b:=vl <| u (r λk o=>d k (by omega));clear g d;go_wp2;refine gU (v:=tuple #[string s,string ⟨#[]⟩,fX]) (by simp[results,results86,go_sem]) rfl ?_;exact⟨by rw[b.out.1,b.out.2.1,b.out.2.2],Keep.refl _ _ _⟩
theorem zA0 (s:ByteArray):s.toList.isEmpty=decide (s.size=0):=by
 rw[ByteArray.toList_eq];have e:s.size=s.data.toList.length:=rfl;cases b:s.data.toList with
 |nil=>rw[e,b];rfl
 |cons a l=>rw[e,b];rfl
def zAa (c:Nat):Bool:=qW c||xT c
def xV (s:ByteArray):Bool:=decide (0<s.size)&&(decide (s.size<=6)&&(qW (byt s 0)&&decide (∀i,i<s.size->i=0\/zAa (byt s i)=true)))
theorem jL (w:World)(s:ByteArray)(S:s.size<=1048576):Calls prog 160 #[string s] w λe w'=>e=returned (bool (xV s))/\w'=w:=by
 have A:=zA0 s;by_cases B:s.size=0
 ·have f:Hid (xV s=false):=by show _=_;unfold xV;rw[gJ (show¬0<s.size by omega),Bool.false_and]
  rw[gG B] at A;go_in;go_wp2;go_ret;exact⟨by rw[f.out];rfl,rfl⟩
 rw[gJ B] at A;by_cases T:6<s.size
 ·have f:Hid (xV s=false):=by show _=_;unfold xV;rw[gJ (show¬s.size<=6 by omega),Bool.false_and,Bool.and_false]
  have J:6<(s.size:Int):=by omega
  go_in;go_wp2;go_ret;exact⟨by rw[f.out];rfl,rfl⟩
 have J:(s.size:Int)<=6:=by omega
 have u:0<s.size:=by omega
 have U:(0:Int)<(s.size:Int):=by omega
 have K:=zBK s 0 u;have C:Hid (xV s=(qW (byt s 0)&&decide (∀i,i<s.size->i=0\/zAa (byt s i)=true))):=by show _=_;unfold xV;rw[gG u,gG (show s.size<=6 by omega),Bool.true_and,Bool.true_and]
 have o:Hid (∀w,Ca 181 #[int .u8 (byt s 0:Nat)] w λe w'=>e=returned (bool (qW (byt s 0)))/\w'=w):=λw=>zDA w (byt s 0);cases p:qW (byt s 0) with
 |false=>
  have f:Hid (xV s=false):=by show _=_;rw[C.out,p,Bool.false_and]
  rw[p] at o;have r:=vl o;generalize byt s 0=c0 at *;go_in;go_wp2_with (go_at_call 181;refine(r _).mono ?_;rintro e l ⟨rfl,a⟩;have b:=a.symm;subst b)
  go_ret;exact⟨by rw[f.out];rfl,rfl⟩
 |true=>
  have f:Hid (xV s=decide (∀i,i<s.size->i=0\/zAa (byt s i)=true)):=by show _=_;rw[C.out,p,Bool.true_and]
  rw[p] at o;have r:=vl o;generalize xV s=D at *;go_in;apply wp_cut;intro L v;go_wp2;apply v.out;generalize byt s 0=c0 at K r;apply wp_cut;intro L v;go_wp2_with (go_at_call 181;refine(r _).mono ?_;rintro e l ⟨rfl,a⟩;have b:=a.symm;subst b)
  apply v.out;go_wp2;go_loopg [3] (s.size-1) (λq i wr=>∃j:Nat,q=s.size-j/\1<=j/\j<=s.size/\i=iX (j:Int)/\(∀k,k<j->k=0\/zAa (byt s k)=true)/\wr=w)
  case atStart=>exact⟨1,rfl,lQ,u,rfl,λk M=>.inl (by omega),rfl⟩
  case round=>
   obtain⟨j,N,W,X,rfl,E,rfl⟩:=hrel;have x:Hid (gk=s.size-j/\(∀k,k<j->k=0\/zAa (byt s k)=true)):=⟨N,E⟩
   by_cases F:j<s.size
   ·have O:(j:Int)<(s.size:Int):=by omega
    have Y:¬(j:Int)<0:=by omega
    have aa:=zBK s j F;have t:Hid (∀w,Ca 181 #[int .u8 (byt s j:Nat)] w λe w'=>e=returned (bool (qW (byt s j)))/\w'=w):=λw=>zDA w (byt s j);have G:Hid (zAa (byt s j)=true->∀k,k<j+1->k=0\/zAa (byt s k)=true):=λy k M=>by
     by_cases e:k=j
     ·rw[e];exact .inr y
     ·exact x.2 k (by omega)
    have H:Hid (zAa (byt s j)=false->D=false):=λy=>by
     rw[f.out];exact gJ λP=>by
      rcases P j F with z|z
      ·omega
      ·rw[y] at z;cases z
    generalize byt s j=c at *;cases g:qW c with
    |true=>
     rw[g] at t;have m:=vl t;have d:=G (by unfold zAa;rw[g];rfl);go_wp2_with (go_at_call 181;refine(m _).mono ?_;rintro e l ⟨rfl,a⟩;have b:=a.symm;subst b)
     go_roundg (s.size-(j+1))
     case measure=>rw[x.out.1];omega
     case rel=>exact⟨j+1,rfl,by omega,by omega,by go_num,d,rfl⟩
    |false=>
     rw[g] at t;have m:=vl t;by_cases c1:c<48
     ·have I:(c:Int)<48:=by omega
      have d:=vl <| H (by unfold zAa xT;rw[g,gJ (show¬48<=c by omega)];rfl);go_wp2_with (go_at_call 181;refine(m _).mono ?_;rintro e l ⟨rfl,a⟩;have b:=a.symm;subst b)
      go_ret;exact⟨by rw[d.out];rfl,rfl⟩
     by_cases c2:57<c
     ·have I:¬(c:Int)<48:=by omega
      have R:57<(c:Int):=by omega
      have d:=vl <| H (by unfold zAa xT;rw[g,gJ (show¬c<=57 by omega),Bool.and_false];rfl);go_wp2_with (go_at_call 181;refine(m _).mono ?_;rintro e l ⟨rfl,a⟩;have b:=a.symm;subst b)
      go_ret;exact⟨by rw[d.out];rfl,rfl⟩
     ·have I:¬(c:Int)<48:=by omega
      have R:¬57<(c:Int):=by omega
      have d:=G (by unfold zAa xT;rw[g,gG (show 48<=c by omega),gG (show c<=57 by omega)];rfl);go_wp2_with (go_at_call 181;refine(m _).mono ?_;rintro e l ⟨rfl,a⟩;have b:=a.symm;subst b)
      go_roundg (s.size-(j+1))
      case measure=>rw[x.out.1];omega
      case rel=>exact⟨j+1,rfl,by omega,by omega,by go_num,d,rfl⟩
   ·have O:(s.size:Int)<=(j:Int):=by omega
    have d:Hid (D=true):=by
     show _=_;rw[f.out];exact gG λi ab=>E i (by omega)
    go_wp2;go_ret;exact⟨by rw[d.out];rfl,rfl⟩
structure Ac where
 act:Nat
 name:ByteArray
 ok:Bool
def eqS (a b:ByteArray):Bool:=a.toList==b.toList
def zJJ (s:ByteArray):Ac:=if byt s 0=62&&xV (s.extract 1 s.size) then⟨2,s.extract 1 s.size,true⟩ else⟨0,⟨#[]⟩,false⟩
def zBL (s:ByteArray):Ac:=if s.size=0 then⟨0,⟨#[]⟩,false⟩ else if eqS s ⟨#[46]⟩ then⟨0,⟨#[]⟩,true⟩ else if eqS s ⟨#[45]⟩ then⟨1,⟨#[]⟩,true⟩ else if eqS s ⟨#[60]⟩ then⟨3,⟨#[]⟩,true⟩ else zJJ s
theorem zDs (w:World)(s:ByteArray)(B:s.size<=1048576):Calls prog 163 #[string s] w λe w'=>e=returned (tuple #[iX ((zBL s).act:Int),string (zBL s).name,bool (zBL s).ok])/\Grew w w':=by
 have m:=zA0 s;have o:(⟨#[46]⟩:ByteArray).toList=[46]:=by rw[ByteArray.toList_eq]
 have p:(⟨#[45]⟩:ByteArray).toList=[45]:=by rw[ByteArray.toList_eq]
 have q:(⟨#[60]⟩:ByteArray).toList=[60]:=by rw[ByteArray.toList_eq]
 by_cases f:s.size=0
 ·have a:Hid (zBL s=⟨0,⟨#[]⟩,false⟩):=by show _=_;unfold zBL;rw[if_pos f]
  rw[gG f] at m;rw[a.out];go_in;go_wp2;refine gU (v:=tuple #[zX,string ⟨#[]⟩,fX]) (by simp[results,results163,go_sem]) rfl ?_;exact⟨rfl,Keep.refl _ _ _⟩
 rw[gJ f] at m;have b:Hid (zBL s=if eqS s ⟨#[46]⟩ then⟨0,⟨#[]⟩,true⟩ else if eqS s ⟨#[45]⟩ then⟨1,⟨#[]⟩,true⟩ else if eqS s ⟨#[60]⟩ then⟨3,⟨#[]⟩,true⟩ else zJJ s):=by show _=_;unfold zBL;rw[if_neg f]
 cases g:eqS s ⟨#[46]⟩ with
 |true=>
  have a:Hid (zBL s=⟨0,⟨#[]⟩,true⟩):=by show _=_;rw[b.out,g];rfl
  have d:(s.toList==[46])=true:=by rw[<-o];exact g
  rw[a.out];go_in;go_wp2;refine gU (v:=tuple #[zX,string ⟨#[]⟩,tX]) (by simp[results,results163,go_sem]) rfl ?_;exact⟨rfl,Keep.refl _ _ _⟩
 |false=>
 have C:(s.toList==[46])=false:=by rw[<-o];exact g
 rw[g] at b;cases d:eqS s ⟨#[45]⟩ with
 |true=>
  have a:Hid (zBL s=⟨1,⟨#[]⟩,true⟩):=by show _=_;rw[b.out,d];rfl
  have D:(s.toList==[45])=true:=by rw[<-p];exact d
  rw[a.out];go_in;go_wp2;refine gU (v:=tuple #[iX 1,string ⟨#[]⟩,tX]) (by simp[results,results163,go_sem]) rfl ?_;exact⟨rfl,Keep.refl _ _ _⟩
 |false=>
 have E:(s.toList==[45])=false:=by rw[<-p];exact d
 rw[d] at b;cases h:eqS s ⟨#[60]⟩ with
 |true=>
  have a:Hid (zBL s=⟨3,⟨#[]⟩,true⟩):=by show _=_;rw[b.out,h];rfl
  have F:(s.toList==[60])=true:=by rw[<-q];exact h
  rw[a.out];go_in;go_wp2;refine gU (v:=tuple #[iX 3,string ⟨#[]⟩,tX]) (by simp[results,results163,go_sem]) rfl ?_;exact⟨rfl,Keep.refl _ _ _⟩
 |false=>
 have G:(s.toList==[60])=false:=by rw[<-q];exact h
 rw[h] at b;have u:=vl b;have x:0<s.size:=by omega
 have H:(0:Int)<(s.size:Int):=by omega
 have I:(1:Int)<=(s.size:Int):=by omega
 have J:=zBK s 0 x;have j:Hid (zJJ s=if byt s 0=62&&xV (s.extract 1 s.size) then⟨2,s.extract 1 s.size,true⟩ else⟨0,⟨#[]⟩,false⟩):=rfl;have r:Hid (∀w,Ca 160 #[string (s.extract 1 s.size)] w λe w'=>e=returned (bool (xV (s.extract 1 s.size)))/\w'=w):=λw=>jL w _ (by rw[ByteArray.size_extract];omega);rw[u.out];generalize xV (s.extract 1 s.size)=y at *;generalize zJJ s=z at *;generalize byt s 0=c at *;by_cases t:c=62
 ·subst t
  cases y with
  |true=>
   have a:=vl j;rw[a.out];go_in;go_wp2_with (go_at_call 160;refine(r _).mono ?_;rintro e A ⟨rfl,k⟩;have l:=k.symm;subst l)
   go_quiet (fail);go_wp2;refine gU (v:=tuple #[iX 2,string (s.extract 1 s.size),tX]) (by simp[results,results163,go_sem]) rfl ?_;exact⟨rfl,Keep.alike (w':=w.drewN nq) ⟨rfl,rfl,rfl⟩⟩
  |false=>
   have a:=vl j;rw[a.out];go_in;go_wp2_with (go_at_call 160;refine(r _).mono ?_;rintro e A ⟨rfl,k⟩;have l:=k.symm;subst l)
   refine gU (v:=tuple #[zX,string ⟨#[]⟩,fX]) (by simp[results,results163,go_sem]) rfl ?_;exact⟨rfl,Keep.refl _ _ _⟩
 ·have a:Hid (z=⟨0,⟨#[]⟩,false⟩):=by show _=_;rw[j.out,gJ t];rfl
  have K:((c:Int) != 62)=true:=by simp;omega
  rw[a.out];go_in;go_wp2;refine gU (v:=tuple #[zX,string ⟨#[]⟩,fX]) (by simp[results,results163,go_sem]) rfl ?_;exact⟨rfl,Keep.refl _ _ _⟩
section
structure Rx where
 at_:Nat
 depth:Nat
 both:Bool
def RxAt (w:World)(b:Nat)(s:ByteArray)(dv:Value)(r:Rx):Prop:=w.heap[b]? =some (.cells #[string s,dv,int i64 (r.at_:Int),int i64 (r.depth:Int),bool r.both] 252)
namespace RxAt
variable {w w':World} {b:Nat} {s:ByteArray} {dv:Value} {r:Rx}
theorem lt (a:RxAt w b s dv r):b<w.heap.size:=(kQ.1 a).1
theorem cells (a:RxAt w b s dv r):w.cell? ⟨b,0,none⟩=some (string s)/\w.cell? ⟨b,1,none⟩=some dv/\w.cell? ⟨b,2,none⟩=some (iX (r.at_:Int))/\w.cell? ⟨b,3,none⟩=some (iX (r.depth:Int))/\w.cell? ⟨b,4,none⟩=some (bool r.both)/\∀i,w.frozen? ⟨b,i,none⟩=false:=by
 unfold RxAt at a;refine⟨?_,?_,?_,?_,?_,λi=>?_⟩
 all_goals first|(unfold cell?;rw[a];rfl)|(unfold frozen?;rw[a];simp)
theorem of_block (a:RxAt w b s dv r)(e:w'.heap[b]? =w.heap[b]?):RxAt w' b s dv r:=e.trans a
theorem setAt (a:RxAt w b s dv r)(q:Nat):RxAt (w.setCell ⟨b,2,none⟩ (iX (q:Int))) b s dv {r with at_:=q}:=by
 unfold RxAt at *;simp[setCell,lU,a]
end RxAt
theorem vC (w:World)(b:Nat)(s:ByteArray)(dv:Value)(r:Rx)(c:RxAt w b s dv r)(j:s.size<=1048576)(l:r.at_<=2000000)(k:Nat)(m:k<=1):
  Calls prog 200 #[pX b,iX (k:Int)] w λe w'=>e=returned (int .u8 (byt s (r.at_+k):Nat))/\w'=w:=by
 obtain⟨c0,-,c2,-,-,-⟩:=c.cells;by_cases d:r.at_+k<s.size
 ·have a:Hid (byt s (r.at_+k)=byt s (r.at_+k)):=rfl
  have f:¬((r.at_:Int)+(k:Int)<0):=by omega
  have g:(r.at_:Int)+(k:Int)<(s.size:Int):=by omega
  go_in;go_wp2;go_ret;exact⟨by rw[<-zBK s _ d];rfl,rfl⟩
 ·have a:Hid (byt s (r.at_+k)=0):=zIR s _ (by omega)
  have f:¬((r.at_:Int)+(k:Int)<0):=by omega
  have g:(s.size:Int)<=(r.at_:Int)+(k:Int):=by omega
  go_in;go_wp2;go_ret;exact⟨by rw[a.out];rfl,rfl⟩
def zK (s:ByteArray)(i:Nat)(t:ByteArray):Bool:=decide (i+t.size<=s.size)&&((s.extract i (i+t.size)).toList==t.toList)
def Rx.take (r:Rx)(s t:ByteArray):Rx:=if zK s r.at_ t then{r with at_:=r.at_+t.size} else r
theorem zAn (w:World)(b:Nat)(s:ByteArray)(dv:Value)(r:Rx)(j:RxAt w b s dv r)(q:s.size<=1048576)(u:r.at_<=2000000)(t:ByteArray)(v:t.size<=1000000):
  Calls prog 189 #[pX b,string t] w λe w'=>e=returned (bool (zK s r.at_ t))/\RxAt w' b s dv (r.take s t)/\∀H,Keep H b w w':=by
 obtain⟨c0,-,c2,-,-,m⟩:=j.cells;have x:=m 2;have f:=vl j;have k:((r.at_:Int)+(t.size:Int)).toNat=r.at_+t.size:=by omega
 by_cases g:r.at_+t.size<=s.size
 ·have y:¬((s.size:Int)<(r.at_:Int)+(t.size:Int)):=by omega
  have o:(r.at_:Int)+(t.size:Int)<=(s.size:Int):=by omega
  have z:(0:Int)<=(r.at_:Int):=by omega
  have A:(r.at_:Int)<=(r.at_:Int)+(t.size:Int):=by omega
  cases d:((s.extract r.at_ (r.at_+t.size)).toList==t.toList) with
  |true=>
   have a:zK s r.at_ t=true:=by unfold zK;rw[gG g,d];rfl
   have c:Hid (zK s r.at_ t=true/\r.take s t={r with at_:=r.at_+t.size}):=⟨a,by unfold Rx.take;rw[if_pos a]⟩
   have p:((s.extract r.at_ ((r.at_:Int)+(t.size:Int)).toNat).toList==t.toList)=true:=by rw[k];exact d
   go_in;go_wp2;go_quiet (fail);go_wp2;go_ret;refine⟨by rw[c.out.1];rfl,?_,λH=>Keep.drewSet w _ _ _⟩;rw[c.out.2];have l:=(RxAt.of_block (w':=w.drewN nq) f rfl).setAt (r.at_+t.size);rw[show ((r.at_+t.size:Nat):Int)=(r.at_:Int)+(t.size:Int) by omega] at l;exact l
  |false=>
   have a:zK s r.at_ t=false:=by unfold zK;rw[gG g,d];rfl
   have c:Hid (zK s r.at_ t=false/\r.take s t=r):=⟨a,by unfold Rx.take;rw[if_neg (by rw[a];decide)]⟩
   have p:((s.extract r.at_ ((r.at_:Int)+(t.size:Int)).toNat).toList==t.toList)=false:=by rw[k];exact d
   go_in;go_wp2;go_quiet (fail);go_wp2;go_ret;exact⟨by rw[c.out.1];rfl,by rw[c.out.2];exact RxAt.of_block f rfl,λH=>Keep.alike (w':=w.drewN nq) ⟨rfl,rfl,rfl⟩⟩
 ·have a:zK s r.at_ t=false:=by unfold zK;rw[gJ g];rfl
  have c:Hid (zK s r.at_ t=false/\r.take s t=r):=⟨a,by unfold Rx.take;rw[if_neg (by rw[a];decide)]⟩
  have o:(s.size:Int)<(r.at_:Int)+(t.size:Int):=by omega
  go_in;go_wp2;go_quiet (fail);go_wp2;go_ret;exact⟨by rw[c.out.1];rfl,by rw[c.out.2];exact RxAt.of_block f rfl,λH=>Keep.alike (w':=w.drewN nq) ⟨rfl,rfl,rfl⟩⟩
end
def yN (c:Nat):Bool:=xT c&&decide (c<=52)
def zBJ (c:Nat):Int:=if yN c then(c:Int)-48 else -1
def Rx.on (r:Rx)(k:Bool):Rx:=if k then{r with at_:=r.at_+1} else r
theorem zFw (w:World)(b:Nat)(s:ByteArray)(dv:Value)(r:Rx)(o:RxAt w b s dv r)(v:s.size<=1048576)(x:r.at_<=2000000):
  Calls prog 214 #[pX b] w λe w'=>e=returned (iX (zBJ (byt s r.at_)))/\RxAt w' b s dv (r.on (yN (byt s r.at_)))/\∀H,Keep H b w w':=by
 obtain⟨-,-,c2,-,-,y⟩:=o.cells;have B:=y 2;have p:=vl o;have q:=vl <| vC w b s dv r o v x 0 (by omega);have C:=yQ s r.at_;generalize byt s r.at_=c at *;have l:Hid (∀w,Ca 206 #[int .u8 (c:Int)] w λe w'=>e=returned (bool (xT c))/\w'=w):=λw=>zAK w c;cases j:xT c with
 |false=>
  have f:yN c=false:=by unfold yN;rw[j];rfl
  have g:Hid (zBJ c=-1/\r.on (yN c)=r):=⟨by unfold zBJ;rw[if_neg (by rw[f];decide)],by unfold Rx.on;rw[if_neg (by rw[f];decide)]⟩
  rw[j] at l;have m:=vl l;go_in;go_wp2_with (first|(go_at_call 200;refine q.mono ?_;rintro e k ⟨rfl,a⟩;have d:=a.symm;subst d)|(go_at_call 206;refine(m _).mono ?_;rintro e k ⟨rfl,a⟩;have d:=a.symm;subst d))
  go_ret;exact⟨by rw[g.out.1];rfl,by rw[g.out.2];exact p,λH=>Keep.refl _ _ _⟩
 |true=>
  have D:48<=c/\c<=57:=by unfold xT at j;simpa using j
  rw[j] at l;have m:=vl l;have z:IntKind.u8.wrap ((c:Int)-48)=(c:Int)-48:=by rw[IntKind.wrap_u8];omega
  by_cases t:c<=52
  ·have f:yN c=true:=by unfold yN;rw[j,gG t];rfl
   have g:Hid (zBJ c=(c:Int)-48/\r.on (yN c)={r with at_:=r.at_+1}):=⟨by unfold zBJ;rw[if_pos f],by unfold Rx.on;rw[if_pos f]⟩
   have A:(c:Int)-48<=4:=by omega
   go_in;go_wp2_with (first|(go_at_call 200;refine q.mono ?_;rintro e k ⟨rfl,a⟩;have d:=a.symm;subst d)|(go_at_call 206;refine(m _).mono ?_;rintro e k ⟨rfl,a⟩;have d:=a.symm;subst d))
   go_ret;refine⟨by rw[g.out.1];first|rfl|(simp [z];done)|(simp;omega),?_,λH=>Keep.set _ _ _⟩;rw[g.out.2];have u:=p.setAt (r.at_+1);rw[show ((r.at_+1:Nat):Int)=(r.at_:Int)+1 by omega] at u;exact u
  ·have f:yN c=false:=by unfold yN;rw[j,gJ t];rfl
   have g:Hid (zBJ c=-1/\r.on (yN c)=r):=⟨by unfold zBJ;rw[if_neg (by rw[f];decide)],by unfold Rx.on;rw[if_neg (by rw[f];decide)]⟩
   have A:4<(c:Int)-48:=by omega
   go_in;go_wp2_with (first|(go_at_call 200;refine q.mono ?_;rintro e k ⟨rfl,a⟩;have d:=a.symm;subst d)|(go_at_call 206;refine(m _).mono ?_;rintro e k ⟨rfl,a⟩;have d:=a.symm;subst d))
   go_ret;exact⟨by rw[g.out.1];rfl,by rw[g.out.2];exact p,λH=>Keep.refl _ _ _⟩
def zCx (s:ByteArray)(i:Nat):Bool:=decide (s.size<=i)||(byt s i==124||byt s i==41)
theorem zG6 (w:World)(b:Nat)(s:ByteArray)(dv:Value)(r:Rx)(d:RxAt w b s dv r)(l:s.size<=1048576)(m:r.at_<=2000000):
  Calls prog 194 #[pX b] w λe w'=>e=returned (bool (zCx s r.at_))/\∀H c,Keep H c w w':=by
 obtain⟨c0,-,c2,-,-,-⟩:=d.cells;by_cases f:s.size<=r.at_
 ·have a:Hid (zCx s r.at_=true):=by show _=_;unfold zCx;rw[gG f];rfl
  have o:(r.at_:Int)>=(s.size:Int):=by omega
  go_in;go_wp2;go_quiet (fail);go_wp2;go_ret;exact⟨by rw[a.out];rfl,λH c=>Keep.alike (w':=w.drewN nq) ⟨rfl,rfl,rfl⟩⟩
 ·have a:Hid (zCx s r.at_=(byt s r.at_==124||byt s r.at_==41)):=by show _=_;unfold zCx;rw[gJ f];rfl
  have o:(r.at_:Int)<(s.size:Int):=by omega
  have g:Hid (∀nq,Ca 200 #[pX b,zX] (w.drewN nq) λe w'=>e=returned (int .u8 (byt s r.at_:Nat))/\w'=w.drewN nq):=λnq=>vC (w.drewN nq) b s dv r (RxAt.of_block d rfl) l m 0 (by omega);generalize byt s r.at_=c at *;by_cases j:c=124
  ·subst j
   go_in;go_wp2;go_quiet (fail);go_wp2_with (go_at_call 200;refine(g _).mono ?_;rintro e p ⟨rfl,q⟩)
   go_ret;exact⟨by rw[a.out];rfl,λH c=>Keep.alike (w':=w.drewN nq) ⟨rfl,rfl,rfl⟩⟩
  ·have v:((c:Int)==124)=false:=by rw[hX];omega
   have t:(c==124)=false:=by rw[hX];exact j
   have u:Hid (zCx s r.at_=((c:Int)==41)):=by
    show _=_;rw[a.out,t,Bool.false_or];by_cases k:c=41
    ·rw[k];rfl
    ·rw[show (c==41)=false by rw[hX];exact k,show((c:Int)==41)=false by rw[hX];omega]
   go_in;go_wp2;go_quiet (fail);go_wp2_with (go_at_call 200;refine(g _).mono ?_;rintro e p ⟨rfl,q⟩)
   go_ret;exact⟨by rw[u.out];rfl,λH c=>Keep.alike (w':=w.drewN nq) ⟨rfl,rfl,rfl⟩⟩
def zBq (s:ByteArray)(i:Nat):Nat->Nat
 |0=>0
 |j+1=>zBq s i j*16+(zAe (byt s (i+j))).toNat
def qA (s:ByteArray)(i most:Nat):Nat:=(List.range most).findIdx λj=>decide (zAe (byt s (i+j))<0)
theorem zMm (c:Nat):zAe c<16/\ -1<=zAe c:=by
 unfold zAe;by_cases a:xT c=true
 ·have b:48<=c/\c<=57:=by unfold xT at a;simpa using a
  rw[if_pos a];omega
 ·rw[if_neg a]
  split <;> omega
theorem zMk (s:ByteArray)(i j:Nat):zBq s i j<16^j:=by
 induction j with
 |zero=>exact Nat.one_pos
 |succ j a=>
  have:=(zMm (byt s (i+j))).1;show zBq s i j*16+(zAe (byt s (i+j))).toNat<16^(j+1);rw[Nat.pow_succ];omega
theorem zPr (s:ByteArray)(i most j:Nat)(a:j<most)(b:zAe (byt s (i+j))<0)(c:∀k,k<j->0<=zAe (byt s (i+k))):qA s i most=j:=
 zEr _ _ j (by rw[List.length_range];exact a) (by rw[vN _ _ a];exact gG b) λk d=>by rw[vN _ _ (by omega)];exact gJ (by have:=c k d;omega)
theorem zOh (s:ByteArray)(i most:Nat)(c:∀k,k<most->0<=zAe (byt s (i+k))):qA s i most=most:=by
 have b:=zBV (List.range most) (λj=>decide (zAe (byt s (i+j))<0)) λk a=>by
  rw[List.length_range] at a;rw[vN _ _ a];exact gJ (by have:=c k a;omega)
 rw[List.length_range] at b;exact b
theorem zM6 (w:World)(b:Nat)(s:ByteArray)(dv:Value)(r:Rx)(l:RxAt w b s dv r)(B:s.size<=1048576)(aa:r.at_<=1900000)(most:Nat)(ab:most<=6):
  Calls prog 216 #[pX b,iX (most:Int)] w λe w'=>e=returned (tuple #[iX (zBq s r.at_ (qA s r.at_ most):Nat),iX (qA s r.at_ most:Nat)])/\RxAt w' b s dv {r with at_:=r.at_+qA s r.at_ most}/\∀H,Keep H b w w':=by
 have C:=vl l;have D:Hid (∀j,j<=most->zBq s r.at_ j<=16777216):=λj E=>Nat.le_of_lt (lZ (zMk s r.at_ j) (kG (by omega) (by omega:j<=6)));have F:Hid (∀j,j<most->zAe (byt s (r.at_+j))<0->(∀k,k<j->0<=zAe (byt s (r.at_+k)))->qA s r.at_ most=j):=λj=>zPr s r.at_ most j;have G:=vl <| zOh s r.at_ most;have I:Hid (∀j,zBq s r.at_ (j+1)=zBq s r.at_ j*16+(zAe (byt s (r.at_+j))).toNat):=λj=>rfl;have J:Hid (zBq s r.at_ 0=0):=rfl;generalize ac:zBq s r.at_=o at *;go_in;go_wp2;go_loopg [6,7] most (λq n i wr=>∃j:Nat,q=most-j/\j<=most/\n=iX (o j:Int)/\i=iX (j:Int)/\(∀k,k<j->0<=zAe (byt s (r.at_+k)))/\RxAt wr b s dv {r with at_:=r.at_+j}/\∀H,Keep H b w wr)
 case atStart=>exact⟨0,rfl,lX,by rw[J.out];rfl,rfl,λk v=>by omega,C,λH=>Keep.refl _ _ _⟩
 case round=>
  obtain⟨j,K,E,rfl,rfl,x,p,L⟩:=hrel;have a:Hid (gk=most-j/\(∀k,k<j->0<=zAe (byt s (r.at_+k)))/\RxAt wr b s dv {r with at_:=r.at_+j}/\∀H,Keep H b w wr):=⟨K,x,p,L⟩
  by_cases M:j<most
  ·have N:(j:Int)<(most:Int):=by omega
   have O:=vC wr b s dv {r with at_:=r.at_+j} p B (by show r.at_+j<=2000000;omega) 0 (by omega);have y:=vl O;have z:Hid (∀w2,Ca 220 #[int .u8 (byt s (r.at_+j):Nat)] w2 λe w'=>e=returned (iX (zAe (byt s (r.at_+j))))/\w'=w2):=λw2=>zGC w2 _ (yQ s _);obtain⟨-,-,c2,-,-,P⟩:=p.cells;have R:=c2;have ad:=P 2;have ae:=zMm (byt s (r.at_+j));have S:Hid (zAe (byt s (r.at_+j))<0->qA s r.at_ most=j):=λl=>F j M l a.2.1;have T:Hid (0<=zAe (byt s (r.at_+j))->∀k,k<j+1->0<=zAe (byt s (r.at_+k))):=λl k v=>by
    by_cases e:k=j
    ·rw[e];exact l
    ·exact a.2.1 k (by omega)
   have U:=vl <| I j;have af:=D j (by omega);have A:=vl <| p.setAt (r.at_+(j+1));generalize zAe (byt s (r.at_+j))=t at *;generalize byt s (r.at_+j)=c at *;by_cases V:t<0
   ·have m:=vl <| S V
    go_wp2_with (first|(go_at_call 200;refine y.mono ?_;rintro e u ⟨rfl,f⟩;have g:=f.symm;subst g)|(go_at_call 220;refine(z _).mono ?_;rintro e u ⟨rfl,f⟩;have g:=f.symm;subst g))
    refine gU (results_tmp2 rfl _ _ _) rfl ?_;exact⟨by rw[m.out];rfl,by rw[m.out];exact a.2.2.1,a.2.2.2⟩
   ·have W:=vl <| T (by omega)
    have ag:0<=t:=by omega
    have X:Hid ((o (j+1):Int)=(o j:Int)*16+t):=by show _=_;rw[U.out];omega
    have ah:wr.cell? ⟨b,2,none⟩=some (iX ((r.at_:Int)+(j:Int))):=by rw[R];congr 2
    have Y:Hid (((r.at_+(j+1):Nat):Int)=(r.at_:Int)+(j:Int)+1):=by show _=_;omega
    rw[Y.out] at A;generalize o j=ai at *;go_wp2_with (first|(go_at_call 200;refine y.mono ?_;rintro e u ⟨rfl,f⟩;have g:=f.symm;subst g)|(go_at_call 220;refine(z _).mono ?_;rintro e u ⟨rfl,f⟩;have g:=f.symm;subst g))
    go_roundg (most-(j+1))
    case measure=>rw[a.out.1];omega
    case rel=>exact⟨j+1,rfl,by omega,by rw[X.out],by go_num,W,A,λH=>(a.2.2.2 H).trans (Keep.set _ _ _)⟩
  ·have N:(most:Int)<=(j:Int):=by omega
   have e:j=most:=by omega
   have m:=vl <| G λk v=>x k (by omega);subst e;go_wp2;refine gU (results_tmp2 rfl _ _ _) rfl ?_;exact⟨by rw[m.out];rfl,by rw[m.out];exact a.2.2.1,a.2.2.2⟩
def zBw (s:ByteArray)(i:Nat):Bool:=byt s i==42||byt s i==43||byt s i==63||(byt s i==123&&xT (byt s (i+1)))
theorem zE2 (w:World)(b:Nat)(s:ByteArray)(dv:Value)(r:Rx)(l:RxAt w b s dv r)(m:s.size<=1048576)(o:r.at_<=2000000):
  Calls prog 197 #[pX b] w λe w'=>e=returned (bool (zBw s r.at_))/\w'=w:=by
 have g:=vl <| vC w b s dv r l m o 0 (by omega);have v:=vl <| vC w b s dv r l m o 1 (by omega);have x:Hid (∀w2,Ca 206 #[int .u8 (byt s (r.at_+1):Nat)] w2 λe w'=>e=returned (bool (xT (byt s (r.at_+1))))/\w'=w2):=λw2=>zAK w2 _;have j:Hid (zBw s r.at_=(byt s r.at_==42||byt s r.at_==43||byt s r.at_==63||(byt s r.at_==123&&xT (byt s (r.at_+1))))):=rfl;generalize xT (byt s (r.at_+1))=y at *;generalize byt s (r.at_+1)=c1 at *;generalize byt s r.at_=c at *;by_cases p:c=42
 ·subst p
  go_in;go_wp2_with (go_at_call 200;refine g.mono ?_;rintro e f ⟨rfl,a⟩;have d:=a.symm;subst d)
  go_ret;exact⟨by rw[j.out];rfl,rfl⟩
 by_cases q:c=43
 ·subst q
  go_in;go_wp2_with (go_at_call 200;refine g.mono ?_;rintro e f ⟨rfl,a⟩;have d:=a.symm;subst d)
  go_ret;exact⟨by rw[j.out];rfl,rfl⟩
 by_cases t:c=63
 ·subst t
  go_in;go_wp2_with (go_at_call 200;refine g.mono ?_;rintro e f ⟨rfl,a⟩;have d:=a.symm;subst d)
  go_ret;exact⟨by rw[j.out];rfl,rfl⟩
 by_cases u:c=123
 ·subst u
  have k:Hid (zBw s r.at_=y):=by show _=_;rw[j.out];rfl
  go_in;go_wp2_with (first|(go_at_call 200;first|(have m2:=z;refine v.mono ?_;rintro e f ⟨rfl,a⟩;have d:=a.symm;subst d)|(refine g.mono ?_;rintro e f ⟨rfl,a⟩;have d:=a.symm;subst d;have z:=trivial))|(go_at_call 206;refine(x _).mono ?_;rintro e f ⟨rfl,a⟩;have d:=a.symm;subst d))
  go_ret;exact⟨by rw[k.out];rfl,rfl⟩
 ·have k:Hid (zBw s r.at_=false):=by
   show _=_;rw[j.out,show(c==42)=false by rw[hX];exact p,show(c==43)=false by rw[hX];exact q,show(c==63)=false by rw[hX];exact t,show(c==123)=false by rw[hX];exact u];rfl
  have A:((c:Int)==42)=false:=by rw[hX];omega
  have B:((c:Int)==43)=false:=by rw[hX];omega
  have C:((c:Int)==63)=false:=by rw[hX];omega
  have D:((c:Int)==123)=false:=by rw[hX];omega
  go_in;go_wp2_with (go_at_call 200;refine g.mono ?_;rintro e f ⟨rfl,a⟩;have d:=a.symm;subst d)
  go_ret;exact⟨by rw[k.out];rfl,rfl⟩
def zJS (c:Int):Cs:=⟨[(c,c)],false⟩
def zQd:Cs:=⟨[(10,10)],true⟩
theorem zMV (w:World)(c:Int)(b:Nat)(a:w.heap[b]? =some (.cells #[iX c,iX c] 255)):RangesAt w (slice (qX b) 1 1) [(c,c)]:=by
 have d:=(kQ.1 a).1;refine⟨_,1,rfl,lQ,by unfold maxLen;omega,λi f=>?_⟩;have e:i=0:=by simp at f;omega
 subst e;refine⟨b,0,rfl,d,?_,?_⟩
 ·unfold cell?;rw[a];rfl
 ·unfold cell?;rw[a];rfl
theorem zES (w:World)(c:Int):
  Calls prog 210 #[iX c] w λe w'=>∃u,e=returned (agg #[u,bool false])/\(∃g,w.heap.size<=g/\u=slice (qX g) 1 1/\w'.heap[g]? =some (.cells #[iX c,iX c] 255))/\Grew w w':=by
 obtain⟨w2,d,f,h,j,k⟩:∃w2,w2=(w.alloc (Obj.cells #[slice (some ⟨w.heap.size+1,0,none⟩) 1 1,fX] 161)).alloc (Obj.cells #[iX c,iX c] 255)/\w2.cell? ⟨w.heap.size,0,none⟩=some (slice (some ⟨w.heap.size+1,0,none⟩) 1 1)/\w2.cell? ⟨w.heap.size,1,none⟩=some fX/\Hid (w2.heap[w.heap.size+1]? =some (.cells #[iX c,iX c] 255))/\Hid (Grew w w2):=by
  have s1:(w.alloc (Obj.cells #[slice (some ⟨w.heap.size+1,0,none⟩) 1 1,fX] 161)).heap.size=w.heap.size+1:=by simp
  have a:((w.alloc (Obj.cells #[slice (some ⟨w.heap.size+1,0,none⟩) 1 1,fX] 161)).alloc (Obj.cells #[iX c,iX c] 255)).heap[w.heap.size]? =some (Obj.cells #[slice (some ⟨w.heap.size+1,0,none⟩) 1 1,fX] 161):=(lG _ _ _ (by rw[s1];omega)).trans (gZ _ _);have b:=gZ (w.alloc (Obj.cells #[slice (some ⟨w.heap.size+1,0,none⟩) 1 1,fX] 161)) (Obj.cells #[iX c,iX c] 255);rw[s1] at b;refine⟨_,rfl,?_,?_,b,(kZ _ _ lQ).trans (kZ _ _ (by rw[s1];omega))⟩
  ·unfold cell?;rw[a];rfl
  ·unfold cell?;rw[a];rfl
 go_in;go_wp2;rw[<-d];refine gU (v:=agg #[slice (some ⟨w.heap.size+1,0,none⟩) 1 1,fX]) (by simp[results,results210,go_sem,f,h]) rfl ?_;exact⟨_,rfl,⟨_,by omega,rfl,j⟩,k⟩
theorem zNl (w:World):
  Calls prog 211 #[] w λe w'=>∃u,e=returned (agg #[u,bool true])/\(∃g,w.heap.size<=g/\u=slice (qX g) 1 1/\w'.heap[g]? =some (.cells #[iX 10,iX 10] 255))/\Grew w w':=by
 obtain⟨w2,c,d,f,h,j⟩:∃w2,w2=(w.alloc (Obj.cells #[slice (some ⟨w.heap.size+1,0,none⟩) 1 1,tX] 161)).alloc (Obj.cells #[iX 10,iX 10] 255)/\w2.cell? ⟨w.heap.size,0,none⟩=some (slice (some ⟨w.heap.size+1,0,none⟩) 1 1)/\w2.cell? ⟨w.heap.size,1,none⟩=some tX/\Hid (w2.heap[w.heap.size+1]? =some (.cells #[iX 10,iX 10] 255))/\Hid (Grew w w2):=by
  have s1:(w.alloc (Obj.cells #[slice (some ⟨w.heap.size+1,0,none⟩) 1 1,tX] 161)).heap.size=w.heap.size+1:=by simp
  have a:((w.alloc (Obj.cells #[slice (some ⟨w.heap.size+1,0,none⟩) 1 1,tX] 161)).alloc (Obj.cells #[iX 10,iX 10] 255)).heap[w.heap.size]? =some (Obj.cells #[slice (some ⟨w.heap.size+1,0,none⟩) 1 1,tX] 161):=(lG _ _ _ (by rw[s1];omega)).trans (gZ _ _);have b:=gZ (w.alloc (Obj.cells #[slice (some ⟨w.heap.size+1,0,none⟩) 1 1,tX] 161)) (Obj.cells #[iX 10,iX 10] 255);rw[s1] at b;refine⟨_,rfl,?_,?_,b,(kZ _ _ lQ).trans (kZ _ _ (by rw[s1];omega))⟩
  ·unfold cell?;rw[a];rfl
  ·unfold cell?;rw[a];rfl
 go_in;go_wp2;rw[<-c];refine gU (v:=agg #[slice (some ⟨w.heap.size+1,0,none⟩) 1 1,tX]) (by simp[results,results211,go_sem,d,f]) rfl ?_;exact⟨_,rfl,⟨_,by omega,rfl,h⟩,j⟩
def xZ (n:Nat):Nat:=if 24<n then 25 else n
theorem zDG (w:World)(n:Nat):Calls prog 195 #[iX (n:Int)] w λe w'=>e=returned (iX (xZ n:Int))/\w'=w:=by
 by_cases b:24<n
 ·have a:Hid (xZ n=25):=by show _=_;unfold xZ;rw[if_pos b]
  have c:(n:Int)>24:=by omega
  go_in;go_wp2;go_ret;exact⟨by rw[a.out];rfl,rfl⟩
 ·have a:Hid (xZ n=n):=by show _=_;unfold xZ;rw[if_neg b]
  have c:(n:Int)<=24:=by omega
  go_in;go_wp2;go_ret;exact⟨by rw[a.out];rfl,rfl⟩
section
variable {a w:World} {b:Nat} {s t:ByteArray} {dv:Value} {r:Rx}
theorem zJf (a:zK s r.at_ t=true):r.take s t={r with at_:=r.at_+t.size}:=by unfold Rx.take;rw[if_pos a]
theorem zL1 (a:zK s r.at_ t=false):r.take s t=r:=by unfold Rx.take;rw[if_neg (by rw[a];decide)]
theorem zPS (c:zK s r.at_ t=true)(f:RxAt w b s dv r)(g:∀H,Keep H b a w)(j:s.size<=1048576)(k:r.at_<=2000000)(l:t.size<=1000000):
  Calls prog 189 #[pX b,string t] w λe w'=>e=returned (bool true)/\RxAt w' b s dv {r with at_:=r.at_+t.size}/\∀H,Keep H b a w':=by
 refine(zAn w b s dv r f j k t l).mono ?_;rintro e w' ⟨rfl,d,m⟩;rw[zJf c] at d;exact⟨by rw[c],d,λH=>(g H).trans (m H)⟩
theorem zPT (c:zK s r.at_ t=false)(f:RxAt w b s dv r)(g:∀H,Keep H b a w)(j:s.size<=1048576)(k:r.at_<=2000000)(l:t.size<=1000000):
  Calls prog 189 #[pX b,string t] w λe w'=>e=returned (bool false)/\RxAt w' b s dv r/\∀H,Keep H b a w':=by
 refine(zAn w b s dv r f j k t l).mono ?_;rintro e w' ⟨rfl,d,m⟩;rw[zL1 c] at d;exact⟨by rw[c],d,λH=>(g H).trans (m H)⟩
theorem zKM {x y:Nat}{v:Bool}{t:ByteArray}(a:zK s x t=v)(c:s.size<=1048576)(d:x<=2000000)(f:t.size<=1000000)(j:y=if v then x+t.size else x):Hid (∀w,RxAt w b s dv {r with at_:=x}->Calls prog 189 #[pX b,string t] w λe w'=>e=returned (bool v)/\RxAt w' b s dv {r with at_:=y}/\∀H,Keep H b w w'):=λw g=>by
 subst j;cases v with
 |true=>exact zPS (r:={r with at_:=x}) a g (λH=>Keep.refl _ _ _) c d f
 |false=>exact zPT (r:={r with at_:=x}) a g (λH=>Keep.refl _ _ _) c d f
theorem zAH {x y:Nat}{v:Bool}(t:ByteArray)(a:s.size<=1048576)(c:x<=2000000)(d:t.size<=1000000)(f:zK s x t=v)(g:y=if v then x+t.size else x)(j:RxAt w b s dv {r with at_:=x}):
  Calls prog 189 #[pX b,string t] w λe w'=>e=returned (bool v)/\RxAt w' b s dv {r with at_:=y}/\∀H,Keep H b w w':=(zKM f a c d g) w j
theorem zPQ {b x:Nat}{s:ByteArray}{c:UInt8}{dv:Value}{r:Rx}(d:zK s x ⟨#[c]⟩=true)(f:RxAt w b s dv {r with at_:=x})(g:∀H,Keep H b a w)(j:s.size<=1048576)(k:x<=2000000):
  Calls prog 189 #[pX b,string ⟨#[c]⟩] w λe w'=>e=returned (bool true)/\RxAt w' b s dv {r with at_:=x+1}/\∀H,Keep H b a w':=zPS (r:={r with at_:=x}) d f g j k (by show 1<=1000000;decide)
theorem zPR {b x:Nat}{s:ByteArray}{c:UInt8}{dv:Value}{r:Rx}(d:zK s x ⟨#[c]⟩=false)(f:RxAt w b s dv {r with at_:=x})(g:∀H,Keep H b a w)(j:s.size<=1048576)(k:x<=2000000):
  Calls prog 189 #[pX b,string ⟨#[c]⟩] w λe w'=>e=returned (bool false)/\RxAt w' b s dv {r with at_:=x}/\∀H,Keep H b a w':=zPT (r:={r with at_:=x}) d f g j k (by show 1<=1000000;decide)
theorem zFP (s:ByteArray)(p m:Nat):qA s p m<=m:=by
 have a:(List.range m).findIdx (λj=>decide (zAe (byt s (p+j))<0))<=(List.range m).length:=List.findIdx_le_length;rw[List.length_range] at a;exact a
theorem zPK (x m:Nat)(a:s.size<=1048576)(c:x<=1900000)(d:m<=6):Hid (∀w,RxAt w b s dv {r with at_:=x}->Calls prog 216 #[pX b,iX (m:Int)] w λe w'=>e=returned (tuple #[iX (zBq s x (qA s x m):Nat),iX (qA s x m:Nat)])/\RxAt w' b s dv {r with at_:=x+qA s x m}/\∀H,Keep H b w w'):=λw f=>zM6 w b s dv _ f a c m d
theorem zIh (a:s.size<=1048576)(c:r.at_<=2000000):Hid (∀w,RxAt w b s dv r->Calls prog 200 #[pX b,zX] w λe w'=>e=returned (int .u8 (byt s r.at_:Nat))/\w'=w):=λw d=>vC w b s dv r d a c 0 (by omega)
theorem zPV:Hid (∀w,RxAt w b s dv r->RxAt (w.setCell ⟨b,2,none⟩ (iX ((r.at_:Int)+1))) b s dv {r with at_:=r.at_+1}):=λw a=>a.setAt (r.at_+1)
theorem zOF (a:RxAt w b s dv r):∃c d,c.at_=r.at_+1/\d=w.setCell ⟨b,2,none⟩ (iX ((r.at_:Int)+1))/\RxAt d b s dv c/\(∀H,Keep H b w d)/\Hid (∀q:Nat,({c with at_:=q}:Rx)={r with at_:=q})/\w.cell? ⟨b,2,none⟩=some (iX (r.at_:Int))/\w.frozen? ⟨b,2,none⟩=false:=by
 have e:=a.setAt (r.at_+1);rw[show ((r.at_+1:Nat):Int)=(r.at_:Int)+1 by omega] at e;exact⟨_,_,rfl,rfl,e,λH=>Keep.set _ _ _,λq=>rfl,a.cells.2.2.1,a.cells.2.2.2.2.2 2⟩
structure Sg where
 num:Int
 ok:Bool
 at_:Nat
def zIH (s:ByteArray)(p:Nat):Sg:=⟨(zBq s p (qA s p 2):Nat),qA s p 2==2,p+qA s p 2⟩
def zHV (s:ByteArray)(p:Nat):Sg:=⟨(zBq s p (qA s p 6):Nat),zK s (p+qA s p 6) ⟨#[125]⟩&&decide (0<qA s p 6)&&zE3 (zBq s p (qA s p 6):Nat),if zK s (p+qA s p 6) ⟨#[125]⟩ then p+qA s p 6+1 else p+qA s p 6⟩
def zMr (c:Nat):Bool:=decide (c<33)||decide (126<c)||xT c||zDk c
def zBp (s:ByteArray)(p:Nat):Sg:=if zK s p ⟨#[110]⟩ then⟨10,true,p+1⟩ else if zK s p ⟨#[116]⟩ then⟨9,true,p+1⟩ else if zK s p ⟨#[120]⟩ then zIH s (p+1) else if zK s p ⟨#[117,123]⟩ then zHV s (p+2) else if zMr (byt s p) then⟨0,false,p⟩ else⟨(byt s p:Nat),true,p+1⟩
theorem zCj (w:World)(b:Nat)(s:ByteArray)(dv:Value)(r:Rx)(h:RxAt w b s dv r)(hs:s.size<=1048576)(ha:r.at_<=1800000):
  Calls prog 209 #[pX b] w λe w'=>e=returned (tuple #[iX (zBp s (r.at_+1)).num,bool (zBp s (r.at_+1)).ok])/\RxAt w' b s dv {r with at_:=(zBp s (r.at_+1)).at_}/\∀H,Keep H b w w':=by
 obtain⟨r1,w0,hat1,hw0,hR,hk,HFR,c2,cf2⟩:=zOF h;have ha1:r1.at_<=2000000:=by omega
 have ha2:r1.at_+8<=2000000:=by omega
 obtain⟨es,hes⟩:∃es,es=zBp s (r.at_+1):=⟨_,rfl⟩
 rw[<-hes];rw[<-hat1] at hes;unfold zBp zIH zHV zMr at hes;have HV:=vl hes;have HX2:=zPK (b:=b) (dv:=dv) (r:=r1) (r1.at_+1) 2 hs (by omega) (by omega);have HX6:=zPK (b:=b) (dv:=dv) (r:=r1) (r1.at_+2) 6 hs (by omega) (by omega);have hk6:=zFP s (r1.at_+2) 6;have HIS:=vl λw=>zGx w ((zBq s (r1.at_+2) (qA s (r1.at_+2) 6):Nat):Int);have HP:=zIh (b:=b) (dv:=dv) (r:=r1) hs ha1;have HS:=zPV (b:=b) (s:=s) (dv:=dv) (r:=r1);have hcl:=yQ s r1.at_;have HDG:=vl λw=>zAK w (byt s r1.at_);have HLT:=vl λw=>zGz w (byt s r1.at_);clear h hes hat1;generalize zE3 ((zBq s (r1.at_+2) (qA s (r1.at_+2) 6):Nat):Int)=ic at *;generalize zBq s (r1.at_+2) (qA s (r1.at_+2) 6)=n6 at *;generalize qA s (r1.at_+2) 6=k6 at *;generalize zBq s (r1.at_+1) (qA s (r1.at_+1) 2)=n2 at *;generalize qA s (r1.at_+1) 2=k2 at *;generalize byt s r1.at_=c at *;have HB:Hid (((k2:Int)==2)=(k2==2)):=by
  show _=_;by_cases e:k2=2
  ·rw[e];rfl
  ·rw[show (k2==2)=false by rw[hX];exact e,hX];omega
 go_in;apply wp_cut;intro K0 HK0;go_wp2;apply HK0.out;clear HK0;apply wp_cut;intro K0 HK0;go_wp2;apply HK0.out;clear HK0;rw[<-hw0];clear hw0 c2 cf2;rcases hn:zK s r1.at_ ⟨#[110]⟩ with _|_;rcases ht:zK s r1.at_ ⟨#[116]⟩ with _|_;rcases hx:zK s r1.at_ ⟨#[120]⟩ with _|_;rcases hu:zK s r1.at_ ⟨#[117,123]⟩ with _|_;rcases Nat.lt_or_ge c 33 with q1|q1;rotate_left;rcases Nat.lt_or_ge 126 c with q2|q2;rotate_left;rcases hdg:xT c with _|_;rcases hlt:zDk c with _|_;rotate_left 3;rcases hc:zK s (r1.at_+2+k6) ⟨#[125]⟩ with _|_;rotate_left;rcases Nat.lt_or_ge 0 k6 with q6|q6
 all_goals
  try rw[hn] at HV
  try rw[ht] at HV
  try rw[hx] at HV
  try rw[hu] at HV
  try rw[hc] at HV
  try rw[gG q6] at HV
  try rw[gJ (Nat.not_lt.2 q6)] at HV
  try rw[gG q1] at HV
  try rw[gJ (Nat.not_lt.2 q1)] at HV
  try rw[gG q2] at HV
  try rw[gJ (Nat.not_lt.2 q2)] at HV
  try rw[hdg] at HV HDG
  try rw[hlt] at HV HLT
  try clear hdg
  try clear hlt
  try have i6:(k6:Int)>0:=by omega
  try have i6:(k6:Int)<=0:=by omega
  try have i1:(c:Int)<33:=by omega
  try have i1:33<=(c:Int):=by omega
  try have i2:126<(c:Int):=by omega
  try have i2:(c:Int)<=126:=by omega
  go_wp2_with (first|(go_at_call 189;(first|refine(zPT (by assumption) hR hk hs (by first|exact ha1|(show r1.at_+2+k6<=2000000;omega)) (by decide)).mono ?_|refine(zPS (by assumption) hR hk hs (by first|exact ha1|(show r1.at_+2+k6<=2000000;omega)) (by decide)).mono ?_);rintro e v ⟨rfl,hR,hk⟩)|(go_at_call 216;(first|refine(HX2 v hR).mono ?_|refine(HX6 v hR).mono ?_);rintro e v ⟨rfl,hR,hk2⟩;replace hk:=λH=>(hk H).trans (hk2 H))|(go_at_call 200;refine(HP v hR).mono ?_;rintro e w9 ⟨rfl,hw9⟩;have hw8:=hw9.symm;subst hw8;obtain⟨-,-,c2,-,-,cf⟩:=hR.cells;have cf2:=cf 2;clear cf)|(go_at_call 191;refine(HIS _).mono ?_;rintro e w9 ⟨rfl,hw9⟩;have hw8:=hw9.symm;subst hw8)|(go_at_call 206;refine(HDG _).mono ?_;rintro e w9 ⟨rfl,hw9⟩;have hw8:=hw9.symm;subst hw8)|(go_at_call 217;refine(HLT _).mono ?_;rintro e w9 ⟨rfl,hw9⟩;have hw8:=hw9.symm;subst hw8))
  refine gU (results_tmp2 rfl _ _ _) rfl ?_
  first
  |exact⟨by rw[HV.out];rfl,by rw[HV.out,<-HFR.out];exact hR,λH=>hk H⟩
  |exact⟨by rw[HV.out,HB.out];rfl,by rw[HV.out,<-HFR.out];exact hR,λH=>hk H⟩
  |exact⟨by rw[HV.out];first|rfl|(simp;done),by rw[HV.out,<-HFR.out];exact HS _ hR,λH=>(hk H).trans (Keep.set _ _ _)⟩
end
def zFL (c:Nat):Bool:=c==91||c==93||c==94||c==45|| !isPrintedB c
def xS (s:ByteArray)(p:Nat):Sg:=if byt s p=92 then zBp s (p+1) else if zFL (byt s p) then⟨0,false,p⟩ else⟨(byt s p:Nat),true,p+1⟩
theorem zEa (w:World)(b:Nat)(s:ByteArray)(dv:Value)(r:Rx)(j:RxAt w b s dv r)(v:s.size<=1048576)(z:r.at_<=1800000):
  Calls prog 219 #[pX b] w λe w'=>e=returned (tuple #[iX (xS s r.at_).num,bool (xS s r.at_).ok])/\RxAt w' b s dv {r with at_:=(xS s r.at_).at_}/\∀H,Keep H b w w':=by
 obtain⟨-,-,c2,-,-,A⟩:=j.cells;have M:=A 2;have q:=vl j;have k:=vl <| vC w b s dv r j v (by omega) 0 (by omega);have B:=vl <| zCj w b s dv r j v z;have l:Hid (xS s r.at_=if byt s r.at_=92 then zBp s (r.at_+1) else if zFL (byt s r.at_) then⟨0,false,r.at_⟩ else⟨(byt s r.at_:Nat),true,r.at_+1⟩):=rfl;have N:=yQ s r.at_;generalize byt s r.at_=c at *;generalize zBp s (r.at_+1)=C at *;generalize xS s r.at_=m at *;by_cases t:c=92
 ·subst t
  have a:Hid (m=C):=by show _=_;rw[l.out,if_pos rfl]
  go_in;go_wp2_with (first|(go_at_call 200;refine k.mono ?_;rintro e g ⟨rfl,d⟩;have f:=d.symm;subst f)|(go_at_call 209;refine B.mono ?_;rintro e w2 ⟨rfl,D,E⟩))
  refine gU (results_tmp2 rfl _ _ _) rfl ?_;exact⟨by rw[a.out];rfl,by rw[a.out];exact D,E⟩
 by_cases F:c=91\/c=93\/c=94\/c=45
 ·rcases F with rfl|rfl|rfl|rfl
  all_goals
   have a:Hid (m=⟨0,false,r.at_⟩):=by show _=_;rw[l.out,if_neg (by decide),if_pos (by decide)]
   go_in;go_wp2_with (go_at_call 200;refine k.mono ?_;rintro e g ⟨rfl,d⟩;have f:=d.symm;subst f)
   refine gU (results_tmp2 rfl _ _ _) rfl ?_;exact⟨by rw[a.out];rfl,by rw[a.out];exact q,λH=>Keep.refl _ _ _⟩
 have G:c≠91:=by omega
 have I:c≠93:=by omega
 have J:c≠94:=by omega
 have K:c≠45:=by omega
 have o:Hid (∀w,Ca 218 #[int .u8 (c:Int)] w λe w'=>e=returned (bool (isPrintedB c))/\w'=w):=λw=>zCt w c;have x:Hid (zFL c= !isPrintedB c):=by
  show _=_;unfold zFL;rw[show (c==91)=false by rw[hX];exact G,show(c==93)=false by rw[hX];exact I,show(c==94)=false by rw[hX];exact J,show(c==45)=false by rw[hX];exact K];rfl
 have O:((c:Int)==92)=false:=by rw[hX];omega
 have P:((c:Int)==91)=false:=by rw[hX];omega
 have R:((c:Int)==93)=false:=by rw[hX];omega
 have S:((c:Int)==94)=false:=by rw[hX];omega
 have T:((c:Int)==45)=false:=by rw[hX];omega
 cases p:isPrintedB c with
 |false=>
  have a:Hid (m=⟨0,false,r.at_⟩):=by show _=_;rw[l.out,if_neg t,if_pos (by rw[x.out,p];rfl)]
  rw[p] at o;have u:=vl o;go_in;go_wp2_with (first|(go_at_call 200;refine k.mono ?_;rintro e g ⟨rfl,d⟩;have f:=d.symm;subst f)|(go_at_call 218;refine(u _).mono ?_;rintro e g ⟨rfl,d⟩;have f:=d.symm;subst f))
  refine gU (results_tmp2 rfl _ _ _) rfl ?_;exact⟨by rw[a.out];rfl,by rw[a.out];exact q,λH=>Keep.refl _ _ _⟩
 |true=>
  have a:Hid (m=⟨(c:Nat),true,r.at_+1⟩):=by show _=_;rw[l.out,if_neg t,if_neg (by rw[x.out,p];decide)]
  rw[p] at o;have u:=vl o;have L:Hid (RxAt (w.setCell ⟨b,2,none⟩ (iX ((r.at_:Int)+1))) b s dv {r with at_:=r.at_+1}):=by
   have y:=q.setAt (r.at_+1);rw[show ((r.at_+1:Nat):Int)=(r.at_:Int)+1 by omega] at y;exact y
  go_in;go_wp2_with (first|(go_at_call 200;refine k.mono ?_;rintro e g ⟨rfl,d⟩;have f:=d.symm;subst f)|(go_at_call 218;refine(u _).mono ?_;rintro e g ⟨rfl,d⟩;have f:=d.symm;subst f))
  refine gU (results_tmp2 rfl _ _ _) rfl ?_;exact⟨by rw[a.out];first|rfl|(simp;done),by rw[a.out];exact L,λH=>Keep.set _ _ _⟩
structure Mb where
 low:Int
 high:Int
 ok:Bool
 at_:Nat
def toM (a e:Sg):Mb:=⟨a.num,e.num,e.ok&&decide (a.num<=e.num),e.at_⟩
def yY (s:ByteArray)(p:Nat):Mb:=if(xS s p).ok&&zK s (xS s p).at_ ⟨#[45]⟩ then toM (xS s p) (xS s ((xS s p).at_+1)) else⟨(xS s p).num,(xS s p).num,(xS s p).ok,(xS s p).at_⟩
theorem zJF (a w:World)(b q:Nat)(s:ByteArray)(dv:Value)(r:Rx)(c d:Int)(p:a.heap.size=q)(j:RxAt w b s dv r)(l:b≠q)(e:∃x y,w.heap[q]? =some (.cells #[x,y] 255))(m:Keep a.heap.size b a w):
  ∃w2,w2=(w.setCell ⟨q,0,none⟩ (iX c)).setCell ⟨q,1,none⟩ (iX d)/\w2.cell? ⟨q,0,none⟩=some (iX c)/\w2.cell? ⟨q,1,none⟩=some (iX d)/\Hid (RxAt w2 b s dv r/\Keep a.heap.size b a w2):=by
 obtain⟨x,y,e⟩:=e;have f:((w.setCell ⟨q,0,none⟩ (iX c)).setCell ⟨q,1,none⟩ (iX d)).heap[q]? =some (.cells #[iX c,iX d] 255):=by
  simp[setCell,lU,e]
 have g:∀i,i≠q->((w.setCell ⟨q,0,none⟩ (iX c)).setCell ⟨q,1,none⟩ (iX d)).heap[i]? =w.heap[i]? :=λi o=>by
  simp[setCell,lU,Ne.symm o]
 refine⟨_,rfl,?_,?_,RxAt.of_block j (g b l),m.trans ⟨rfl,rfl,by simp[World.setCell],λk t _=>g k (by omega)⟩⟩
 ·unfold cell?;rw[f];rfl
 ·unfold cell?;rw[f];rfl
theorem zGO {w:World}{q:Nat}(a:∃x y,w.heap[q]? =some (.cells #[x,y] 255)):(∀i,w.frozen? ⟨q,i,none⟩=false)/\∃x y,w.cell? ⟨q,0,none⟩=some x/\w.cell? ⟨q,1,none⟩=some y:=by
 obtain⟨x,y,a⟩:=a;refine⟨λi=>?_,x,y,?_,?_⟩
 all_goals first|(unfold cell?;rw[a];rfl)|(unfold frozen?;rw[a];simp)
theorem zIt (w:World)(b:Nat)(s:ByteArray)(dv:Value)(r:Rx)(t:RxAt w b s dv r)(o:s.size<=1048576)(R:r.at_<=1700000)(S:(xS s r.at_).at_<=1700000):
  Calls prog 215 #[pX b] w λe w'=>e=returned (tuple #[agg #[iX (yY s r.at_).low,iX (yY s r.at_).high],bool (yY s r.at_).ok])/\RxAt w' b s dv {r with at_:=(yY s r.at_).at_}/\Keep w.heap.size b w w':=by
 obtain⟨g,z,I,A,J⟩:∃g,g=w.alloc (.cells #[zX,zX] 255)/\RxAt g b s dv r/\g.heap[w.heap.size]? =some (.cells #[zX,zX] 255)/\Hid (Keep w.heap.size b w g):=⟨_,rfl,RxAt.of_block t (lG _ _ _ t.lt),gZ _ _,kZ _ _ lQ⟩
 have B:b≠w.heap.size:=kJ t.lt;have K:w.heap.size<g.heap.size:=(kQ.1 A).1;have C:Hid (∀c,(∀H,Keep H b g c)->∃x y,c.heap[w.heap.size]? =some (.cells #[x,y] 255)):=λc d=>⟨_,_,((d g.heap.size).block _ K (Ne.symm B)).trans A⟩
 have D:=vl <| zEa g b s dv r I o (by omega);have E:=vl λ(w2:World) (h9:RxAt w2 b s dv {r with at_:=(xS s r.at_).at_+1})=>zEa w2 b s dv {r with at_:=(xS s r.at_).at_+1} h9 o (by show(xS s r.at_).at_+1<=1800000;omega);have a:Hid (yY s r.at_=if(xS s r.at_).ok&&zK s (xS s r.at_).at_ ⟨#[45]⟩ then toM (xS s r.at_) (xS s ((xS s r.at_).at_+1)) else⟨(xS s r.at_).num,(xS s r.at_).num,(xS s r.at_).ok,(xS s r.at_).at_⟩):=rfl;have p:=vl λ(c:World) (r9:Rx) (lo hi:Int) (h9:RxAt c b s dv r9) (hk9:∀H,Keep H b g c)=>zJF w c b w.heap.size s dv r9 lo hi rfl h9 B (C c hk9) (J.trans (hk9 _));go_in;apply wp_cut;intro T L;go_wp2;apply L.out;rw[<-z];clear z;generalize yY s r.at_=U at *;generalize xS s ((xS s r.at_).at_+1)=s2 at *;generalize xS s r.at_=s1 at *;rcases F:s1.ok with _|_;rotate_left;rcases M:zK s s1.at_ ⟨#[45]⟩ with _|_;rotate_left;rcases G:s2.ok with _|_;rotate_left;rcases q:decide (s1.num<=s2.num) with _|_
 all_goals
  rw[F] at D a;clear F
  try rw[M] at a
  try unfold toM at a
  try rw[G] at E a
  try clear G
  try have N:=of_decide_eq_true q
  try have N:s2.num<s1.num:=by have:=of_decide_eq_false q;omega
  try rw[q] at a
  try clear q
  go_wp2_with (((first|(go_at_call 219;first|(have m2:=O;refine(E v j).mono ?_;rintro e v ⟨rfl,j,P⟩;replace d:=λH=>(d H).trans (P H))|(refine D.mono ?_;rintro e v ⟨rfl,j,d⟩;have O:=trivial))|(go_at_call 189;(first|refine(zPR (by assumption) j d o (by omega)).mono ?_|refine(zPQ (by assumption) j d o (by omega)).mono ?_);rintro e v ⟨rfl,j,d⟩)));have ⟨u,V,W,X,Y⟩:=zGO (C v d);have aa:=u 0;have ab:=u 1;clear u)
  first
  |(have ⟨c,m,k,l,f⟩:=p v _ s1.num s1.num j d;rw[<-m];refine gU (v:=tuple #[agg #[iX s1.num,iX s1.num],fX]) (by simp[results,results215,go_sem,k,l];done) rfl ?_;exact⟨by rw[a.out];rfl,by rw[a.out];exact f.1,f.2⟩)
  |(have ⟨c,m,k,l,f⟩:=p v _ s1.num s1.num j d;rw[<-m];refine gU (v:=tuple #[agg #[iX s1.num,iX s1.num],tX]) (by simp[results,results215,go_sem,k,l];done) rfl ?_;exact⟨by rw[a.out];rfl,by rw[a.out];exact f.1,f.2⟩)
  |(have ⟨c,m,k,l,f⟩:=p v _ s1.num s2.num j d;rw[<-m];refine gU (v:=tuple #[agg #[iX s1.num,iX s2.num],fX]) (by first|(simp [results,results215,go_sem,k,l];done)|(simp [results,results215,go_sem,k,l];omega)) rfl ?_;exact⟨by rw[a.out];rfl,by rw[a.out];exact f.1,f.2⟩)
  |(have ⟨c,m,k,l,f⟩:=p v _ s1.num s2.num j d;rw[<-m];refine gU (v:=tuple #[agg #[iX s1.num,iX s2.num],tX]) (by first|(simp [results,results215,go_sem,k,l];done)|(simp [results,results215,go_sem,k,l];omega)) rfl ?_;exact⟨by rw[a.out];rfl,by rw[a.out];exact f.1,f.2⟩)
section
attribute [local go_sem ↓] Go.wp_at_zero Go.wp_at_succ
structure Agree (X:Nat->Prop)(w w2:World):Prop where
 os:w2.os=w.os
 output:w2.output=w.output
 size:w.heap.size<=w2.heap.size
 block:∀i,i<w.heap.size->X i->w2.heap[i]? =w.heap[i]?
theorem Agree.refl (X:Nat->Prop)(w:World):Agree X w w:=⟨rfl,rfl,lQ,λ_ _ _=>rfl⟩
theorem Agree.trans {X:Nat->Prop}{w w2 c:World}(a:Agree X w w2)(k:Agree X w2 c):Agree X w c:=⟨k.os.trans a.os,k.output.trans a.output,lY a.size k.size,λi d e=>(k.block i (lZ d a.size) e).trans (a.block i d e)⟩
theorem Agree.mono {X c:Nat->Prop}{w w2:World}(a:Agree X w w2)(e:∀i,i<w.heap.size->c i->X i):Agree c w w2:=⟨a.os,a.output,a.size,λi d f=>a.block i d (e i d f)⟩
theorem Keep.agree {H b:Nat}{X:Nat->Prop}{w w2:World}(a:Keep H b w w2)(c:∀i,i<w.heap.size->X i->i<H/\i≠b):Agree X w w2:=⟨a.os,a.output,a.size,λi d e=>a.block i (c i d e).1 (c i d e).2⟩
def RangesIn (X:Nat->Prop)(w:World)(v:Value)(l:List (Int×Int)):Prop:=∀w2,Agree X w w2->RangesAt w2 v l
theorem RangesIn.at {X:Nat->Prop}{w:World}{v:Value}{l:List (Int×Int)}(a:RangesIn X w v l):RangesAt w v l:=a w (Agree.refl X w)
theorem RangesIn.go {X:Nat->Prop}{w w2:World}{v:Value}{l:List (Int×Int)}(c:RangesIn X w v l)(a:Agree X w w2):RangesIn X w2 v l:=λd e=>c d (a.trans e)
theorem RangesIn.mono {X a:Nat->Prop}{w:World}{v:Value}{l:List (Int×Int)}(c:RangesIn X w v l)(d:∀i,i<w.heap.size->X i->a i):RangesIn a w v l:=λe f=>c e (f.mono d)
theorem zIj {X:Nat->Prop}{w:World}{c:Int}{b:Nat}(d:w.heap[b]? =some (.cells #[iX c,iX c] 255))(e:X b):RangesIn X w (slice (qX b) 1 1) [(c,c)]:=λw2 a=>zMV w2 c b ((a.block b (kQ.1 d).1 e).trans d)
theorem zLb (X:Nat->Prop)(w:World):RangesIn X w nX []:=λw2 _=>⟨none,0,rfl,lQ,by unfold maxLen;omega,λi a=>absurd a (Nat.not_lt_zero _)⟩
def qQ (ps:List (Int×Int)):List Value:=ps.flatMap λp=>[int i64 p.1,int i64 p.2]
theorem zGj (a:List (Int×Int))(x y:Int):qQ (a++[(x,y)])=qQ a++[iX x,iX y]:=by simp[qQ]
theorem zDu (a:List (Int×Int))(i:Nat)(c:i<a.length):(qQ a)[i*2]? =some (iX (a.getD i (0,0)).1)/\(qQ a)[i*2+1]? =some (iX (a.getD i (0,0)).2):=by
 induction a generalizing i with
 |nil=>simp at c
 |cons p a d=>
  cases i with
  |zero=>exact⟨rfl,rfl⟩
  |succ i=>
   have:=d i (by simpa using c);have e:qQ (p::a)=iX p.1::iX p.2::qQ a:=rfl;rw[e,show(i+1)*2=i*2+1+1 by omega];exact this
structure Rw (w:World)(H p:Nat)(sv:Value)(l:List (Int×Int))(o:Bool):Prop where
 blk:w.heap[p]? =some (.cells #[sv,bool o] 161)
 own:w.ownsRow H 255 2 sv l.length (qQ l)
 pH:p<H
 lt:H<=w.heap.size
def zQs (w:World)(H p:Nat)(l:List (Int×Int))(o:Bool):Prop:=∃sv,Rw w H p sv l o
structure KeepO (p:Nat)(sv sv':Value)(w w':World):Prop where
 os:w'.os=w.os
 output:w'.output=w.output
 size:w.heap.size<=w'.heap.size
 block:∀k,k<w.heap.size->k≠p->some k≠sv.ownBlock->w'.heap[k]? =w.heap[k]? /\some k≠sv'.ownBlock
theorem KeepO.trans {p:Nat}{sv c d:Value}{w w2 e:World}(a:KeepO p sv c w w2)(k:KeepO p c d w2 e):KeepO p sv d w e:=⟨k.os.trans a.os,k.output.trans a.output,lY a.size k.size,λi f g j=>by
 have ⟨m,q⟩:=a.block i f g j;have ⟨r,b2⟩:=k.block i (lZ f a.size) g q;exact⟨r.trans m,b2⟩⟩
theorem KeepO.of_keep {p:Nat}{sv:Value}{w w2:World}(a:Grew w w2):KeepO p sv sv w w2:=⟨a.os,a.output,a.size,λk c _ d=>⟨a.block k c (kJ c),d⟩⟩
theorem KeepO.keep {p H e d n:Nat}{sv f:Value}{xs:List Value}{w w2:World}(a:KeepO p sv f w w2)(g:w.ownsRow H e d sv n xs)(j:H<=w.heap.size):Keep H p w w2:=⟨a.os,a.output,a.size,λk c m=>(a.block k (lZ c j) m λe=>absurd (g.lt k e.symm).1 (Nat.not_le_of_lt c)).1⟩
theorem zE5:(prog.info? 255).map (λi=>(i.zero,i.size,i.bytes))=some (some (agg #[zX,zX]),2,16):=by kernel_rfl
section
variable {w w2:World} {H p b:Nat} {sv:Value} {l:List (Int×Int)} {o:Bool}
theorem Rw.cells (a:Rw w H p sv l o):w.cell? ⟨p,0,none⟩=some sv/\w.cell? ⟨p,1,none⟩=some (bool o)/\∀i,w.frozen? ⟨p,i,none⟩=false:=by
 refine⟨?_,?_,λi=>?_⟩
 all_goals first|(unfold cell?;rw[a.blk];rfl)|(unfold frozen?;rw[a.blk];simp)
theorem Rw.keep (a:Rw w H p sv l o)(c:Keep w.heap.size b w w2)(k:b<H\/b=w.heap.size)(d:b≠p):Rw w2 H p sv l o:=by
 have e:=a.pH;have f:=a.lt;refine⟨(c.block p (by omega) (Ne.symm d)).trans a.blk,zD a.own λg m j _=>c.block g j (by omega),e,lY f c.size⟩
theorem Rw.in (d:Rw w H p sv l o):RangesIn (λi=>H<=i) w sv l:=λr a=>by
 rcases d.own.2 with⟨c,k⟩|⟨g,cap,s,c,t,u,m,q,v,x⟩
 ·exact⟨none,0,by rw[c,k],by omega,by unfold maxLen;omega,λi e=>by omega⟩
 ·have f:=d.own.lt g (by rw[c];rfl)
  have j:=a.block g f.2 f.1;refine⟨some ⟨g,0,none⟩,cap,c,m,q,λi e=>⟨g,0,rfl,lZ f.2 a.size,?_,?_⟩⟩
  ·have:=d.own.cells (g:=g) (by rw[c];rfl) (i*2) _ (zDu l i e).1
   rw[Addr.add_lit] at this;rw[Nat.zero_add] at this ⊢;exact(gY j).trans this
  ·have:=d.own.cells (g:=g) (by rw[c];rfl) (i*2+1) _ (zDu l i e).2
   rw[Addr.add_lit] at this;rw[Nat.zero_add] at this ⊢;exact(gY j).trans this
theorem Rw.app {r:Obj}{g cap m:Nat}{x y:Int}(c:Rw w H p sv l o)(s:m=l.length)(t:w2.ownsRow H 255 2 (slice (qX g) (m+1) cap) (m+1) (qQ l++[iX x,iX y]))(a:(w.alloc r).grownBy w2 sv.ownBlock)(u:sv.ownBlock=some g\/w.heap.size<=g):
  Rw (w2.setCell ⟨p,0,none⟩ (slice (qX g) (m+1) cap)) H p (slice (qX g) (m+1) cap) (l++[(x,y)]) o/\KeepO p sv (slice (qX g) (m+1) cap) w (w2.setCell ⟨p,0,none⟩ (slice (qX g) (m+1) cap)):=by
 subst s;have d:=c.pH;have E:=c.lt;have v:∀j,j<H->w2.heap[j]? =w.heap[j]? :=λj F=>(a.block j (by simp;omega) λe=>by have:=(c.own.lt j e.symm).1;omega).trans (lG _ _ _ (by omega));have z:=(v p d).trans c.blk;have A:w.heap.size<=w2.heap.size:=lY (by simp) a.size;refine⟨⟨?_,?_,d,by rw[zC];omega⟩,⟨a.os,a.output,by rw[zC];exact A,λk B C f=>⟨(lJ _ _ _ _ C).trans ((a.block k (by simp;omega) f).trans (lG _ _ _ B)),λe=>by
  have D:k=g:=by simpa[Value.ownBlock] using e
  rcases u with q|q
  ·exact f (by rw[q,D])
  ·omega⟩⟩⟩
 ·simp[setCell,lU,z]
 ·rw[zGj,show(l++[(x,y)]).length=l.length+1 by simp]
  exact xI t d
end
def qO (r:Int×Int)(first last far:Int):List (Int×Int):=if(if first<r.1 then r.1 else first)<=(if r.2<last then r.2 else last) then[((if first<r.1 then r.1 else first)+far,(if r.2<last then r.2 else last)+far)] else[]
theorem zC3 (w:World)(H p:Nat)(sv:Value)(l:List (Int×Int))(o:Bool)(P:Rw w H p sv l o)(ak:l.length<=1000000000)(c d first last a:Int)(al:0<=first/\first<=1000)(am:0<=last/\last<=1000)(an:-100<=a/\a<=100):
  Calls prog 213 #[pX p,agg #[iX c,iX d],iX first,iX last,iX a] w λe w'=>e=rX/\∃u,Rw w' H p u (l++qO (c,d) first last a) o/\KeepO p sv u w w':=by
 have ⟨R,S,T,U,V⟩:=info_parts zE5;obtain⟨w1,m,j,ao,ap,G⟩:∃w1,w1=w.alloc (.cells #[iX c,iX d] 255)/\Hid (Rw w1 H p sv l o)/\w1.cell? ⟨w.heap.size,0,none⟩=some (iX c)/\w1.cell? ⟨w.heap.size,1,none⟩=some (iX d)/\Hid (KeepO p sv sv w w1):=by
  have ah:=gZ w (.cells #[iX c,iX d] 255);have W:=P.lt;have aq:=P.pH;refine⟨_,rfl,P.keep (kZ (b:=w.heap.size) _ _ lQ) (.inr rfl) (by omega),?_,?_,KeepO.of_keep (kZ _ _ lQ)⟩
  ·unfold cell?;rw[ah];rfl
  ·unfold cell?;rw[ah];rfl
 clear P;obtain⟨C,A⟩:∃C,C=(if first<c then c else first):=⟨_,rfl⟩
 obtain⟨D,B⟩:∃D,D=(if d<last then d else last):=⟨_,rfl⟩
 have q:Hid (qO (c,d) first last a=if C<=D then[(C+a,D+a)] else[]):=by show _=_;unfold qO;rw[A,B]
 have ar:first<=C:=by rw[A];split <;> omega
 have au:D<=last:=by rw[B];split <;> omega
 obtain⟨X,-,ai⟩:=j.cells;have Y:=ai 0;have ⟨E,F,aj⟩:=zF j.own;subst aj;have aa:w1.ownsRow H 255 2 (slice E l.length F) l.length (qQ l):=j.own;have I:p<w1.heap.size:=lZ j.pH j.lt;have av:H<=w1.heap.size:=j.lt;have ab:=vl <| zO j.own j.blk (by decide);clear ai;rcases Int.lt_or_le first c with ac|ac <;> rcases Int.lt_or_le d last with ad|ad
 ·
  have J:c=C:=by rw[A];exact(if_pos ac).symm
  have K:d=D:=by rw[B];exact(if_pos ad).symm
  clear A B;subst J K;by_cases v:c<=d
  ·have r:Hid (qO (c,d) first last a=[(c+a,d+a)]):=by show _=_;rw[q.out,if_pos v]
   clear q;go_in;apply wp_cut;intro L g;go_wp2;apply g.out;clear g;rw[<-m];clear m;go_wp2_with (at_builtin;refine wpList_append_lies _ rfl _ _ 159 rfl (H) 255 R (agg #[zX,zX]) 2 16 underlying159 S T U V rfl (by decide) _ _ _ rfl (aa.alloc _) ⟨w1.heap.size,0,none⟩ 1 1 [iX (c+a),iX (d+a)] rfl rfl (news_of_block (cs:=#[iX (c+a),iX (d+a)]) (t:=255) (fr:=(0,0)) (gZ w1 _)) (by simp[Value.oneCell']) (by decide) (by unfold maxLen;omega) (by omega) (by simp;omega) _ rfl ?_;intro M cap w2 x s y W;have z:=s.block p (by simp;omega) ab;have ae:w2.cell? ⟨p,0,none⟩=some (slice E l.length F):=(gY z).trans ((gV _ _ _ I).trans X);have af:w2.frozen? ⟨p,0,none⟩=false:=(gW z).trans ((frozen?_alloc_past _ _ _ I).trans Y))
   obtain⟨k,N,O⟩:∃k,k=w2.setCell ⟨p,0,none⟩ (slice (qX M) (l.length+1) cap)/\Hid (∃u,Rw k H p u (l++qO (c,d) first last a) o/\KeepO p (slice E l.length F) u w k):=⟨_,rfl,_,by rw[r.out];exact(j.app rfl x s (by rcases y with f|f;exact .inl f;right;rw[f];simp)).1,G.trans (j.app rfl x s (by rcases y with f|f;exact .inl f;right;rw[f];simp)).2⟩
   rw[<-N];go_end0;exact⟨rfl,O⟩
  ·have ag:d<c:=by omega
   have r:Hid (qO (c,d) first last a=[]):=by show _=_;rw[q.out,if_neg v]
   clear q;go_in;apply wp_cut;intro L g;go_wp2;apply g.out;clear g;rw[<-m];clear m;go_wp2;go_end0;exact⟨rfl,_,by rw[r.out,dQ];exact j,G⟩
 ·
  have J:c=C:=by rw[A];exact(if_pos ac).symm
  have K:last=D:=by rw[B];exact(if_neg (by omega)).symm
  clear A B;subst J K;by_cases v:c<=last
  ·have r:Hid (qO (c,d) first last a=[(c+a,last+a)]):=by show _=_;rw[q.out,if_pos v]
   clear q;go_in;apply wp_cut;intro L g;go_wp2;apply g.out;clear g;rw[<-m];clear m;go_wp2_with (at_builtin;refine wpList_append_lies _ rfl _ _ 159 rfl (H) 255 R (agg #[zX,zX]) 2 16 underlying159 S T U V rfl (by decide) _ _ _ rfl (aa.alloc _) ⟨w1.heap.size,0,none⟩ 1 1 [iX (c+a),iX (last+a)] rfl rfl (news_of_block (cs:=#[iX (c+a),iX (last+a)]) (t:=255) (fr:=(0,0)) (gZ w1 _)) (by simp[Value.oneCell']) (by decide) (by unfold maxLen;omega) (by omega) (by simp;omega) _ rfl ?_;intro M cap w2 x s y W;have z:=s.block p (by simp;omega) ab;have ae:w2.cell? ⟨p,0,none⟩=some (slice E l.length F):=(gY z).trans ((gV _ _ _ I).trans X);have af:w2.frozen? ⟨p,0,none⟩=false:=(gW z).trans ((frozen?_alloc_past _ _ _ I).trans Y))
   obtain⟨k,N,O⟩:∃k,k=w2.setCell ⟨p,0,none⟩ (slice (qX M) (l.length+1) cap)/\Hid (∃u,Rw k H p u (l++qO (c,d) first last a) o/\KeepO p (slice E l.length F) u w k):=⟨_,rfl,_,by rw[r.out];exact(j.app rfl x s (by rcases y with f|f;exact .inl f;right;rw[f];simp)).1,G.trans (j.app rfl x s (by rcases y with f|f;exact .inl f;right;rw[f];simp)).2⟩
   rw[<-N];go_end0;exact⟨rfl,O⟩
  ·have ag:last<c:=by omega
   have r:Hid (qO (c,d) first last a=[]):=by show _=_;rw[q.out,if_neg v]
   clear q;go_in;apply wp_cut;intro L g;go_wp2;apply g.out;clear g;rw[<-m];clear m;go_wp2;go_end0;exact⟨rfl,_,by rw[r.out,dQ];exact j,G⟩
 ·
  have J:first=C:=by rw[A];exact(if_neg (by omega)).symm
  have K:d=D:=by rw[B];exact(if_pos ad).symm
  clear A B;subst J K;by_cases v:first<=d
  ·have r:Hid (qO (c,d) first last a=[(first+a,d+a)]):=by show _=_;rw[q.out,if_pos v]
   clear q;go_in;apply wp_cut;intro L g;go_wp2;apply g.out;clear g;rw[<-m];clear m;go_wp2_with (at_builtin;refine wpList_append_lies _ rfl _ _ 159 rfl (H) 255 R (agg #[zX,zX]) 2 16 underlying159 S T U V rfl (by decide) _ _ _ rfl (aa.alloc _) ⟨w1.heap.size,0,none⟩ 1 1 [iX (first+a),iX (d+a)] rfl rfl (news_of_block (cs:=#[iX (first+a),iX (d+a)]) (t:=255) (fr:=(0,0)) (gZ w1 _)) (by simp[Value.oneCell']) (by decide) (by unfold maxLen;omega) (by omega) (by simp;omega) _ rfl ?_;intro M cap w2 x s y W;have z:=s.block p (by simp;omega) ab;have ae:w2.cell? ⟨p,0,none⟩=some (slice E l.length F):=(gY z).trans ((gV _ _ _ I).trans X);have af:w2.frozen? ⟨p,0,none⟩=false:=(gW z).trans ((frozen?_alloc_past _ _ _ I).trans Y))
   obtain⟨k,N,O⟩:∃k,k=w2.setCell ⟨p,0,none⟩ (slice (qX M) (l.length+1) cap)/\Hid (∃u,Rw k H p u (l++qO (c,d) first last a) o/\KeepO p (slice E l.length F) u w k):=⟨_,rfl,_,by rw[r.out];exact(j.app rfl x s (by rcases y with f|f;exact .inl f;right;rw[f];simp)).1,G.trans (j.app rfl x s (by rcases y with f|f;exact .inl f;right;rw[f];simp)).2⟩
   rw[<-N];go_end0;exact⟨rfl,O⟩
  ·have ag:d<first:=by omega
   have r:Hid (qO (c,d) first last a=[]):=by show _=_;rw[q.out,if_neg v]
   clear q;go_in;apply wp_cut;intro L g;go_wp2;apply g.out;clear g;rw[<-m];clear m;go_wp2;go_end0;exact⟨rfl,_,by rw[r.out,dQ];exact j,G⟩
 ·
  have J:first=C:=by rw[A];exact(if_neg (by omega)).symm
  have K:last=D:=by rw[B];exact(if_neg (by omega)).symm
  clear A B;subst J K;by_cases v:first<=last
  ·have r:Hid (qO (c,d) first last a=[(first+a,last+a)]):=by show _=_;rw[q.out,if_pos v]
   clear q;go_in;apply wp_cut;intro L g;go_wp2;apply g.out;clear g;rw[<-m];clear m;go_wp2_with (at_builtin;refine wpList_append_lies _ rfl _ _ 159 rfl (H) 255 R (agg #[zX,zX]) 2 16 underlying159 S T U V rfl (by decide) _ _ _ rfl (aa.alloc _) ⟨w1.heap.size,0,none⟩ 1 1 [iX (first+a),iX (last+a)] rfl rfl (news_of_block (cs:=#[iX (first+a),iX (last+a)]) (t:=255) (fr:=(0,0)) (gZ w1 _)) (by simp[Value.oneCell']) (by decide) (by unfold maxLen;omega) (by omega) (by simp;omega) _ rfl ?_;intro M cap w2 x s y W;have z:=s.block p (by simp;omega) ab;have ae:w2.cell? ⟨p,0,none⟩=some (slice E l.length F):=(gY z).trans ((gV _ _ _ I).trans X);have af:w2.frozen? ⟨p,0,none⟩=false:=(gW z).trans ((frozen?_alloc_past _ _ _ I).trans Y))
   obtain⟨k,N,O⟩:∃k,k=w2.setCell ⟨p,0,none⟩ (slice (qX M) (l.length+1) cap)/\Hid (∃u,Rw k H p u (l++qO (c,d) first last a) o/\KeepO p (slice E l.length F) u w k):=⟨_,rfl,_,by rw[r.out];exact(j.app rfl x s (by rcases y with f|f;exact .inl f;right;rw[f];simp)).1,G.trans (j.app rfl x s (by rcases y with f|f;exact .inl f;right;rw[f];simp)).2⟩
   rw[<-N];go_end0;exact⟨rfl,O⟩
  ·have ag:last<first:=by omega
   have r:Hid (qO (c,d) first last a=[]):=by show _=_;rw[q.out,if_neg v]
   clear q;go_in;apply wp_cut;intro L g;go_wp2;apply g.out;clear g;rw[<-m];clear m;go_wp2;go_end0;exact⟨rfl,_,by rw[r.out,dQ];exact j,G⟩
end
def zKo (r:Int×Int):List (Int×Int):=r::(qO r 65 90 32++qO r 97 122 (-32))
def vA (l:List (Int×Int)):List (Int×Int):=l.flatMap zKo
theorem zEU (r:Int×Int)(a b c:Int):(qO r a b c).length<=1:=by
 have h:∀(p:Prop) [Decidable p] (x:Int×Int),(if p then[x] else[]).length<=1:=by intro p _ x;split <;> simp
 exact h _ _
theorem zHR (l:List (Int×Int)):(vA l).length<=3*l.length:=by
 induction l with
 |nil=>exact lX
 |cons r l a=>
  have b:=zEU r 65 90 32;have c:=zEU r 97 122 (-32);have e:vA (r::l)=zKo r++vA l:=rfl;rw[e,kX];unfold zKo;simp only[hY,kX];omega
theorem zLQ (l:List (Int×Int))(j:Nat)(a:j<l.length):vA (l.take (j+1))=((vA (l.take j)++[l.getD j (0,0)])++qO (l.getD j (0,0)) 65 90 32)++qO (l.getD j (0,0)) 97 122 (-32):=by
 have e:l.take (j+1)=l.take j++[l.getD j (0,0)]:=by rw[List.take_add_one,lV a,lW,lV a];rfl
 rw[e];unfold vA;rw[List.flatMap_append];simp[zKo]
theorem zFH (w:World)(u:Value)(l:List (Int×Int))(o:Bool)(aI:RangesAt w u l)(bg:l.length<=10000000):
  Calls prog 204 #[agg #[u,bool o]] w λe w'=>∃af,e=returned (agg #[af,bool o])/\RangesIn (λi=>w.heap.size<=i) w' af (vA l)/\Grew w w':=by
 have ⟨aJ,aK,aL,aM,aN⟩:=info_parts zE5;obtain⟨ao,cap,rfl,_,_,aO⟩:=aI;have aP:=vl aO;obtain⟨s,ah,aQ,I,J,aR,P⟩:∃s,s=((w.alloc (.cells #[slice ao l.length cap,bool o] 161)).alloc (.cells #[nX,fX] 161)).alloc (.cells #[nX,bool o] 161)/\Hid (Rw s (w.heap.size+3) (w.heap.size+1+1) nX [] o)/\s.cell? ⟨w.heap.size,0,none⟩=some (slice ao l.length cap)/\s.cell? ⟨w.heap.size,1,none⟩=some (bool o)/\Hid (s.heap[w.heap.size+1]? =some (.cells #[nX,fX] 161))/\Hid (Grew w s):=by
  have s1:(w.alloc (.cells #[slice ao l.length cap,bool o] 161)).heap.size=w.heap.size+1:=by simp
  have s2:((w.alloc (.cells #[slice ao l.length cap,bool o] 161)).alloc (.cells #[nX,fX] 161)).heap.size=w.heap.size+1+1:=by simp
  have aS:=gZ w (.cells #[slice ao l.length cap,bool o] 161);have b2:=gZ (w.alloc (.cells #[slice ao l.length cap,bool o] 161)) (.cells #[nX,fX] 161);rw[s1] at b2;have ai:=gZ ((w.alloc (.cells #[slice ao l.length cap,bool o] 161)).alloc (.cells #[nX,fX] 161)) (.cells #[nX,bool o] 161);rw[s2] at ai;have aj:=(lG ((w.alloc (.cells #[slice ao l.length cap,bool o] 161)).alloc (.cells #[nX,fX] 161)) (.cells #[nX,bool o] 161) w.heap.size (by rw[s2];omega)).trans ((lG _ _ _ (by rw[s1];omega)).trans aS);have aT:=(lG ((w.alloc (.cells #[slice ao l.length cap,bool o] 161)).alloc (.cells #[nX,fX] 161)) (.cells #[nX,bool o] 161) (w.heap.size+1) (by rw[s2];omega)).trans b2;refine⟨_,rfl,⟨ai,ownsRow_nil _ _ _ _,by omega,by simp⟩,?_,?_,aT,((kZ _ _ lQ).trans (kZ _ _ (by rw[s1];omega))).trans (kZ _ _ (by rw[s2];omega))⟩
  ·unfold cell?;rw[aj];rfl
  ·unfold cell?;rw[aj];rfl
 go_in;apply wp_cut;intro A c;go_wp2;apply c.out;apply wp_cut;intro A c;go_wp2;apply c.out;clear c;rw[<-ah];clear ah;go_wp2;clear I J;go_loopg [12] l.length (λq i wr=>∃j:Nat,q=l.length-j/\j<=l.length/\i=iX (j:Int)/\zQs wr (w.heap.size+3) (w.heap.size+1+1) (vA (l.take j)) o/\Keep (w.heap.size+3) (w.heap.size+1+1) s wr)
 case atStart=>exact⟨0,rfl,lX,rfl,⟨_,by rw[List.take_zero];exact aQ⟩,Keep.refl _ _ _⟩
 case round=>
  obtain⟨j,R,bh,rfl,⟨sv,B⟩,x⟩:=hrel;have z:Hid (gk=l.length-j/\Rw wr (w.heap.size+3) (w.heap.size+1+1) sv (vA (l.take j)) o/\Keep (w.heap.size+3) (w.heap.size+1+1) s wr):=⟨R,B,x⟩
  by_cases ak:j<l.length
  ·have aU:(j:Int)<(l.length:Int):=by omega
   obtain⟨b,bi,rfl,aV,al,am⟩:=aP j ak;have bj:=P.size;have aW:b<w.heap.size:=aV;have S:wr.heap[b]? =w.heap[b]? :=(x.block b (by omega) (by omega)).trans (P.block b aW (by omega));have I:=(gY S).trans al;have J:=(gY S).trans am;have aX:=vl <| zLQ l j ak;have bk:(vA (l.take j)).length<=30000000:=by
    have an:=zHR (l.take j);rw[List.length_take] at an;omega
   clear al am S R x B;generalize l.getD j (0,0)=r at *;generalize aY:vA (l.take j)=a at *;clear aY;obtain⟨d,f⟩:=r;simp only at I J;have ⟨g,m,T⟩:=zF z.2.1.own;subst T;obtain⟨p,ap,C,K,aZ,bl⟩:∃p,p=wr.alloc (.cells #[iX d,iX f] 255)/\Rw p (w.heap.size+3) (w.heap.size+1+1) (slice g a.length m) a o/\Hid (p.heap[wr.heap.size]? =some (.cells #[iX d,iX f] 255)/\some wr.heap.size≠(Value.slice g a.length m).ownBlock)/\Hid (Keep (w.heap.size+3) (w.heap.size+1+1) wr p)/\wr.heap.size+1<=p.heap.size:=by
    have U:=z.2.1.lt;refine⟨_,rfl,z.2.1.keep (kZ (b:=wr.heap.size) _ _ lQ) (.inr rfl) (by omega),⟨gZ _ _,λe=>by have:=(z.2.1.own.lt _ e.symm).2;omega⟩,kZ _ _ U,by simp⟩
   have bm:w.heap.size+3<=wr.heap.size:=z.2.1.lt;apply wp_cut;intro A c;go_wp2;apply c.out;clear c;apply wp_cut;intro A c;go_wp2;apply c.out;clear c;apply wp_cut;intro bn aq;refine wp_block ?_;apply wp_cut;intro A c;go_wp2;apply c.out;clear c;rw[<-ap];clear ap I J;obtain⟨ar,-,au⟩:=C.cells;have av:=au 0;have aw:p.ownsRow (w.heap.size+3) 255 2 (slice g a.length m) a.length (qQ a):=C.own;have V:w.heap.size+1+1<p.heap.size:=by omega
   have ax:=vl <| zO C.own C.blk (by decide);have c0:p.cell? ⟨wr.heap.size,0,none⟩=some (iX d):=by unfold cell?;rw[K.out.1];rfl
   have c1:p.cell? ⟨wr.heap.size,1,none⟩=some (iX f):=by unfold cell?;rw[K.out.1];rfl
   have W:=vl C;clear au C;apply wp_cut;intro A c;go_wp2_with (at_builtin;refine wpList_append_lies _ rfl _ _ 159 rfl (w.heap.size+3) 255 aJ (agg #[zX,zX]) 2 16 underlying159 aK aL aM aN rfl (by decide) _ _ _ rfl (aw.alloc _) ⟨p.heap.size,0,none⟩ 1 1 [iX d,iX f] rfl rfl (news_of_block (cs:=#[iX d,iX f]) (t:=255) (fr:=(0,0)) (gZ p _)) (by simp[Value.oneCell']) (by decide) (by unfold maxLen;omega) (by omega) (by simp;omega) _ rfl ?_;intro M cap w2 ay X az U;have Y:=X.block (w.heap.size+1+1) (by simp;omega) ax;have a0:w2.cell? ⟨w.heap.size+1+1,0,none⟩=some (slice g a.length m):=(gY Y).trans ((gV _ _ _ V).trans ar);have a1:w2.frozen? ⟨w.heap.size+1+1,0,none⟩=false:=(gW Y).trans ((frozen?_alloc_past _ _ _ V).trans av))
   apply c.out;clear c;obtain⟨y,aA,N⟩:∃y,y=w2.setCell ⟨w.heap.size+1+1,0,none⟩ (slice (qX M) (a.length+1) cap)/\Hid (Rw y (w.heap.size+3) (w.heap.size+1+1) (slice (qX M) (a.length+1) cap) (a++[(d,f)]) o/\KeepO (w.heap.size+1+1) (slice g a.length m) (slice (qX M) (a.length+1) cap) p y):=⟨_,rfl,W.app rfl ay X (by rcases az with aa|aa;exact .inl aa;right;rw[aa];simp)⟩
   rw[<-aA];clear aA ay X az U Y a0 a1 aw ax V;generalize (Value.slice (qX M) (a.length+1) cap)=ab at *;have ⟨D,O⟩:=N.2.block wr.heap.size (by omega) (by omega) K.2;have G:Hid (y.heap[wr.heap.size]? =some (.cells #[iX d,iX f] 255)/\some wr.heap.size≠ab.ownBlock):=⟨D.trans K.1,O⟩
   have a2:y.cell? ⟨wr.heap.size,0,none⟩=some (iX d):=by unfold cell?;rw[G.out.1];rfl
   have a3:y.cell? ⟨wr.heap.size,1,none⟩=some (iX f):=by unfold cell?;rw[G.out.1];rfl
   clear D O c0 c1 ar av;have a4:=vl <| zC3 y _ _ ab _ o N.1 (by simp;omega) d f 65 90 32 (by omega) (by omega) (by omega);apply wp_cut;intro A c;go_wp2_with (go_at_call 213;refine a4.mono ?_;rintro e H ⟨rfl,ac,ad,ae⟩)
   apply c.out;clear c;have bo:=N.2.size;have ⟨D,O⟩:=ae.block wr.heap.size (by omega) (by omega) G.2;have v0:H.cell? ⟨wr.heap.size,0,none⟩=some (iX d):=by unfold cell?;rw[D,G.out.1];rfl
   have v1:H.cell? ⟨wr.heap.size,1,none⟩=some (iX f):=by unfold cell?;rw[D,G.out.1];rfl
   have a5:Hid (Rw H (w.heap.size+3) (w.heap.size+1+1) ac ((a++[(d,f)])++qO (d,f) 65 90 32) o/\KeepO (w.heap.size+1+1) ab ac y H):=⟨ad,ae⟩
   have a6:=vl <| zC3 H _ _ ac _ o ad (by have:=zEU (d,f) 65 90 32;simp;omega) d f 97 122 (-32) (by omega) (by omega) (by omega);clear D O ad ae a2 a3;go_wp2_with (go_at_call 213;refine a6.mono ?_;rintro e aB ⟨rfl,a7,aC,aD⟩)
   apply aq.out;clear aq;have a8:Hid (zQs aB (w.heap.size+3) (w.heap.size+1+1) (vA (l.take (j+1))) o/\Keep (w.heap.size+3) (w.heap.size+1+1) s aB):=⟨⟨a7,by rw[aX.out];exact aC⟩,z.2.2.trans (aZ.trans (((N.2.trans a5.2).trans aD).keep W.own W.lt))⟩
   clear aC aD v0 v1;go_wp2;go_roundg (l.length-(j+1))
   case measure=>rw[z.out.1];omega
   case rel=>exact⟨j+1,rfl,by omega,by go_num,a8⟩
  ·have aU:(l.length:Int)<=(j:Int):=by omega
   have e:j=l.length:=by omega
   subst e;obtain⟨c0,c1,-⟩:=B.cells;have ⟨g,m,T⟩:=zF B.own;subst T;have aE:=vl B.in;have E:wr.heap[w.heap.size+1]? =some (.cells #[nX,fX] 161):=(x.block _ (by omega) (by omega)).trans aR;have bp:wr.cell? ⟨w.heap.size+1,0,none⟩=some nX:=by unfold cell?;rw[E];rfl
   have bq:wr.cell? ⟨w.heap.size+1,1,none⟩=some fX:=by unfold cell?;rw[E];rfl
   have br:wr.frozen? ⟨w.heap.size+1,0,none⟩=false:=by unfold frozen?;rw[E];rfl
   have bs:wr.frozen? ⟨w.heap.size+1,1,none⟩=false:=by unfold frozen?;rw[E];rfl
   have a9:Hid (vA (l.take l.length)=vA l):=by show _=_;rw[List.take_length]
   generalize vA (l.take l.length)=a at *;obtain⟨F,ba,bb,bc,aF⟩:∃F,F=(wr.setCell ⟨w.heap.size+1,0,none⟩ (slice g a.length m)).setCell ⟨w.heap.size+1,1,none⟩ (bool o)/\F.cell? ⟨w.heap.size+1,0,none⟩=some (slice g a.length m)/\F.cell? ⟨w.heap.size+1,1,none⟩=some (bool o)/\Hid (RangesIn (λi=>w.heap.size<=i) F (slice g a.length m) a/\Grew w F):=by
    have aG:((wr.setCell ⟨w.heap.size+1,0,none⟩ (slice g a.length m)).setCell ⟨w.heap.size+1,1,none⟩ (bool o)).heap[w.heap.size+1]? =some (.cells #[slice g a.length m,bool o] 161):=by
     simp[setCell,lU,E]
    have aH:∀i,i≠w.heap.size+1->((wr.setCell ⟨w.heap.size+1,0,none⟩ (slice g a.length m)).setCell ⟨w.heap.size+1,1,none⟩ (bool o)).heap[i]? =wr.heap[i]? :=λi bd=>by
     simp[setCell,lU,Ne.symm bd]
    refine⟨_,rfl,?_,?_,?_,?_⟩
    ·unfold cell?;rw[aG];rfl
    ·unfold cell?;rw[aG];rfl
    ·have be:Agree (λi=>w.heap.size+3<=i) wr ((wr.setCell ⟨w.heap.size+1,0,none⟩ (slice g a.length m)).setCell ⟨w.heap.size+1,1,none⟩ (bool o)):=⟨rfl,rfl,by simp[World.setCell],λi _ bf=>aH i (by omega)⟩
     exact(aE.go be).mono (λi _ bf=>by omega)
    ·exact(P.trans ⟨x.os,x.output,x.size,λk bt _=>x.block k (by omega) (by omega)⟩).trans ⟨rfl,rfl,by simp[World.setCell],λk an _=>aH k (by omega)⟩
   clear R B x E aE;go_wp2;rw[<-ba];refine gU (v:=agg #[slice g a.length m,bool o]) (by simp[results,results204,go_sem,bb,bc]) rfl ?_;exact⟨_,rfl,by rw[<-a9.out];exact aF.1,aF.2⟩
section
variable (s:ByteArray) (p:Nat)
theorem jA {s t:ByteArray}{i:Nat}(a:zK s i t=true):i+t.size<=s.size:=by
 unfold zK at a;rw[Bool.and_eq_true] at a;exact of_decide_eq_true a.1
theorem zC0 {s:ByteArray}{i:Nat}(b:byt s i≠0):i<s.size:=by
 rcases Nat.lt_or_ge i s.size with a|a
 ·exact a
 ·exact absurd (zIR s i a) b
theorem zM7:zAe 0<0:=by decide
theorem zMn (i most:Nat)(d:0<qA s i most):i+qA s i most<=s.size:=by
 obtain⟨k,f⟩:∃k,qA s i most=k+1:=⟨qA s i most-1,by omega⟩
 have g:=zFP s i most;have b:¬zAe (byt s (i+k))<0:=by
  have c:k<(List.range most).findIdx λj=>decide (zAe (byt s (i+j))<0):=by
   show k<qA s i most;omega
  have a:=List.not_of_lt_findIdx c;rw[List.getElem_range] at a;exact of_decide_eq_false a
 have l:=zC0 (λe=>b (by rw[e];exact zM7));omega
theorem zMl (p k:Nat)(a:k<=6):zBq s p k<=16777216:=Nat.le_of_lt (lZ (zMk s p k) (kG (by omega) (by omega:k<=6)))
theorem zPq:(zIH s p).at_<=p+2/\((zIH s p).ok=true->p<(zIH s p).at_/\(zIH s p).at_<=s.size)/\0<=(zIH s p).num/\(zIH s p).num<=16777216:=by
 have a:=zFP s p 2;have b:=zMn s p 2;have c:=zMl s p (qA s p 2) (by omega);unfold zIH;refine⟨by show p+qA s p 2<=p+2;omega,λe=>?_,by show(0:Int)<=(zBq s p (qA s p 2):Nat);omega,by show((zBq s p (qA s p 2):Nat):Int)<=16777216;omega⟩;have d:qA s p 2=2:=by simpa using e
 show p<p+qA s p 2/\p+qA s p 2<=s.size;omega
theorem zOS:(zHV s p).at_<=p+7/\((zHV s p).ok=true->p<(zHV s p).at_/\(zHV s p).at_<=s.size)/\0<=(zHV s p).num/\(zHV s p).num<=16777216:=by
 have c:=zFP s p 6;have d:=zMn s p 6;have f:=zMl s p (qA s p 6) c;unfold zHV;refine⟨?_,λe=>?_,by show(0:Int)<=(zBq s p (qA s p 6):Nat);omega,by show((zBq s p (qA s p 6):Nat):Int)<=16777216;omega⟩
 ·show(if zK s (p+qA s p 6) ⟨#[125]⟩ then p+qA s p 6+1 else p+qA s p 6)<=p+7
  split <;> omega
 ·have a:zK s (p+qA s p 6) ⟨#[125]⟩=true:=by
   have b:=e;rw[Bool.and_eq_true,Bool.and_eq_true] at b;exact b.1.1
  show p<(if zK s (p+qA s p 6) ⟨#[125]⟩ then p+qA s p 6+1 else p+qA s p 6)/\(if zK s (p+qA s p 6) ⟨#[125]⟩ then p+qA s p 6+1 else p+qA s p 6)<=s.size;rw[if_pos a];have:=jA a;have g:(⟨#[125]⟩:ByteArray).size=1:=rfl;omega
theorem zMo:(zBp s p).at_<=p+10/\((zBp s p).ok=true->p<(zBp s p).at_/\(zBp s p).at_<=s.size)/\0<=(zBp s p).num/\(zBp s p).num<=16777216:=by
 unfold zBp;split
 ·rename_i f
  have:=jA f;have j:(⟨#[110]⟩:ByteArray).size=1:=rfl;exact⟨by show p+1<=_;omega,λ_=>⟨by show p<p+1;omega,by show p+1<=_;omega⟩,by show(0:Int)<=10;omega,by show(10:Int)<=16777216;omega⟩
 split
 ·rename_i f
  have:=jA f;have j:(⟨#[116]⟩:ByteArray).size=1:=rfl;exact⟨by show p+1<=_;omega,λ_=>⟨by show p<p+1;omega,by show p+1<=_;omega⟩,by show(0:Int)<=9;omega,by show(9:Int)<=16777216;omega⟩
 split
 ·have ⟨a,b,c,g⟩:=zPq s (p+1)
  exact⟨by omega,λe=>by have:=b e;omega,c,g⟩
 split
 ·have ⟨a,b,c,g⟩:=zOS s (p+2)
  exact⟨by omega,λe=>by have:=b e;omega,c,g⟩
 have l:=yQ s p;split
 ·exact⟨by show p<=_;omega,λe=>(by cases e),by show(0:Int)<=0;omega,by show(0:Int)<=16777216;omega⟩
 ·rename_i f
  have k:byt s p≠0:=λe=>f (by rw[e];decide);have:=zC0 k;refine⟨by show p+1<=_;omega,λ_=>⟨by show p<p+1;omega,by show p+1<=_;omega⟩,?_,?_⟩
  ·show(0:Int)<=(byt s p:Nat);omega
  ·show((byt s p:Nat):Int)<=16777216;omega
theorem zGa:(xS s p).at_<=p+11/\((xS s p).ok=true->p<(xS s p).at_/\(xS s p).at_<=s.size)/\0<=(xS s p).num/\(xS s p).num<=16777216:=by
 unfold xS;split
 ·have ⟨a,b,c,f⟩:=zMo s (p+1)
  exact⟨by omega,λe=>by have:=b e;omega,c,f⟩
 have k:=yQ s p;split
 ·exact⟨by show p<=_;omega,λe=>(by cases e),by show(0:Int)<=0;omega,by show(0:Int)<=16777216;omega⟩
 ·rename_i g
  have j:byt s p≠0:=λe=>g (by rw[e];decide);have:=zC0 j;refine⟨by show p+1<=_;omega,λ_=>⟨by show p<p+1;omega,by show p+1<=_;omega⟩,?_,?_⟩
  ·show(0:Int)<=(byt s p:Nat);omega
  ·show((byt s p:Nat):Int)<=16777216;omega
theorem zMd:(yY s p).at_<=p+30/\((yY s p).ok=true->p<(yY s p).at_/\(yY s p).at_<=s.size)/\0<=(yY s p).low/\(yY s p).low<=16777216/\0<=(yY s p).high/\(yY s p).high<=16777216:=by
 have ⟨a,b,c,f⟩:=zGa s p;unfold yY;split
 ·rename_i g
  rw[Bool.and_eq_true] at g;have ⟨l,b2,c2,k⟩:=zGa s ((xS s p).at_+1);have m:=b g.1;refine⟨?_,λe=>?_,c,f,c2,k⟩
  ·show(xS s ((xS s p).at_+1)).at_<=p+30
   omega
  ·have j:((xS s ((xS s p).at_+1)).ok&&decide ((xS s p).num<=(xS s ((xS s p).at_+1)).num))=true:=e
   rw[Bool.and_eq_true] at j;have:=b2 j.1;show p<(xS s ((xS s p).at_+1)).at_/\(xS s ((xS s p).at_+1)).at_<=s.size;omega
 ·exact⟨by show(xS s p).at_<=p+30;omega,b,c,f,c,f⟩
def zBC (s:ByteArray):Nat->Nat->List (Int×Int)->Option (List (Int×Int)×Nat)
 |0,_,_=>none
 |f+1,p,l=>if(yY s p).ok then(if zK s (yY s p).at_ ⟨#[93]⟩ then some (l++[((yY s p).low,(yY s p).high)],(yY s p).at_+1) else zBC s f (yY s p).at_ (l++[((yY s p).low,(yY s p).high)])) else none
def zCZ (s:ByteArray)(p:Nat):Option (Cs×Nat):=(zBC s (s.size+1) (if zK s (p+1) ⟨#[94]⟩ then p+2 else p+1) []).map λg=>(⟨g.1,zK s (p+1) ⟨#[94]⟩⟩,g.2)
def zAX (w:World)(b:Nat)(s:ByteArray)(dv:Value)(r:Rx)(a:Option (Cs×Nat))(e:Ending)(w':World):Prop:=
 Keep w.heap.size b w w'/\match a with
 |none=>∃v n c o q,e=returned (tuple #[agg #[slice v n c,bool o],bool false])/\RxAt w' b s dv {r with at_:=q}
 |some (c,q)=>∃u,e=returned (tuple #[agg #[u,bool c.others],bool true])/\RangesIn (λi=>w.heap.size<=i) w' u c.ranges/\RxAt w' b s dv {r with at_:=q}
end
theorem zH0 (s t:ByteArray)(r:Rx):r.take s t={r with at_:=if zK s r.at_ t then r.at_+t.size else r.at_}:=by
 cases a:zK s r.at_ t with
 |true=>rw[zJf a];rfl
 |false=>rw[zL1 a];rfl
structure Cw (w w':World)(b:Nat)(s:ByteArray)(dv:Value)(r:Rx)(pos:Nat)(L:List (Int×Int))(o:Bool):Prop where
 set:zQs w' (w.heap.size+2) (w.heap.size+1) L o
 box:w'.heap[w.heap.size]? =some (.cells #[slice none 0 0,bool false] 161)
 rx:RxAt w' b s dv {r with at_:=pos}
 keep:Keep w.heap.size b w w'
theorem jK (w w2:World)(b:Nat)(s:ByteArray)(dv:Value)(r:Rx)(x y u:Value)(o:Bool)(q:b<w.heap.size)(f:w2.heap[w.heap.size]? =some (.cells #[x,y] 161))(g:RxAt w2 b s dv r)(j:Keep w.heap.size b w w2):
  ∃a,a=(w2.setCell ⟨w.heap.size,0,none⟩ u).setCell ⟨w.heap.size,1,none⟩ (bool o)/\a.cell? ⟨w.heap.size,0,none⟩=some u/\a.cell? ⟨w.heap.size,1,none⟩=some (bool o)/\Hid (RxAt a b s dv r/\Keep w.heap.size b w a/\∀l,RangesIn (λi=>w.heap.size<i) w2 u l->RangesIn (λi=>w.heap.size<=i) a u l):=by
 have e:((w2.setCell ⟨w.heap.size,0,none⟩ u).setCell ⟨w.heap.size,1,none⟩ (bool o)).heap[w.heap.size]? =some (.cells #[u,bool o] 161):=by
  simp[setCell,lU,f]
 have c:∀i,i≠w.heap.size->((w2.setCell ⟨w.heap.size,0,none⟩ u).setCell ⟨w.heap.size,1,none⟩ (bool o)).heap[i]? =w2.heap[i]? :=λi m=>by
  simp[setCell,lU,Ne.symm m]
 refine⟨_,rfl,?_,?_,RxAt.of_block g (c b (by omega)),j.trans ⟨rfl,rfl,by simp[World.setCell],λk t _=>c k (by omega)⟩,λl p=>RangesIn.mono (X:=λi=>w.heap.size<i) (p.go ⟨rfl,rfl,by simp[World.setCell],λi _ d=>c i (Nat.ne_of_gt d)⟩) (λi _ d=>Nat.le_of_lt d)⟩
 ·unfold cell?;rw[e];rfl
 ·unfold cell?;rw[e];rfl
theorem zKl (w:World)(b:Nat)(s:ByteArray)(dv:Value)(r:Rx)(d:RxAt w b s dv r):
  ∃a,a=(((w.alloc (.cells #[nX,bool false] 161)).setCell ⟨b,2,none⟩ (iX ((r.at_:Int)+1))).alloc (.cells #[nX,bool false] 161))/\Cw w a b s dv r (r.at_+1) [] false/\w.heap.size+2<=a.heap.size/\a.heap[w.heap.size+1]? =some (.cells #[nX,bool false] 161):=by
 have f:=d.lt;have s1:(w.alloc (.cells #[nX,fX] 161)).heap.size=w.heap.size+1:=by simp
 have g:=gZ w (.cells #[nX,fX] 161);have j:RxAt (w.alloc (.cells #[nX,fX] 161)) b s dv r:=RxAt.of_block d (lG _ _ _ f);have e:=j.setAt (r.at_+1);rw[show ((r.at_+1:Nat):Int)=(r.at_:Int)+1 by omega] at e;have k:Keep w.heap.size b w (w.alloc (.cells #[nX,fX] 161)):=kZ _ _ lQ;generalize (w.alloc (.cells #[nX,fX] 161))=w1 at *;have b2:(w1.setCell ⟨b,2,none⟩ (iX ((r.at_:Int)+1))).heap[w.heap.size]? =some (.cells #[nX,fX] 161):=(lJ _ _ _ _ (by show w.heap.size≠b;omega)).trans g;have s2:(w1.setCell ⟨b,2,none⟩ (iX ((r.at_:Int)+1))).heap.size=w.heap.size+1:=by rw[zC];exact s1
 have l:Keep w.heap.size b w (w1.setCell ⟨b,2,none⟩ (iX ((r.at_:Int)+1))):=k.trans (Keep.set _ _ _);generalize (w1.setCell ⟨b,2,none⟩ (iX ((r.at_:Int)+1)))=w2 at *;have c:=gZ w2 (.cells #[nX,fX] 161);rw[s2] at c;refine⟨_,rfl,⟨⟨nX,c,ownsRow_nil _ _ _ _,by omega,by simp;omega⟩,(lG _ _ _ (by omega)).trans b2,RxAt.of_block e (lG _ _ _ (by omega)),l.trans (kZ _ _ (by omega))⟩,by simp;omega,c⟩
theorem zFx (w:World)(b:Nat)(s:ByteArray)(dv:Value)(r:Rx)(ae:RxAt w b s dv r)(af:s.size<=1048576)(ag:r.at_<s.size):
  Calls prog 208 #[pX b] w (zAX w b s dv r (zCZ s r.at_)):=by
 have ah:=ae.lt;have ⟨bm,bn,bo,bp,bq⟩:=info_parts zE5;have ⟨V,aI,ar,br,aJ⟩:=zKl w b s dv r ae;have aK:=vl aJ;obtain⟨o,au⟩:∃o,o=zK s (r.at_+1) ⟨#[94]⟩:=⟨_,rfl⟩
 obtain⟨K,ai⟩:∃K,K=(if zK s (r.at_+1) ⟨#[94]⟩ then r.at_+2 else r.at_+1):=⟨_,rfl⟩
 have bs:K<=s.size:=by
  rw[ai];split
  ·rename_i e
   have:=jA e;have bR:(⟨#[94]⟩:ByteArray).size=1:=rfl;omega
  ·omega
 obtain⟨W,av⟩:∃W,W=zBC s (s.size+1) K []:=⟨_,rfl⟩
 have aL:Hid (zCZ s r.at_=W.map λg=>(⟨g.1,o⟩,g.2)):=by
  show _=_;unfold zCZ;rw[av,au,ai]
 have aM:Hid (Ca 189 #[pX b,string ⟨#[94]⟩] V λe w'=>e=returned (bool o)/\RxAt w' b s dv {r with at_:=K}/\∀H,Keep H b V w'):=by
  have:=zAn V b s dv {r with at_:=r.at_+1} ar.rx af (by show r.at_+1<=_;omega) ⟨#[94]⟩ (by decide);rw[zH0] at this;rw[ai,au];exact this
 have bt:=vl av;have aw:=vl ar;obtain⟨-,-,c2,-,-,aN⟩:=ae.cells;have aO:=aN 2;rw[aL.out];clear ai au av aN aL ae ar aJ;have E:=vl ah;have bu:(w.alloc (.cells #[nX,fX] 161)).cell? ⟨b,2,none⟩=some (iX (r.at_:Int)):=(gV _ _ _ ah).trans c2;have bv:(w.alloc (.cells #[nX,fX] 161)).frozen? ⟨b,2,none⟩=false:=(frozen?_alloc_past _ _ _ ah).trans aO;clear ah c2 aO;go_in;apply wp_cut;intro ax u;go_wp2;apply u.out;clear u;apply wp_cut;intro ax u;go_wp2;apply u.out;clear u;apply wp_cut;intro ax u;go_wp2;apply u.out;clear u;rw[<-aI];clear aI;apply wp_cut;intro ax u;go_wp2_with (go_at_call 189;refine aM.mono ?_;rintro e aj ⟨rfl,aP,ak⟩;have al:aj.heap[w.heap.size+1]? =some (.cells #[nX,fX] 161):=((ak V.heap.size).block _ (by omega) (by have:=E.out;omega)).trans aK;have bw:aj.cell? ⟨w.heap.size+1,1,none⟩=some fX:=(by unfold cell?;rw[al];rfl);have bx:aj.frozen? ⟨w.heap.size+1,1,none⟩=false:=(by unfold frozen?;rw[al];rfl);have aQ:=vl al;clear al)
 apply u.out;clear u;obtain⟨ay,aR,bz⟩:∃ay,ay=aj.setCell ⟨w.heap.size+1,1,none⟩ (bool o)/\Hid (Cw w ay b s dv r K [] o):=by
  have M:=E.out;have aS:=ak V.heap.size;have bA:=aQ.out;refine⟨_,rfl,⟨⟨nX,⟨by simp[setCell,lU,bA],ownsRow_nil _ _ _ _,by omega,by rw[zC];have:=aS.size;omega⟩⟩,(lJ _ _ _ _ (by show w.heap.size≠w.heap.size+1;omega)).trans ((aS.block _ (by omega) (by omega)).trans aw.box),RxAt.of_block aP (lJ _ _ _ _ (by show b≠w.heap.size+1;omega)),aw.keep.trans ((ak _).trans ⟨rfl,rfl,by rw[zC];omega,λk aT _=>lJ _ _ _ _ (by show k≠w.heap.size+1;omega)⟩)⟩⟩
 rw[<-aR];clear aR aP ak bx bw aw aM br bu bv aK aQ;refine wp_block ?_;go_loopg [6] (s.size+1) (λq v wr=>∃f c a,q=f/\c<=s.size/\s.size+1-c<=f/\zBC s f c a=W/\Cw w wr b s dv r c a o/\a.length<=c)
 case atStart=>exact⟨s.size+1,K,[],rfl,bs,by omega,bt.symm,bz,lX⟩
 case round=>
  obtain⟨f,c,a,aU,bS,bT,aV,am,bU⟩:=hrel;cases f with
  |zero=>omega
  |succ f=>
  have ⟨m1,m2,bB,bC,bD,bE⟩:=zMd s c;have aW:=vl <| zIt wr b s dv {r with at_:=c} am.rx af (by show c<=_;omega) (by show(xS s c).at_<=_;have:=(zGa s c).1;omega);have aX:(if (yY s c).ok then(if zK s (yY s c).at_ ⟨#[93]⟩ then some (a++[((yY s c).low,(yY s c).high)],(yY s c).at_+1) else zBC s f (yY s c).at_ (a++[((yY s c).low,(yY s c).high)])) else none)=W:=aV;clear aV;have ⟨sv,az⟩:=am.set;have ⟨P,R,bF⟩:=zF az.own;subst bF;have X:Hid (Cw w wr b s dv r c a o/\Rw wr (w.heap.size+2) (w.heap.size+1) (slice P a.length R) a o/\gk=f+1):=⟨am,az,aU⟩
  clear am az aU;generalize yY s c=m at *;obtain⟨B,x,ok,j⟩:=m;have bV:j<=c+30:=m1;have aY:=vl m2;have an:=vl aX;have aZ:=vl aW;clear m1 m2 bB bC bD bE aX aW;have a0:w.heap.size+2<=wr.heap.size:=X.2.1.lt;refine wp_block ?_;apply wp_cut;intro a1 F;go_wp2_with (go_at_call 215;refine aZ.mono ?_;rintro e I ⟨rfl,a2,ao⟩)
  apply F.out;clear F aZ;obtain⟨d,a3,N,aA,S,a4,ap,a5⟩:∃d,d=I.alloc (.cells #[iX B,iX x] 255)/\Rw d (w.heap.size+2) (w.heap.size+1) (slice P a.length R) a o/\Hid (d.heap[I.heap.size]? =some (.cells #[iX B,iX x] 255))/\Hid (Keep wr.heap.size b wr d)/\I.heap.size+1<=d.heap.size/\RxAt d b s dv {r with at_:=j}/\wr.heap.size<=I.heap.size:=by
   have M:=E.out;have a6:=ao.size;have bG:Rw I (w.heap.size+2) (w.heap.size+1) (slice P a.length R) a o:=X.2.1.keep ao (.inl (by omega)) (by omega);refine⟨_,rfl,bG.keep (kZ (b:=I.heap.size) _ _ lQ) (.inr rfl) (by omega),gZ _ _,ao.trans (kZ _ _ a6),by simp,RxAt.of_block a2 (lG _ _ _ (by omega)),a6⟩
  rw[<-a3];clear a3 a2 ao;have M:=E.out;have a7:d.heap[w.heap.size]? =some (.cells #[nX,fX] 161):=(S.block _ (by omega) (by omega)).trans X.1.box;have C:Hid (d.heap[w.heap.size]? =some (.cells #[nX,fX] 161)/\Keep w.heap.size b w d):=⟨a7,X.1.keep.trans ⟨S.os,S.output,S.size,λk aT bH=>S.block k (by omega) bH⟩⟩
  clear a7 M;cases ok with
  |false=>
   have a8:=vl an.symm;have ⟨y,Y,aa,ab,z⟩:=jK w d b s dv {r with at_:=j} _ _ nX false E C.1 ap C.2;have bI:d.cell? ⟨w.heap.size,0,none⟩=some nX:=by unfold cell?;rw[C.out.1];rfl
   have bJ:d.cell? ⟨w.heap.size,1,none⟩=some fX:=by unfold cell?;rw[C.out.1];rfl
   have bK:d.frozen? ⟨w.heap.size,0,none⟩=false:=by unfold frozen?;rw[C.out.1];rfl
   have bL:d.frozen? ⟨w.heap.size,1,none⟩=false:=by unfold frozen?;rw[C.out.1];rfl
   rw[a8.out];clear ap N a4 a5 a0 an a8;go_wp2;rw[<-Y];refine gU (v:=tuple #[agg #[nX,fX],fX]) (by simp[results,results208,go_sem,aa,ab]) rfl ?_;exact⟨z.2.1,none,0,0,false,j,rfl,z.1⟩
  |true=>
   have bM:=aY rfl;have T:=vl an;clear an aY;apply wp_cut;intro a1 F;go_wp2;apply F.out;clear F;obtain⟨a9,-,ba⟩:=N.cells;have bb:=ba 0;have bc:d.ownsRow (w.heap.size+2) 255 2 (slice P a.length R) a.length (qQ a):=N.own;have aB:w.heap.size+1<d.heap.size:=by omega
   have bd:=vl <| zO N.own N.blk (by decide);have c0:d.cell? ⟨I.heap.size,0,none⟩=some (iX B):=by unfold cell?;rw[aA.out];rfl
   have c1:d.cell? ⟨I.heap.size,1,none⟩=some (iX x):=by unfold cell?;rw[aA.out];rfl
   have aC:=vl N;have be:=vl ap;clear ba N ap;apply wp_cut;intro a1 F;go_wp2_with (at_builtin;refine wpList_append_lies _ rfl _ _ 159 rfl (w.heap.size+2) 255 bm (agg #[zX,zX]) 2 16 underlying159 bn bo bp bq rfl (by decide) _ _ _ rfl (bc.alloc _) ⟨d.heap.size,0,none⟩ 1 1 [iX B,iX x] rfl rfl (news_of_block (cs:=#[iX B,iX x]) (t:=255) (fr:=(0,0)) (gZ d _)) (by simp[Value.oneCell']) (by decide) (by unfold maxLen;omega) (by omega) (by simp;omega) _ rfl ?_;intro A cap w2 bf aD bg bN;have aE:=aD.block (w.heap.size+1) (by simp;omega) bd;have bO:w2.cell? ⟨w.heap.size+1,0,none⟩=some (slice P a.length R):=(gY aE).trans ((gV _ _ _ aB).trans a9);have bP:w2.frozen? ⟨w.heap.size+1,0,none⟩=false:=(gW aE).trans ((frozen?_alloc_past _ _ _ aB).trans bb))
   apply F.out;clear F;obtain⟨p,bh,ac⟩:∃p,p=w2.setCell ⟨w.heap.size+1,0,none⟩ (slice (qX A) (a.length+1) cap)/\Hid (Rw p (w.heap.size+2) (w.heap.size+1) (slice (qX A) (a.length+1) cap) (a++[(B,x)]) o/\KeepO (w.heap.size+1) (slice P a.length R) (slice (qX A) (a.length+1) cap) d p):=⟨_,rfl,aC.app rfl bf aD (by rcases bg with ag|ag;exact .inl ag;right;rw[ag];simp)⟩
   rw[<-bh];clear bh bf aD bg bN aE bO bP bc bd aB c0 c1 a9 bb;have O:=vl <| ac.2.keep aC.own aC.lt;have J:Hid (RxAt p b s dv {r with at_:=j}/\p.heap[w.heap.size]? =some (.cells #[nX,fX] 161)/\Keep w.heap.size b w p/\w.heap.size+2<=p.heap.size):=by
    have M:=E.out;refine⟨RxAt.of_block be (O.block b (by omega) (by omega)),(O.block _ (by omega) (by omega)).trans C.1,C.2.trans ⟨O.os,O.output,O.size,λk aT _=>O.block k (by omega) (by omega)⟩,ac.1.lt⟩
   clear be C S aA a4 a5 a0;cases U:zK s j ⟨#[93]⟩ with
   |true=>
    rw[U] at T;have aq:=vl T.symm;have aF:Hid (Ca 189 #[pX b,string ⟨#[93]⟩] p λe w'=>e=returned tX/\RxAt w' b s dv {r with at_:=j+1}/\∀H,Keep H b p w'):=by
     have:=zAn p b s dv {r with at_:=j} J.1 af (by show j<=_;omega) ⟨#[93]⟩ (by decide);rw[zH0] at this;have aG:zK s ({r with at_:=j}:Rx).at_ ⟨#[93]⟩=true:=U;rw[aG] at this;exact this
    rw[aq.out];clear U T aq;have bi:=J.2.2.2;have bQ:Hid (∀l,(∀H,Keep H b p l)->RxAt l b s dv {r with at_:=j+1}->l.cell? ⟨w.heap.size+1,0,none⟩=some (slice (qX A) (a.length+1) cap)/\l.cell? ⟨w.heap.size+1,1,none⟩=some (bool o)/\l.cell? ⟨w.heap.size,0,none⟩=some nX/\l.cell? ⟨w.heap.size,1,none⟩=some fX/\l.frozen? ⟨w.heap.size,0,none⟩=false/\l.frozen? ⟨w.heap.size,1,none⟩=false/\∃y,y=(l.setCell ⟨w.heap.size,0,none⟩ (slice (qX A) (a.length+1) cap)).setCell ⟨w.heap.size,1,none⟩ (bool o)/\y.cell? ⟨w.heap.size,0,none⟩=some (slice (qX A) (a.length+1) cap)/\y.cell? ⟨w.heap.size,1,none⟩=some (bool o)/\Hid (RxAt y b s dv {r with at_:=j+1}/\Keep w.heap.size b w y/\RangesIn (λi=>w.heap.size<=i) y (slice (qX A) (a.length+1) cap) (a++[(B,x)]))):=λl D ad=>by
     have M:=E.out;have aH:l.heap[w.heap.size]? =some (.cells #[nX,fX] 161):=((D (w.heap.size+1)).block _ (by omega) (by omega)).trans J.2.1;have bj:Rw l (w.heap.size+2) (w.heap.size+1) (slice (qX A) (a.length+1) cap) (a++[(B,x)]) o:=ac.1.keep (D _) (.inl (by omega)) (by omega);obtain⟨bk,bl,-⟩:=bj.cells;have ⟨y,Y,aa,ab,z⟩:=jK w l b s dv {r with at_:=j+1} _ _ (slice (qX A) (a.length+1) cap) o M aH ad (J.2.2.1.trans (D _));refine⟨bk,bl,?_,?_,?_,?_,y,Y,aa,ab,z.1,z.2.1,z.2.2 _ (bj.in.mono λi _ x=>by omega)⟩
     all_goals first|(unfold cell?;rw[aH];rfl)|(unfold frozen?;rw[aH];rfl)
    clear bi ac O;go_wp2_with (go_at_call 189;refine aF.mono ?_;rintro e l ⟨rfl,ad,D⟩;have ⟨bk,bl,bI,bJ,bK,bL,y,Y,aa,ab,z⟩:=bQ l D ad)
    rw[<-Y];refine gU (v:=tuple #[agg #[slice (qX A) (a.length+1) cap,bool o],tX]) (by simp[results,results208,go_sem,aa,ab]) rfl ?_;exact⟨z.2.1,_,rfl,z.2.2,z.1⟩
   |false=>
    rw[U] at T;have aq:=vl T;have aF:Hid (Ca 189 #[pX b,string ⟨#[93]⟩] p λe w'=>e=returned fX/\RxAt w' b s dv {r with at_:=j}/\∀H,Keep H b p w'):=by
     have:=zAn p b s dv {r with at_:=j} J.1 af (by show j<=_;omega) ⟨#[93]⟩ (by decide);rw[zH0] at this;have aG:zK s ({r with at_:=j}:Rx).at_ ⟨#[93]⟩=false:=U;rw[aG] at this;exact this
    clear U T;go_wp2_with (go_at_call 189;refine aF.mono ?_;rintro e l ⟨rfl,ad,D⟩)
    have M:=E.out;have bi:=J.2.2.2;go_roundg f
    case measure=>rw[X.out.2.2];omega
    case rel=>exact⟨f,j,a++[(B,x)],rfl,bM.2,by omega,aq,⟨⟨_,ac.1.keep (D _) (.inl (by omega)) (by omega)⟩,((D (w.heap.size+1)).block _ (by omega) (by omega)).trans J.2.1,ad,J.2.2.1.trans (D _)⟩,by simp;omega⟩
section
theorem TreeAt.deeper {w:World}:∀d b t,TreeAt w d b t->TreeAt w (d+1) b t
 |0,_,_,a=>False.elim a
 |d+1,b,t,a=>by
  obtain⟨c,rv,f,j,k,ao,cap,l,m,q,r⟩:=a;refine⟨c,rv,f,j,k,ao,cap,l,m,q,λi s=>?_⟩;have ⟨g,o,p,v,x,y,z⟩:=r i s;exact⟨g,o,p,v,x,y,TreeAt.deeper d p _ z⟩
theorem TreeAt.deep {w:World}{d e b:Nat}{t:Tr}(a:TreeAt w d b t)(c:d<=e):TreeAt w e b t:=by
 induction c with
 |refl=>exact a
 |step _ f=>exact TreeAt.deeper _ _ _ f
def TreeIn (X:Nat->Prop)(w:World)(d b:Nat)(t:Tr):Prop:=∀w2,Agree X w w2->TreeAt w2 d b t
section
variable {X Y:Nat->Prop} {w w2:World} {d e b:Nat} {t:Tr}
theorem TreeIn.at (a:TreeIn X w d b t):TreeAt w d b t:=a w (Agree.refl X w)
theorem TreeIn.go (c:TreeIn X w d b t)(a:Agree X w w2):TreeIn X w2 d b t:=λf g=>c f (a.trans g)
theorem TreeIn.mono (a:TreeIn X w d b t)(c:∀i,i<w.heap.size->X i->Y i):TreeIn Y w d b t:=λf g=>a f (g.mono c)
theorem TreeIn.deep (a:TreeIn X w d b t)(c:d<=e):TreeIn X w e b t:=λf g=>(a f g).deep c
theorem TreeIn.step (j:TreeIn X w d b t)(a:Agree X w w2)(k:∀i,i<w.heap.size->X i->Y i):TreeIn Y w2 d b t:=λl c=>j l ⟨c.os.trans a.os,c.output.trans a.output,lY a.size c.size,λi f g=>(c.block i (lZ f a.size) (k i f g)).trans (a.block i f g)⟩
theorem zMc {rv:Value}{ao:Option Addr}{cap:Nat}(c:w.heap[b]? =some (.cells #[iX (t.kind:Int),rv,bool t.set.others,slice ao t.parts.length cap,iX (t.least:Int),iX (t.most:Int),bool t.endless,iX (t.chars:Int)] 165))(j:X b)(k:RangesIn X w rv t.set.ranges)
  (l:t.parts.length<=cap/\t.parts.length<=1000000000000/\t.least<=1000/\t.most<=1000) (m:cap<=maxLen) (q:∀i,i<t.parts.length->∃g o p,ao=some ⟨g,o,none⟩/\In w g/\X g/\w.cell? ⟨g,o+i,none⟩=some (pX p)/\TreeIn X w d p (t.parts.getD i Tr.none)):TreeIn X w (d+1) b t:=λw2 a=>by
 have f:=(kQ.1 c).1;refine⟨lZ f a.size,rv,_,(a.block b f j).trans c,k w2 a,ao,cap,rfl,l,m,λi r=>?_⟩;have ⟨g,o,p,s,h,v,x,y⟩:=q i r;exact⟨g,o,p,s,lZ h a.size,(gY (a.block g h v)).trans x,y w2 a⟩
theorem zIB {rv:Value}{t:Tr}(c:w.heap[b]? =some (.cells #[iX (t.kind:Int),rv,bool t.set.others,nX,iX (t.least:Int),iX (t.most:Int),bool t.endless,iX (t.chars:Int)] 165))(f:X b)(g:RangesIn X w rv t.set.ranges)(h:t.parts=[])(a:t.least<=1000/\t.most<=1000):TreeIn X w (d+1) b t:=by
 have e:t.parts.length=0:=by rw[h];rfl
 refine zMc (ao:=none) (cap:=0) (by rw[e];exact c) f g ⟨by omega,by omega,a.1,a.2⟩ (by unfold maxLen;omega) λi j=>by omega
theorem zKf (a:w.heap[b]? =some (.cells #[zX,nX,bool false,nX,zX,zX,bool false,zX] 165))(c:X b):TreeIn X w (d+1) b Tr.none:=zIB (t:=Tr.none) a c (zLb X w) rfl ⟨by decide,by decide⟩
end
def zIk (c:Cs):Tr:=⟨1,c,[],0,0,false,1⟩
def Tr.add (t u:Tr):Tr:={t with parts:=t.parts++[u],chars:=xZ (t.chars+u.chars)}
def Tr.plain (t:Tr):Tr:=if t.chars=0 then Tr.none else t
def yJ (ps:List Nat):List Value:=ps.map λp=>pointer (some ⟨p,0,none⟩)
structure Tw (w:World)(Y:Nat->Prop)(H p d:Nat)(sv:Value)(ps:List Nat)(t:Tr):Prop where
 blk:w.heap[p]? =some (.cells #[int i64 (t.kind:Int),slice none 0 0,bool false,sv,int i64 (t.least:Int),int i64 (t.most:Int),bool t.endless,int i64 (t.chars:Int)] 165)
 set:t.set=⟨[],false⟩
 own:w.ownsRow H 158 1 sv t.parts.length (yJ ps)
 len:ps.length=t.parts.length
 parts:∀i,i<t.parts.length->TreeIn (λj=>Y j/\j≠p/\some j≠sv.ownBlock) w d (ps.getD i 0) (t.parts.getD i Tr.none)
 pH:p<H
 lt:H<=w.heap.size
 small:t.parts.length<=10000000/\t.least<=1000/\t.most<=1000/\t.chars<=25
section
variable {w w2:World} {Y:Nat->Prop} {H p d e b:Nat} {sv:Value} {ps:List Nat} {t u:Tr}
theorem Tw.cells (a:Tw w Y H p d sv ps t):w.cell? ⟨p,3,none⟩=some sv/\w.cell? ⟨p,7,none⟩=some (iX (t.chars:Int))/\∀i,w.frozen? ⟨p,i,none⟩=false:=by
 refine⟨?_,?_,λi=>?_⟩
 all_goals first|(unfold cell?;rw[a.blk];rfl)|(unfold frozen?;rw[a.blk];simp)
theorem Tw.deep (a:Tw w Y H p d sv ps t)(c:d<=e):Tw w Y H p e sv ps t:=⟨a.blk,a.set,a.own,a.len,λi f=>(a.parts i f).deep c,a.pH,a.lt,a.small⟩
theorem Tw.keep (a:Tw w Y H p d sv ps t)(c:Keep w.heap.size b w w2)(v:b<H\/b=w.heap.size)(f:b≠p)(k:b<w.heap.size->¬Y b):Tw w2 Y H p d sv ps t:=by
 have l:=a.pH;have m:=a.lt;refine⟨(c.block p (by omega) (Ne.symm f)).trans a.blk,a.set,zD a.own λg x o _=>c.block g o (by omega),a.len,λi q=>(a.parts i q).go (c.agree λj r s=>⟨r,λe=>k (by omega) (e ▸ s.1)⟩),l,lY m c.size,a.small⟩
theorem Tw.in (a:Tw w Y H p d sv ps t)(o:Y p)(A:∀j,H<=j->Y j):TreeIn Y w (d+1) p t:=by
 have ⟨ao,cap,B⟩:=zF a.own;subst B;have c:=a.blk;have q:t.set.ranges=[]:=by rw[a.set]
 have r:t.set.others=false:=by rw[a.set]
 obtain⟨K,s,v,-⟩:=a.small;rcases a.own.2 with⟨f,k⟩|⟨g,L,M,f,C,N,D,E,O,P⟩
 ·injection f with l F m
  subst l m;have G:=List.length_eq_zero_iff.1 k;refine zIB (rv:=nX) (by rw[r,<-k];rw[k] at c ⊢;exact c) o (by rw[q];exact zLb Y w) G ⟨s,v⟩
 ·injection f with l F m
  subst l m;refine zMc (rv:=nX) (by rw[r];exact c) o (by rw[q];exact zLb Y w) ⟨D,by omega,s,v⟩ E λi x=>?_;have I:=a.own.lt g rfl;refine⟨g,0,ps.getD i 0,rfl,I.2,A g C,?_,(a.parts i x).mono λj _ J=>J.1⟩;have y:i<ps.length:=by rw[a.len];exact x
  have z:=a.own.cells (g:=g) rfl i (pointer (some ⟨ps.getD i 0,0,none⟩)) (by unfold yJ;rw[gX,lV y,lW,lV y];rfl);rw[Addr.add_lit] at z;exact z
theorem Tw.setChars (a:Tw w Y H p d sv ps t)(n:Nat)(f:n<=25):Tw (w.setCell ⟨p,7,none⟩ (iX (n:Int))) Y H p d sv ps {t with chars:=n}:=by
 have c:=a.pH;refine⟨?_,a.set,xI a.own c,a.len,λi g=>(a.parts i g).go ⟨rfl,rfl,by rw[zC];omega,λj l k=>lJ _ _ _ _ k.2.1⟩,c,by rw[zC];exact a.lt,⟨a.small.1,a.small.2.1,a.small.2.2.1,f⟩⟩;simp[setCell,lU,a.blk]
theorem Tw.app {F:Obj}{g cap m q:Nat}(f:Tw w Y H p d sv ps t)(G:m=t.parts.length)(R:m<10000000)(I:TreeIn (λj=>Y j/\j≠p/\some j≠sv.ownBlock) w d q u)(J:w2.ownsRow H 158 1 (slice (qX g) (m+1) cap) (m+1) (yJ ps++[pX q]))(s:(w.alloc F).grownBy w2 sv.ownBlock)(K:sv.ownBlock=some g\/w.heap.size<=g):
  Tw (w2.setCell ⟨p,3,none⟩ (slice (qX g) (m+1) cap)) Y H p d (slice (qX g) (m+1) cap) (ps++[q]) {t with parts:=t.parts++[u]}/\KeepO p sv (slice (qX g) (m+1) cap) w (w2.setCell ⟨p,3,none⟩ (slice (qX g) (m+1) cap)):=by
 subst G;have y:=f.pH;have S:=f.lt;have L:∀j,j<H->w2.heap[j]? =w.heap[j]? :=λj T=>(s.block j (by simp;omega) λe=>by have:=(f.own.lt j e.symm).1;omega).trans (lG _ _ _ (by omega));have M:=(L p y).trans f.blk;have N:w.heap.size<=w2.heap.size:=lY (by simp) s.size;have r:KeepO p sv (slice (qX g) (t.parts.length+1) cap) w (w2.setCell ⟨p,3,none⟩ (slice (qX g) (t.parts.length+1) cap)):=⟨s.os,s.output,by rw[zC];exact N,λk O z C=>⟨(lJ _ _ _ _ z).trans ((s.block k (by simp;omega) C).trans (lG _ _ _ O)),λe=>by
  have l:k=g:=by simpa[Value.ownBlock] using e
  rcases K with D|D
  ·exact C (by rw[D,l])
  ·omega⟩⟩
 have E:∀q2 A,TreeIn (λj=>Y j/\j≠p/\some j≠sv.ownBlock) w d q2 A->TreeIn (λj=>Y j/\j≠p/\some j≠(Value.slice (qX g) (t.parts.length+1) cap).ownBlock) (w2.setCell ⟨p,3,none⟩ (slice (qX g) (t.parts.length+1) cap)) d q2 A:=λq2 A z=>z.step ⟨r.os,r.output,r.size,λi v o=>(r.block i v o.2.1 o.2.2).1⟩ λi v o=>⟨o.1,o.2.1,(r.block i v o.2.1 o.2.2).2⟩
 refine⟨⟨?_,f.set,?_,?_,λi v=>?_,y,by rw[zC];omega,?_⟩,r⟩
 ·simp[setCell,lU,M]
 ·have x:({t with parts:=t.parts++[u]}:Tr).parts.length=t.parts.length+1:=by simp
  have l:yJ (ps++[q])=yJ ps++[pX q]:=by simp[yJ]
  rw[x,l];exact xI J y
 ·simp[f.len]
 ·have U:i<t.parts.length+1:=by simpa using v
  show TreeIn _ _ d ((ps++[q]).getD i 0) ((t.parts++[u]).getD i Tr.none);by_cases B:i<t.parts.length
  ·have x:(ps++[q]).getD i 0=ps.getD i 0:=by rw[lW,lW,kW (by rw[f.len];exact B)]
   have l:(t.parts++[u]).getD i Tr.none=t.parts.getD i Tr.none:=by rw[lW,lW,kW B]
   rw[x,l];exact E _ _ (f.parts i B)
  ·have e:i=t.parts.length:=by omega
   subst e;have x:(ps++[q]).getD t.parts.length 0=q:=by rw[<-f.len];simp
   have l:(t.parts++[u]).getD t.parts.length Tr.none=u:=by simp
   rw[x,l];exact E _ _ I
 ·have ⟨a,b,c,P⟩:=f.small
  refine⟨?_,b,c,P⟩;show(t.parts++[u]).length<=10000000;simp;omega
end
end
end Go.Proofs.YtbjcfkdnjaiclaaGreat
