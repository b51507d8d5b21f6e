import Derived.Deep.RegionHeld3
import Derived.Deep.RegionWith
import Derived.Test.YtbjcfkdnjaiclaaGreatS0
import Derived.Test.YtbjcfkdnjaiclaaGreatS6
/- Parts of the proof. -/
set_option linter.unusedVariables false
set_option linter.unusedSimpArgs false
set_option maxHeartbeats 4000000
set_option maxRecDepth 100000
namespace Go.Proofs.YtbjcfkdnjaiclaaGreat
open Go.RowKit Go.Proofs.Tryz Go.World
open Go.Value (int slice bool pointer string agg tuple)
open Go.IntKind (i64)
open Go.Ending (returned)
def yQ (m:Sm)(from_:Nat->Bool)(s t:Nat):Bool:=((t:Int) != 0)&&(List.range s).any λi=>from_ i&&(m.next.getD i []).any (·==(t:Int))
def jP (m:Sm)(from_:Nat->Bool)(t:Nat):Bool:=yQ m from_ m.next.length t
def vB (m:Sm)(from_:Nat->Bool)(s k t:Nat):Bool:=((t:Int) != 0)&&(((List.range s).any λi=>from_ i&&(m.next.getD i []).any (·==(t:Int)))||((m.next.getD s []).take k).any (·==(t:Int)))
theorem zH1 (m:Sm)(f:Nat->Bool)(s t:Nat):vB m f s 0 t=yQ m f s t:=by simp[vB,yQ]
theorem zJs (m:Sm)(f:Nat->Bool)(s k t:Nat)(a:f s=true)(b:(m.next.getD s []).length<=k):vB m f s k t=yQ m f (s+1) t:=by
 unfold vB yQ;rw[List.take_of_length_le b,List.range_succ,List.any_append];simp[a]
theorem zKU (m:Sm)(f:Nat->Bool)(s t:Nat)(a:f s=false):yQ m f (s+1) t=yQ m f s t:=by
 unfold yQ;rw[List.range_succ,List.any_append];simp[a]
theorem zH2 (m:Sm)(f:Nat->Bool)(s k t x:Nat)(a:k<(m.next.getD s []).length)(c:(m.next.getD s []).getD k 0=(x:Int)):vB m f s (k+1) t=if t=x then((x:Int) != 0) else vB m f s k t:=by
 unfold vB;rw[List.take_succ_eq_append_getElem a,List.any_append];have e:(m.next.getD s [])[k]=(x:Int):=by rw[<-c,lW (l:=m.next.getD s []),lV a];rfl
 rw[e];by_cases b:t=x
 ·subst b
  simp
 ·have d:((x:Int)==(t:Int))=false:=by rw[hX];omega
  rw[if_neg b];simp[d]
theorem zDi (w:World)(Q rv R:Value)(m:Sm)(S:TblAt w Q rv m)(F:m.Tbl)(f:Nat->Bool)(ak:BoolsAt w (In w) R m.next.length f):
  Calls prog 141 #[agg #[Q,rv,iX m.start],R] w λe w'=>∃u,e=returned u/\OwnF w' w.heap.size u m.next.length (jP m f)/\Grew w w':=by
 obtain⟨al,am,ao,ap,aq⟩:=info_parts vO;obtain⟨G,H,rfl,a3,a4,au⟩:=S.next
 obtain⟨T,U,rfl,a5,a6,a7⟩:=S.rules;obtain⟨av,of_,a8,aw,rfl,_,_,ax⟩:=ak;have ay:=vl au;have az:=vl ax;have V:Hid m.Tbl:=F;have a9:=F.most;have ba:=F.one;have aA:Hid (∀t,jP m f t=yQ m f m.next.length t):=λt=>rfl;have aB:Hid (∀t,yQ m f 0 t=false):=λt=>by simp[yQ]
 generalize aC:m.next.length=n at *
 have I:=vl aC;have aD:Grew w (w.alloc (.cells #[slice G n H,slice T m.rules.length U,iX m.start] 127)):=kZ _ _ lQ;obtain⟨w1,W,X,aE⟩:∃w1,w1=w.alloc (.cells #[slice G n H,slice T m.rules.length U,iX m.start] 127)/\Hid (Grew w w1/\w1.cell? ⟨w.heap.size,0,none⟩=some (slice G n H))/\w.heap.size<w1.heap.size:=by
  refine⟨_,rfl,⟨aD,?_⟩,by simp⟩;unfold cell?;rw[gX w _];rfl
 obtain⟨w2,aF,aG,r⟩:=run_makeSlice_full (P:=prog) w1 w.heap.size 28 4 al _ 1 underlying28 am ao ap i64 i64 n (by omega) (by rw[aq];omega) (by unfold maxLen;omega) (by omega);have Y:Hid (Row w2 w.heap.size 4 (slice (qX w1.heap.size) n n) n (λt=>bool (yQ m f 0 t))/\Grew w w2):=by
  have v:Grew w1 w2:=⟨r.os,r.output,r.size,λk C _=>r.block k C (by simp)⟩
  refine⟨?_,X.1.trans (v.lower (by omega) (by omega))⟩;have j:=aG;rw[Nat.mul_one,zAL _ rfl] at j;exact Row.congr j λi _=>by rw[aB.out i]
 have aa:=X.2;have aH:=(gZ (r.block w.heap.size aE (by simp))).trans aa;go_in;apply wp_cut;intro bb ab;go_wp2_with fail;apply ab.out;clear ab;rw[<-W];clear W;go_wp2_with fail;clear aF aa aH;go_loopg [17] n (λq i wr=>∃s:Nat,q=n-s/\s<=n/\i=iX (s:Int)/\Row wr w.heap.size 4 (slice (qX w1.heap.size) n n) n (λt=>bool (yQ m f s t))/\Grew w wr)
 case atStart=>exact⟨0,rfl,lX,rfl,Y.1,Y.2⟩
 case round=>
  obtain⟨s,l,bc,rfl,a,c⟩:=hrel;have p:Hid (gk=n-s/\Row wr w.heap.size 4 (slice (qX w1.heap.size) n n) n (λt=>bool (yQ m f s t))/\Grew w wr):=⟨l,a,c⟩
  by_cases D:s<n
  ·have aI:(s:Int)<(n:Int):=by omega
   obtain⟨b,o,u,rfl,J,ac,ad⟩:=ay s D;have y:=V.rows s (by rw[I.out];exact D);obtain⟨K,L,aJ,rfl,aK,_,_,ae⟩:=ad.block (by omega);have aL:wr.cell? ⟨b,o+s,none⟩=some (slice (some ⟨K,L,none⟩) 256 aJ):=by rw[<-y];exact zA ac J c
   have M:wr.cell? ⟨av,of_+s,none⟩=some (bool (f s)):=zA (az s D) aw c;have aM:Hid (∀i,i<256->w.cell? ⟨K,L+i,none⟩=some (iX ((m.next.getD s []).getD i 0))):=by
    intro i aN;exact ae i (by rw[y];exact aN)
   have aO:Hid (∀b,b<256->0<=(m.next.getD s []).getD b 0/\(m.next.getD s []).getD b 0<n):=λb J=>by
    have j:=V.to s b (by rw[I.out];exact D) J;rw[I.out] at j;exact j
   have aP:Hid (∀k t x,k<256->(m.next.getD s []).getD k 0=((x:Nat):Int)->vB m f s (k+1) t=if t=x then((x:Int) != 0) else vB m f s k t):=λk t x C z=>zH2 m f s k t x (by rw[y];exact C) z;have aQ:Hid (f s=true->∀t,vB m f s 256 t=yQ m f (s+1) t):=λd t=>zJs m f s 256 t d (by rw[y];exact lQ);have aR:Hid (f s=false->∀t,yQ m f (s+1) t=yQ m f s t):=λd t=>zKU m f s t d;clear l a c ac ad ae y;cases d:f s with
   |false=>
    rw[d] at M;have A:=aR d;have N:Hid (∀t,yQ m f (s+1) t=yQ m f s t):=A;clear d A;go_wp2_with fail;go_roundg (n-(s+1))
    case measure=>rw[p.out.1];omega
    case rel=>exact⟨s+1,rfl,by omega,by go_num,p.2.1.congr λt _=>by rw[N.out t],p.2.2⟩
   |true=>
    rw[d] at M;have A:=aQ d;have N:Hid (∀t,vB m f s 256 t=yQ m f (s+1) t):=A;clear d A;go_wp2_with fail;clear aL M;go_loopg [29] 256 (λq i wr=>∃k:Nat,q=256-k/\k<=256/\i=iX (k:Int)/\Row wr w.heap.size 4 (slice (qX w1.heap.size) n n) n (λt=>bool (vB m f s k t))/\Grew w wr)
    case atStart=>exact⟨0,rfl,lX,rfl,p.2.1.congr λt _=>by rw[zH1],p.2.2⟩
    case round=>
     obtain⟨k,l,C,rfl,a,c⟩:=hrel;have E:Hid (gk=256-k/\Row wr w.heap.size 4 (slice (qX w1.heap.size) n n) n (λt=>bool (vB m f s k t))/\Grew w wr):=⟨l,a,c⟩
     by_cases v:k<256
     ·have aS:(k:Int)<256:=by omega
      have aT:wr.cell? ⟨K,L+k,none⟩=some (iX ((m.next.getD s []).getD k 0)):=zA (aM k v) aK c;obtain⟨aU,aV⟩:=aO k v;obtain⟨x,z⟩:∃x:Nat,(m.next.getD s []).getD k 0=(x:Int):=⟨((m.next.getD s []).getD k 0).toNat,by omega⟩
      have aW:Hid (∀t,vB m f s (k+1) t=if t=x then((x:Int) != 0) else vB m f s k t):=λt=>aP k t x v z;rw[z] at aT aU aV;have aX:x<n:=by omega
      obtain⟨g,bd,af,aY,aZ,a0,a1,ag,ah⟩:=a.get (by omega);have a2:g=w1.heap.size:=by injection af with B _ _;injection B with B;injection B with B;exact B.symm
      subst a2;have be:wr.cell? ⟨w1.heap.size,x,none⟩=some (bool (vB m f s k x)):=ag x aX;have zl:=ah x;clear l a c af aY aZ a0 a1 ag ah z;go_wp2_with fail;go_roundg (256-(k+1))
      case measure=>rw[E.out.1];omega
      case rel=>
       refine⟨k+1,rfl,by omega,by go_num,?_,E.2.2.trans (zP _ _ _ _ (by omega))⟩;have j:=E.2.1.set x (bool ((x:Int) != 0));refine Row.congr j λt _=>?_;rw[aW.out t];by_cases e:t=x
       ·subst e;simp
       ·simp[e]
     ·have ai:k=256:=by omega
      have aS:(256:Int)<=(k:Int):=by omega
      have O:Hid (Row wr w.heap.size 4 (slice (qX w1.heap.size) n n) n (λt=>bool (yQ m f (s+1) t))):=by
       refine Row.congr a λt _=>?_;rw[ai,N.out t]
      clear l a c ai;go_wp2_with fail;go_roundg (n-(s+1))
      case measure=>rw[p.out.1];omega
      case rel=>exact⟨s+1,rfl,by omega,by go_num,O,E.2.2⟩
  ·have aj:s=n:=by omega
   have aI:(n:Int)<=(s:Int):=by omega
   have O:Hid (OwnF wr w.heap.size (slice (qX w1.heap.size) n n) n (jP m f)):=by
    refine Row.congr a λt _=>?_;rw[aA.out t,aj]
   clear l a c aj;go_wp2_with fail;go_ret;exact⟨_,rfl,O,p.2.2⟩
def qC (m:Sm):Nat->Nat->Bool
 |0=>zDd m
 |i+1=>vX (jP m (qC m i)) (zDd m)
def zCs (m:Sm)(i:Nat):Bool:=decide (zBi m.next.length (jP m (qC m i))<0)
def vG (m:Sm):Int:=if(List.range (m.next.length+1)).findIdx (zCs m)<m.next.length+1 then((List.range (m.next.length+1)).findIdx (zCs m):Int) else -1
theorem zPs (m:Sm)(j:Nat)(f:j<=m.next.length)(b:zCs m j=true)(c:∀a,a<j->zCs m a=false):vG m=(j:Int):=by
 have e:(List.range (m.next.length+1)).findIdx (zCs m)=j:=by
  rw[List.findIdx_eq (by simp;omega)];exact⟨by simpa using b,λa d=>by simpa using c a (by simpa using d)⟩
 unfold vG;rw[e,if_pos (by omega)]
theorem zNk (m:Sm)(c:∀a,a<=m.next.length->zCs m a=false):vG m=-1:=by
 have b:=List.findIdx_eq_length (xs:=List.range (m.next.length+1)) (p:=zCs m);rw[List.length_range] at b;have e:=b.2 λa d=>c a (by have:=List.mem_range.1 d;omega);unfold vG;rw[e,if_neg (Nat.lt_irrefl _)]
theorem zPr (m:Sm):-1<=vG m/\vG m<=m.next.length:=by
 unfold vG;split <;> omega
theorem zM1:(prog.info? 28).map (λi=>(i.zero,i.size,i.bytes))=some (some (slice none 0 0),1,24):=by kernel_rfl
def FrontsAt (w:World)(H:Nat)(v:Value)(d:Nat)(m:Sm):Prop:=∃rv:Nat->Value,w.ownsRow H 28 1 v d ((List.range d).map rv)/\∀i,i<d->OwnF w H (rv i) m.next.length (qC m i)
theorem FrontsAt.grown {w w':World}{H a:Nat}{v:Value}{m:Sm}(c:FrontsAt w H v a m)(b:Grew w w'):FrontsAt w' H v a m:=by
 obtain⟨rv,e,f⟩:=c;exact⟨rv,zK e b,λi g=>zK (f i g) b⟩
theorem FrontsAt.nil (w:World)(H:Nat)(m:Sm):FrontsAt w H (slice none 0 0) 0 m:=⟨λ_=>slice none 0 0,ownsRow_nil _ _ _ _,λi a=>by omega⟩
theorem FrontsAt.snoc {w w1 w2:World}{H g cap a:Nat}{v u:Value}{m:Sm}{o:Obj}(z:FrontsAt w1 H v a m)(l:OwnF w1 H u m.next.length (qC m a))(A:w=w1)(rv:Nat->Value)(p:∀i,i<a->OwnF w1 H (rv i) m.next.length (qC m i))(q:w1.ownsRow H 28 1 v a ((List.range a).map rv))
  (r:w2.ownsRow H 28 1 (slice (qX g) (a+1) cap) (a+1) ((List.range a).map rv++[u])) (s:(w1.alloc o).grownBy w2 v.ownBlock):FrontsAt w2 H (slice (qX g) (a+1) cap) (a+1) m:=by
 have b:∀{x f},OwnF w1 H x m.next.length f->OwnF w2 H x m.next.length f:=λ{x f} c=>zD c λk B t y=>(s.block k (by simp;omega) (yC c q (by decide) y)).trans (lG _ _ _ t)
 refine⟨λi=>if i=a then u else rv i,?_,λi j=>?_⟩
 ·rw[xP,if_pos rfl]
  have e:(List.range a).map (λi=>if i=a then u else rv i)=(List.range a).map rv:=List.map_congr_left λi j=>if_neg (by have:=List.mem_range.1 j;omega);rw[e];exact r
 ·by_cases e:i=a
  ·subst e
   simp only[if_true];exact b l
  ·show OwnF w2 H (if i=a then u else rv i) _ _
   rw[if_neg e];exact b (p i (by omega))
theorem zGv (w:World)(V rv:Value)(m:Sm)(W:TblAt w V rv m)(K:m.Tbl):
  Calls prog 104 #[agg #[V,rv,iX m.start]] w λe w'=>Grew w w'/\
   ((vG m=-1/\e=returned (tuple #[slice none 0 0,bool false]))\/(∃X v,vG m=((X:Nat):Int)/\X<=m.next.length/\e=returned (tuple #[v,bool true])/\FrontsAt w' w.heap.size v X m)):=by
 obtain⟨aZ,a0,a1,a2,a6⟩:=info_parts zM1;have L:Hid (TblAt w V rv m/\m.Tbl):=⟨W,K⟩
 obtain⟨c,g,rfl,bD,bE,bF⟩:=W.next
 obtain⟨l,o,rfl,bG,bH,bI⟩:=W.rules;have ap:=K.most;have F:=K.one;have a7:=vl K.rules;obtain⟨w1,av,M,a8⟩:∃w1,w1=w.alloc (.cells #[slice c m.next.length g,slice l m.rules.length o,iX m.start] 127)/\Hid (Grew w w1/\w1.heap[w.heap.size]? =some (.cells #[slice c m.next.length g,slice l m.rules.length o,iX m.start] 127))/\w.heap.size<w1.heap.size:=
  ⟨_,rfl,⟨kZ _ _ lQ,gX w _⟩,by simp⟩
 go_in;apply wp_cut;intro bJ a9;go_wp2;apply a9.out;rw[<-av];clear av;have Y:w1.cell? ⟨w.heap.size,0,none⟩=some (slice c m.next.length g)/\w1.cell? ⟨w.heap.size,1,none⟩=some (slice l m.rules.length o)/\w1.cell? ⟨w.heap.size,2,none⟩=some (iX m.start):=by
  refine⟨?_,?_,?_⟩ <;> (unfold cell?;rw[M.out.2];rfl)
 obtain⟨aa,ab,ac⟩:=Y;go_wp2_with fail;have aw:Hid (∀y,Grew w y->Ca 140 #[agg #[slice c m.next.length g,slice l m.rules.length o,iX m.start]] y λe w'=>∃u,e=returned u/\OwnF w' y.heap.size u m.next.length (zDd m)/\Grew y w'):=λy ba=>by
  have ax:=zDQ y _ _ m (L.1.grown ba) L.2;rw[a7.out] at ax ⊢;exact ax
 refine(aw w1 M.1).mono ?_;rintro e w2 ⟨u,rfl,ay,az⟩;obtain⟨bb,bc,N⟩:=ay.form;subst N;have ad:Hid (OwnF w2 w.heap.size (slice bb m.next.length bc) m.next.length (qC m 0)/\Grew w w2/\w2.heap[w.heap.size]? =some (.cells #[slice c m.next.length g,slice l m.rules.length o,iX m.start] 127)):=⟨yD ay (by omega),M.1.trans (az.lower (by omega) (by omega)),(az.block _ a8 (by omega)).trans M.2⟩
 go_wp2;go_loopg [4,5,6] (m.next.length+1) (λq fr bd i wr=>∃j:Nat,q=m.next.length+1-j/\j<=m.next.length+1/\i=iX (j:Int)/\FrontsAt wr w.heap.size fr j m/\OwnF wr w.heap.size bd m.next.length (qC m j)/\(∀a,a<j->zCs m a=false)/\Grew w wr/\wr.heap[w.heap.size]? =some (.cells #[slice c m.next.length g,slice l m.rules.length o,iX m.start] 127))
 case atStart=>exact⟨0,rfl,lX,rfl,FrontsAt.nil _ _ _,ad.1,λa aA=>by omega,ad.2.1,ad.2.2⟩
 case round=>
  obtain⟨j,aB,bK,rfl,aC,z,aD,ae,O⟩:=hrel;have p:Hid (gk=m.next.length+1-j/\FrontsAt wr w.heap.size u4 j m/\OwnF wr w.heap.size u5 m.next.length (qC m j)/\(∀a,a<j->zCs m a=false)/\Grew w wr/\wr.heap[w.heap.size]? =some (.cells #[slice c m.next.length g,slice l m.rules.length o,iX m.start] 127)):=⟨aB,aC,z,aD,ae,O⟩
  have Y:wr.cell? ⟨w.heap.size,0,none⟩=some (slice c m.next.length g)/\wr.cell? ⟨w.heap.size,1,none⟩=some (slice l m.rules.length o)/\wr.cell? ⟨w.heap.size,2,none⟩=some (iX m.start):=by
   refine⟨?_,?_,?_⟩ <;> (unfold cell?;rw[O];rfl)
  obtain⟨aa,ab,ac⟩:=Y;have A:=(kQ.1 O).1;obtain⟨af,ag,be⟩:=z.form;subst be;obtain⟨bL,aE,bf⟩:=aC;obtain⟨P,Q,bg⟩:=zE aE;subst bg;by_cases aF:j<=m.next.length
  ·have bh:(j:Int)<=(m.next.length:Int):=by omega
   have aG:=vl <| zDi wr _ _ _ m (L.1.grown ae) L.2 (qC m j) (z.at F);have aH:Hid (zCs m j=decide (zBi m.next.length (jP m (qC m j))<0)):=rfl;have bM:Hid (∀s,qC m (j+1) s=vX (jP m (qC m j)) (zDd m) s):=λ_=>rfl;go_wp2_with fail;refine aG.mono ?_;rintro e B ⟨u3,rfl,ah,C⟩;obtain⟨aI,aJ,bi⟩:=ah.form;subst bi;have r:Hid (OwnF B wr.heap.size (slice aI m.next.length aJ) m.next.length (jP m (qC m j))/\Grew wr B/\Grew w B):=⟨ah,C,p.2.2.2.2.1.trans (C.lower (by omega) (by omega))⟩
   have aK:B.cell? ⟨w.heap.size,0,none⟩=some (slice c m.next.length g):=zA aa A C;have aL:B.cell? ⟨w.heap.size,1,none⟩=some (slice l m.rules.length o):=zA ab A C;have aM:B.cell? ⟨w.heap.size,2,none⟩=some (iX m.start):=zA ac A C;clear ah C aG aa ab ac;go_wp2_with fail;refine(zFd B _ m.next.length _ (r.1.at F) ap).mono ?_;rintro e t ⟨rfl,rfl⟩;by_cases ai:zBi m.next.length (jP m (qC m j))<0
   ·have aj:Hid (vG m=(j:Int)):=zPs m j aF (by rw[aH.out];exact gJ ai) p.2.2.2.1
    have bj:Hid (FrontsAt t w.heap.size (slice P j Q) j m):=p.2.1.grown r.2.1;generalize zBi m.next.length (jP m (qC m j))=bk at *
    go_wp2_with fail;go_ret2
    exact⟨r.2.2,.inr ⟨j,_,aj,aF,rfl,bj⟩⟩
   ·have bN:0<=zBi m.next.length (jP m (qC m j)):=by omega
    have bl:Hid (zCs m j=false):=by show _=_;rw[aH.out];exact gU ai
    generalize zBi m.next.length (jP m (qC m j))=bk at *
    obtain⟨R,ak,aN⟩:=p.2.1.grown r.2.1;have G:Hid (t.ownsRow w.heap.size 28 1 (slice P j Q) j ((List.range j).map R)):=ak;have aO:Hid (∀i,i<j->OwnF t w.heap.size (R i) m.next.length (qC m i)):=aN;have bm:Hid (OwnF t w.heap.size (slice af m.next.length ag) m.next.length (qC m j)):=zK p.2.2.1 r.2.1;have bn:w.heap.size<=t.heap.size:=r.2.2.size;have bo:w.heap.size<t.heap.size:=lZ A r.2.1.size;have bp:Hid (some w.heap.size≠Value.ownBlock (slice P j Q)):=by
     intro e;rcases ak.2 with⟨al,_⟩|⟨bq,_,bO,al,_,br,_⟩
     ·rw[al] at e;cases e
     ·rw[al] at e
      have bs:w.heap.size=bq:=by simpa[Value.ownBlock] using e
      have D:=(r.2.1.block w.heap.size A (by omega)).trans p.2.2.2.2.2;rw[bs,br] at D;injection D with D;injection D with _ D _;exact absurd D (by decide)
    clear ak aN ai;go_wp2_with (first|(at_builtin;refine wpList_append_lies _ rfl _ _ 188 rfl (w.heap.size) 28 aZ (slice none 0 0) 1 24 underlying188 a0 a1 a2 a6 rfl (by decide) _ _ _ rfl (G.alloc _) ⟨t.heap.size,0,none⟩ 1 1 [slice af m.next.length ag] rfl rfl (cell_one_new _ _ _) (by intro u N;simp at N;subst N;rfl) (by decide) (by unfold maxLen;omega) (by omega) (by simp;omega) _ rfl ?_;intro aP cap b aQ aR bt bP;have H:(t.alloc (.cells #[slice af m.next.length ag] 28)).grownBy b (Value.ownBlock (slice P j Q)):=aR;have I:b.heap[w.heap.size]? =t.heap[w.heap.size]? :=(H.block w.heap.size (by simp;omega) bp).trans (lG _ _ _ bo);have bu:b.cell? ⟨w.heap.size,0,none⟩=some (slice c m.next.length g):=(gZ I).trans aK;have bv:b.cell? ⟨w.heap.size,1,none⟩=some (slice l m.rules.length o):=(gZ I).trans aL;have bw:b.cell? ⟨w.heap.size,2,none⟩=some (iX m.start):=(gZ I).trans aM))
    have aS:Below w.heap.size t b:=xF G H bn;have aT:∀{x f},OwnF t w.heap.size x m.next.length f->OwnF b w.heap.size x m.next.length f:=λ{x f} z=>zD z λk F bx bz=>(H.block k (by simp;omega) (yC z G (by decide) bz)).trans (lG _ _ _ bx)
    have S:Hid (FrontsAt b w.heap.size (slice (qX aP) (j+1) cap) (j+1) m/\OwnF b w.heap.size (slice aI m.next.length aJ) m.next.length (jP m (qC m j))/\Grew w b):=⟨FrontsAt.snoc ⟨R,G,aO⟩ bm rfl R aO G aQ H,aT (yD r.1 (Nat.le_of_lt A)),r.2.2.trans (xD aS)⟩
    have aU:Hid (b.heap[w.heap.size]? =some (.cells #[slice c m.next.length g,slice l m.rules.length o,iX m.start] 127)):=I.trans ((r.2.1.block w.heap.size A (by omega)).trans p.2.2.2.2.2);clear aQ H aR bt aS I aT aK aL aM;refine(aw b S.2.2).mono ?_;rintro e am ⟨bQ,rfl,ao,aV⟩;obtain⟨bA,bB,bC⟩:=ao.form;subst bC;have E:Hid (OwnF am b.heap.size (slice bA m.next.length bB) m.next.length (zDd m)/\Grew b am):=⟨ao,aV⟩
    clear ao aV bu bv bw;go_wp2_with fail;refine(zDf am _ _ m.next.length (jP m (qC m j)) (zDd m) (OwnF.at (zK S.2.1 E.2) F) (E.1.at F) ap).mono ?_;rintro e J ⟨u6,rfl,aW,aX⟩;have T:Grew b J:=E.2.trans (aX.lower E.2.size E.2.size);have aY:w.heap.size<b.heap.size:=(kQ.1 aU).1;have U:Hid (FrontsAt J w.heap.size (slice (qX aP) (j+1) cap) (j+1) m/\OwnF J w.heap.size u6 m.next.length (qC m (j+1))/\Grew w J/\J.heap[w.heap.size]? =some (.cells #[slice c m.next.length g,slice l m.rules.length o,iX m.start] 127)):=
     ⟨S.1.grown T,yD aW (Nat.le_of_lt (lZ aY E.2.size)),S.2.2.trans (T.lower (by omega) (by omega)),(T.block w.heap.size aY (by omega)).trans aU⟩
    clear aW aX T;go_wp2_with fail;go_roundg (m.next.length+1-(j+1))
    case measure=>rw[p.out.1];omega
    case rel=>exact⟨j+1,rfl,by omega,by go_num,U.1,U.2.1,λa aA=>by(by_cases e:a=j;exact e ▸ bl;exact p.2.2.2.1 a (by omega)),U.2.2.1,U.2.2.2⟩
  ·have bh:(m.next.length:Int)<(j:Int):=by omega
   have aj:Hid (vG m=-1):=zNk m λa aA=>p.2.2.2.1 a (by omega);clear aB z aD ae O aE bf;go_wp2_with fail;go_ret2
   exact⟨p.2.2.2.2.1,.inl ⟨aj,rfl⟩⟩
theorem zMD (w:World)(b:Nat)(d:b<256):
  (convert 68 9 (slice (qX w.heap.size) 1 1)).run prog (w.alloc (.cells #[int .u8 (b:Int)] 5))=
   .ok (string ⟨#[UInt8.ofNat b]⟩) (w.alloc (.cells #[int .u8 (b:Int)] 5)):=by
 refine run_convert_bytes_back _ 68 9 5 ⟨w.heap.size,0,none⟩ 1 [UInt8.ofNat b] underlying68 underlying5 underlying9 ?_;intro j c;have a:=gX w (.cells #[int .u8 (b:Int)] 5);generalize w.alloc (.cells #[int .u8 (b:Int)] 5)=w1 at a ⊢;have:j=0:=by simp at c;omega
 subst this;have e:([UInt8.ofNat b]:List UInt8)[0].toNat=b:=by simp;omega
 rw[e];simp[Addr.add,cell?,a]
theorem zDy (w:World)(b:Nat)(a:b<256):
  Calls prog 150 #[iX b] w λe w'=>e=returned (string ⟨#[UInt8.ofNat b]⟩)/\Grew w w':=by
 have c:=zMD w b a;go_in;go_wp2;go_ret;exact⟨rfl,kZ _ _ lQ⟩
theorem zGY (w:World)(l rv p:Value)(m:Sm)(r:TblAt w l rv m)(g:m.Tbl)(f:Nat->Bool)(C:BoolsAt w (In w) p m.next.length f)(to:Int):
  Calls prog 149 #[agg #[l,rv,iX m.start],p,iX to] w λe w'=>∃s b:Nat,s<m.next.length/\b<256/\e=returned (tuple #[iX s,iX b])/\Grew w w':=by
 obtain⟨V,W,rfl,X,Y,D⟩:=r.next
 obtain⟨aa,ab,rfl,ac,ad,ae⟩:=r.rules;obtain⟨af,of_,ag,E,rfl,_,_,F⟩:=C;have G:=vl D;have H:=vl F;have I:Hid m.Tbl:=g;have ah:=g.most;have ai:=g.one;generalize J:m.next.length=n at *
 have K:=vl J;go_in;go_wp2;go_loopg [15] n (λq i wr=>∃s:Nat,q=n-s/\s<=n/\i=iX (s:Int)/\Grew w wr)
 case atStart=>exact⟨0,rfl,lX,rfl,kZ _ _ lQ⟩
 case round=>
  obtain⟨s,h,aj,rfl,a⟩:=hrel;have j:Hid (gk=n-s/\Grew w wr):=⟨h,a⟩
  by_cases d:s<n
  ·have L:(s:Int)<(n:Int):=by omega
   obtain⟨b,o,u,rfl,M,N,O⟩:=G s d;have t:=I.rows s (by rw[K.out];exact d);obtain⟨v,y,P,rfl,Q,_,_,R⟩:=O.block (by omega);have ak:cX wr b (o+s)=some (slice (some ⟨v,y,none⟩) 256 P):=by rw[<-t];exact zA N M a
   have S:Hid (∀i,i<256->cX w v (y+i)=some (iX ((m.next.getD s []).getD i 0))):=by
    intro i T;exact R i (by rw[t];exact T)
   go_wp2;go_loopg [22] 256 (λq i wr=>∃k:Nat,q=256-k/\k<=256/\i=iX (k:Int)/\Grew w wr)
   case atStart=>exact⟨0,rfl,lX,rfl,j.2⟩
   case round=>
    obtain⟨k,h,al,rfl,a⟩:=hrel;have c:Hid (gk=256-k/\Grew w wr):=⟨h,a⟩
    by_cases z:k<256
    ·have U:(k:Int)<256:=by omega
     have am:=zA (S k z) Q a;have A:=zA (H s d) E a;generalize (m.next.getD s []).getD k 0=x at *;cases B:f s with
     |false=>
      rw[B] at A;go_wp2;go_roundg (256-(k+1))
      case measure=>rw[c.out.1];omega
      case rel=>exact⟨k+1,rfl,by omega,by go_num,c.2⟩
     |true=>
      rw[B] at A;cases ao:(x==to) with
      |true=>
       go_wp2;go_ret2
       exact⟨s,k,d,z,rfl,c.2⟩
      |false=>
       go_wp2;go_roundg (256-(k+1))
       case measure=>rw[c.out.1];omega
       case rel=>exact⟨k+1,rfl,by omega,by go_num,c.2⟩
    ·have U:(256:Int)<=(k:Int):=by omega
     go_wp2;go_roundg (n-(s+1))
     case measure=>rw[j.out.1];omega
     case rel=>exact⟨s+1,rfl,by omega,by go_num,c.2⟩
  ·have L:(n:Int)<=(s:Int):=by omega
   go_wp2;go_ret2
   exact⟨0,0,by omega,by omega,rfl,j.2⟩
theorem zL4:(prog.info? 9).map (λi=>(i.zero,i.size,i.bytes))=some (some (string ⟨#[]⟩),1,16):=by kernel_rfl
theorem zNn (f:Nat->Bool)(t n:Nat)(h:t<n)(a:f t=false):(List.range n).countP (λi=>if i=t then true else f i)=(List.range n).countP f+1:=by
 induction n with
 |zero=>omega
 |succ n b=>
  rw[List.range_succ,List.countP_append,List.countP_append];by_cases e:t=n
  ·subst e
   have c:(List.range t).countP (λi=>if i=t then true else f i)=(List.range t).countP f:=by
    apply List.countP_congr;intro i d;rw[if_neg (by have:=List.mem_range.1 d;omega)]
   rw[c];simp[a]
  ·rw[b (by omega)]
   have g:[n].countP (λi=>if i=t then true else f i)=[n].countP f:=by simp[Ne.symm e]
   rw[g];omega
theorem zOA (f:Nat->Bool)(n:Nat):(List.range n).countP f<=n:=by
 have a:=List.countP_le_length (p:=f) (l:=List.range n);rw[List.length_range] at a;exact a
structure Wy (w:World)(H gs gw n:Nat)(sf:Nat->Bool)(wf:Nat->ByteArray)(lv:Value)(l:List Int):Prop where
 seen:Row w H 4 (slice (some ⟨gs,0,none⟩) n n) n λi=>bool (sf i)
 words:Row w H 9 (slice (some ⟨gw,0,none⟩) n n) n λi=>string (wf i)
 list:OwnI w H lv l
 all:∀x∈l,0<=x/\x<(n:Int)
 len:l.length=1+(List.range n).countP sf
 size:∀i,(wf i).size<=l.length
theorem Wy.most {w:World}{H b c n:Nat}{a:Nat->Bool}{d:Nat->ByteArray}{lv:Value}{l:List Int}(e:Wy w H b c n a d lv l):l.length<=n+1:=by
 have:=zOA a n;have:=e.len;omega
theorem Row.at {w:World}{H g n c:Nat}{e:TypeId}{f:Nat->Value}(b:Row w H e (slice (qX g) n c) n f)(d:0<n):H<=g/\g<w.heap.size/\(∀i,i<n->w.cell? ⟨g,i,none⟩=some (f i))/\∀i,w.frozen? ⟨g,i,none⟩=false:=by
 obtain⟨j,r,k,l,m,s,t,o,p⟩:=b.get d;have q:j=g:=by injection k with a _ _;injection a with a;injection a with a;exact a.symm
 subst q;exact⟨l,m,o,p⟩
theorem Keep.undrew {a b:Nat}{w w':World}(c:Keep a b w.drew w'):Keep a b w w':=⟨c.os,c.output,c.size,c.block⟩
theorem zIv {w w':World}{b i:Nat}(a:w.frozen? ⟨b,i,none⟩=false)(c:b<w.heap.size)(d:Grew w w'):w'.frozen? ⟨b,i,none⟩=false:=(gY (d.block b c (by omega))).trans a
theorem zM {w:World}{H b:Nat}{e g:TypeId}{i:Nat}{v:Value}{n:Nat}{xs:List Value}{c:Array Value}(j:w.ownsRow H e i v n xs)(k:w.heap[b]? =some (.cells c g))(l:e≠g):some b≠v.ownBlock:=by
 intro d;rcases j.2 with⟨f,_⟩|⟨m,_,p,f,_,a,_⟩
 ·rw[f] at d;cases d
 ·rw[f] at d
  have o:m=b:=by simpa[Value.ownBlock] using d.symm
  subst o;rw[k] at a;injection a with a;injection a with _ a;exact l a.symm
theorem Wy.mark {w d:World}{H a b n:Nat}{o:Nat->Bool}{j:Nat->ByteArray}{lv:Value}{l:List Int}(c:Wy w H a b n o j lv l)(x:Nat)(f:ByteArray)(k:Keep (w.setCell ⟨a,x,none⟩ (bool true)).heap.size (w.setCell ⟨a,x,none⟩ (bool true)).heap.size (w.setCell ⟨a,x,none⟩ (bool true)) d):
  Row (d.setCell ⟨b,x,none⟩ (string f)) H 4 (slice (qX a) n n) n (λi=>bool (if i=x then true else o i))/\
  Row (d.setCell ⟨b,x,none⟩ (string f)) H 9 (slice (qX b) n n) n (λi=>string (if i=x then f else j i))/\
  OwnI (d.setCell ⟨b,x,none⟩ (string f)) H lv l:=by
 have q:=c.seen.set x (bool true);have r:Row (w.setCell ⟨a,x,none⟩ (bool true)) H 9 (slice (qX b) n n) n λi=>string (j i):=c.words.setOther c.seen (by decide);have s:OwnI (w.setCell ⟨a,x,none⟩ (bool true)) H lv l:=zD c.list λg _ _ m=>lJ _ _ _ _ λe=>yC (g:=g) c.list c.seen (by decide) m (by rw[e];rfl);have t:=zK q k;have b2:Row d H 9 (slice (qX b) n n) n λi=>string (j i):=zK r k;have p:=zK s k;refine⟨?_,?_,?_⟩
 ·refine Row.congr (Row.setOther (H:=H) t b2 (by decide)) λi _=>?_
  by_cases e:i=x <;> simp[e]
 ·refine Row.congr (b2.set x (string f)) λi _=>?_
  by_cases e:i=x <;> simp[e]
 ·exact zD p λg _ _ m=>lJ _ _ _ _ λe=>yC (g:=g) p b2 (by decide) m (by rw[e];rfl)
theorem Wy.more {c h:World}{o:Obj}{H m p n q cap:Nat}{a:Nat->Bool}{d:Nat->ByteArray}{r:Option Addr}{s:Nat}{l:List Int}(x:Nat)(f:ByteArray)
  (A:∀x∈l,0<=x/\x<(n:Int)) (B:l.length=1+(List.range n).countP a) (C:∀i,(d i).size<=l.length) (D:x<n) (E:a x=false) (F:f.size<=l.length+1)
  (t:Row c H 4 (slice (qX m) n n) n (λi=>bool (if i=x then true else a i)))
  (u:Row c H 9 (slice (qX p) n n) n (λi=>string (if i=x then f else d i)))
  (v:OwnI c H (slice r l.length s) l)
  (G:h.ownsRow H 3 1 (slice (qX q) (l.length+1) cap) (l.length+1) ((l.map λx=>iX x)++[iX (x:Int)]))
  (w:(c.alloc o).grownBy h (Value.ownBlock (slice r l.length s))):
  Wy h H m p n (λi=>if i=x then true else a i) (λi=>if i=x then f else d i) (slice (qX q) (l.length+1) cap) (l++[(x:Int)]):=by
 refine⟨?_,?_,OwnI.snoc G,?_,?_,?_⟩
 ·exact t.blk λg _ j k=>(w.block g (by simp;omega) (yC t v.raw (by decide) k)).trans (lG _ _ _ j)
 ·exact u.blk λg _ j k=>(w.block g (by simp;omega) (yC u v.raw (by decide) k)).trans (lG _ _ _ j)
 ·intro y b
  rcases kU.1 b with b|b
  ·exact A y b
  ·rw[kY.1 b];omega
 ·rw[kX,zNn a x n D E,B]
  simp;omega
 ·intro i
  rw[kX];show(if i=x then f else d i).size<=l.length+1;by_cases e:i=x
  ·rw[if_pos e];exact F
  ·rw[if_neg e];have:=C i;omega
theorem zMm (w:World)(aM rv aN gv:Value)(m:Sm)(aO:TblAt w aM rv m)(ak:m.Tbl)(from_:Nat)(cq:from_<m.next.length)(am ao:Nat->Bool)(bf:BoolsAt w (In w) aN m.next.length am)(bh:BoolsAt w (In w) gv m.next.length ao):
  Calls prog 146 #[agg #[aM,rv,iX m.start],iX from_,aN,gv] w λe w'=>∃(aP:ByteArray) (a:Int),e=returned (tuple #[string aP,iX a])/\aP.size<=300/\ -1<=a/\a<m.next.length/\Grew w w':=by
 obtain⟨bi,bj,bk,bl,bm⟩:=info_parts yF;obtain⟨bn,bp,bq,bs,bt⟩:=info_parts vO;obtain⟨is,bu,bv,bw,bx⟩:=info_parts zL4;obtain⟨H,y,rfl,cs,ct,bz⟩:=aO.next
 obtain⟨C,D,rfl,cu,cw,cx⟩:=aO.rules;obtain⟨bA,bB,cy,bC,rfl,_,_,bD⟩:=bf;obtain⟨bE,bF,cz,bG,rfl,_,_,bH⟩:=bh;have bI:=vl bz;have bJ:=vl bD;have bK:=vl bH;have aQ:Hid m.Tbl:=ak;have cA:=ak.most;have cB:=ak.one;generalize bL:m.next.length=n at *
 have ap:=vl bL;obtain⟨w1,aR,W,aq⟩:∃w1,w1=w.alloc (.cells #[slice H n y,slice C m.rules.length D,iX m.start] 127)/\Hid (Grew w w1/\w1.heap[w.heap.size]? =some (.cells #[slice H n y,slice C m.rules.length D,iX m.start] 127))/\w.heap.size<w1.heap.size:=
  ⟨_,rfl,⟨kZ _ _ lQ,gX w _⟩,by simp⟩
 obtain⟨w2,bM,bN,X⟩:=run_makeSlice_full (P:=prog) w1 w.heap.size 28 4 bn _ 1 underlying28 bp bq bs i64 i64 n (by omega) (by rw[bt];omega) (by unfold maxLen;omega) (by omega);have F:Grew w1 w2:=⟨X.os,X.output,X.size,λk Y _=>X.block k Y (by simp)⟩
 have aS:=lZ aq F.size;obtain⟨v,bO,bP,aa⟩:=run_makeSlice_full (P:=prog) w2 w.heap.size 108 9 is _ 1 underlying108 bu bv bw i64 i64 n (by omega) (by rw[bx];omega) (by unfold maxLen;omega) (by omega);have ab:Grew w2 v:=⟨aa.os,aa.output,aa.size,λk Y _=>aa.block k Y (by simp)⟩
 have bQ:=lZ aS ab.size;have M:Hid (Row v w.heap.size 4 (slice (qX w1.heap.size) n n) n (λ_=>bool false)/\Row v w.heap.size 9 (slice (qX w2.heap.size) n n) n (λ_=>string ⟨#[]⟩)/\Grew w v/\v.heap[w.heap.size]? =some (.cells #[slice H n y,slice C m.rules.length D,iX m.start] 127)):=by
  have aT:=bN;rw[Nat.mul_one,zAL _ rfl] at aT;have aU:=bP;rw[Nat.mul_one,zAL _ rfl] at aU;exact⟨zK aT ab,aU,(W.1.trans (F.lower (by omega) (by omega))).trans (ab.lower (by omega) (by omega)),(ab.block _ aS (by omega)).trans ((F.block _ aq (by omega)).trans W.2)⟩
 have aV:w1.cell? ⟨w.heap.size,0,none⟩=some (slice H n y):=by unfold cell?;rw[W.out.2];rfl
 have bR:=zA aV aq F;go_in;apply wp_cut;intro cC bS;go_wp2;apply bS.out;rw[<-aR];clear aR;go_wp2_with fail;clear bM bO aV bR;obtain⟨N,aW,au⟩:∃N,N=v.alloc (.cells #[iX (from_:Int)] 3)/\Hid (Wy N w.heap.size w1.heap.size w2.heap.size n (λ_=>false) (λ_=>⟨#[]⟩) (slice (qX v.heap.size) 1 1) [(from_:Int)]/\Grew w N/\N.heap[w.heap.size]? =some (.cells #[slice H n y,slice C m.rules.length D,iX m.start] 127)):=by
  have ac:Grew v (v.alloc (.cells #[iX (from_:Int)] 3)):=kZ _ _ lQ;refine⟨_,rfl,⟨zK M.1 ac,zK M.2.1 ac,?_,?_,?_,λi=>lX⟩,M.2.2.1.trans (ac.lower (by omega) (by omega)),(ac.block _ bQ (by omega)).trans M.2.2.2⟩
  ·exact⟨rfl,.inr ⟨v.heap.size,1,#[iX (from_:Int)],rfl,by omega,gX v _,lQ,by unfold maxLen;omega,rfl,rfl⟩⟩
  ·intro x ad
   rw[kY.1 ad];omega
  ·have e:(List.range n).countP (λ_=>false)=0:=by simp
   rw[e];rfl
 rw[<-aW];clear aW M W;have av:w1.heap.size≠w2.heap.size->True:=λ_=>trivial;clear av;go_loopg [12,13] (n+1) (λq aw i wr=>∃(j:Nat) (f:Nat->Bool) (d:Nat->ByteArray) (l:List Int),q=n+1-j/\j<=l.length/\i=iX (j:Int)/\Wy wr w.heap.size w1.heap.size w2.heap.size n f d aw l/\Grew w wr/\wr.heap[w.heap.size]? =some (.cells #[slice H n y,slice C m.rules.length D,iX m.start] 127))
 case atStart=>exact⟨0,_,_,_,rfl,lX,rfl,au.1,au.2.1,au.2.2⟩
 case round=>
  obtain⟨j,f,d,l,I,cD,rfl,p,A,r⟩:=hrel;have O:Hid (gk=n+1-j/\Wy wr w.heap.size w1.heap.size w2.heap.size n f d u12 l/\Grew w wr/\wr.heap[w.heap.size]? =some (.cells #[slice H n y,slice C m.rules.length D,iX m.start] 127)):=⟨I,p,A,r⟩
  have bT:=p.most;obtain⟨ae,ax,ay⟩:=p.list.form;subst ay;by_cases az:j<l.length
  ·have bU:(j:Int)<(l.length:Int):=by omega
   obtain⟨gl,rfl⟩:∃gl,ae=some ⟨gl,0,none⟩:=by
    rcases p.list.2 with⟨J,cE⟩|⟨g,_,_,J,_⟩
    ·omega
    ·injection J with J _ _
     exact⟨g,J⟩
   have aX:wr.cell? ⟨gl,j,none⟩=some (iX (l.getD j 0)):=p.list.cell j az;obtain⟨bV,bW⟩:=p.all _ (zY l j 0 az);obtain⟨s,aY⟩:∃s:Nat,l.getD j 0=(s:Int):=⟨(l.getD j 0).toNat,by omega⟩
   rw[aY] at aX bW;have af:s<n:=by omega
   have cF:(s:Int)<(n:Int):=by omega
   have bX:wr.cell? ⟨w.heap.size,0,none⟩=some (slice H n y):=by unfold cell?;rw[r];rfl
   obtain⟨b,o,u,rfl,K,aZ,a0⟩:=bI s af;have aA:=aQ.rows s (by rw[ap.out];exact af);obtain⟨aB,aC,bY,rfl,bZ,_,_,a1⟩:=a0.block (by omega);have b0:wr.cell? ⟨b,o+s,none⟩=some (slice (some ⟨aB,aC,none⟩) 256 bY):=by rw[<-aA];exact zA aZ K A
   have b1:Hid (∀i,i<256->w.cell? ⟨aB,aC+i,none⟩=some (iX ((m.next.getD s []).getD i 0))):=by
    intro i b3;exact a1 i (by rw[aA];exact b3)
   have b4:Hid (∀b,b<256->0<=(m.next.getD s []).getD b 0/\(m.next.getD s []).getD b 0<n):=λb K=>by
    have J:=aQ.to s b (by rw[ap.out];exact af) K;rw[ap.out] at J;exact J
   clear I p A r aZ a0 a1 aA aY bV;go_wp2_with fail;clear aX bX b0;go_loopg [12,43] 256 (λq aw i wr=>∃(k:Nat) (f:Nat->Bool) (d:Nat->ByteArray) (l:List Int),q=256-k/\k<=256/\i=iX (k:Int)/\j<l.length/\Wy wr w.heap.size w1.heap.size w2.heap.size n f d aw l/\Grew w wr/\wr.heap[w.heap.size]? =some (.cells #[slice (some ⟨b,o,none⟩) n y,slice C m.rules.length D,iX m.start] 127))
   case atStart=>exact⟨0,f,d,l,rfl,lX,rfl,az,O.2.1,O.2.2.1,O.2.2.2⟩
   case round=>
    obtain⟨k,f,d,l,I,Y,rfl,Q,p,A,r⟩:=hrel;have c:Hid (gk=256-k/\Wy wr w.heap.size w1.heap.size w2.heap.size n f d u12 l/\Grew w wr/\wr.heap[w.heap.size]? =some (.cells #[slice (some ⟨b,o,none⟩) n y,slice C m.rules.length D,iX m.start] 127)):=⟨I,p,A,r⟩
    have bT:=p.most;obtain⟨ae,ax,ay⟩:=p.list.form;subst ay;by_cases F:k<256
    ·have b5:(k:Int)<256:=by omega
     have a2:wr.cell? ⟨aB,aC+k,none⟩=some (iX ((m.next.getD s []).getD k 0)):=zA (b1 k F) bZ A;obtain⟨b6,b7⟩:=b4 k F;obtain⟨x,ad⟩:∃x:Nat,(m.next.getD s []).getD k 0=(x:Int):=⟨((m.next.getD s []).getD k 0).toNat,by omega⟩
     rw[ad] at a2 b6 b7;have R:x<n:=by omega
     have aD:wr.cell? ⟨bE,bF+x,none⟩=some (bool (ao x)):=zA (bK x R) bG A;have aE:wr.cell? ⟨bA,bB+x,none⟩=some (bool (am x)):=zA (bJ x R) bC A;obtain⟨s1,s2,a3,a4⟩:=p.seen.at (by omega)
     obtain⟨v1,v2,aF,a5⟩:=p.words.at (by omega)
     have S:wr.cell? ⟨w1.heap.size,x,none⟩=some (bool (f x)):=a3 x R;have b8:=a4 x;have aG:wr.cell? ⟨w2.heap.size,s,none⟩=some (string (d s)):=aF s af;have a6:wr.cell? ⟨w2.heap.size,x,none⟩=some (string (d x)):=aF x R;have a7:=a5 x;have cG:=p.size s;have a8:w.heap.size<=wr.heap.size:=Nat.le_of_lt (Nat.lt_of_le_of_lt s1 s2);have av:w1.heap.size≠w2.heap.size:=λe=>yC (g:=w1.heap.size) p.seen p.words (by decide) rfl (by rw[e];rfl);have b9:Hid (f x=f x):=rfl;clear I A r ad b9 a3 a4 aF a5;cases ag:ao x with
     |true=>
      rw[ag] at aD;clear ag;go_wp2_with fail;have G:Hid (w2.heap.size<wr.heap.size/\wr.cell? ⟨w2.heap.size,s,none⟩=some (string (d s))):=⟨v2,aG⟩
      go_region_with ((go_at_call 150;go_must ((refine (zDy _ k F).mono ?_;rintro e ca ⟨rfl,a9⟩;have q5:ca.cell? ⟨w2.heap.size,s,none⟩=some (string (d s)):=zA (w:=wr.drew) G.2 G.1 a9))))
      all_goals first
       |omega
       |(go_wp2_with fail;go_ret2;refine⟨_,_,rfl,?_,by omega,by omega,c.2.2.1.trans ((Keep.undrew a9).lower a8 a8)⟩;rw[ByteArray.size_append];show _+1<=300;omega)
     |false=>
      rw[ag] at aD;clear ag;cases ah:am x with
      |false=>
       rw[ah] at aE;clear ah;cases E:f x with
       |true=>
        rw[E] at S;clear E;go_wp2_with fail;go_roundg (256-(k+1))
        case measure=>rw[c.out.1];omega
        case rel=>exact⟨k+1,f,d,l,rfl,by omega,by go_num,Q,c.2.1,c.2.2.1,c.2.2.2⟩
       |false=>
        rw[E] at S;clear E;go_wp2_with fail;go_roundg (256-(k+1))
        case measure=>rw[c.out.1];omega
        case rel=>exact⟨k+1,f,d,l,rfl,by omega,by go_num,Q,c.2.1,c.2.2.1,c.2.2.2⟩
      |true=>
       rw[ah] at aE;clear ah;cases E:f x with
       |true=>
        rw[E] at S;clear E;go_wp2_with fail;go_roundg (256-(k+1))
        case measure=>rw[c.out.1];omega
        case rel=>exact⟨k+1,f,d,l,rfl,by omega,by go_num,Q,c.2.1,c.2.2.1,c.2.2.2⟩
       |false=>
        rw[E] at S;have cb:Hid (f x=false):=E;clear E;by_cases aH:x=from_
        ·have cc:((x:Int) != (from_:Int))=false:=by simp[aH]
         clear aH;go_wp2_with fail;go_roundg (256-(k+1))
         case measure=>rw[c.out.1];omega
         case rel=>exact⟨k+1,f,d,l,rfl,by omega,by go_num,Q,c.2.1,c.2.2.1,c.2.2.2⟩
        ·have cc:((x:Int) != (from_:Int))=true:=by simp;omega
         clear aH;go_wp2_with fail;obtain⟨t,aI,cd,q2,q3,q4⟩:∃t,t=wr.setCell ⟨w1.heap.size,x,none⟩ (bool true)/\t.cell? ⟨w2.heap.size,s,none⟩=some (string (d s))/\t.cell? ⟨w2.heap.size,x,none⟩=some (string (d x))/\t.frozen? ⟨w2.heap.size,x,none⟩=false/\w2.heap.size<t.heap.size:=by
          have K:(wr.setCell ⟨w1.heap.size,x,none⟩ (bool true)).heap[w2.heap.size]? =wr.heap[w2.heap.size]? :=lJ _ _ _ _ av.symm;exact⟨_,rfl,(gZ K).trans aG,(gZ K).trans a6,(gY K).trans a7,by simpa[World.setCell] using v2⟩
         rw[<-aI];have ce:Hid (t=wr.setCell ⟨w1.heap.size,x,none⟩ (bool true)):=aI;clear aI aG a6 a7 S b8 aE aD a2;have G:Hid (w2.heap.size<t.heap.size/\t.cell? ⟨w2.heap.size,s,none⟩=some (string (d s))/\t.cell? ⟨w2.heap.size,x,none⟩=some (string (d x))/\t.frozen? ⟨w2.heap.size,x,none⟩=false):=⟨q4,cd,q2,q3⟩
         have cH:((⟨#[UInt8.ofNat k]⟩:ByteArray)).size=1:=rfl;go_region_with ((go_at_call 150;go_must ((refine (zDy _ k F).mono ?_;rintro e T ⟨rfl,U⟩;have q5:T.cell? ⟨w2.heap.size,s,none⟩=some (string (d s)):=zA (w:=t.drew) G.2.1 G.1 U;have q6:T.cell? ⟨w2.heap.size,x,none⟩=some (string (d x)):=zA (w:=t.drew) G.2.2.1 G.1 U;have cf:T.frozen? ⟨w2.heap.size,x,none⟩=false:=zIv (w:=t.drew) G.2.2.2 G.1 U))))
         all_goals
          obtain⟨B,ba,L,bb⟩:∃B,B=T.setCell ⟨w2.heap.size,x,none⟩ (string (d s++⟨#[UInt8.ofNat k]⟩))/\Hid ((Row B w.heap.size 4 (slice (qX w1.heap.size) n n) n (λi=>bool (if i=x then true else f i))/\Row B w.heap.size 9 (slice (qX w2.heap.size) n n) n (λi=>string (if i=x then d s++⟨#[UInt8.ofNat k]⟩ else d i))/\OwnI B w.heap.size (slice ae l.length ax) l)/\Grew w B/\B.heap[w.heap.size]? =some (.cells #[slice (some ⟨b,o,none⟩) n y,slice C m.rules.length D,iX m.start] 127))/\w.heap.size<B.heap.size:=by
           have ch:=ce.out;subst ch;have r:=c.2.2.2;have ai:Keep (wr.setCell ⟨w1.heap.size,x,none⟩ (bool true)).heap.size (wr.setCell ⟨w1.heap.size,x,none⟩ (bool true)).heap.size (wr.setCell ⟨w1.heap.size,x,none⟩ (bool true)) T:=Keep.undrew U;have V:(wr.setCell ⟨w1.heap.size,x,none⟩ (bool true)).heap.size=wr.heap.size:=by simp[World.setCell]
           have ci:w.heap.size≠w1.heap.size:=λe=>zM c.2.1.seen r (by decide) (by rw[e];rfl);have cj:w.heap.size≠w2.heap.size:=λe=>zM c.2.1.words r (by decide) (by rw[e];rfl);refine⟨_,rfl,⟨c.2.1.mark x _ ai,?_,?_⟩,?_⟩
           ·exact((c.2.2.1.trans (zP _ _ _ _ (by omega))).trans (ai.lower (by rw[V];omega) (by rw[V];omega))).trans (zP _ _ _ _ (by omega))
           ·refine(lJ _ _ _ _ cj).trans ((ai.block _ (by rw[V];omega) (by rw[V];omega)).trans ((lJ _ _ _ _ ci).trans r))
           ·have:=ai.size
            rw[V] at this;simp[World.setCell];omega
          rw[<-ba];clear ba q5 q6 cf U;have aJ:Hid (B.ownsRow w.heap.size 3 1 (slice ae l.length ax) l.length (l.map λx=>iX x)):=L.1.2.2;have ck:w.heap.size<=B.heap.size:=Nat.le_of_lt bb;go_wp2_with (first|(at_builtin;refine wpList_append_lies _ rfl _ _ 45 rfl (w.heap.size) 3 bi (iX 0) 1 8 underlying45 bj bk bl bm rfl (by decide) _ _ _ rfl (aJ.alloc _) ⟨B.heap.size,0,none⟩ 1 1 [iX (x:Int)] rfl rfl (cell_one_new _ _ _) (by intro u bc;simp at bc;subst bc;rfl) (by decide) (by unfold maxLen;omega) (by omega) (by simp;omega) _ rfl ?_;intro cm cap aK bd aj cp cI;have be:=xF aJ aj ck))
          have aL:Hid (Wy aK w.heap.size w1.heap.size w2.heap.size n (λi=>if i=x then true else f i) (λi=>if i=x then d s++⟨#[UInt8.ofNat k]⟩ else d i) (slice (qX cm) (l.length+1) cap) (l++[(x:Int)])/\Grew w aK/\aK.heap[w.heap.size]? =some (.cells #[slice (some ⟨b,o,none⟩) n y,slice C m.rules.length D,iX m.start] 127)):=by
           have r:=L.2.2;refine⟨Wy.more x _ c.2.1.all c.2.1.len c.2.1.size R cb ?_ L.1.1 L.1.2.1 L.1.2.2 bd aj,L.2.1.trans (xD be),(aj.block _ (by simp;omega) (zM aJ r (by decide))).trans ((lG _ _ _ bb).trans r)⟩;rw[ByteArray.size_append];show _+1<=_;omega
          clear bd aj be cp;go_wp2_with fail;go_roundg (256-(k+1))
          case measure=>rw[c.out.1];omega
          case rel=>exact⟨k+1,_,_,_,rfl,by omega,by go_num,by rw[kX];omega,aL.1,aL.2.1,aL.2.2⟩
    ·have b5:(256:Int)<=(k:Int):=by omega
     clear I A r;go_wp2_with fail;go_roundg (n+1-(j+1))
     case measure=>rw[O.out.1];omega
     case rel=>exact⟨j+1,f,d,l,rfl,Q,by go_num,c.2.1,c.2.2.1,c.2.2.2⟩
  ·have bU:(l.length:Int)<=(j:Int):=by omega
   clear I A r;go_wp2_with fail;go_ret2
   exact⟨⟨#[]⟩,-1,rfl,lX,by omega,by omega,O.2.2.1⟩
structure Boxed (w w':World)(b:Nat)(nv rv:Value)(m:Sm):Prop where
 c0:w'.cell? ⟨b,0,none⟩=some nv
 c1:w'.cell? ⟨b,1,none⟩=some rv
 c2:w'.cell? ⟨b,2,none⟩=some (int i64 m.start)
 keep:Grew w w'
 lt:b<w'.heap.size
theorem Boxed.made (w:World)(a rv:Value)(m:Sm):Boxed w (w.alloc (.cells #[a,rv,iX m.start] 127)) w.heap.size a rv m:=by
 have b:=gX w (.cells #[a,rv,iX m.start] 127);refine⟨?_,?_,?_,kZ _ _ lQ,by simp⟩ <;> ·unfold cell?;rw[b];rfl
theorem Boxed.grown {w w' w2:World}{b:Nat}{d rv:Value}{m:Sm}(a:Boxed w w' b d rv m)(c:Grew w' w2):Boxed w w2 b d rv m:=
 ⟨zA a.c0 a.lt c,zA a.c1 a.lt c,zA a.c2 a.lt c,a.keep.trans (c.lower a.keep.size a.keep.size),lZ a.lt c.size⟩
theorem Boxed.drew {w w':World}{b:Nat}{c rv:Value}{m:Sm}(a:Boxed w w' b c rv m):Boxed w w'.drew b c rv m:=⟨a.c0,a.c1,a.c2,a.keep.trans (Keep.drew _),a.lt⟩
theorem Boxed.living {w w':World}{a rv:Value}{m:Sm}(i:TblAt w a rv m)(d:m.Tbl)(b:Nat)(f:Boxed w w' b a rv m):
  Calls prog 144 #[agg #[a,rv,iX m.start]] w' λe c=>∃u,e=returned u/\BoolsAt c (In c) u m.next.length zCB/\Boxed w c b a rv m/\Grew w' c:=by
 refine(zIi w' a rv m (i.grown f.keep) d).mono ?_;rintro e w2 ⟨u,rfl,j,g⟩;exact⟨u,rfl,j.at d.one,f.grown g,g⟩
theorem Boxed.only {w w':World}{a rv:Value}{m:Sm}(i:TblAt w a rv m)(d:m.Tbl)(one b:Nat)(f:Boxed w w' b a rv m):
  Calls prog 148 #[agg #[a,rv,iX m.start],iX one] w' λe c=>∃u,e=returned u/\BoolsAt c (In c) u m.next.length (zCA one)/\Boxed w c b a rv m/\Grew w' c:=by
 refine(zK0 w' a rv m (i.grown f.keep) d one).mono ?_;rintro e w2 ⟨u,rfl,j,g⟩;exact⟨u,rfl,j.at d.one,f.grown g,g⟩
theorem Boxed.tokens {w w':World}{a rv:Value}{m:Sm}(j:TblAt w a rv m)(d:m.Tbl)(b:Nat)(f:Boxed w w' b a rv m):
  Calls prog 140 #[agg #[a,rv,iX m.start]] w' λe c=>∃u,e=returned u/\BoolsAt c (In c) u m.next.length (zDd m)/\Boxed w c b a rv m/\Grew w' c:=by
 refine(zDQ w' a rv m (j.grown f.keep) d).mono ?_;rintro e w2 ⟨u,rfl,g,i⟩;rw[d.rules] at g;exact⟨u,rfl,g.at d.one,f.grown i,i⟩
theorem Boxed.way {w w':World}{c rv f gv:Value}{m:Sm}(o:TblAt w c rv m)(p:m.Tbl)(b from_:Nat)(q:from_<m.next.length)(g i:Nat->Bool)(j:Boxed w w' b c rv m)(r:BoolsAt w' (In w') f m.next.length g)(s:BoolsAt w' (In w') gv m.next.length i):
  Calls prog 146 #[agg #[c,rv,iX m.start],iX from_,f,gv] w' λe k=>∃(d:ByteArray) (a:Int),e=returned (tuple #[string d,iX a])/\d.size<=300/\ -1<=a/\a<m.next.length/\Boxed w k b c rv m/\Grew w' k:=by
 refine(zMm w' c rv f gv m (o.grown j.keep) p from_ q g i r s).mono ?_;rintro e w2 ⟨d,a,rfl,t,u,v,l⟩;exact⟨d,a,rfl,t,u,v,j.grown l,l⟩
theorem zFs (w:World)(b rv g:Value)(m:Sm)(i:TblAt w b rv m)(j:m.Tbl)(s:Nat)(l:s<m.next.length)(k:Nat->Bool)(o:BoolsAt w (In w) g m.next.length k):
  Calls prog 180 #[agg #[b,rv,iX m.start],iX s,g] w λe w'=>∃x:Bool,e=returned (bool x)/\Grew w w':=by
 have c:=Boxed.made w b rv m;have p:Hid (∀w',Boxed w w' w.heap.size b rv m->_):=λw' d=>Boxed.only (w':=w') i j s w.heap.size d;have q:Hid (∀w' gv,Boxed w w' w.heap.size b rv m->BoolsAt w' (In w') gv m.next.length (zCA s)->_):=λw' gv d r=>Boxed.way (w':=w') (gv:=gv) i j w.heap.size s l k (zCA s) d (o.grown d.keep) r;go_in;apply wp_cut;intro B t;go_wp2;apply t.out;generalize w.alloc (.cells #[b,rv,iX m.start] 127)=w1 at *;have C:=c.c0;have D:=c.c1;have E:=c.c2;have v:=vl c;go_wp2;go_region_with ((first|(go_at_call 148;go_must ((refine (p _ v.drew).mono ?_;rintro e F ⟨u,rfl,y,f,-⟩;have G:=f.c0;have H:=f.c1;have I:=f.c2)))|(go_at_call 146;go_must ((refine (q _ _ f y).mono ?_;rintro e J ⟨K,a,rfl,L,M,N,A,-⟩)))))
 all_goals
  go_wp2;go_ret;exact⟨_,rfl,A.keep⟩
theorem zDN (w:World)(b rv:Value)(m:Sm)(l:TblAt w b rv m)(o:m.Tbl)(p:Nat)(q:m.start=(p:Int))(E:p<m.next.length)(s:Nat):
  Calls prog 147 #[agg #[b,rv,iX m.start],iX s] w λe w'=>∃f:ByteArray,e=returned (string f)/\f.size<=300/\Grew w w':=by
 have j:=Boxed.made w b rv m;have F:Hid (∀w',Boxed w w' w.heap.size b rv m->_):=λw' c=>Boxed.only (w':=w') l o s w.heap.size c;have G:Hid (∀w',Boxed w w' w.heap.size b rv m->_):=λw' c=>Boxed.living (w':=w') l o w.heap.size c;have r:Hid (∀w' d gv,Boxed w w' w.heap.size b rv m->BoolsAt w' (In w') d m.next.length zCB->BoolsAt w' (In w') gv m.next.length (zCA s)->_):=λw' d gv c t u=>Boxed.way (w':=w') (gv:=gv) l o w.heap.size p E zCB (zCA s) c t u;have L:=vl q;have r:Hid (∀w' d gv,Boxed w w' w.heap.size b rv m->BoolsAt w' (In w') d m.next.length zCB->BoolsAt w' (In w') gv m.next.length (zCA s)->Ca 146 #[agg #[b,rv,iX m.start],iX m.start,d,gv] w' λe A=>∃(f:ByteArray) (a:Int),e=returned (tuple #[string f,iX a])/\f.size<=300/\ -1<=a/\a<m.next.length/\Boxed w A w.heap.size b rv m/\Grew w' A):=by
  intro w' d gv c t u;have c:=r w' d gv c t u;rw[<-q] at c;exact c
 clear q;go_in;apply wp_cut;intro M H;go_wp2;apply H.out;generalize w.alloc (.cells #[b,rv,iX m.start] 127)=w1 at *;have N:=j.c0;have O:=j.c1;have P:=j.c2;have B:=vl j;go_wp2;go_region_held3 (λw'=>cX w' w.heap.size 0=some b/\cX w' w.heap.size 1=some rv/\cX w' w.heap.size 2=some (iX m.start)) (first|exact⟨v,x,y⟩|go_keep) (first|(go_at_call 144;go_must ((refine (G _ (by first|exact g|exact B.drew)).mono ?_;rintro e Q ⟨R,rfl,C,i,I⟩;have v:=i.c0;have x:=i.c1;have y:=i.c2)))|(go_at_call 148;go_must ((refine (F _ (by first|exact i|exact B.drew)).mono ?_;rintro e S ⟨T,rfl,D,g,J⟩;have v:=g.c0;have x:=g.c1;have y:=g.c2)))|(go_at_call 146;go_must ((refine (r _ _ _ (by first|exact g|exact i) (by first|exact C|exact C.grown J) (by first|exact D|exact D.grown I)).mono ?_;rintro e U ⟨f,a,rfl,K,V,W,k,-⟩;have v:=k.c0;have x:=k.c1;have y:=k.c2))))
 all_goals
  go_wp2;go_ret;exact⟨_,rfl,K,k.keep⟩
theorem OwnF.more {w:World}{H g cap n:Nat}{f:Nat->Bool}{x:Bool}(a:w.ownsRow H 4 1 (slice (qX g) (n+1) cap) (n+1) ((List.range n).map (λi=>bool (f i))++[bool x])):OwnF w H (slice (qX g) (n+1) cap) (n+1) (λi=>if i=n then x else f i):=by
 refine OwnF.snoc ?_ (if_pos rfl);have e:(List.range n).map (λi=>Value.bool (if i=n then x else f i))=(List.range n).map (λi=>Value.bool (f i)):=by
  apply List.map_congr_left;intro i b;have:=List.mem_range.1 b;rw[if_neg (by omega)]
 rw[e];exact a
theorem Boxed.below {w w' w2:World}{b:Nat}{d rv:Value}{m:Sm}(c:Boxed w w' b d rv m)(f:w.heap.size<=b)(a:Below (b+1) w' w2):Boxed w w2 b d rv m:=by
 have e:=a.block b (Nat.lt_succ_self b);exact⟨(gZ e).trans c.c0,(gZ e).trans c.c1,(gZ e).trans c.c2,c.keep.trans ⟨a.os,a.output,a.size,λk g _=>a.block k (by omega)⟩,lZ c.lt a.size⟩
theorem zF1 (w:World)(a rv k:Value)(m:Sm)(N:TblAt w a rv m)(l:m.Tbl)(o:Nat->Bool)(A:BoolsAt w (In w) k m.next.length o):
  Calls prog 145 #[agg #[a,rv,iX m.start],k] w λe w'=>∃u f,e=returned u/\OwnF w' w.heap.size u m.next.length f/\Grew w w':=by
 obtain⟨B,C,D,E,F⟩:=info_parts vO;have O:=Boxed.made w a rv m;obtain⟨ai,aj,ak,P,Q,_,_,R⟩:=id A;have S:Hid (∀w' s,Boxed w w' w.heap.size a rv m->s<m.next.length->Ca 180 #[agg #[a,rv,iX m.start],iX s,k] w' λe w2=>∃x:Bool,e=returned (bool x)/\Boxed w w2 w.heap.size a rv m/\Grew w' w2):=by
  intro w' s p G;refine(zFs w' a rv k m (N.grown p.keep) l s G o (A.grown p.keep)).mono ?_;rintro e w2 ⟨x,rfl,H⟩;exact⟨x,rfl,p.grown H,H⟩
 have T:=vl R;have al:=l.most;have am:=l.one;subst Q;generalize m.next.length=n at *
 go_in;apply wp_cut;intro an U;go_wp2;apply U.out;generalize w.alloc (.cells #[a,rv,iX m.start] 127)=w1 at *;have V:=vl O;go_wp2;go_loopg [5,10] n (λq W i wr=>∃(s:Nat) (f:Nat->Bool),q=n-s/\s<=n/\i=iX (s:Int)/\OwnF wr (w.heap.size+1) W s f/\Boxed w wr w.heap.size a rv m)
 case atStart=>exact⟨0,λ_=>false,rfl,lX,rfl,ownsRow_nil _ _ _ _,V⟩
 case round=>
  obtain⟨s,f,X,G,rfl,I,c⟩:=hrel;have b:Hid (gk=n-s/\OwnF wr (w.heap.size+1) u5 s f/\Boxed w wr w.heap.size a rv m):=⟨X,I,c⟩
  obtain⟨ao,cap,Y⟩:=I.form;subst Y;by_cases J:s<n
  ·have aa:(s:Int)<(n:Int):=by omega
   have K:=zA (T s J) P c.keep;have ap:=c.c0;have aq:=c.c1;have ar:=c.c2;have ab:=c.lt;cases L:o s with
   |false=>
    rw[L] at K;have d:=vl b.2.1;go_wp2_with (first|(at_builtin;refine wpList_append_lies _ rfl _ _ 28 rfl (w.heap.size+1) 4 B (bool false) 1 1 underlying28 C D E F rfl (by decide) _ _ _ rfl (d.alloc _) ⟨wr.heap.size,0,none⟩ 1 1 [bool false] rfl rfl (cell_one_new _ _ _) (by intro u g;simp at g;subst g;rfl) (by decide) (by unfold maxLen;omega) (by omega) (by simp;omega) _ rfl ?_;intro r t w2 v y ac ad;have z:=xF d y ab))
    have j:Hid (OwnF w2 (w.heap.size+1) (slice (qX r) (s+1) t) (s+1) (λi=>if i=s then false else f i)/\Boxed w w2 w.heap.size a rv m):=⟨OwnF.more v,b.2.2.below lQ z⟩
    go_wp2;go_roundg (n-(s+1))
    case measure=>rw[b.out.1];omega
    case rel=>exact⟨s+1,_,rfl,by omega,by go_num,j.1,j.2⟩
   |true=>
    rw[L] at K;go_wp2_with (first|(go_at_call 180;refine(S _ s b.2.2 J).mono ?_;rintro e ae ⟨x,rfl,M,af⟩;have d:=vl <| zK b.2.1 af;have ag:=M.lt)|(at_builtin;refine wpList_append_lies _ rfl _ _ 28 rfl (w.heap.size+1) 4 B (bool false) 1 1 underlying28 C D E F rfl (by decide) _ _ _ rfl (d.alloc _) ⟨ae.heap.size,0,none⟩ 1 1 [bool x] rfl rfl (cell_one_new _ _ _) (by intro u g;simp at g;subst g;rfl) (by decide) (by unfold maxLen;omega) (by omega) (by simp;omega) _ rfl ?_;intro r t w2 v y ac ad;have z:=xF d y ag))
    have j:Hid (OwnF w2 (w.heap.size+1) (slice (qX r) (s+1) t) (s+1) (λi=>if i=s then x else f i)/\Boxed w w2 w.heap.size a rv m):=⟨OwnF.more v,M.below lQ z⟩
    go_wp2;go_roundg (n-(s+1))
    case measure=>rw[b.out.1];omega
    case rel=>exact⟨s+1,_,rfl,by omega,by go_num,j.1,j.2⟩
  ·have ah:s=n:=by omega
   have aa:(n:Int)<=(s:Int):=by omega
   subst ah;go_wp2;go_ret;exact⟨_,_,rfl,Row.mono b.2.1 (Nat.le_succ _),b.2.2.keep⟩
end Go.Proofs.YtbjcfkdnjaiclaaGreat
