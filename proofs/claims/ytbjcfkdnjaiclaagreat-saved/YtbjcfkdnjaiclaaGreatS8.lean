import Derived.Deep.RegionHeld3
import Derived.Test.YtbjcfkdnjaiclaaGreatS0
import Derived.Test.YtbjcfkdnjaiclaaGreatS7
/- Parts of the proof. -/
set_option linter.unusedVariables false
set_option linter.unusedSimpArgs false
set_option maxHeartbeats 4000000
set_option maxRecDepth 100000
namespace Go.Proofs.YtbjcfkdnjaiclaaGreat
open Go.RowKit Go.Proofs.Tryz Go.World
open Go.Value (int slice bool pointer string agg tuple)
open Go.IntKind (i64)
open Go.Ending (returned)
theorem zDZ {b:Func}{t u v x:Tmp}(c:b.results=#[.tmp t,.tmp u,.tmp v,.tmp x])(a:Array Value)(P:Program)(w:World):
  (results b a).run P w=.ok (tuple #[a.getD t undef,a.getD u undef,a.getD v undef,a.getD x undef]) w:=by
 simp[results,c]
structure Ra (w w':World)(nv rv ev ov kv:Value)(m:Sm)(n:Nat)(fe fo fk:Nat->Bool):Prop where
 box:Boxed w w' w.heap.size nv rv m
 ends:BoolsAt w' (In w') ev n fe
 open_:BoolsAt w' (In w') ov n fo
 rounds:BoolsAt w' (In w') kv n fk
theorem Ra.grown {w w' w2:World}{c rv d e f:Value}{m:Sm}{n:Nat}{g i j:Nat->Bool}(a:Ra w w' c rv d e f m n g i j)(b:Grew w' w2):Ra w w2 c rv d e f m n g i j:=⟨a.box.grown b,a.ends.grown b,a.open_.grown b,a.rounds.grown b⟩
theorem Ra.drew {w w':World}{b rv c d e:Value}{m:Sm}{n:Nat}{f g i:Nat->Bool}(a:Ra w w' b rv c d e m n f g i):Ra w w'.drew b rv c d e m n f g i:=⟨a.box.drew,a.ends,a.open_,a.rounds⟩
theorem zEx (w:World)(b rv:Value)(m:Sm)(o:TblAt w b rv m)(g:m.Tbl)(ab:Nat)(aq:m.start=(ab:Int))(E:ab<m.next.length):
  Calls prog 105 #[agg #[b,rv,iX m.start]] w λe w'=>∃a x y r:ByteArray,e=returned (tuple #[string a,string x,string y,string r])/\(a.size<=300/\x.size<=300/\y.size<=300/\r.size<=300)/\Grew w w':=by
 have F:=Boxed.made w b rv m;have bc:=g.most;have ar:=g.one;have aP:Hid (∀w',Boxed w w' w.heap.size b rv m->_):=λw' j=>Boxed.tokens (w':=w') o g w.heap.size j;have aQ:Hid (∀w',Boxed w w' w.heap.size b rv m->_):=λw' j=>Boxed.living (w':=w') o g w.heap.size j;have aR:Hid (∀(w':World) O P Q R,BoolsAt w' (In w') O m.next.length Q->BoolsAt w' (In w') P m.next.length R->Ca 143 #[O,P] w' λe w2=>∃u,e=returned u/\BoolsAt w2 (In w2) u m.next.length (vX Q R)/\Grew w' w2):=by
  intro w' O P Q R ar ac;refine(zDf w' O P m.next.length Q R ar ac g.most).mono ?_;rintro e w2 ⟨u,rfl,ad,S⟩;exact⟨u,rfl,ad.at g.one,S⟩
 have aS:Hid (∀w' d k,Boxed w w' w.heap.size b rv m->BoolsAt w' (In w') d m.next.length k->Ca 145 #[agg #[b,rv,iX m.start],d] w' λe w2=>∃u f,e=returned u/\BoolsAt w2 (In w2) u m.next.length f/\Boxed w w2 w.heap.size b rv m/\Grew w' w2):=by
  intro w' d k j ac;refine(zF1 w' b rv d m (o.grown j.keep) g k ac).mono ?_;rintro e w2 ⟨u,f,rfl,ad,S⟩;exact⟨u,f,rfl,ad.at g.one,j.grown S,S⟩
 have ae:Hid (∀w' s d gv k af,s<m.next.length->Boxed w w' w.heap.size b rv m->BoolsAt w' (In w') d m.next.length k->BoolsAt w' (In w') gv m.next.length af->_):=λw' s d gv k af au j aT aU=>Boxed.way (w':=w') (gv:=gv) o g w.heap.size s au k af j aT aU;have aV:Hid (∀w' s,Boxed w w' w.heap.size b rv m->Ca 147 #[agg #[b,rv,iX m.start],iX ((s:Nat):Int)] w' λe w2=>∃r:ByteArray,e=returned (string r)/\r.size<=300/\Grew w' w2):=λw' s j=>zDN w' b rv m (o.grown j.keep) g ab aq E s;have aW:Hid (∀w' s,Boxed w w' w.heap.size b rv m->_):=λw' s j=>Boxed.only (w':=w') o g s w.heap.size j;clear o g aq E;generalize av:m.next.length=n at *
 have bd:Hid (m.next.length=n):=av;clear av;go_enter func105,ntmps105
 refine wp_seq_k ?_;intro aX hK0;have aw:Hid (∀a w,_->aX a w):=hK0;clear hK0;go_wp2_with fail;apply aw.out;clear aw;generalize w.alloc (.cells #[b,rv,iX m.start] 127)=w1 at *;have ag:=F.c0;have ah:=F.c1;have ai:=F.c2;have aY:Hid (Boxed w w1 w.heap.size b rv m):=F;clear F;go_wp2_with (first|(go_at_call 140;refine(aP _ aY).mono ?_;rintro e w2 ⟨bf,rfl,T,G,-⟩;obtain⟨t,v,H,aZ,rfl,-⟩:=id T;have A:=G.c0;have B:=G.c1;have C:=G.c2)|(go_at_call 144;refine(aQ _ G).mono ?_;rintro e bg ⟨lv,rfl,ax,ay,aj⟩)|(go_at_call 143;refine(aR _ _ _ _ _ ax (T.grown aj)).mono ?_;rintro e bh ⟨d,rfl,ak,al⟩;have I:=ay.grown al;have az:=I.c0;have aA:=I.c1;have aB:=I.c2)|(go_at_call 145;refine(aS _ _ _ I ak).mono ?_;rintro e a0 ⟨J,K,rfl,aC,aD,am⟩))
 have a1:Hid (Ra w a0 b rv (slice (some ⟨t,v,none⟩) n H) d J m n (zDd m) (vX zCB (zDd m)) K):=⟨aD,((T.grown aj).grown al).grown am,ak.grown am,aC⟩
 clear A B C az aA aB ag ah ai G ay I aD aj al am ax ak aC T aZ;generalize vX zCB (zDd m)=k at *;generalize zDd m=D at *;go_loopg [29] n (λq i wr=>∃s:Nat,q=n-s/\s<=n/\i=iX (s:Int)/\Ra w wr b rv (slice (some ⟨t,v,none⟩) n H) d J m n D k K)
 case atStart=>exact⟨0,rfl,lX,rfl,a1⟩
 case round=>
  obtain⟨s,an,au,rfl,p⟩:=hrel;have l:Hid (gk=n-s/\Ra w wr b rv (slice (some ⟨t,v,none⟩) n H) d J m n D k K):=⟨an,p⟩
  by_cases E:s<n
  ·have a2:(s:Int)<(n:Int):=by omega
   have ao:cX wr t (v+s)=some (bool (D s)):=by
    obtain⟨bi,bj,bk,_,a3,_,_,a4⟩:=p.ends;injection a3 with L _ _;injection L with L;injection L with L a5;rw[L,a5];exact a4 s E
   have ag:=p.box.c0;have ah:=p.box.c1;have ai:=p.box.c2;clear an p;cases U:D s with
   |false=>
    rw[U] at ao;clear U;go_wp2_with fail;go_roundg (n-(s+1))
    case measure=>rw[l.out.1];omega
    case rel=>exact⟨s+1,rfl,by omega,by go_num,l.2⟩
   |true=>
    rw[U] at ao;clear U;go_wp2_with (first|(go_at_call 146;refine(ae _ s _ _ _ _ E l.2.box l.2.open_ l.2.rounds).mono ?_;rintro e bl ⟨x,at_,rfl,aE,a6,a7,M,aF⟩;have A:=M.c0;have B:=M.c1;have C:=M.c2;have ap:=l.2.grown aF)|(go_at_call 147;refine(aV _ s M).mono ?_;rintro e a8 ⟨a,rfl,V,aG⟩))
    ·go_roundg (n-(s+1))
     case measure=>rw[l.out.1];omega
     case rel=>exact⟨s+1,rfl,by omega,by go_num,ap⟩
    ·have bm:0<=at_:=by omega
     obtain⟨c,rfl⟩:∃c:Nat,at_=(c:Int):=⟨at_.toNat,by omega⟩
     have aH:c<n:=by omega
     have N:=ap.grown aG;have aI:Hid (Ra w a8 b rv (slice (some ⟨t,v,none⟩) n H) d J m n D k K):=N;have az:=N.box.c0;have aA:=N.box.c1;have aB:=N.box.c2;have aJ:Hid (a.size<=300/\x.size<=300):=⟨V,aE⟩
     clear A B C aF aG M ap N ao ag ah ai V aE a6 a7;go_region_held3 (λw'=>cX w' w.heap.size 0=some b/\cX w' w.heap.size 1=some rv/\cX w' w.heap.size 2=some (iX m.start)) (first|exact⟨A,B,C⟩|go_keep) (first|(go_at_call 148;refine(aW _ c aI.drew.box).mono ?_;rintro e bn ⟨bo,rfl,aK,W,aL⟩;have X:=aI.drew.grown aL;have A:=W.c0;have B:=W.c1;have C:=W.c2)|(go_at_call 146;refine(ae _ c _ _ _ _ aH X.box X.open_ aK).mono ?_;rintro e ba ⟨y,bp,rfl,aM,-,-,Y,aN⟩;have A:=Y.c0;have B:=Y.c1;have C:=Y.c2))
     all_goals
      have aO:=X.grown aN;have aa:Hid (Ra w ba b rv (slice (some ⟨t,v,none⟩) n H) d J m n D k K/\y.size<=300):=⟨aO,aM⟩
      clear W aL Y aN aK X aO aM;go_wp2_with (first|(go_at_call 146;refine(ae _ c _ _ _ _ aH aa.1.box aa.1.open_ aa.1.ends).mono ?_;rintro e bq ⟨r,br,rfl,V,-,-,bb,-⟩))
      (try simp only[Exit.inBlock,Exit.then])
      refine gV (zDZ rfl _ _ _) rfl ?_;exact⟨_,_,_,_,rfl,⟨aJ.1,aJ.2,aa.2,V⟩,bb.keep⟩
  ·have a2:(n:Int)<=(s:Int):=by omega
   clear an p;go_wp2_with fail
   (try simp only[Exit.inBlock,Exit.then])
   refine gV (zDZ rfl _ _ _) rfl ?_;exact⟨_,_,_,_,rfl,⟨lX,lX,lX,lX⟩,l.2.box.keep⟩
theorem FrontsAt.open_ {w:World}{H a:Nat}{v:Value}{m:Sm}(f:FrontsAt w H v a m)(j:0<a)(k:1<=m.next.length):∃g c,v=slice (qX g) a c/\g<w.heap.size/\∀i,i<a->∃u,w.cell? ⟨g,i,none⟩=some u/\BoolsAt w (In w) u m.next.length (qC m i):=by
 obtain⟨rv,b,l⟩:=f;have b:Row w H 28 v a rv:=b;obtain⟨g,cap,o,r,p,s,t,q,x⟩:=b.get j;exact⟨g,cap,o,p,λi e=>⟨rv i,q i e,(l i e).at k⟩⟩
theorem zKZ (w:World)(o rv L:Value)(m:Sm)(F:TblAt w o rv m)(y:m.Tbl)(M:Nat)(V:m.start=(M:Int))(W:M<m.next.length)(ah l:Nat)(X:FrontsAt w ah L l m)(aN:l<=m.next.length):
  Calls prog 106 #[agg #[o,rv,iX m.start],L] w λe w'=>∃a x:ByteArray,e=returned (tuple #[string a,string x])/\(a.size<=300/\x.size<=600)/\Grew w w':=by
 have B:=Boxed.made w o rv m;have aO:=y.most;have ai:=y.one;have aj:Hid (∀w' v f,Boxed w w' w.heap.size o rv m->BoolsAt w' (In w') v m.next.length f->Ca 141 #[agg #[o,rv,iX m.start],v] w' λe w2=>∃u,e=returned u/\BoolsAt w2 (In w2) u m.next.length (jP m f)/\Boxed w w2 w.heap.size o rv m/\Grew w' w2):=by
  intro w' v f p N;refine(zDi w' o rv v m (F.grown p.keep) y f N).mono ?_;rintro e w2 ⟨u,rfl,O,A⟩;exact⟨u,rfl,O.at y.one,p.grown A,A⟩
 have ak:Hid (∀w' v f,BoolsAt w' (In w') v m.next.length f->_):=λw' v f p=>zFd w' v m.next.length f p y.most
 have al:Hid (∀w' v f to,Boxed w w' w.heap.size o rv m->BoolsAt w' (In w') v m.next.length f->Ca 149 #[agg #[o,rv,iX m.start],v,iX to] w' λe w2=>∃s b:Nat,s<m.next.length/\b<256/\e=returned (tuple #[iX s,iX b])/\Boxed w w2 w.heap.size o rv m/\Grew w' w2):=by
  intro w' v f to p N;refine(zGY w' o rv v m (F.grown p.keep) y f N to).mono ?_;rintro e w2 ⟨s,b,H,E,rfl,A⟩;exact⟨s,b,H,E,rfl,p.grown A,A⟩
 have am:Hid (∀w' b,b<256->Boxed w w' w.heap.size o rv m->Ca 150 #[iX ((b:Nat):Int)] w' λe w2=>e=returned (string ⟨#[UInt8.ofNat b]⟩)/\Boxed w w2 w.heap.size o rv m/\Grew w' w2):=by
  intro w' b E p;refine(zDy w' b E).mono ?_;rintro e w2 ⟨rfl,A⟩;exact⟨rfl,p.grown A,A⟩
 have an:Hid (∀w' s,Boxed w w' w.heap.size o rv m->Ca 147 #[agg #[o,rv,iX m.start],iX ((s:Nat):Int)] w' λe w2=>∃C:ByteArray,e=returned (string C)/\C.size<=300/\Grew w' w2):=λw' s p=>zDN w' o rv m (F.grown p.keep) y M V W s;clear F y V W;have aP:(l:Int)<=200:=by omega
 by_cases Y:0<l
 ·obtain⟨g,c,rfl,I,aa⟩:=X.open_ Y ai
  have ap:=vl aa;have aQ:¬(l:Int)=0:=by omega
  obtain⟨ab,aq,ar⟩:=aa (l-1) (by omega);have aR:IntKind.i64.wrap ((l:Int)-1)=((l-1:Nat):Int):=by rw[zBo _ (by omega) (by omega)];omega
  have aS:((l-1:Nat):Int)<(l:Int):=by omega
  go_in;apply wp_cut;intro aT au;go_wp2;apply au.out;generalize w.alloc (.cells #[o,rv,iX m.start] 127)=w1 at *;have ac:=B.c0;have ad:=B.c1;have ae:=B.c2;have av:=zA aq I B.keep;have P:Hid (Boxed w w1 w.heap.size o rv m/\BoolsAt w1 (In w1) ab m.next.length (qC m (l-1))):=⟨B,ar.grown B.keep⟩
  go_wp2;go_region_held3 (λw'=>cX w' w.heap.size 0=some o/\cX w' w.heap.size 1=some rv/\cX w' w.heap.size 2=some (iX m.start)/\cX w' g (l-1)=some ab) (first|exact⟨Q,R,S,T⟩|go_keep) (first|(go_at_call 141;refine(aj _ _ _ P.1.drew P.2).mono ?_;rintro e w2 ⟨u,rfl,O,J,aw⟩;have Q:=J.c0;have R:=J.c1;have S:=J.c2;have T:=zA (w:=w1.drew) av (lZ I P.1.keep.size) aw));have af:Hid (Boxed w w2 w.heap.size o rv m/\BoolsAt w2 (In w2) u m.next.length (jP m (qC m (l-1)))):=⟨J,O⟩
  go_wp2_with (first|(go_at_call 142;refine(ak _ _ _ af.2).mono ?_;rintro e aU ⟨rfl,rfl⟩))
  go_loopg [7,8,9] l (λq at_ ax i wr=>∃(j:Nat) (x:Int) (C:ByteArray),q=j/\j<=l/\i=iX ((j:Int)-1)/\at_=iX x/\(j<l->∃s:Nat,x=(s:Int))/\ax=string C/\C.size+j<=l/\Boxed w wr w.heap.size o rv m)
  case atStart=>exact⟨l,_,_,rfl,lQ,(by congr 1;omega),rfl,λp=>absurd p (Nat.lt_irrefl _),rfl,by show 0+l<=l;omega,af.1⟩
  case round=>
   obtain⟨j,x,C,ay,aV,rfl,rfl,ag,rfl,aW,t⟩:=hrel;have K:Hid (gk=j/\(j<l->∃s:Nat,x=(s:Int))/\Boxed w wr w.heap.size o rv m):=⟨ay,ag,t⟩
   cases j with
   |zero=>
    obtain⟨s,H⟩:=ag Y;subst H;have ac:=t.c0;have ad:=t.c1;have ae:=t.c2;go_wp2_with (first|(go_at_call 147;refine(an _ s K.2.2).mono ?_;rintro e az ⟨a,rfl,aA,U⟩;have D:=K.2.2.grown U))
    go_ret2
    exact⟨_,_,rfl,⟨aA,by rw[ByteArray.size_append];omega⟩,D.keep⟩
   |succ k=>
    have aB:k<l:=by omega
    have aX:(k:Int)<(l:Int):=by omega
    have aY:(0:Int)<=(k:Int):=by omega
    obtain⟨aC,aD,aE⟩:=ap k aB;have aF:=zA aD I t.keep;have aG:=vl <| aE.grown t.keep;have ac:=t.c0;have ad:=t.c1;have ae:=t.c2;have aH:=lZ I t.keep.size;have aI:(((k+1:Nat):Int)-1)=(k:Int):=by omega
    rw[aI];go_wp2;go_region_held3 (λw'=>cX w' w.heap.size 0=some o/\cX w' w.heap.size 1=some rv/\cX w' w.heap.size 2=some (iX m.start)/\cX w' g k=some aC) (first|exact⟨Q,R,S,T⟩|go_keep) (first|(go_at_call 149;refine(al _ _ _ _ K.2.2.drew aG).mono ?_;rintro e az ⟨s,b,H,E,rfl,D,U⟩;have Q:=D.c0;have R:=D.c1;have S:=D.c2;have T:=zA (w:=wr.drew) aF aH U))
    all_goals
     have aJ:=vl D;go_wp2_with (first|(go_at_call 150;refine(am _ b E aJ).mono ?_;rintro e aZ ⟨rfl,aK,-⟩;have a0:(⟨#[UInt8.ofNat b]⟩:ByteArray).size=1:=rfl))
     go_roundg k
     case measure=>rw[K.out.1];omega
     case rel=>exact⟨k,_,_,rfl,by omega,rfl,rfl,λ_=>⟨s,rfl⟩,rfl,by rw[ByteArray.size_append];omega,aK⟩
 ·have aL:l=0:=by omega
  subst aL;obtain⟨ao,cap,rfl⟩:∃ao cap,L=slice ao 0 cap:=by
   obtain⟨r,aM,_⟩:=X;exact zE aM
  go_in;go_wp2;go_ret2
  exact⟨_,_,rfl,⟨lX,lX⟩,B.keep⟩
structure Zm (w:World)(r:Nat):Prop where
 lt:r<w.heap.size
 block:w.heap[r]? =some (.cells #[int i64 0,int i64 0,string ⟨#[]⟩,string ⟨#[]⟩,string ⟨#[]⟩,string ⟨#[]⟩,string ⟨#[]⟩] 139)
theorem Zm.grown {w w':World}{r:Nat}(a:Zm w r)(b:Grew w w'):Zm w' r:=⟨lZ a.lt b.size,(b.block r a.lt (kJ a.lt)).trans a.block⟩
theorem Zm.cells {w:World}{r:Nat}(a:Zm w r):(w.cell? ⟨r,0,none⟩=some (iX 0)/\w.cell? ⟨r,1,none⟩=some (iX 0)/\w.cell? ⟨r,2,none⟩=some (string ⟨#[]⟩)/\w.cell? ⟨r,3,none⟩=some (string ⟨#[]⟩)/\w.cell? ⟨r,4,none⟩=some (string ⟨#[]⟩)/\w.cell? ⟨r,5,none⟩=some (string ⟨#[]⟩)/\w.cell? ⟨r,6,none⟩=some (string ⟨#[]⟩))/\(w.frozen? ⟨r,0,none⟩=false/\w.frozen? ⟨r,1,none⟩=false/\w.frozen? ⟨r,2,none⟩=false/\w.frozen? ⟨r,3,none⟩=false/\w.frozen? ⟨r,4,none⟩=false/\w.frozen? ⟨r,5,none⟩=false/\w.frozen? ⟨r,6,none⟩=false):=by
 refine⟨⟨?_,?_,?_,?_,?_,?_,?_⟩,?_,?_,?_,?_,?_,?_,?_⟩
 all_goals first|(unfold cell?;rw[a.block];rfl)|(unfold frozen?;rw[a.block];rfl)
theorem zFO (w:World)(K rv:Value)(m:Sm)(p:TblAt w K rv m)(q:m.Tbl)(t:Nat)(C:m.start=(t:Int))(D:t<m.next.length):
  Calls prog 67 #[agg #[K,rv,iX m.start]] w λe w'=>∃a b x y u:ByteArray,e=returned (agg #[iX m.next.length,iX (vG m),string a,string b,string x,string y,string u])/\Grew w w':=by
 have am:=q.most;obtain⟨g,i,rfl,_⟩:=id p.next
 obtain⟨w1,L,k⟩:∃w1,w1=(w.alloc (.cells #[slice g m.next.length i,rv,iX m.start] 127)).alloc (.cells #[iX 0,iX 0,string ⟨#[]⟩,string ⟨#[]⟩,string ⟨#[]⟩,string ⟨#[]⟩,string ⟨#[]⟩] 139)/\Hid (Boxed w w1 w.heap.size (slice g m.next.length i) rv m/\Zm w1 (w.heap.size+1)):=by
  have Q:=Boxed.made w (slice g m.next.length i) rv m;refine⟨_,rfl,Q.grown (kZ _ _ lQ),⟨by simp,?_⟩⟩;have l:=gX (w.alloc (.cells #[slice g m.next.length i,rv,iX m.start] 127)) (.cells #[iX 0,iX 0,string ⟨#[]⟩,string ⟨#[]⟩,string ⟨#[]⟩,string ⟨#[]⟩,string ⟨#[]⟩] 139);simpa using l
 have R:Hid (∀w',Boxed w w' w.heap.size (slice g m.next.length i) rv m->_):=λw' l=>zGv w' _ rv m (p.grown l.keep) q;have S:Hid (∀w',Boxed w w' w.heap.size (slice g m.next.length i) rv m->_):=λw' l=>zEx w' _ rv m (p.grown l.keep) q t C D;have T:Hid (∀w' E F f,Boxed w w' w.heap.size (slice g m.next.length i) rv m->FrontsAt w' F E f m->f<=m.next.length->_):=λw' E F f l A s=>zKZ w' _ rv E m (p.grown l.keep) q t C D F f A s;clear p q C D;go_in;apply wp_cut;intro ao U;go_wp2;apply U.out;rw[<-L];clear L;have M:=k.1.c0;have N:=k.1.c1;have O:=k.1.c2;apply wp_cut;intro ap P;go_wp2_with (first|(go_at_call 104;refine(R _ k.1).mono ?_;rintro e w2 ⟨B,V⟩;rcases V with⟨s,rfl⟩|⟨f,v,s,W,rfl,A⟩))
 ·apply P.out
  have j:=k.1.grown B;have H:=k.2.grown B;have M:=j.c0;have N:=j.c1;have O:=j.c2;have c:Hid (Boxed w w2 w.heap.size (slice g m.next.length i) rv m/\Zm w2 (w.heap.size+1)/\vG m=-1):=⟨j,H,s⟩
  go_wp2_with (first|(go_at_call 105;refine(S _ c.1).mono ?_;rintro e X ⟨a,x,y,u,rfl,-,o⟩;obtain⟨⟨c0,c1,c2,Y,aa,ab,ac⟩,ad,ae,af,ag,ah,ai,aj⟩:=(c.2.1.grown o).cells;have ak:=(c.1.grown o).c0;have I:=vl <| (c.1.grown o).keep))
  refine gV (v:=agg #[iX m.next.length,iX (-1),string a,string ⟨#[]⟩,string x,string y,string u]) (by simp[results,results67,go_sem, *]) rfl ⟨a,⟨#[]⟩,x,y,u,by rw[c.out.2.2],?_⟩;refine I.trans ?_
  iterate 6 refine Keep.trans ?_ (zP _ _ _ _ (by omega))
  exact zP _ _ _ _ (by omega)
 ·apply P.out
  have j:=k.1.grown B;have H:=k.2.grown B;have M:=j.c0;have N:=j.c1;have O:=j.c2;obtain⟨J,cv,rfl⟩:∃J cv,v=slice J f cv:=by
   obtain⟨r,al,_⟩:=A;exact zE al
  have c:Hid (Boxed w w2 w.heap.size (slice g m.next.length i) rv m/\Zm w2 (w.heap.size+1)/\vG m=(f:Int)/\FrontsAt w2 w1.heap.size (slice J f cv) f m):=⟨j,H,s,A⟩
  go_wp2_with (first|(go_at_call 106;refine(T _ _ _ f c.1 c.2.2.2 W).mono ?_;rintro e X ⟨a,x,rfl,-,o⟩;obtain⟨⟨c0,c1,c2,Y,aa,ab,ac⟩,ad,ae,af,ag,ah,ai,aj⟩:=(c.2.1.grown o).cells;have ak:=(c.1.grown o).c0;have I:=vl <| (c.1.grown o).keep))
  refine gV (v:=agg #[iX m.next.length,iX (f:Int),string a,string x,string ⟨#[]⟩,string ⟨#[]⟩,string ⟨#[]⟩]) (by simp[results,results67,go_sem, *]) rfl ⟨a,x,⟨#[]⟩,⟨#[]⟩,⟨#[]⟩,by rw[c.out.2.2.1],?_⟩;refine I.trans ?_
  iterate 6 refine Keep.trans ?_ (zP _ _ _ _ (by omega))
  exact zP _ _ _ _ (by omega)
section
def OwnB (w:World)(H:Nat)(v:Value)(l:List Bool):Prop:=w.ownsRow H 4 1 v l.length (l.map λx=>bool x)
theorem OwnB.form {w:World}{H:Nat}{v:Value}{l:List Bool}(b:OwnB w H v l):∃ao cap,v=slice ao l.length cap:=zE b
theorem OwnB.snoc {w:World}{H g cap:Nat}{l:List Bool}{x:Bool}(b:w.ownsRow H 4 1 (slice (qX g) (l.length+1) cap) (l.length+1) ((l.map λx=>bool x)++[bool x])):OwnB w H (slice (qX g) (l.length+1) cap) (l++[x]):=by
 unfold OwnB;rw[kX,List.map_append];exact b
theorem zQ {w1 w2:World}{o:Obj}{H e b m:Nat}{u v:Value}{c:List Value}(d:(w1.alloc o).grownBy w2 v.ownBlock)(f:w1.ownsRow H e b u m c)(i:∀g,u.ownBlock=some g->some g≠v.ownBlock):w2.ownsRow H e b u m c:=
 zD f λk _ j l=>(d.block k (by simp;omega) (i k l)).trans (lG _ _ _ j)
theorem xG {w:World}{H e b m p i:Nat}{u x:Value}{c:List Value}(d:w.ownsRow H e b u m c)(f:p<H):(w.setCell ⟨p,i,none⟩ x).ownsRow H e b u m c:=
 zD d λk g _ _=>lJ _ _ _ _ (by show k≠p;omega)
structure Rp (w wr:World)(mv sv ev:Value)(k:Nat)(xs:List Value)(sl el:List Bool)(a:Int):Prop where
 res:wr.heap[w.heap.size]? =some (.cells #[slice none 0 0,slice none 0 0,slice none 0 0,int i64 0,bool false,int i64 0] 30)
 blk:wr.heap[w.heap.size+1]? =some (.cells #[mv,sv,ev,int i64 a,bool false,int i64 0] 30)
 modes:wr.ownsRow (w.heap.size+2) 139 7 mv k xs
 shad:OwnB wr (w.heap.size+2) sv sl
 emp:OwnB wr (w.heap.size+2) ev el
 ne:∀g,sv.ownBlock=some g->some g≠ev.ownBlock
 keep:Grew w wr
 lt:w.heap.size+2<=wr.heap.size
section
variable {w wr w2:World} {mv sv ev:Value} {k:Nat} {xs:List Value} {sl el:List Bool} {a:Int}
theorem Rp.grown (b:Rp w wr mv sv ev k xs sl el a)(c:Grew wr w2):Rp w w2 mv sv ev k xs sl el a:=by
 have:=b.lt;exact⟨(c.block _ (by omega) (by omega)).trans b.res,(c.block _ (by omega) (by omega)).trans b.blk,zK b.modes c,zK b.shad c,zK b.emp c,b.ne,b.keep.trans (c.lower (by omega) (by omega)),lY b.lt c.size⟩
theorem Rp.drew (b:Rp w wr mv sv ev k xs sl el a):Rp w wr.drew mv sv ev k xs sl el a:=b.grown (Keep.drew _)
theorem Rp.cells (b:Rp w wr mv sv ev k xs sl el a):(wr.cell? ⟨w.heap.size+1,0,none⟩=some mv/\wr.cell? ⟨w.heap.size+1,1,none⟩=some sv/\wr.cell? ⟨w.heap.size+1,2,none⟩=some ev/\wr.cell? ⟨w.heap.size+1,3,none⟩=some (iX a)/\wr.cell? ⟨w.heap.size+1,4,none⟩=some (bool false)/\wr.cell? ⟨w.heap.size+1,5,none⟩=some (iX 0))/\(∀i,wr.frozen? ⟨w.heap.size+1,i,none⟩=false):=by
 refine⟨⟨?_,?_,?_,?_,?_,?_⟩,λi=>?_⟩
 all_goals first|(unfold cell?;rw[b.blk];rfl)|(unfold frozen?;rw[b.blk];simp[World.frozen?])
theorem Rp.modes_app {o:Obj}{g cap:Nat}{f:List Value}(b:Rp w wr mv sv ev k xs sl el a)(i:w2.ownsRow (w.heap.size+2) 139 7 (slice (qX g) (k+1) cap) (k+1) (xs++f))(c:(wr.alloc o).grownBy w2 mv.ownBlock):
  Rp w (w2.setCell ⟨w.heap.size+1,0,none⟩ (slice (qX g) (k+1) cap)) (slice (qX g) (k+1) cap) sv ev (k+1) (xs++f) sl el a:=by
 have l:=b.lt;have d:∀j,j<w.heap.size+2->w2.heap[j]? =wr.heap[j]? :=λj m=>(c.block j (by simp;omega) λe=>by have:=(b.modes.lt j e.symm).1;omega).trans (lG _ _ _ (by omega));have p:=(d (w.heap.size+1) (by omega)).trans b.blk;refine⟨(lJ _ _ _ _ (by show w.heap.size≠w.heap.size+1;omega)).trans ((d _ (by omega)).trans b.res),?_,xG i (by omega),xG (zQ c b.shad λg c=>yC b.shad b.modes (by decide) c) (by omega),xG (zQ c b.emp λg c=>yC b.emp b.modes (by decide) c) (by omega),b.ne,?_,?_⟩
 ·simp[setCell,lU,p]
 ·exact(b.keep.trans ⟨c.os,c.output,lY (by simp) c.size,λj m _=>d j (by omega)⟩).trans (zP _ _ _ _ (by omega))
 ·rw[zC];exact lY l (lY (by simp) c.size)
theorem Rp.shad_app {o:Obj}{g cap:Nat}{x:Bool}(b:Rp w wr mv sv ev k xs sl el a)(i:w2.ownsRow (w.heap.size+2) 4 1 (slice (qX g) (sl.length+1) cap) (sl.length+1) ((sl.map λx=>bool x)++[bool x]))(c:(wr.alloc o).grownBy w2 sv.ownBlock)(l:sv.ownBlock=some g\/wr.heap.size<=g):
  Rp w (w2.setCell ⟨w.heap.size+1,1,none⟩ (slice (qX g) (sl.length+1) cap)) mv (slice (qX g) (sl.length+1) cap) ev k xs (sl++[x]) el a:=by
 have m:=b.lt;have d:∀j,j<w.heap.size+2->w2.heap[j]? =wr.heap[j]? :=λj p=>(c.block j (by simp;omega) λe=>by have:=(b.shad.lt j e.symm).1;omega).trans (lG _ _ _ (by omega));have q:=(d (w.heap.size+1) (by omega)).trans b.blk;refine⟨(lJ _ _ _ _ (by show w.heap.size≠w.heap.size+1;omega)).trans ((d _ (by omega)).trans b.res),?_,xG (zQ c b.modes λg c=>yC b.modes b.shad (by decide) c) (by omega),?_,xG (zQ c b.emp λg c e=>b.ne g e.symm c.symm) (by omega),?_,?_,?_⟩
 ·simp[setCell,lU,q]
 ·exact xG (OwnB.snoc i) (by omega)
 ·intro r s e
  have t:g=r:=by simpa[Value.ownBlock] using s
  subst t;rcases l with f|f
  ·exact b.ne g f e
  ·have:=(b.emp.lt g e.symm).2
   omega
 ·exact(b.keep.trans ⟨c.os,c.output,lY (by simp) c.size,λj p _=>d j (by omega)⟩).trans (zP _ _ _ _ (by omega))
 ·rw[zC];exact lY m (lY (by simp) c.size)
theorem Rp.emp_app {o:Obj}{g cap:Nat}{x:Bool}(b:Rp w wr mv sv ev k xs sl el a)(m:w2.ownsRow (w.heap.size+2) 4 1 (slice (qX g) (el.length+1) cap) (el.length+1) ((el.map λx=>bool x)++[bool x]))(c:(wr.alloc o).grownBy w2 ev.ownBlock)(p:ev.ownBlock=some g\/wr.heap.size<=g):
  Rp w (w2.setCell ⟨w.heap.size+1,2,none⟩ (slice (qX g) (el.length+1) cap)) mv sv (slice (qX g) (el.length+1) cap) k xs sl (el++[x]) a:=by
 have q:=b.lt;have d:∀j,j<w.heap.size+2->w2.heap[j]? =wr.heap[j]? :=λj r=>(c.block j (by simp;omega) λe=>by have:=(b.emp.lt j e.symm).1;omega).trans (lG _ _ _ (by omega));have s:=(d (w.heap.size+1) (by omega)).trans b.blk;refine⟨(lJ _ _ _ _ (by show w.heap.size≠w.heap.size+1;omega)).trans ((d _ (by omega)).trans b.res),?_,xG (zQ c b.modes λg c=>yC b.modes b.emp (by decide) c) (by omega),xG (zQ c b.shad λg c=>b.ne g c) (by omega),?_,?_,?_,?_⟩
 ·simp[setCell,lU,s]
 ·exact xG (OwnB.snoc m) (by omega)
 ·intro f i e
  have t:f=g:=by simpa[Value.ownBlock] using e
  subst t;rcases p with l|l
  ·exact b.ne f i l.symm
  ·have:=(b.shad.lt f i).2
   omega
 ·exact(b.keep.trans ⟨c.os,c.output,lY (by simp) c.size,λj r _=>d j (by omega)⟩).trans (zP _ _ _ _ (by omega))
 ·rw[zC];exact lY q (lY (by simp) c.size)
theorem Rp.ahead (b:Rp w wr mv sv ev k xs sl el a)(c:Int):Rp w (wr.setCell ⟨w.heap.size+1,3,none⟩ (iX c)) mv sv ev k xs sl el c:=by
 have d:=b.blk;have:=b.lt;exact⟨(lJ _ _ _ _ (by show w.heap.size≠w.heap.size+1;omega)).trans b.res,by simp[setCell,lU,d],xG b.modes (by omega),xG b.shad (by omega),xG b.emp (by omega),b.ne,b.keep.trans (zP _ _ _ _ (by omega)),by rw[zC];omega⟩
end
end
def zAR (m:Sm)(k:Nat):List Bool:=(List.range k).map λr=>!hasRuleB m ((r:Nat):Int)
def qW (ms:List Sm):Nat->List Bool
 |0=>[]
 |j+1=>qW ms j++zAR (ms.getD j ⟨[],[],0,[]⟩) (ms.getD j ⟨[],[],0,[]⟩).empty.length
def jW (ms:List Sm):Nat->List Bool
 |0=>[]
 |j+1=>jW ms j++(ms.getD j ⟨[],[],0,[]⟩).empty
def aheadTo (ms:List Sm):Nat->Int
 |0=>0
 |j+1=>qU (aheadTo ms j) (vG (ms.getD j ⟨[],[],0,[]⟩))
theorem zKO (ms:List Sm)(j:Nat):(qW ms j).length=zU ms j:=by
 induction j with
 |zero=>rfl
 |succ j a=>simp[qW,zU,a,zAR]
theorem zNi (ms:List Sm)(j:Nat):(jW ms j).length=zU ms j:=by
 induction j with
 |zero=>rfl
 |succ j a=>simp[jW,zU,a]
theorem zLn (a b n:Int)(c:-1<=a/\a<=n)(d:-1<=b/\b<=n)(e:-1<=n):-1<=qU a b/\qU a b<=n:=by
 unfold qU;split
 ·omega
 ·split <;> omega
theorem zGK (ms:List Sm)(a:ModesOk ms)(j:Nat)(b:j<=ms.length):-1<=aheadTo ms j/\aheadTo ms j<=200:=by
 induction j with
 |zero=>exact⟨by show(-1:Int)<=0;omega,by show(0:Int)<=200;omega⟩
 |succ j c=>
  have e:=vI ms (j+1) ms.length b;have f:=a.states;have g:(ms.getD j ⟨[],[],0,[]⟩).next.length<=200:=by
   have:zN ms (j+1)=zN ms j+(ms.getD j ⟨[],[],0,[]⟩).next.length:=rfl
   omega
  have d:=zPr (ms.getD j ⟨[],[],0,[]⟩);exact zLn _ _ 200 (c (by omega)) ⟨d.1,by omega⟩ (by omega)
theorem ModesOk.tbl {ms:List Sm}(c:ModesOk ms)(j:Nat)(a:j<ms.length):(ms[j]).Tbl:=by
 have g:=vI ms (j+1) ms.length a;have k:=c.states;have e:ms.getD j ⟨[],[],0,[]⟩=ms[j]:=by rw[lW,lV a];rfl
 have l:zN ms (j+1)=zN ms j+ms[j].next.length:=by rw[<-e];rfl
 refine⟨c.states1 j a,by omega,(c.rules j a).1,λi d=>?_,λi b d f=>?_⟩
 ·exact(c.wide j a _ (zY _ i [] d)).1
 ·exact(c.wide j a _ (zY _ i [] d)).2 b f
section
attribute [local go_sem ↓] Go.wp_at_zero Go.wp_at_succ
theorem zOg:(prog.info? 139).map (λi=>(i.zero,i.size,i.bytes))=some (some (agg #[iX 0,iX 0,string ⟨#[]⟩,string ⟨#[]⟩,string ⟨#[]⟩,string ⟨#[]⟩,string ⟨#[]⟩]),7,96):=by kernel_rfl
theorem zNT (w:World):Rp w ((w.alloc (.cells #[slice none 0 0,slice none 0 0,slice none 0 0,iX 0,bool false,iX 0] 30)).alloc (.cells #[slice none 0 0,slice none 0 0,slice none 0 0,iX 0,bool false,iX 0] 30)) (slice none 0 0) (slice none 0 0) (slice none 0 0) 0 [] [] [] 0:=by
 have a:=gX w (.cells #[slice none 0 0,slice none 0 0,slice none 0 0,iX 0,bool false,iX 0] 30);refine⟨?_,?_,ownsRow_nil _ _ _ _,ownsRow_nil _ _ _ _,ownsRow_nil _ _ _ _,λg b=>by simp[Value.ownBlock] at b,(kZ _ _ lQ).trans (kZ _ _ (by simp)),by simp⟩
 ·exact(lG _ _ _ (by simp)).trans a
 ·have c:=gX (w.alloc (.cells #[slice none 0 0,slice none 0 0,slice none 0 0,iX 0,bool false,iX 0] 30)) (.cells #[slice none 0 0,slice none 0 0,slice none 0 0,iX 0,bool false,iX 0] 30)
  simpa using c
theorem zBR (w:World)(l:List Value)(t:TypeId)(g:Nat)(a:w.heap.size=g):∀j u,l[j]? =some u->(w.alloc (.cells l.toArray t)).cell? ((⟨g,0,none⟩:Addr).add j)=some u:=by
 intro j u b;subst a;rw[Addr.add_lit];unfold cell?;rw[gX];simpa using b
structure Mx (w:World)(q:Nat)(u0 u1 u3:Value)(m:Sm):Prop where
 blk:w.heap[q]? =some (.cells #[u0,u1,int i64 m.start,u3] 134)
 lt:q<w.heap.size
theorem Mx.cells {w:World}{q:Nat}{u0 u1 u3:Value}{m:Sm}(a:Mx w q u0 u1 u3 m):w.cell? ⟨q,0,none⟩=some u0/\w.cell? ⟨q,1,none⟩=some u1/\w.cell? ⟨q,2,none⟩=some (iX m.start)/\w.cell? ⟨q,3,none⟩=some u3:=by
 refine⟨?_,?_,?_,?_⟩ <;> ·unfold cell?;rw[a.blk];rfl
theorem Mx.grown {w w':World}{q:Nat}{u0 u1 u3:Value}{m:Sm}(a:Mx w q u0 u1 u3 m)(b:Grew w w'):Mx w' q u0 u1 u3 m:=⟨(b.block q a.lt (kJ a.lt)).trans a.blk,lZ a.lt b.size⟩
theorem Mx.app {w w2:World}{o:Obj}{H e c n q i p:Nat}{v x u0 u1 u3:Value}{m:Sm}{xs:List Value}(a:Mx w q u0 u1 u3 m)(d:w.ownsRow H e c v n xs)(f:e≠134)(b:(w.alloc o).grownBy w2 v.ownBlock)(g:q≠p):Mx (w2.setCell ⟨p,i,none⟩ x) q u0 u1 u3 m:=by
 have j:=a.lt;refine⟨(lJ _ _ _ _ g).trans ((b.block q (by simp;omega) (zM d a.blk f)).trans ((lG _ _ _ a.lt).trans a.blk)),?_⟩;rw[zC];exact lZ j (lY (by simp) b.size)
theorem zHW (w:World)(mv:Value)(ms:List Sm)(hM:ModesAt w (In w) mv ms)(hms:ModesOk ms)(kinds:Nat)(hk:kinds<=256)(force:Bool):
  Calls prog 46 #[mv,iX kinds,bool force] w λe w'=>∃mo sh em,e=returned (agg #[mo,sh,em,iX (aheadTo ms ms.length),bool (!force&&yG (aheadTo ms ms.length) kinds),iX 0])/\OwnB w' w.heap.size sh (qW ms ms.length)/\OwnB w' w.heap.size em (jW ms ms.length)/\Grew w w'/\∃a n c,mo=slice a n c:=by
 obtain⟨i0,hi0,hz0,hz1,hz2⟩:=info_parts zOg;obtain⟨ib,hib,hb0,hb1,hb2⟩:=info_parts vO;obtain⟨am,cm,rfl,hcm,hmm,hmc⟩:=hM;have h3:=hms.three;have HMC:Hid (∀i (hi:i<ms.length),∃b o u0 u1 u3,am=some ⟨b,o,none⟩/\In w b/\w.cell? ⟨b,o+i*4,none⟩=some u0/\w.cell? ⟨b,o+i*4+1,none⟩=some u1/\w.cell? ⟨b,o+i*4+2,none⟩=some (iX ms[i].start)/\w.cell? ⟨b,o+i*4+3,none⟩=some u3/\IntRows w (In w) u0 ms[i].next/\Ints w (In w) u1 ms[i].rules/\Bools w (In w) u3 ms[i].empty):=hmc;have HOK:Hid (ModesOk ms):=hms;have h0:=zNT w;clear hmc hms;go_enter func46,ntmps46
 refine wp_seq_k ?_;intro K0 hK0;have HK0:Hid (∀a w,_->K0 a w):=hK0;clear hK0;go_wp2_with fail;apply HK0.out;clear HK0;refine wp_seq_k ?_;intro K0 hK0;have HK0:Hid (∀a w,_->K0 a w):=hK0;clear hK0;go_wp2_with fail;apply HK0.out;clear HK0;generalize (w.alloc (.cells #[slice none 0 0,slice none 0 0,slice none 0 0,iX 0,bool false,iX 0] 30)).alloc (.cells #[slice none 0 0,slice none 0 0,slice none 0 0,iX 0,bool false,iX 0] 30)=w1 at *;have H0:Hid (Rp w w1 (slice none 0 0) (slice none 0 0) (slice none 0 0) 0 [] [] [] 0):=h0;clear h0;go_wp2_with fail;go_loopg [16] ms.length (λq i wr=>∃(j:Nat) (mv sv ev:Value) (xs:List Value),q=ms.length-j/\j<=ms.length/\i=iX (j:Int)/\Rp w wr mv sv ev j xs (qW ms j) (jW ms j) (aheadTo ms j))
 case atStart=>exact⟨0,_,_,_,_,rfl,lX,rfl,H0⟩
 case round=>
  obtain⟨j,mv,sv,ev,xs,hgk,hj,rfl,hR⟩:=hrel;have HA:Hid (gk=ms.length-j/\Rp w wr mv sv ev j xs (qW ms j) (jW ms j) (aheadTo ms j)):=⟨hgk,hR⟩
  by_cases hj2:j<ms.length
  ·have i1:(j:Int)<(ms.length:Int):=by omega
   obtain⟨b,o,u0,u1,u3,rfl,hb,c0,c1,c2,c3,d0,d1,d3⟩:=HMC j hj2;obtain⟨an,cn,rfl,-⟩:=id d0;obtain⟨ar,cr,rfl,-⟩:=id d1;have y0:=zA c0 hb hR.keep;have y1:=zA c1 hb hR.keep;have y2:=zA c2 hb hR.keep;have y3:=zA c3 hb hR.keep;obtain⟨m,hm⟩:∃m,m=ms[j]:=⟨_,rfl⟩
   rw[<-hm] at y0 y1 y2 d0 d1 d3;have HT:Hid (TblAt w (slice an m.next.length cn) (slice ar m.rules.length cr) m/\m.Tbl/\Bools w (In w) u3 m.empty/\0<=m.start/\m.start<m.next.length/\m=ms[j]/\ms.getD j ⟨[],[],0,[]⟩=m):=⟨⟨d0,d1⟩,by rw[hm];exact HOK.tbl j hj2,d3,by rw[hm];exact(HOK.start j hj2).1,by rw[hm];exact(HOK.start j hj2).2,hm,by rw[hm,lW,lV hj2];rfl⟩
   clear c0 c1 c2 c3 d0 d1 d3 hm hgk hR;refine wp_seq_k ?_;intro K0 hK0;have HK0:Hid (∀a w,_->K0 a w):=hK0;clear hK0;go_wp2_with fail;apply HK0.out;clear HK0;obtain⟨st,hst⟩:∃st:Nat,m.start=(st:Int):=⟨m.start.toNat,by have:=HT.2.2.2.1;omega⟩
   have HS:Hid (m.start=(st:Int)/\st<m.next.length):=⟨hst,by have:=HT.2.2.2.2.1;omega⟩
   clear hst;obtain⟨ae,ce,rfl,he1,he2,he3⟩:=HT.2.2.1;have HE:Hid (∀i,i<m.empty.length->∃b o,ae=some ⟨b,o,none⟩/\In w b/\w.cell? ⟨b,o+i,none⟩=some (bool (m.empty.getD i false))):=he3;clear he3;have HTM:Hid (∀w',Grew w w'->Ca 67 #[agg #[slice an m.next.length cn,slice ar m.rules.length cr,iX m.start]] w' λe w2=>∃a b x y z:ByteArray,e=returned (agg #[iX m.next.length,iX (vG m),string a,string b,string x,string y,string z])/\Grew w' w2):=λw' hk=>zFO w' _ _ m (HT.1.grown hk) HT.2.1 st HS.1 HS.2;obtain⟨amv,cmv,hmv⟩:=zE HA.2.modes;subst hmv;have hlr:=HA.2.lt;have HNM:Hid (∀w5:World,Keep (wr.alloc (.cells #[slice an m.next.length cn,slice ar m.rules.length cr,iX m.start,slice ae m.empty.length ce] 134)).heap.size (wr.alloc (.cells #[slice an m.next.length cn,slice ar m.rules.length cr,iX m.start,slice ae m.empty.length ce] 134)).heap.size (wr.alloc (.cells #[slice an m.next.length cn,slice ar m.rules.length cr,iX m.start,slice ae m.empty.length ce] 134)) w5->some w5.heap.size≠Value.ownBlock (slice amv j cmv)):=λw5 h e=>by
    have h1:=(HA.2.modes.lt _ e.symm).2;have h2:=h.size;simp at h2;omega
   go_wp2_with (first|(go_at_call 67;refine(HTM _ (HA.2.keep.trans (kZ _ _ (by omega)))).mono ?_;rintro e w5 ⟨a,b',x,y,z,rfl,hk5⟩;have R5:Rp w (w5.alloc (.cells #[iX m.next.length,iX (vG m),string a,string b',string x,string y,string z] 139)) (slice amv j cmv) sv ev j xs (qW ms j) (jW ms j) (aheadTo ms j):=((HA.2.grown (kZ _ _ lQ)).grown hk5).grown (kZ _ _ lQ);obtain⟨⟨r0,r1,r2,r3,r4,r5⟩,rf⟩:=R5.cells;clear r1 r2 r3 r4 r5 rf;have hl5:w.heap.size+2<=w5.heap.size:=lY (by simp;omega) hk5.size;have M5:Mx w5 wr.heap.size (slice an m.next.length cn) (slice ar m.rules.length cr) (slice ae m.empty.length ce) m:=Mx.grown ⟨gX wr _,by simp⟩ hk5)|(at_builtin;refine wpList_append_lies _ rfl _ _ 27 rfl (w.heap.size+2) 139 i0 (agg #[iX 0,iX 0,string ⟨#[]⟩,string ⟨#[]⟩,string ⟨#[]⟩,string ⟨#[]⟩,string ⟨#[]⟩]) 7 96 underlying27 hi0 hz0 hz1 hz2 rfl (by decide) _ _ _ rfl (R5.modes.alloc _) ⟨w5.heap.size+1,0,none⟩ 1 1 [iX m.next.length,iX (vG m),string a,string b',string x,string y,string z] rfl rfl (zBR _ [iX m.next.length,iX (vG m),string a,string b',string x,string y,string z] _ _ (by simp)) (by intro u hu;simp at hu;rcases hu with rfl|rfl|rfl|rfl|rfl|rfl|rfl <;> rfl) (by decide) (by unfold maxLen;omega) (by omega) (by simp;omega) _ rfl ?_;intro gg cap w7 hown hgrow hat hlt2;have hbR:w7.heap[w.heap.size+1]? =(w5.alloc (.cells #[iX m.next.length,iX (vG m),string a,string b',string x,string y,string z] 139)).heap[w.heap.size+1]? :=(hgrow.block _ (by simp;omega) (λe=>by have:=(R5.modes.lt _ e.symm).1;omega)).trans (lG _ _ _ (by simp;omega));have s0:w7.cell? ⟨w.heap.size+1,0,none⟩=some (slice amv j cmv):=(gZ hbR).trans r0;have f0:w7.frozen? ⟨w.heap.size+1,0,none⟩=false:=(gY hbR).trans (R5.cells.2 0);have R8:=Rp.modes_app R5 hown hgrow;have M8:=Mx.app (p:=w.heap.size+1) (i:=0) (x:=slice (qX gg) (j+1) cap) (M5.grown (kZ _ (.cells #[iX m.next.length,iX (vG m),string a,string b',string x,string y,string z] 139) lQ)) R5.modes (by decide) hgrow (by omega);have t3:(w7.setCell ⟨w.heap.size+1,0,none⟩ (slice (qX gg) (j+1) cap)).cell? ⟨w.heap.size+1,3,none⟩=some (iX (aheadTo ms j)):=R8.cells.1.2.2.2.1;have f3:(w7.setCell ⟨w.heap.size+1,0,none⟩ (slice (qX gg) (j+1) cap)).frozen? ⟨w.heap.size+1,3,none⟩=false:=R8.cells.2 3;have hbM:(w7.setCell ⟨w.heap.size+1,0,none⟩ (slice (qX gg) (j+1) cap)).heap[w5.heap.size]? =(w5.alloc (.cells #[iX m.next.length,iX (vG m),string a,string b',string x,string y,string z] 139)).heap[w5.heap.size]? :=(lJ _ _ _ _ (by show w5.heap.size≠w.heap.size+1;omega)).trans ((hgrow.block _ (by simp;omega) (HNM w5 hk5)).trans (lG _ _ _ (by simp)));have t1:(w7.setCell ⟨w.heap.size+1,0,none⟩ (slice (qX gg) (j+1) cap)).cell? ⟨w5.heap.size,1,none⟩=some (iX (vG m)):=(gZ hbM).trans (by unfold cell?;rw[gX];rfl);have M9:((w7.setCell ⟨w.heap.size+1,0,none⟩ (slice (qX gg) (j+1) cap)).setCell ⟨w.heap.size+1,3,none⟩ (iX (qU (aheadTo ms j) (vG m)))).cell? ⟨wr.heap.size,3,none⟩=some (slice ae m.empty.length ce):=(gZ (lJ _ _ _ _ (by show wr.heap.size≠w.heap.size+1;omega))).trans M8.cells.2.2.2)|(go_at_call 68;refine(zIu _ (aheadTo ms j) (vG m)).mono ?_;rintro e w9 ⟨rfl,rfl⟩))
   have A9:∃mv2 xs2 w9,w9=((w7.setCell ⟨w.heap.size+1,0,none⟩ (slice (qX gg) (j+1) cap)).setCell ⟨w.heap.size+1,3,none⟩ (iX (qU (aheadTo ms j) (vG m))))/\Hid (Rp w w9 mv2 sv ev (j+1) xs2 (qW ms j) (jW ms j) (aheadTo ms (j+1))/\Mx w9 wr.heap.size (slice an m.next.length cn) (slice ar m.rules.length cr) (slice ae m.empty.length ce) m):=by
    have e:aheadTo ms (j+1)=qU (aheadTo ms j) (vG m):=by rw[<-HT.out.2.2.2.2.2.2];rfl
    rw[e];exact⟨_,_,_,rfl,R8.ahead _,⟨(lJ _ _ _ _ (by show wr.heap.size≠w.heap.size+1;omega)).trans M8.blk,by rw[zC];exact M8.lt⟩⟩
   obtain⟨mv2,xs2,w9,hw9,A9⟩:=A9;rw[<-hw9];clear hw9 M9 t1 hbM f3 t3 M8 R8 f0 s0 hbR hown hgrow hat M5 R5 r0 y0 y1 y2 y3;have hrl:zU ms (j+1)=zU ms j+m.empty.length:=by rw[<-HT.out.2.2.2.2.2.2];rfl
   have hr8:zU ms j+m.empty.length<=8:=by
    have h1:=zB2 ms (j+1) ms.length hj2;have h2:=HOK.rules8;omega
   have HSL:Hid ((qW ms j).length=zU ms j/\(jW ms j).length=zU ms j):=⟨zKO ms j,zNi ms j⟩
   clear hrl HNM HTM hk5 hl5;have hq1:w.heap.size+1≠wr.heap.size:=by omega
   generalize hqb:wr.heap.size=qb at *;clear hqb;go_loopg [38] m.empty.length (λq i wt=>∃(k:Nat) (sv ev:Value),q=m.empty.length-k/\k<=m.empty.length/\i=iX (k:Int)/\Rp w wt mv2 sv ev (j+1) xs2 (qW ms j++zAR m k) (jW ms j++m.empty.take k) (aheadTo ms (j+1))/\Mx wt qb (slice an m.next.length cn) (slice ar m.rules.length cr) (slice ae m.empty.length ce) m)
   case atStart=>exact⟨0,sv,ev,rfl,lX,rfl,by rw[zAR,List.take_zero];simpa using A9.1,A9.2⟩
   case round=>
    obtain⟨k,sv,ev,hgk,hk2,rfl,hR,hM⟩:=hrel;have HB:Hid (gk=m.empty.length-k/\Rp w wr mv2 sv ev (j+1) xs2 (qW ms j++zAR m k) (jW ms j++m.empty.take k) (aheadTo ms (j+1))/\Mx wr qb (slice an m.next.length cn) (slice ar m.rules.length cr) (slice ae m.empty.length ce) m):=⟨hgk,hR,hM⟩
    by_cases hk3:k<m.empty.length
    ·have i2:(k:Int)<(m.empty.length:Int):=by omega
     obtain⟨be,oe,rfl,hbe,hce⟩:=HE k hk3;have ye:wr.cell? ⟨be,oe+k,none⟩=some (bool (m.empty.getD k false)):=zA hce hbe hR.keep;obtain⟨ek,hek⟩:∃ek,m.empty.getD k false=ek:=⟨_,rfl⟩
     rw[hek] at ye;have HEK:Hid (m.empty.getD k false=ek):=hek;clear hek;obtain⟨q0,q1,q2,q3⟩:=hM.cells;obtain⟨⟨r0,r1,r2,r3,r4,r5⟩,rf⟩:=hR.cells;obtain⟨as_,cs,hsv⟩:=hR.shad.form;obtain⟨ae2,ce2,hev⟩:=hR.emp.form;have hls:(qW ms j++zAR m k).length=zU ms j+k:=by rw[kX,HSL.out.1];simp[zAR]
     have hle:(jW ms j++m.empty.take k).length=zU ms j+k:=by rw[kX,HSL.out.2,List.length_take];omega
     rw[hls] at hsv;rw[hle] at hev;subst hsv hev;generalize hns:zU ms j+k=ns at *;have hn8:ns<=8:=by omega
     generalize hsl:qW ms j++zAR m k=sl at *;generalize hel:jW ms j++m.empty.take k=el at *;have HLL:Hid (sl.length=ns/\el.length=ns/\qW ms j++zAR m k=sl/\jW ms j++m.empty.take k=el):=⟨hls,hle,hsl,hel⟩
     clear hsl hel hls hle hns;have HHR:Hid (∀w',Grew w w'->Ca 69 #[agg #[slice an m.next.length cn,slice ar m.rules.length cr,iX m.start],iX ((k:Nat):Int)] w' λe w2=>e=returned (bool (hasRuleB m k))/\Grew w' w2):=λw' hk=>zG3 w' _ _ m (HT.1.grown hk) HT.2.1 k;have f1:=rf 1;have hlr:=hR.lt;clear r0 r3 r4 r5 r2 q3 rf hgk hce;clear hR hM;have HB2:Hid (∀w5,Grew wr.drew w5->Rp w w5 mv2 (slice as_ ns cs) (slice ae2 ns ce2) (j+1) xs2 sl el (aheadTo ms (j+1))/\Mx w5 qb (slice an m.next.length cn) (slice ar m.rules.length cr) (slice (some ⟨be,oe,none⟩) m.empty.length ce) m/\w5.ownsRow (w.heap.size+2) 4 1 (slice as_ ns cs) ns (sl.map λx=>bool x)/\wr.heap.size<=w5.heap.size):=by
      intro w5 h;have h':=HB.2.1.drew.grown h;refine⟨h',(HB.2.2.grown (Keep.drew _)).grown h,?_,h.size⟩;have h2:=h'.shad;unfold OwnB at h2;rw[HLL.out.1] at h2;exact h2
     go_wp2_with fail;go_region_law ((first
      |(refine step_append_lies _ (by rfl) (.tmp 44) (.tmp 50) 28 (by rfl) (w.heap.size+2) 4 ib _ 1 1 underlying28 hib hb0 hb1 hb2 rfl (by decide) (slice as_ ns cs) ns (sl.map λx=>bool x) (by simp[Act.eval,Act.put]) (O5.alloc _) ⟨w5.heap.size,0,none⟩ 1 1 [bool (!hasRuleB m k)] (by simp[Act.eval,Act.put]) (by rfl) (news_of_block (cs:=#[bool (!hasRuleB m k)]) (t:=4) (fr:=(0,0)) (gX w5 _)) (by simp[Value.oneCell']) (by decide) (by unfold maxLen;omega) (by omega) (by simp;omega) (w5.heap.size+1) (by simp) ?_;intro gg cap2 w6 hown hgrow hat hlt;have hPB:w6.heap[w.heap.size+1]? =w5.heap[w.heap.size+1]? :=(hgrow.block _ (by simp;omega) (λe=>by have:=(O5.lt _ e.symm).1;omega)).trans (lG _ _ _ (by omega));have t1:w6.cell? ⟨w.heap.size+1,1,none⟩=some (slice as_ ns cs):=(gZ hPB).trans R5.cells.1.2.1;have t2:w6.frozen? ⟨w.heap.size+1,1,none⟩=false:=(gY hPB).trans (R5.cells.2 1))
      |(go_simp;go_at_call 69;refine(HHR _ (HB.2.1.keep.trans (Keep.drew _))).mono ?_;rintro e w5 ⟨rfl,hk5⟩;obtain⟨R5,M5,O5,hs5⟩:=HB2 w5 hk5;have p1:w5.cell? ⟨w.heap.size+1,1,none⟩=some (slice as_ ns cs):=R5.cells.1.2.1;have hl5:w.heap.size+2<=w5.heap.size:=R5.lt;have p2:(w5.alloc (.cells #[bool (!hasRuleB m k)] 4)).cell? ⟨w.heap.size+1,1,none⟩=some (slice as_ ns cs):=(gW _ _ _ (by show w.heap.size+1<w5.heap.size;omega)).trans p1)))
     all_goals
      obtain⟨sv3,w7,hw7,hsv3,A7⟩:∃sv3 w7,w7=w6.setCell ⟨w.heap.size+1,1,none⟩ (slice (qX gg) (ns+1) cap2)/\sv3=slice (qX gg) (ns+1) cap2/\Hid (Rp w w7 mv2 sv3 (slice ae2 ns ce2) (j+1) xs2 (sl++[!hasRuleB m k]) el (aheadTo ms (j+1))/\Mx w7 qb (slice an m.next.length cn) (slice ar m.rules.length cr) (slice (some ⟨be,oe,none⟩) m.empty.length ce) m):=by
       refine⟨_,_,rfl,rfl,?_,Mx.app M5 O5 (by decide) hgrow (Ne.symm hq1)⟩;have hown2:=hown;rw[<-HLL.out.1] at hown2;have h:=Rp.shad_app R5 hown2 hgrow (by
        rcases hat with ha|ha
        ·exact .inl ha
        ·right;rw[ha];omega)
       rw[HLL.out.1] at h;exact h
      rw[<-hw7];clear hw7 hown hgrow hat hPB t1 t2 p1 p2 O5 M5 R5 hk5 r1 q0 q1 q2 f1 ye;have hl7:=A7.1.lt;have s2:w7.cell? ⟨w.heap.size+1,2,none⟩=some (slice ae2 ns ce2):=A7.1.cells.1.2.2.1;have O7:w7.ownsRow (w.heap.size+2) 4 1 (slice ae2 ns ce2) ns (el.map λx=>bool x):=by
       have h:=A7.1.emp;unfold OwnB at h;rw[HLL.out.2.1] at h;exact h
      go_wp2_with (first|(at_builtin;refine wpList_append_lies _ rfl _ _ 28 rfl (w.heap.size+2) 4 ib (bool false) 1 1 underlying28 hib hb0 hb1 hb2 rfl (by decide) _ _ _ rfl (O7.alloc _) ⟨w7.heap.size,0,none⟩ 1 1 [bool ek] rfl rfl (cell_one_new _ _ _) (by intro u hu;simp at hu;subst hu;rfl) (by decide) (by unfold maxLen;omega) (by omega) (by simp;omega) _ rfl ?_;intro g2 cap3 w8 hown hgrow hat hlt2;have hPB:w8.heap[w.heap.size+1]? =w7.heap[w.heap.size+1]? :=(hgrow.block _ (by simp;omega) (λe=>by have:=(O7.lt _ e.symm).1;omega)).trans (lG _ _ _ (by omega));have t1:w8.cell? ⟨w.heap.size+1,2,none⟩=some (slice ae2 ns ce2):=(gZ hPB).trans A7.1.cells.1.2.2.1;have t2:w8.frozen? ⟨w.heap.size+1,2,none⟩=false:=(gY hPB).trans (A7.1.cells.2 2)))
      obtain⟨ev3,w9,hw9,A9⟩:∃ev3 w9,w9=w8.setCell ⟨w.heap.size+1,2,none⟩ (slice (qX g2) (ns+1) cap3)/\Hid (Rp w w9 mv2 sv3 ev3 (j+1) xs2 (sl++[!hasRuleB m k]) (el++[ek]) (aheadTo ms (j+1))/\Mx w9 qb (slice an m.next.length cn) (slice ar m.rules.length cr) (slice (some ⟨be,oe,none⟩) m.empty.length ce) m):=by
       refine⟨slice (qX g2) (ns+1) cap3,_,rfl,?_,Mx.app A7.2 O7 (by decide) hgrow (Ne.symm hq1)⟩;have hown2:=hown;rw[<-HLL.out.2.1] at hown2;have h:=Rp.emp_app A7.1 hown2 hgrow (by
        rcases hat with ha|ha
        ·exact .inl ha
        ·right;rw[ha];simp)
       rw[HLL.out.2.1] at h;exact h
      rw[<-hw9];clear hw9 hown hgrow hat hPB t1 t2 O7 s2;go_roundg (m.empty.length-(k+1))
      case measure=>rw[HB.out.1];omega
      case rel=>
       refine⟨k+1,sv3,ev3,rfl,by omega,by go_num,?_,A9.2⟩;have e1:qW ms j++zAR m (k+1)=sl++[!hasRuleB m k]:=by
        rw[<-HLL.out.2.2.1];simp[zAR,List.range_succ]
       have e2:jW ms j++m.empty.take (k+1)=el++[ek]:=by
        rw[<-HLL.out.2.2.2,<-HEK.out,hJ,List.take_add_one,lW,lV hk3];rfl
       rw[e1,e2];exact A9.1
    ·have hke:k=m.empty.length:=by omega
     have i2:(m.empty.length:Int)<=(k:Int):=by omega
     have HZ:Hid (Rp w wr mv2 sv ev (j+1) xs2 (qW ms (j+1)) (jW ms (j+1)) (aheadTo ms (j+1))):=by
      have h:=hR;rw[hke,List.take_length] at h;have e1:qW ms (j+1)=qW ms j++zAR m m.empty.length:=by rw[<-HT.out.2.2.2.2.2.2];rfl
      have e2:jW ms (j+1)=jW ms j++m.empty:=by rw[<-HT.out.2.2.2.2.2.2];rfl
      show Rp _ _ _ _ _ _ _ _ _ _;rw[e1,e2];exact h
     clear hgk hR hM hke;go_wp2_with fail;go_roundg (ms.length-(j+1))
     case measure=>rw[HA.out.1];omega
     case rel=>exact⟨j+1,_,_,_,_,rfl,by omega,by go_num,HZ⟩
  ·have hje:j=ms.length:=by omega
   have i1:(ms.length:Int)<=(j:Int):=by omega
   have HZ:Hid (Rp w wr mv sv ev j xs (qW ms ms.length) (jW ms ms.length) (aheadTo ms ms.length)):=by
    have h:=hR;show Rp _ _ _ _ _ _ _ _ _ _;rw[<-hje];exact h
   have hal:=zGK ms HOK ms.length lQ;have HIS:Hid (∀w',Ca 70 #[iX (aheadTo ms ms.length),iX ((kinds:Nat):Int)] w' λe w2=>e=returned (bool (yG (aheadTo ms ms.length) kinds))/\w2=w'):=λw'=>zGp w' _ kinds hk (by omega);obtain⟨⟨r0,r1,r2,r3,r4,r5⟩,rf⟩:=HZ.cells;have f4:=rf 4;obtain⟨a0,k0,rfl⟩:=zE HZ.modes;obtain⟨a1,k1,rfl⟩:=HZ.shad.form;obtain⟨a2,k2,rfl⟩:=HZ.emp.form;have hres:=HZ.res;have x0:wr.cell? ⟨w.heap.size,0,none⟩=some (slice none 0 0):=by unfold cell?;rw[hres];rfl
   have x1:wr.cell? ⟨w.heap.size,1,none⟩=some (slice none 0 0):=by unfold cell?;rw[hres];rfl
   have x2:wr.cell? ⟨w.heap.size,2,none⟩=some (slice none 0 0):=by unfold cell?;rw[hres];rfl
   have x3:wr.cell? ⟨w.heap.size,3,none⟩=some (iX 0):=by unfold cell?;rw[hres];rfl
   have x4:wr.cell? ⟨w.heap.size,4,none⟩=some (bool false):=by unfold cell?;rw[hres];rfl
   have x5:wr.cell? ⟨w.heap.size,5,none⟩=some (iX 0):=by unfold cell?;rw[hres];rfl
   have xf:∀i,wr.frozen? ⟨w.heap.size,i,none⟩=false:=λi=>by unfold frozen?;rw[hres];simp
   have xf0:=xf 0;have xf1:=xf 1;have xf2:=xf 2;have xf3:=xf 3;have xf4:=xf 4;have xf5:=xf 5;clear hgk hR hje rf xf hres;obtain⟨A,hA⟩:∃A,aheadTo ms ms.length=A:=⟨_,rfl⟩
   rw[hA] at r3 HIS HZ hal;have HAe:Hid (aheadTo ms ms.length=A):=hA;clear hA;cases force with
   |true=>
    go_wp2_with fail;refine gV (v:=agg #[slice a0 j k0,slice a1 (qW ms ms.length).length k1,slice a2 (jW ms ms.length).length k2,iX A,bool false,iX 0]) (by simp[results,results46,go_sem, *]) rfl ⟨_,_,_,by rw[HAe.out];rfl,?_,?_,?_,⟨_,_,_,rfl⟩⟩
    ·refine yD (H:=w.heap.size+2) ?_ (by omega)
     iterate 7 refine xG ?_ (by omega)
     exact HZ.shad
    ·refine yD (H:=w.heap.size+2) ?_ (by omega)
     iterate 7 refine xG ?_ (by omega)
     exact HZ.emp
    ·refine HZ.keep.trans ?_
     iterate 6 refine Keep.trans ?_ (zP _ _ _ _ (by omega))
     exact zP _ _ _ _ (by omega)
   |false=>
    go_wp2_with (first|(go_at_call 70;refine(HIS _).mono ?_;rintro e w9 ⟨rfl,rfl⟩))
    refine gV (v:=agg #[slice a0 j k0,slice a1 (qW ms ms.length).length k1,slice a2 (jW ms ms.length).length k2,iX A,bool (yG A kinds),iX 0]) (by simp[results,results46,go_sem, *]) rfl ⟨_,_,_,by rw[HAe.out];rfl,?_,?_,?_,⟨_,_,_,rfl⟩⟩
    ·refine yD (H:=w.heap.size+2) ?_ (by omega)
     iterate 7 refine xG ?_ (by omega)
     exact HZ.shad
    ·refine yD (H:=w.heap.size+2) ?_ (by omega)
     iterate 7 refine xG ?_ (by omega)
     exact HZ.emp
    ·refine HZ.keep.trans ?_
     iterate 6 refine Keep.trans ?_ (zP _ _ _ _ (by omega))
     exact zP _ _ _ _ (by omega)
end
theorem zEH (w:World)(H p:Nat)(c:Tc)(t:Tb)(b:Mem w H p c t)(ok:t.OkN)(g:1<=t.nst)(h:1<=t.count)(a:Nat)(i:a<=255)(j:zF t.count a<=3000):
  Calls prog 47 #[pX p,iX a] w λe w'=>e=returned (tuple #[])/\∃d,Mem w' H p d ({t with stream:=true}.looking a)/\Keep w.heap.size p w w':=by
 have o:=b.tp.get_stream;have q:=b.tp.fz 0;have k:Hid (Mem (w.setCell ⟨p,0,none⟩ (bool true)) H p {c with stream:=bool true} {t with stream:=true}):=b.putStream true;have l:=zCv _ H p _ _ k ⟨ok.1,ok.2,ok.3,ok.4⟩ g h a i j;clear b;go_enter func47,ntmps47
 go_wp2_with (first|(go_at_call 66;refine l.mono ?_;rintro e w2 ⟨rfl,d,m,f⟩))
 go_end0;exact⟨rfl,d,m,(Keep.set _ _ _).trans (by rw[zC] at f;exact f)⟩
def zEM (n:Int):Bool:=decide (0<=n/\n<55296\/57343<n/\n<=1114111)
structure Cs where
 ranges:List (Int×Int)
 others:Bool
def Cs.lists (s:Cs)(c:Int):Bool:=s.ranges.any λr=>decide (r.1<=c)&&decide (c<=r.2)
def Cs.has (s:Cs)(c:Int):Bool:=zEM c&&(s.lists c != s.others)
def RangesAt (w:World)(v:Value)(l:List (Int×Int)):Prop:=
 ∃ao cap,v=slice ao l.length cap/\l.length<=cap/\cap<=maxLen/\∀i,i<l.length->∃b o,ao=some ⟨b,o,none⟩/\In w b/\w.cell? ⟨b,o+i*2,none⟩=some (int i64 (l.getD i (0,0)).1)/\w.cell? ⟨b,o+i*2+1,none⟩=some (int i64 (l.getD i (0,0)).2)
theorem RangesAt.grown {w w':World}{v:Value}{l:List (Int×Int)}(d:RangesAt w v l)(a:Grew w w'):RangesAt w' v l:=by
 obtain⟨ao,cap,e,f,g,j⟩:=d;refine⟨ao,cap,e,f,g,λi k=>?_⟩;obtain⟨b,o,m,c,c0,c1⟩:=j i k;exact⟨b,o,m,lZ c a.size,zA c0 c a,zA c1 c a⟩
def SetsAt (w:World)(v:Value)(l:List Cs):Prop:=
 ∃ao cap,v=slice ao l.length cap/\l.length<=cap/\cap<=maxLen/\∀i,i<l.length->∃b o u,ao=some ⟨b,o,none⟩/\In w b/\w.cell? ⟨b,o+i*2,none⟩=some u/\w.cell? ⟨b,o+i*2+1,none⟩=some (bool (l.getD i ⟨[],false⟩).others)/\RangesAt w u (l.getD i ⟨[],false⟩).ranges
theorem SetsAt.grown {w w':World}{v:Value}{l:List Cs}(d:SetsAt w v l)(a:Grew w w'):SetsAt w' v l:=by
 obtain⟨ao,cap,e,f,g,j⟩:=d;refine⟨ao,cap,e,f,g,λi k=>?_⟩;obtain⟨b,o,u,m,c,c0,c1,p⟩:=j i k;exact⟨b,o,u,m,lZ c a.size,zA c0 c a,zA c1 c a,p.grown a⟩
theorem zGo (w:World)(n:Int):
  Calls prog 191 #[iX n] w λe w'=>e=returned (bool (zEM n))/\w'=w:=by
 by_cases b:0<=n
 ·by_cases d:n<55296
  ·have a:Hid (zEM n=true):=by show _=_;unfold zEM;exact gJ (by omega)
   go_in;go_wp2;go_ret;exact⟨by rw[a.out];simp[b,d],rfl⟩
  ·by_cases c:57343<n
   ·have a:Hid (zEM n=decide (n<=1114111)):=by show _=_;unfold zEM;congr 1;exact propext (by omega)
    go_in;go_wp2;go_ret;exact⟨by rw[a.out];simp[b,d,c],rfl⟩
   ·have a:Hid (zEM n=false):=by show _=_;unfold zEM;exact gU (by omega)
    go_in;go_wp2;go_ret;exact⟨by rw[a.out];simp[b,d,c],rfl⟩
 ·have c:¬57343<n:=by omega
  have a:Hid (zEM n=false):=by show _=_;unfold zEM;exact gU (by omega)
  go_in;go_wp2;go_ret;exact⟨by rw[a.out];simp[b,c],rfl⟩
end Go.Proofs.YtbjcfkdnjaiclaaGreat
