import Derived.Test.YtbjcfkdnjaiclaaGreatS0
import Derived.Test.YtbjcfkdnjaiclaaGreatS9
/- Parts of the proof. -/
set_option linter.unusedVariables false
set_option linter.unusedSimpArgs false
set_option maxHeartbeats 4000000
set_option maxRecDepth 100000
namespace Go.Proofs.YtbjcfkdnjaiclaaGreat
open Go.RowKit Go.Proofs.Tryz Go.World
open Go.Value (int slice bool pointer string agg tuple)
open Go.IntKind (i64)
open Go.Ending (returned)
theorem OwnI.some {w:World}{H n cap:Nat}{ao:Option Addr}{l:List Int}(a:OwnI w H (slice ao n cap) l)(b:0<l.length):∃g,ao=some ⟨g,0,none⟩:=by
 rcases a.2 with⟨_,c⟩|⟨g,_,_,a,_⟩
 ·omega
 ·injection a with a _ _
  exact⟨g,a⟩
theorem zBb {w:World}{H:Nat}{v:Value}{l:List Int}(a:OwnI w H v l):Ints w (In w) v l:=zCz a λg b=>(a.lt g b).2
theorem zKY (w:World)(v:Value)(sets:List Cs)(aT:SetsAt w v sets)(aU:sets.length<=24)(a6:yR sets<=100000000000)(a7:∀s∈sets,s.Small):
  Calls prog 127 #[v] w λe w'=>∃lv tv sv,e=returned (agg #[lv,tv,sv])/\ArAt w' lv tv sv (yN sets)/\Grew w w':=by
 obtain⟨ak,am,an,S,X⟩:=info_parts yF;have a8:Hid (∀w',Grew w w'->_):=λw' O=>zFu w' v sets (aT.grown O) aU a6 a7;have a9:Hid (∀w' c,Grew w w'->_):=λw' c O=>zHR w' v sets (aT.grown O) aU (λs ba=>by
  obtain⟨i,ao,rfl⟩:=List.getElem_of_mem ba;have b:=zE7 sets i ao;rw[lW,lV ao] at b;have bs:sets[i].ranges.length<=yR sets:=by simpa using (lY (Nat.le_add_left _ _) b)
  omega) c
 have bt:(xX sets).length<=500000000000:=by
  have:(xX sets).length=4+2*yR sets:=zGF _ _;omega
 have bb:Hid (∀j,j<=(xX sets).length->_):=λj aB=>zD2 sets j aB;have bc:w.heap.size<(w.alloc (.cells #[slice none 0 0,slice none 0 0,slice none 0 0] 172)).heap.size:=by simp
 obtain⟨w1,aV,ap⟩:∃w1,w1=w.alloc (.cells #[slice none 0 0,slice none 0 0,slice none 0 0] 172)/\Hid (Grew w w1/\w1.heap[w.heap.size]? =some (.cells #[slice none 0 0,slice none 0 0,slice none 0 0] 172)/\w.heap.size<w1.heap.size):=⟨_,rfl,kZ _ _ lQ,gX w _,by simp⟩
 go_in;apply wp_cut;intro aW K;go_wp2;apply K.out;clear K;rw[<-aV];clear aV bc;apply wp_cut;intro aW K;go_wp2_with (first|(go_at_call 167;refine(a8 _ ap.1).mono ?_;rintro e w2 ⟨u,rfl,o,aq⟩;obtain⟨P,Y,rfl⟩:=o.form))
 apply K.out;clear K;apply wp_cut;intro aW K;go_wp2;apply K.out;clear K;obtain⟨f,Q,aa,bu⟩:∃f,f=(w2.alloc (.cells #[slice P (xX sets).length Y] 239)).alloc (.cells #[slice none 0 0,slice none 0 0,slice none 0 0] 172)/\Hid (AwIs f (w2.heap.size+2) (w2.heap.size+1) ⟨[],[],[]⟩/\Grew w f/\f.heap[w.heap.size]? =some (.cells #[slice none 0 0,slice none 0 0,slice none 0 0] 172)/\f.cell? ⟨w2.heap.size,0,none⟩=some (slice P (xX sets).length Y)/\(∀i,i<(xX sets).length->∃g,P=some ⟨g,0,none⟩/\g<w2.heap.size/\f.cell? ⟨g,i,none⟩=some (iX ((xX sets).getD i 0))))/\w.heap.size<w2.heap.size:=by
  obtain⟨F,ar⟩:∃F,F=w2.alloc (.cells #[slice P (xX sets).length Y] 239):=⟨_,rfl⟩
  have bd:F.heap[w2.heap.size]? =some (.cells #[slice P (xX sets).length Y] 239):=by rw[ar];exact gX w2 _
  have aC:Grew w2 F:=by rw[ar];exact kZ _ _ lQ
  have aX:F.heap.size=w2.heap.size+1:=by rw[ar];simp
  rw[<-ar];obtain⟨f,Q⟩:∃f,f=F.alloc (.cells #[slice none 0 0,slice none 0 0,slice none 0 0] 172):=⟨_,rfl⟩
  have be:f.heap[w2.heap.size+1]? =some (.cells #[slice none 0 0,slice none 0 0,slice none 0 0] 172):=by rw[Q,<-aX];exact gX F _
  have av:Grew F f:=by rw[Q];exact kZ _ _ lQ
  have bv:f.heap.size=w2.heap.size+2:=by rw[Q];simp[aX]
  have S:=ap.2.2;have X:=aq.size;have bf:Grew w f:=((ap.1.trans (aq.lower (by omega) (by omega))).trans (aC.lower (by omega) (by omega))).trans (av.lower (by omega) (by omega));refine⟨f,Q,⟨⟨_,_,_,⟨be,ownsRow_nil _ _ _ _,ownsRow_nil _ _ _ _,ownsRow_nil _ _ _ _,λg b=>by simp[Value.ownBlock] at b,λg b=>by simp[Value.ownBlock] at b,λg b=>by simp[Value.ownBlock] at b,by omega,by omega⟩⟩,bf,?_,?_,?_⟩,by omega⟩
  ·exact(av.block _ (by omega) (by omega)).trans ((aC.block _ (by omega) (by omega)).trans ((aq.block _ S (by omega)).trans ap.2.1))
  ·have e:f.heap[w2.heap.size]? =some (.cells #[slice P (xX sets).length Y] 239):=(av.block _ (by omega) (by omega)).trans bd
   unfold cell?;rw[e];rfl
  ·intro i ao
   obtain⟨g,aY⟩:∃g,P=some ⟨g,0,none⟩:=by
    rcases o.2 with⟨b,bw⟩|⟨g,_,_,b,_⟩
    ·omega
    ·injection b with b _ _
     exact⟨g,b⟩
   subst aY;have aZ:=(o.lt g rfl).2;exact⟨g,rfl,aZ,zA (zA (o.cell i ao) aZ aC) (by omega) av⟩
 rw[<-Q];clear Q o aq;have bg:=aa.2.2.2.1;go_wp2;clear bg;go_loopg [15] (xX sets).length (λq i wr=>∃j:Nat,q=(xX sets).length-j/\j<=(xX sets).length/\i=iX (j:Int)/\AwIs wr (w2.heap.size+2) (w2.heap.size+1) (vS sets j)/\Keep (w2.heap.size+2) (w2.heap.size+1) f wr)
 case atStart=>exact⟨0,rfl,lX,rfl,by unfold vS;rw[List.take_zero];exact aa.1,⟨rfl,rfl,lQ,λ_ _ _=>rfl⟩⟩
 case round=>
  obtain⟨j,aD,aB,rfl,T,U⟩:=hrel;have r:Hid (gk=(xX sets).length-j/\AwIs wr (w2.heap.size+2) (w2.heap.size+1) (vS sets j)/\Keep (w2.heap.size+2) (w2.heap.size+1) f wr/\Grew w wr):=⟨aD,T,U,aa.2.1.trans (U.lower (by omega) (by omega))⟩
  by_cases a0:j<(xX sets).length
  ·have bh:(j:Int)<((xX sets).length:Int):=by omega
   obtain⟨g,rfl,aY,a1⟩:=aa.2.2.2.2 j a0;have bx:wr.cell? ⟨g,j,none⟩=some (iX ((xX sets).getD j 0)):=(gZ (U.block g (by omega) (by omega))).trans a1;have aE:=vl <| zCx sets j a0;have aF:=bb j aB;clear aD U a1;generalize (xX sets).getD j 0=low at *;generalize bz:(xX sets).length=aG at *;obtain⟨x,V⟩:∃x,vJ sets low=x:=⟨_,rfl⟩
   obtain⟨a,m⟩:∃a,vS sets j=a:=⟨_,rfl⟩
   rw[m] at aE aF T r;have aH:=zFW a x;have a2:Hid ((a.seen x).turns (a.look x)=true->vS sets (j+1)={a.seen x with lows:=(a.seen x).lows++[low],letters:=(a.seen x).letters++[(a.look x:Int)]}):=λb=>by
    rw[aE.out];have:=Ar.step_yes sets a low (by rw[V];exact b);rw[V] at this;exact this
   have bi:Hid ((a.seen x).turns (a.look x)=false->vS sets (j+1)=a.seen x):=λb=>by
    rw[aE.out];have:=Ar.step_no sets a low (by rw[V];exact b);rw[V] at this;exact this
   have aI:Hid (∀w',Grew w w'->Ca 169 #[v,iX low] w' λe w2=>e=returned (iX (x:Nat))/\Grew w' w2):=λw' b=>by rw[<-V];exact a9 w' low b
   have aJ:Hid (∀w',AwIs w' (w2.heap.size+2) (w2.heap.size+1) a->_):=λw' b=>zGl w' _ _ a b (by omega) x;have bA:(a.seen x).lows.length<=500000000000:=by rw[aH.1];omega
   have bj:(a.seen x).letters.length<=500000000000:=by rw[aH.2.1,<-aF.1];omega
   clear aH aF;have bB:w2.heap.size+2<=wr.heap.size:=by
    obtain⟨_,_,_,b⟩:=T;exact b.lt
   clear m V T;by_cases aw:(a.seen x).letters.length=0
   ·have ab:=vl <| a2 (by unfold Ar.turns;rw[aw];rfl)
    have y:=vl aw;clear aw;go_wp2_with (first|(go_at_call 169;refine(aI _ r.2.2.2).mono ?_;rintro e a3 ⟨rfl,D⟩)|(go_at_call 168;refine(aJ _ (r.2.1.grown D)).mono ?_;rintro e p ⟨rfl,⟨lv,tv,sv,d⟩,L⟩;obtain⟨ac,aK,q2,ad⟩:=d.cells;obtain⟨A,B,rfl⟩:=d.lows.form;obtain⟨at_,z,M⟩:=d.letters.form;rw[y.out] at M;subst M;have G:Hid (Aw p (w2.heap.size+2) (w2.heap.size+1) (slice A (a.seen x).lows.length B) (slice at_ 0 z) sv (a.seen x)/\Keep (w2.heap.size+2) (w2.heap.size+1) f p):=⟨d,(r.2.2.1.trans (D.lower (by omega) (by omega))).trans L⟩;have ax:=d.lt;have W:p.ownsRow (w2.heap.size+2) 3 1 (slice A (a.seen x).lows.length B) (a.seen x).lows.length ((a.seen x).lows.map λx=>iX x):=d.lows;clear d L D ad q2)|(at_builtin;refine wpList_append_lies _ rfl _ _ 45 rfl (w2.heap.size+2) 3 ak (iX 0) 1 8 underlying45 am an S X rfl (by decide) _ _ _ rfl (ae.alloc _) ⟨l.heap.size,0,none⟩ 1 1 [iX (a.look x:Int)] rfl rfl (zBR _ [iX (a.look x:Int)] _ _ (zC _ _ _)) (by intro u o;simp at o;subst o;rfl) (by decide) (by unfold maxLen;omega) (by omega) (by simp[zC];omega) _ rfl ?_;intro H I C aL af aM bk;have ag:C.heap[w2.heap.size+1]? =(l.setCell ⟨w2.heap.size+1,0,none⟩ (slice (qX J) ((a.seen x).lows.length+1) cap)).heap[w2.heap.size+1]? :=(af.block _ (by simp[zC];omega) (λe=>by have:=(ae.lt _ e.symm).1;omega)).trans (lG _ _ _ (by rw[zC];omega));have bl:C.cell? ⟨w2.heap.size+1,1,none⟩=some (slice at_ 0 z):=(gZ ag).trans aN;have bm:C.frozen? ⟨w2.heap.size+1,1,none⟩=false:=(gY ag).trans aO)|(at_builtin;refine wpList_append_lies _ rfl _ _ 45 rfl (w2.heap.size+2) 3 ak (iX 0) 1 8 underlying45 am an S X rfl (by decide) _ _ _ rfl (W.alloc _) ⟨p.heap.size,0,none⟩ 1 1 [iX low] rfl rfl (cell_one_new _ _ _) (by intro u o;simp at o;subst o;rfl) (by decide) (by unfold maxLen;omega) (by omega) (by simp;omega) _ rfl ?_;intro J cap l aP R aQ bo;have ah:l.heap[w2.heap.size+1]? =p.heap[w2.heap.size+1]? :=(R.block _ (by simp;omega) (λe=>by have:=(W.lt _ e.symm).1;omega)).trans (lG _ _ _ (by omega));have t0:l.cell? ⟨w2.heap.size+1,0,none⟩=some (slice A (a.seen x).lows.length B):=(gZ ah).trans ac;have bp:l.frozen? ⟨w2.heap.size+1,0,none⟩=false:=(gY ah).trans (G.1.cells.2.2.2 0);have E:=Aw.lows_app G.1 aP R (by rcases aQ with m|m;exact .inl m;right;rw[m];simp);have aN:(l.setCell ⟨w2.heap.size+1,0,none⟩ (slice (qX J) ((a.seen x).lows.length+1) cap)).cell? ⟨w2.heap.size+1,1,none⟩=some (slice at_ 0 z):=E.1.cells.2.1;have ae:(l.setCell ⟨w2.heap.size+1,0,none⟩ (slice (qX J) ((a.seen x).lows.length+1) cap)).ownsRow (w2.heap.size+2) 3 1 (slice at_ 0 z) 0 ((a.seen x).letters.map λx=>iX x):=(by have b:=E.1.letters;unfold OwnI at b;rw[show ({a.seen x with lows:=(a.seen x).lows++[low]}:Ar).letters=(a.seen x).letters from rfl,y.out] at b;exact b);have bq:w2.heap.size+2<=l.heap.size:=lY ax (lY (by simp) R.size);have aO:(l.setCell ⟨w2.heap.size+1,0,none⟩ (slice (qX J) ((a.seen x).lows.length+1) cap)).frozen? ⟨w2.heap.size+1,1,none⟩=false:=E.1.cells.2.2.2 1))
    have ai:Hid (AwIs (C.setCell ⟨w2.heap.size+1,1,none⟩ (slice (qX H) (0+1) I)) (w2.heap.size+2) (w2.heap.size+1) (vS sets (j+1))/\Keep (w2.heap.size+2) (w2.heap.size+1) f (C.setCell ⟨w2.heap.size+1,1,none⟩ (slice (qX H) (0+1) I))):=by
     have aR:C.ownsRow (w2.heap.size+2) 3 1 (slice (qX H) ((a.seen x).letters.length+1) I) ((a.seen x).letters.length+1) (((a.seen x).letters.map λx=>iX x)++[iX (a.look x:Int)]):=by rw[y.out];exact aL
     have b:=Aw.letters_app E.1 (g:=H) (cap:=I) (x:=(a.look x:Int)) aR af (by
      rcases aM with m|m
      ·exact .inl m
      ·right;rw[m];simp[zC])
     rw[show ({a.seen x with lows:=(a.seen x).lows++[low]}:Ar).letters=(a.seen x).letters from rfl,y.out] at b;rw[ab.out];exact⟨⟨_,_,_,b.1⟩,(G.2.trans E.2).trans b.2⟩
    go_roundg (aG-(j+1))
    case measure=>rw[r.out.1];omega
    case rel=>exact⟨j+1,rfl,by omega,by go_num,ai.1,ai.2⟩
   ·obtain⟨k,O⟩:∃k,(a.seen x).letters.length=k+1:=⟨(a.seen x).letters.length-1,by omega⟩
    have y:=vl O;obtain⟨t,aS⟩:∃t,(a.seen x).letters.getD k 0=t:=⟨_,rfl⟩
    have a4:=vl aS;have ay:(a.seen x).turns (a.look x)=(t != (a.look x:Int)):=by
     unfold Ar.turns;rw[O,<-aS];rfl
    have bC:k<=500000000000:=by omega
    clear aw O aS bj;cases a5:(t != (a.look x:Int)) with
    |true=>
     have ab:=vl <| a2 (by rw[ay,a5]);clear ay;go_wp2_with (first|(go_at_call 169;refine(aI _ r.2.2.2).mono ?_;rintro e a3 ⟨rfl,D⟩)|(go_at_call 168;refine(aJ _ (r.2.1.grown D)).mono ?_;rintro e p ⟨rfl,⟨lv,tv,sv,d⟩,L⟩;obtain⟨ac,aK,q2,ad⟩:=d.cells;obtain⟨A,B,rfl⟩:=d.lows.form;obtain⟨at_,z,M⟩:=d.letters.form;rw[y.out] at M;subst M;obtain⟨N,rfl⟩:=d.letters.some (by rw[y.out];omega);have br:p.cell? ⟨N,k,none⟩=some (iX t):=(by rw[<-a4.out];exact d.letters.cell k (by rw[y.out];omega));have G:Hid (Aw p (w2.heap.size+2) (w2.heap.size+1) (slice A (a.seen x).lows.length B) (slice (qX N) (k+1) z) sv (a.seen x)/\Keep (w2.heap.size+2) (w2.heap.size+1) f p):=⟨d,(r.2.2.1.trans (D.lower (by omega) (by omega))).trans L⟩;have ax:=d.lt;have W:p.ownsRow (w2.heap.size+2) 3 1 (slice A (a.seen x).lows.length B) (a.seen x).lows.length ((a.seen x).lows.map λx=>iX x):=d.lows;clear d L D ad q2)|(at_builtin;refine wpList_append_lies _ rfl _ _ 45 rfl (w2.heap.size+2) 3 ak (iX 0) 1 8 underlying45 am an S X rfl (by decide) _ _ _ rfl (ae.alloc _) ⟨l.heap.size,0,none⟩ 1 1 [iX (a.look x:Int)] rfl rfl (zBR _ [iX (a.look x:Int)] _ _ (zC _ _ _)) (by intro u o;simp at o;subst o;rfl) (by decide) (by unfold maxLen;omega) (by omega) (by simp[zC];omega) _ rfl ?_;intro H I C aL af aM bk;have ag:C.heap[w2.heap.size+1]? =(l.setCell ⟨w2.heap.size+1,0,none⟩ (slice (qX J) ((a.seen x).lows.length+1) cap)).heap[w2.heap.size+1]? :=(af.block _ (by simp[zC];omega) (λe=>by have:=(ae.lt _ e.symm).1;omega)).trans (lG _ _ _ (by rw[zC];omega));have bl:C.cell? ⟨w2.heap.size+1,1,none⟩=some (slice (qX N) (k+1) z):=(gZ ag).trans aN;have bm:C.frozen? ⟨w2.heap.size+1,1,none⟩=false:=(gY ag).trans aO)|(at_builtin;refine wpList_append_lies _ rfl _ _ 45 rfl (w2.heap.size+2) 3 ak (iX 0) 1 8 underlying45 am an S X rfl (by decide) _ _ _ rfl (W.alloc _) ⟨p.heap.size,0,none⟩ 1 1 [iX low] rfl rfl (cell_one_new _ _ _) (by intro u o;simp at o;subst o;rfl) (by decide) (by unfold maxLen;omega) (by omega) (by simp;omega) _ rfl ?_;intro J cap l aP R aQ bo;have ah:l.heap[w2.heap.size+1]? =p.heap[w2.heap.size+1]? :=(R.block _ (by simp;omega) (λe=>by have:=(W.lt _ e.symm).1;omega)).trans (lG _ _ _ (by omega));have t0:l.cell? ⟨w2.heap.size+1,0,none⟩=some (slice A (a.seen x).lows.length B):=(gZ ah).trans ac;have bp:l.frozen? ⟨w2.heap.size+1,0,none⟩=false:=(gY ah).trans (G.1.cells.2.2.2 0);have E:=Aw.lows_app G.1 aP R (by rcases aQ with m|m;exact .inl m;right;rw[m];simp);have aN:(l.setCell ⟨w2.heap.size+1,0,none⟩ (slice (qX J) ((a.seen x).lows.length+1) cap)).cell? ⟨w2.heap.size+1,1,none⟩=some (slice (qX N) (k+1) z):=E.1.cells.2.1;have ae:(l.setCell ⟨w2.heap.size+1,0,none⟩ (slice (qX J) ((a.seen x).lows.length+1) cap)).ownsRow (w2.heap.size+2) 3 1 (slice (qX N) (k+1) z) (k+1) ((a.seen x).letters.map λx=>iX x):=(by have b:=E.1.letters;unfold OwnI at b;rw[show ({a.seen x with lows:=(a.seen x).lows++[low]}:Ar).letters=(a.seen x).letters from rfl,y.out] at b;exact b);have bq:w2.heap.size+2<=l.heap.size:=lY ax (lY (by simp) R.size);have aO:(l.setCell ⟨w2.heap.size+1,0,none⟩ (slice (qX J) ((a.seen x).lows.length+1) cap)).frozen? ⟨w2.heap.size+1,1,none⟩=false:=E.1.cells.2.2.2 1))
     have ai:Hid (AwIs (C.setCell ⟨w2.heap.size+1,1,none⟩ (slice (qX H) (k+1+1) I)) (w2.heap.size+2) (w2.heap.size+1) (vS sets (j+1))/\Keep (w2.heap.size+2) (w2.heap.size+1) f (C.setCell ⟨w2.heap.size+1,1,none⟩ (slice (qX H) (k+1+1) I))):=by
      have aR:C.ownsRow (w2.heap.size+2) 3 1 (slice (qX H) ((a.seen x).letters.length+1) I) ((a.seen x).letters.length+1) (((a.seen x).letters.map λx=>iX x)++[iX (a.look x:Int)]):=by rw[y.out];exact aL
      have b:=Aw.letters_app E.1 (g:=H) (cap:=I) (x:=(a.look x:Int)) aR af (by
       rcases aM with m|m
       ·exact .inl m
       ·right;rw[m];simp[zC])
      rw[show ({a.seen x with lows:=(a.seen x).lows++[low]}:Ar).letters=(a.seen x).letters from rfl,y.out] at b;rw[ab.out];exact⟨⟨_,_,_,b.1⟩,(G.2.trans E.2).trans b.2⟩
     go_roundg (aG-(j+1))
     case measure=>rw[r.out.1];omega
     case rel=>exact⟨j+1,rfl,by omega,by go_num,ai.1,ai.2⟩
    |false=>
     have ab:=vl <| bi (by rw[ay,a5]);clear ay;go_wp2_with (first|(go_at_call 169;refine(aI _ r.2.2.2).mono ?_;rintro e a3 ⟨rfl,D⟩)|(go_at_call 168;refine(aJ _ (r.2.1.grown D)).mono ?_;rintro e p ⟨rfl,⟨lv,tv,sv,d⟩,L⟩;obtain⟨ac,aK,q2,ad⟩:=d.cells;obtain⟨A,B,rfl⟩:=d.lows.form;obtain⟨at_,z,M⟩:=d.letters.form;rw[y.out] at M;subst M;obtain⟨N,rfl⟩:=d.letters.some (by rw[y.out];omega);have br:p.cell? ⟨N,k,none⟩=some (iX t):=(by rw[<-a4.out];exact d.letters.cell k (by rw[y.out];omega));have G:Hid (Aw p (w2.heap.size+2) (w2.heap.size+1) (slice A (a.seen x).lows.length B) (slice (qX N) (k+1) z) sv (a.seen x)/\Keep (w2.heap.size+2) (w2.heap.size+1) f p):=⟨d,(r.2.2.1.trans (D.lower (by omega) (by omega))).trans L⟩;have ax:=d.lt;have W:p.ownsRow (w2.heap.size+2) 3 1 (slice A (a.seen x).lows.length B) (a.seen x).lows.length ((a.seen x).lows.map λx=>iX x):=d.lows;clear d L D ad q2))
     go_roundg (aG-(j+1))
     case measure=>rw[r.out.1];omega
     case rel=>exact⟨j+1,rfl,by omega,by go_num,by rw[ab.out];exact⟨_,_,_,G.1⟩,G.2⟩
  ·have bh:((xX sets).length:Int)<=(j:Int):=by omega
   have e:=zGc sets j (by omega);rw[e] at T;obtain⟨lv,tv,sv,b⟩:=T;obtain⟨ac,aK,q2,-⟩:=b.cells;obtain⟨A,B,rfl⟩:=b.lows.form;obtain⟨at_,z,rfl⟩:=b.letters.form;obtain⟨as_,cs,rfl⟩:=b.sets.form;have aj:wr.heap[w.heap.size]? =some (.cells #[slice none 0 0,slice none 0 0,slice none 0 0] 172):=(U.block _ (by omega) (by omega)).trans aa.2.2.1;have bD:wr.cell? ⟨w.heap.size,0,none⟩=some (slice none 0 0):=by unfold cell?;rw[aj];rfl
   have bE:wr.cell? ⟨w.heap.size,1,none⟩=some (slice none 0 0):=by unfold cell?;rw[aj];rfl
   have bF:wr.cell? ⟨w.heap.size,2,none⟩=some (slice none 0 0):=by unfold cell?;rw[aj];rfl
   have az:∀i,wr.frozen? ⟨w.heap.size,i,none⟩=false:=λi=>by unfold frozen?;rw[aj];simp
   have bG:=az 0;have bH:=az 1;have bI:=az 2;have aA:Hid (Aw wr (w2.heap.size+2) (w2.heap.size+1) (slice A (yN sets).lows.length B) (slice at_ (yN sets).letters.length z) (slice as_ (yN sets).sets.length cs) (yN sets)/\Grew w wr):=⟨b,r.2.2.2⟩
   clear b aD U aj az e;go_wp2;refine gV (v:=agg #[slice A (yN sets).lows.length B,slice at_ (yN sets).letters.length z,slice as_ (yN sets).sets.length cs]) (by simp[results,results127,go_sem, *]) rfl ⟨_,_,_,rfl,⟨zBb (xG (xG (xG aA.1.lows (by omega)) (by omega)) (by omega)),zBb (xG (xG (xG aA.1.letters (by omega)) (by omega)) (by omega)),zBb (xG (xG (xG aA.1.sets (by omega)) (by omega)) (by omega))⟩,?_⟩;exact((aA.2.trans (zP _ _ _ _ lQ)).trans (zP _ _ _ _ lQ)).trans (zP _ _ _ _ lQ)
theorem zOb (a b:List Int)(d:a.length=b.length)(e:∀i,i<a.length->a.getD i 0=b.getD i 0):a=b:=by
 apply List.ext_getElem d;intro i c f;have:=e i c;rw[lW,lV c,lW,lV f] at this;exact this
theorem zJ2 (w:World)(m o:Value)(a b:List Int)(v:Ints w (In w) m a)(z:Ints w (In w) o b)(N:a.length<=1000000000000):
  Calls prog 132 #[m,o] w λe w'=>e=returned (bool (decide (a=b)))/\Grew w w':=by
 obtain⟨O,P,rfl,_,_,A⟩:=v;obtain⟨Q,R,rfl,_,_,B⟩:=z;have C:=vl A;have p:=vl B;by_cases f:a.length=b.length
 ·have D:Hid ((∀i,i<a.length->a.getD i 0=b.getD i 0)->a=b):=λc=>zOb a b f c
  have E:Hid (∀i,a.getD i 0≠b.getD i 0->a≠b):=λi c e=>c (by rw[e]);rw[<-f] at p ⊢;have S:((a.length:Int) != (b.length:Int))=false:=by simp[f]
  go_in;go_wp2;go_loopg [13] a.length (λq i wr=>∃j:Nat,q=a.length-j/\j<=a.length/\i=iX (j:Int)/\(∀i,i<j->a.getD i 0=b.getD i 0)/\Grew w wr)
  case atStart=>exact⟨0,rfl,lX,rfl,λi r=>by omega,⟨rfl,rfl,lQ,λ_ _ _=>rfl⟩⟩
  case round=>
   obtain⟨j,F,T,rfl,s,k⟩:=hrel;have d:Hid (gk=a.length-j/\(∀i,i<j->a.getD i 0=b.getD i 0)/\Grew w wr):=⟨F,s,k⟩
   by_cases t:j<a.length
   ·have G:(j:Int)<(a.length:Int):=by omega
    obtain⟨U,V,rfl,H,c1⟩:=C j t;obtain⟨b2,W,rfl,I,c2⟩:=p j t;have X:=zA c1 H k;have Y:=zA c2 I k;have J:=vl <| E j;have K:Hid (a.getD j 0=b.getD j 0->∀i,i<j+1->a.getD i 0=b.getD i 0):=λc i r=>by
     by_cases e:i=j
     ·rw[e];exact c
     ·exact d.2.1 i (by omega)
    generalize a.getD j 0=x at *;generalize b.getD j 0=y at *;by_cases g:x=y
    ·have L:=vl <| K g
     have u:(x != y)=false:=by simp[g]
     go_wp2;go_quiet (fail);go_wp2;go_roundg (a.length-(j+1))
     case measure=>rw[d.out.1];omega
     case rel=>exact⟨j+1,rfl,by omega,by go_num,L,d.2.2.trans (Keep.alike (w':=wr.drewN nq) ⟨rfl,rfl,rfl⟩)⟩
    ·have M:=vl <| J g
     have u:(x != y)=true:=by simp[g]
     go_wp2;go_quiet (fail);go_wp2;go_ret;exact⟨by rw[gU M.out];rfl,d.2.2.trans (Keep.alike (w':=wr.drewN nq) ⟨rfl,rfl,rfl⟩)⟩
   ·have G:(a.length:Int)<=(j:Int):=by omega
    have l:=vl <| D λi r=>s i (by omega);go_wp2;go_ret;exact⟨by rw[gJ l.out];rfl,d.2.2⟩
 ·have l:Hid (a≠b):=λe=>f (by rw[e])
  have u:((a.length:Int) != (b.length:Int))=true:=by simp;omega
  go_in;go_wp2;go_ret;exact⟨by rw[gU l.out];rfl,⟨rfl,rfl,lQ,λ_ _ _=>rfl⟩⟩
theorem zJS (w:World)(step:Nat)(a:step=1\/step=64\/step=4096):
  Calls prog 176 #[iX step] w λe w'=>e=returned (iX (if step=64 then 2048 else if step=4096 then 65536 else 0))/\w'=w:=by
 rcases a with rfl|rfl|rfl
 all_goals
  go_in;go_wp2;go_ret;exact⟨rfl,rfl⟩
def vV (rules:List Nat)(set:Nat):Int:=if rules.findIdx (λr=>set&&&r != 0)<rules.length then(rules.findIdx (λr=>set&&&r != 0):Int) else -1
theorem zO0 (rules:List Nat)(set j:Nat)(a:j<rules.length)(b:set&&&rules.getD j 0≠0)(c:∀i,i<j->set&&&rules.getD i 0=0):vV rules set=j:=by
 have e:rules.findIdx (λr=>set&&&r != 0)=j:=by
  rw[List.findIdx_eq a];rw[lW,lV a] at b;refine⟨by simpa using b,λi d=>?_⟩;have:=c i d;rw[lW,lV (by omega)] at this;simpa using this
 unfold vV;rw[e,if_pos a]
theorem zMH (rules:List Nat)(set:Nat)(b:∀i,i<rules.length->set&&&rules.getD i 0=0):vV rules set=-1:=by
 have e:rules.findIdx (λr=>set&&&r != 0)=rules.length:=by
  rw[List.findIdx_eq_length];intro y c;obtain⟨i,a,rfl⟩:=List.getElem_of_mem c;have:=b i a;rw[lW,lV a] at this;simpa using this
 unfold vV;rw[e,if_neg (Nat.lt_irrefl _)]
theorem zKS (rules:List Nat)(set:Nat):-1<=vV rules set/\vV rules set<rules.length:=by
 unfold vV;split <;> omega
theorem zB4 (w:World)(p q:Nat)(rv:Value)(rules:List Nat)(K:w.cell? ⟨p,0,none⟩=some (pX q))(L:w.cell? ⟨q,4,none⟩=some rv)(v:Ints w (In w) rv (rules.map λ(x:Nat)=>(x:Int)))(M:rules.length<=8)(y:∀r∈rules,r<16777216)(set:Nat)(N:set<16777216):
  Calls prog 93 #[pX p,iX set] w λe w'=>e=returned (iX (vV rules set))/\w'=w:=by
 obtain⟨z,O,m,_,_,A⟩:=v;rw[kV] at m;subst m;have B:Hid (∀i,i<rules.length->∃b o,z=some ⟨b,o,none⟩/\cX w b (o+i)=some (iX ((rules.getD i 0:Nat):Int))/\rules.getD i 0<16777216):=by
  intro i a;obtain⟨b,o,C,_,s⟩:=A i (by rw[kV];exact a);refine⟨b,o,C,?_,y _ (zY _ i 0 a)⟩;rw[lW,gQ,lV a] at s;rw[lW,lV a];exact s
 have D:Hid (∀j,j<rules.length->set&&&rules.getD j 0≠0->(∀i,i<j->set&&&rules.getD i 0=0)->vV rules set=j):=λj=>zO0 rules set j;have E:=vl <| zMH rules set;go_in;go_wp2;go_loopg [15] rules.length (λk i wr=>∃j:Nat,k=rules.length-j/\j<=rules.length/\i=iX (j:Int)/\(∀i,i<j->set&&&rules.getD i 0=0)/\wr=w)
 case atStart=>exact⟨0,rfl,lX,rfl,λi a=>by omega,rfl⟩
 case round=>
  obtain⟨j,F,P,rfl,t,G⟩:=hrel;subst G;have f:Hid (gk=rules.length-j/\∀i,i<j->set&&&rules.getD i 0=0):=⟨F,t⟩
  by_cases u:j<rules.length
  ·have H:(j:Int)<(rules.length:Int):=by omega
   obtain⟨b,o,rfl,Q,R⟩:=B j u;have I:Hid (set&&&rules.getD j 0≠0->vV rules set=j):=λg=>D j u g f.2;have J:Hid (set&&&rules.getD j 0=0->∀i,i<j+1->set&&&rules.getD i 0=0):=λg i a=>by
    by_cases e:i=j
    ·rw[e];exact g
    ·exact f.2 i (by omega)
   generalize rules.getD j 0=r at *;have l:bits .and i64 (set:Int) (r:Int)=((set&&&r:Nat):Int):=qT _ _ (by omega) (by omega);by_cases d:set&&&r=0
   ·have c:=vl <| J d
    rw[d] at l;have S:=l;go_wp2;go_roundg (rules.length-(j+1))
    case measure=>rw[f.out.1];omega
    case rel=>exact⟨j+1,rfl,by omega,by go_num,c,rfl⟩
   ·have c:=vl <| I d
    have T:((bits .and i64 (set:Int) (r:Int)) != 0)=true:=by rw[l];simp;exact d
    go_wp2;go_ret;exact⟨by rw[c.out];rfl,rfl⟩
  ·have H:(rules.length:Int)<=(j:Int):=by omega
   have c:=vl <| E λi a=>t i (by omega);go_wp2;go_ret;exact⟨by rw[c.out];rfl,rfl⟩
def xU (rules:List Nat)(a b tail:Nat):Bool:=a&&&tail != b&&&tail&&(vV rules (a&&&tail) != vV rules (b&&&tail))
theorem zIz (w:World)(p q:Nat)(rv:Value)(rules:List Nat)(f:w.cell? ⟨p,0,none⟩=some (pX q))(g:w.cell? ⟨q,4,none⟩=some rv)(h:Ints w (In w) rv (rules.map λ(x:Nat)=>(x:Int)))(i:rules.length<=8)(j:∀r∈rules,r<16777216)(a b tail:Nat)(l:a<16777216)(m:b<16777216)(A:tail<16777216):
  Calls prog 174 #[pX p,iX a,iX b,iX tail] w λe w'=>e=returned (bool (xU rules a b tail))/\Grew w w':=by
 have B:bits .and i64 (a:Int) (tail:Int)=((a&&&tail:Nat):Int):=qT _ _ (by omega) (by omega);have C:bits .and i64 (b:Int) (tail:Int)=((b&&&tail:Nat):Int):=qT _ _ (by omega) (by omega);have o:a&&&tail<16777216:=Nat.lt_of_le_of_lt Nat.and_le_left l;have s:b&&&tail<16777216:=Nat.lt_of_le_of_lt Nat.and_le_left m;have k:Hid (xU rules a b tail=(a&&&tail != b&&&tail&&(vV rules (a&&&tail) != vV rules (b&&&tail)))):=rfl;have t:=vl <| zB4 w p q rv rules f g h i j _ o;have u:=vl <| zB4 w p q rv rules f g h i j _ s;generalize a&&&tail=x at *;generalize b&&&tail=y at *;by_cases c:x=y
 ·have d:Hid (xU rules a b tail=false):=by show _=_;rw[k.out,c];simp
  have v:((x:Int)==(y:Int))=true:=by simp[c]
  go_in;go_wp2;go_ret;exact⟨by rw[d.out];rfl,⟨rfl,rfl,lQ,λ_ _ _=>rfl⟩⟩
 ·have d:Hid (xU rules a b tail=(vV rules x != vV rules y)):=by
   show _=_;rw[k.out,show(x != y)=true by simp[c]];rfl
  have v:((x:Int)==(y:Int))=false:=by simp;omega
  generalize vV rules x=D at *;generalize vV rules y=E at *;go_in;go_wp2_with (first|(go_at_call 93;first|(have m2:=z;refine u.mono ?_;rintro e F ⟨rfl,rfl⟩)|(refine t.mono ?_;rintro e w2 ⟨rfl,rfl⟩;have z:True:=trivial)))
  go_ret;exact⟨by rw[d.out];rfl,⟨rfl,rfl,lQ,λ_ _ _=>rfl⟩⟩
structure So (w:World)(p q:Nat)(rv:Value)(rules:List Nat):Prop where
 net:w.cell? ⟨p,0,none⟩=some (pointer (some ⟨q,0,none⟩))
 rcell:w.cell? ⟨q,4,none⟩=some rv
 at_:Ints w (In w) rv (rules.map λ(x:Nat)=>(x:Int))
 eight:rules.length<=8
 small:∀r∈rules,r<16777216
 lp:p<w.heap.size
 lq:q<w.heap.size
theorem So.grown {w w':World}{p q:Nat}{rv:Value}{rules:List Nat}(a:So w p q rv rules)(b:Grew w w'):So w' p q rv rules:=
 ⟨zA a.net a.lp b,zA a.rcell a.lq b,a.at_.grown b,a.eight,a.small,lZ a.lp b.size,lZ a.lq b.size⟩
theorem So.differ {w:World}{p q:Nat}{rv:Value}{rules:List Nat}(c:So w p q rv rules)(a b tail:Nat)(d:a<16777216)(f:b<16777216)(g:tail<16777216):
  Calls prog 174 #[pX p,iX a,iX b,iX tail] w λe w'=>e=returned (bool (xU rules a b tail))/\Grew w w':=zIz w p q rv rules c.net c.rcell c.at_ c.eight c.small a b tail d f g
def zAu (rules marks:List Nat)(a b:Nat):Bool:=!(marks.any λt=>xU rules a b t)
theorem zEF (w:World)(p q:Nat)(rv v:Value)(rules marks:List Nat)(E:So w p q rv rules)(ad:w.cell? ⟨p,7,none⟩=some v)(F:Ints w (In w) v (marks.map λ(x:Nat)=>(x:Int)))(ae:marks.length<=1000000000000)(G:∀r∈marks,r<16777216)(a b:Nat)(H:a<16777216)(I:b<16777216):
  Calls prog 173 #[pX p,iX a,iX b] w λe w'=>e=returned (bool (zAu rules marks a b))/\Grew w w':=by
 obtain⟨J,af,y,_,_,K⟩:=F;rw[kV] at y;subst y;have L:Hid (∀i,i<marks.length->∃b o,J=some ⟨b,o,none⟩/\In w b/\cX w b (o+i)=some (iX ((marks.getD i 0:Nat):Int))/\marks.getD i 0<16777216):=by
  intro i c;obtain⟨b,o,M,N,z⟩:=K i (by rw[kV];exact c);refine⟨b,o,M,N,?_,G _ (zY _ i 0 c)⟩;rw[lW,gQ,lV c] at z;rw[lW,lV c];exact z
 have O:=vl E;have P:Hid (∀j,j<marks.length->xU rules a b (marks.getD j 0)=true->zAu rules marks a b=false):=λj A f=>by
  show(!_)=false;rw[zOH marks _ 0 j A f];rfl
 have Q:Hid ((∀i,i<marks.length->xU rules a b (marks.getD i 0)=false)->zAu rules marks a b=true):=λf=>by
  show(!_)=true;rw[zKn marks _ 0 f];rfl
 go_in;go_wp2;go_loopg [14] marks.length (λk i wr=>∃j:Nat,k=marks.length-j/\j<=marks.length/\i=iX (j:Int)/\(∀i,i<j->xU rules a b (marks.getD i 0)=false)/\Grew w wr)
 case atStart=>exact⟨0,rfl,lX,rfl,λi c=>by omega,⟨rfl,rfl,lQ,λ_ _ _=>rfl⟩⟩
 case round=>
  obtain⟨j,R,A,rfl,B,C⟩:=hrel;have d:Hid (gk=marks.length-j/\(∀i,i<j->xU rules a b (marks.getD i 0)=false)/\Grew w wr):=⟨R,B,C⟩
  by_cases D:j<marks.length
  ·have S:(j:Int)<(marks.length:Int):=by omega
   obtain⟨ag,ah,rfl,T,U,V⟩:=L j D;have ai:=zA U T C;have W:=vl <| P j D;have X:Hid (xU rules a b (marks.getD j 0)=false->∀i,i<j+1->xU rules a b (marks.getD i 0)=false):=λf i c=>by
    by_cases e:i=j
    ·rw[e];exact f
    ·exact d.2.1 i (by omega)
   have Y:Hid (∀t:Nat,t<16777216->Ca 174 #[pX p,iX a,iX b,iX t] wr λe w'=>e=returned (bool (xU rules a b t))/\Grew w w'):=λt aa=>by
    refine((O.grown d.2.2).differ a b t H I aa).mono ?_;rintro e w2 ⟨rfl,ab⟩;exact⟨rfl,d.2.2.trans (ab.lower d.2.2.size d.2.2.size)⟩
   generalize marks.getD j 0=r at *;have l:=Y r V;cases m:xU rules a b r with
   |false=>
    rw[m] at l;have g:=vl <| X m;have s:=vl l;go_wp2_with (first|(go_at_call 174;refine s.mono ?_;rintro e ac ⟨rfl,u⟩))
    go_roundg (marks.length-(j+1))
    case measure=>rw[d.out.1];omega
    case rel=>exact⟨j+1,rfl,by omega,by go_num,g,u⟩
   |true=>
    rw[m] at l;have g:=vl <| W m;have s:=vl l;go_wp2_with (first|(go_at_call 174;refine s.mono ?_;rintro e ac ⟨rfl,u⟩))
    go_ret;exact⟨by rw[g.out];rfl,u⟩
  ·have S:(marks.length:Int)<=(j:Int):=by omega
   have g:=vl <| Q λi c=>B i (by omega);go_wp2;go_ret;exact⟨by rw[g.out];rfl,d.2.2⟩
def I32s (w:World)(S:Nat->Prop)(v:Value)(l:List Nat):Prop:=
 ∃ao cap,v=slice ao l.length cap/\l.length<=cap/\cap<=maxLen/\∀i,i<l.length->∃b o,ao=some ⟨b,o,none⟩/\S b/\w.cell? ⟨b,o+i,none⟩=some (int .i32 ((l.getD i 0:Nat):Int))
theorem I32s.keep {w w':World}{S:Nat->Prop}{v:Value}{l:List Nat}(c:I32s w S v l)(e:∀b,S b->w'.heap[b]? =w.heap[b]?):I32s w' S v l:=by
 obtain⟨ao,cap,d,f,g,j⟩:=c;refine⟨ao,cap,d,f,g,λi k=>?_⟩;obtain⟨b,o,m,a,p⟩:=j i k;exact⟨b,o,m,a,(gZ (e b a)).trans p⟩
theorem I32s.mono {w:World}{S a:Nat->Prop}{v:Value}{l:List Nat}(c:I32s w S v l)(e:∀b,S b->a b):I32s w a v l:=by
 obtain⟨ao,cap,d,f,g,j⟩:=c;refine⟨ao,cap,d,f,g,λi k=>?_⟩;obtain⟨b,o,m,p,q⟩:=j i k;exact⟨b,o,m,e b p,q⟩
def zA4 (rules tails:List Nat)(a b:Nat):Int:=if a=b then -1 else if tails.findIdx (λt=>xU rules a b t)<tails.length then(tails.getD (tails.findIdx λt=>xU rules a b t) 0:Int) else -1
theorem zEd (l:List Nat)(p:Nat->Bool)(j:Nat)(a:j<l.length)(b:p (l.getD j 0)=true)(c:∀i,i<j->p (l.getD i 0)=false):l.findIdx p=j:=by
 rw[List.findIdx_eq a];rw[lW,lV a] at b;refine⟨by simpa using b,λi d=>?_⟩;have:=c i d;rw[lW,lV (by omega)] at this;simpa using this
theorem zBP (l:List Nat)(p:Nat->Bool)(b:∀i,i<l.length->p (l.getD i 0)=false):l.findIdx p=l.length:=by
 rw[List.findIdx_eq_length];intro y c;obtain⟨i,a,rfl⟩:=List.getElem_of_mem c;have:=b i a;rw[lW,lV a] at this;simpa using this
theorem zOU (rules tails:List Nat)(a b j:Nat)(d:a≠b)(c:j<tails.length)(e:xU rules a b (tails.getD j 0)=true)(f:∀i,i<j->xU rules a b (tails.getD i 0)=false):zA4 rules tails a b=(tails.getD j 0:Nat):=by
 unfold zA4;rw[if_neg d,zEd tails _ j c e f,if_pos c]
theorem zMu (rules tails:List Nat)(a b:Nat)(c:∀i,i<tails.length->xU rules a b (tails.getD i 0)=false):zA4 rules tails a b=-1:=by
 unfold zA4;rw[zBP tails _ c,if_neg (Nat.lt_irrefl _)];split <;> rfl
theorem zKF (rules tails:List Nat)(a b:Nat)(e:∀t∈tails,t<16777216):zA4 rules tails a b=-1\/∃t:Nat,zA4 rules tails a b=t/\t<16777216:=by
 unfold zA4;by_cases d:a=b
 ·rw[if_pos d];exact .inl rfl
 ·rw[if_neg d]
  by_cases c:tails.findIdx (λt=>xU rules a b t)<tails.length
  ·rw[if_pos c]
   exact .inr ⟨_,rfl,e _ (zY _ _ 0 c)⟩
  ·rw[if_neg c];exact .inl rfl
theorem zDR (w:World)(p q:Nat)(rv x:Value)(rules marks:List Nat)(D:So w p q rv rules)(ae:w.cell? ⟨p,5,none⟩=some x)(E:I32s w (In w) x marks)(af:marks.length<=1000000000000)(F:∀r∈marks,r<16777216)(a b:Nat)(G:a<16777216)(H:b<16777216):
  Calls prog 131 #[pX p,iX a,iX b] w λe w'=>e=returned (iX (zA4 rules marks a b))/\Grew w w':=by
 by_cases s:a=b
 ·have I:Hid (zA4 rules marks a b=-1):=by unfold zA4;rw[if_pos s];exact rfl
  have y:((a:Int)==(b:Int))=true:=by simp[s]
  go_in;go_wp2;go_ret;exact⟨by rw[I.out];rfl,⟨rfl,rfl,lQ,λ_ _ _=>rfl⟩⟩
 have ag:((a:Int)==(b:Int))=false:=by simp;omega
 obtain⟨J,ah,rfl,_,_,K⟩:=E;have L:Hid (∀i,i<marks.length->∃b o,J=some ⟨b,o,none⟩/\In w b/\cX w b (o+i)=some (int .i32 ((marks.getD i 0:Nat):Int))/\marks.getD i 0<16777216):=by
  intro i f;obtain⟨b,o,M,N,O⟩:=K i f;exact⟨b,o,M,N,O,F _ (zY _ i 0 f)⟩
 have P:=vl D;have Q:Hid (∀j,j<marks.length->xU rules a b (marks.getD j 0)=true->(∀i,i<j->xU rules a b (marks.getD i 0)=false)->zA4 rules marks a b=(marks.getD j 0:Nat)):=λj z d R=>zOU rules marks a b j s z d R;have S:Hid ((∀i,i<marks.length->xU rules a b (marks.getD i 0)=false)->zA4 rules marks a b=-1):=λd=>zMu rules marks a b d;go_in;go_wp2;go_loopg [17] marks.length (λk i wr=>∃j:Nat,k=marks.length-j/\j<=marks.length/\i=iX (j:Int)/\(∀i,i<j->xU rules a b (marks.getD i 0)=false)/\Grew w wr)
 case atStart=>exact⟨0,rfl,lX,rfl,λi f=>by omega,⟨rfl,rfl,lQ,λ_ _ _=>rfl⟩⟩
 case round=>
  obtain⟨j,T,z,rfl,A,B⟩:=hrel;have c:Hid (gk=marks.length-j/\(∀i,i<j->xU rules a b (marks.getD i 0)=false)/\Grew w wr):=⟨T,A,B⟩
  by_cases C:j<marks.length
  ·have U:(j:Int)<(marks.length:Int):=by omega
   obtain⟨ai,aj,rfl,V,y,W⟩:=L j C;have ak:=zA y V B;have X:Hid (xU rules a b (marks.getD j 0)=true->zA4 rules marks a b=(marks.getD j 0:Nat)):=λd=>Q j C d c.2.1;have Y:Hid (xU rules a b (marks.getD j 0)=false->∀i,i<j+1->xU rules a b (marks.getD i 0)=false):=λd i f=>by
    by_cases e:i=j
    ·rw[e];exact d
    ·exact c.2.1 i (by omega)
   have aa:Hid (∀t:Nat,t<16777216->Ca 174 #[pX p,iX a,iX b,iX t] wr λe w'=>e=returned (bool (xU rules a b t))/\Grew w w'):=λt ab=>by
    refine((P.grown c.2.2).differ a b t G H ab).mono ?_;rintro e w2 ⟨rfl,ac⟩;exact⟨rfl,c.2.2.trans (ac.lower c.2.2.size c.2.2.size)⟩
   generalize marks.getD j 0=r at *;have l:=aa r W;cases m:xU rules a b r with
   |false=>
    rw[m] at l;have g:=vl <| Y m;have u:=vl l;go_wp2_with (first|(go_at_call 174;refine u.mono ?_;rintro e ad ⟨rfl,v⟩))
    go_roundg (marks.length-(j+1))
    case measure=>rw[c.out.1];omega
    case rel=>exact⟨j+1,rfl,by omega,by go_num,g,v⟩
   |true=>
    rw[m] at l;have g:=vl <| X m;have u:=vl l;go_wp2_with (first|(go_at_call 174;refine u.mono ?_;rintro e ad ⟨rfl,v⟩))
    go_ret;exact⟨by rw[g.out];rfl,v⟩
  ·have U:(marks.length:Int)<=(j:Int):=by omega
   have g:=vl <| S λi f=>A i (by omega);go_wp2;go_ret;exact⟨by rw[g.out];rfl,c.2.2⟩
def zA3 (rules marks found:List Nat)(set:Nat):Nat:=found.findIdx λo=>zAu rules marks set o
theorem zIT (rules marks found:List Nat)(set:Nat):zA3 rules marks found set<=found.length:=List.findIdx_le_length
theorem zFL (w:World)(p q:Nat)(rv u z:Value)(rules marks found:List Nat)(A:So w p q rv rules)(I:w.cell? ⟨p,7,none⟩=some u)(J:Ints w (In w) u (marks.map λ(x:Nat)=>(x:Int)))(K:marks.length<=1000000000000)(L:∀r∈marks,r<16777216)(M:w.cell? ⟨p,6,none⟩=some z)(B:Ints w (In w) z (found.map λ(x:Nat)=>(x:Int)))(ak:found.length<=1000000000000)(N:∀r∈found,r<16777216)(a:Nat)(O:a<16777216):
  Calls prog 130 #[pX p,iX a] w λe w'=>e=returned (iX (zA3 rules marks found a))/\Grew w w':=by
 have al:=B;obtain⟨P,am,C,_,_,Q⟩:=B;rw[kV] at C;subst C;have R:Hid (∀i,i<found.length->∃b o,P=some ⟨b,o,none⟩/\In w b/\cX w b (o+i)=some (iX ((found.getD i 0:Nat):Int))/\found.getD i 0<16777216):=by
  intro i c;obtain⟨b,o,S,T,D⟩:=Q i (by rw[kV];exact c);refine⟨b,o,S,T,?_,N _ (zY _ i 0 c)⟩;rw[lW,gQ,lV c] at D;rw[lW,lV c];exact D
 have E:=A.lp;have U:Hid (∀wr,Grew w wr->∀b:Nat,b<16777216->Ca 173 #[pX p,iX a,iX b] wr λe w'=>e=returned (bool (zAu rules marks a b))/\Grew w w'):=λwr f b V=>by
  refine(zEF wr p q rv u rules marks (A.grown f) (zA I E f) (J.grown f) K L a b O V).mono ?_;rintro e w2 ⟨rfl,W⟩;exact⟨rfl,f.trans (W.lower f.size f.size)⟩
 have X:Hid (∀j,j<found.length->zAu rules marks a (found.getD j 0)=true->(∀i,i<j->zAu rules marks a (found.getD i 0)=false)->zA3 rules marks found a=j):=λj F d Y=>zEd found _ j F d Y;have aa:Hid ((∀i,i<found.length->zAu rules marks a (found.getD i 0)=false)->zA3 rules marks found a=found.length):=λd=>zBP found _ d;go_in;go_wp2;go_loopg [12] found.length (λk i wr=>∃j:Nat,k=found.length-j/\j<=found.length/\i=iX (j:Int)/\(∀i,i<j->zAu rules marks a (found.getD i 0)=false)/\Grew w wr)
 case atStart=>exact⟨0,rfl,lX,rfl,λi c=>by omega,⟨rfl,rfl,lQ,λ_ _ _=>rfl⟩⟩
 case round=>
  obtain⟨j,ab,F,rfl,G,l⟩:=hrel;have m:Hid (gk=found.length-j/\(∀i,i<j->zAu rules marks a (found.getD i 0)=false)/\Grew w wr):=⟨ab,G,l⟩
  by_cases H:j<found.length
  ·have ac:(j:Int)<(found.length:Int):=by omega
   obtain⟨an,ao,rfl,ad,ae,af⟩:=R j H;have ap:=zA ae ad l;have ag:Hid (zAu rules marks a (found.getD j 0)=true->zA3 rules marks found a=j):=λd=>X j H d m.2.1;have ah:Hid (zAu rules marks a (found.getD j 0)=false->∀i,i<j+1->zAu rules marks a (found.getD i 0)=false):=λd i c=>by
    by_cases e:i=j
    ·rw[e];exact d
    ·exact m.2.1 i (by omega)
   have ai:=vl <| U wr l;generalize found.getD j 0=r at *;have s:=ai r af;cases t:zAu rules marks a r with
   |false=>
    rw[t] at s;have g:=vl <| ah t;have v:=vl s;go_wp2_with (first|(go_at_call 173;refine v.mono ?_;rintro e aj ⟨rfl,y⟩))
    go_roundg (found.length-(j+1))
    case measure=>rw[m.out.1];omega
    case rel=>exact⟨j+1,rfl,by omega,by go_num,g,y⟩
   |true=>
    rw[t] at s;have g:=vl <| ag t;have v:=vl s;go_wp2_with (first|(go_at_call 173;refine v.mono ?_;rintro e aj ⟨rfl,y⟩))
    go_ret;exact⟨by rw[g.out];rfl,y⟩
  ·have ac:(found.length:Int)<=(j:Int):=by omega
   have aq:=zA M E l;have g:=vl <| aa λi c=>G i (by omega);go_wp2;go_ret;exact⟨by rw[g.out];rfl,m.2.2⟩
section
structure KeepX (X:Nat->Prop)(w w':World):Prop where
 os:w'.os=w.os
 output:w'.output=w.output
 size:w.heap.size<=w'.heap.size
 block:∀k,X k->w'.heap[k]? =w.heap[k]?
theorem KeepX.refl (X:Nat->Prop)(w:World):KeepX X w w:=⟨rfl,rfl,lQ,λ_ _=>rfl⟩
theorem KeepX.trans {X:Nat->Prop}{w w' c:World}(a:KeepX X w w')(b:KeepX X w' c):KeepX X w c:=⟨b.os.trans a.os,b.output.trans a.output,lY a.size b.size,λk e=>(b.block k e).trans (a.block k e)⟩
theorem KeepX.mono {X b:Nat->Prop}{w w':World}(a:KeepX X w w')(e:∀k,b k->X k):KeepX b w w':=⟨a.os,a.output,a.size,λk c=>a.block k (e k c)⟩
theorem Keep.kx {X:Nat->Prop}{H b:Nat}{w w':World}(a:Keep H b w w')(e:∀k,X k->k<H/\k≠b):KeepX X w w':=⟨a.os,a.output,a.size,λk c=>a.block k (e k c).1 (e k c).2⟩
def ints (l:List Nat):List Int:=l.map λ(x:Nat)=>(x:Int)
theorem zO (l:List Nat):(ints l).length=l.length:=kV ..
theorem zBN (l:List Nat)(x:Nat):ints (l++[x])=ints l++[(x:Int)]:=by simp[ints]
theorem jF (l:List Nat)(i:Nat):(ints l).getD i 0=(l.getD i 0:Nat):=by
 unfold ints;rw[lW,lW,gQ];cases l[i]? <;> rfl
structure Sq where
 rules:List Nat
 tails:List Nat
 sets:List Nat
 q:Nat
 f:Nat
 lv:Value
 tv:Value
 sv:Value
 tl:Value
 rv:Value
structure Sf where
 found:List Nat
 marks:List Nat
structure SoAt (w:World)(X:Nat->Prop)(p:Nat)(s:Sq)(d:Sf)(fv mv:Value):Prop where
 blk:w.heap[p]? =some (.cells #[pointer (some ⟨s.q,0,none⟩),s.lv,s.tv,s.sv,pointer (some ⟨s.f,0,none⟩),s.tl,fv,mv] 176)
 own1:OwnI w 0 fv (ints d.found)
 own2:OwnI w 0 mv (ints d.marks)
 ne:∀g,fv.ownBlock=some g->some g≠mv.ownBlock
 xf:∀g,X g->some g≠fv.ownBlock
 xm:∀g,X g->some g≠mv.ownBlock
 xp:¬X p
 xl:∀g,X g->g<w.heap.size
 lp:p<w.heap.size
 net:w.cell? ⟨s.q,4,none⟩=some s.rv
 xq:X s.q
 rls:Ints w X s.rv (ints s.rules)
 eight:s.rules.length<=8
 rsm:∀r∈s.rules,r<16777216
 tls:I32s w X s.tl s.tails
 tsm:∀t∈s.tails,t<16777216
 tlen:s.tails.length<=16777216
 sts:Ints w X s.sv (ints s.sets)
 ssm:∀t∈s.sets,t<16777216
 fsm:∀t∈d.found,t<16777216
 msm:∀t∈d.marks,t<16777216
def zQm (w:World)(X:Nat->Prop)(p:Nat)(s:Sq)(d:Sf):Prop:=∃fv mv,SoAt w X p s d fv mv
section
variable {w w2:World} {X:Nat->Prop} {p:Nat} {s:Sq} {d:Sf} {fv mv:Value}
theorem SoAt.grown (a:SoAt w X p s d fv mv)(c:Grew w w2):SoAt w2 X p s d fv mv:=by
 have e:∀b,X b->w2.heap[b]? =w.heap[b]? :=λb f=>c.block b (a.xl b f) (kJ (a.xl b f));exact⟨(c.block _ a.lp (kJ a.lp)).trans a.blk,zK a.own1 c,zK a.own2 c,a.ne,a.xf,a.xm,a.xp,λg i=>lZ (a.xl g i) c.size,lZ a.lp c.size,(gZ (e _ a.xq)).trans a.net,a.xq,a.rls.keep e,a.eight,a.rsm,a.tls.keep e,a.tsm,a.tlen,a.sts.keep e,a.ssm,a.fsm,a.msm⟩
theorem SoAt.cells (a:SoAt w X p s d fv mv):w.cell? ⟨p,0,none⟩=some (pX s.q)/\w.cell? ⟨p,3,none⟩=some s.sv/\w.cell? ⟨p,4,none⟩=some (pX s.f)/\w.cell? ⟨p,5,none⟩=some s.tl/\w.cell? ⟨p,6,none⟩=some fv/\w.cell? ⟨p,7,none⟩=some mv/\∀i,w.frozen? ⟨p,i,none⟩=false:=by
 refine⟨?_,?_,?_,?_,?_,?_,λi=>?_⟩
 all_goals first|(unfold cell?;rw[a.blk];rfl)|(unfold frozen?;rw[a.blk];simp)
theorem SoAt.so (a:SoAt w X p s d fv mv):So w p s.q s.rv s.rules:=⟨a.cells.1,a.net,a.rls.mono a.xl,a.eight,a.rsm,a.lp,a.xl _ a.xq⟩
theorem SoAt.fewer {b:Nat->Prop}(a:SoAt w X p s d fv mv)(c:¬b p)(f:∀g,b g->g<w.heap.size)(i:∀g,b g->some g≠fv.ownBlock)(j:∀g,b g->some g≠mv.ownBlock)(e:∀g,X g->b g):SoAt w b p s d fv mv:=
 ⟨a.blk,a.own1,a.own2,a.ne,i,j,c,f,a.lp,a.net,e _ a.xq,a.rls.mono e,a.eight,a.rsm,a.tls.mono e,a.tsm,a.tlen,a.sts.mono e,a.ssm,a.fsm,a.msm⟩
theorem zC0 {w:World}{b i a:Nat}{v x:Value}{l:List Int}{c:Array Value}(f:OwnI w 0 v l)(g:w.heap[b]? =some (.cells c a))(j:3≠a):OwnI (w.setCell ⟨b,i,none⟩ x) 0 v l:=
 zD f λk _ _ m=>lJ _ _ _ _ λe=>zM f g j (by rw[m];exact congrArg some (Eq.symm e))
theorem SoAt.found_app {o:Obj}{g cap n x:Nat}(a:SoAt w X p s d fv mv)(y:x<16777216)(z:n=d.found.length)(A:w2.ownsRow 0 3 1 (slice (qX g) (n+1) cap) (n+1) (((ints d.found).map λx=>iX x)++[iX (x:Int)]))(c:(w.alloc o).grownBy w2 fv.ownBlock)(m:fv.ownBlock=some g\/w.heap.size<=g):
  SoAt (w2.setCell ⟨p,6,none⟩ (slice (qX g) (n+1) cap)) X p s {d with found:=d.found++[x]} (slice (qX g) (n+1) cap) mv/\KeepX X w (w2.setCell ⟨p,6,none⟩ (slice (qX g) (n+1) cap)):=by
 subst z;have B:=a.lp;have C:=zM a.own1 a.blk (by decide);have q:∀j,j<w.heap.size->some j≠fv.ownBlock->w2.heap[j]? =w.heap[j]? :=λj J D=>(c.block j (by simp;omega) D).trans (lG _ _ _ (by omega));have f:=(q p B C).trans a.blk;have r:w.heap.size<=w2.heap.size:=lY (by simp) c.size;have E:∀k,X k->k≠p:=λk b e=>a.xp (e ▸ b);have e:∀k,X k->(w2.setCell ⟨p,6,none⟩ (slice (qX g) (d.found.length+1) cap)).heap[k]? =w.heap[k]? :=λk b=>(lJ _ _ _ _ (E k b)).trans (q k (a.xl k b) (a.xf k b));have F:OwnI w2 0 (slice (qX g) (d.found.length+1) cap) (ints (d.found++[x])):=by
  rw[zBN];have:=zO d.found;have u:=OwnI.snoc (l:=ints d.found) (x:=(x:Int)) (by rw[this];exact A);rw[this] at u;exact u
 have G:=zQ c a.own2 (λg c e=>a.ne g e.symm c.symm);refine⟨⟨?_,zC0 F f (by decide),zC0 G f (by decide),qN a.own2 a.ne m,?_,a.xm,a.xp,λk b=>by rw[zC];exact lZ (a.xl k b) r,by rw[zC];omega,(gZ (e _ a.xq)).trans a.net,a.xq,a.rls.keep e,a.eight,a.rsm,a.tls.keep e,a.tsm,a.tlen,a.sts.keep e,a.ssm,?_,a.msm⟩,⟨c.os,c.output,by rw[zC];exact r,e⟩⟩
 ·simp[setCell,lU,f]
 ·intro k b e
  have H:k=g:=by simpa[Value.ownBlock] using e
  subst H;rcases m with v|v
  ·exact a.xf k b v.symm
  ·have:=a.xl k b
   omega
 ·intro t I
  rcases kU.1 I with i|i
  ·exact a.fsm t i
  ·rw[kY.1 i];exact y
theorem SoAt.marks_app {o:Obj}{g cap n x:Nat}(a:SoAt w X p s d fv mv)(y:x<16777216)(z:n=d.marks.length)(A:w2.ownsRow 0 3 1 (slice (qX g) (n+1) cap) (n+1) (((ints d.marks).map λx=>iX x)++[iX (x:Int)]))(c:(w.alloc o).grownBy w2 mv.ownBlock)(m:mv.ownBlock=some g\/w.heap.size<=g):
  SoAt (w2.setCell ⟨p,7,none⟩ (slice (qX g) (n+1) cap)) X p s {d with marks:=d.marks++[x]} fv (slice (qX g) (n+1) cap)/\KeepX X w (w2.setCell ⟨p,7,none⟩ (slice (qX g) (n+1) cap)):=by
 subst z;have B:=a.lp;have C:=zM a.own2 a.blk (by decide);have q:∀j,j<w.heap.size->some j≠mv.ownBlock->w2.heap[j]? =w.heap[j]? :=λj J D=>(c.block j (by simp;omega) D).trans (lG _ _ _ (by omega));have f:=(q p B C).trans a.blk;have r:w.heap.size<=w2.heap.size:=lY (by simp) c.size;have E:∀k,X k->k≠p:=λk b e=>a.xp (e ▸ b);have e:∀k,X k->(w2.setCell ⟨p,7,none⟩ (slice (qX g) (d.marks.length+1) cap)).heap[k]? =w.heap[k]? :=λk b=>(lJ _ _ _ _ (E k b)).trans (q k (a.xl k b) (a.xm k b));have F:OwnI w2 0 (slice (qX g) (d.marks.length+1) cap) (ints (d.marks++[x])):=by
  rw[zBN];have:=zO d.marks;have u:=OwnI.snoc (l:=ints d.marks) (x:=(x:Int)) (by rw[this];exact A);rw[this] at u;exact u
 have G:=zQ c a.own1 a.ne;refine⟨⟨?_,zC0 G f (by decide),zC0 F f (by decide),zDa (qN a.own1 (λg c e=>a.ne g e.symm c.symm) m),a.xf,?_,a.xp,λk b=>by rw[zC];exact lZ (a.xl k b) r,by rw[zC];omega,(gZ (e _ a.xq)).trans a.net,a.xq,a.rls.keep e,a.eight,a.rsm,a.tls.keep e,a.tsm,a.tlen,a.sts.keep e,a.ssm,a.fsm,?_⟩,⟨c.os,c.output,by rw[zC];exact r,e⟩⟩
 ·simp[setCell,lU,f]
 ·intro k b e
  have H:k=g:=by simpa[Value.ownBlock] using e
  subst H;rcases m with v|v
  ·exact a.xm k b v.symm
  ·have:=a.xl k b
   omega
 ·intro t I
  rcases kU.1 I with i|i
  ·exact a.msm t i
  ·rw[kY.1 i];exact y
end
end
end Go.Proofs.YtbjcfkdnjaiclaaGreat
