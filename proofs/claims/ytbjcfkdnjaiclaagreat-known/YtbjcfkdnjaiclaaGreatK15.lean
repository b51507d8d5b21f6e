import Derived.Test.YtbjcfkdnjaiclaaGreatK0
import Derived.Test.YtbjcfkdnjaiclaaGreatK14
/- Parts of the proof. -/
set_option linter.unusedVariables false
set_option linter.unusedSimpArgs false
set_option maxHeartbeats 4000000
set_option maxRecDepth 100000
namespace Go.Proofs.YtbjcfkdnjaiclaaGreat
open Go.RowKit Go.Proofs.Tryz Go.World
open Go.Value (int slice bool pointer string agg tuple)
open Go.IntKind (i64)
open Go.Ending (returned)
theorem zEk (k:World)(c aa:Nat)(r:Lay)(cnt:Tr->Nat)(ak:zB4 k c aa r cnt)(T:Lays r cnt)(w:World)(n:Nt)(b:Nat)(t:Tr)(am:NwIs k w c n)(ab:n.Good)(aX:TreeAt k (aa+1) b t)(an:n.sets.length+zX cnt t.parts t.parts.length<=24)(bv:t.parts.length<=1000000000000):
  Calls prog 125 #[pX c,pX b] w λe w'=>e=returned (jB r n t.parts t.parts.length).2.val/\NwIs k w' c (jB r n t.parts t.parts.length).1/\StayS w w':=by
 obtain⟨ap,rv,bw,aq,_,ao,cap,rfl,_,_,ar⟩:=aX;have au:Hid (∀wr av,NwIs k wr c av->wr.cell? ⟨b,3,none⟩=some (slice ao t.parts.length cap)/\∀i,i<t.parts.length->∃g o p,ao=some ⟨g,o,none⟩/\wr.cell? ⟨g,o+i,none⟩=some (pX p)/\TreeAt k aa p (t.parts.getD i Tr.none)):=by
  rintro wr av ⟨_,_,_,_,_,aY⟩;have aw:=aY.keep;have aZ:=(aw.block b ap (kJ ap)).trans aq;refine⟨by unfold cell?;rw[aZ];rfl,λi a0=>?_⟩;obtain⟨g,o,p,a1,a2,ax,U⟩:=ar i a0;exact⟨g,o,p,a1,zA ax a2 aw,U⟩
 obtain⟨a,ay⟩:∃a,a=jB r n t.parts:=⟨_,rfl⟩
 have M:Hid (a 0=(n,⟨0,0,false⟩)/\(∀j,a (j+1)=((r (a j).1 (t.parts.getD j Tr.none)).1,(a j).2.or (r (a j).1 (t.parts.getD j Tr.none)).2))/\(∀j,j<=t.parts.length->(a j).1.Good/\(a j).2.Small 24)/\(∀j,j<t.parts.length->(a j).1.sets.length+cnt (t.parts.getD j Tr.none)<=24/\(r (a j).1 (t.parts.getD j Tr.none)).1.Good/\(r (a j).1 (t.parts.getD j Tr.none)).2.Small 24)/\a t.parts.length=jB r n t.parts t.parts.length):=by
  rw[ay];have V:∀j,j<=t.parts.length->n.sets.length+zX cnt t.parts j<=24:=λj H=>lY (Nat.add_le_add_left (zCM cnt t.parts j _ H) _) an;refine⟨rfl,λj=>rfl,λj H=>?_,λj H=>?_,rfl⟩
  ·have:=zBW T ab t.parts j (V j H)
   exact⟨this.1,this.2.2.up (V j H)⟩
  ·have K:=zBW T ab t.parts j (V j (by omega))
   have az:n.sets.length+(zX cnt t.parts j+cnt (t.parts.getD j Tr.none))<=24:=V (j+1) H;have W:=T _ (t.parts.getD j Tr.none) K.1 (by rw[K.2.1];omega);exact⟨by rw[K.2.1];omega,W.1,W.2.2.up (by rw[K.2.1];omega)⟩
 obtain⟨w1,aA,aB⟩:∃w1,w1=(w.alloc (.cells #[iX 0,iX 0,bool false] 167)).alloc (.cells #[iX 0,iX 0,bool false] 167)/\Hid (Al k w w1 c n ⟨0,0,false⟩):=⟨_,rfl,Al.start am ⟨0,0,false⟩⟩
 have a3:=vl ak;generalize a4:jB r n t.parts t.parts.length=u at *;clear a4 ay ar aq ak T an am ab;go_in;apply wp_cut;intro a5 N;go_wp2;apply N.out;clear N;apply wp_cut;intro a5 N;go_wp2;apply N.out;clear N;rw[<-aA];clear aA;have y3:=(au w1 n aB.net).1;go_wp2;clear y3;go_loopg [15] t.parts.length (λq i wr=>∃j:Nat,q=t.parts.length-j/\j<=t.parts.length/\i=iX (j:Int)/\Al k w wr c (a j).1 (a j).2)
 case atStart=>exact⟨0,rfl,lX,rfl,by rw[M.out.1];exact aB⟩
 case round=>
  obtain⟨j,ac,H,rfl,D⟩:=hrel;have aC:Hid (gk=t.parts.length-j/\Al k w wr c (a j).1 (a j).2):=⟨ac,D⟩
  by_cases aD:j<t.parts.length
  ·have a6:(j:Int)<(t.parts.length:Int):=by omega
   obtain⟨g,o,p,rfl,ax,U⟩:=(au wr _ D.net).2 j aD;obtain⟨aE,b2,ad⟩:=M.2.2.2.1 j aD;obtain⟨aF,ag⟩:=M.2.2.1 j H;have aG:=a3 wr (a j).1 p (t.parts.getD j Tr.none) D.net aF U aE;have a7:(a j).2.first<16777216:=ag.first
   have a8:(a j).2.last<16777216:=ag.last;have a9:(r (a j).1 (t.parts.getD j Tr.none)).2.first<16777216:=ad.first
   have ba:(r (a j).1 (t.parts.getD j Tr.none)).2.last<16777216:=ad.last;have ah:=vl <| M.2.1 j;have aH:=vl D;clear ac D U aE b2 ad aF ag;generalize (a j).1=aI at *;generalize (a j).2=B at *;generalize (r aI (t.parts.getD j Tr.none)).1=E at *;generalize (r aI (t.parts.getD j Tr.none)).2=q2 at *;have aJ:Hid (Ca 89 #[pX c,pX p] wr λe w'=>e=returned (agg #[iX (q2.first:Int),iX (q2.last:Int),bool q2.empty])/\NwIs k w' c E/\StayS wr w'):=aG;clear aG;have aK:bits .or i64 (B.first:Int) (q2.first:Int)=((B.first|||q2.first:Nat):Int):=yO _ _ (by omega) (by omega);have aL:bits .or i64 (B.last:Int) (q2.last:Int)=((B.last|||q2.last:Nat):Int):=yO _ _ (by omega) (by omega);clear a7 a8 a9 ba;have aM:Hid (∀m,Al k w m c E B->w.heap.size+1<m.heap.size/\Al k w (m.alloc (Obj.cells #[iX (q2.first:Int),iX (q2.last:Int),bool q2.empty] 167)) c E B/\(m.alloc (Obj.cells #[iX (q2.first:Int),iX (q2.last:Int),bool q2.empty] 167)).heap[m.heap.size]? =some (.cells q2.cells 167)):=λm X=>⟨(kQ.1 X.all).1,X.grown (kZ m _ lQ),gY m _⟩
   have aN:Hid (B.or q2=⟨B.first|||q2.first,B.last|||q2.last,B.empty||q2.empty⟩):=rfl;rw[aN.out] at ah;clear aN;obtain⟨z,s,L⟩:=B;obtain⟨l,f,C⟩:=q2;have aO:Hid (Ca 89 #[pX c,pX p] wr λe w'=>e=returned (agg #[iX (l:Int),iX (f:Int),bool C])/\NwIs k w' c E/\StayS wr w'):=aJ;clear aJ;have bx:bits .or i64 (z:Int) (l:Int)=((z|||l:Nat):Int):=aK;have bz:bits .or i64 (s:Int) (f:Int)=((s|||f:Nat):Int):=aL;clear aK aL;have aP:Hid (a (j+1)=(E,⟨z|||l,s|||f,L||C⟩)):=ah;clear ah;have aQ:Hid (∀A:World,A.heap[w.heap.size+1]? =some (.cells #[iX (z:Int),iX (s:Int),bool L] 167)->∀F,w.heap.size+1<F->A.heap[F]? =some (.cells #[iX (l:Int),iX (f:Int),bool C] 167)->∀x y:Nat,
     ((A.setCell ⟨w.heap.size+1,0,none⟩ (iX (x:Int))).cell? ⟨w.heap.size+1,1,none⟩=some (iX (s:Int))/\(A.setCell ⟨w.heap.size+1,0,none⟩ (iX (x:Int))).cell? ⟨F,1,none⟩=some (iX (f:Int))/\(A.setCell ⟨w.heap.size+1,0,none⟩ (iX (x:Int))).frozen? ⟨w.heap.size+1,1,none⟩=false)/\
     (((A.setCell ⟨w.heap.size+1,0,none⟩ (iX (x:Int))).setCell ⟨w.heap.size+1,1,none⟩ (iX (y:Int))).cell? ⟨w.heap.size+1,2,none⟩=some (bool L)/\((A.setCell ⟨w.heap.size+1,0,none⟩ (iX (x:Int))).setCell ⟨w.heap.size+1,1,none⟩ (iX (y:Int))).cell? ⟨F,2,none⟩=some (bool C)/\((A.setCell ⟨w.heap.size+1,0,none⟩ (iX (x:Int))).setCell ⟨w.heap.size+1,1,none⟩ (iX (y:Int))).frozen? ⟨w.heap.size+1,2,none⟩=false)):=by
    intro A bb F I bc x y;have c2:(A.setCell ⟨w.heap.size+1,0,none⟩ (iX (x:Int))).heap[w.heap.size+1]? =some (.cells #[iX (x:Int),iX (s:Int),bool L] 167):=by simp[setCell,lU,bb]
    have aR:(A.setCell ⟨w.heap.size+1,0,none⟩ (iX (x:Int))).heap[F]? =some (.cells #[iX (l:Int),iX (f:Int),bool C] 167):=(lJ _ _ _ _ (by show F≠w.heap.size+1;omega)).trans bc;generalize A.setCell ⟨w.heap.size+1,0,none⟩ (iX (x:Int))=aS at *;have aT:(aS.setCell ⟨w.heap.size+1,1,none⟩ (iX (y:Int))).heap[w.heap.size+1]? =some (.cells #[iX (x:Int),iX (y:Int),bool L] 167):=by simp[setCell,lU,c2]
    have bd:(aS.setCell ⟨w.heap.size+1,1,none⟩ (iX (y:Int))).heap[F]? =some (.cells #[iX (l:Int),iX (f:Int),bool C] 167):=(lJ _ _ _ _ (by show F≠w.heap.size+1;omega)).trans aR;refine⟨⟨?_,?_,?_⟩,?_,?_,?_⟩
    ·unfold cell?;rw[c2];rfl
    ·unfold cell?;rw[aR];rfl
    ·unfold frozen?;rw[c2];rfl
    ·unfold cell?;rw[aT];rfl
    ·unfold cell?;rw[bd];rfl
    ·unfold frozen?;rw[aT];rfl
   rcases L with _|_
   ·have ai:Hid (a (j+1)=(E,⟨z|||l,s|||f,C⟩)):=aP
    go_wp2_with (first|(go_at_call 89;refine aO.mono ?_;rintro e m ⟨rfl,O,P⟩;have Q:=aH.call O P;obtain⟨R,G,I⟩:=aM m Q;obtain⟨c0,c1,c2,S⟩:=zJ G.all;have aU:=S 0;obtain⟨bg,bh,bi,-⟩:=zJ I;obtain⟨⟨bj,bk,bm⟩,bn,bo,bp⟩:=aQ _ G.all m.heap.size R I (z|||l) (s|||f);have aj:Hid (Al k w (World.span (m.alloc (Obj.cells #[iX (l:Int),iX (f:Int),bool C] 167)) (w.heap.size+1) ⟨z|||l,s|||f,C⟩) c E ⟨z|||l,s|||f,C⟩):=G.setAll _;clear Q G O P S I R))
    go_roundg (t.parts.length-(j+1))
    case measure=>rw[aC.out.1];omega
    case rel=>exact⟨j+1,rfl,by omega,by go_num,by rw[ai.out];exact aj⟩
   ·have ai:Hid (a (j+1)=(E,⟨z|||l,s|||f,true⟩)):=aP
    go_wp2_with (first|(go_at_call 89;refine aO.mono ?_;rintro e m ⟨rfl,O,P⟩;have Q:=aH.call O P;obtain⟨R,G,I⟩:=aM m Q;obtain⟨c0,c1,c2,S⟩:=zJ G.all;have aU:=S 0;obtain⟨bg,bh,bi,-⟩:=zJ I;obtain⟨⟨bj,bk,bm⟩,bn,bo,bp⟩:=aQ _ G.all m.heap.size R I (z|||l) (s|||f);have aj:Hid (Al k w (World.span (m.alloc (Obj.cells #[iX (l:Int),iX (f:Int),bool C] 167)) (w.heap.size+1) ⟨z|||l,s|||f,true⟩) c E ⟨z|||l,s|||f,true⟩):=G.setAll _;clear Q G O P S I R))
    go_roundg (t.parts.length-(j+1))
    case measure=>rw[aC.out.1];omega
    case rel=>exact⟨j+1,rfl,by omega,by go_num,by rw[ai.out];exact aj⟩
  ·have a6:(t.parts.length:Int)<=(j:Int):=by omega
   have e:j=t.parts.length:=by omega
   subst e;rw[M.out.2.2.2.2] at D;obtain⟨c0,c1,c2,-⟩:=zJ D.all;obtain⟨bA,bB,bC,Y⟩:=zJ D.res;have aU:=Y 0;have bD:=Y 1;have bE:=Y 2;have bq:Hid (Al k w wr c u.1 u.2):=D;clear ac D Y;go_wp2;obtain⟨J,aV,aW,br,bs,bt⟩:∃J,J=((wr.setCell ⟨w.heap.size,0,none⟩ (iX (u.2.first:Int))).setCell ⟨w.heap.size,1,none⟩ (iX (u.2.last:Int))).setCell ⟨w.heap.size,2,none⟩ (bool u.2.empty)/\Hid (NwIs k J c u.1/\StayS w J)/\J.cell? ⟨w.heap.size,0,none⟩=some (iX (u.2.first:Int))/\J.cell? ⟨w.heap.size,1,none⟩=some (iX (u.2.last:Int))/\J.cell? ⟨w.heap.size,2,none⟩=some (bool u.2.empty):=by
    obtain⟨K,az,W,bu,X⟩:=bq.fin u.2;exact⟨_,rfl,⟨K,az⟩,W,bu,X⟩
   rw[<-aV];clear aV;refine gJ (v:=agg #[iX (u.2.first:Int),iX (u.2.last:Int),bool u.2.empty]) (by simp[results,results125,go_sem,br,bs,bt]) rfl ?_;exact⟨rfl,aW.1,aW.2⟩
theorem zDj (w:World)(l m:Nat)(e:Bool):
  Calls prog 165 #[agg #[iX (l:Int),iX (m:Int),bool e]] w λx w'=>x=returned (iX (((if e then(if l=0 then 1 else l) else m:Nat)):Int))/\Grew w w':=by
 cases e with
 |false=>
  go_in;go_wp2;go_ret;exact⟨rfl,kZ _ _ lQ⟩
 |true=>
  by_cases a:l=0
  ·subst a
   go_in;go_wp2;go_ret;exact⟨rfl,kZ _ _ lQ⟩
  ·have b:((l:Int)==0)=false:=by rw[hZ];omega
   go_in;go_wp2;go_ret;exact⟨rfl,kZ _ _ lQ⟩
theorem zFb (l:World)(f aR:Nat)(A:Lay)(cnt:Tr->Nat)(bb:zB4 l f aR A cnt)(aB:Lays A cnt)(w:World)(n:Nt)(b:Nat)(t:Tr)(E:NwIs l w f n)(aS:n.Good)(aT:TreeAt l (aR+1) b t)(bc:n.sets.length+t.copies*zX cnt t.parts t.parts.length<=24)(bw:t.parts.length<=1000000000000)(bY:t.copies<=1000000000000)(bZ:t.least<=1000000000000):
  Calls prog 126 #[pX f,pX b] w λe w'=>e=returned (xT A n t t.copies).2.val/\NwIs l w' f (xT A n t t.copies).1/\StayS w w':=by
 have bx:=vl aT;obtain⟨bd,rv,b0,be,-⟩:=id aT;have aU:Hid (∀wr C,NwIs l wr f C->wr.cell? ⟨b,4,none⟩=some (iX (t.least:Int))/\wr.cell? ⟨b,5,none⟩=some (iX (t.most:Int))/\wr.cell? ⟨b,6,none⟩=some (bool t.endless)):=by
  rintro wr C ⟨_,_,_,_,_,aq⟩;have aV:=aq.keep;have bz:=(aV.block b bd (kJ bd)).trans be;refine⟨?_,?_,?_⟩
  all_goals (unfold cell?;rw[bz];rfl)
 have V:Hid (∀wr C,NwIs l wr f C->wr.cell? ⟨b,6,none⟩=some (bool t.endless)/\wr.cell? ⟨b,4,none⟩=some (iX (t.least:Int))):=λwr C aq=>⟨(aU wr C aq).2.2,(aU wr C aq).1⟩
 have bA:Hid (∀w2,Ca 165 #[agg #[iX (t.least:Int),iX (t.most:Int),bool t.endless]] w2 λx w'=>x=returned (iX (t.copies:Int))/\Grew w2 w'):=λw2=>zDj w2 t.least t.most t.endless;have aC:∀j,j<=t.copies->n.sets.length+j*zX cnt t.parts t.parts.length<=24:=λj aa=>lY (Nat.add_le_add_left (Nat.mul_le_mul_right _ aa) _) bc;obtain⟨o,bf⟩:∃o,o=xT A n t:=⟨_,rfl⟩
 have aD:Hid (o 0=(n,⟨0,0,true⟩)/\(∀j,o (j+1)=((zAv t j (rowTo A (o j).1 t.parts t.parts.length)).link (o j).2.last (zA8 t j (rowTo A (o j).1 t.parts t.parts.length)).first,(o j).2.then (zA8 t j (rowTo A (o j).1 t.parts t.parts.length))))/\(∀j,j<=t.copies->(o j).1.Good/\(o j).2.Small 24)/\(∀j,j<t.copies->(o j).1.sets.length+zX cnt t.parts t.parts.length<=24/\(rowTo A (o j).1 t.parts t.parts.length).1.Good/\(rowTo A (o j).1 t.parts t.parts.length).2.Small 24/\(rowTo A (o j).1 t.parts t.parts.length).2.first<2^(rowTo A (o j).1 t.parts t.parts.length).1.sets.length)/\o t.copies=xT A n t t.copies):=by
  rw[bf];refine⟨rfl,λj=>rfl,λj aa=>?_,λj aa=>?_,rfl⟩
  ·have:=zBy aB aS t j (aC j aa)
   exact⟨this.1,this.2.2.up (aC j aa)⟩
  ·have ar:=zBy aB aS t j (aC j (by omega))
   have ah:=aC (j+1) aa;rw[Nat.add_mul,Nat.one_mul] at ah;have au:=zAF aB ar.1 t.parts t.parts.length (by rw[ar.2.1];omega);exact⟨by rw[ar.2.1];omega,au.1,au.2.2.up (by rw[ar.2.1];omega),by rw[au.2.1];exact au.2.2.first⟩
 have bB:Hid (∀wr C,NwIs l wr f C->C.Good->C.sets.length+zX cnt t.parts t.parts.length<=24->Ca 124 #[pX f,pX b] wr λe w'=>e=returned (rowTo A C t.parts t.parts.length).2.val/\NwIs l w' f (rowTo A C t.parts t.parts.length).1/\StayS wr w'):=λwr C aq bC bD=>zDb l f aR A cnt bb aB wr C b t aq bC bx bD bw;obtain⟨w1,bg,bh⟩:∃w1,w1=(w.alloc (.cells #[iX 0,iX 0,bool false] 167)).alloc (.cells #[iX 0,iX 0,bool true] 167)/\Hid (Al l w w1 f n ⟨0,0,true⟩):=⟨_,rfl,Al.start E ⟨0,0,true⟩⟩
 generalize bE:xT A n t t.copies=N at *;generalize bi:t.copies=D at *;have bF:=vl bi;clear bE bf be bb aB bc E aS aT aC bi;go_in;apply wp_cut;intro bG aE;go_wp2;apply aE.out;clear aE;apply wp_cut;intro bG aE;go_wp2;apply aE.out;clear aE;rw[<-bg];clear bg;obtain⟨bH,y5,bI⟩:=aU w1 n bh.net;go_wp2_with (first|(go_at_call 165;refine(bA _).mono ?_;rintro e w2 ⟨rfl,bj⟩;have bJ:=vl <| bh.grown bj;clear bj))
 clear bH y5 bI;go_loopg [7] D (λq i wr=>∃j:Nat,q=D-j/\j<=D/\i=iX (j:Int)/\Al l w wr f (o j).1 (o j).2)
 case atStart=>exact⟨0,rfl,lX,rfl,by rw[aD.out.1];exact bJ⟩
 case round=>
  obtain⟨j,aW,aa,rfl,W⟩:=hrel;have aI:Hid (gk=D-j/\Al l w wr f (o j).1 (o j).2):=⟨aW,W⟩
  by_cases bK:j<D
  ·have bL:(j:Int)<(D:Int):=by omega
   obtain⟨bk,b2,bl,bm⟩:=aD.2.2.2.1 j bK;obtain⟨bn,aX⟩:=aD.2.2.1 j aa;have bo:=bB wr (o j).1 W.net bn bk;have ab:Hid (o (j+1)=((zAv t j (rowTo A (o j).1 t.parts t.parts.length)).link (o j).2.last (zA8 t j (rowTo A (o j).1 t.parts t.parts.length)).first,(o j).2.then (zA8 t j (rowTo A (o j).1 t.parts t.parts.length)))):=aD.2.1 j;have aJ:Hid (Al l w wr f (o j).1 (o j).2):=W;clear aW W bk;generalize (o j).1=bM at *;generalize (o j).2=bN at *;generalize rowTo A bM t.parts t.parts.length=q at *;obtain⟨z,⟨a,c,p⟩⟩:=q;obtain⟨r,g,u⟩:=bN;have ac:z.Good:=b2;have ai:(Sn.mk a c p).Small 24:=bl;have bp:a<2^z.sets.length:=bm;have aK:=zCf ac c a bp;have aL:Hid (Ca 124 #[pX f,pX b] wr λe w'=>e=returned (agg #[iX (a:Int),iX (c:Int),bool p])/\NwIs l w' f z/\StayS wr w'):=bo;have bq:Hid (∀m,NwIs l m f z->Ca 166 #[pX f,iX (c:Int),iX (a:Int)] m λe w'=>e=returned (tuple #[])/\NwIs l w' f (z.link c a)/\StayS m w'):=λm O=>zE6 l m f z O (by rw[ac.same];exact ac.len) ac.top c a ai.last ai.first
   have av:Hid (∀m,NwIs l m f z->∀x:Bool,Ca 164 #[pX f,agg #[iX (r:Int),iX (g:Int),bool u],agg #[iX (a:Int),iX (c:Int),bool x]] m λe w'=>e=returned ((Sn.mk r g u).then ⟨a,c,x⟩).val/\NwIs l w' f (z.link g a)/\StayS m w'):=λm O x=>zCC l m f z O (by rw[ac.same];exact ac.len) ac.top ⟨r,g,u⟩ ⟨a,c,x⟩ aX ⟨ai.first,ai.last⟩;have aw:Hid (∀m,NwIs l m f (z.link c a)->∀x:Bool,Ca 164 #[pX f,agg #[iX (r:Int),iX (g:Int),bool u],agg #[iX (a:Int),iX (c:Int),bool x]] m λe w'=>e=returned ((Sn.mk r g u).then ⟨a,c,x⟩).val/\NwIs l w' f ((z.link c a).link g a)/\StayS m w'):=λm O x=>zCC l m f _ O (by rw[aK.1.same];exact aK.1.len) aK.1.top ⟨r,g,u⟩ ⟨a,c,x⟩ aX ⟨ai.first,ai.last⟩;have aF:Hid (∀y,Al l w y f z ⟨r,g,u⟩->∀x:Bool,w.heap.size+1<y.heap.size/\Al l w (y.alloc (Obj.cells #[iX (a:Int),iX (c:Int),bool x] 167)) f z ⟨r,g,u⟩/\(y.alloc (Obj.cells #[iX (a:Int),iX (c:Int),bool x] 167)).heap[y.heap.size]? =some (.cells #[iX (a:Int),iX (c:Int),bool x] 167)):=λy aM x=>⟨(kQ.1 aM.all).1,aM.grown (kZ y _ lQ),gY y _⟩
   have bO:Hid (∀(K:World) (ad:Nat),w.heap.size+1<ad->Al l w K f (z.link c a) ⟨r,g,u⟩->K.heap[ad]? =some (.cells #[iX (a:Int),iX (c:Int),bool p] 167)->Al l w (K.setCell ⟨ad,2,none⟩ (bool true)) f (z.link c a) ⟨r,g,u⟩/\(K.setCell ⟨ad,2,none⟩ (bool true)).heap[ad]? =some (.cells #[iX (a:Int),iX (c:Int),bool true] 167)):=by
    intro K ad L ax X;have e:∀k,k≠ad->(K.setCell ⟨ad,2,none⟩ (bool true)).heap[k]? =K.heap[k]? :=λk aV=>lJ _ _ _ _ aV;have b6:=ax.old;exact⟨⟨ax.net.setSpan X (by omega),(e _ (by omega)).trans ax.res,(e _ (by omega)).trans ax.all,jK ax.stay (by omega),ax.old⟩,by simp[setCell,lU,X]⟩
   have b7:=bF.out;clear bo b2 bl bm ac ai bp aK bn aX;have bP:(t.endless=false\/(t.endless=true/\(j+1==t.copies)=false))\/(t.endless=true/\(j+1==t.copies)=true):=by
    cases t.endless
    ·exact .inl (.inl rfl)
    ·cases E:(j+1==t.copies)
     ·exact .inl (.inr ⟨rfl,rfl⟩)
     ·exact .inr ⟨rfl,rfl⟩
   rcases bP with ay|⟨M,az⟩
   all_goals (by_cases ag:t.least<=j)
   ·have aj:Hid (o (j+1)=(z.link g a,(Sn.mk r g u).then ⟨a,c,true⟩)):=by
     show o (j+1)=_;rw[ab.out];unfold zAv zA8;rw[if_neg (by rcases ay with E|⟨E,ah⟩ <;> simp[E];exact hZ.1 ah),if_pos ag]
    have ak:Hid (∀m,NwIs l m f z->Ca 164 #[pX f,agg #[iX (r:Int),iX (g:Int),bool u],agg #[iX (a:Int),iX (c:Int),bool true]] m λe w'=>e=returned (agg #[iX (((Sn.mk r g u).then ⟨a,c,true⟩).first:Int),iX (((Sn.mk r g u).then ⟨a,c,true⟩).last:Int),bool ((Sn.mk r g u).then ⟨a,c,true⟩).empty])/\NwIs l w' f (z.link g a)/\StayS m w'):=λm O=>av m O true;have aY:(j:Int)>=(t.least:Int):=by omega
    clear ab av aw ag;generalize (Sn.mk r g u).then ⟨a,c,true⟩=F at *
    have aZ:t.endless=false\/t.endless=true/\((j:Int)==(D:Int)-1)=false:=ay.imp_right λE=>⟨E.1,by rw[hZ];have:=hZ.1 E.2;omega⟩
    clear ay;rcases aZ with M|⟨M,a0⟩
    all_goals
     have Q:=vl M;clear M;go_wp2_with (first|(go_at_call 124;refine aL.mono ?_;rintro e y ⟨rfl,G,R⟩;have P:=aJ.call G R;obtain⟨am,a1⟩:=V y _ G;rw[Q.out] at am;obtain⟨Y,H,L⟩:=aF y P p;obtain⟨a2,a3,a4,-⟩:=zJ (s:=⟨a,c,p⟩) L;obtain⟨u6,u4⟩:=V (y.alloc (Obj.cells #[iX (a:Int),iX (c:Int),bool p] 167)) _ H.net;rw[Q.out] at u6;obtain⟨-,a5,br⟩:=aF y P true;obtain⟨m0,m1,m2,-⟩:=zJ (s:=⟨a,c,true⟩) br;obtain⟨c0,c1,c2,-⟩:=zJ a5.all;have S:Hid (Al l w (y.alloc (Obj.cells #[iX (a:Int),iX (c:Int),bool true] 167)) f z ⟨r,g,u⟩):=a5;clear a5 br;clear P H G R L Y)|(go_at_call 164;refine(ak _ S.net).mono ?_;rintro e I ⟨rfl,T,U⟩;have J:=S.call T U;obtain⟨a6,a7,a8,B⟩:=zJ J.all;have aN:=B 0;have aO:=B 1;have aP:=B 2;have an:Hid (Al l w (World.span I (w.heap.size+1) F) f (z.link g a) F):=J.setAll F;clear J T U B))
     go_roundg (D-(j+1))
     case measure=>rw[aI.out.1];omega
     case rel=>exact⟨j+1,rfl,by omega,by go_num,by rw[aj.out];exact an⟩
   ·have aj:Hid (o (j+1)=(z.link g a,(Sn.mk r g u).then ⟨a,c,p⟩)):=by
     show o (j+1)=_;rw[ab.out];unfold zAv zA8;rw[if_neg (by rcases ay with E|⟨E,ah⟩ <;> simp[E];exact hZ.1 ah),if_neg ag]
    have ak:Hid (∀m,NwIs l m f z->Ca 164 #[pX f,agg #[iX (r:Int),iX (g:Int),bool u],agg #[iX (a:Int),iX (c:Int),bool p]] m λe w'=>e=returned (agg #[iX (((Sn.mk r g u).then ⟨a,c,p⟩).first:Int),iX (((Sn.mk r g u).then ⟨a,c,p⟩).last:Int),bool ((Sn.mk r g u).then ⟨a,c,p⟩).empty])/\NwIs l w' f (z.link g a)/\StayS m w'):=λm O=>av m O p;have aY:(j:Int)<(t.least:Int):=by omega
    clear ab av aw ag;generalize (Sn.mk r g u).then ⟨a,c,p⟩=F at *
    have aZ:t.endless=false\/t.endless=true/\((j:Int)==(D:Int)-1)=false:=ay.imp_right λE=>⟨E.1,by rw[hZ];have:=hZ.1 E.2;omega⟩
    clear ay;rcases aZ with M|⟨M,a0⟩
    all_goals
     have Q:=vl M;clear M;go_wp2_with (first|(go_at_call 124;refine aL.mono ?_;rintro e y ⟨rfl,G,R⟩;have P:=aJ.call G R;obtain⟨am,a1⟩:=V y _ G;rw[Q.out] at am;obtain⟨Y,H,L⟩:=aF y P p;obtain⟨a2,a3,a4,-⟩:=zJ (s:=⟨a,c,p⟩) L;obtain⟨u6,u4⟩:=V (y.alloc (Obj.cells #[iX (a:Int),iX (c:Int),bool p] 167)) _ H.net;rw[Q.out] at u6;obtain⟨c0,c1,c2,-⟩:=zJ H.all;have S:Hid (Al l w (y.alloc (Obj.cells #[iX (a:Int),iX (c:Int),bool p] 167)) f z ⟨r,g,u⟩):=H;clear P H G R L Y)|(go_at_call 164;refine(ak _ S.net).mono ?_;rintro e I ⟨rfl,T,U⟩;have J:=S.call T U;obtain⟨a6,a7,a8,B⟩:=zJ J.all;have aN:=B 0;have aO:=B 1;have aP:=B 2;have an:Hid (Al l w (World.span I (w.heap.size+1) F) f (z.link g a) F):=J.setAll F;clear J T U B))
     go_roundg (D-(j+1))
     case measure=>rw[aI.out.1];omega
     case rel=>exact⟨j+1,rfl,by omega,by go_num,by rw[aj.out];exact an⟩
   ·have aj:Hid (o (j+1)=((z.link c a).link g a,(Sn.mk r g u).then ⟨a,c,true⟩)):=by
     show o (j+1)=_;rw[ab.out];unfold zAv zA8;rw[if_pos (by rw[M,az];rfl),if_pos ag]
    have ak:Hid (∀m,NwIs l m f (z.link c a)->Ca 164 #[pX f,agg #[iX (r:Int),iX (g:Int),bool u],agg #[iX (a:Int),iX (c:Int),bool true]] m λe w'=>e=returned (agg #[iX (((Sn.mk r g u).then ⟨a,c,true⟩).first:Int),iX (((Sn.mk r g u).then ⟨a,c,true⟩).last:Int),bool ((Sn.mk r g u).then ⟨a,c,true⟩).empty])/\NwIs l w' f ((z.link c a).link g a)/\StayS m w'):=λm O=>aw m O true;have aY:(j:Int)>=(t.least:Int):=by omega
    have a0:((j:Int)==(D:Int)-1)=true:=by rw[beq_iff_eq];have:=beq_iff_eq.1 az;omega
    have Q:Hid (t.endless=true):=M;clear ab av aw ag az M;generalize (Sn.mk r g u).then ⟨a,c,true⟩=F at *
    go_wp2_with (first|(go_at_call 124;refine aL.mono ?_;rintro e y ⟨rfl,G,R⟩;have P:=aJ.call G R;obtain⟨am,a1⟩:=V y _ G;rw[Q.out] at am;obtain⟨Y,H,L⟩:=aF y P p;obtain⟨a2,a3,a4,-⟩:=zJ (s:=⟨a,c,p⟩) L;obtain⟨u6,u4⟩:=V (y.alloc (Obj.cells #[iX (a:Int),iX (c:Int),bool p] 167)) _ H.net;rw[Q.out] at u6;have aG:Hid (Al l w (y.alloc (Obj.cells #[iX (a:Int),iX (c:Int),bool p] 167)) f z ⟨r,g,u⟩):=H;have a9:Hid ((y.alloc (Obj.cells #[iX (a:Int),iX (c:Int),bool p] 167)).heap[y.heap.size]? =some (.cells #[iX (a:Int),iX (c:Int),bool p] 167)):=L;have bs:Hid (w.heap.size+1<y.heap.size):=Y;clear P H G R L Y)|(go_at_call 166;refine(bq (y.alloc (Obj.cells #[iX (a:Int),iX (c:Int),bool p] 167)) aG.net).mono ?_;rintro e K ⟨rfl,ao,ap⟩;have aA:=aG.call ao ap;have X:=ap _ _ a9;obtain⟨bQ,bR⟩:=V K _ ao;obtain⟨m0,m1,m2,aH⟩:=zJ (s:=⟨a,c,p⟩) X;have bS:=aH 2;obtain⟨ba,bt⟩:=bO K y.heap.size bs aA X;obtain⟨b9,ca,C,-⟩:=zJ (s:=⟨a,c,true⟩) bt;obtain⟨c0,c1,c2,-⟩:=zJ ba.all;have S:Hid (Al l w (K.setCell ⟨y.heap.size,2,none⟩ (bool true)) f (z.link c a) ⟨r,g,u⟩):=ba;clear ba bt;clear aA ao ap X aH)|(go_at_call 164;refine(ak _ S.net).mono ?_;rintro e I ⟨rfl,T,U⟩;have J:=S.call T U;obtain⟨a6,a7,a8,B⟩:=zJ J.all;have aN:=B 0;have aO:=B 1;have aP:=B 2;have an:Hid (Al l w (World.span I (w.heap.size+1) F) f ((z.link c a).link g a) F):=J.setAll F;clear J T U B))
    go_roundg (D-(j+1))
    case measure=>rw[aI.out.1];omega
    case rel=>exact⟨j+1,rfl,by omega,by go_num,by rw[aj.out];exact an⟩
   ·have aj:Hid (o (j+1)=((z.link c a).link g a,(Sn.mk r g u).then ⟨a,c,p⟩)):=by
     show o (j+1)=_;rw[ab.out];unfold zAv zA8;rw[if_pos (by rw[M,az];rfl),if_neg ag]
    have ak:Hid (∀m,NwIs l m f (z.link c a)->Ca 164 #[pX f,agg #[iX (r:Int),iX (g:Int),bool u],agg #[iX (a:Int),iX (c:Int),bool p]] m λe w'=>e=returned (agg #[iX (((Sn.mk r g u).then ⟨a,c,p⟩).first:Int),iX (((Sn.mk r g u).then ⟨a,c,p⟩).last:Int),bool ((Sn.mk r g u).then ⟨a,c,p⟩).empty])/\NwIs l w' f ((z.link c a).link g a)/\StayS m w'):=λm O=>aw m O p;have aY:(j:Int)<(t.least:Int):=by omega
    have a0:((j:Int)==(D:Int)-1)=true:=by rw[beq_iff_eq];have:=beq_iff_eq.1 az;omega
    have Q:Hid (t.endless=true):=M;clear ab av aw ag az M;generalize (Sn.mk r g u).then ⟨a,c,p⟩=F at *
    go_wp2_with (first|(go_at_call 124;refine aL.mono ?_;rintro e y ⟨rfl,G,R⟩;have P:=aJ.call G R;obtain⟨am,a1⟩:=V y _ G;rw[Q.out] at am;obtain⟨Y,H,L⟩:=aF y P p;obtain⟨a2,a3,a4,-⟩:=zJ (s:=⟨a,c,p⟩) L;obtain⟨u6,u4⟩:=V (y.alloc (Obj.cells #[iX (a:Int),iX (c:Int),bool p] 167)) _ H.net;rw[Q.out] at u6;have aG:Hid (Al l w (y.alloc (Obj.cells #[iX (a:Int),iX (c:Int),bool p] 167)) f z ⟨r,g,u⟩):=H;have a9:Hid ((y.alloc (Obj.cells #[iX (a:Int),iX (c:Int),bool p] 167)).heap[y.heap.size]? =some (.cells #[iX (a:Int),iX (c:Int),bool p] 167)):=L;have bs:Hid (w.heap.size+1<y.heap.size):=Y;clear P H G R L Y)|(go_at_call 166;refine(bq (y.alloc (Obj.cells #[iX (a:Int),iX (c:Int),bool p] 167)) aG.net).mono ?_;rintro e K ⟨rfl,ao,ap⟩;have aA:=aG.call ao ap;have X:=ap _ _ a9;obtain⟨bQ,bR⟩:=V K _ ao;obtain⟨m0,m1,m2,aH⟩:=zJ (s:=⟨a,c,p⟩) X;have bS:=aH 2;obtain⟨c0,c1,c2,-⟩:=zJ aA.all;have S:Hid (Al l w K f (z.link c a) ⟨r,g,u⟩):=aA;clear aA ao ap X aH)|(go_at_call 164;refine(ak _ S.net).mono ?_;rintro e I ⟨rfl,T,U⟩;have J:=S.call T U;obtain⟨a6,a7,a8,B⟩:=zJ J.all;have aN:=B 0;have aO:=B 1;have aP:=B 2;have an:Hid (Al l w (World.span I (w.heap.size+1) F) f ((z.link c a).link g a) F):=J.setAll F;clear J T U B))
    go_roundg (D-(j+1))
    case measure=>rw[aI.out.1];omega
    case rel=>exact⟨j+1,rfl,by omega,by go_num,by rw[aj.out];exact an⟩
  ·have bL:(D:Int)<=(j:Int):=by omega
   have e:j=D:=by omega
   subst e;rw[aD.out.2.2.2.2] at W;obtain⟨c0,c1,c2,-⟩:=zJ W.all;obtain⟨cb,cc,cd,aQ⟩:=zJ W.res;have aN:=aQ 0;have aO:=aQ 1;have aP:=aQ 2;have bT:Hid (Al l w wr f N.1 N.2):=W;clear aW W aQ;go_wp2;obtain⟨I,bu,bv,bU,bV,bW⟩:∃I,I=((wr.setCell ⟨w.heap.size,0,none⟩ (iX (N.2.first:Int))).setCell ⟨w.heap.size,1,none⟩ (iX (N.2.last:Int))).setCell ⟨w.heap.size,2,none⟩ (bool N.2.empty)/\Hid (NwIs l I f N.1/\StayS w I)/\I.cell? ⟨w.heap.size,0,none⟩=some (iX (N.2.first:Int))/\I.cell? ⟨w.heap.size,1,none⟩=some (iX (N.2.last:Int))/\I.cell? ⟨w.heap.size,2,none⟩=some (bool N.2.empty):=by
    obtain⟨ar,ah,au,bX,aM⟩:=bT.fin N.2;exact⟨_,rfl,⟨ar,ah⟩,au,bX,aM⟩
   rw[<-bu];clear bu;refine gJ (v:=agg #[iX (N.2.first:Int),iX (N.2.last:Int),bool N.2.empty]) (by simp[results,results126,go_sem,bU,bV,bW]) rfl ?_;exact⟨rfl,bv.1,bv.2⟩
theorem zLr (t:Tr):t.copies<=t.least+t.most+1:=by
 unfold Tr.copies;split
 ·split <;> omega
 ·omega
theorem zEI (g:World)(i:Nat):∀a,zB4 g i a (xF a) (yQ a)
 |0=>λw n b t _ _ F _=>F.elim
 |a+1=>by
  have S:=zEI g i a;intro w n b t F I X z;have T:=vl X;obtain⟨Y,rv,aw,ai,aa,ao,cap,rfl,⟨_,U,ax,ay⟩,_,_⟩:=X;obtain⟨ab,ac,aj,-⟩:=id aa;subst aj;obtain⟨w1,ad,m⟩:∃w1,w1=w.alloc (.cells #[iX 0,iX 0,bool false] 167)/\Hid (NwIs g w1 i n/\w1.heap[w.heap.size]? =some (.cells (Sn.mk 0 0 false).cells 167)/\StayS w w1/\g.heap.size<=w.heap.size):=by
   have ae:=kZ (b:=w.heap.size) w (.cells #[iX 0,iX 0,bool false] 167) lQ;exact⟨_,rfl,F.grown ae,gY _ _,ae.stayS,by obtain⟨_,_,_,_,_,F⟩:=F;exact F.keep.size⟩
  have ak:Grew g w1:=by obtain⟨_,_,_,_,_,F⟩:=m.1;exact F.keep
  have V:=(ak.block b Y (kJ Y)).trans ai;have az:w1.cell? ⟨b,0,none⟩=some (iX (t.kind:Int)):=by unfold cell?;rw[V];rfl
  have aA:w1.cell? ⟨b,1,none⟩=some (slice ab t.set.ranges.length ac):=by unfold cell?;rw[V];rfl
  have aB:w1.cell? ⟨b,2,none⟩=some (bool t.set.others):=by unfold cell?;rw[V];rfl
  have J:Hid (∀x,NwIs g x i (xF (a+1) n t).1->StayS w1 x->∃j,j=((x.setCell ⟨w.heap.size,0,none⟩ (iX ((xF (a+1) n t).2.first:Int))).setCell ⟨w.heap.size,1,none⟩ (iX ((xF (a+1) n t).2.last:Int))).setCell ⟨w.heap.size,2,none⟩ (bool (xF (a+1) n t).2.empty)/\Hid (NwIs g j i (xF (a+1) n t).1/\StayS w j)/\j.cell? ⟨w.heap.size,0,none⟩=some (iX ((xF (a+1) n t).2.first:Int))/\j.cell? ⟨w.heap.size,1,none⟩=some (iX ((xF (a+1) n t).2.last:Int))/\j.cell? ⟨w.heap.size,2,none⟩=some (bool (xF (a+1) n t).2.empty)):=by
   intro x A o;obtain⟨al,am,an⟩:=zEO (s':=(xF (a+1) n t).2) (o _ _ m.2.1);obtain⟨c0,c1,c2,_⟩:=zJ al;exact⟨_,rfl,⟨an _ _ _ A m.2.2.2,λk c af=>by
    have z:=(kQ.1 af).1;exact(am k (by omega)).trans (o _ _ (m.2.2.1 k c af))⟩,c0,c1,c2⟩
  go_in;apply wp_cut;intro aC ap;go_wp2;apply ap.out;rw[<-ad];clear ad;by_cases r:t.kind=1
  ·have u:Hid (xF (a+1) n t=(n.place t.set,n.spot)):=by show xF (a+1) n t=_;unfold xF;rw[if_pos r]
   have y:=vl <| zH6 g w1 i n m.1 I.len (by rw[I.same];exact I.len) _ t.set aa;have G:Hid (Ca 123 #[pX i,agg #[slice ab t.set.ranges.length ac,bool t.set.others]] w1 λe w'=>e=returned (agg #[iX ((xF (a+1) n t).2.first:Int),iX ((xF (a+1) n t).2.last:Int),bool (xF (a+1) n t).2.empty])/\NwIs g w' i (xF (a+1) n t).1/\StayS w1 w'):=by
    show Calls _ _ _ _ _;rw[u.out];exact y
   clear u y;have L:((t.kind:Int)==1)=true:=by rw[beq_iff_eq];omega
   generalize xF (a+1) n t=l at *;clear r;go_wp2_with (first|(go_at_call 123;refine G.mono ?_;rintro e x ⟨rfl,A,o⟩;obtain⟨M,N,O,f⟩:=zJ (s:=⟨0,0,false⟩) (o _ _ m.2.1);have P:=f 0;have Q:=f 1;have R:=f 2;clear f))
   obtain⟨j,p,q,B,C,D⟩:=J x A o;rw[<-p];clear p;refine gJ (v:=agg #[iX (l.2.first:Int),iX (l.2.last:Int),bool l.2.empty]) (by simp[results,results89,go_sem,B,C,D]) rfl ?_;exact⟨rfl,q.1,q.2⟩
  by_cases E:t.kind=2
  ·have u:Hid (xF (a+1) n t=rowTo (xF a) n t.parts t.parts.length):=by show xF (a+1) n t=_;unfold xF;rw[if_neg r,if_pos E]
   have y:=vl <| zDb g i a (xF a) (yQ a) S (jX a) w1 n b t m.1 I T (by unfold yQ at z;rw[if_neg r,if_pos (Or.inl E)] at z;exact z) U;have G:Hid (Ca 124 #[pX i,pX b] w1 λe w'=>e=returned (agg #[iX ((xF (a+1) n t).2.first:Int),iX ((xF (a+1) n t).2.last:Int),bool (xF (a+1) n t).2.empty])/\NwIs g w' i (xF (a+1) n t).1/\StayS w1 w'):=by
    show Calls _ _ _ _ _;rw[u.out];exact y
   clear u y;have L:((t.kind:Int)==1)=false:=by rw[hZ];omega
   have W:((t.kind:Int)==2)=true:=by rw[beq_iff_eq];omega
   generalize xF (a+1) n t=l at *;clear r E;go_wp2_with (first|(go_at_call 124;refine G.mono ?_;rintro e x ⟨rfl,A,o⟩;obtain⟨M,N,O,f⟩:=zJ (s:=⟨0,0,false⟩) (o _ _ m.2.1);have P:=f 0;have Q:=f 1;have R:=f 2;clear f))
   obtain⟨j,p,q,B,C,D⟩:=J x A o;rw[<-p];clear p;refine gJ (v:=agg #[iX (l.2.first:Int),iX (l.2.last:Int),bool l.2.empty]) (by simp[results,results89,go_sem,B,C,D]) rfl ?_;exact⟨rfl,q.1,q.2⟩
  by_cases H:t.kind=3
  ·have u:Hid (xF (a+1) n t=jB (xF a) n t.parts t.parts.length):=by show xF (a+1) n t=_;unfold xF;rw[if_neg r,if_neg E,if_pos H]
   have y:=vl <| zEk g i a (xF a) (yQ a) S (jX a) w1 n b t m.1 I T (by unfold yQ at z;rw[if_neg r,if_pos (Or.inr H)] at z;exact z) U;have G:Hid (Ca 125 #[pX i,pX b] w1 λe w'=>e=returned (agg #[iX ((xF (a+1) n t).2.first:Int),iX ((xF (a+1) n t).2.last:Int),bool (xF (a+1) n t).2.empty])/\NwIs g w' i (xF (a+1) n t).1/\StayS w1 w'):=by
    show Calls _ _ _ _ _;rw[u.out];exact y
   clear u y;have L:((t.kind:Int)==1)=false:=by rw[hZ];omega
   have W:((t.kind:Int)==2)=false:=by rw[hZ];omega
   have ag:((t.kind:Int)==3)=true:=by rw[beq_iff_eq];omega
   generalize xF (a+1) n t=l at *;clear r E H;go_wp2_with (first|(go_at_call 125;refine G.mono ?_;rintro e x ⟨rfl,A,o⟩;obtain⟨M,N,O,f⟩:=zJ (s:=⟨0,0,false⟩) (o _ _ m.2.1);have P:=f 0;have Q:=f 1;have R:=f 2;clear f))
   obtain⟨j,p,q,B,C,D⟩:=J x A o;rw[<-p];clear p;refine gJ (v:=agg #[iX (l.2.first:Int),iX (l.2.last:Int),bool l.2.empty]) (by simp[results,results89,go_sem,B,C,D]) rfl ?_;exact⟨rfl,q.1,q.2⟩
  by_cases K:t.kind=4
  ·have u:Hid (xF (a+1) n t=xT (xF a) n t t.copies):=by show xF (a+1) n t=_;unfold xF;rw[if_neg r,if_neg E,if_neg H,if_pos K]
   have y:=vl <| zFb g i a (xF a) (yQ a) S (jX a) w1 n b t m.1 I T (by unfold yQ at z;rw[if_neg r,if_neg (by omega),if_pos K] at z;exact z) U (by have:=zLr t;omega) (by omega);have G:Hid (Ca 126 #[pX i,pX b] w1 λe w'=>e=returned (agg #[iX ((xF (a+1) n t).2.first:Int),iX ((xF (a+1) n t).2.last:Int),bool (xF (a+1) n t).2.empty])/\NwIs g w' i (xF (a+1) n t).1/\StayS w1 w'):=by
    show Calls _ _ _ _ _;rw[u.out];exact y
   clear u y;have L:((t.kind:Int)==1)=false:=by rw[hZ];omega
   have W:((t.kind:Int)==2)=false:=by rw[hZ];omega
   have ag:((t.kind:Int)==3)=false:=by rw[hZ];omega
   have aq:((t.kind:Int)==4)=true:=by rw[beq_iff_eq];omega
   generalize xF (a+1) n t=l at *;clear r E H K;go_wp2_with (first|(go_at_call 126;refine G.mono ?_;rintro e x ⟨rfl,A,o⟩;obtain⟨M,N,O,f⟩:=zJ (s:=⟨0,0,false⟩) (o _ _ m.2.1);have P:=f 0;have Q:=f 1;have R:=f 2;clear f))
   obtain⟨j,p,q,B,C,D⟩:=J x A o;rw[<-p];clear p;refine gJ (v:=agg #[iX (l.2.first:Int),iX (l.2.last:Int),bool l.2.empty]) (by simp[results,results89,go_sem,B,C,D]) rfl ?_;exact⟨rfl,q.1,q.2⟩
  ·have u:Hid (xF (a+1) n t=(n,⟨0,0,true⟩)):=by show xF (a+1) n t=_;unfold xF;rw[if_neg r,if_neg E,if_neg H,if_neg K]
   rw[u.out] at J ⊢;have L:((t.kind:Int)==1)=false:=by rw[hZ];omega
   have W:((t.kind:Int)==2)=false:=by rw[hZ];omega
   have ag:((t.kind:Int)==3)=false:=by rw[hZ];omega
   have aq:((t.kind:Int)==4)=false:=by rw[hZ];omega
   obtain⟨M,N,O,f⟩:=zJ (s:=⟨0,0,false⟩) m.2.1;have P:=f 0;have Q:=f 1;have R:=f 2;clear r E H K f;go_wp2;obtain⟨j,p,q,B,C,D⟩:=J w1 m.1 (StayS.refl _);have ah:j=((w1.setCell ⟨w.heap.size,0,none⟩ (iX 0)).setCell ⟨w.heap.size,1,none⟩ (iX 0)).setCell ⟨w.heap.size,2,none⟩ (bool true):=p;have ar:j.cell? ⟨w.heap.size,0,none⟩=some (iX 0):=B;have au:j.cell? ⟨w.heap.size,1,none⟩=some (iX 0):=C;have av:j.cell? ⟨w.heap.size,2,none⟩=some (bool true):=D;rw[<-ah];clear p ah;refine gJ (v:=agg #[iX 0,iX 0,bool true]) (by simp[results,results89,go_sem,ar,au,av]) rfl ?_;exact⟨rfl,q.1,q.2⟩
section
section
variable {w0 w w2:World} {nb:Nat} {n:Nt} {sv fv rv ev:Value} {ps:List (Value×Bool)}
theorem Nw.addRule {o:Obj}{g cap m x:Nat}(b:Nw w0 w nb n sv fv rv ev ps)(s:m=n.rules.length)(t:w2.ownsRow w0.heap.size 3 1 (slice (qX g) (m+1) cap) (m+1) (((ints n.rules).map λx=>iX x)++[iX (x:Int)]))(d:(w.alloc o).grownBy w2 rv.ownBlock)(p:rv.ownBlock=some g\/w.heap.size<=g):
  Nw w0 (w2.setCell ⟨nb,4,none⟩ (slice (qX g) (m+1) cap)) nb {n with rules:=n.rules++[x]} sv fv (slice (qX g) (m+1) cap) ev ps/\StayS w (w2.setCell ⟨nb,4,none⟩ (slice (qX g) (m+1) cap)):=by
 subst s;have f:=b.box;have u:=b.lt;have i:∀j,j<w.heap.size->some j≠rv.ownBlock->w2.heap[j]? =w.heap[j]? :=λj G v=>(d.block j (by simp;omega) v).trans (lG _ _ _ (by omega));have y:w.heap.size<=w2.heap.size:=lY (by simp) d.size;have z:=(i nb u f.2.2.1).trans b.blk;have e:∀k,k≠nb->(w2.setCell ⟨nb,4,none⟩ (slice (qX g) (n.rules.length+1) cap)).heap[k]? =w2.heap[k]? :=λk a=>lJ _ _ _ _ a;have A:=zT d b.sOwn λk a=>xO b.sOwn b.rOwn (by decide) a;have B:=zT d b.fOwn b.fr;have C:=zT d b.eOwn λk a=>xO b.eOwn b.rOwn (by decide) a;have H:nb≠g:=λc=>by
  rcases p with q|q
  ·exact f.2.2.1 (by rw[q,c])
  ·omega
 have D:OwnI w2 w0.heap.size (slice (qX g) (n.rules.length+1) cap) (ints (n.rules++[x])):=by
  rw[zBa];have:=zO n.rules;have r:=OwnI.snoc (l:=ints n.rules) (x:=(x:Int)) (by rw[this];exact t);rw[this] at r;exact r
 refine⟨⟨by simp[setCell,lU,z],zF A λk _ _ a=>e k λc=>f.1 (by rw[a,c]),b.plen,b.each,zF B λk _ _ a=>e k λc=>f.2.1 (by rw[a,c]),zF D λk _ _ a=>e k λc=>?_,zF C λk _ _ a=>e k λc=>f.2.2.2 (by rw[a,c]),zCi (qA b.fOwn (λg d e=>b.fr g e.symm d.symm) p),b.nH,b.keep.trans ⟨d.os,d.output,by rw[zC];exact y,λk a _=>(e k (by have:=b.nH;omega)).trans (i k (by have:=b.keep.size;omega) λc=>by have:=(b.rOwn.lt k c.symm).1;omega)⟩⟩,λk I a=>?_⟩
 ·have:g=k:=by simpa[Value.ownBlock] using a
  omega
 ·have E:=(kQ.1 a).1
  have F:k≠nb:=λc=>by
   rw[c,b.blk] at a;injection a with a;injection a with _ a;exact absurd a (by decide)
  exact(e k F).trans ((i k E (zN b.rOwn a (by decide))).trans a)
theorem Nw.addEmpty {o:Obj}{g cap m:Nat}{x:Bool}(b:Nw w0 w nb n sv fv rv ev ps)(p:m=n.empty.length)(q:w2.ownsRow w0.heap.size 4 1 (slice (qX g) (m+1) cap) (m+1) ((n.empty.map λx=>bool x)++[bool x]))(d:(w.alloc o).grownBy w2 ev.ownBlock)(r:ev.ownBlock=some g\/w.heap.size<=g):
  Nw w0 (w2.setCell ⟨nb,5,none⟩ (slice (qX g) (m+1) cap)) nb {n with empty:=n.empty++[x]} sv fv rv (slice (qX g) (m+1) cap) ps/\StayS w (w2.setCell ⟨nb,5,none⟩ (slice (qX g) (m+1) cap)):=by
 subst p;have f:=b.box;have s:=b.lt;have i:∀j,j<w.heap.size->some j≠ev.ownBlock->w2.heap[j]? =w.heap[j]? :=λj E t=>(d.block j (by simp;omega) t).trans (lG _ _ _ (by omega));have u:w.heap.size<=w2.heap.size:=lY (by simp) d.size;have v:=(i nb s f.2.2.2).trans b.blk;have e:∀k,k≠nb->(w2.setCell ⟨nb,5,none⟩ (slice (qX g) (n.empty.length+1) cap)).heap[k]? =w2.heap[k]? :=λk a=>lJ _ _ _ _ a;have y:=zT d b.sOwn λk a=>xO b.sOwn b.eOwn (by decide) a;have z:=zT d b.fOwn λk a=>xO b.fOwn b.eOwn (by decide) a;have A:=zT d b.rOwn λk a=>xO b.rOwn b.eOwn (by decide) a;have F:nb≠g:=λc=>by
  rcases r with l|l
  ·exact f.2.2.2 (by rw[l,c])
  ·omega
 have B:=OwnB.snoc q;refine⟨⟨by simp[setCell,lU,v],zF y λk _ _ a=>e k λc=>f.1 (by rw[a,c]),b.plen,b.each,zF z λk _ _ a=>e k λc=>f.2.1 (by rw[a,c]),zF A λk _ _ a=>e k λc=>f.2.2.1 (by rw[a,c]),zF B λk _ _ a=>e k λc=>?_,b.fr,b.nH,b.keep.trans ⟨d.os,d.output,by rw[zC];exact u,λk a _=>(e k (by have:=b.nH;omega)).trans (i k (by have:=b.keep.size;omega) λc=>by have:=(b.eOwn.lt k c.symm).1;omega)⟩⟩,λk G a=>?_⟩
 ·have:g=k:=by simpa[Value.ownBlock] using a
  omega
 ·have C:=(kQ.1 a).1
  have D:k≠nb:=λc=>by
   rw[c,b.blk] at a;injection a with a;injection a with _ a;exact absurd a (by decide)
  exact(e k D).trans ((i k C (zN b.eOwn a (by decide))).trans a)
theorem Nw.setNet {i:Nat}{x:Value}{f:Nt}(b:Nw w0 w nb n sv fv rv ev ps)(j:f.sets=n.sets)(l:f.follow=n.follow)(m:f.rules=n.rules)(o:f.empty=n.empty)(p:(w.setCell ⟨nb,i,none⟩ x).heap[nb]? =some (.cells #[sv,fv,iX (f.first:Int),iX (f.ends:Int),rv,ev] 132)):Nw w0 (w.setCell ⟨nb,i,none⟩ x) nb f sv fv rv ev ps/\StayS w (w.setCell ⟨nb,i,none⟩ x):=by
 have e:∀k,k≠nb->(w.setCell ⟨nb,i,none⟩ x).heap[k]? =w.heap[k]? :=λk a=>lJ _ _ _ _ a;have g:=b.box;refine⟨⟨p,by rw[j];exact zF b.sOwn λk _ _ a=>e k λd=>g.1 (by rw[a,d]),by rw[j];exact b.plen,by rw[j];exact b.each,by rw[l];exact zF b.fOwn λk _ _ a=>e k λd=>g.2.1 (by rw[a,d]),by rw[m];exact zF b.rOwn λk _ _ a=>e k λd=>g.2.2.1 (by rw[a,d]),by rw[o];exact zF b.eOwn λk _ _ a=>e k λd=>g.2.2.2 (by rw[a,d]),b.fr,b.nH,b.keep.trans (zP _ _ _ _ b.nH)⟩,λk c a=>(e k λd=>?_).trans a⟩;rw[d,b.blk] at a;injection a with a;injection a with _ a;exact absurd a (by decide)
theorem Nw.setFirst (a:Nw w0 w nb n sv fv rv ev ps)(x:Nat):Nw w0 (w.setCell ⟨nb,2,none⟩ (iX (x:Int))) nb {n with first:=x} sv fv rv ev ps/\StayS w (w.setCell ⟨nb,2,none⟩ (iX (x:Int))):=a.setNet rfl rfl rfl rfl (by simp[setCell,lU,a.blk])
theorem Nw.setEnds (a:Nw w0 w nb n sv fv rv ev ps)(x:Nat):Nw w0 (w.setCell ⟨nb,3,none⟩ (iX (x:Int))) nb {n with ends:=x} sv fv rv ev ps/\StayS w (w.setCell ⟨nb,3,none⟩ (iX (x:Int))):=a.setNet rfl rfl rfl rfl (by simp[setCell,lU,a.blk])
end
def Nt.blank:Nt:=⟨[],[],0,0,[],[]⟩
def zLT (before:Nat)(q:Nt×Sn):Nt:={q.1 with first:=q.1.first|||q.2.first,ends:=q.1.ends|||q.2.last,rules:=q.1.rules++[2^q.1.sets.length-2^before],empty:=q.1.empty++[q.2.empty]}
def xM (d:Nat)(rules:List Tr):Nat->Nt
 |0=>Nt.blank
 |j+1=>zLT (xM d rules j).sets.length (xF d (xM d rules j) (rules.getD j Tr.none))
theorem Nw.begin (w:World):Nw w (w.alloc (.cells #[slice none 0 0,slice none 0 0,iX 0,iX 0,slice none 0 0,slice none 0 0] 132)) w.heap.size Nt.blank (slice none 0 0) (slice none 0 0) (slice none 0 0) (slice none 0 0) []:=
 ⟨gY _ _,ownsRow_nil _ _ _ _,rfl,λi a=>absurd a (Nat.not_lt_zero _),OwnI.nil _ _,OwnI.nil _ _,ownsRow_nil _ _ _ _,λg b=>(by cases b),lQ,kZ _ _ lQ⟩
theorem zAI (a:Nat)(rules:List Tr)(j:Nat)(c:zX (yQ a) rules j<=24):(xM a rules j).Good/\(xM a rules j).sets.length=zX (yQ a) rules j:=by
 induction j with
 |zero=>exact⟨⟨lX,rfl,λx e=>absurd e List.not_mem_nil⟩,rfl⟩
 |succ j f=>
  have h:zX (yQ a) rules j+yQ a (rules.getD j Tr.none)<=24:=c;obtain⟨g,i⟩:=f (by omega);obtain⟨b,k,l⟩:=jX a (xM a rules j) (rules.getD j Tr.none) g (by omega);exact⟨⟨b.len,b.same,b.fol⟩,by show(xF a (xM a rules j) (rules.getD j Tr.none)).1.sets.length=zX (yQ a) rules j+_;omega⟩
end
def Nt.Same (a b:Nt):Prop:=a.first=b.first/\a.ends=b.ends/\a.rules=b.rules/\a.empty=b.empty
theorem Nt.Same.refl (a:Nt):a.Same a:=⟨rfl,rfl,rfl,rfl⟩
theorem Nt.Same.trans {a b c:Nt}(d:a.Same b)(e:b.Same c):a.Same c:=⟨d.1.trans e.1,d.2.1.trans e.2.1,d.2.2.1.trans e.2.2.1,d.2.2.2.trans e.2.2.2⟩
theorem zDG (n:Nt)(a b:Nat):(n.link a b).Same n:=by
 have:=zBT n a b n.follow.length;exact⟨this.2.2.2.1,this.2.2.2.2,this.2.1,this.2.2.1⟩
def Still (sub:Lay):Prop:=∀n t,(sub n t).1.Same n
theorem zD0 {a:Lay}(b:Still a)(n:Nt)(parts:List Tr)(j:Nat):(rowTo a n parts j).1.Same n:=by
 induction j with
 |zero=>exact Nt.Same.refl _
 |succ j c=>exact((zDG _ _ _).trans (b _ _)).trans c
theorem zHh {a:Lay}(b:Still a)(n:Nt)(parts:List Tr)(j:Nat):(jB a n parts j).1.Same n:=by
 induction j with
 |zero=>exact Nt.Same.refl _
 |succ j c=>exact(b _ _).trans c
theorem zJp (t:Tr)(j:Nat)(q:Nt×Sn):(zAv t j q).Same q.1:=by
 unfold zAv;split
 ·exact zDG _ _ _
 ·exact Nt.Same.refl _
theorem zF2 {a:Lay}(b:Still a)(n:Nt)(t:Tr)(j:Nat):(xT a n t j).1.Same n:=by
 induction j with
 |zero=>exact Nt.Same.refl _
 |succ j c=>exact(((zDG _ _ _).trans (zJp _ _ _)).trans (zD0 b _ _ _)).trans c
theorem zFa (a:Nat):Still (xF a):=by
 induction a with
 |zero=>exact λn t=>Nt.Same.refl _
 |succ a b=>
  intro n t;unfold xF;split
  ·exact⟨rfl,rfl,rfl,rfl⟩
  ·split
   ·exact zD0 b _ _ _
   ·split
    ·exact zHh b _ _ _
    ·split
     ·exact zF2 b _ _ _
     ·exact Nt.Same.refl _
structure Nt.Laid (n:Nt)(j:Nat):Prop where
 first:n.first<2^n.sets.length
 ends:n.ends<2^n.sets.length
 rules:∀x∈n.rules,x<2^n.sets.length
 rlen:n.rules.length=j
 elen:n.empty.length=j
theorem zBq (a:Nat)(rules:List Tr)(j:Nat)(i:zX (yQ a) rules j<=24):(xM a rules j).Laid j:=by
 induction j with
 |zero=>exact⟨(by decide:0<2^0),(by decide:0<2^0),λx e=>absurd e List.not_mem_nil,rfl,rfl⟩
 |succ j k=>
  have q:zX (yQ a) rules j+yQ a (rules.getD j Tr.none)<=24:=i;obtain⟨l,r⟩:=zAI a rules j (by omega);have b:=k (by omega);obtain⟨s,m,f⟩:=jX a (xM a rules j) (rules.getD j Tr.none) l (by omega);obtain⟨s1,s2,h,o⟩:=zFa a (xM a rules j) (rules.getD j Tr.none);rw[<-m] at f;have g:2^(xM a rules j).sets.length<=2^(xF a (xM a rules j) (rules.getD j Tr.none)).1.sets.length:=kG (by omega) (by omega);have t:0<2^(xM a rules j).sets.length:=Nat.pow_pos (by omega);refine⟨Nat.or_lt_two_pow (by rw[s1];exact lZ b.first g) f.first,Nat.or_lt_two_pow (by rw[s2];exact lZ b.ends g) f.last,λx e=>?_,?_,?_⟩
  ·show x<2^(xF a (xM a rules j) (rules.getD j Tr.none)).1.sets.length
   have p:=e;rcases kU.1 p with c|c
   ·rw[h] at c
    exact lZ (b.rules x c) g
   ·rw[kY.1 c]
    omega
  ·show((xF a (xM a rules j) (rules.getD j Tr.none)).1.rules++[_]).length=j+1
   rw[h,kX,b.rlen];rfl
  ·show((xF a (xM a rules j) (rules.getD j Tr.none)).1.empty++[_]).length=j+1
   rw[o,kX,b.elen];rfl
theorem zN6 (a:Nat)(rules:List Tr)(e:zX (yQ a) rules rules.length<=24)(f:rules.length<=8):(xM a rules rules.length).Ok:=by
 have c:=zAI a rules rules.length e;have b:=zBq a rules rules.length e;exact⟨c.1.len,c.1.same,c.1.fol,b.first,b.ends,by rw[b.rlen];exact f,b.rules⟩
theorem Nw.netAt {k w:World}{e:Nat}{n:Nt}{sv f rv j:Value}{d:List (Value×Bool)}(a:Nw k w e n sv f rv j d):NetAt w e n sv f rv j:=by
 obtain⟨c0,c1,c2,l,m,o,_⟩:=a.cells;refine⟨a.lt,c0,c1,c2,l,m,o,?_,zAH a.fOwn,zAH a.rOwn,zGe a.eOwn λg p=>(a.eOwn.lt g p).2⟩;have q:∀i,i<n.sets.length->RangesAt w (d.getD i (undef,false)).1 (n.sets.getD i ⟨[],false⟩).ranges:=λi b=>(a.each i b).1.grown a.keep;rcases a.sOwn.2 with⟨c,r⟩|⟨g,cap,v,c,x,y,s,t,z,A⟩
 ·exact⟨none,0,by rw[c,r],by omega,by unfold maxLen;omega,λi b=>by omega⟩
 ·have u:=(a.sOwn.lt g (by rw[c];rfl)).2
  refine⟨some ⟨g,0,none⟩,cap,c,s,t,λi b=>⟨g,0,(d.getD i (undef,false)).1,rfl,u,?_,?_,q i b⟩⟩
  ·have:=a.sOwn.cells (g:=g) (by rw[c];rfl) (i*2) _ (zDX d i (by rw[a.plen];exact b)).1
   rw[Addr.add_lit] at this;rw[Nat.zero_add] at this ⊢;exact this
  ·have:=a.sOwn.cells (g:=g) (by rw[c];rfl) (i*2+1) _ (zDX d i (by rw[a.plen];exact b)).2
   rw[Addr.add_lit,(a.each i b).2] at this;rw[Nat.zero_add] at this ⊢;exact this
end Go.Proofs.YtbjcfkdnjaiclaaGreat
