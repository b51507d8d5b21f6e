import Derived.Deep.RegionHeld3
import Derived.Deep.RegionWith
import Derived.Test.YtbjcfkdnjaiclaaGreatK0
import Derived.Test.YtbjcfkdnjaiclaaGreatK4
/- Parts of the proof. -/
set_option linter.unusedVariables false
set_option linter.unusedSimpArgs false
set_option maxHeartbeats 4000000
set_option maxRecDepth 100000
namespace Go.Proofs.YtbjcfkdnjaiclaaGreat
open Go.RowKit Go.Proofs.Tryz Go.World
open Go.Value (int slice bool pointer string agg tuple)
open Go.IntKind (i64)
open Go.Ending (returned)
theorem zKx (w:World)(aM rv aN gv:Value)(m:Sm)(aO:TblAt w aM rv m)(ak:m.Tbl)(from_:Nat)(cq:from_<m.next.length)(am ao:Nat->Bool)(bf:BoolsAt w (In w) aN m.next.length am)(bh:BoolsAt w (In w) gv m.next.length ao):
  Calls prog 146 #[agg #[aM,rv,iX m.start],iX from_,aN,gv] w λe w'=>∃(aP:ByteArray) (a:Int),e=returned (tuple #[string aP,iX a])/\aP.size<=300/\ -1<=a/\a<m.next.length/\Grew w w':=by
 obtain⟨bi,bj,bk,bl,bm⟩:=info_parts yL;obtain⟨bn,bp,bq,bs,bt⟩:=info_parts qU;obtain⟨is,bu,bv,bw,bx⟩:=info_parts zKe;obtain⟨H,y,rfl,cs,ct,bz⟩:=aO.next
 obtain⟨C,D,rfl,cu,cw,cx⟩:=aO.rules;obtain⟨bA,bB,cy,bC,rfl,_,_,bD⟩:=bf;obtain⟨bE,bF,cz,bG,rfl,_,_,bH⟩:=bh;have bI:=vl bz;have bJ:=vl bD;have bK:=vl bH;have aQ:Hid m.Tbl:=ak;have cA:=ak.most;have cB:=ak.one;generalize bL:m.next.length=n at *
 have ap:=vl bL;obtain⟨w1,aR,W,aq⟩:∃w1,w1=w.alloc (.cells #[slice H n y,slice C m.rules.length D,iX m.start] 127)/\Hid (Grew w w1/\w1.heap[w.heap.size]? =some (.cells #[slice H n y,slice C m.rules.length D,iX m.start] 127))/\w.heap.size<w1.heap.size:=
  ⟨_,rfl,⟨kZ _ _ lQ,gY w _⟩,by simp⟩
 obtain⟨w2,bM,bN,X⟩:=run_makeSlice_full (P:=prog) w1 w.heap.size 28 4 bn _ 1 underlying28 bp bq bs i64 i64 n (by omega) (by rw[bt];omega) (by unfold maxLen;omega) (by omega);have F:Grew w1 w2:=⟨X.os,X.output,X.size,λk Y _=>X.block k Y (by simp)⟩
 have aS:=lZ aq F.size;obtain⟨v,bO,bP,aa⟩:=run_makeSlice_full (P:=prog) w2 w.heap.size 108 9 is _ 1 underlying108 bu bv bw i64 i64 n (by omega) (by rw[bx];omega) (by unfold maxLen;omega) (by omega);have ab:Grew w2 v:=⟨aa.os,aa.output,aa.size,λk Y _=>aa.block k Y (by simp)⟩
 have bQ:=lZ aS ab.size;have M:Hid (Row v w.heap.size 4 (slice (qX w1.heap.size) n n) n (λ_=>bool false)/\Row v w.heap.size 9 (slice (qX w2.heap.size) n n) n (λ_=>string ⟨#[]⟩)/\Grew w v/\v.heap[w.heap.size]? =some (.cells #[slice H n y,slice C m.rules.length D,iX m.start] 127)):=by
  have aT:=bN;rw[Nat.mul_one,zAk _ rfl] at aT;have aU:=bP;rw[Nat.mul_one,zAk _ rfl] at aU;exact⟨zL aT ab,aU,(W.1.trans (F.lower (by omega) (by omega))).trans (ab.lower (by omega) (by omega)),(ab.block _ aS (by omega)).trans ((F.block _ aq (by omega)).trans W.2)⟩
 have aV:w1.cell? ⟨w.heap.size,0,none⟩=some (slice H n y):=by unfold cell?;rw[W.out.2];rfl
 have bR:=zA aV aq F;go_in;apply wp_cut;intro cC bS;go_wp2;apply bS.out;rw[<-aR];clear aR;go_wp2_with fail;clear bM bO aV bR;obtain⟨N,aW,au⟩:∃N,N=v.alloc (.cells #[iX (from_:Int)] 3)/\Hid (Wy N w.heap.size w1.heap.size w2.heap.size n (λ_=>false) (λ_=>⟨#[]⟩) (slice (qX v.heap.size) 1 1) [(from_:Int)]/\Grew w N/\N.heap[w.heap.size]? =some (.cells #[slice H n y,slice C m.rules.length D,iX m.start] 127)):=by
  have ac:Grew v (v.alloc (.cells #[iX (from_:Int)] 3)):=kZ _ _ lQ;refine⟨_,rfl,⟨zL M.1 ac,zL M.2.1 ac,?_,?_,?_,λi=>lX⟩,M.2.2.1.trans (ac.lower (by omega) (by omega)),(ac.block _ bQ (by omega)).trans M.2.2.2⟩
  ·exact⟨rfl,.inr ⟨v.heap.size,1,#[iX (from_:Int)],rfl,by omega,gY v _,lQ,by unfold maxLen;omega,rfl,rfl⟩⟩
  ·intro x ad
   rw[kY.1 ad];omega
  ·have e:(List.range n).countP (λ_=>false)=0:=by simp
   rw[e];rfl
 rw[<-aW];clear aW M W;have av:w1.heap.size≠w2.heap.size->True:=λ_=>trivial;clear av;go_loopg [12,13] (n+1) (λq aw i wr=>∃(j:Nat) (f:Nat->Bool) (d:Nat->ByteArray) (l:List Int),q=n+1-j/\j<=l.length/\i=iX (j:Int)/\Wy wr w.heap.size w1.heap.size w2.heap.size n f d aw l/\Grew w wr/\wr.heap[w.heap.size]? =some (.cells #[slice H n y,slice C m.rules.length D,iX m.start] 127))
 case atStart=>exact⟨0,_,_,_,rfl,lX,rfl,au.1,au.2.1,au.2.2⟩
 case round=>
  obtain⟨j,f,d,l,I,cD,rfl,p,A,r⟩:=hrel;have O:Hid (gk=n+1-j/\Wy wr w.heap.size w1.heap.size w2.heap.size n f d u12 l/\Grew w wr/\wr.heap[w.heap.size]? =some (.cells #[slice H n y,slice C m.rules.length D,iX m.start] 127)):=⟨I,p,A,r⟩
  have bT:=p.most;obtain⟨ae,ax,ay⟩:=p.list.form;subst ay;by_cases az:j<l.length
  ·have bU:(j:Int)<(l.length:Int):=by omega
   obtain⟨gl,rfl⟩:∃gl,ae=some ⟨gl,0,none⟩:=by
    rcases p.list.2 with⟨J,cE⟩|⟨g,_,_,J,_⟩
    ·omega
    ·injection J with J _ _
     exact⟨g,J⟩
   have aX:wr.cell? ⟨gl,j,none⟩=some (iX (l.getD j 0)):=p.list.cell j az;obtain⟨bV,bW⟩:=p.all _ (zS l j 0 az);obtain⟨s,aY⟩:∃s:Nat,l.getD j 0=(s:Int):=⟨(l.getD j 0).toNat,by omega⟩
   rw[aY] at aX bW;have af:s<n:=by omega
   have cF:(s:Int)<(n:Int):=by omega
   have bX:wr.cell? ⟨w.heap.size,0,none⟩=some (slice H n y):=by unfold cell?;rw[r];rfl
   obtain⟨b,o,u,rfl,K,aZ,a0⟩:=bI s af;have aA:=aQ.rows s (by rw[ap.out];exact af);obtain⟨aB,aC,bY,rfl,bZ,_,_,a1⟩:=a0.block (by omega);have b0:wr.cell? ⟨b,o+s,none⟩=some (slice (some ⟨aB,aC,none⟩) 256 bY):=by rw[<-aA];exact zA aZ K A
   have b1:Hid (∀i,i<256->w.cell? ⟨aB,aC+i,none⟩=some (iX ((m.next.getD s []).getD i 0))):=by
    intro i b3;exact a1 i (by rw[aA];exact b3)
   have b4:Hid (∀b,b<256->0<=(m.next.getD s []).getD b 0/\(m.next.getD s []).getD b 0<n):=λb K=>by
    have J:=aQ.to s b (by rw[ap.out];exact af) K;rw[ap.out] at J;exact J
   clear I p A r aZ a0 a1 aA aY bV;go_wp2_with fail;clear aX bX b0;go_loopg [12,43] 256 (λq aw i wr=>∃(k:Nat) (f:Nat->Bool) (d:Nat->ByteArray) (l:List Int),q=256-k/\k<=256/\i=iX (k:Int)/\j<l.length/\Wy wr w.heap.size w1.heap.size w2.heap.size n f d aw l/\Grew w wr/\wr.heap[w.heap.size]? =some (.cells #[slice (some ⟨b,o,none⟩) n y,slice C m.rules.length D,iX m.start] 127))
   case atStart=>exact⟨0,f,d,l,rfl,lX,rfl,az,O.2.1,O.2.2.1,O.2.2.2⟩
   case round=>
    obtain⟨k,f,d,l,I,Y,rfl,Q,p,A,r⟩:=hrel;have c:Hid (gk=256-k/\Wy wr w.heap.size w1.heap.size w2.heap.size n f d u12 l/\Grew w wr/\wr.heap[w.heap.size]? =some (.cells #[slice (some ⟨b,o,none⟩) n y,slice C m.rules.length D,iX m.start] 127)):=⟨I,p,A,r⟩
    have bT:=p.most;obtain⟨ae,ax,ay⟩:=p.list.form;subst ay;by_cases F:k<256
    ·have b5:(k:Int)<256:=by omega
     have a2:wr.cell? ⟨aB,aC+k,none⟩=some (iX ((m.next.getD s []).getD k 0)):=zA (b1 k F) bZ A;obtain⟨b6,b7⟩:=b4 k F;obtain⟨x,ad⟩:∃x:Nat,(m.next.getD s []).getD k 0=(x:Int):=⟨((m.next.getD s []).getD k 0).toNat,by omega⟩
     rw[ad] at a2 b6 b7;have R:x<n:=by omega
     have aD:wr.cell? ⟨bE,bF+x,none⟩=some (bool (ao x)):=zA (bK x R) bG A;have aE:wr.cell? ⟨bA,bB+x,none⟩=some (bool (am x)):=zA (bJ x R) bC A;obtain⟨s1,s2,a3,a4⟩:=p.seen.at (by omega)
     obtain⟨v1,v2,aF,a5⟩:=p.words.at (by omega)
     have S:wr.cell? ⟨w1.heap.size,x,none⟩=some (bool (f x)):=a3 x R;have b8:=a4 x;have aG:wr.cell? ⟨w2.heap.size,s,none⟩=some (string (d s)):=aF s af;have a6:wr.cell? ⟨w2.heap.size,x,none⟩=some (string (d x)):=aF x R;have a7:=a5 x;have cG:=p.size s;have a8:w.heap.size<=wr.heap.size:=Nat.le_of_lt (Nat.lt_of_le_of_lt s1 s2);have av:w1.heap.size≠w2.heap.size:=λe=>xO (g:=w1.heap.size) p.seen p.words (by decide) rfl (by rw[e];rfl);have b9:Hid (f x=f x):=rfl;clear I A r ad b9 a3 a4 aF a5;cases ag:ao x with
     |true=>
      rw[ag] at aD;clear ag;go_wp2_with fail;have G:Hid (w2.heap.size<wr.heap.size/\wr.cell? ⟨w2.heap.size,s,none⟩=some (string (d s))):=⟨v2,aG⟩
      go_region_with ((go_at_call 150;go_must ((refine (zCE _ k F).mono ?_;rintro e ca ⟨rfl,a9⟩;have q5:ca.cell? ⟨w2.heap.size,s,none⟩=some (string (d s)):=zA (w:=wr.drew) G.2 G.1 a9))))
      all_goals first
       |omega
       |(go_wp2_with fail;go_ret2;refine⟨_,_,rfl,?_,by omega,by omega,c.2.2.1.trans ((Keep.undrew a9).lower a8 a8)⟩;rw[ByteArray.size_append];show _+1<=300;omega)
     |false=>
      rw[ag] at aD;clear ag;cases ah:am x with
      |false=>
       rw[ah] at aE;clear ah;cases E:f x with
       |true=>
        rw[E] at S;clear E;go_wp2_with fail;go_roundg (256-(k+1))
        case measure=>rw[c.out.1];omega
        case rel=>exact⟨k+1,f,d,l,rfl,by omega,by go_num,Q,c.2.1,c.2.2.1,c.2.2.2⟩
       |false=>
        rw[E] at S;clear E;go_wp2_with fail;go_roundg (256-(k+1))
        case measure=>rw[c.out.1];omega
        case rel=>exact⟨k+1,f,d,l,rfl,by omega,by go_num,Q,c.2.1,c.2.2.1,c.2.2.2⟩
      |true=>
       rw[ah] at aE;clear ah;cases E:f x with
       |true=>
        rw[E] at S;clear E;go_wp2_with fail;go_roundg (256-(k+1))
        case measure=>rw[c.out.1];omega
        case rel=>exact⟨k+1,f,d,l,rfl,by omega,by go_num,Q,c.2.1,c.2.2.1,c.2.2.2⟩
       |false=>
        rw[E] at S;have cb:Hid (f x=false):=E;clear E;by_cases aH:x=from_
        ·have cc:((x:Int) != (from_:Int))=false:=by simp[aH]
         clear aH;go_wp2_with fail;go_roundg (256-(k+1))
         case measure=>rw[c.out.1];omega
         case rel=>exact⟨k+1,f,d,l,rfl,by omega,by go_num,Q,c.2.1,c.2.2.1,c.2.2.2⟩
        ·have cc:((x:Int) != (from_:Int))=true:=by simp;omega
         clear aH;go_wp2_with fail;obtain⟨t,aI,cd,q2,q3,q4⟩:∃t,t=wr.setCell ⟨w1.heap.size,x,none⟩ (bool true)/\t.cell? ⟨w2.heap.size,s,none⟩=some (string (d s))/\t.cell? ⟨w2.heap.size,x,none⟩=some (string (d x))/\t.frozen? ⟨w2.heap.size,x,none⟩=false/\w2.heap.size<t.heap.size:=by
          have K:(wr.setCell ⟨w1.heap.size,x,none⟩ (bool true)).heap[w2.heap.size]? =wr.heap[w2.heap.size]? :=lJ _ _ _ _ av.symm;exact⟨_,rfl,(gW K).trans aG,(gW K).trans a6,(gV K).trans a7,by simpa[World.setCell] using v2⟩
         rw[<-aI];have ce:Hid (t=wr.setCell ⟨w1.heap.size,x,none⟩ (bool true)):=aI;clear aI aG a6 a7 S b8 aE aD a2;have G:Hid (w2.heap.size<t.heap.size/\t.cell? ⟨w2.heap.size,s,none⟩=some (string (d s))/\t.cell? ⟨w2.heap.size,x,none⟩=some (string (d x))/\t.frozen? ⟨w2.heap.size,x,none⟩=false):=⟨q4,cd,q2,q3⟩
         have cH:((⟨#[UInt8.ofNat k]⟩:ByteArray)).size=1:=rfl;go_region_with ((go_at_call 150;go_must ((refine (zCE _ k F).mono ?_;rintro e T ⟨rfl,U⟩;have q5:T.cell? ⟨w2.heap.size,s,none⟩=some (string (d s)):=zA (w:=t.drew) G.2.1 G.1 U;have q6:T.cell? ⟨w2.heap.size,x,none⟩=some (string (d x)):=zA (w:=t.drew) G.2.2.1 G.1 U;have cf:T.frozen? ⟨w2.heap.size,x,none⟩=false:=zHf (w:=t.drew) G.2.2.2 G.1 U))))
         all_goals
          obtain⟨B,ba,L,bb⟩:∃B,B=T.setCell ⟨w2.heap.size,x,none⟩ (string (d s++⟨#[UInt8.ofNat k]⟩))/\Hid ((Row B w.heap.size 4 (slice (qX w1.heap.size) n n) n (λi=>bool (if i=x then true else f i))/\Row B w.heap.size 9 (slice (qX w2.heap.size) n n) n (λi=>string (if i=x then d s++⟨#[UInt8.ofNat k]⟩ else d i))/\OwnI B w.heap.size (slice ae l.length ax) l)/\Grew w B/\B.heap[w.heap.size]? =some (.cells #[slice (some ⟨b,o,none⟩) n y,slice C m.rules.length D,iX m.start] 127))/\w.heap.size<B.heap.size:=by
           have ch:=ce.out;subst ch;have r:=c.2.2.2;have ai:Keep (wr.setCell ⟨w1.heap.size,x,none⟩ (bool true)).heap.size (wr.setCell ⟨w1.heap.size,x,none⟩ (bool true)).heap.size (wr.setCell ⟨w1.heap.size,x,none⟩ (bool true)) T:=Keep.undrew U;have V:(wr.setCell ⟨w1.heap.size,x,none⟩ (bool true)).heap.size=wr.heap.size:=by simp[World.setCell]
           have ci:w.heap.size≠w1.heap.size:=λe=>zN c.2.1.seen r (by decide) (by rw[e];rfl);have cj:w.heap.size≠w2.heap.size:=λe=>zN c.2.1.words r (by decide) (by rw[e];rfl);refine⟨_,rfl,⟨c.2.1.mark x _ ai,?_,?_⟩,?_⟩
           ·exact((c.2.2.1.trans (zP _ _ _ _ (by omega))).trans (ai.lower (by rw[V];omega) (by rw[V];omega))).trans (zP _ _ _ _ (by omega))
           ·refine(lJ _ _ _ _ cj).trans ((ai.block _ (by rw[V];omega) (by rw[V];omega)).trans ((lJ _ _ _ _ ci).trans r))
           ·have:=ai.size
            rw[V] at this;simp[World.setCell];omega
          rw[<-ba];clear ba q5 q6 cf U;have aJ:Hid (B.ownsRow w.heap.size 3 1 (slice ae l.length ax) l.length (l.map λx=>iX x)):=L.1.2.2;have ck:w.heap.size<=B.heap.size:=Nat.le_of_lt bb;go_wp2_with (first|(at_builtin;refine wpList_append_lies _ rfl _ _ 45 rfl (w.heap.size) 3 bi (iX 0) 1 8 underlying45 bj bk bl bm rfl (by decide) _ _ _ rfl (aJ.alloc _) ⟨B.heap.size,0,none⟩ 1 1 [iX (x:Int)] rfl rfl (cell_one_new _ _ _) (by intro u bc;simp at bc;subst bc;rfl) (by decide) (by unfold maxLen;omega) (by omega) (by simp;omega) _ rfl ?_;intro cm cap aK bd aj cp cI;have be:=xQ aJ aj ck))
          have aL:Hid (Wy aK w.heap.size w1.heap.size w2.heap.size n (λi=>if i=x then true else f i) (λi=>if i=x then d s++⟨#[UInt8.ofNat k]⟩ else d i) (slice (qX cm) (l.length+1) cap) (l++[(x:Int)])/\Grew w aK/\aK.heap[w.heap.size]? =some (.cells #[slice (some ⟨b,o,none⟩) n y,slice C m.rules.length D,iX m.start] 127)):=by
           have r:=L.2.2;refine⟨Wy.more x _ c.2.1.all c.2.1.len c.2.1.size R cb ?_ L.1.1 L.1.2.1 L.1.2.2 bd aj,L.2.1.trans (xP be),(aj.block _ (by simp;omega) (zN aJ r (by decide))).trans ((lG _ _ _ bb).trans r)⟩;rw[ByteArray.size_append];show _+1<=_;omega
          clear bd aj be cp;go_wp2_with fail;go_roundg (256-(k+1))
          case measure=>rw[c.out.1];omega
          case rel=>exact⟨k+1,_,_,_,rfl,by omega,by go_num,by rw[kX];omega,aL.1,aL.2.1,aL.2.2⟩
    ·have b5:(256:Int)<=(k:Int):=by omega
     clear I A r;go_wp2_with fail;go_roundg (n+1-(j+1))
     case measure=>rw[O.out.1];omega
     case rel=>exact⟨j+1,f,d,l,rfl,Q,by go_num,c.2.1,c.2.2.1,c.2.2.2⟩
  ·have bU:(l.length:Int)<=(j:Int):=by omega
   clear I A r;go_wp2_with fail;go_ret2
   exact⟨⟨#[]⟩,-1,rfl,lX,by omega,by omega,O.2.2.1⟩
structure Boxed (w w':World)(b:Nat)(nv rv:Value)(m:Sm):Prop where
 c0:w'.cell? ⟨b,0,none⟩=some nv
 c1:w'.cell? ⟨b,1,none⟩=some rv
 c2:w'.cell? ⟨b,2,none⟩=some (int i64 m.start)
 keep:Grew w w'
 lt:b<w'.heap.size
theorem Boxed.made (w:World)(a rv:Value)(m:Sm):Boxed w (w.alloc (.cells #[a,rv,iX m.start] 127)) w.heap.size a rv m:=by
 have b:=gY w (.cells #[a,rv,iX m.start] 127);refine⟨?_,?_,?_,kZ _ _ lQ,by simp⟩ <;> ·unfold cell?;rw[b];rfl
theorem Boxed.grown {w w' w2:World}{b:Nat}{d rv:Value}{m:Sm}(a:Boxed w w' b d rv m)(c:Grew w' w2):Boxed w w2 b d rv m:=
 ⟨zA a.c0 a.lt c,zA a.c1 a.lt c,zA a.c2 a.lt c,a.keep.trans (c.lower a.keep.size a.keep.size),lZ a.lt c.size⟩
theorem Boxed.drew {w w':World}{b:Nat}{c rv:Value}{m:Sm}(a:Boxed w w' b c rv m):Boxed w w'.drew b c rv m:=⟨a.c0,a.c1,a.c2,a.keep.trans (Keep.drew _),a.lt⟩
theorem Boxed.living {w w':World}{a rv:Value}{m:Sm}(i:TblAt w a rv m)(d:m.Tbl)(b:Nat)(f:Boxed w w' b a rv m):
  Calls prog 144 #[agg #[a,rv,iX m.start]] w' λe c=>∃u,e=returned u/\BoolsAt c (In c) u m.next.length zBS/\Boxed w c b a rv m/\Grew w' c:=by
 refine(zG3 w' a rv m (i.grown f.keep) d).mono ?_;rintro e w2 ⟨u,rfl,j,g⟩;exact⟨u,rfl,j.at d.one,f.grown g,g⟩
theorem Boxed.only {w w':World}{a rv:Value}{m:Sm}(i:TblAt w a rv m)(d:m.Tbl)(one b:Nat)(f:Boxed w w' b a rv m):
  Calls prog 148 #[agg #[a,rv,iX m.start],iX one] w' λe c=>∃u,e=returned u/\BoolsAt c (In c) u m.next.length (zBQ one)/\Boxed w c b a rv m/\Grew w' c:=by
 refine(zJg w' a rv m (i.grown f.keep) d one).mono ?_;rintro e w2 ⟨u,rfl,j,g⟩;exact⟨u,rfl,j.at d.one,f.grown g,g⟩
theorem Boxed.tokens {w w':World}{a rv:Value}{m:Sm}(j:TblAt w a rv m)(d:m.Tbl)(b:Nat)(f:Boxed w w' b a rv m):
  Calls prog 140 #[agg #[a,rv,iX m.start]] w' λe c=>∃u,e=returned u/\BoolsAt c (In c) u m.next.length (tokF m)/\Boxed w c b a rv m/\Grew w' c:=by
 refine(zCU w' a rv m (j.grown f.keep) d).mono ?_;rintro e w2 ⟨u,rfl,g,i⟩;rw[d.rules] at g;exact⟨u,rfl,g.at d.one,f.grown i,i⟩
theorem Boxed.way {w w':World}{c rv f gv:Value}{m:Sm}(o:TblAt w c rv m)(p:m.Tbl)(b from_:Nat)(q:from_<m.next.length)(g i:Nat->Bool)(j:Boxed w w' b c rv m)(r:BoolsAt w' (In w') f m.next.length g)(s:BoolsAt w' (In w') gv m.next.length i):
  Calls prog 146 #[agg #[c,rv,iX m.start],iX from_,f,gv] w' λe k=>∃(d:ByteArray) (a:Int),e=returned (tuple #[string d,iX a])/\d.size<=300/\ -1<=a/\a<m.next.length/\Boxed w k b c rv m/\Grew w' k:=by
 refine(zKx w' c rv f gv m (o.grown j.keep) p from_ q g i r s).mono ?_;rintro e w2 ⟨d,a,rfl,t,u,v,l⟩;exact⟨d,a,rfl,t,u,v,j.grown l,l⟩
theorem zEo (w:World)(b rv g:Value)(m:Sm)(i:TblAt w b rv m)(j:m.Tbl)(s:Nat)(l:s<m.next.length)(k:Nat->Bool)(o:BoolsAt w (In w) g m.next.length k):
  Calls prog 180 #[agg #[b,rv,iX m.start],iX s,g] w λe w'=>∃x:Bool,e=returned (bool x)/\Grew w w':=by
 have c:=Boxed.made w b rv m;have p:Hid (∀w',Boxed w w' w.heap.size b rv m->_):=λw' d=>Boxed.only (w':=w') i j s w.heap.size d;have q:Hid (∀w' gv,Boxed w w' w.heap.size b rv m->BoolsAt w' (In w') gv m.next.length (zBQ s)->_):=λw' gv d r=>Boxed.way (w':=w') (gv:=gv) i j w.heap.size s l k (zBQ s) d (o.grown d.keep) r;go_in;apply wp_cut;intro B t;go_wp2;apply t.out;generalize w.alloc (.cells #[b,rv,iX m.start] 127)=w1 at *;have C:=c.c0;have D:=c.c1;have E:=c.c2;have v:=vl c;go_wp2;go_region_with ((first|(go_at_call 148;go_must ((refine (p _ v.drew).mono ?_;rintro e F ⟨u,rfl,y,f,-⟩;have G:=f.c0;have H:=f.c1;have I:=f.c2)))|(go_at_call 146;go_must ((refine (q _ _ f y).mono ?_;rintro e J ⟨K,a,rfl,L,M,N,A,-⟩)))))
 all_goals
  go_wp2;go_ret;exact⟨_,rfl,A.keep⟩
theorem zCS (w:World)(b rv:Value)(m:Sm)(l:TblAt w b rv m)(o:m.Tbl)(p:Nat)(q:m.start=(p:Int))(E:p<m.next.length)(s:Nat):
  Calls prog 147 #[agg #[b,rv,iX m.start],iX s] w λe w'=>∃f:ByteArray,e=returned (string f)/\f.size<=300/\Grew w w':=by
 have j:=Boxed.made w b rv m;have F:Hid (∀w',Boxed w w' w.heap.size b rv m->_):=λw' c=>Boxed.only (w':=w') l o s w.heap.size c;have G:Hid (∀w',Boxed w w' w.heap.size b rv m->_):=λw' c=>Boxed.living (w':=w') l o w.heap.size c;have r:Hid (∀w' d gv,Boxed w w' w.heap.size b rv m->BoolsAt w' (In w') d m.next.length zBS->BoolsAt w' (In w') gv m.next.length (zBQ s)->_):=λw' d gv c t u=>Boxed.way (w':=w') (gv:=gv) l o w.heap.size p E zBS (zBQ s) c t u;have L:=vl q;have r:Hid (∀w' d gv,Boxed w w' w.heap.size b rv m->BoolsAt w' (In w') d m.next.length zBS->BoolsAt w' (In w') gv m.next.length (zBQ s)->Ca 146 #[agg #[b,rv,iX m.start],iX m.start,d,gv] w' λe A=>∃(f:ByteArray) (a:Int),e=returned (tuple #[string f,iX a])/\f.size<=300/\ -1<=a/\a<m.next.length/\Boxed w A w.heap.size b rv m/\Grew w' A):=by
  intro w' d gv c t u;have c:=r w' d gv c t u;rw[<-q] at c;exact c
 clear q;go_in;apply wp_cut;intro M H;go_wp2;apply H.out;generalize w.alloc (.cells #[b,rv,iX m.start] 127)=w1 at *;have N:=j.c0;have O:=j.c1;have P:=j.c2;have B:=vl j;go_wp2;go_region_held3 (λw'=>cX w' w.heap.size 0=some b/\cX w' w.heap.size 1=some rv/\cX w' w.heap.size 2=some (iX m.start)) (first|exact⟨v,x,y⟩|go_keep) (first|(go_at_call 144;go_must ((refine (G _ (by first|exact g|exact B.drew)).mono ?_;rintro e Q ⟨R,rfl,C,i,I⟩;have v:=i.c0;have x:=i.c1;have y:=i.c2)))|(go_at_call 148;go_must ((refine (F _ (by first|exact i|exact B.drew)).mono ?_;rintro e S ⟨T,rfl,D,g,J⟩;have v:=g.c0;have x:=g.c1;have y:=g.c2)))|(go_at_call 146;go_must ((refine (r _ _ _ (by first|exact g|exact i) (by first|exact C|exact C.grown J) (by first|exact D|exact D.grown I)).mono ?_;rintro e U ⟨f,a,rfl,K,V,W,k,-⟩;have v:=k.c0;have x:=k.c1;have y:=k.c2))))
 all_goals
  go_wp2;go_ret;exact⟨_,rfl,K,k.keep⟩
theorem OwnF.more {w:World}{H g cap n:Nat}{f:Nat->Bool}{x:Bool}(a:w.ownsRow H 4 1 (slice (qX g) (n+1) cap) (n+1) ((List.range n).map (λi=>bool (f i))++[bool x])):OwnF w H (slice (qX g) (n+1) cap) (n+1) (λi=>if i=n then x else f i):=by
 refine OwnF.snoc ?_ (if_pos rfl);have e:(List.range n).map (λi=>Value.bool (if i=n then x else f i))=(List.range n).map (λi=>Value.bool (f i)):=by
  apply List.map_congr_left;intro i b;have:=List.mem_range.1 b;rw[if_neg (by omega)]
 rw[e];exact a
theorem Boxed.below {w w' w2:World}{b:Nat}{d rv:Value}{m:Sm}(c:Boxed w w' b d rv m)(f:w.heap.size<=b)(a:Below (b+1) w' w2):Boxed w w2 b d rv m:=by
 have e:=a.block b (Nat.lt_succ_self b);exact⟨(gW e).trans c.c0,(gW e).trans c.c1,(gW e).trans c.c2,c.keep.trans ⟨a.os,a.output,a.size,λk g _=>a.block k (by omega)⟩,lZ c.lt a.size⟩
theorem zEV (w:World)(a rv k:Value)(m:Sm)(N:TblAt w a rv m)(l:m.Tbl)(o:Nat->Bool)(A:BoolsAt w (In w) k m.next.length o):
  Calls prog 145 #[agg #[a,rv,iX m.start],k] w λe w'=>∃u f,e=returned u/\OwnF w' w.heap.size u m.next.length f/\Grew w w':=by
 obtain⟨B,C,D,E,F⟩:=info_parts qU;have O:=Boxed.made w a rv m;obtain⟨ai,aj,ak,P,Q,_,_,R⟩:=id A;have S:Hid (∀w' s,Boxed w w' w.heap.size a rv m->s<m.next.length->Ca 180 #[agg #[a,rv,iX m.start],iX s,k] w' λe w2=>∃x:Bool,e=returned (bool x)/\Boxed w w2 w.heap.size a rv m/\Grew w' w2):=by
  intro w' s p G;refine(zEo w' a rv k m (N.grown p.keep) l s G o (A.grown p.keep)).mono ?_;rintro e w2 ⟨x,rfl,H⟩;exact⟨x,rfl,p.grown H,H⟩
 have T:=vl R;have al:=l.most;have am:=l.one;subst Q;generalize m.next.length=n at *
 go_in;apply wp_cut;intro an U;go_wp2;apply U.out;generalize w.alloc (.cells #[a,rv,iX m.start] 127)=w1 at *;have V:=vl O;go_wp2;go_loopg [5,10] n (λq W i wr=>∃(s:Nat) (f:Nat->Bool),q=n-s/\s<=n/\i=iX (s:Int)/\OwnF wr (w.heap.size+1) W s f/\Boxed w wr w.heap.size a rv m)
 case atStart=>exact⟨0,λ_=>false,rfl,lX,rfl,ownsRow_nil _ _ _ _,V⟩
 case round=>
  obtain⟨s,f,X,G,rfl,I,c⟩:=hrel;have b:Hid (gk=n-s/\OwnF wr (w.heap.size+1) u5 s f/\Boxed w wr w.heap.size a rv m):=⟨X,I,c⟩
  obtain⟨ao,cap,Y⟩:=I.form;subst Y;by_cases J:s<n
  ·have aa:(s:Int)<(n:Int):=by omega
   have K:=zA (T s J) P c.keep;have ap:=c.c0;have aq:=c.c1;have ar:=c.c2;have ab:=c.lt;cases L:o s with
   |false=>
    rw[L] at K;have d:=vl b.2.1;go_wp2_with (first|(at_builtin;refine wpList_append_lies _ rfl _ _ 28 rfl (w.heap.size+1) 4 B (bool false) 1 1 underlying28 C D E F rfl (by decide) _ _ _ rfl (d.alloc _) ⟨wr.heap.size,0,none⟩ 1 1 [bool false] rfl rfl (cell_one_new _ _ _) (by intro u g;simp at g;subst g;rfl) (by decide) (by unfold maxLen;omega) (by omega) (by simp;omega) _ rfl ?_;intro r t w2 v y ac ad;have z:=xQ d y ab))
    have j:Hid (OwnF w2 (w.heap.size+1) (slice (qX r) (s+1) t) (s+1) (λi=>if i=s then false else f i)/\Boxed w w2 w.heap.size a rv m):=⟨OwnF.more v,b.2.2.below lQ z⟩
    go_wp2;go_roundg (n-(s+1))
    case measure=>rw[b.out.1];omega
    case rel=>exact⟨s+1,_,rfl,by omega,by go_num,j.1,j.2⟩
   |true=>
    rw[L] at K;go_wp2_with (first|(go_at_call 180;refine(S _ s b.2.2 J).mono ?_;rintro e ae ⟨x,rfl,M,af⟩;have d:=vl <| zL b.2.1 af;have ag:=M.lt)|(at_builtin;refine wpList_append_lies _ rfl _ _ 28 rfl (w.heap.size+1) 4 B (bool false) 1 1 underlying28 C D E F rfl (by decide) _ _ _ rfl (d.alloc _) ⟨ae.heap.size,0,none⟩ 1 1 [bool x] rfl rfl (cell_one_new _ _ _) (by intro u g;simp at g;subst g;rfl) (by decide) (by unfold maxLen;omega) (by omega) (by simp;omega) _ rfl ?_;intro r t w2 v y ac ad;have z:=xQ d y ag))
    have j:Hid (OwnF w2 (w.heap.size+1) (slice (qX r) (s+1) t) (s+1) (λi=>if i=s then x else f i)/\Boxed w w2 w.heap.size a rv m):=⟨OwnF.more v,M.below lQ z⟩
    go_wp2;go_roundg (n-(s+1))
    case measure=>rw[b.out.1];omega
    case rel=>exact⟨s+1,_,rfl,by omega,by go_num,j.1,j.2⟩
  ·have ah:s=n:=by omega
   have aa:(n:Int)<=(s:Int):=by omega
   subst ah;go_wp2;go_ret;exact⟨_,_,rfl,Row.mono b.2.1 (Nat.le_succ _),b.2.2.keep⟩
theorem zC2 {b:Func}{t u v x:Tmp}(c:b.results=#[.tmp t,.tmp u,.tmp v,.tmp x])(a:Array Value)(P:Program)(w:World):
  (results b a).run P w=.ok (tuple #[a.getD t undef,a.getD u undef,a.getD v undef,a.getD x undef]) w:=by
 simp[results,c]
structure Ra (w w':World)(nv rv ev ov kv:Value)(m:Sm)(n:Nat)(fe fo fk:Nat->Bool):Prop where
 box:Boxed w w' w.heap.size nv rv m
 ends:BoolsAt w' (In w') ev n fe
 open_:BoolsAt w' (In w') ov n fo
 rounds:BoolsAt w' (In w') kv n fk
theorem Ra.grown {w w' w2:World}{c rv d e f:Value}{m:Sm}{n:Nat}{g i j:Nat->Bool}(a:Ra w w' c rv d e f m n g i j)(b:Grew w' w2):Ra w w2 c rv d e f m n g i j:=⟨a.box.grown b,a.ends.grown b,a.open_.grown b,a.rounds.grown b⟩
theorem Ra.drew {w w':World}{b rv c d e:Value}{m:Sm}{n:Nat}{f g i:Nat->Bool}(a:Ra w w' b rv c d e m n f g i):Ra w w'.drew b rv c d e m n f g i:=⟨a.box.drew,a.ends,a.open_,a.rounds⟩
theorem zDw (w:World)(b rv:Value)(m:Sm)(o:TblAt w b rv m)(g:m.Tbl)(ab:Nat)(aq:m.start=(ab:Int))(E:ab<m.next.length):
  Calls prog 105 #[agg #[b,rv,iX m.start]] w λe w'=>∃a x y r:ByteArray,e=returned (tuple #[string a,string x,string y,string r])/\(a.size<=300/\x.size<=300/\y.size<=300/\r.size<=300)/\Grew w w':=by
 have F:=Boxed.made w b rv m;have bc:=g.most;have ar:=g.one;have aP:Hid (∀w',Boxed w w' w.heap.size b rv m->_):=λw' j=>Boxed.tokens (w':=w') o g w.heap.size j;have aQ:Hid (∀w',Boxed w w' w.heap.size b rv m->_):=λw' j=>Boxed.living (w':=w') o g w.heap.size j;have aR:Hid (∀(w':World) O P Q R,BoolsAt w' (In w') O m.next.length Q->BoolsAt w' (In w') P m.next.length R->Ca 143 #[O,P] w' λe w2=>∃u,e=returned u/\BoolsAt w2 (In w2) u m.next.length (qN Q R)/\Grew w' w2):=by
  intro w' O P Q R ar ac;refine(zCm w' O P m.next.length Q R ar ac g.most).mono ?_;rintro e w2 ⟨u,rfl,ad,S⟩;exact⟨u,rfl,ad.at g.one,S⟩
 have aS:Hid (∀w' d k,Boxed w w' w.heap.size b rv m->BoolsAt w' (In w') d m.next.length k->Ca 145 #[agg #[b,rv,iX m.start],d] w' λe w2=>∃u f,e=returned u/\BoolsAt w2 (In w2) u m.next.length f/\Boxed w w2 w.heap.size b rv m/\Grew w' w2):=by
  intro w' d k j ac;refine(zEV w' b rv d m (o.grown j.keep) g k ac).mono ?_;rintro e w2 ⟨u,f,rfl,ad,S⟩;exact⟨u,f,rfl,ad.at g.one,j.grown S,S⟩
 have ae:Hid (∀w' s d gv k af,s<m.next.length->Boxed w w' w.heap.size b rv m->BoolsAt w' (In w') d m.next.length k->BoolsAt w' (In w') gv m.next.length af->_):=λw' s d gv k af au j aT aU=>Boxed.way (w':=w') (gv:=gv) o g w.heap.size s au k af j aT aU;have aV:Hid (∀w' s,Boxed w w' w.heap.size b rv m->Ca 147 #[agg #[b,rv,iX m.start],iX ((s:Nat):Int)] w' λe w2=>∃r:ByteArray,e=returned (string r)/\r.size<=300/\Grew w' w2):=λw' s j=>zCS w' b rv m (o.grown j.keep) g ab aq E s;have aW:Hid (∀w' s,Boxed w w' w.heap.size b rv m->_):=λw' s j=>Boxed.only (w':=w') o g s w.heap.size j;clear o g aq E;generalize av:m.next.length=n at *
 have bd:Hid (m.next.length=n):=av;clear av;go_enter func105,ntmps105
 refine wp_seq_k ?_;intro aX hK0;have aw:Hid (∀a w,_->aX a w):=hK0;clear hK0;go_wp2_with fail;apply aw.out;clear aw;generalize w.alloc (.cells #[b,rv,iX m.start] 127)=w1 at *;have ag:=F.c0;have ah:=F.c1;have ai:=F.c2;have aY:Hid (Boxed w w1 w.heap.size b rv m):=F;clear F;go_wp2_with (first|(go_at_call 140;refine(aP _ aY).mono ?_;rintro e w2 ⟨bf,rfl,T,G,-⟩;obtain⟨t,v,H,aZ,rfl,-⟩:=id T;have A:=G.c0;have B:=G.c1;have C:=G.c2)|(go_at_call 144;refine(aQ _ G).mono ?_;rintro e bg ⟨lv,rfl,ax,ay,aj⟩)|(go_at_call 143;refine(aR _ _ _ _ _ ax (T.grown aj)).mono ?_;rintro e bh ⟨d,rfl,ak,al⟩;have I:=ay.grown al;have az:=I.c0;have aA:=I.c1;have aB:=I.c2)|(go_at_call 145;refine(aS _ _ _ I ak).mono ?_;rintro e a0 ⟨J,K,rfl,aC,aD,am⟩))
 have a1:Hid (Ra w a0 b rv (slice (some ⟨t,v,none⟩) n H) d J m n (tokF m) (qN zBS (tokF m)) K):=⟨aD,((T.grown aj).grown al).grown am,ak.grown am,aC⟩
 clear A B C az aA aB ag ah ai G ay I aD aj al am ax ak aC T aZ;generalize qN zBS (tokF m)=k at *;generalize tokF m=D at *;go_loopg [29] n (λq i wr=>∃s:Nat,q=n-s/\s<=n/\i=iX (s:Int)/\Ra w wr b rv (slice (some ⟨t,v,none⟩) n H) d J m n D k K)
 case atStart=>exact⟨0,rfl,lX,rfl,a1⟩
 case round=>
  obtain⟨s,an,au,rfl,p⟩:=hrel;have l:Hid (gk=n-s/\Ra w wr b rv (slice (some ⟨t,v,none⟩) n H) d J m n D k K):=⟨an,p⟩
  by_cases E:s<n
  ·have a2:(s:Int)<(n:Int):=by omega
   have ao:cX wr t (v+s)=some (bool (D s)):=by
    obtain⟨bi,bj,bk,_,a3,_,_,a4⟩:=p.ends;injection a3 with L _ _;injection L with L;injection L with L a5;rw[L,a5];exact a4 s E
   have ag:=p.box.c0;have ah:=p.box.c1;have ai:=p.box.c2;clear an p;cases U:D s with
   |false=>
    rw[U] at ao;clear U;go_wp2_with fail;go_roundg (n-(s+1))
    case measure=>rw[l.out.1];omega
    case rel=>exact⟨s+1,rfl,by omega,by go_num,l.2⟩
   |true=>
    rw[U] at ao;clear U;go_wp2_with (first|(go_at_call 146;refine(ae _ s _ _ _ _ E l.2.box l.2.open_ l.2.rounds).mono ?_;rintro e bl ⟨x,at_,rfl,aE,a6,a7,M,aF⟩;have A:=M.c0;have B:=M.c1;have C:=M.c2;have ap:=l.2.grown aF)|(go_at_call 147;refine(aV _ s M).mono ?_;rintro e a8 ⟨a,rfl,V,aG⟩))
    ·go_roundg (n-(s+1))
     case measure=>rw[l.out.1];omega
     case rel=>exact⟨s+1,rfl,by omega,by go_num,ap⟩
    ·have bm:0<=at_:=by omega
     obtain⟨c,rfl⟩:∃c:Nat,at_=(c:Int):=⟨at_.toNat,by omega⟩
     have aH:c<n:=by omega
     have N:=ap.grown aG;have aI:Hid (Ra w a8 b rv (slice (some ⟨t,v,none⟩) n H) d J m n D k K):=N;have az:=N.box.c0;have aA:=N.box.c1;have aB:=N.box.c2;have aJ:Hid (a.size<=300/\x.size<=300):=⟨V,aE⟩
     clear A B C aF aG M ap N ao ag ah ai V aE a6 a7;go_region_held3 (λw'=>cX w' w.heap.size 0=some b/\cX w' w.heap.size 1=some rv/\cX w' w.heap.size 2=some (iX m.start)) (first|exact⟨A,B,C⟩|go_keep) (first|(go_at_call 148;refine(aW _ c aI.drew.box).mono ?_;rintro e bn ⟨bo,rfl,aK,W,aL⟩;have X:=aI.drew.grown aL;have A:=W.c0;have B:=W.c1;have C:=W.c2)|(go_at_call 146;refine(ae _ c _ _ _ _ aH X.box X.open_ aK).mono ?_;rintro e ba ⟨y,bp,rfl,aM,-,-,Y,aN⟩;have A:=Y.c0;have B:=Y.c1;have C:=Y.c2))
     all_goals
      have aO:=X.grown aN;have aa:Hid (Ra w ba b rv (slice (some ⟨t,v,none⟩) n H) d J m n D k K/\y.size<=300):=⟨aO,aM⟩
      clear W aL Y aN aK X aO aM;go_wp2_with (first|(go_at_call 146;refine(ae _ c _ _ _ _ aH aa.1.box aa.1.open_ aa.1.ends).mono ?_;rintro e bq ⟨r,br,rfl,V,-,-,bb,-⟩))
      (try simp only[Exit.inBlock,Exit.then])
      refine gJ (zC2 rfl _ _ _) rfl ?_;exact⟨_,_,_,_,rfl,⟨aJ.1,aJ.2,aa.2,V⟩,bb.keep⟩
  ·have a2:(n:Int)<=(s:Int):=by omega
   clear an p;go_wp2_with fail
   (try simp only[Exit.inBlock,Exit.then])
   refine gJ (zC2 rfl _ _ _) rfl ?_;exact⟨_,_,_,_,rfl,⟨lX,lX,lX,lX⟩,l.2.box.keep⟩
theorem FrontsAt.open_ {w:World}{H a:Nat}{v:Value}{m:Sm}(f:FrontsAt w H v a m)(j:0<a)(k:1<=m.next.length):∃g c,v=slice (qX g) a c/\g<w.heap.size/\∀i,i<a->∃u,w.cell? ⟨g,i,none⟩=some u/\BoolsAt w (In w) u m.next.length (xD m i):=by
 obtain⟨rv,b,l⟩:=f;have b:Row w H 28 v a rv:=b;obtain⟨g,cap,o,r,p,s,t,q,x⟩:=b.get j;exact⟨g,cap,o,p,λi e=>⟨rv i,q i e,(l i e).at k⟩⟩
theorem zJf (w:World)(o rv L:Value)(m:Sm)(F:TblAt w o rv m)(y:m.Tbl)(M:Nat)(V:m.start=(M:Int))(W:M<m.next.length)(ah l:Nat)(X:FrontsAt w ah L l m)(aN:l<=m.next.length):
  Calls prog 106 #[agg #[o,rv,iX m.start],L] w λe w'=>∃a x:ByteArray,e=returned (tuple #[string a,string x])/\(a.size<=300/\x.size<=600)/\Grew w w':=by
 have B:=Boxed.made w o rv m;have aO:=y.most;have ai:=y.one;have aj:Hid (∀w' v f,Boxed w w' w.heap.size o rv m->BoolsAt w' (In w') v m.next.length f->Ca 141 #[agg #[o,rv,iX m.start],v] w' λe w2=>∃u,e=returned u/\BoolsAt w2 (In w2) u m.next.length (yR m f)/\Boxed w w2 w.heap.size o rv m/\Grew w' w2):=by
  intro w' v f p N;refine(zCp w' o rv v m (F.grown p.keep) y f N).mono ?_;rintro e w2 ⟨u,rfl,O,A⟩;exact⟨u,rfl,O.at y.one,p.grown A,A⟩
 have ak:Hid (∀w' v f,BoolsAt w' (In w') v m.next.length f->_):=λw' v f p=>zD9 w' v m.next.length f p y.most
 have al:Hid (∀w' v f to,Boxed w w' w.heap.size o rv m->BoolsAt w' (In w') v m.next.length f->Ca 149 #[agg #[o,rv,iX m.start],v,iX to] w' λe w2=>∃s b:Nat,s<m.next.length/\b<256/\e=returned (tuple #[iX s,iX b])/\Boxed w w2 w.heap.size o rv m/\Grew w' w2):=by
  intro w' v f to p N;refine(zFT w' o rv v m (F.grown p.keep) y f N to).mono ?_;rintro e w2 ⟨s,b,H,E,rfl,A⟩;exact⟨s,b,H,E,rfl,p.grown A,A⟩
 have am:Hid (∀w' b,b<256->Boxed w w' w.heap.size o rv m->Ca 150 #[iX ((b:Nat):Int)] w' λe w2=>e=returned (string ⟨#[UInt8.ofNat b]⟩)/\Boxed w w2 w.heap.size o rv m/\Grew w' w2):=by
  intro w' b E p;refine(zCE w' b E).mono ?_;rintro e w2 ⟨rfl,A⟩;exact⟨rfl,p.grown A,A⟩
 have an:Hid (∀w' s,Boxed w w' w.heap.size o rv m->Ca 147 #[agg #[o,rv,iX m.start],iX ((s:Nat):Int)] w' λe w2=>∃C:ByteArray,e=returned (string C)/\C.size<=300/\Grew w' w2):=λw' s p=>zCS w' o rv m (F.grown p.keep) y M V W s;clear F y V W;have aP:(l:Int)<=200:=by omega
 by_cases Y:0<l
 ·obtain⟨g,c,rfl,I,aa⟩:=X.open_ Y ai
  have ap:=vl aa;have aQ:¬(l:Int)=0:=by omega
  obtain⟨ab,aq,ar⟩:=aa (l-1) (by omega);have aR:IntKind.i64.wrap ((l:Int)-1)=((l-1:Nat):Int):=by rw[zAP _ (by omega) (by omega)];omega
  have aS:((l-1:Nat):Int)<(l:Int):=by omega
  go_in;apply wp_cut;intro aT au;go_wp2;apply au.out;generalize w.alloc (.cells #[o,rv,iX m.start] 127)=w1 at *;have ac:=B.c0;have ad:=B.c1;have ae:=B.c2;have av:=zA aq I B.keep;have P:Hid (Boxed w w1 w.heap.size o rv m/\BoolsAt w1 (In w1) ab m.next.length (xD m (l-1))):=⟨B,ar.grown B.keep⟩
  go_wp2;go_region_held3 (λw'=>cX w' w.heap.size 0=some o/\cX w' w.heap.size 1=some rv/\cX w' w.heap.size 2=some (iX m.start)/\cX w' g (l-1)=some ab) (first|exact⟨Q,R,S,T⟩|go_keep) (first|(go_at_call 141;refine(aj _ _ _ P.1.drew P.2).mono ?_;rintro e w2 ⟨u,rfl,O,J,aw⟩;have Q:=J.c0;have R:=J.c1;have S:=J.c2;have T:=zA (w:=w1.drew) av (lZ I P.1.keep.size) aw));have af:Hid (Boxed w w2 w.heap.size o rv m/\BoolsAt w2 (In w2) u m.next.length (yR m (xD m (l-1)))):=⟨J,O⟩
  go_wp2_with (first|(go_at_call 142;refine(ak _ _ _ af.2).mono ?_;rintro e aU ⟨rfl,rfl⟩))
  go_loopg [7,8,9] l (λq at_ ax i wr=>∃(j:Nat) (x:Int) (C:ByteArray),q=j/\j<=l/\i=iX ((j:Int)-1)/\at_=iX x/\(j<l->∃s:Nat,x=(s:Int))/\ax=string C/\C.size+j<=l/\Boxed w wr w.heap.size o rv m)
  case atStart=>exact⟨l,_,_,rfl,lQ,(by congr 1;omega),rfl,λp=>absurd p (Nat.lt_irrefl _),rfl,by show 0+l<=l;omega,af.1⟩
  case round=>
   obtain⟨j,x,C,ay,aV,rfl,rfl,ag,rfl,aW,t⟩:=hrel;have K:Hid (gk=j/\(j<l->∃s:Nat,x=(s:Int))/\Boxed w wr w.heap.size o rv m):=⟨ay,ag,t⟩
   cases j with
   |zero=>
    obtain⟨s,H⟩:=ag Y;subst H;have ac:=t.c0;have ad:=t.c1;have ae:=t.c2;go_wp2_with (first|(go_at_call 147;refine(an _ s K.2.2).mono ?_;rintro e az ⟨a,rfl,aA,U⟩;have D:=K.2.2.grown U))
    go_ret2
    exact⟨_,_,rfl,⟨aA,by rw[ByteArray.size_append];omega⟩,D.keep⟩
   |succ k=>
    have aB:k<l:=by omega
    have aX:(k:Int)<(l:Int):=by omega
    have aY:(0:Int)<=(k:Int):=by omega
    obtain⟨aC,aD,aE⟩:=ap k aB;have aF:=zA aD I t.keep;have aG:=vl <| aE.grown t.keep;have ac:=t.c0;have ad:=t.c1;have ae:=t.c2;have aH:=lZ I t.keep.size;have aI:(((k+1:Nat):Int)-1)=(k:Int):=by omega
    rw[aI];go_wp2;go_region_held3 (λw'=>cX w' w.heap.size 0=some o/\cX w' w.heap.size 1=some rv/\cX w' w.heap.size 2=some (iX m.start)/\cX w' g k=some aC) (first|exact⟨Q,R,S,T⟩|go_keep) (first|(go_at_call 149;refine(al _ _ _ _ K.2.2.drew aG).mono ?_;rintro e az ⟨s,b,H,E,rfl,D,U⟩;have Q:=D.c0;have R:=D.c1;have S:=D.c2;have T:=zA (w:=wr.drew) aF aH U))
    all_goals
     have aJ:=vl D;go_wp2_with (first|(go_at_call 150;refine(am _ b E aJ).mono ?_;rintro e aZ ⟨rfl,aK,-⟩;have a0:(⟨#[UInt8.ofNat b]⟩:ByteArray).size=1:=rfl))
     go_roundg k
     case measure=>rw[K.out.1];omega
     case rel=>exact⟨k,_,_,rfl,by omega,rfl,rfl,λ_=>⟨s,rfl⟩,rfl,by rw[ByteArray.size_append];omega,aK⟩
 ·have aL:l=0:=by omega
  subst aL;obtain⟨ao,cap,rfl⟩:∃ao cap,L=slice ao 0 cap:=by
   obtain⟨r,aM,_⟩:=X;exact zI aM
  go_in;go_wp2;go_ret2
  exact⟨_,_,rfl,⟨lX,lX⟩,B.keep⟩
structure Zm (w:World)(r:Nat):Prop where
 lt:r<w.heap.size
 block:w.heap[r]? =some (.cells #[int i64 0,int i64 0,string ⟨#[]⟩,string ⟨#[]⟩,string ⟨#[]⟩,string ⟨#[]⟩,string ⟨#[]⟩] 139)
theorem Zm.grown {w w':World}{r:Nat}(a:Zm w r)(b:Grew w w'):Zm w' r:=⟨lZ a.lt b.size,(b.block r a.lt (kJ a.lt)).trans a.block⟩
theorem Zm.cells {w:World}{r:Nat}(a:Zm w r):(w.cell? ⟨r,0,none⟩=some (iX 0)/\w.cell? ⟨r,1,none⟩=some (iX 0)/\w.cell? ⟨r,2,none⟩=some (string ⟨#[]⟩)/\w.cell? ⟨r,3,none⟩=some (string ⟨#[]⟩)/\w.cell? ⟨r,4,none⟩=some (string ⟨#[]⟩)/\w.cell? ⟨r,5,none⟩=some (string ⟨#[]⟩)/\w.cell? ⟨r,6,none⟩=some (string ⟨#[]⟩))/\(w.frozen? ⟨r,0,none⟩=false/\w.frozen? ⟨r,1,none⟩=false/\w.frozen? ⟨r,2,none⟩=false/\w.frozen? ⟨r,3,none⟩=false/\w.frozen? ⟨r,4,none⟩=false/\w.frozen? ⟨r,5,none⟩=false/\w.frozen? ⟨r,6,none⟩=false):=by
 refine⟨⟨?_,?_,?_,?_,?_,?_,?_⟩,?_,?_,?_,?_,?_,?_,?_⟩
 all_goals first|(unfold cell?;rw[a.block];rfl)|(unfold frozen?;rw[a.block];rfl)
theorem zEK (w:World)(K rv:Value)(m:Sm)(p:TblAt w K rv m)(q:m.Tbl)(t:Nat)(C:m.start=(t:Int))(D:t<m.next.length):
  Calls prog 67 #[agg #[K,rv,iX m.start]] w λe w'=>∃a b x y u:ByteArray,e=returned (agg #[iX m.next.length,iX (xV m),string a,string b,string x,string y,string u])/\Grew w w':=by
 have am:=q.most;obtain⟨g,i,rfl,_⟩:=id p.next
 obtain⟨w1,L,k⟩:∃w1,w1=(w.alloc (.cells #[slice g m.next.length i,rv,iX m.start] 127)).alloc (.cells #[iX 0,iX 0,string ⟨#[]⟩,string ⟨#[]⟩,string ⟨#[]⟩,string ⟨#[]⟩,string ⟨#[]⟩] 139)/\Hid (Boxed w w1 w.heap.size (slice g m.next.length i) rv m/\Zm w1 (w.heap.size+1)):=by
  have Q:=Boxed.made w (slice g m.next.length i) rv m;refine⟨_,rfl,Q.grown (kZ _ _ lQ),⟨by simp,?_⟩⟩;have l:=gY (w.alloc (.cells #[slice g m.next.length i,rv,iX m.start] 127)) (.cells #[iX 0,iX 0,string ⟨#[]⟩,string ⟨#[]⟩,string ⟨#[]⟩,string ⟨#[]⟩,string ⟨#[]⟩] 139);simpa using l
 have R:Hid (∀w',Boxed w w' w.heap.size (slice g m.next.length i) rv m->_):=λw' l=>zFn w' _ rv m (p.grown l.keep) q;have S:Hid (∀w',Boxed w w' w.heap.size (slice g m.next.length i) rv m->_):=λw' l=>zDw w' _ rv m (p.grown l.keep) q t C D;have T:Hid (∀w' E F f,Boxed w w' w.heap.size (slice g m.next.length i) rv m->FrontsAt w' F E f m->f<=m.next.length->_):=λw' E F f l A s=>zJf w' _ rv E m (p.grown l.keep) q t C D F f A s;clear p q C D;go_in;apply wp_cut;intro ao U;go_wp2;apply U.out;rw[<-L];clear L;have M:=k.1.c0;have N:=k.1.c1;have O:=k.1.c2;apply wp_cut;intro ap P;go_wp2_with (first|(go_at_call 104;refine(R _ k.1).mono ?_;rintro e w2 ⟨B,V⟩;rcases V with⟨s,rfl⟩|⟨f,v,s,W,rfl,A⟩))
 ·apply P.out
  have j:=k.1.grown B;have H:=k.2.grown B;have M:=j.c0;have N:=j.c1;have O:=j.c2;have c:Hid (Boxed w w2 w.heap.size (slice g m.next.length i) rv m/\Zm w2 (w.heap.size+1)/\xV m=-1):=⟨j,H,s⟩
  go_wp2_with (first|(go_at_call 105;refine(S _ c.1).mono ?_;rintro e X ⟨a,x,y,u,rfl,-,o⟩;obtain⟨⟨c0,c1,c2,Y,aa,ab,ac⟩,ad,ae,af,ag,ah,ai,aj⟩:=(c.2.1.grown o).cells;have ak:=(c.1.grown o).c0;have I:=vl <| (c.1.grown o).keep))
  refine gJ (v:=agg #[iX m.next.length,iX (-1),string a,string ⟨#[]⟩,string x,string y,string u]) (by simp[results,results67,go_sem, *]) rfl ⟨a,⟨#[]⟩,x,y,u,by rw[c.out.2.2],?_⟩;refine I.trans ?_
  iterate 6 refine Keep.trans ?_ (zP _ _ _ _ (by omega))
  exact zP _ _ _ _ (by omega)
 ·apply P.out
  have j:=k.1.grown B;have H:=k.2.grown B;have M:=j.c0;have N:=j.c1;have O:=j.c2;obtain⟨J,cv,rfl⟩:∃J cv,v=slice J f cv:=by
   obtain⟨r,al,_⟩:=A;exact zI al
  have c:Hid (Boxed w w2 w.heap.size (slice g m.next.length i) rv m/\Zm w2 (w.heap.size+1)/\xV m=(f:Int)/\FrontsAt w2 w1.heap.size (slice J f cv) f m):=⟨j,H,s,A⟩
  go_wp2_with (first|(go_at_call 106;refine(T _ _ _ f c.1 c.2.2.2 W).mono ?_;rintro e X ⟨a,x,rfl,-,o⟩;obtain⟨⟨c0,c1,c2,Y,aa,ab,ac⟩,ad,ae,af,ag,ah,ai,aj⟩:=(c.2.1.grown o).cells;have ak:=(c.1.grown o).c0;have I:=vl <| (c.1.grown o).keep))
  refine gJ (v:=agg #[iX m.next.length,iX (f:Int),string a,string x,string ⟨#[]⟩,string ⟨#[]⟩,string ⟨#[]⟩]) (by simp[results,results67,go_sem, *]) rfl ⟨a,x,⟨#[]⟩,⟨#[]⟩,⟨#[]⟩,by rw[c.out.2.2.1],?_⟩;refine I.trans ?_
  iterate 6 refine Keep.trans ?_ (zP _ _ _ _ (by omega))
  exact zP _ _ _ _ (by omega)
section
def OwnB (w:World)(H:Nat)(v:Value)(l:List Bool):Prop:=w.ownsRow H 4 1 v l.length (l.map λx=>bool x)
theorem OwnB.form {w:World}{H:Nat}{v:Value}{l:List Bool}(b:OwnB w H v l):∃ao cap,v=slice ao l.length cap:=zI b
theorem OwnB.snoc {w:World}{H g cap:Nat}{l:List Bool}{x:Bool}(b:w.ownsRow H 4 1 (slice (qX g) (l.length+1) cap) (l.length+1) ((l.map λx=>bool x)++[bool x])):OwnB w H (slice (qX g) (l.length+1) cap) (l++[x]):=by
 unfold OwnB;rw[kX,List.map_append];exact b
theorem zT {w1 w2:World}{o:Obj}{H e b m:Nat}{u v:Value}{c:List Value}(d:(w1.alloc o).grownBy w2 v.ownBlock)(f:w1.ownsRow H e b u m c)(i:∀g,u.ownBlock=some g->some g≠v.ownBlock):w2.ownsRow H e b u m c:=
 zF f λk _ j l=>(d.block k (by simp;omega) (i k l)).trans (lG _ _ _ j)
theorem zY {w:World}{H e b m p i:Nat}{u x:Value}{c:List Value}(d:w.ownsRow H e b u m c)(f:p<H):(w.setCell ⟨p,i,none⟩ x).ownsRow H e b u m c:=
 zF d λk g _ _=>lJ _ _ _ _ (by show k≠p;omega)
structure Rp (w wr:World)(mv sv ev:Value)(k:Nat)(xs:List Value)(sl el:List Bool)(a:Int):Prop where
 res:wr.heap[w.heap.size]? =some (.cells #[slice none 0 0,slice none 0 0,slice none 0 0,int i64 0,bool false,int i64 0] 30)
 blk:wr.heap[w.heap.size+1]? =some (.cells #[mv,sv,ev,int i64 a,bool false,int i64 0] 30)
 modes:wr.ownsRow (w.heap.size+2) 139 7 mv k xs
 shad:OwnB wr (w.heap.size+2) sv sl
 emp:OwnB wr (w.heap.size+2) ev el
 ne:∀g,sv.ownBlock=some g->some g≠ev.ownBlock
 keep:Grew w wr
 lt:w.heap.size+2<=wr.heap.size
section
variable {w wr w2:World} {mv sv ev:Value} {k:Nat} {xs:List Value} {sl el:List Bool} {a:Int}
theorem Rp.grown (b:Rp w wr mv sv ev k xs sl el a)(c:Grew wr w2):Rp w w2 mv sv ev k xs sl el a:=by
 have:=b.lt;exact⟨(c.block _ (by omega) (by omega)).trans b.res,(c.block _ (by omega) (by omega)).trans b.blk,zL b.modes c,zL b.shad c,zL b.emp c,b.ne,b.keep.trans (c.lower (by omega) (by omega)),lY b.lt c.size⟩
theorem Rp.drew (b:Rp w wr mv sv ev k xs sl el a):Rp w wr.drew mv sv ev k xs sl el a:=b.grown (Keep.drew _)
theorem Rp.cells (b:Rp w wr mv sv ev k xs sl el a):(wr.cell? ⟨w.heap.size+1,0,none⟩=some mv/\wr.cell? ⟨w.heap.size+1,1,none⟩=some sv/\wr.cell? ⟨w.heap.size+1,2,none⟩=some ev/\wr.cell? ⟨w.heap.size+1,3,none⟩=some (iX a)/\wr.cell? ⟨w.heap.size+1,4,none⟩=some (bool false)/\wr.cell? ⟨w.heap.size+1,5,none⟩=some (iX 0))/\(∀i,wr.frozen? ⟨w.heap.size+1,i,none⟩=false):=by
 refine⟨⟨?_,?_,?_,?_,?_,?_⟩,λi=>?_⟩
 all_goals first|(unfold cell?;rw[b.blk];rfl)|(unfold frozen?;rw[b.blk];simp[World.frozen?])
theorem Rp.modes_app {o:Obj}{g cap:Nat}{f:List Value}(b:Rp w wr mv sv ev k xs sl el a)(i:w2.ownsRow (w.heap.size+2) 139 7 (slice (qX g) (k+1) cap) (k+1) (xs++f))(c:(wr.alloc o).grownBy w2 mv.ownBlock):
  Rp w (w2.setCell ⟨w.heap.size+1,0,none⟩ (slice (qX g) (k+1) cap)) (slice (qX g) (k+1) cap) sv ev (k+1) (xs++f) sl el a:=by
 have l:=b.lt;have d:∀j,j<w.heap.size+2->w2.heap[j]? =wr.heap[j]? :=λj m=>(c.block j (by simp;omega) λe=>by have:=(b.modes.lt j e.symm).1;omega).trans (lG _ _ _ (by omega));have p:=(d (w.heap.size+1) (by omega)).trans b.blk;refine⟨(lJ _ _ _ _ (by show w.heap.size≠w.heap.size+1;omega)).trans ((d _ (by omega)).trans b.res),?_,zY i (by omega),zY (zT c b.shad λg c=>xO b.shad b.modes (by decide) c) (by omega),zY (zT c b.emp λg c=>xO b.emp b.modes (by decide) c) (by omega),b.ne,?_,?_⟩
 ·simp[setCell,lU,p]
 ·exact(b.keep.trans ⟨c.os,c.output,lY (by simp) c.size,λj m _=>d j (by omega)⟩).trans (zP _ _ _ _ (by omega))
 ·rw[zC];exact lY l (lY (by simp) c.size)
theorem Rp.shad_app {o:Obj}{g cap:Nat}{x:Bool}(b:Rp w wr mv sv ev k xs sl el a)(i:w2.ownsRow (w.heap.size+2) 4 1 (slice (qX g) (sl.length+1) cap) (sl.length+1) ((sl.map λx=>bool x)++[bool x]))(c:(wr.alloc o).grownBy w2 sv.ownBlock)(l:sv.ownBlock=some g\/wr.heap.size<=g):
  Rp w (w2.setCell ⟨w.heap.size+1,1,none⟩ (slice (qX g) (sl.length+1) cap)) mv (slice (qX g) (sl.length+1) cap) ev k xs (sl++[x]) el a:=by
 have m:=b.lt;have d:∀j,j<w.heap.size+2->w2.heap[j]? =wr.heap[j]? :=λj p=>(c.block j (by simp;omega) λe=>by have:=(b.shad.lt j e.symm).1;omega).trans (lG _ _ _ (by omega));have q:=(d (w.heap.size+1) (by omega)).trans b.blk;refine⟨(lJ _ _ _ _ (by show w.heap.size≠w.heap.size+1;omega)).trans ((d _ (by omega)).trans b.res),?_,zY (zT c b.modes λg c=>xO b.modes b.shad (by decide) c) (by omega),?_,zY (zT c b.emp λg c e=>b.ne g e.symm c.symm) (by omega),?_,?_,?_⟩
 ·simp[setCell,lU,q]
 ·exact zY (OwnB.snoc i) (by omega)
 ·intro r s e
  have t:g=r:=by simpa[Value.ownBlock] using s
  subst t;rcases l with f|f
  ·exact b.ne g f e
  ·have:=(b.emp.lt g e.symm).2
   omega
 ·exact(b.keep.trans ⟨c.os,c.output,lY (by simp) c.size,λj p _=>d j (by omega)⟩).trans (zP _ _ _ _ (by omega))
 ·rw[zC];exact lY m (lY (by simp) c.size)
theorem Rp.emp_app {o:Obj}{g cap:Nat}{x:Bool}(b:Rp w wr mv sv ev k xs sl el a)(m:w2.ownsRow (w.heap.size+2) 4 1 (slice (qX g) (el.length+1) cap) (el.length+1) ((el.map λx=>bool x)++[bool x]))(c:(wr.alloc o).grownBy w2 ev.ownBlock)(p:ev.ownBlock=some g\/wr.heap.size<=g):
  Rp w (w2.setCell ⟨w.heap.size+1,2,none⟩ (slice (qX g) (el.length+1) cap)) mv sv (slice (qX g) (el.length+1) cap) k xs sl (el++[x]) a:=by
 have q:=b.lt;have d:∀j,j<w.heap.size+2->w2.heap[j]? =wr.heap[j]? :=λj r=>(c.block j (by simp;omega) λe=>by have:=(b.emp.lt j e.symm).1;omega).trans (lG _ _ _ (by omega));have s:=(d (w.heap.size+1) (by omega)).trans b.blk;refine⟨(lJ _ _ _ _ (by show w.heap.size≠w.heap.size+1;omega)).trans ((d _ (by omega)).trans b.res),?_,zY (zT c b.modes λg c=>xO b.modes b.emp (by decide) c) (by omega),zY (zT c b.shad λg c=>b.ne g c) (by omega),?_,?_,?_,?_⟩
 ·simp[setCell,lU,s]
 ·exact zY (OwnB.snoc m) (by omega)
 ·intro f i e
  have t:f=g:=by simpa[Value.ownBlock] using e
  subst t;rcases p with l|l
  ·exact b.ne f i l.symm
  ·have:=(b.shad.lt f i).2
   omega
 ·exact(b.keep.trans ⟨c.os,c.output,lY (by simp) c.size,λj r _=>d j (by omega)⟩).trans (zP _ _ _ _ (by omega))
 ·rw[zC];exact lY q (lY (by simp) c.size)
theorem Rp.ahead (b:Rp w wr mv sv ev k xs sl el a)(c:Int):Rp w (wr.setCell ⟨w.heap.size+1,3,none⟩ (iX c)) mv sv ev k xs sl el c:=by
 have d:=b.blk;have:=b.lt;exact⟨(lJ _ _ _ _ (by show w.heap.size≠w.heap.size+1;omega)).trans b.res,by simp[setCell,lU,d],zY b.modes (by omega),zY b.shad (by omega),zY b.emp (by omega),b.ne,b.keep.trans (zP _ _ _ _ (by omega)),by rw[zC];omega⟩
end
end
end Go.Proofs.YtbjcfkdnjaiclaaGreat
