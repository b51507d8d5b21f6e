import Derived.Deep.LoopGhost
import Derived.Deep.RegionWith
import Derived.Laws.IdiomStrings
import Derived.Laws.MakeOwn
import Derived.Laws.OwnMore
import Derived.StillTactics
import Derived.Test.YtbjcfkdnjaiclaaGreatS0
import Derived.Test.YtbjcfkdnjaiclaaGreatS2
import Derived.Test.YtbjcfkdnjaiclaaGreatS3
/- Parts of the proof. -/
set_option linter.unusedVariables false
set_option linter.unusedSimpArgs false
set_option maxHeartbeats 4000000
set_option maxRecDepth 100000
namespace Go.Proofs.YtbjcfkdnjaiclaaGreat
open Go.RowKit Go.Proofs.Tryz Go.World
open Go.Value (int slice bool pointer string agg tuple)
open Go.IntKind (i64)
open Go.Ending (returned)
def OwnF (w:World)(H:Nat)(v:Value)(n:Nat)(f:Nat->Bool):Prop:=w.ownsRow H 4 1 v n ((List.range n).map λi=>bool (f i))
theorem OwnF.nil (w:World)(H:Nat)(f:Nat->Bool):OwnF w H (slice none 0 0) 0 f:=ownsRow_nil _ _ _ _
theorem OwnF.snoc {w:World}{H g cap n:Nat}{f:Nat->Bool}{x:Bool}(a:w.ownsRow H 4 1 (slice (qX g) (n+1) cap) (n+1) ((List.range n).map (λi=>bool (f i))++[bool x]))(b:f n=x):OwnF w H (slice (qX g) (n+1) cap) (n+1) f:=by
 unfold OwnF;rw[xP,b];exact a
theorem OwnF.form {w:World}{H n:Nat}{v:Value}{f:Nat->Bool}(a:OwnF w H v n f):∃ao cap,v=slice ao n cap:=zE a
def Tb.more (t:Tb)(k:Nat)(l:Nat->Bool)(x:Nat):Bool:=t.willEnd (x%t.nst) (x/(k*t.nst)) λto=>l (x%(k*t.nst)/t.nst*t.nst+to)
theorem zO8 (t:Tb)(k:Nat)(l:Nat->Bool)(a i s:Nat)(m:i<k)(b:s<t.nst):t.more k l (a*(k*t.nst)+i*t.nst+s)=t.willEnd s a λto=>l (i*t.nst+to):=by
 have e:0<t.nst:=by omega
 have c:i*t.nst+s<k*t.nst:=by
  have:=Nat.mul_le_mul_right t.nst (show i+1<=k by omega);rw[Nat.add_mul] at this;omega
 have f:(a*(k*t.nst)+i*t.nst+s)%t.nst=s:=by
  rw[Nat.add_assoc,Nat.mul_comm k,<-Nat.mul_assoc,Nat.mul_comm a,Nat.mul_assoc,Nat.mul_comm i,<-Nat.add_assoc,<-Nat.mul_add,Nat.mul_add_mod];exact Nat.mod_eq_of_lt b
 have g:(a*(k*t.nst)+i*t.nst+s)/(k*t.nst)=a:=by
  rw[Nat.add_assoc,Nat.mul_comm a,Nat.mul_add_div (by omega),Nat.div_eq_of_lt c];omega
 have h:(a*(k*t.nst)+i*t.nst+s)%(k*t.nst)=i*t.nst+s:=by
  rw[Nat.add_assoc,Nat.mul_comm a,Nat.mul_add_mod,Nat.mod_eq_of_lt c]
 have j:(i*t.nst+s)/t.nst=i:=by
  rw[Nat.mul_comm i,Nat.mul_add_div e,Nat.div_eq_of_lt b];omega
 unfold Tb.more;rw[f,g,h,j]
theorem zDO (p:Nat)(w:World)(S:Nat->Prop)(t:Tb)(F:TabN w S p t)(I:∀k,S k->k<w.heap.size)(ok:t.OkN)(af:1<=t.nst)(k:Nat)(ag:1<=k)(l:Nat->Bool)(b o cap:Nat)(ah:S b)(ai:∀i,i<k*t.nst->w.cell? ⟨b,o+i,none⟩=some (bool (l i)))(aR:k*t.nst<=cap)(aS:cap<=maxLen)(aT:(t.count+1)*(k*t.nst)<=800000):
  Calls prog 102 #[pX p,slice (some ⟨b,o,none⟩) (k*t.nst) cap] w λe w'=>∃u,e=returned u/\OwnF w' w.heap.size u ((t.count+1)*(k*t.nst)) (t.more k l)/\Grew w w':=by
 obtain⟨aj,ak,al,am,an⟩:=info_parts vO;have ap:=vl F;have aq:=vl ai;have J:=I p F.safe;have ar:=I b ah;have au:=F.c7;obtain⟨_,P,av,aw,ax,aU,rfl,aV,aW,_⟩:=F.c8;have ay:Hid (∀a i s,i<k->s<t.nst->t.more k l (a*(k*t.nst)+i*t.nst+s)=t.willEnd s a λto=>l (i*t.nst+to)):=λa i s=>zO8 t k l a i s;have aX:Hid (k*t.nst=k*t.nst):=rfl;have aY:=ok.count;have aZ:=ok.nst;have az:Hid t.OkN:=ok;have a0:=Nat.mul_pos ag af;generalize aA:k*t.nst=c at *;generalize a1:t.more k l=f at *;generalize aB:t.nst=n at *;generalize aC:t.count=cnt at *;have Q:=vl aA;have L:=vl aB;have aD:=vl aC;have a2:c<=800000:=by
  have:=Nat.mul_le_mul_right c (show 1<=cnt+1 by omega);omega
 go_in;go_wp2;go_loopg [5,6] (cnt+1) (λq B i wr=>∃a D:Nat,q=cnt+1-a/\a<=cnt+1/\i=iX (a:Int)/\D=a*c/\OwnF wr w.heap.size B D f/\Grew w wr)
 case atStart=>exact⟨0,0,rfl,lX,rfl,(Nat.zero_mul _).symm,OwnF.nil _ _ _,Keep.refl _ _ _⟩
 case round=>
  obtain⟨a,D,v,a3,rfl,G,g,j⟩:=hrel;have y:Hid (gk=cnt+1-a/\D=a*c/\OwnF wr w.heap.size u5 D f/\Grew w wr):=⟨v,G,g,j⟩
  have a4:=(gZ (j.block p J (by omega))).trans au;obtain⟨ao,z,C⟩:=g.form;subst C;by_cases aE:a<=cnt
  ·have aF:(a:Int)<=(cnt:Int):=by omega
   have a5:D+c<=(cnt+1)*c:=by
    have:=Nat.mul_le_mul_right c (show a+1<=cnt+1 by omega);rw[Nat.add_mul] at this;omega
   clear v G g j;go_wp2;go_loopg [5,7] k (λq B i wr=>∃r fr:Nat,q=k-r/\r<=k/\i=iX (fr:Int)/\fr=r*n/\OwnF wr w.heap.size B (D+fr) f/\Grew w wr)
   case atStart=>exact⟨0,0,rfl,lX,rfl,(Nat.zero_mul _).symm,y.2.2.1,y.2.2.2⟩
   case round=>
    obtain⟨r,fr,v,a6,rfl,H,g,j⟩:=hrel;have A:Hid (gk=k-r/\fr=r*n/\OwnF wr w.heap.size u5 (D+fr) f/\Grew w wr):=⟨v,H,g,j⟩
    have R:=(gZ (j.block p J (by omega))).trans P;obtain⟨ao,z,C⟩:=g.form;subst C;by_cases aG:r<k
    ·have M:fr+n<=c:=by
      have:=Nat.mul_le_mul_right n (show r+1<=k by omega);rw[Nat.add_mul,Q.out] at this;omega
     have aH:(fr:Int)<(c:Int):=by omega
     have a7:(fr:Int)+(n:Int)<=(c:Int):=by omega
     have a8:(c:Int)<=(cap:Int):=by omega
     clear v H g j;go_wp2_with fail;rw[Nat.add_sub_cancel_left];clear R;go_loopg [5,44] n (λq B i wr=>∃s:Nat,q=n-s/\s<=n/\i=iX (s:Int)/\OwnF wr w.heap.size B (D+fr+s) f/\Grew w wr)
     case atStart=>exact⟨0,rfl,lX,rfl,A.2.2.1,A.2.2.2⟩
     case round=>
      obtain⟨s,v,a9,rfl,g,j⟩:=hrel;have N:Hid (gk=n-s/\Grew w wr):=⟨v,j⟩
      obtain⟨ao,z,C⟩:=g.form;subst C;have aI:w.heap.size<=wr.heap.size:=j.size;have T:Hid (wr.ownsRow w.heap.size 4 1 (slice ao (D+fr+s) z) (D+fr+s) ((List.range (D+fr+s)).map λi=>bool (f i))):=g;by_cases U:s<n
      ·have aJ:(s:Int)<(n:Int):=by omega
       have aK:Hid (Ca 139 #[pX p,iX s,iX a,slice (some ⟨b,o+fr,none⟩) n (cap-fr)] wr λe w'=>e=returned (bool (t.willEnd s a λto=>l (fr+to)))/\w'=wr):=by
        have V:∀x,x<w.heap.size->wr.heap[x]? =w.heap[x]? :=λx O=>j.block x O (by omega);have m:=zGO p wr S t (ap.keep λx O=>V x (I x O)) az s a (by rw[L.out];exact U) (by rw[aD.out];exact aE) b (o+fr) (cap-fr) (λto=>l (fr+to)) (by
         intro i aL;rw[L.out] at aL;rw[World.cell?_of_block (V b ar),Nat.add_assoc];exact aq (fr+i) (by omega))
        rw[L.out] at m;exact m
       have aM:Hid (f (D+fr+s)=t.willEnd s a λto=>l (fr+to)):=by
        have m:=ay a r s aG U;rw[<-y.out.2.1,<-A.out.2.1] at m;exact m
       clear v g j;generalize (t.willEnd s a λto=>l (fr+to))=x at *;go_wp2_with fail;refine aK.mono ?_;rintro e w1 ⟨rfl,rfl⟩;go_wp2_with (first|(at_builtin;refine wpList_append_lies _ rfl _ _ 28 rfl (w.heap.size) 4 aj (bool false) 1 1 underlying28 ak al am an rfl (by decide) _ _ _ rfl (T.alloc _) ⟨w1.heap.size,0,none⟩ 1 1 [bool x] rfl rfl (cell_one_new _ _ _) (by intro u W;simp at W;subst W;rfl) (by decide) (by unfold maxLen;omega) (by omega) (by simp;omega) _ rfl ?_;intro aN aO w2 X Y ba bb;have aa:=xF T Y aI))
       have ab:Hid (OwnF w2 w.heap.size (slice (qX aN) (D+fr+s+1) aO) (D+fr+s+1) f/\Grew w w2):=⟨OwnF.snoc X aM,N.2.trans (xD aa)⟩
       clear X Y aa;go_wp2_with fail;go_roundg (n-(s+1))
       case measure=>rw[N.out.1];omega
       case rel=>exact⟨s+1,rfl,by omega,by go_num,ab.1,ab.2⟩
      ·have aJ:(n:Int)<=(s:Int):=by omega
       have ac:s=n:=by omega
       have E:Hid (OwnF wr w.heap.size (slice ao (D+fr+s) z) (D+(fr+n)) f):=by
        have m:=g;rw[ac] at m ⊢;rw[Nat.add_assoc] at m;rw[Nat.add_assoc];exact m
       have aP:Hid (fr+n=(r+1)*n):=by show _=_;rw[A.out.2.1,Nat.add_mul];omega
       have R:cX wr p 8=some (slice (some ⟨av,aw,none⟩) n ax):=(gZ (j.block p J (by omega))).trans P;clear v g j ac;go_wp2_with fail;go_roundg (k-(r+1))
       case measure=>rw[A.out.1];omega
       case rel=>exact⟨r+1,fr+n,rfl,by omega,by go_num,aP,E,N.2⟩
    ·have ad:r=k:=by omega
     have M:fr=c:=by rw[H,ad];exact Q
     have aH:(c:Int)<=(fr:Int):=by omega
     have E:Hid (OwnF wr w.heap.size (slice ao (D+fr) z) (D+c) f):=by
      have m:=g;rw[M] at m ⊢;exact m
     have aQ:Hid (D+c=(a+1)*c):=by show _=_;rw[y.out.2.1,Nat.add_mul];omega
     clear v H g j M ad;go_wp2_with fail;go_roundg (cnt+1-(a+1))
     case measure=>rw[y.out.1];omega
     case rel=>exact⟨a+1,D+c,rfl,by omega,by go_num,aQ,E,A.2.2.2⟩
  ·have ae:a=cnt+1:=by omega
   have aF:(cnt:Int)<(a:Int):=by omega
   have E:Hid (OwnF wr w.heap.size (slice ao D z) ((cnt+1)*c) f):=by
    have m:=g;rw[G,ae] at m ⊢;exact m
   clear v G g j ae;go_wp2_with fail;go_ret;exact⟨_,rfl,E,y.2.2.2⟩
theorem zP {H:Nat}(w:World)(g i:Nat)(x:Value)(a:H<=g):Keep H H w (w.setCell ⟨g,i,none⟩ x):=⟨rfl,rfl,by simp[World.setCell],λk b _=>lJ _ _ _ _ (by show k≠g;omega)⟩
theorem zAL (a:Value)(c:a.cells=#[a])(n:Nat):(madeCells a.cells n).toList=(List.range n).map λ_=>a:=by
 rw[c,toList_madeCells_one];exact(List.eq_replicate_iff.2 ⟨by simp,by intro b d;obtain⟨_,_,e⟩:=List.mem_map.1 d;exact e.symm⟩).symm
def yB (f:Nat->Bool):Nat->Nat->Nat
 |0,_=>0
 |i+1,j=>if f i=true/\j=i/8 then yB f i j+2^(i%8) else yB f i j
theorem zJC (f:Nat->Bool)(i j:Nat)(b:i<=8*j):yB f i j=0:=by
 induction i with
 |zero=>rfl
 |succ i a=>rw[yB,if_neg (by omega),a (by omega)]
theorem zEA (f:Nat->Bool)(i j:Nat)(d:8*j<=i)(g:i<=8*j+8):yB f i j<2^(i-8*j):=by
 induction i with
 |zero=>simp[yB]
 |succ i a=>
  by_cases e:8*j=i+1
  ·rw[zJC f (i+1) j (by omega)]
   exact Nat.pow_pos (by decide)
  ·have k:=a (by omega) (by omega)
   have b:i%8=i-8*j:=by omega
   have c:i+1-8*j=(i-8*j)+1:=by omega
   rw[yB,c,Nat.pow_succ];split
   ·rw[b];omega
   ·omega
theorem zCy (f:Nat->Bool)(i j:Nat):yB f i j<256:=by
 induction i with
 |zero=>simp[yB]
 |succ i a=>
  rw[yB];split
  ·rename_i d
   have b:=zEA f i j (by omega) (by omega);have c:i%8=i-8*j:=by omega
   rw[<-c] at b;have e:2^(i%8)<=2^7:=kG (by decide) (by omega);omega
  ·exact a
theorem zO2 (f:Nat->Bool)(i:Nat):bits BinOp.or IntKind.u8 (yB f i (i/8):Nat) ((2^(i%8):Nat):Int)=((yB f i (i/8)+2^(i%8):Nat):Int):=by
 have b:=zCy f i (i/8);have e:2^(i%8)<=2^7:=kG (by decide) (by omega);have a:=zEA f i (i/8) (by omega) (by omega);have c:i%8=i-8*(i/8):=by omega
 rw[<-c] at a;rw[u8_or_nat _ _ b (by omega),Nat.or_comm]
 congr 1
 rw[Nat.add_comm];have d:=Nat.two_pow_add_eq_or_of_lt a 1;simpa using d.symm
theorem zNY (f:Nat->Bool)(i:Nat):bits BinOp.or IntKind.u8 (yB f i (i/8):Nat) ((2:Int)^(i%8)%256)=((yB f i (i/8)+2^(i%8):Nat):Int):=by
 rw[<-zO2];have b:2^(i%8)<=2^7:=kG (by decide) (by omega);have e:((2:Int)^(i%8)%256)=((2^(i%8):Nat):Int):=by
  have a:((2^(i%8):Nat):Int)=(2:Int)^(i%8):=by simp
  rw[<-a];generalize 2^(i%8)=c at *;omega
 rw[e]
theorem zH5 (w:World)(b o cap n:Nat)(f:Nat->Bool)(z:∀i,i<n->w.cell? ⟨b,o+i,none⟩=some (bool (f i)))(A:b<w.heap.size)(V:1<=n)(W:n<=800000):
  Calls prog 103 #[slice (some ⟨b,o,none⟩) n cap] w λe w'=>∃u,e=returned u/\Row w' w.heap.size 5 u ((n+7)/8) (λj=>int .u8 (yB f n j:Nat))/\Grew w w':=by
 obtain⟨B,C,D,E,F⟩:=info_parts zIp;have G:=vl z;obtain⟨w1,H,I,d⟩:=run_makeSlice_full (P:=prog) w w.heap.size 68 5 B _ 1 underlying68 C D E i64 i64 ((n+7)/8) (by omega) (by rw[F];omega) (by unfold maxLen;omega) lQ;have J:(((n+7)/8:Nat):Int)=((n:Int)+7)/8:=by omega
 rw[J] at H;have s:Hid (Row w1 w.heap.size 5 (slice (qX w.heap.size) ((n+7)/8) ((n+7)/8)) ((n+7)/8) (λj=>int .u8 (yB f 0 j:Nat))/\Grew w w1):=by
  refine⟨?_,⟨d.os,d.output,d.size,λk K _=>d.block k K (by simp)⟩⟩;have l:=I;rw[Nat.mul_one,zAL _ rfl] at l;exact l
 go_in;go_wp2;go_loopg [13] n (λq i wr=>∃j:Nat,q=n-j/\j<=n/\i=iX (j:Int)/\Row wr w.heap.size 5 (slice (qX w.heap.size) ((n+7)/8) ((n+7)/8)) ((n+7)/8) (λk=>int .u8 (yB f j k:Nat))/\Grew w wr)
 case atStart=>exact⟨0,rfl,lX,rfl,s.1,s.2⟩
 case round=>
  obtain⟨j,L,X,rfl,m,t⟩:=hrel;have a:Hid (gk=n-j/\Row wr w.heap.size 5 (slice (qX w.heap.size) ((n+7)/8) ((n+7)/8)) ((n+7)/8) (λk=>int .u8 (yB f j k:Nat))/\Grew w wr):=⟨L,m,t⟩
  by_cases M:j<n
  ·have N:(j:Int)<(n:Int):=by omega
   have v:=(gZ (t.block b A (by omega))).trans (G j M);obtain⟨g,Y,O,aa,ab,ac,ad,Q,R⟩:=m.get (by omega);have S:g=w.heap.size:=by injection O with c _ _;injection c with c;injection c with c;exact c.symm
   subst S;have ae:=Q (j/8) (by omega);have af:=R (j/8);have T:=vl <| zNY f j;have x:Hid (∀k,yB f (j+1) k=if f j=true/\k=j/8 then yB f j k+2^(j%8) else yB f j k):=λk=>rfl;cases p:f j with
   |true=>
    rw[p] at v;have r:Hid (∀k,yB f (j+1) k=if k=j/8 then yB f j k+2^(j%8) else yB f j k):=by
     intro k;rw[x.out k,p];simp
    have ag:(j:Int)/8<((n:Int)+7)/8:=by omega
    have ah:(0:Int)<=(j:Int)/8:=by omega
    go_wp2;go_region;go_wp2;go_roundg (n-(j+1))
    case measure=>rw[a.out.1];omega
    case rel=>
     refine⟨j+1,rfl,by omega,by go_num,?_,a.2.2.trans (Keep.trans (zP _ _ _ _ lQ) (Keep.drew _))⟩;have l:=a.2.1.set (j/8) (int .u8 (bits BinOp.or IntKind.u8 (yB f j (j/8):Nat) ((2:Int)^(j%8)%256)));refine Row.congr (w:=(wr.setCell ⟨w.heap.size,j/8,none⟩ (int .u8 (bits BinOp.or IntKind.u8 (yB f j (j/8):Nat) ((2:Int)^(j%8)%256)))).drew) l λk _=>?_;rw[r.out k,T.out];by_cases e:k=j/8
     ·subst e;simp
     ·simp[e]
   |false=>
    rw[p] at v;have r:Hid (∀k,yB f (j+1) k=yB f j k):=by
     intro k;rw[x.out k,p];simp
    go_wp2;go_roundg (n-(j+1))
    case measure=>rw[a.out.1];omega
    case rel=>exact⟨j+1,rfl,by omega,by go_num,a.2.1.congr λk _=>by rw[r.out k],a.2.2⟩
  ·have y:j=n:=by omega
   have N:(n:Int)<=(j:Int):=by omega
   have U:Hid (Row wr w.heap.size 5 (slice (qX w.heap.size) ((n+7)/8) ((n+7)/8)) ((n+7)/8) (λk=>int .u8 (yB f n k:Nat))):=by rw[<-y];rw[y] at m ⊢;exact m
   go_wp2;go_ret;exact⟨_,rfl,U,a.2.2⟩
theorem zB8 {n a most:Nat}:inB n a most=true↔a<=n/\n<=most:=by unfold inB;simp
theorem zHL (s:ByteArray)(p b n:Nat):toK s p b n=true↔∀i,i<n->p+2*i+1<s.size/\xZ s (p+2*i)<=b-1:=by
 induction n with
 |zero=>simp[toK]
 |succ n c=>
  rw[toK,Bool.and_eq_true,Bool.and_eq_true,c,zB8,decide_eq_true_iff]
  constructor
  ·rintro⟨⟨d,f⟩,_,g⟩ i j
   by_cases e:i=n
   ·subst e;exact⟨f,g⟩
   ·exact d i (by omega)
  ·intro a
   exact⟨⟨λi j=>a i (by omega),(a n (by omega)).1⟩,lX,(a n (by omega)).2⟩
theorem zHk (s:ByteArray)(p b n:Nat):zAx s p b n=true↔∀i,i<n->p+2*i+1<s.size/\byt s (p+2*i)<=3/\byt s (p+2*i+1)<=b-1:=by
 induction n with
 |zero=>simp[zAx]
 |succ n d=>
  rw[zAx,Bool.and_eq_true,Bool.and_eq_true,Bool.and_eq_true,Bool.and_eq_true,d,zB8,zB8,decide_eq_true_iff,decide_eq_true_iff]
  constructor
  ·rintro⟨⟨⟨⟨f,m⟩,_,g⟩,j⟩,_,k⟩ i l
   by_cases e:i=n
   ·subst e;exact⟨j,g,k⟩
   ·exact f i (by omega)
  ·intro c
   have a:=c n (by omega);exact⟨⟨⟨⟨λi l=>c i (by omega),by omega⟩,lX,a.2.1⟩,a.1⟩,lX,a.2.2⟩
theorem zB7 (s:ByteArray)(p n:Nat):vE s p n=true↔∀i,i<n->p+i<s.size/\byt s (p+i)<=yT s p i:=by
 induction n with
 |zero=>simp[vE]
 |succ n b=>
  rw[vE,Bool.and_eq_true,Bool.and_eq_true,b,zB8,decide_eq_true_iff]
  constructor
  ·rintro⟨⟨c,d⟩,_,f⟩ i g
   by_cases e:i=n
   ·subst e;exact⟨d,f⟩
   ·exact c i (by omega)
  ·intro a
   exact⟨⟨λi g=>a i (by omega),(a n (by omega)).1⟩,lX,(a n (by omega)).2⟩
theorem zJ3 (s:ByteArray)(p b n:Nat):zCJ s p b n=true↔∀i,i<n->p+i<s.size/\byt s (p+i)<=b:=by
 induction n with
 |zero=>simp[zCJ]
 |succ n c=>
  rw[zCJ,Bool.and_eq_true,Bool.and_eq_true,c,zB8,decide_eq_true_iff]
  constructor
  ·rintro⟨⟨d,f⟩,_,g⟩ i j
   by_cases e:i=n
   ·subst e;exact⟨f,g⟩
   ·exact d i (by omega)
  ·intro a
   exact⟨⟨λi j=>a i (by omega),(a n (by omega)).1⟩,lX,(a n (by omega)).2⟩
theorem zKf (s:ByteArray)(p m n:Nat):zBn s p m n=true↔∀i,i<n->p+i<s.size/\byt s (p+i)<=jV m i:=by
 induction n with
 |zero=>simp[zBn]
 |succ n b=>
  rw[zBn,Bool.and_eq_true,Bool.and_eq_true,b,zB8,decide_eq_true_iff]
  constructor
  ·rintro⟨⟨c,d⟩,_,f⟩ i g
   by_cases e:i=n
   ·subst e;exact⟨d,f⟩
   ·exact c i (by omega)
  ·intro a
   exact⟨⟨λi g=>a i (by omega),(a n (by omega)).1⟩,lX,(a n (by omega)).2⟩
theorem zHq (s:ByteArray)(p b a n:Nat):zAK s p b a n=true↔∀i,i<n->∀m,m<a->p+2*a*i+2*m+1<s.size/\xZ s (p+2*a*i+2*m)<=b-1:=by
 induction n with
 |zero=>simp[zAK]
 |succ n f=>
  rw[zAK,Bool.and_eq_true,f,zHL]
  constructor
  ·rintro⟨g,j⟩ i k m c
   by_cases e:i=n
   ·subst e;exact j m c
   ·exact g i (by omega) m c
  ·intro d
   exact⟨λi k=>d i (by omega),d n (by omega)⟩
theorem zAN (s:ByteArray)(i:Nat)(a:i+1<s.size):b2 s i=xZ s i:=by
 have b:(s.extract i (i+2)).data.toList=[s[i],s[i+1]]:=by
  have c:i<s.data.toList.length:=by simp;omega
  have d:i+1<s.data.toList.length:=by simp;omega
  have e:s.data.toList.drop i=s.data.toList[i]::s.data.toList[i+1]::s.data.toList.drop (i+2):=by
   rw[List.drop_eq_getElem_cons c,List.drop_eq_getElem_cons d]
  have f:(s.extract i (i+2)).data.toList=(s.data.toList.drop i).take 2:=by simp[List.take_drop,Nat.add_comm]
  rw[f,e];rfl
 unfold b2 zIF;rw[b];simp[zKg];unfold xZ;rw[zBG s i (by omega),zBG s (i+1) a]
theorem zGg (s:ByteArray)(p n:Nat)(a:∀i,i<n->byt s (p+i)<=yT s p i):yT s p n=zD7 s p n:=by
 induction n with
 |zero=>rfl
 |succ n b=>
  have e:=b λi d=>a i (by omega);have c:=a n (by omega);simp only[yT,zD7];rw[zR ⟨lX,c⟩];split <;> omega
theorem zMS (s:ByteArray)(p n:Nat)(a:∀i,i<n->byt s (p+i)<=zD7 s p i):yT s p n=zD7 s p n:=by
 induction n with
 |zero=>rfl
 |succ n b=>
  have e:=b λi c=>a i (by omega);have d:=a n (by omega);simp only[yT,zD7];rw[zR ⟨lX,by omega⟩];split <;> omega
theorem zLf (s:ByteArray)(p n:Nat):(∀i,i<n->byt s (p+i)<=yT s p i)↔(∀i,i<n->byt s (p+i)<=zD7 s p i):=by
 constructor
 ·intro a i b
  rw[<-zGg s p i λj c=>a j (by omega)];exact a i b
 ·intro a i b
  rw[zMS s p i λj c=>a j (by omega)];exact a i b
theorem zBT (f:Nat->Bool)(n:Nat):(List.range n).all f=true↔∀i,i<n->f i=true:=by simp[List.all_eq_true]
theorem zIa (s:ByteArray)(a b:Nat)(e:1<=a)(f:13+2*b<=s.size):zIb s a b=true↔toK s 13 a b=true:=by
 unfold zIb;rw[zBT,zHL]
 constructor
 ·intro c i d
  have:=c i d;rw[decide_eq_true_iff,zAN s _ (by omega)] at this;exact⟨by omega,by omega⟩
 ·intro c i d
  have:=c i d;rw[decide_eq_true_iff,zAN s _ (by omega)];omega
theorem zH8 (s:ByteArray)(a b c:Nat)(f:1<=b)(g:a+2*c<=s.size):zH9 s a b c=true↔zAx s a b c=true:=by
 unfold zH9;rw[zBT,zHk]
 constructor
 ·intro d i e
  have:=d i e;rw[Bool.and_eq_true,decide_eq_true_iff,decide_eq_true_iff] at this;exact⟨by omega,by omega,by omega⟩
 ·intro d i e
  have:=d i e;rw[Bool.and_eq_true,decide_eq_true_iff,decide_eq_true_iff];omega
theorem zIc (s:ByteArray)(b:Nat)(f:b+256<=s.size):zId s b 256=true↔vE s b 256=true:=by
 unfold zId;rw[zBT,zB7];have e:=zLf s b 256
 constructor
 ·intro a i c
  exact⟨by omega,e.2 (λj d=>by have:=a j d;rwa [decide_eq_true_iff] at this) i c⟩
 ·intro a i c
  rw[decide_eq_true_iff];exact e.1 (λj d=>(a j d).2) i c
theorem zJH (s:ByteArray)(c b a:Nat)(o:1<=b)(p:c+2*(b*a)<=s.size):zK1 s c b (b*a)=true↔zAK s c b a b=true:=by
 unfold zK1;rw[zBT,zHq]
 constructor
 ·intro f i g m k
  have d:a*i+m<b*a:=by
   have:a*(i+1)<=a*b:=Nat.mul_le_mul_left _ g;rw[Nat.mul_add,Nat.mul_one,Nat.mul_comm a b] at this;omega
  have:=f (a*i+m) d;have e:c+2*(a*i+m)=c+2*a*i+2*m:=by rw[Nat.mul_add,Nat.mul_assoc];omega
  rw[e] at this;rw[decide_eq_true_iff,zAN s _ (by omega)] at this;exact⟨by omega,by omega⟩
 ·intro f j d
  have l:0<a:=Nat.pos_of_ne_zero λe=>by rw[e,Nat.mul_zero] at d;omega
  have g:=Nat.div_lt_of_lt_mul (by rw[Nat.mul_comm];exact d);have k:j%a<a:=hY _ l;have:=f (j/a) g (j%a) k;have e:c+2*j=c+2*a*(j/a)+2*(j%a):=by
   have:=Nat.div_add_mod j a;rw[Nat.mul_assoc];omega
  rw[<-e] at this;rw[decide_eq_true_iff,zAN s _ (by omega)];omega
theorem zJI (s:ByteArray)(a f b:Nat)(g:a+b<=s.size):zK2 s a f b=true↔zCJ s a f b=true:=by
 unfold zK2;rw[zBT,zJ3]
 constructor
 ·intro c i e
  have:=c i e;rw[decide_eq_true_iff] at this;exact⟨by omega,by omega⟩
 ·intro c i e
  have:=c i e;rw[decide_eq_true_iff];omega
theorem zNu (s:ByteArray)(p n:Nat)(f:p+(n+7)/8<=s.size):(decide (n%8=0)||decide (byt s (p+(n+7)/8-1)/2^(n%8)=0))=true↔zBn s p n ((n+7)/8)=true:=by
 rw[zKf,Bool.or_eq_true,decide_eq_true_iff,decide_eq_true_iff]
 constructor
 ·intro a i g
  refine⟨by omega,?_⟩;have j:=vT s (p+i);unfold jV;split
  ·rename_i k
   have d:n-8*i=n%8:=by omega
   have b:p+(n+7)/8-1=p+i:=by omega
   rcases a with a|a
   ·omega
   ·rw[b] at a
    have c:0<2^(n%8):=Nat.two_pow_pos _;have:=Nat.lt_of_div_eq_zero c a;rw[d];omega
  ·omega
 ·intro a
  by_cases e:n%8=0
  ·exact .inl e
  ·right
   have:=(a ((n+7)/8-1) (by omega)).2;have b:p+((n+7)/8-1)=p+(n+7)/8-1:=by omega
   unfold jV at this;rw[b,if_pos (by omega),show n-8*((n+7)/8-1)=n%8 by omega] at this;have c:0<2^(n%8):=Nat.two_pow_pos _;exact Nat.div_eq_of_lt (by omega)
theorem zHE (s:ByteArray)(b c a d e:Nat)(r:1<=b)(q:1<=a)(t:s.size=qL b c a d e+4):
  zLF s b c a d e=true↔(toK s 13 a b&&zAx s (13+2*b) b c&&(vE s (13+2*b+2*c) 256&&decide (yT s (13+2*b+2*c) 256=d))&&zAK s (13+2*b+2*c+256) a d a&&zCJ s (13+2*b+2*c+256+2*d*a) c a&&zBn s (13+2*b+2*c+256+2*d*a+a) (a*e) ((a*e+7)/8))=true:=by
 have u:2*d*a=2*a*d:=by rw[Nat.mul_assoc,Nat.mul_comm d a,<-Nat.mul_assoc]
 have C:2*a*d=2*(a*d):=Nat.mul_assoc _ _ _;have v:a*e=e*a:=Nat.mul_comm _ _;unfold qL at t;have w:=zIa s a b q (by omega);have x:=zH8 s (13+2*b) b c r (by omega);have y:=zIc s (13+2*b+2*c) (by omega);have z:=zJH s (13+2*b+2*c+256) a d q (by omega);have A:=zJI s (13+2*b+2*c+256+2*a*d) c a (by omega);have B:=zNu s (13+2*b+2*c+256+2*a*d+a) (e*a) (by omega);rw[u,v];unfold zLF;simp only[Bool.and_eq_true];rw[w,x,y,z,A,B,decide_eq_true_iff,decide_eq_true_iff]
 constructor
 ·rintro⟨⟨⟨⟨⟨⟨g,h⟩,f⟩,j⟩,k⟩,l⟩,m⟩
  have o:=zGg s (13+2*b+2*c) 256 λi p=>((zB7 _ _ _).1 f i p).2;exact⟨⟨⟨⟨⟨g,h⟩,f,by rw[o];exact j⟩,k⟩,l⟩,m⟩
 ·rintro⟨⟨⟨⟨⟨g,h⟩,f,j⟩,k⟩,l⟩,m⟩
  have o:=zGg s (13+2*b+2*c) 256 λi p=>((zB7 _ _ _).1 f i p).2;exact⟨⟨⟨⟨⟨⟨g,h⟩,f⟩,by rw[<-o];exact j⟩,k⟩,l⟩,m⟩
theorem zBg (s:ByteArray):qB s=true↔12<s.size/\byt s 0=76/\byt s 1=88/\byt s 2<=1/\(1<=byt s 4/\byt s 4<=64)/\(1<=xZ s 5/\xZ s 5<=3)/\(1<=xZ s 7/\xZ s 7<=8)/\(1<=xZ s 9/\xZ s 9<=200)/\(1<=xZ s 11/\xZ s 11<=256)/\xV s<=3000/\(xH s=1\/xL s=0):=by
 unfold qB hK8 hK7 hK6 hK5 hK4 hK3 hK2 hK1 hK0;simp only[Bool.and_eq_true,Bool.or_eq_true,decide_eq_true_iff,zB8];have:=vT s 3
 constructor
 ·intro a
  refine⟨by omega,by omega,by omega,by omega,by omega,by omega,by omega,by omega,by omega,by omega,?_⟩;exact a.2
 ·rintro⟨e,f,g,i,j,k,l,m,b,c,d⟩
  refine⟨⟨⟨⟨?_,?_⟩,b⟩,c⟩,d⟩
  ·refine⟨⟨⟨⟨⟨⟨⟨⟨⟨⟨⟨⟨⟨⟨⟨⟨trivial,by omega⟩,by omega⟩,by omega⟩,by omega⟩,by omega⟩,by omega⟩,by omega⟩,by omega⟩,by omega⟩,by omega⟩,by omega⟩,by omega⟩,by omega⟩,by omega⟩,by omega⟩,by omega⟩
  ·omega
theorem zON (s:ByteArray)(c:2<=s.size):((s.extract 0 2).toList==[76,88])=true↔byt s 0=76/\byt s 1=88:=by
 have d:0<s.data.toList.length:=by simp;omega
 have f:0+1<s.data.toList.length:=by simp;omega
 have e:s.data.toList.drop 0=s.data.toList[0]::s.data.toList[0+1]::s.data.toList.drop (0+2):=by
  rw[List.drop_eq_getElem_cons d,List.drop_eq_getElem_cons f]
 have g:(s.extract 0 2).data.toList=(s.data.toList.drop 0).take 2:=by simp
 have i:=zBG s 0 (by omega);have j:=zBG s 1 (by omega);have k:s.data.toList[0].toNat=byt s 0:=i;have l:s.data.toList[0+1].toNat=byt s 1:=j;rw[ByteArray.toList_eq,g,e];show([s.data.toList[0],s.data.toList[0+1]]==[76,88])=true↔_;rw[beq_iff_eq,<-k,<-l]
 constructor
 ·intro c
  injection c with b a;injection a with a _;rw[b,a];exact⟨rfl,rfl⟩
 ·rintro⟨b,a⟩
  have m:s.data.toList[0]=76:=UInt8.toNat_inj.1 b;have o:s.data.toList[0+1]=88:=UInt8.toNat_inj.1 a;rw[m,o]
def q2 (s:ByteArray):Nat:=13+2*zW s
def q3 (s:ByteArray):Nat:=q2 s+2*xB s
def q4 (s:ByteArray):Nat:=q3 s+256
def q5 (s:ByteArray):Nat:=q4 s+2*zT s*zG s
def q6 (s:ByteArray):Nat:=q5 s+zG s
def nbit (s:ByteArray):Nat:=zG s*xV s
def zF2 (s:ByteArray):Bool:=toK s 13 (zG s) (zW s)&&zAx s (q2 s) (zW s) (xB s)&&(vE s (q3 s) 256&&decide (yT s (q3 s) 256=zT s))&&zAK s (q4 s) (zG s) (zT s) (zG s)&&zCJ s (q5 s) (xB s) (zG s)&&zBn s (q6 s) (nbit s) ((nbit s+7)/8)
def zJZ (s:ByteArray):Bool:=decide (s.size=qL (zW s) (xB s) (zG s) (zT s) (xV s)+4)
def zI6 (s:ByteArray):Bool:=zKJ (s.extract 0 (s.size-4))==zIF (s.extract (s.size-4) s.size)
theorem zBV (s:ByteArray):zAl s=(qB s&&zJZ s&&zI6 s&&zF2 s):=by
 rw[Bool.eq_iff_iff];simp only[Bool.and_eq_true];unfold zAl;simp only[Bool.and_eq_true,Bool.or_eq_true,decide_eq_true_iff]
 constructor
 ·rintro⟨⟨⟨m,f⟩,g⟩,⟨⟨⟨c,h⟩,v⟩,i⟩,a⟩
  rw[zON s (by omega)] at f;unfold zOk at c;rw[decide_eq_true_iff,zAN s 5 (by omega),zAN s 7 (by omega),zAN s 9 (by omega),zAN s 11 (by omega)] at c;rw[zAN s 11 (by omega)] at h;rw[zAN s 5 (by omega),zAN s 7 (by omega),zAN s 9 (by omega),zAN s 11 (by omega)] at i a;have m1:zW s=xZ s 5:=zR (by omega);have m2:xB s=xZ s 7:=zR (by omega);have j:zG s=xZ s 9:=zR (by omega);have d:zT s=xZ s 11:=zR (by omega);have e:xL s=byt s 3:=zR (by have:=vT s 3;omega);have k:xH s=byt s 2:=zR (by omega);have l:xV s=zF (xZ s 11) (byt s 3):=by unfold xV;rw[d,e]
  rw[<-l] at h i a;rw[<-m1,<-m2,<-j,<-d] at i a;have b:s.size=qL (zW s) (xB s) (zG s) (zT s) (xV s)+4:=by omega
  refine⟨⟨⟨(zBg s).2 ⟨by omega,f.1,f.2,by omega,by omega,by omega,by omega,by omega,by omega,h,?_⟩,gJ b⟩,g⟩,(zHE s _ _ _ _ _ (by omega) (by omega) b).1 a⟩;rw[k,e];omega
 ·rintro⟨⟨⟨c,p⟩,g⟩,q⟩
  rw[zBg] at c;obtain⟨w,r,t,x,y,z,A,B,C,o,u⟩:=c;have m1:zW s=xZ s 5:=zR (by omega);have m2:xB s=xZ s 7:=zR (by omega);have j:zG s=xZ s 9:=zR (by omega);have d:zT s=xZ s 11:=zR (by omega);have e:xL s=byt s 3:=zR (by have:=vT s 3;omega);have k:xH s=byt s 2:=zR (by omega);have l:xV s=zF (xZ s 11) (byt s 3):=by unfold xV;rw[d,e]
  have b:s.size=qL (zW s) (xB s) (zG s) (zT s) (xV s)+4:=of_decide_eq_true p;have m:17<=s.size:=by unfold qL at b;omega
  have a:=(zHE s _ _ _ _ _ (by omega) (by omega) b).2 q;rw[l] at a b o;rw[m1,m2,j,d] at a b;rw[zAN s 5 (by omega),zAN s 7 (by omega),zAN s 9 (by omega),zAN s 11 (by omega)];refine⟨⟨⟨m,(zON s (by omega)).2 ⟨r,t⟩⟩,g⟩,⟨⟨⟨?_,o⟩,?_⟩,by omega⟩,a⟩
  ·unfold zOk
   rw[decide_eq_true_iff];omega
  ·rw[k,e] at u
   omega
def zAy (s:ByteArray):Tb where
 stream:=decide (xH s=1)
 ahead:=xL s
 hold:=jG s
 count:=zT s
 rows:=xV s
 nst:=zG s
 nmode:=zW s
 nrule:=xB s
 nlong:=(nbit s+7)/8
 start:=toF s 13 (zG s)
 act:=zDe s (q2 s)
 push:=zAJ s (q2 s) (zW s)
 kind:=zBe s (q3 s)
 next:=λi=>toF s (q4 s+2*zT s*i) (zG s)
 ends:=λi=>(zES s (q5 s) (xB s) i:Int)-1
 live:=λ_=>false
 long:=zCQ s (q6 s) (nbit s)
theorem zNH (a:Nat)(e:1<=a)(k:Nat)(b:zF a k<=3000):2^k<=zF a k:=by
 induction k with
 |zero=>exact lQ
 |succ k d=>
  rw[zF] at b ⊢;split at b
  ·rename_i c
   rw[if_pos c,Nat.pow_succ];exact Nat.mul_le_mul (d c) (by omega)
  ·omega
theorem zIS (a k:Nat):1<=zF a k:=by
 induction k with
 |zero=>exact lQ
 |succ k b=>
  rw[zF];split
  ·exact Nat.mul_le_mul b (by omega:1<=a+1)
  ·exact b
theorem zJP (s:ByteArray)(p i:Nat):yT s p i<=yT s p (i+1)/\zBe s p i<yT s p (i+1):=by
 have a:=zX (byt s (p+i)) 0 (yT s p i) lX;simp only[yT,zBe];split <;> omega
theorem zN8 (s:ByteArray)(p i j:Nat)(b:i<=j):yT s p i<=yT s p j:=by
 induction j with
 |zero=>rw[show i=0 by omega];exact lQ
 |succ j a=>
  by_cases e:i=j+1
  ·rw[e];exact lQ
  ·exact lY (a (by omega)) (zJP s p j).1
theorem zLN (s:ByteArray)(d:qB s=true)(m:yT s (q3 s) 256=zT s):(zAy s).Ok:=by
 have a:=(zBg s).1 d;have b:=a.2.2.2.2.2.2.2.2.2.1;have f:1<=zT s:=qG _ _ _;have g:zT s<=256:=zX _ _ _ (by decide);have s1:1<=zG s:=qG _ _ _;have s2:zG s<=200:=zX _ _ _ (by decide);have m1:1<=zW s:=qG _ _ _;have o:=zNH (zT s) f (xL s) b;refine⟨?_,qG _ _ _,zX _ _ _ (by decide),g,zIS _ _,b,s2,m1,?_,λi _=>?_,λi _=>?_,λc p=>?_,λi k _ _=>?_,λi _=>?_,λi _=>?_⟩
 ·show xL s<64
  rcases Nat.lt_or_ge (xL s) 64 with a|a
  ·exact a
  ·have:2^64<=2^xL s:=kG (by decide) a
   have e:xV s=zF (zT s) (xL s):=rfl;omega
 ·show xV s*zG s<=8*((nbit s+7)/8)
  unfold nbit;rw[Nat.mul_comm];omega
 ·have:=zX (xZ s (13+2*i)) 0 (zG s-1) lX
  show toF s 13 (zG s) i<zG s;unfold toF;omega
 ·have:=zX (byt s (q2 s+2*i+1)) 0 (zW s-1) lX
  show zAJ s (q2 s) (zW s) i<zW s;unfold zAJ;omega
 ·have j:=(zJP s (q3 s) c).2
  have l:=zN8 s (q3 s) (c+1) 256 (by omega);show zBe s (q3 s) c<zT s;omega
 ·have:=zX (xZ s (q4 s+2*zT s*i+2*k)) 0 (zG s-1) lX
  show toF s (q4 s+2*zT s*i) (zG s) k<zG s;unfold toF;omega
 ·have:=zX (byt s (q5 s+i)) 0 (xB s) lX
  show -1<=(zES s (q5 s) (xB s) i:Int)-1/\(zES s (q5 s) (xB s) i:Int)-1<(xB s:Int);unfold zES;omega
 ·have j:=zX (byt s (q6 s+i)) 0 (jV (nbit s) i) lX
  have l:=zJN (nbit s) i;show zCQ s (q6 s) (nbit s) i<256;unfold zCQ;omega
theorem zNK (s:ByteArray)(i:Nat):(zAy s).act i<4:=by
 have:=zX (byt s (q2 s+2*i)) 0 3 lX;show zDe s (q2 s) i<4;unfold zDe;omega
def zBx (q:Nat):Nat:=if q%2=1 then q/2^^^3988292384 else q/2
def zAa (q:Nat):Nat->Nat
 |0=>q
 |j+1=>zBx (zAa q j)
def zAh (l:List UInt8):Nat:=l.foldl (λq c=>zAa (q^^^c.toNat) 8) 4294967295
theorem zLx (l:List UInt8)(c:UInt8):zAh (l++[c])=zAa (zAh l^^^c.toNat) 8:=by simp[zAh]
theorem zLy (q:Nat)(a:q<4294967296):zBx q<4294967296:=by
 unfold zBx;split
 ·exact Nat.xor_lt_two_pow (n:=32) (by omega) (by omega)
 ·omega
theorem zLz (q:Nat)(a:q<4294967296)(j:Nat):zAa q j<4294967296:=by
 induction j with
 |zero=>exact a
 |succ j b=>exact zLy _ b
theorem vH (x i:Nat):x.testBit i=decide (x/2^i%2=1):=Nat.testBit_eq_decide_div_mod_eq
theorem jJ (x i:Nat):(x/2).testBit i=x.testBit (i+1):=(Nat.testBit_succ x i).symm
theorem zDP (v n:Nat):xC v (n+1)=2*xC v n+v/2^n%2:=by rw[xC,Nat.shiftRight_eq_div_pow]
theorem zAb (v n i:Nat):(xC v n).testBit i=(decide (i<n)&&v.testBit (n-1-i)):=by
 induction n generalizing i with
 |zero=>simp[xC]
 |succ n b=>
  cases i with
  |zero=>
   have d:v/2^n%2<2:=hY _ (by decide);rw[vH,vH,zDP,Nat.pow_zero,Nat.div_one,gJ (Nat.succ_pos n),Bool.true_and,show n+1-1-0=n by omega];generalize v/2^n%2=x at *
   congr 1
   apply propext;omega
  |succ i=>
   rw[<-jJ];have c:xC v (n+1)/2=xC v n:=by
    rw[zDP];have:v/2^n%2<2:=hY _ (by decide);omega
   rw[c,b];by_cases a:i<n
   ·rw[gJ a,gJ (by omega:i+1<n+1),show n+1-1-(i+1)=n-1-i by omega]
   ·rw[gU a,gU (by omega:¬i+1<n+1)]
    rfl
theorem zLw (r i:Nat):(r*2).testBit (i+1)=r.testBit i:=by rw[<-jJ];congr 1;omega
theorem zPz (r:Nat):xC (r*2%4294967296) 32=xC r 32/2:=by
 apply Nat.eq_of_testBit_eq;intro i;rw[jJ,zAb,zAb,show(4294967296:Nat)=2^32 by decide,Nat.testBit_mod_two_pow];by_cases a:i+1<32
 ·rw[show 32-1-i=(32-1-(i+1))+1 by omega,zLw]
  simp[a,show i<32 by omega];omega
 ·by_cases b:i=31
  ·subst b
   have:(r*2).testBit 0=false:=by rw[vH];simp
   simp[this]
  ·simp[a,show¬i<32 by omega]
theorem zQz (a b:Nat):xC (a^^^b) 32=xC a 32^^^xC b 32:=by
 apply Nat.eq_of_testBit_eq;intro i;rw[Nat.testBit_xor,zAb,zAb,zAb,Nat.testBit_xor];by_cases c:i<32 <;> simp[c]
theorem zQl:xC 79764919 32=3988292384:=by decide
theorem zNG (a b:Nat):(a^^^b)/2=a/2^^^b/2:=by
 apply Nat.eq_of_testBit_eq;intro i;rw[jJ,Nat.testBit_xor,Nat.testBit_xor,jJ,jJ]
theorem zQA (r:Nat):(xC r 32).testBit 0=r.testBit 31:=by rw[zAb];simp
theorem zIX (c j:Nat)(a:j<8):(xC c 8).testBit (7-j)=c.testBit j:=by
 rw[zAb,gJ (by omega),show 8-1-(7-j)=j by omega];rfl
theorem zOy (r c:Nat)(j:Nat)(l:j<=8):zAa (xC r 32^^^c) j=xC (zBY r (xC c 8) j) 32^^^c/2^j:=by
 induction j with
 |zero=>simp[zAa,zBY]
 |succ j e=>
  rw[zAa,e (by omega),zBY];generalize zBY r (xC c 8) j=q;have b:(xC q 32^^^c/2^j)/2=xC (q*2%4294967296) 32^^^c/2^(j+1):=by
   rw[zNG,zPz,Nat.div_div_eq_div_mul,Nat.pow_succ]
  have f:(xC q 32^^^c/2^j).testBit 0=(q.testBit 31 ^^ c.testBit j):=by
   rw[Nat.testBit_xor,zQA]
   congr 1
   rw[vH,vH];simp
  have g:=zIX c j (by omega);have d:(xC q 32^^^c/2^j)%2=1↔¬(q/2147483648%2=xC c 8/2^(7-j)%2):=by
   rw[show ((xC q 32^^^c/2^j)%2=1)↔(xC q 32^^^c/2^j).testBit 0=true by rw[vH];simp,f,<-g,vH,vH];have m:q/2^31%2<2:=hY _ (by decide);have o:xC c 8/2^(7-j)%2<2:=hY _ (by decide);rw[show (2147483648:Nat)=2^31 by decide];generalize q/2^31%2=x at *;generalize xC c 8/2^(7-j)%2=y at *;have i:x=0\/x=1:=by omega
   have k:y=0\/y=1:=by omega
   rcases i with rfl|rfl <;> rcases k with rfl|rfl <;> simp
  unfold zBx zLP;by_cases a:q/2147483648%2=xC c 8/2^(7-j)%2
  ·rw[if_pos a,if_neg (λx=>(d.1 x) a),b]
  ·rw[if_neg a,if_pos (d.2 a),b,zQz,zQl,Nat.xor_assoc,Nat.xor_comm (c/2^(j+1)),<-Nat.xor_assoc]
theorem zJ7 (l:List UInt8):zAh l=xC (zPB l) 32:=by
 have b:∀(l:List UInt8) (r:Nat),l.foldl (λq c=>zAa (q^^^c.toNat) 8) (xC r 32)=xC (l.foldl (λr c=>zBY r (xC c.toNat 8) 8) r) 32:=by
  intro l;induction l with
  |nil=>intro r;rfl
  |cons c l d=>
   intro r;rw[List.foldl_cons,List.foldl_cons,zOy r c.toNat 8 (by decide),<-d];have:c.toNat/2^8=0:=by have:=c.toNat_lt;omega
   rw[this,Nat.xor_zero]
 have a:=b l 4294967295;rw[show xC 4294967295 32=4294967295 by decide] at a;exact a
theorem zP9 (l:List UInt8):4294967295-zAh l=zQs l:=by rw[zJ7];rfl
theorem zOz (l:List UInt8):zAh l<4294967296:=by rw[zJ7];exact zHJ _ _ (by decide)
theorem zEX (n:Int)(a:0<=n)(b:n<4294967296):IntKind.u32.wrap n=n:=by rw[IntKind.wrap_u32];omega
theorem zIW (a b:Nat)(c:a<4294967296)(d:b<4294967296):bits .and .u32 (a:Int) (b:Int)=((a&&&b:Nat):Int):=
 (bits_nat .u32 32 (by decide) (λn e f=>zEX n e (by simpa using f)) a b (by simpa using c) (by simpa using d)).1
theorem zCr (a b:Nat)(e:a<4294967296)(f:b<4294967296):bits .xor .u32 (a:Int) (b:Int)=((a^^^b:Nat):Int):=by
 have g:a^^^b<2^32:=Nat.xor_lt_two_pow (by omega) (by omega);have c:(BitVec.ofInt 32 (a:Int)).toNat=a:=by
  rw[BitVec.ofInt_natCast,BitVec.toNat_ofNat];exact Nat.mod_eq_of_lt (by omega)
 have d:(BitVec.ofInt 32 (b:Int)).toNat=b:=by
  rw[BitVec.ofInt_natCast,BitVec.toNat_ofNat];exact Nat.mod_eq_of_lt (by omega)
 show IntKind.u32.wrap ((BitVec.ofInt 32 (a:Int)^^^BitVec.ofInt 32 (b:Int)).toNat:Int)=_;rw[BitVec.toNat_xor,c,d];exact zEX _ (by omega) (by omega)
theorem zIV (a:Nat)(c:a<4294967296):bits .and .u32 (a:Int) 1=((a%2:Nat):Int):=by
 have b:=zIW a 1 c (by decide);rw[show ((1:Nat):Int)=1 from rfl] at b;rw[b,Nat.and_one_is_mod]
theorem zIh (q:Nat)(w:World)(c:q<4294967296):
  Calls prog 112 #[int .u32 q] w λe w'=>e=returned (int .u32 (zBx q:Nat))/\w'=w:=by
 have g:=zIV q c;by_cases a:q%2=1
 ·have d:(((q%2:Nat):Int)==1)=true:=by rw[a];rfl
  have b:Hid (zBx q=q/2^^^3988292384):=if_pos a;have f:=zCr (q/2) 3988292384 (by omega) (by decide);rw[show ((3988292384:Nat):Int)=3988292384 from rfl,show((q/2:Nat):Int)=(q:Int)/2 by omega] at f;go_in;go_wp2;go_ret;exact⟨zAr (by rw[b.out]),rfl⟩
 ·have d:(((q%2:Nat):Int)==1)=false:=by rw[hX];omega
  have b:Hid (zBx q=q/2):=if_neg a;go_in;go_wp2;go_ret;exact⟨zAr (by rw[b.out];omega),rfl⟩
theorem zO7 (q:Nat)(d:q<4294967296):4294967295^^^q=4294967295-q:=by
 apply Nat.eq_of_testBit_eq;intro i;have a:=Nat.testBit_two_pow_sub_succ (n:=32) (x:=q) (by omega) i;have b:=Nat.testBit_two_pow_sub_one 32 i;rw[show (2:Nat)^32-(q+1)=4294967295-q by omega] at a;rw[show (2:Nat)^32-1=4294967295 by decide] at b;rw[a,Nat.testBit_xor,b];by_cases c:i<32
 ·simp[c]
 ·have:=Nat.testBit_lt_two_pow (lZ d (kG (n:=2) (by decide) (show 32<=i by omega)))
  simp[c,this]
def four (n:Nat):List UInt8:=[UInt8.ofNat (n/16777216%256),UInt8.ofNat (n/65536%256),UInt8.ofNat (n/256%256),UInt8.ofNat (n%256)]
theorem zOo (n:Nat)(a:n<4294967296):zKg (four n)=n:=by
 simp[zKg,four];omega
theorem zM9 (w:World)(n:Nat):
  (convert 68 9 (slice (qX w.heap.size) 4 4)).run prog (w.alloc (.cells #[int .u8 ((n:Int)/16777216%256),int .u8 ((n:Int)/65536%256),int .u8 ((n:Int)/256%256),int .u8 ((n:Int)%256)] 5))=
   .ok (string ⟨(four n).toArray⟩) (w.alloc (.cells #[int .u8 ((n:Int)/16777216%256),int .u8 ((n:Int)/65536%256),int .u8 ((n:Int)/256%256),int .u8 ((n:Int)%256)] 5)):=by
 refine run_convert_bytes_back _ 68 9 5 ⟨w.heap.size,0,none⟩ 4 (four n) underlying68 underlying5 underlying9 ?_;intro j b;have a:=gX w (.cells #[int .u8 ((n:Int)/16777216%256),int .u8 ((n:Int)/65536%256),int .u8 ((n:Int)/256%256),int .u8 ((n:Int)%256)] 5);generalize w.alloc (.cells #[int .u8 ((n:Int)/16777216%256),int .u8 ((n:Int)/65536%256),int .u8 ((n:Int)/256%256),int .u8 ((n:Int)%256)] 5)=w1 at a ⊢;have:j=0\/j=1\/j=2\/j=3:=by simp[four] at b;omega
 rcases this with rfl|rfl|rfl|rfl
 ·have e:(four n)[0].toNat=n/16777216%256:=by simp[four]
  rw[e];simp[Addr.add,cell?,a]
 ·have e:(four n)[1].toNat=n/65536%256:=by simp[four]
  rw[e];simp[Addr.add,cell?,a]
 ·have e:(four n)[2].toNat=n/256%256:=by simp[four]
  rw[e];simp[Addr.add,cell?,a]
 ·have e:(four n)[3].toNat=n%256:=by simp[four]
  rw[e];simp[Addr.add,cell?,a]
theorem zE2 (s:ByteArray)(w:World)(u:s.size<=1048576):
  Calls prog 79 #[string s] w λe w'=>e=returned (string ⟨(four (4294967295-zAh s.data.toList)).toArray⟩)/\Below w.heap.size w w':=by
 go_in;go_wp2;go_loop [3,4] (λr i=>∃k:Nat,k<=s.size/\i=iX k/\r=int .u32 (zAh (s.data.toList.take k):Nat)) (λ_ i=>s.size-(intOf i).toNat)
 case atStart=>exact⟨0,lX,rfl,rfl⟩
 case round=>
  obtain⟨k,v,rfl,rfl⟩:=hrel;have a:=zOz (s.data.toList.take k);by_cases f:k<s.size
  ·have g:Hid (zAh (s.data.toList.take (k+1))=zAa (zAh (s.data.toList.take k)^^^s[k].toNat) 8):=by
    rw[zHc s k f];exact zLx _ _
   have x:=s[k].toNat_lt;have y:=zCr (zAh (s.data.toList.take k)) s[k].toNat a (by omega);have h:zAh (s.data.toList.take k)^^^s[k].toNat<4294967296:=Nat.xor_lt_two_pow (n:=32) (by omega) (by omega);go_wp2;generalize zAh (s.data.toList.take k)^^^s[k].toNat=q at *;go_loop [3,5] (λr i=>∃j:Nat,j<=8/\i=iX (j:Int)/\r=int .u32 (zAa q j:Nat)) (λ_ i=>8-(intOf i).toNat)
   case atStart=>exact⟨0,by omega,rfl,rfl⟩
   case round=>
    obtain⟨j,z,rfl,rfl⟩:=hrel;have l:=zLz q h j;by_cases A:j<8
    ·have m:Hid (zAa q (j+1)=zBx (zAa q j)):=rfl
     go_wp2_with fail;refine(zIh _ _ l).mono ?_;rintro e w' ⟨rfl,rfl⟩;go_wp2;refine⟨⟨j+1,by omega,by go_num,?_⟩,by simp[intOf];omega⟩;rw[m.out]
    ·have o:j=8:=by omega
     have p:=g.out;go_wp2;refine⟨⟨k+1,by omega,by go_num,?_⟩,by simp[intOf];omega⟩;rw[p,<-o]
  ·have t:Hid (s.data.toList.take k=s.data.toList):=List.take_of_length_le (by simp;omega)
   rw[t.out] at a ⊢;have c:Hid (∃n,n=4294967295-zAh s.data.toList):=⟨_,rfl⟩
   obtain⟨n,b⟩:=c;have c:=vl b;generalize zAh s.data.toList=q at a b ⊢;have d:=zCr 4294967295 q (by decide) a;rw[zO7 q a,show((4294967295:Nat):Int)=IntKind.u32.max from rfl] at d;rw[<-b] at d;have B:=zM9 w n;have C:n<4294967296:=by omega
   clear b;go_wp2_with fail;go_ret;exact⟨by rw[<-c.out];rfl,(Below.refl _ _).alloc lQ _⟩
theorem zOD (l:List UInt8)(g:l.length=4):four (zKg l)=l:=by
 match l,g with
 |[a,b,c,f],_=>
  have o:=a.toNat_lt;have p:=b.toNat_lt;have q:=c.toNat_lt;have r:=f.toNat_lt;have e:zKg [a,b,c,f]=16777216*a.toNat+65536*b.toNat+256*c.toNat+f.toNat:=by
   simp[zKg];omega
  rw[e];unfold four;have i:(16777216*a.toNat+65536*b.toNat+256*c.toNat+f.toNat)/16777216%256=a.toNat:=by omega
  have j:(16777216*a.toNat+65536*b.toNat+256*c.toNat+f.toNat)/65536%256=b.toNat:=by omega
  have k:(16777216*a.toNat+65536*b.toNat+256*c.toNat+f.toNat)/256%256=c.toNat:=by omega
  have m:(16777216*a.toNat+65536*b.toNat+256*c.toNat+f.toNat)%256=f.toNat:=by omega
  rw[i,j,k,m];simp
theorem zOp (l:List UInt8)(n:Nat)(a:l.length=4)(b:n<4294967296):(l==four n)=(n==zKg l):=by
 rw[Bool.eq_iff_iff];simp only[beq_iff_eq]
 constructor
 ·rintro rfl
  exact(zOo n b).symm
 ·rintro rfl
  exact(zOD l a).symm
theorem zI5 (s:ByteArray)(a:4<=s.size):((s.extract (s.size-4) s.size).toList==four (4294967295-zAh (List.take (s.size-4) s.data.toList)))=(zKJ (s.extract 0 (s.size-4))==zIF (s.extract (s.size-4) s.size)):=by
 rw[ByteArray.toList_eq,zOp _ _ (by simp;omega) (by omega),zP9];have e:(s.extract 0 (s.size-4)).data.toList=List.take (s.size-4) s.data.toList:=by simp
 unfold zKJ zIF;rw[e]
theorem zIt (s:ByteArray)(w:World)(b:4<=s.size)(d:s.size<=1048576):
  Calls prog 82 #[string s] w λe w'=>e=returned (bool (zKJ (s.extract 0 (s.size-4))==zIF (s.extract (s.size-4) s.size)))/\Grew w w':=by
 have f:(4:Int)<=(s.size:Int):=by omega
 have g:(s.size:Int)-4=((s.size-4:Nat):Int):=by omega
 have h:s.size-4<=s.size:=by omega
 go_in;go_wp2;go_region_with ((go_at_call 79;go_must ((refine (zE2 (s.extract 0 (s.size-4)) _ (by simp;omega)).mono ?_;rintro e w1 ⟨rfl,a⟩))))
 all_goals
  go_wp2;go_ret;refine⟨vC (zI5 s b),?_⟩;exact⟨a.os,a.output,a.size,λk c _=>a.block k c⟩
def zNF:Tc:=⟨bool false,int i64 0,int i64 0,slice none 0 0,slice none 0 0,slice none 0 0,slice none 0 0,int i64 0,slice none 0 0,slice none 0 0,slice none 0 0,int i64 0,slice none 0 0⟩
theorem P1.mem {H a b:Nat}{s:ByteArray}{w:World}{c:Tc}{k:Bool}(e:P1 H a b s (zW s) (xB s) (zG s) (zT s) (xV s) w c 13 k)(f:H<=w.heap.size)
  (c0:c.stream=bool (decide (xH s=1))) (c1:c.ahead=iX (xL s:Nat)) (c2:c.hold=iX (jG s:Nat)) (g:c.count=iX (zT s:Nat)) (i:c.rows=iX (xV s:Nat)) (j:c.live=slice none 0 0):
  ∃d,MemB w H b d (zAy s)/\d.live=slice none 0 0/\∃p,xM w a s p (k&&zF2 s):=by
 obtain⟨z,l,A,B,m,o,C,q,D,rv,r,t,E,u,F,v,x,y⟩:=e;refine⟨_,⟨y,c0,c1,c2,g,i,l,m,o,q,⟨rv,r,t⟩,u,v,f⟩,j,_,x.to rfl ?_⟩;unfold zF2 q6 q5 q4 q3 q2 nbit;simp only[Bool.and_assoc]
theorem Rt.still {H a b:Nat}{i w w':World}{s:ByteArray}{p:Nat}{k:Bool}{c:Tc}{j:List (Nat×Obj)}(d:Rt H a b i w s p k c j)(e:Grew w w'):Rt H a b i w' s p k c j:=by
 have f:∀k,k<w.heap.size->w'.heap[k]? =w.heap[k]? :=λk l=>e.block k l (by omega);have m:=d.HH;exact⟨d.rd.of_block (f _ d.rd.lt),d.tb.of_block (f _ d.tb.lt),λx g=>⟨(f _ (kQ.1 (d.own x g).1).1).trans (d.own x g).1,(d.own x g).2⟩,d.kept.trans ⟨e.os,e.output,e.size,λk l _ _=>f k (by omega)⟩,d.ab,d.aH,d.bH,lY d.HH e.size⟩
theorem Rt.anew {H a b:Nat}{e w:World}{s:ByteArray}{p:Nat}{k:Bool}{c:Tc}{f:List (Nat×Obj)}(d:Rt H a b e w s p k c f):Rt H a b w w s p k c []:=
 ⟨d.rd,d.tb,λx g=>absurd g (List.not_mem_nil),Kept.refl _ _ _ _,d.ab,d.aH,d.bH,d.HH⟩
theorem Kept.old {w w2 d:World}{H a b:Nat}(c:Kept H a b w2 d)(e:Grew w w2)(f:w.heap.size<=a)(g:w.heap.size<=b)(i:w.heap.size<=H):Grew w d:=
 e.trans ⟨c.os,c.output,c.size,λk j _=>c.block k (by omega) (by omega) (by omega)⟩
theorem zI0 (s:ByteArray)(w:World)(D:s.size<=1048576):
  Calls prog 52 #[string s] w λe w'=>Grew w w'/\
   (zAl s=false->e=returned (tuple #[pointer none,bool false]))/\
   (zAl s=true->∃b H c n,e=returned (tuple #[pX b,bool true])/\w.heap.size<=b/\b<H/\Mem w' H b c ((zAy s).first.itr n)/\(((zAy s).first.itr n).spreadTo (zG s)).2=false):=by
 have q:=vl <| zBV s;go_in;go_wp2_with fail;obtain⟨w2,ag,ah,ai⟩:∃w2,w2=(w.alloc (.cells #[string s,iX 0,bool true] 150)).alloc (.cells #[bool false,iX 0,iX 0,slice none 0 0,slice none 0 0,slice none 0 0,slice none 0 0,iX 0,slice none 0 0,slice none 0 0,slice none 0 0,iX 0,slice none 0 0] 90)/\
   Hid (Rt (w.heap.size+2) w.heap.size (w.heap.size+1) w2 w2 s 0 true zNF [])/\Hid (Grew w w2):=by
  refine⟨_,rfl,⟨?_,?_,λx aj=>absurd aj (List.not_mem_nil),Kept.refl _ _ _ _,by omega,by omega,by omega,by simp⟩,?_⟩
  ·exact(lG _ _ _ (by simp)).trans (gX w _)
  ·have j:=gX (w.alloc (.cells #[string s,iX 0,bool true] 150)) (.cells #[bool false,iX 0,iX 0,slice none 0 0,slice none 0 0,slice none 0 0,slice none 0 0,iX 0,slice none 0 0,slice none 0 0,slice none 0 0,iX 0,slice none 0 0] 90)
   rw[show (w.alloc (.cells #[string s,iX 0,bool true] 150)).heap.size=w.heap.size+1 by simp] at j;exact j
  ·exact(kZ _ _ lQ).trans (kZ _ _ (by simp))
 rw[<-ag];refine(zLk w.heap.size (w.heap.size+1) (w.heap.size+2) w2 s zNF ah D).mono ?_;rintro e f ⟨rfl,r⟩;have l:=vl <| r.kept.old ai (by omega) (by omega) (by omega);have K:=vl r;have g:=r.rd.c2;have ak:=r.rd.lt;have al:=r.tb.lt;cases i:qB s with
 |false=>
  rw[i] at g;go_wp2;go_ret2
  refine⟨l.trans (kZ _ _ l.size),λ_=>rfl,λa=>?_⟩;rw[q.out] at a;simp[i] at a
 |true=>
  rw[i] at g;have L:=(zBg s).1 i;have M:zW s<=3:=zX _ _ _ (by decide);have N:xB s<=8:=zX _ _ _ (by decide);have O:zG s<=200:=zX _ _ _ (by decide);have P:zT s<=256:=zX _ _ _ (by decide);have Q:xV s<=3000:=L.2.2.2.2.2.2.2.2.2.1;clear L;go_wp2_with fail;refine(zIk (zW s) (xB s) (zG s) (zT s) (xV s) _ M N O P Q).mono ?_;rintro e E ⟨rfl,F⟩;have R:Hid (Rt (w.heap.size+2) w.heap.size (w.heap.size+1) w2 E s 13 (qB s) _ [(f.heap.size,.cells #[iX (zW s:Nat),iX (xB s:Nat),iX (zG s:Nat),iX (zT s:Nat),iX (xV s:Nat)] 152)]):=(K.alloc _).below F;have t:Hid (Grew w E):=(l.trans (kZ _ _ l.size)).trans (Keep.below F (by have:=l.size;simp;omega));clear F g K l ak al;by_cases A:s.size=qL (zW s) (xB s) (zG s) (zT s) (xV s)+4
  ·have S:((s.size:Int) != ((qL (zW s) (xB s) (zG s) (zT s) (xV s)+4:Nat):Int))=false:=by rw[bne_eq_false_iff_eq];omega
   have G:zJZ s=true:=gJ A;have am:4<=s.size:=by omega
   clear A;generalize qL (zW s) (xB s) (zG s) (zT s) (xV s)+4=an at *;go_wp2_with fail;refine(zIt s E am D).mono ?_;rintro e d ⟨rfl,m⟩;rw[show (zKJ (s.extract 0 (s.size-4))==zIF (s.extract (s.size-4) s.size))=zI6 s from rfl];have u:Hid (Rt (w.heap.size+2) w.heap.size (w.heap.size+1) w2 d s 13 (qB s) _ [(f.heap.size,.cells #[iX (zW s:Nat),iX (xB s:Nat),iX (zG s:Nat),iX (zT s:Nat),iX (xV s:Nat)] 152)]):=R.still m;have I:Hid (Grew w d):=t.trans ⟨m.os,m.output,m.size,λk T _=>m.block k (by have:=t.size;omega) (by have:=t.size;omega)⟩;clear m R t S;cases U:zI6 s with
   |false=>
    go_wp2_with fail;go_ret2
    refine⟨I,λ_=>rfl,λa=>?_⟩;rw[q.out] at a;simp[U] at a
   |true=>
    have o:d.heap[f.heap.size]? =some (.cells #[iX (zW s:Nat),iX (xB s:Nat),iX (zG s:Nat),iX (zT s:Nat),iX (xV s:Nat)] 152):=(u.own _ hU).1;have ao:cX d f.heap.size 0=some (iX (zW s:Nat)):=by simp[World.cell?,o]
    have ap:cX d f.heap.size 1=some (iX (xB s:Nat)):=by simp[World.cell?,o]
    have aq:cX d f.heap.size 2=some (iX (zG s:Nat)):=by simp[World.cell?,o]
    have ar:cX d f.heap.size 3=some (iX (zT s:Nat)):=by simp[World.cell?,o]
    have au:cX d f.heap.size 4=some (iX (xV s:Nat)):=by simp[World.cell?,o]
    clear o;go_wp2_with fail;refine(zLE w.heap.size (w.heap.size+1) (w.heap.size+2) d s 13 (qB s) _ (zW s) (xB s) (zG s) (zT s) (xV s) u.anew D ⟨qG _ _ _,M⟩ ⟨qG _ _ _,N⟩ ⟨qG _ _ _,O⟩ ⟨qG _ _ _,P⟩ Q rfl rfl rfl rfl rfl).mono ?_;rintro e B ⟨rfl,V,p⟩;have av:w.heap.size+2<=B.heap.size:=lY u.HH p.size;have W:Hid (Grew w B):=I.trans ⟨p.os,p.output,p.size,λk T _=>p.block k (by have:=u.HH;omega) (by omega) (by omega)⟩;obtain⟨C,X,Y,ax,aa⟩:=V.mem av rfl rfl rfl rfl rfl rfl;have g:=aa.c2;rw[i,Bool.true_and] at g;have ab:Hid (MemB B (w.heap.size+2) (w.heap.size+1) C (zAy s)/\C.live=slice none 0 0):=⟨X,Y⟩
    clear V p X Y aa u I ao ap aq ar au;cases y:zF2 s with
    |false=>
     rw[y] at g;go_wp2_with fail;go_ret2
     refine⟨W,λ_=>rfl,λa=>?_⟩;rw[q.out] at a;simp[y] at a
    |true=>
     rw[y] at g;have ac:yT s (q3 s) 256=zT s:=by
      have j:=y;unfold zF2 at j;simp only[Bool.and_eq_true,decide_eq_true_iff] at j;exact j.1.1.1.2.2
     have aw:=zLN s i ac;clear ac;go_wp2_with fail;refine(zCI B (w.heap.size+2) (w.heap.size+1) C (zAy s) ab.1 ab.2 aw.n (qG _ _ _) (qG _ _ _)).mono ?_;rintro e ad ⟨rfl,v,n,ae,af,z⟩;have J:Hid (Mem ad (w.heap.size+2) (w.heap.size+1) {C with live:=v} ((zAy s).first.itr n)/\(((zAy s).first.itr n).spreadTo (zG s)).2=false/\Grew w ad):=⟨ae,af,W.trans ⟨z.os,z.output,z.size,λk T _=>z.block k (by omega) (by omega)⟩⟩
     clear ae af z;go_wp2_with fail;go_ret2
     refine⟨J.2.2,λa=>?_,λ_=>⟨w.heap.size+1,w.heap.size+2,_,n,rfl,by omega,by omega,J.1,J.2.1⟩⟩;rw[q.out,i,G,U,y] at a;cases a
  ·have S:((s.size:Int) != ((qL (zW s) (xB s) (zG s) (zT s) (xV s)+4:Nat):Int))=true:=by rw[bne_iff_ne];omega
   have G:zJZ s=false:=gU A;clear A;generalize qL (zW s) (xB s) (zG s) (zT s) (xV s)+4=an at *;go_wp2_with fail;go_ret2
   refine⟨t,λ_=>rfl,λa=>?_⟩;rw[q.out] at a;simp[G] at a
def Wt (H a:Nat)(w:World)(l:List Nat):Prop:=
 (∃v,w.heap[a]? =some (.cells #[v] 147)/\w.ownsRow H 5 1 v l.length (l.map λx=>int .u8 (x:Nat)))/\a<H/\H<=w.heap.size
theorem jO (H a:Nat)(w:World)(l:List Nat)(j:Wt H a w l)(n:Nat)(B:l.length<=1073741824)(C:n<4294967296):
  Calls prog 78 #[pX a,iX n] w λe w'=>e=returned (tuple #[])/\Wt H a w' (l++[n%256])/\Keep H a w w':=by
 obtain⟨⟨v,f,k⟩,b,m⟩:=j;obtain⟨o,p,q,r,s⟩:=info_parts zIp;have D:cX w a 0=some v:=by simp[World.cell?,f]
 have t:=vl f;have h:=vl k;generalize x:l.length=y at *;go_in;go_wp2_with (first|(at_builtin;refine wpList_append_lies _ rfl _ _ 68 rfl H 5 o (int .u8 0) 1 1 underlying68 p q r s rfl (by decide) _ _ _ rfl (h.alloc _) ⟨w.heap.size,0,none⟩ 1 1 [int .u8 ((n:Int)%256)] rfl rfl (cell_one_new _ _ _) (by intro u i;simp at i;subst i;rfl) (by decide) (by unfold maxLen;omega) (by omega) (by simp;omega) _ rfl ?_;intro g cap w2 z A E F;have c:=xF h A m;have d:=(c.block a b).trans t;have G:cX w2 a 0=some v:=(by simp[World.cell?,d]);have q2:w2.frozen? ⟨a,0,none⟩=false:=(by simp[World.frozen?,d])))
 go_end0;refine⟨rfl,⟨⟨slice (qX g) (y+1) cap,?_,xW ?_ (λ_=>Keep.set _ _ _) b⟩,b,by have:=c.size;simp[World.setCell];omega⟩,(xD c).trans (Keep.set _ _ _)⟩
 ·simp[setCell,lU,d]
 ·rw[kX,List.map_append,x]
  exact z
def two (n:Nat):List Nat:=[n/256%256,n%256]
theorem zBB (H a:Nat)(w:World)(l:List Nat)(c:Wt H a w l)(n:Nat)(o:l.length<=1073741823)(d:n<4294967296):
  Calls prog 77 #[pX a,iX n] w λe w'=>e=returned (tuple #[])/\Wt H a w' (l++two n)/\Keep H a w w':=by
 have f:=vl c;have g:Hid ((n:Int)/256=((n/256:Nat):Int)):=by show _=_;omega
 go_in;go_wp2_with fail;rw[g.out];refine(jO H a w l f (n/256) (by omega) (by omega)).mono ?_;rintro e w1 ⟨rfl,h,i⟩;have j:=vl h;go_wp2_with fail;refine(jO H a w1 _ j n (by simp;omega) d).mono ?_;rintro e w2 ⟨rfl,b,k⟩;have m:Hid (Wt H a w2 (l++two n)):=by
  show Wt H a w2 _;rw[hJ] at b;exact b
 go_wp2;go_end0;exact⟨rfl,m,i.trans k⟩
end Go.Proofs.YtbjcfkdnjaiclaaGreat
