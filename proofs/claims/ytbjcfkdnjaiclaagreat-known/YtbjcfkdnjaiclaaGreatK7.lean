import Derived.Test.YtbjcfkdnjaiclaaGreatK0
import Derived.Test.YtbjcfkdnjaiclaaGreatK6
/- Parts of the proof. -/
set_option linter.unusedVariables false
set_option linter.unusedSimpArgs false
set_option maxHeartbeats 4000000
set_option maxRecDepth 100000
namespace Go.Proofs.YtbjcfkdnjaiclaaGreat
open Go.RowKit Go.Proofs.Tryz Go.World
open Go.Value (int slice bool pointer string agg tuple)
open Go.IntKind (i64)
open Go.Ending (returned)
theorem Bz.drewed {c X:World}{a:Addr}{u:Value}{H p g cap:Nat}{l:List Int}{n:Int}{i:Nat}(b:Bz c (X.setCell a u) H p g cap l n i):Bz c (X.drew.setCell a u) H p g cap l n i:=⟨b.1,b.2,b.3,⟨b.keep.os,b.keep.output,b.keep.size,b.keep.block⟩,b.stay⟩
theorem zJS (w:World)(H p:Nat)(v:Value)(l:List Int)(m:BdAt w H p v l)(aD:l.length<=1000000000000)(n:Int):
  Calls prog 183 #[pX p,iX n] w λe w'=>e=returned (tuple #[])/\zOs w' H p (zFY l n)/\Keep H H w w'/\Stay w w':=by
 obtain⟨ad,ae,af,ag,ah⟩:=info_parts yL;obtain⟨ao,cap,rfl⟩:=m.own.form;obtain⟨M,N⟩:=m.cell;have B:=vl m;have C:=vl m.own;have O:=m.pH;have P:=m.lt;have ai:=vl <| zN m.own m.blk (by decide);have aj:H<=w.heap.size:=by omega
 go_in;apply wp_cut;intro aE ak;go_wp2_with (first|(at_builtin;refine wpList_append_lies _ rfl _ _ 45 rfl (H) 3 ad (iX 0) 1 8 underlying45 ae af ag ah rfl (by decide) _ _ _ rfl (C.alloc _) ⟨w.heap.size,0,none⟩ 1 1 [iX n] rfl rfl (cell_one_new _ _ _) (by intro u Q;simp at Q;subst Q;rfl) (by decide) (by unfold maxLen;omega) (by omega) (by simp;omega) _ rfl ?_;intro a f w2 D r al aF;have s:w2.heap[p]? =w.heap[p]? :=(r.block p (by simp;omega) ai).trans (lG _ _ _ P);have t0:w2.cell? ⟨p,0,none⟩=some (slice ao l.length cap):=(gW s).trans M;have am:w2.frozen? ⟨p,0,none⟩=false:=(gV s).trans N))
 apply ak.out;obtain⟨z,R,S⟩:∃z,z=w2.setCell ⟨p,0,none⟩ (slice (qX a) (l.length+1) f)/\Hid (Bz w z H p a f l n l.length):=by
  refine⟨_,rfl,?_,?_,?_,?_,?_⟩
  ·have E:=s.trans B.blk
   simp[setCell,lU,E]
  ·have an:=OwnI.snoc D
   have F:a≠p:=λe=>zN D (s.trans B.blk) (by decide) (by rw[<-e];rfl);have y:Row w2 H 3 (slice (qX a) (l.length+1) f) (l.length+1) λj=>iX ((zCr l n l.length).getD j 0):=by
    refine an.row (l.length+1) (by simp) _ λj aG=>?_;simp[zCr]
   exact y.blk λg _ _ ap=>lJ _ _ _ _ λe=>F (by have aq:a=g:=(by simpa[Value.ownBlock] using ap);rw[aq,e])
  ·rw[zC];exact lZ P (lY (by simp) r.size)
  ·exact(xP (xQ C r aj)).trans (zP _ _ _ _ O)
  ·intro k c t d ar au
   have av:k<w.heap.size:=by
    rcases Nat.lt_or_ge k w.heap.size with G|G
    ·exact G
    ·rw[Array.getElem?_eq_none G] at d;cases d
   have aw:k≠p:=λe=>by
    rw[e,B.out.blk] at d;injection d with d;injection d with _ d;exact au d.symm
   exact(lJ _ _ _ _ aw).trans ((r.block k (by simp;omega) (zN C d (Ne.symm ar))).trans ((lG _ _ _ av).trans d))
 rw[<-R];clear R s t0 am D r al M N;have y3:z.cell? ⟨p,0,none⟩=some (slice (qX a) (l.length+1) f):=by unfold cell?;rw[S.out.blk];rfl
 go_wp2;clear y3;go_loopg [4] l.length (λq x wr=>∃i:Nat,q=i/\i<=l.length/\x=iX (i:Int)/\Bz w wr H p a f l n i/\zCF l n l.length=zCF l n i)
 case atStart=>exact⟨l.length,rfl,lQ,(by first|rfl|(congr 1;omega)),S,rfl⟩
 case round=>
  obtain⟨i,I,T,rfl,b,A⟩:=hrel;have U:Hid (gk=i/\Bz w wr H p a f l n i/\zCF l n l.length=zCF l n i):=⟨I,b,A⟩
  have y3:wr.cell? ⟨p,0,none⟩=some (slice (qX a) (l.length+1) f):=by unfold cell?;rw[b.blk];rfl
  have fin:zCF l n i=i->zOs wr H p (zFY l n)/\Keep H H w wr/\Stay w wr:=λe=>by
   refine⟨⟨_,b.blk,?_,O,b.lt⟩,b.keep,b.stay⟩;have y:=b.row;rw[show i=zCF l n l.length by rw[A,e]] at y;have ax:l.length+1=(zFY l n).length:=(zGb _ _ _).symm;rw[ax] at y ⊢;exact Row.ownI y
  have V:=vl fin;clear fin;cases i with
  |zero=>
   clear I b A;go_wp2;go_end0;exact⟨rfl,V rfl⟩
  |succ i=>
   obtain⟨ay,az,J,K⟩:=b.row.at (by omega)
   have W:(zCr l n (i+1)).getD i 0=l.getD i 0:=by rw[zDy l n (i+1) i T,if_pos (by omega)]
   have X:wr.cell? ⟨a,i,none⟩=some (iX (l.getD i 0)):=by rw[<-W];exact J i (by omega)
   have y5:=J (i+1) (by omega);have Y:=K i;have aA:=K (i+1);have aa:Hid (zCF l n (i+1)=if l.getD i 0>n then zCF l n i else i+1):=rfl;have F:a≠p:=λe=>zN b.row b.blk (by decide) (by rw[<-e];rfl);have aH:=zM4 l n i;have aI:(0:Int)<((i+1:Nat):Int):=by omega
   have aJ:(i:Int)<((l.length+1:Nat):Int):=by omega
   have aK:((i+1:Nat):Int)<((l.length+1:Nat):Int):=by omega
   have aL:IntKind.i64.wrap (((i+1:Nat):Int)-1)=(i:Int):=by rw[zAP _ (by omega) (by omega)];omega
   have aB:=vl <| b.step T;clear I b A W ay az J K;generalize l.getD i 0=x at *;generalize (zCr l n (i+1)).getD (i+1) 0=aM at *;by_cases ab:x>n
   ·have L:Hid (zCF l n (i+1)=zCF l n i):=by show _=_;rw[aa.out,if_pos ab]
    go_wp2;go_region;obtain⟨o,ac,aC,q3,q4,q5⟩:∃o,o=(wr.setCell ⟨a,i+1,none⟩ (iX x)).drew/\Hid (Bz w (o.setCell ⟨a,i,none⟩ (iX n)) H p a f l n i)/\o.cell? ⟨p,0,none⟩=some (slice (qX a) (l.length+1) f)/\o.cell? ⟨a,i,none⟩=some (iX x)/\o.frozen? ⟨a,i,none⟩=false:=by
     have E:(wr.setCell ⟨a,i+1,none⟩ (iX x)).heap[p]? =wr.heap[p]? :=lJ _ _ _ _ (Ne.symm F);refine⟨_,rfl,aB.drewed,(gW E).trans y3,?_,?_⟩
     ·show(wr.setCell ⟨a,i+1,none⟩ (iX x)).cell? ⟨a,i,none⟩=_
      rw[World.cell?_setCell_other]
      ·exact X
      ·intro e
       injection e with _ e _;omega
     ·show(wr.setCell ⟨a,i+1,none⟩ (iX x)).frozen? ⟨a,i,none⟩=_
      simpa using Y
    rw[<-ac];clear ac y3 X y5 Y aA;go_wp2;go_roundg i
    case measure=>rw[U.out.1];omega
    case rel=>exact⟨i,rfl,by omega,by go_num,aC,by rw[U.out.2.2,L.out]⟩
   ·have L:Hid (zCF l n (i+1)=i+1):=by show _=_;rw[aa.out,if_neg ab]
    go_wp2;go_end0;exact⟨rfl,V L⟩
def zMJ (l:List Int)(r:Int×Int):List Int:=zFY (zFY l r.1) (r.2+1)
def inR (l:List Int)(rs:List (Int×Int)):List Int:=rs.foldl zMJ l
def xK (sets:List Cs):List Int:=sets.foldl (λl s=>inR l s.ranges) [0,55296,57344,1114112]
theorem zCJ {a c:Type}(f:c->a->c)(b:c)(l:List a)(e:a)(k:Nat)(g:k<l.length):(l.take (k+1)).foldl f b=f ((l.take k).foldl f b) (l.getD k e):=by
 rw[List.take_add_one,List.foldl_append,lW,lV g];rfl
theorem zFg (l:List Int)(n:Int):(zFY l n).length=l.length+1:=zGb _ _ _
theorem zKg (l:List Int)(a:List (Int×Int)):(inR l a).length=l.length+2*a.length:=by
 unfold inR;induction a generalizing l with
 |nil=>simp
 |cons r a b=>
  rw[List.foldl_cons,b];unfold zMJ;rw[zFg,zFg,hU];omega
def yE:List Cs->Nat
 |[]=>0
 |s::l=>s.ranges.length+yE l
theorem zFz (sets:List Cs)(l:List Int):(sets.foldl (λl s=>inR l s.ranges) l).length=l.length+2*yE sets:=by
 induction sets generalizing l with
 |nil=>simp[yE]
 |cons s sets a=>
  rw[List.foldl_cons,a,zKg];simp only[yE];omega
theorem zD1 (sets:List Cs)(j:Nat)(a:j<sets.length):yE (sets.take j)+(sets.getD j ⟨[],false⟩).ranges.length<=yE sets:=by
 induction sets generalizing j with
 |nil=>simp at a
 |cons s sets b=>
  cases j with
  |zero=>simp[yE]
  |succ j=>
   have:=b j (by simpa using a);simp only[List.take_succ_cons,yE,List.getD_cons_succ];omega
structure Bo (w wr:World)(l:List Int):Prop where
 bd:zOs wr (w.heap.size+1) (w.heap.size+2) l
 res:wr.heap[w.heap.size]? =some (.cells #[slice none 0 0] 239)
 keep:Grew w wr
theorem Bo.grown {w wr w2:World}{l:List Int}(c:Bo w wr l)(a:Grew wr w2):Bo w w2 l:=by
 obtain⟨v,b⟩:=c.bd;have d:=b.lt;exact⟨⟨v,(a.block _ d (kJ d)).trans b.blk,zL b.own a,b.pH,lZ d a.size⟩,(a.block _ (by omega) (by omega)).trans c.res,c.keep.trans (a.lower (by omega) (by omega))⟩
theorem Bo.add {w wr:World}{l:List Int}(a:Bo w wr l)(c:l.length<=1000000000000)(n:Int):
  Calls prog 183 #[pointer (some ⟨w.heap.size+2,0,none⟩),iX n] wr λe w'=>e=returned (tuple #[])/\Bo w w' (zFY l n)/\wr.heap.size<=w'.heap.size/\Stay wr w':=by
 obtain⟨v,d⟩:=a.bd;refine(zJS wr _ _ v l d c n).mono ?_;rintro e w2 ⟨rfl,f,b,g⟩;exact⟨rfl,⟨f,(b.block _ (by omega) (by omega)).trans a.res,a.keep.trans (b.lower (by omega) (by omega))⟩,b.size,g⟩
theorem Bo.start (w:World):Bo w (((w.alloc (.cells #[slice none 0 0] 239)).alloc (.cells #[iX 0,iX 55296,iX 57344,iX 1114112] 3)).alloc (.cells #[slice (some ⟨w.heap.size+1,0,none⟩) 4 4] 239)) [0,55296,57344,1114112]:=by
 obtain⟨w1,b⟩:∃w1,w1=w.alloc (.cells #[slice none 0 0] 239):=⟨_,rfl⟩
 have g:w1.heap[w.heap.size]? =some (.cells #[slice none 0 0] 239):=by rw[b];exact gY w _
 have h:Grew w w1:=by rw[b];exact kZ _ _ lQ
 have s1:w1.heap.size=w.heap.size+1:=by rw[b];simp
 rw[<-b];obtain⟨w2,c⟩:∃w2,w2=w1.alloc (.cells #[iX 0,iX 55296,iX 57344,iX 1114112] 3):=⟨_,rfl⟩
 have i:w2.heap[w.heap.size+1]? =some (.cells #[iX 0,iX 55296,iX 57344,iX 1114112] 3):=by rw[c,<-s1];exact gY w1 _
 have f:Grew w1 w2:=by rw[c];exact kZ _ _ lQ
 have s2:w2.heap.size=w.heap.size+2:=by rw[c];simp[s1]
 rw[<-c];obtain⟨a,d⟩:∃a,a=w2.alloc (.cells #[slice (some ⟨w.heap.size+1,0,none⟩) 4 4] 239):=⟨_,rfl⟩
 have j:a.heap[w.heap.size+2]? =some (.cells #[slice (some ⟨w.heap.size+1,0,none⟩) 4 4] 239):=by rw[d,<-s2];exact gY w2 _
 have e:Grew w2 a:=by rw[d];exact kZ _ _ lQ
 have k:a.heap.size=w.heap.size+3:=by rw[d];simp[s2]
 rw[<-d];refine⟨⟨_,j,zL ⟨rfl,.inr ⟨w.heap.size+1,4,#[iX 0,iX 55296,iX 57344,iX 1114112],rfl,by omega,i,lQ,by unfold maxLen;omega,rfl,rfl⟩⟩ e,by omega,by omega⟩,?_,(h.trans (f.lower (by omega) (by omega))).trans (e.lower (by omega) (by omega))⟩;exact(e.block _ (by omega) (by omega)).trans ((f.block _ (by omega) (by omega)).trans g)
def Cs.Small (s:Cs):Prop:=∀r∈s.ranges,-4294967296<=r.1/\r.1<=4294967296/\ -4294967296<=r.2/\r.2<=4294967296
theorem zEq (w:World)(v:Value)(sets:List Cs)(ad:SetsAt w v sets)(aF:sets.length<=24)(L:yE sets<=100000000000)(M:∀s∈sets,s.Small):
  Calls prog 167 #[v] w λe w'=>∃u,e=returned (agg #[u])/\OwnI w' w.heap.size u (xK sets)/\Grew w w':=by
 obtain⟨ao,cap,rfl,_,_,r⟩:=ad;have ae:=vl r;have af:Hid (∀i,i<sets.length->(sets.getD i ⟨[],false⟩).Small):=λi ag=>M _ (zS _ i _ ag);have N:=Bo.start w;have O:=vl L;clear r M L;go_in;apply wp_cut;intro ah g;go_wp2;apply g.out;clear g;apply wp_cut;intro ah g;go_wp2;apply g.out;clear g;generalize ((w.alloc (.cells #[slice none 0 0] 239)).alloc (.cells #[iX 0,iX 55296,iX 57344,iX 1114112] 3)).alloc (.cells #[slice (some ⟨w.heap.size+1,0,none⟩) 4 4] 239)=w1 at *;have ai:=vl N;clear N;go_wp2;go_loopg [12] sets.length (λq i wr=>∃j:Nat,q=sets.length-j/\j<=sets.length/\i=iX (j:Int)/\Bo w wr (xK (sets.take j)))
 case atStart=>exact⟨0,rfl,lX,rfl,by rw[List.take_zero];exact ai⟩
 case round=>
  obtain⟨j,d,aG,rfl,a⟩:=hrel;have P:Hid (gk=sets.length-j/\Bo w wr (xK (sets.take j))):=⟨d,a⟩
  by_cases t:j<sets.length
  ·have aj:(j:Int)<(sets.length:Int):=by omega
   obtain⟨b,o,u,rfl,f,c0,c1,Q⟩:=ae j t;have B:=af j t;have z:=zA c0 f a.keep;have A:=zA c1 f a.keep;obtain⟨s,C⟩:∃s,sets.getD j ⟨[],false⟩=s:=⟨_,rfl⟩
   have D:=zD1 sets j t;rw[C] at Q A B D;have R:Hid (sets.getD j ⟨[],false⟩=s/\yE (sets.take j)+s.ranges.length<=yE sets):=⟨C,D⟩
   obtain⟨S,T,rfl,_,_,U⟩:=Q;have ak:=vl U;have al:Hid s.Small:=B;have aH:s.ranges.length<=100000000000:=by have:=O.out;omega
   clear U B C D c0 c1 d a;go_wp2;have am:Hid (Bo w (wr.alloc (.cells #[slice S s.ranges.length T,bool s.others] 161)) (xK (sets.take j))):=P.2.grown (kZ _ _ lQ);generalize wr.alloc (.cells #[slice S s.ranges.length T,bool s.others] 161)=w2 at *;clear z A;go_loopg [19] s.ranges.length (λq i an=>∃k:Nat,q=s.ranges.length-k/\k<=s.ranges.length/\i=iX (k:Int)/\Bo w an (inR (xK (sets.take j)) (s.ranges.take k)))
   case atStart=>exact⟨0,rfl,lX,rfl,by rw[List.take_zero];exact am⟩
   case round=>
    obtain⟨k,d,aI,rfl,a⟩:=hrel;have E:Hid (gk=s.ranges.length-k/\Bo w wr (inR (xK (sets.take j)) (s.ranges.take k))):=⟨d,a⟩
    by_cases F:k<s.ranges.length
    ·have ap:(k:Int)<(s.ranges.length:Int):=by omega
     obtain⟨aJ,aK,rfl,V,W,X⟩:=ak k F;have z:=zA W V a.keep;have A:=zA X V a.keep;obtain⟨m1,m2,aq,ar⟩:=al _ (zS s.ranges k (0,0) F);have Y:Hid (inR (xK (sets.take j)) (s.ranges.take (k+1))=zMJ (inR (xK (sets.take j)) (s.ranges.take k)) (s.ranges.getD k (0,0))):=zCJ _ _ _ (0,0) k F;have G:Hid ((inR (xK (sets.take j)) (s.ranges.take k)).length+2<=1000000000000):=by
      have aL:=R.2;have aM:=O.out;have r:(xK (sets.take j)).length=4+2*yE (sets.take j):=zFz _ _;show _<=_;rw[zKg,r,List.length_take];omega
     obtain⟨l,aa⟩:∃l,inR (xK (sets.take j)) (s.ranges.take k)=l:=⟨_,rfl⟩
     rw[aa] at Y G E;clear W X d a aa;obtain⟨x,I⟩:∃x,(s.ranges.getD k (0,0)).1=x:=⟨_,rfl⟩
     obtain⟨y,J⟩:∃y,(s.ranges.getD k (0,0)).2=y:=⟨_,rfl⟩
     have aw:Hid (zMJ l (s.ranges.getD k (0,0))=zFY (zFY l x) (y+1)):=by show _=_;unfold zMJ;rw[I,J]
     rw[I] at z m1 m2;rw[J] at A aq ar;clear I J;have ab:Hid (Bo w (wr.alloc (.cells #[iX x,iX y] 255)) l/\(wr.alloc (.cells #[iX x,iX y] 255)).heap[wr.heap.size]? =some (.cells #[iX x,iX y] 255)):=⟨E.2.grown (kZ _ _ lQ),gY wr _⟩
     have ax:Hid (∀m,Bo w m l->_):=λm c=>c.add (lY (Nat.le_add_right _ 2) G) x;have ay:Hid (∀m,Bo w m (zFY l x)->_):=λm c=>c.add (by rw[zFg];have:=G.out;omega) (y+1);go_wp2_with (first|(go_at_call 183;first|(refine (ay _ az).mono ?_;rintro e aN ⟨rfl,aA,-,-⟩)|(refine (ax _ ab.1).mono ?_;rintro e aB ⟨rfl,az,aO,aC⟩;have aP:aB.cell? ⟨wr.heap.size,1,none⟩=some (iX y):=(by have c:=aC _ _ _ ab.2 (by decide) (by decide);unfold cell?;rw[c];rfl))))
     go_roundg (s.ranges.length-(k+1))
     case measure=>rw[E.out.1];omega
     case rel=>exact⟨k+1,rfl,by omega,by go_num,by rw[Y.out,aw.out];exact aA⟩
    ·have ap:(s.ranges.length:Int)<=(k:Int):=by omega
     have p:Hid (Bo w wr (xK (sets.take (j+1)))):=by
      have c:=a;have aD:s.ranges.take k=s.ranges:=List.take_of_length_le (by omega);rw[aD] at c;have e:xK (sets.take (j+1))=inR (xK (sets.take j)) s.ranges:=by
       rw[<-R.out.1];exact zCJ _ _ _ ⟨[],false⟩ j t
      show Bo _ _ _;rw[e];exact c
     clear d a;go_wp2;go_roundg (sets.length-(j+1))
     case measure=>rw[P.out.1];omega
     case rel=>exact⟨j+1,rfl,by omega,by go_num,p⟩
  ·have aj:(sets.length:Int)<=(j:Int):=by omega
   have p:Hid (Bo w wr (xK sets)):=by
    have c:=a;rw[List.take_of_length_le (by omega)] at c;exact c
   obtain⟨v,f⟩:=p.bd;obtain⟨z,-⟩:=f.cell;obtain⟨ac,cv,rfl⟩:=f.own.form;have K:=p.res;have aQ:wr.cell? ⟨w.heap.size,0,none⟩=some (slice none 0 0):=by unfold cell?;rw[K];rfl
   have aR:wr.frozen? ⟨w.heap.size,0,none⟩=false:=by unfold frozen?;rw[K];rfl
   have aE:Hid (OwnI wr (w.heap.size+1) (slice ac (xK sets).length cv) (xK sets)):=f.own;clear d a f K;go_wp2;refine gJ (v:=agg #[slice ac (xK sets).length cv]) (by simp[results,results167,go_sem, *]) rfl ⟨_,rfl,vF (H:=w.heap.size+1) (zY aE (by omega)) (by omega),p.keep.trans (zP _ _ _ _ lQ)⟩
section
structure Aw (w:World)(H p:Nat)(lv tv sv:Value)(a:Ar):Prop where
 blk:w.heap[p]? =some (.cells #[lv,tv,sv] 172)
 lows:OwnI w H lv a.lows
 letters:OwnI w H tv a.letters
 sets:OwnI w H sv a.sets
 ne1:∀g,lv.ownBlock=some g->some g≠tv.ownBlock
 ne2:∀g,lv.ownBlock=some g->some g≠sv.ownBlock
 ne3:∀g,tv.ownBlock=some g->some g≠sv.ownBlock
 pH:p<H
 lt:H<=w.heap.size
section
variable {w w2:World} {H p:Nat} {lv tv sv:Value} {a:Ar}
theorem Aw.grown (b:Aw w H p lv tv sv a)(c:Grew w w2):Aw w2 H p lv tv sv a:=by
 have e:=b.pH;have d:=b.lt;exact⟨(c.block _ (by omega) (by omega)).trans b.blk,zL b.lows c,zL b.letters c,zL b.sets c,b.ne1,b.ne2,b.ne3,b.pH,lY d c.size⟩
theorem Aw.cells (b:Aw w H p lv tv sv a):w.cell? ⟨p,0,none⟩=some lv/\w.cell? ⟨p,1,none⟩=some tv/\w.cell? ⟨p,2,none⟩=some sv/\∀i,w.frozen? ⟨p,i,none⟩=false:=by
 refine⟨?_,?_,?_,λi=>?_⟩
 all_goals first|(unfold cell?;rw[b.blk];rfl)|(unfold frozen?;rw[b.blk];simp)
theorem qA {w:World}{H g cap n m:Nat}{v u:Value}{c:List Value}{e d:Nat}(f:w.ownsRow H e d u m c)(h:∀g,v.ownBlock=some g->some g≠u.ownBlock)(i:v.ownBlock=some g\/w.heap.size<=g):∀k,(Value.slice (qX g) n cap).ownBlock=some k->some k≠u.ownBlock:=by
 intro k j e;have l:g=k:=by simpa[Value.ownBlock] using j
 subst l;rcases i with b|b
 ·exact h g b e
 ·have:=(f.lt g e.symm).2
  omega
theorem zCi {u v:Value}(b:∀g,u.ownBlock=some g->some g≠v.ownBlock):∀g,v.ownBlock=some g->some g≠u.ownBlock:=λg c e=>b g e.symm c.symm
theorem Aw.lows_app {o:Obj}{g cap:Nat}{x:Int}(b:Aw w H p lv tv sv a)(l:w2.ownsRow H 3 1 (slice (qX g) (a.lows.length+1) cap) (a.lows.length+1) ((a.lows.map λx=>iX x)++[iX x]))(c:(w.alloc o).grownBy w2 lv.ownBlock)(d:lv.ownBlock=some g\/w.heap.size<=g):
  Aw (w2.setCell ⟨p,0,none⟩ (slice (qX g) (a.lows.length+1) cap)) H p (slice (qX g) (a.lows.length+1) cap) tv sv {a with lows:=a.lows++[x]}/\Keep H p w (w2.setCell ⟨p,0,none⟩ (slice (qX g) (a.lows.length+1) cap)):=by
 have f:=b.pH;have t:=b.lt;have i:∀j,j<H->w2.heap[j]? =w.heap[j]? :=λj u=>(c.block j (by simp;omega) λe=>by have:=(b.lows.lt j e.symm).1;omega).trans (lG _ _ _ (by omega));have m:=(i p f).trans b.blk;have q:w.heap.size<=w2.heap.size:=lY (by simp) c.size;refine⟨⟨?_,zY (OwnI.snoc l) b.pH,zY (zT c b.letters (λg c e=>b.ne1 g e.symm c.symm)) b.pH,zY (zT c b.sets (λg c e=>b.ne2 g e.symm c.symm)) b.pH,qA b.letters b.ne1 d,qA b.sets b.ne2 d,b.ne3,f,by rw[zC];omega⟩,⟨c.os,c.output,by rw[zC];exact q,λk r s=>(lJ _ _ _ _ s).trans (i k r)⟩⟩;simp[setCell,lU,m]
theorem Aw.letters_app {o:Obj}{g cap:Nat}{x:Int}(b:Aw w H p lv tv sv a)(l:w2.ownsRow H 3 1 (slice (qX g) (a.letters.length+1) cap) (a.letters.length+1) ((a.letters.map λx=>iX x)++[iX x]))(c:(w.alloc o).grownBy w2 tv.ownBlock)(d:tv.ownBlock=some g\/w.heap.size<=g):
  Aw (w2.setCell ⟨p,1,none⟩ (slice (qX g) (a.letters.length+1) cap)) H p lv (slice (qX g) (a.letters.length+1) cap) sv {a with letters:=a.letters++[x]}/\Keep H p w (w2.setCell ⟨p,1,none⟩ (slice (qX g) (a.letters.length+1) cap)):=by
 have f:=b.pH;have t:=b.lt;have i:∀j,j<H->w2.heap[j]? =w.heap[j]? :=λj u=>(c.block j (by simp;omega) λe=>by have:=(b.letters.lt j e.symm).1;omega).trans (lG _ _ _ (by omega));have m:=(i p f).trans b.blk;have q:w.heap.size<=w2.heap.size:=lY (by simp) c.size;refine⟨⟨?_,zY (zT c b.lows b.ne1) b.pH,zY (OwnI.snoc l) b.pH,zY (zT c b.sets (λg c e=>b.ne3 g e.symm c.symm)) b.pH,zCi (qA b.lows (λg c e=>b.ne1 g e.symm c.symm) d),b.ne2,qA b.sets b.ne3 d,f,by rw[zC];omega⟩,⟨c.os,c.output,by rw[zC];exact q,λk r s=>(lJ _ _ _ _ s).trans (i k r)⟩⟩;simp[setCell,lU,m]
theorem Aw.sets_app {o:Obj}{g cap:Nat}{x:Int}(b:Aw w H p lv tv sv a)(l:w2.ownsRow H 3 1 (slice (qX g) (a.sets.length+1) cap) (a.sets.length+1) ((a.sets.map λx=>iX x)++[iX x]))(c:(w.alloc o).grownBy w2 sv.ownBlock)(d:sv.ownBlock=some g\/w.heap.size<=g):
  Aw (w2.setCell ⟨p,2,none⟩ (slice (qX g) (a.sets.length+1) cap)) H p lv tv (slice (qX g) (a.sets.length+1) cap) {a with sets:=a.sets++[x]}/\Keep H p w (w2.setCell ⟨p,2,none⟩ (slice (qX g) (a.sets.length+1) cap)):=by
 have f:=b.pH;have t:=b.lt;have i:∀j,j<H->w2.heap[j]? =w.heap[j]? :=λj u=>(c.block j (by simp;omega) λe=>by have:=(b.sets.lt j e.symm).1;omega).trans (lG _ _ _ (by omega));have m:=(i p f).trans b.blk;have q:w.heap.size<=w2.heap.size:=lY (by simp) c.size;refine⟨⟨?_,zY (zT c b.lows b.ne2) b.pH,zY (zT c b.letters b.ne3) b.pH,zY (OwnI.snoc l) b.pH,b.ne1,zCi (qA b.lows (λg c e=>b.ne2 g e.symm c.symm) d),zCi (qA b.letters (λg c e=>b.ne3 g e.symm c.symm) d),f,by rw[zC];omega⟩,⟨c.os,c.output,by rw[zC];exact q,λk r s=>(lJ _ _ _ _ s).trans (i k r)⟩⟩;simp[setCell,lU,m]
end
end
def Ar.look (a:Ar)(x:Int):Nat:=a.sets.findIdx (·==x)
def Ar.seen (a:Ar)(x:Int):Ar:=if a.look x<a.sets.length then a else{a with sets:=a.sets++[x]}
def AwIs (w:World)(H p:Nat)(a:Ar):Prop:=∃lv tv sv,Aw w H p lv tv sv a
theorem zNd (a:Ar)(x:Int)(j:Nat)(b:j<a.sets.length)(c:a.sets.getD j 0=x)(d:∀i,i<j->a.sets.getD i 0≠x):a.look x=j:=by
 unfold Ar.look;rw[List.findIdx_eq b];rw[lW,lV b] at c;refine⟨by simpa using c,λi e=>?_⟩;have:=d i e;rw[lW,lV (by omega)] at this;simpa using this
theorem zK0 (a:Ar)(x:Int)(c:∀i,i<a.sets.length->a.sets.getD i 0≠x):a.look x=a.sets.length:=by
 unfold Ar.look;rw[List.findIdx_eq_length];intro y d;obtain⟨i,b,rfl⟩:=List.getElem_of_mem d;have:=c i b;rw[lW,lV b] at this;simpa using this
theorem zE9 (w:World)(H p:Nat)(a:Ar)(b:AwIs w H p a)(ac:a.sets.length<=1000000000000)(x:Int):
  Calls prog 168 #[pX p,iX x] w λe w'=>e=returned (iX (a.look x))/\AwIs w' H p (a.seen x)/\Keep H p w w':=by
 obtain⟨G,I,J,K,L⟩:=info_parts yL;obtain⟨lv,tv,sv,b⟩:=b;obtain⟨as_,cs,rfl⟩:=b.sets.form;obtain⟨ad,ae,M,f⟩:=b.cells;have N:=f 2;have v:=vl b;have z:=vl b.sets;have af:=b.pH;have O:=b.lt;have P:Hid (∀i,i<a.sets.length->∃g,as_=some ⟨g,0,none⟩/\cX w g i=some (iX (a.sets.getD i 0))):=by
  intro i k;obtain⟨g,Q⟩:∃g,as_=some ⟨g,0,none⟩:=by
   rcases b.sets.2 with⟨c,ag⟩|⟨g,_,_,c,_⟩
   ·omega
   ·injection c with c _ _
    exact⟨g,c⟩
  subst Q;exact⟨g,rfl,b.sets.cell i k⟩
 have R:Hid (∀j,j<a.sets.length->a.sets.getD j 0=x->(∀i,i<j->a.sets.getD i 0≠x)->a.look x=j/\a.seen x=a):=λj m c o=>by
  have e:=zNd a x j m c o;exact⟨e,by unfold Ar.seen;rw[e,if_pos m]⟩
 have S:Hid ((∀i,i<a.sets.length->a.sets.getD i 0≠x)->a.look x=a.sets.length/\a.seen x={a with sets:=a.sets++[x]}):=λo=>by
  have e:=zK0 a x o;exact⟨e,by unfold Ar.seen;rw[e,if_neg (Nat.lt_irrefl _)]⟩
 go_in;go_wp2;go_loopg [12] a.sets.length (λq i wr=>∃j:Nat,q=a.sets.length-j/\j<=a.sets.length/\i=iX (j:Int)/\(∀i,i<j->a.sets.getD i 0≠x)/\wr=w)
 case atStart=>exact⟨0,rfl,lX,rfl,λi k=>by omega,rfl⟩
 case round=>
  obtain⟨j,T,m,rfl,A,U⟩:=hrel;subst U;have r:Hid (gk=a.sets.length-j/\∀i,i<j->a.sets.getD i 0≠x):=⟨T,A⟩
  by_cases B:j<a.sets.length
  ·have V:(j:Int)<(a.sets.length:Int):=by omega
   obtain⟨g,rfl,ah⟩:=P j B;have W:Hid (a.sets.getD j 0=x->a.look x=j/\a.seen x=a):=λc=>R j B c r.2;have X:Hid (a.sets.getD j 0≠x->∀i,i<j+1->a.sets.getD i 0≠x):=λc i k=>by
    by_cases e:i=j
    ·rw[e];exact c
    ·exact r.2 i (by omega)
   generalize a.sets.getD j 0=y at *;by_cases l:y=x
   ·have d:=W l
    have C:=vl d;have Y:(y==x)=true:=by simp[l]
    go_wp2;go_ret;exact⟨by rw[C.out.1];rfl,by rw[C.out.2];exact⟨_,_,_,v⟩,⟨rfl,rfl,lQ,λ_ _ _=>rfl⟩⟩
   ·have d:=vl <| X l
    have Y:(y==x)=false:=by simp[l]
    go_wp2;go_roundg (a.sets.length-(j+1))
    case measure=>rw[r.out.1];omega
    case rel=>exact⟨j+1,rfl,by omega,by go_num,d,rfl⟩
  ·have V:(a.sets.length:Int)<=(j:Int):=by omega
   have d:=vl <| S λi k=>A i (by omega);have ai:=O;go_wp2_with (first|(at_builtin;refine wpList_append_lies _ rfl _ _ 45 rfl (H) 3 G (iX 0) 1 8 underlying45 I J K L rfl (by decide) _ _ _ rfl (z.alloc _) ⟨wr.heap.size,0,none⟩ 1 1 [iX x] rfl rfl (cell_one_new _ _ _) (by intro u D;simp at D;subst D;rfl) (by decide) (by unfold maxLen;omega) (by omega) (by simp;omega) _ rfl ?_;intro aj ak w2 aa E ab al;have F:=(E.block p (by simp;omega) (λe=>by have:=(z.lt _ e.symm).1;omega)).trans (lG _ _ _ (by omega));have am:=(gW F).trans M;have an:=(gV F).trans N;have s:=Aw.sets_app v aa E (by rcases ab with t|t;exact .inl t;right;rw[t];simp);have ao:=s.1.cells.2.2.1))
   go_ret;refine⟨?_,by rw[d.out.2];exact⟨_,_,_,s.1⟩,s.2⟩;rw[d.out.1]
   first|rfl|(simp;done)|(show _=_;congr 2;omega)
theorem AwIs.grown {w w2:World}{H p:Nat}{a:Ar}(b:AwIs w H p a)(c:Grew w w2):AwIs w2 H p a:=by
 obtain⟨lv,tv,sv,b⟩:=b;exact⟨lv,tv,sv,b.grown c⟩
def Ar.turns (a:Ar)(l:Nat):Bool:=a.letters.length==0||(a.letters.getD (a.letters.length-1) 0 != (l:Int))
def Ar.step (sets:List Cs)(a:Ar)(low:Int):Ar:=
 if(a.seen (qP sets low)).turns (a.look (qP sets low)) then{a.seen (qP sets low) with lows:=(a.seen (qP sets low)).lows++[low],letters:=(a.seen (qP sets low)).letters++[(a.look (qP sets low):Int)]} else a.seen (qP sets low)
def vA (sets:List Cs)(j:Nat):Ar:=((xK sets).take j).foldl (Ar.step sets) ⟨[],[],[]⟩
def yA (sets:List Cs):Ar:=(xK sets).foldl (Ar.step sets) ⟨[],[],[]⟩
theorem zBO (sets:List Cs)(j:Nat)(a:j<(xK sets).length):vA sets (j+1)=(vA sets j).step sets ((xK sets).getD j 0):=zCJ _ _ _ 0 j a
theorem zE3 (sets:List Cs)(j:Nat)(a:(xK sets).length<=j):vA sets j=yA sets:=by
 unfold vA;rw[List.take_of_length_le a];rfl
theorem zEQ (a:Ar)(x:Int):(a.seen x).lows=a.lows/\(a.seen x).letters=a.letters/\(a.seen x).sets.length<=a.sets.length+1:=by
 unfold Ar.seen;split
 ·exact⟨rfl,rfl,by omega⟩
 ·exact⟨rfl,rfl,by simp⟩
theorem zI2 (sets:List Cs)(a:Ar)(low:Int)(n:Nat)(d:a.lows.length=a.letters.length/\a.lows.length<=n/\a.sets.length<=n):(a.step sets low).lows.length=(a.step sets low).letters.length/\(a.step sets low).lows.length<=n+1/\(a.step sets low).sets.length<=n+1:=by
 obtain⟨b,c,e⟩:=zEQ a (qP sets low);unfold Ar.step;split
 ·show((a.seen _).lows++[low]).length=((a.seen _).letters++[_]).length/\((a.seen _).lows++[low]).length<=n+1/\(a.seen _).sets.length<=n+1
  rw[b,c,kX,kX];simp only[List.length_singleton];omega
 ·rw[b,c]
  omega
theorem zC5 (sets:List Cs)(j:Nat)(b:j<=(xK sets).length):(vA sets j).lows.length=(vA sets j).letters.length/\(vA sets j).lows.length<=j/\(vA sets j).sets.length<=j:=by
 induction j with
 |zero=>exact⟨rfl,lQ,lQ⟩
 |succ j a=>
  rw[zBO sets j (by omega)];exact zI2 sets _ _ j (a (by omega))
theorem Ar.step_yes (sets:List Cs)(a:Ar)(low:Int)(b:(a.seen (qP sets low)).turns (a.look (qP sets low))=true):a.step sets low={a.seen (qP sets low) with lows:=(a.seen (qP sets low)).lows++[low],letters:=(a.seen (qP sets low)).letters++[(a.look (qP sets low):Int)]}:=by
 unfold Ar.step;rw[if_pos b]
theorem Ar.step_no (sets:List Cs)(a:Ar)(low:Int)(b:(a.seen (qP sets low)).turns (a.look (qP sets low))=false):a.step sets low=a.seen (qP sets low):=by
 unfold Ar.step;rw[b];rfl
theorem OwnI.some {w:World}{H n cap:Nat}{ao:Option Addr}{l:List Int}(a:OwnI w H (slice ao n cap) l)(b:0<l.length):∃g,ao=some ⟨g,0,none⟩:=by
 rcases a.2 with⟨_,c⟩|⟨g,_,_,a,_⟩
 ·omega
 ·injection a with a _ _
  exact⟨g,a⟩
theorem zAH {w:World}{H:Nat}{v:Value}{l:List Int}(a:OwnI w H v l):Ints w (In w) v l:=zBP a λg b=>(a.lt g b).2
theorem zJe (w:World)(v:Value)(sets:List Cs)(aT:SetsAt w v sets)(aU:sets.length<=24)(a6:yE sets<=100000000000)(a7:∀s∈sets,s.Small):
  Calls prog 127 #[v] w λe w'=>∃lv tv sv,e=returned (agg #[lv,tv,sv])/\ArAt w' lv tv sv (yA sets)/\Grew w w':=by
 obtain⟨ak,am,an,S,X⟩:=info_parts yL;have a8:Hid (∀w',Grew w w'->_):=λw' O=>zEq w' v sets (aT.grown O) aU a6 a7;have a9:Hid (∀w' c,Grew w w'->_):=λw' c O=>zGM w' v sets (aT.grown O) aU (λs ba=>by
  obtain⟨i,ao,rfl⟩:=List.getElem_of_mem ba;have b:=zD1 sets i ao;rw[lW,lV ao] at b;have bs:sets[i].ranges.length<=yE sets:=by simpa using (lY (Nat.le_add_left _ _) b)
  omega) c
 have bt:(xK sets).length<=500000000000:=by
  have:(xK sets).length=4+2*yE sets:=zFz _ _;omega
 have bb:Hid (∀j,j<=(xK sets).length->_):=λj aB=>zC5 sets j aB;have bc:w.heap.size<(w.alloc (.cells #[slice none 0 0,slice none 0 0,slice none 0 0] 172)).heap.size:=by simp
 obtain⟨w1,aV,ap⟩:∃w1,w1=w.alloc (.cells #[slice none 0 0,slice none 0 0,slice none 0 0] 172)/\Hid (Grew w w1/\w1.heap[w.heap.size]? =some (.cells #[slice none 0 0,slice none 0 0,slice none 0 0] 172)/\w.heap.size<w1.heap.size):=⟨_,rfl,kZ _ _ lQ,gY w _,by simp⟩
 go_in;apply wp_cut;intro aW K;go_wp2;apply K.out;clear K;rw[<-aV];clear aV bc;apply wp_cut;intro aW K;go_wp2_with (first|(go_at_call 167;refine(a8 _ ap.1).mono ?_;rintro e w2 ⟨u,rfl,o,aq⟩;obtain⟨P,Y,rfl⟩:=o.form))
 apply K.out;clear K;apply wp_cut;intro aW K;go_wp2;apply K.out;clear K;obtain⟨f,Q,aa,bu⟩:∃f,f=(w2.alloc (.cells #[slice P (xK sets).length Y] 239)).alloc (.cells #[slice none 0 0,slice none 0 0,slice none 0 0] 172)/\Hid (AwIs f (w2.heap.size+2) (w2.heap.size+1) ⟨[],[],[]⟩/\Grew w f/\f.heap[w.heap.size]? =some (.cells #[slice none 0 0,slice none 0 0,slice none 0 0] 172)/\f.cell? ⟨w2.heap.size,0,none⟩=some (slice P (xK sets).length Y)/\(∀i,i<(xK sets).length->∃g,P=some ⟨g,0,none⟩/\g<w2.heap.size/\f.cell? ⟨g,i,none⟩=some (iX ((xK sets).getD i 0))))/\w.heap.size<w2.heap.size:=by
  obtain⟨F,ar⟩:∃F,F=w2.alloc (.cells #[slice P (xK sets).length Y] 239):=⟨_,rfl⟩
  have bd:F.heap[w2.heap.size]? =some (.cells #[slice P (xK sets).length Y] 239):=by rw[ar];exact gY w2 _
  have aC:Grew w2 F:=by rw[ar];exact kZ _ _ lQ
  have aX:F.heap.size=w2.heap.size+1:=by rw[ar];simp
  rw[<-ar];obtain⟨f,Q⟩:∃f,f=F.alloc (.cells #[slice none 0 0,slice none 0 0,slice none 0 0] 172):=⟨_,rfl⟩
  have be:f.heap[w2.heap.size+1]? =some (.cells #[slice none 0 0,slice none 0 0,slice none 0 0] 172):=by rw[Q,<-aX];exact gY F _
  have av:Grew F f:=by rw[Q];exact kZ _ _ lQ
  have bv:f.heap.size=w2.heap.size+2:=by rw[Q];simp[aX]
  have S:=ap.2.2;have X:=aq.size;have bf:Grew w f:=((ap.1.trans (aq.lower (by omega) (by omega))).trans (aC.lower (by omega) (by omega))).trans (av.lower (by omega) (by omega));refine⟨f,Q,⟨⟨_,_,_,⟨be,ownsRow_nil _ _ _ _,ownsRow_nil _ _ _ _,ownsRow_nil _ _ _ _,λg b=>by simp[Value.ownBlock] at b,λg b=>by simp[Value.ownBlock] at b,λg b=>by simp[Value.ownBlock] at b,by omega,by omega⟩⟩,bf,?_,?_,?_⟩,by omega⟩
  ·exact(av.block _ (by omega) (by omega)).trans ((aC.block _ (by omega) (by omega)).trans ((aq.block _ S (by omega)).trans ap.2.1))
  ·have e:f.heap[w2.heap.size]? =some (.cells #[slice P (xK sets).length Y] 239):=(av.block _ (by omega) (by omega)).trans bd
   unfold cell?;rw[e];rfl
  ·intro i ao
   obtain⟨g,aY⟩:∃g,P=some ⟨g,0,none⟩:=by
    rcases o.2 with⟨b,bw⟩|⟨g,_,_,b,_⟩
    ·omega
    ·injection b with b _ _
     exact⟨g,b⟩
   subst aY;have aZ:=(o.lt g rfl).2;exact⟨g,rfl,aZ,zA (zA (o.cell i ao) aZ aC) (by omega) av⟩
 rw[<-Q];clear Q o aq;have bg:=aa.2.2.2.1;go_wp2;clear bg;go_loopg [15] (xK sets).length (λq i wr=>∃j:Nat,q=(xK sets).length-j/\j<=(xK sets).length/\i=iX (j:Int)/\AwIs wr (w2.heap.size+2) (w2.heap.size+1) (vA sets j)/\Keep (w2.heap.size+2) (w2.heap.size+1) f wr)
 case atStart=>exact⟨0,rfl,lX,rfl,by unfold vA;rw[List.take_zero];exact aa.1,⟨rfl,rfl,lQ,λ_ _ _=>rfl⟩⟩
 case round=>
  obtain⟨j,aD,aB,rfl,T,U⟩:=hrel;have r:Hid (gk=(xK sets).length-j/\AwIs wr (w2.heap.size+2) (w2.heap.size+1) (vA sets j)/\Keep (w2.heap.size+2) (w2.heap.size+1) f wr/\Grew w wr):=⟨aD,T,U,aa.2.1.trans (U.lower (by omega) (by omega))⟩
  by_cases a0:j<(xK sets).length
  ·have bh:(j:Int)<((xK sets).length:Int):=by omega
   obtain⟨g,rfl,aY,a1⟩:=aa.2.2.2.2 j a0;have bx:wr.cell? ⟨g,j,none⟩=some (iX ((xK sets).getD j 0)):=(gW (U.block g (by omega) (by omega))).trans a1;have aE:=vl <| zBO sets j a0;have aF:=bb j aB;clear aD U a1;generalize (xK sets).getD j 0=low at *;generalize bz:(xK sets).length=aG at *;obtain⟨x,V⟩:∃x,qP sets low=x:=⟨_,rfl⟩
   obtain⟨a,m⟩:∃a,vA sets j=a:=⟨_,rfl⟩
   rw[m] at aE aF T r;have aH:=zEQ a x;have a2:Hid ((a.seen x).turns (a.look x)=true->vA sets (j+1)={a.seen x with lows:=(a.seen x).lows++[low],letters:=(a.seen x).letters++[(a.look x:Int)]}):=λb=>by
    rw[aE.out];have:=Ar.step_yes sets a low (by rw[V];exact b);rw[V] at this;exact this
   have bi:Hid ((a.seen x).turns (a.look x)=false->vA sets (j+1)=a.seen x):=λb=>by
    rw[aE.out];have:=Ar.step_no sets a low (by rw[V];exact b);rw[V] at this;exact this
   have aI:Hid (∀w',Grew w w'->Ca 169 #[v,iX low] w' λe w2=>e=returned (iX (x:Nat))/\Grew w' w2):=λw' b=>by rw[<-V];exact a9 w' low b
   have aJ:Hid (∀w',AwIs w' (w2.heap.size+2) (w2.heap.size+1) a->_):=λw' b=>zE9 w' _ _ a b (by omega) x;have bA:(a.seen x).lows.length<=500000000000:=by rw[aH.1];omega
   have bj:(a.seen x).letters.length<=500000000000:=by rw[aH.2.1,<-aF.1];omega
   clear aH aF;have bB:w2.heap.size+2<=wr.heap.size:=by
    obtain⟨_,_,_,b⟩:=T;exact b.lt
   clear m V T;by_cases aw:(a.seen x).letters.length=0
   ·have ab:=vl <| a2 (by unfold Ar.turns;rw[aw];rfl)
    have y:=vl aw;clear aw;go_wp2_with (first|(go_at_call 169;refine(aI _ r.2.2.2).mono ?_;rintro e a3 ⟨rfl,D⟩)|(go_at_call 168;refine(aJ _ (r.2.1.grown D)).mono ?_;rintro e p ⟨rfl,⟨lv,tv,sv,d⟩,L⟩;obtain⟨ac,aK,q2,ad⟩:=d.cells;obtain⟨A,B,rfl⟩:=d.lows.form;obtain⟨at_,z,M⟩:=d.letters.form;rw[y.out] at M;subst M;have G:Hid (Aw p (w2.heap.size+2) (w2.heap.size+1) (slice A (a.seen x).lows.length B) (slice at_ 0 z) sv (a.seen x)/\Keep (w2.heap.size+2) (w2.heap.size+1) f p):=⟨d,(r.2.2.1.trans (D.lower (by omega) (by omega))).trans L⟩;have ax:=d.lt;have W:p.ownsRow (w2.heap.size+2) 3 1 (slice A (a.seen x).lows.length B) (a.seen x).lows.length ((a.seen x).lows.map λx=>iX x):=d.lows;clear d L D ad q2)|(at_builtin;refine wpList_append_lies _ rfl _ _ 45 rfl (w2.heap.size+2) 3 ak (iX 0) 1 8 underlying45 am an S X rfl (by decide) _ _ _ rfl (ae.alloc _) ⟨l.heap.size,0,none⟩ 1 1 [iX (a.look x:Int)] rfl rfl (zBg _ [iX (a.look x:Int)] _ _ (zC _ _ _)) (by intro u o;simp at o;subst o;rfl) (by decide) (by unfold maxLen;omega) (by omega) (by simp[zC];omega) _ rfl ?_;intro H I C aL af aM bk;have ag:C.heap[w2.heap.size+1]? =(l.setCell ⟨w2.heap.size+1,0,none⟩ (slice (qX J) ((a.seen x).lows.length+1) cap)).heap[w2.heap.size+1]? :=(af.block _ (by simp[zC];omega) (λe=>by have:=(ae.lt _ e.symm).1;omega)).trans (lG _ _ _ (by rw[zC];omega));have bl:C.cell? ⟨w2.heap.size+1,1,none⟩=some (slice at_ 0 z):=(gW ag).trans aN;have bm:C.frozen? ⟨w2.heap.size+1,1,none⟩=false:=(gV ag).trans aO)|(at_builtin;refine wpList_append_lies _ rfl _ _ 45 rfl (w2.heap.size+2) 3 ak (iX 0) 1 8 underlying45 am an S X rfl (by decide) _ _ _ rfl (W.alloc _) ⟨p.heap.size,0,none⟩ 1 1 [iX low] rfl rfl (cell_one_new _ _ _) (by intro u o;simp at o;subst o;rfl) (by decide) (by unfold maxLen;omega) (by omega) (by simp;omega) _ rfl ?_;intro J cap l aP R aQ bo;have ah:l.heap[w2.heap.size+1]? =p.heap[w2.heap.size+1]? :=(R.block _ (by simp;omega) (λe=>by have:=(W.lt _ e.symm).1;omega)).trans (lG _ _ _ (by omega));have t0:l.cell? ⟨w2.heap.size+1,0,none⟩=some (slice A (a.seen x).lows.length B):=(gW ah).trans ac;have bp:l.frozen? ⟨w2.heap.size+1,0,none⟩=false:=(gV ah).trans (G.1.cells.2.2.2 0);have E:=Aw.lows_app G.1 aP R (by rcases aQ with m|m;exact .inl m;right;rw[m];simp);have aN:(l.setCell ⟨w2.heap.size+1,0,none⟩ (slice (qX J) ((a.seen x).lows.length+1) cap)).cell? ⟨w2.heap.size+1,1,none⟩=some (slice at_ 0 z):=E.1.cells.2.1;have ae:(l.setCell ⟨w2.heap.size+1,0,none⟩ (slice (qX J) ((a.seen x).lows.length+1) cap)).ownsRow (w2.heap.size+2) 3 1 (slice at_ 0 z) 0 ((a.seen x).letters.map λx=>iX x):=(by have b:=E.1.letters;unfold OwnI at b;rw[show ({a.seen x with lows:=(a.seen x).lows++[low]}:Ar).letters=(a.seen x).letters from rfl,y.out] at b;exact b);have bq:w2.heap.size+2<=l.heap.size:=lY ax (lY (by simp) R.size);have aO:(l.setCell ⟨w2.heap.size+1,0,none⟩ (slice (qX J) ((a.seen x).lows.length+1) cap)).frozen? ⟨w2.heap.size+1,1,none⟩=false:=E.1.cells.2.2.2 1))
    have ai:Hid (AwIs (C.setCell ⟨w2.heap.size+1,1,none⟩ (slice (qX H) (0+1) I)) (w2.heap.size+2) (w2.heap.size+1) (vA sets (j+1))/\Keep (w2.heap.size+2) (w2.heap.size+1) f (C.setCell ⟨w2.heap.size+1,1,none⟩ (slice (qX H) (0+1) I))):=by
     have aR:C.ownsRow (w2.heap.size+2) 3 1 (slice (qX H) ((a.seen x).letters.length+1) I) ((a.seen x).letters.length+1) (((a.seen x).letters.map λx=>iX x)++[iX (a.look x:Int)]):=by rw[y.out];exact aL
     have b:=Aw.letters_app E.1 (g:=H) (cap:=I) (x:=(a.look x:Int)) aR af (by
      rcases aM with m|m
      ·exact .inl m
      ·right;rw[m];simp[zC])
     rw[show ({a.seen x with lows:=(a.seen x).lows++[low]}:Ar).letters=(a.seen x).letters from rfl,y.out] at b;rw[ab.out];exact⟨⟨_,_,_,b.1⟩,(G.2.trans E.2).trans b.2⟩
    go_roundg (aG-(j+1))
    case measure=>rw[r.out.1];omega
    case rel=>exact⟨j+1,rfl,by omega,by go_num,ai.1,ai.2⟩
   ·obtain⟨k,O⟩:∃k,(a.seen x).letters.length=k+1:=⟨(a.seen x).letters.length-1,by omega⟩
    have y:=vl O;obtain⟨t,aS⟩:∃t,(a.seen x).letters.getD k 0=t:=⟨_,rfl⟩
    have a4:=vl aS;have ay:(a.seen x).turns (a.look x)=(t != (a.look x:Int)):=by
     unfold Ar.turns;rw[O,<-aS];rfl
    have bC:k<=500000000000:=by omega
    clear aw O aS bj;cases a5:(t != (a.look x:Int)) with
    |true=>
     have ab:=vl <| a2 (by rw[ay,a5]);clear ay;go_wp2_with (first|(go_at_call 169;refine(aI _ r.2.2.2).mono ?_;rintro e a3 ⟨rfl,D⟩)|(go_at_call 168;refine(aJ _ (r.2.1.grown D)).mono ?_;rintro e p ⟨rfl,⟨lv,tv,sv,d⟩,L⟩;obtain⟨ac,aK,q2,ad⟩:=d.cells;obtain⟨A,B,rfl⟩:=d.lows.form;obtain⟨at_,z,M⟩:=d.letters.form;rw[y.out] at M;subst M;obtain⟨N,rfl⟩:=d.letters.some (by rw[y.out];omega);have br:p.cell? ⟨N,k,none⟩=some (iX t):=(by rw[<-a4.out];exact d.letters.cell k (by rw[y.out];omega));have G:Hid (Aw p (w2.heap.size+2) (w2.heap.size+1) (slice A (a.seen x).lows.length B) (slice (qX N) (k+1) z) sv (a.seen x)/\Keep (w2.heap.size+2) (w2.heap.size+1) f p):=⟨d,(r.2.2.1.trans (D.lower (by omega) (by omega))).trans L⟩;have ax:=d.lt;have W:p.ownsRow (w2.heap.size+2) 3 1 (slice A (a.seen x).lows.length B) (a.seen x).lows.length ((a.seen x).lows.map λx=>iX x):=d.lows;clear d L D ad q2)|(at_builtin;refine wpList_append_lies _ rfl _ _ 45 rfl (w2.heap.size+2) 3 ak (iX 0) 1 8 underlying45 am an S X rfl (by decide) _ _ _ rfl (ae.alloc _) ⟨l.heap.size,0,none⟩ 1 1 [iX (a.look x:Int)] rfl rfl (zBg _ [iX (a.look x:Int)] _ _ (zC _ _ _)) (by intro u o;simp at o;subst o;rfl) (by decide) (by unfold maxLen;omega) (by omega) (by simp[zC];omega) _ rfl ?_;intro H I C aL af aM bk;have ag:C.heap[w2.heap.size+1]? =(l.setCell ⟨w2.heap.size+1,0,none⟩ (slice (qX J) ((a.seen x).lows.length+1) cap)).heap[w2.heap.size+1]? :=(af.block _ (by simp[zC];omega) (λe=>by have:=(ae.lt _ e.symm).1;omega)).trans (lG _ _ _ (by rw[zC];omega));have bl:C.cell? ⟨w2.heap.size+1,1,none⟩=some (slice (qX N) (k+1) z):=(gW ag).trans aN;have bm:C.frozen? ⟨w2.heap.size+1,1,none⟩=false:=(gV ag).trans aO)|(at_builtin;refine wpList_append_lies _ rfl _ _ 45 rfl (w2.heap.size+2) 3 ak (iX 0) 1 8 underlying45 am an S X rfl (by decide) _ _ _ rfl (W.alloc _) ⟨p.heap.size,0,none⟩ 1 1 [iX low] rfl rfl (cell_one_new _ _ _) (by intro u o;simp at o;subst o;rfl) (by decide) (by unfold maxLen;omega) (by omega) (by simp;omega) _ rfl ?_;intro J cap l aP R aQ bo;have ah:l.heap[w2.heap.size+1]? =p.heap[w2.heap.size+1]? :=(R.block _ (by simp;omega) (λe=>by have:=(W.lt _ e.symm).1;omega)).trans (lG _ _ _ (by omega));have t0:l.cell? ⟨w2.heap.size+1,0,none⟩=some (slice A (a.seen x).lows.length B):=(gW ah).trans ac;have bp:l.frozen? ⟨w2.heap.size+1,0,none⟩=false:=(gV ah).trans (G.1.cells.2.2.2 0);have E:=Aw.lows_app G.1 aP R (by rcases aQ with m|m;exact .inl m;right;rw[m];simp);have aN:(l.setCell ⟨w2.heap.size+1,0,none⟩ (slice (qX J) ((a.seen x).lows.length+1) cap)).cell? ⟨w2.heap.size+1,1,none⟩=some (slice (qX N) (k+1) z):=E.1.cells.2.1;have ae:(l.setCell ⟨w2.heap.size+1,0,none⟩ (slice (qX J) ((a.seen x).lows.length+1) cap)).ownsRow (w2.heap.size+2) 3 1 (slice (qX N) (k+1) z) (k+1) ((a.seen x).letters.map λx=>iX x):=(by have b:=E.1.letters;unfold OwnI at b;rw[show ({a.seen x with lows:=(a.seen x).lows++[low]}:Ar).letters=(a.seen x).letters from rfl,y.out] at b;exact b);have bq:w2.heap.size+2<=l.heap.size:=lY ax (lY (by simp) R.size);have aO:(l.setCell ⟨w2.heap.size+1,0,none⟩ (slice (qX J) ((a.seen x).lows.length+1) cap)).frozen? ⟨w2.heap.size+1,1,none⟩=false:=E.1.cells.2.2.2 1))
     have ai:Hid (AwIs (C.setCell ⟨w2.heap.size+1,1,none⟩ (slice (qX H) (k+1+1) I)) (w2.heap.size+2) (w2.heap.size+1) (vA sets (j+1))/\Keep (w2.heap.size+2) (w2.heap.size+1) f (C.setCell ⟨w2.heap.size+1,1,none⟩ (slice (qX H) (k+1+1) I))):=by
      have aR:C.ownsRow (w2.heap.size+2) 3 1 (slice (qX H) ((a.seen x).letters.length+1) I) ((a.seen x).letters.length+1) (((a.seen x).letters.map λx=>iX x)++[iX (a.look x:Int)]):=by rw[y.out];exact aL
      have b:=Aw.letters_app E.1 (g:=H) (cap:=I) (x:=(a.look x:Int)) aR af (by
       rcases aM with m|m
       ·exact .inl m
       ·right;rw[m];simp[zC])
      rw[show ({a.seen x with lows:=(a.seen x).lows++[low]}:Ar).letters=(a.seen x).letters from rfl,y.out] at b;rw[ab.out];exact⟨⟨_,_,_,b.1⟩,(G.2.trans E.2).trans b.2⟩
     go_roundg (aG-(j+1))
     case measure=>rw[r.out.1];omega
     case rel=>exact⟨j+1,rfl,by omega,by go_num,ai.1,ai.2⟩
    |false=>
     have ab:=vl <| bi (by rw[ay,a5]);clear ay;go_wp2_with (first|(go_at_call 169;refine(aI _ r.2.2.2).mono ?_;rintro e a3 ⟨rfl,D⟩)|(go_at_call 168;refine(aJ _ (r.2.1.grown D)).mono ?_;rintro e p ⟨rfl,⟨lv,tv,sv,d⟩,L⟩;obtain⟨ac,aK,q2,ad⟩:=d.cells;obtain⟨A,B,rfl⟩:=d.lows.form;obtain⟨at_,z,M⟩:=d.letters.form;rw[y.out] at M;subst M;obtain⟨N,rfl⟩:=d.letters.some (by rw[y.out];omega);have br:p.cell? ⟨N,k,none⟩=some (iX t):=(by rw[<-a4.out];exact d.letters.cell k (by rw[y.out];omega));have G:Hid (Aw p (w2.heap.size+2) (w2.heap.size+1) (slice A (a.seen x).lows.length B) (slice (qX N) (k+1) z) sv (a.seen x)/\Keep (w2.heap.size+2) (w2.heap.size+1) f p):=⟨d,(r.2.2.1.trans (D.lower (by omega) (by omega))).trans L⟩;have ax:=d.lt;have W:p.ownsRow (w2.heap.size+2) 3 1 (slice A (a.seen x).lows.length B) (a.seen x).lows.length ((a.seen x).lows.map λx=>iX x):=d.lows;clear d L D ad q2))
     go_roundg (aG-(j+1))
     case measure=>rw[r.out.1];omega
     case rel=>exact⟨j+1,rfl,by omega,by go_num,by rw[ab.out];exact⟨_,_,_,G.1⟩,G.2⟩
  ·have bh:((xK sets).length:Int)<=(j:Int):=by omega
   have e:=zE3 sets j (by omega);rw[e] at T;obtain⟨lv,tv,sv,b⟩:=T;obtain⟨ac,aK,q2,-⟩:=b.cells;obtain⟨A,B,rfl⟩:=b.lows.form;obtain⟨at_,z,rfl⟩:=b.letters.form;obtain⟨as_,cs,rfl⟩:=b.sets.form;have aj:wr.heap[w.heap.size]? =some (.cells #[slice none 0 0,slice none 0 0,slice none 0 0] 172):=(U.block _ (by omega) (by omega)).trans aa.2.2.1;have bD:wr.cell? ⟨w.heap.size,0,none⟩=some (slice none 0 0):=by unfold cell?;rw[aj];rfl
   have bE:wr.cell? ⟨w.heap.size,1,none⟩=some (slice none 0 0):=by unfold cell?;rw[aj];rfl
   have bF:wr.cell? ⟨w.heap.size,2,none⟩=some (slice none 0 0):=by unfold cell?;rw[aj];rfl
   have az:∀i,wr.frozen? ⟨w.heap.size,i,none⟩=false:=λi=>by unfold frozen?;rw[aj];simp
   have bG:=az 0;have bH:=az 1;have bI:=az 2;have aA:Hid (Aw wr (w2.heap.size+2) (w2.heap.size+1) (slice A (yA sets).lows.length B) (slice at_ (yA sets).letters.length z) (slice as_ (yA sets).sets.length cs) (yA sets)/\Grew w wr):=⟨b,r.2.2.2⟩
   clear b aD U aj az e;go_wp2;refine gJ (v:=agg #[slice A (yA sets).lows.length B,slice at_ (yA sets).letters.length z,slice as_ (yA sets).sets.length cs]) (by simp[results,results127,go_sem, *]) rfl ⟨_,_,_,rfl,⟨zAH (zY (zY (zY aA.1.lows (by omega)) (by omega)) (by omega)),zAH (zY (zY (zY aA.1.letters (by omega)) (by omega)) (by omega)),zAH (zY (zY (zY aA.1.sets (by omega)) (by omega)) (by omega))⟩,?_⟩;exact((aA.2.trans (zP _ _ _ _ lQ)).trans (zP _ _ _ _ lQ)).trans (zP _ _ _ _ lQ)
theorem zMd (a b:List Int)(d:a.length=b.length)(e:∀i,i<a.length->a.getD i 0=b.getD i 0):a=b:=by
 apply List.ext_getElem d;intro i c f;have:=e i c;rw[lW,lV c,lW,lV f] at this;exact this
theorem zIs (w:World)(m o:Value)(a b:List Int)(v:Ints w (In w) m a)(z:Ints w (In w) o b)(N:a.length<=1000000000000):
  Calls prog 132 #[m,o] w λe w'=>e=returned (bool (decide (a=b)))/\Grew w w':=by
 obtain⟨O,P,rfl,_,_,A⟩:=v;obtain⟨Q,R,rfl,_,_,B⟩:=z;have C:=vl A;have p:=vl B;by_cases f:a.length=b.length
 ·have D:Hid ((∀i,i<a.length->a.getD i 0=b.getD i 0)->a=b):=λc=>zMd a b f c
  have E:Hid (∀i,a.getD i 0≠b.getD i 0->a≠b):=λi c e=>c (by rw[e]);rw[<-f] at p ⊢;have S:((a.length:Int) != (b.length:Int))=false:=by simp[f]
  go_in;go_wp2;go_loopg [13] a.length (λq i wr=>∃j:Nat,q=a.length-j/\j<=a.length/\i=iX (j:Int)/\(∀i,i<j->a.getD i 0=b.getD i 0)/\Grew w wr)
  case atStart=>exact⟨0,rfl,lX,rfl,λi r=>by omega,⟨rfl,rfl,lQ,λ_ _ _=>rfl⟩⟩
  case round=>
   obtain⟨j,F,T,rfl,s,k⟩:=hrel;have d:Hid (gk=a.length-j/\(∀i,i<j->a.getD i 0=b.getD i 0)/\Grew w wr):=⟨F,s,k⟩
   by_cases t:j<a.length
   ·have G:(j:Int)<(a.length:Int):=by omega
    obtain⟨U,V,rfl,H,c1⟩:=C j t;obtain⟨b2,W,rfl,I,c2⟩:=p j t;have X:=zA c1 H k;have Y:=zA c2 I k;have J:=vl <| E j;have K:Hid (a.getD j 0=b.getD j 0->∀i,i<j+1->a.getD i 0=b.getD i 0):=λc i r=>by
     by_cases e:i=j
     ·rw[e];exact c
     ·exact d.2.1 i (by omega)
    generalize a.getD j 0=x at *;generalize b.getD j 0=y at *;by_cases g:x=y
    ·have L:=vl <| K g
     have u:(x != y)=false:=by simp[g]
     go_wp2;go_quiet (fail);go_wp2;go_roundg (a.length-(j+1))
     case measure=>rw[d.out.1];omega
     case rel=>exact⟨j+1,rfl,by omega,by go_num,L,d.2.2.trans (Keep.alike (w':=wr.drewN nq) ⟨rfl,rfl,rfl⟩)⟩
    ·have M:=vl <| J g
     have u:(x != y)=true:=by simp[g]
     go_wp2;go_quiet (fail);go_wp2;go_ret;exact⟨by rw[gG M.out];rfl,d.2.2.trans (Keep.alike (w':=wr.drewN nq) ⟨rfl,rfl,rfl⟩)⟩
   ·have G:(a.length:Int)<=(j:Int):=by omega
    have l:=vl <| D λi r=>s i (by omega);go_wp2;go_ret;exact⟨by rw[dQ l.out];rfl,d.2.2⟩
 ·have l:Hid (a≠b):=λe=>f (by rw[e])
  have u:((a.length:Int) != (b.length:Int))=true:=by simp;omega
  go_in;go_wp2;go_ret;exact⟨by rw[gG l.out];rfl,⟨rfl,rfl,lQ,λ_ _ _=>rfl⟩⟩
theorem zIj (w:World)(step:Nat)(a:step=1\/step=64\/step=4096):
  Calls prog 176 #[iX step] w λe w'=>e=returned (iX (if step=64 then 2048 else if step=4096 then 65536 else 0))/\w'=w:=by
 rcases a with rfl|rfl|rfl
 all_goals
  go_in;go_wp2;go_ret;exact⟨rfl,rfl⟩
end Go.Proofs.YtbjcfkdnjaiclaaGreat
