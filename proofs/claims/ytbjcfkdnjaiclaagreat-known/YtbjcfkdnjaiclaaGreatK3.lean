import Derived.Test.YtbjcfkdnjaiclaaGreatK0
import Derived.Test.YtbjcfkdnjaiclaaGreatK2
/- Parts of the proof. -/
set_option linter.unusedVariables false
set_option linter.unusedSimpArgs false
set_option maxHeartbeats 4000000
set_option maxRecDepth 100000
namespace Go.Proofs.YtbjcfkdnjaiclaaGreat
open Go.RowKit Go.Proofs.Tryz Go.World
open Go.Value (int slice bool pointer string agg tuple)
open Go.IntKind (i64)
open Go.Ending (returned)
theorem zBI (kinds:Nat):zG kinds 0=1:=rfl
theorem zEF (kinds k m:Nat)(a:k<=m)(b:zG kinds m<=3000):zG kinds k<=3000:=by
 by_cases e:3000<zG kinds k
 ·rw[zDT kinds k m e a] at b
  omega
 ·omega
theorem zKu (kinds k:Nat)(a:zG kinds k<=3000):zG kinds (k+1)=zG kinds k*(kinds+1):=by
 rw[zG];split
 ·rfl
 ·omega
def Tb.aheadF (t:Tb):Nat->Nat->Bool
 |0=>λ_=>false
 |i+1=>t.more (zG t.count i) (t.aheadF i)
theorem Mem.tabN {w:World}{H b:Nat}{c:Tc}{t:Tb}(d:Mem w H b c t)(e:1<=t.nst)(j:1<=t.count):TabN w (Mem.blocks w H b) b t:=by
 have a:=d.tp;obtain⟨rv,l,m⟩:=d.next
 have o:RowsAt w (Mem.blocks w H b) c.next t.nst t.count λi k=>t.next i k:=by
  obtain⟨g,cap,p,q,r,s,u,v,_⟩:=l.get e;exact⟨g,0,cap,.inr ⟨q,r⟩,p,s,u,λi f=>⟨rv i,by rw[Nat.zero_add];exact v i f,(m i f).intsAt j⟩⟩
 refine⟨.inl rfl,?_,⟨_,?_,o⟩,⟨_,?_,d.ends.intsAt e⟩⟩
 ·unfold xB at a;simp[World.cell?,a,d.count]
 ·unfold xB at a;simp[World.cell?,a]
 ·unfold xB at a;simp[World.cell?,a]
theorem Row.put {w:World}{H p i:Nat}{c:Tc}{x:Value}{e:TypeId}{v:Value}{n:Nat}{f:Nat->Value}(a:Row w H e v n f)(b:xB w p c)(d:e≠90:=by decide):Row (w.setCell ⟨p,i,none⟩ x) H e v n f:=a.blk λg _ _ j=>lJ _ _ _ _ (zGO b a d j)
theorem Mem.putAhead {w:World}{H p:Nat}{c:Tc}{t:Tb}(b:Mem w H p c t)(a:Nat):Mem (w.setCell ⟨p,1,none⟩ (iX a)) H p {c with ahead:=iX a} {t with ahead:=a}:=by
 obtain⟨rv,e,f⟩:=b.next
 have d:=b.tp;exact⟨b.tp.set_ahead _,b.stream,rfl,b.hold,b.count,b.rows,b.starts.put d,b.acts.put d,b.pushed.put d,b.kinds.put d,⟨rv,e.put d,λi g=>(f i g).put d⟩,b.ends.put d,b.live.put d,b.longer.put d,by simp[World.setCell];exact b.HH⟩
theorem Mem.putRows {w:World}{H p:Nat}{c:Tc}{t:Tb}(b:Mem w H p c t)(a:Nat):Mem (w.setCell ⟨p,11,none⟩ (iX a)) H p {c with rows:=iX a} {t with rows:=a}:=by
 obtain⟨rv,e,f⟩:=b.next
 have d:=b.tp;exact⟨b.tp.set_rows _,b.stream,b.ahead,b.hold,b.count,rfl,b.starts.put d,b.acts.put d,b.pushed.put d,b.kinds.put d,⟨rv,e.put d,λi g=>(f i g).put d⟩,b.ends.put d,b.live.put d,b.longer.put d,by simp[World.setCell];exact b.HH⟩
theorem Mem.putLonger {w:World}{H p:Nat}{c:Tc}{t:Tb}(a:Mem w H p c t)(v:Value)(n:Nat)(f:Nat->Nat)(d:Row w H 5 v n λi=>int .u8 (f i:Nat)):Mem (w.setCell ⟨p,12,none⟩ v) H p {c with longer:=v} {t with nlong:=n,long:=f}:=by
 obtain⟨rv,e,g⟩:=a.next
 have b:=a.tp;exact⟨a.tp.set_longer _,a.stream,a.ahead,a.hold,a.count,a.rows,a.starts.put b,a.acts.put b,a.pushed.put b,a.kinds.put b,⟨rv,e.put b,λi j=>(g i j).put b⟩,a.ends.put b,a.live.put b,d.put b,by simp[World.setCell];exact a.HH⟩
theorem Mem.putStream {w:World}{H p:Nat}{c:Tc}{t:Tb}(b:Mem w H p c t)(a:Bool):Mem (w.setCell ⟨p,0,none⟩ (bool a)) H p {c with stream:=bool a} {t with stream:=a}:=by
 obtain⟨rv,e,f⟩:=b.next
 have d:=b.tp;exact⟨b.tp.set_stream _,rfl,b.ahead,b.hold,b.count,b.rows,b.starts.put d,b.acts.put d,b.pushed.put d,b.kinds.put d,⟨rv,e.put d,λi g=>(f i g).put d⟩,b.ends.put d,b.live.put d,b.longer.put d,by simp[World.setCell];exact b.HH⟩
theorem Mem.grown {w w':World}{H b:Nat}{c:Tc}{t:Tb}(a:Mem w H b c t)(d:Grew w w'):Mem w' H b c t:=by
 have f:=a.HH;have g:=a.tp.lt;exact a.keep (d.block b (by omega) (by omega)) (λk _ e=>d.block k e (by omega)) d.size
theorem TabN.mono {w:World}{S d:Nat->Prop}{p:Nat}{t:Tb}(c:TabN w S p t)(e:∀b,S b->d b):TabN w d p t:=by
 have j:∀{v n f},IntsAt w S v n f->IntsAt w d v n f:=λ⟨b,o,cap,g,r⟩=>⟨b,o,cap,e b g,r⟩
 refine⟨e p c.safe,c.c7,?_,?_⟩
 ·obtain⟨v,a,b,o,cap,g,l,m,q,s⟩:=c.c8
  exact⟨v,a,b,o,cap,e b g,l,m,q,λi x=>(s i x).imp λu k=>⟨k.1,j k.2⟩⟩
 ·obtain⟨v,a,b⟩:=c.c9;exact⟨v,a,j b⟩
def Tb.looking (t:Tb)(a:Nat):Tb:={t with ahead:=a,rows:=zG t.count a,nlong:=(zG t.count a*t.nst+7)/8,long:=xN (t.aheadF a) (zG t.count a*t.nst)}
theorem zBM (w:World)(H p:Nat)(c:Tc)(t:Tb)(m:Mem w H p c t)(ok:t.OkN)(y:1<=t.nst)(ap:1<=t.count)(a:Nat)(aq:a<=255)(M:zG t.count a<=3000):
  Calls prog 66 #[pointer (some ⟨p,0,none⟩),int i64 a] w λe w'=>e=returned (tuple #[])/\∃ar,Mem w' H p ar (t.looking a)/\Keep w.heap.size p w w':=by
 obtain⟨av,aw,ax,ay,az⟩:=info_parts qU;have O:=vl m;have a4:=m.tp.lt;have a5:=m.HH;have Q:=m.tp.get_ahead;have aA:=m.tp.fz 1;have D:cX w p 7=some (int i64 (t.count:Nat)):=by rw[<-m.count];exact m.tp.get_count
 have aB:=ok.count;have R:=ok.nst;rw[O.out.ahead] at Q;go_in;apply wp_cut;intro a6 aC;go_wp2;apply aC.out;obtain⟨w1,T,f⟩:∃w1,w1=w.setCell ⟨p,1,none⟩ (int i64 (a:Nat))/\Hid (Mem w1 H p {c with ahead:=int i64 a} {t with ahead:=a}/\Keep w.heap.size p w w1):=⟨_,rfl,O.putAhead a,Keep.set _ _ _⟩
 rw[<-T];clear T Q aA D;apply wp_cut;intro a7 aD;have D:cX w1 p 7=some (int i64 (t.count:Nat)):=by have b:=f.1.tp.get_count;rw[f.out.1.count] at b;exact b
 have aE:cX w1 p 11=some (int i64 (t.rows:Nat)):=by have b:=f.1.tp.get_rows;rw[f.out.1.rows] at b;exact b
 have aF:=f.1.tp.fz 11;go_wp2_with fail;refine(zET t.count a _ aB aq).mono ?_;rintro e aG ⟨rfl,rfl⟩;go_wp2;apply aD.out;obtain⟨w2,U,d⟩:∃w2,w2=aG.setCell ⟨p,11,none⟩ (int i64 (zG t.count a:Nat))/\Hid (Mem w2 H p {c with ahead:=int i64 a,rows:=int i64 (zG t.count a:Nat)} {t with ahead:=a,rows:=zG t.count a}/\Keep w.heap.size p w w2):=⟨_,rfl,f.1.putRows _,f.2.trans (Keep.set _ _ _)⟩
 rw[<-U];clear U D aE aF f;refine wp_seq_k ?_;intro aH hK2;have V:Hid (∀a w,_->aH a w):=hK2;clear hK2;obtain⟨rv,W,_⟩:=d.1.next
 obtain⟨aI,aJ,X,_⟩:=W.get y;have aK:cX w2 p 8=some (slice (some ⟨aI,0,none⟩) t.nst aJ):=by rw[<-show c.next=_ from X];exact d.1.tp.get_next
 have a8:H<=w2.heap.size:=d.1.HH;obtain⟨Y,aL,aa,s⟩:=run_makeSlice_full (P:=prog) w2 w2.heap.size 28 4 av _ 1 underlying28 aw ax ay i64 i64 t.nst (by omega) (by rw[az];omega) (by unfold maxLen;omega) lQ;have ab:Hid (OwnF Y w2.heap.size (slice (some ⟨w2.heap.size,0,none⟩) t.nst t.nst) (zG t.count 0*t.nst) (t.aheadF 0)/\Grew w2 Y):=by
  refine⟨?_,⟨s.os,s.output,s.size,λk o _=>s.block k o (by simp)⟩⟩;have b:=aa;rw[Nat.mul_one,zAk _ rfl] at b;rw[zBI,Nat.one_mul];exact b
 clear W X aa s;go_wp2_with fail;apply V.out;clear V aL aK;refine wp_seq_k ?_;intro aM hK3;have ac:Hid (∀a w,_->aM a w):=hK3;clear hK3;have aN:Hid t.OkN:=ok;have ad:Hid (zG t.count a<=3000):=M;clear ok M;go_wp2_with fail;go_loopg [4,5] a (λq aO i wr=>∃j:Nat,q=a-j/\j<=a/\i=int i64 (j:Int)/\OwnF wr w2.heap.size aO (zG t.count j*t.nst) (t.aheadF j)/\Grew w2 wr)
 case atStart=>exact⟨0,rfl,lX,rfl,ab.1,ab.2⟩
 case round=>
  obtain⟨j,E,aP,rfl,z,l⟩:=hrel;have v:Hid (gk=a-j/\OwnF wr w2.heap.size u4 (zG t.count j*t.nst) (t.aheadF j)/\Grew w2 wr):=⟨E,z,l⟩
  have ae:=zEF t.count j a aP ad;have af:=zLK t.count j;have ag:1<=zG t.count j*t.nst:=Nat.mul_pos af y;have a9:zG t.count j*t.nst<=600000:=lY (Nat.mul_le_mul ae R) (by decide);have F:TabN wr (λk=>k<wr.heap.size) p t:=by
   have b:=(d.1.grown l).tabN y ap;have ba:=l.size;refine TabN.mono (S:=Mem.blocks wr H p) ⟨b.safe,b.c7,b.c8,b.c9⟩ λk o=>?_;rcases o with o|o
   ·rw[o];exact(d.1.grown l).tp.lt
   ·exact o.2
  obtain⟨g,A,aQ,bb,ah,aR,aS,B,ai⟩:=Row.get z ag;subst aQ;by_cases aT:j<a
  ·have aU:(j:Int)<(a:Int):=by omega
   have aj:=zKu t.count j ae;have aV:=zEF t.count (j+1) a aT ad;have G:(t.count+1)*(zG t.count j*t.nst)=zG t.count (j+1)*t.nst:=by
    rw[aj,<-Nat.mul_assoc,Nat.mul_comm (t.count+1)]
   have ak:(t.count+1)*(zG t.count j*t.nst)<=800000:=by
    rw[G];exact lY (Nat.mul_le_mul aV R) (by decide)
   have I:=zCT p wr (λk=>k<wr.heap.size) t F (λk b=>b) aN y (zG t.count j) af (t.aheadF j) g 0 A ah (λi J=>by rw[Nat.zero_add];exact B i J) aR aS ak;rw[G] at I;have aW:Hid (Ca 102 #[pointer (some ⟨p,0,none⟩),slice (some ⟨g,0,none⟩) (zG t.count j*t.nst) A] wr λe w'=>∃u,e=returned u/\OwnF w' wr.heap.size u (zG t.count (j+1)*t.nst) (t.aheadF (j+1))/\Grew wr w'):=I;clear I E z l B ai F aj G ak;generalize aX:zG t.count j*t.nst=aY at *;clear aX;go_wp2_with fail;refine aW.mono ?_;rintro e al ⟨u,rfl,am,an⟩;have ao:Hid (OwnF al w2.heap.size u (zG t.count (j+1)*t.nst) (t.aheadF (j+1))/\Grew w2 al):=⟨vF am v.2.2.size,v.2.2.trans (an.lower v.2.2.size v.2.2.size)⟩
   clear am an;go_wp2_with fail;go_roundg (a-(j+1))
   case measure=>rw[v.out.1];omega
   case rel=>exact⟨j+1,rfl,by omega,by go_num,ao.1,ao.2⟩
  ·have aZ:j=a:=by omega
   have aU:(a:Int)<=(j:Int):=by omega
   have a0:Hid (Ca 103 #[slice (some ⟨g,0,none⟩) (zG t.count j*t.nst) A] wr λe w'=>∃u,e=returned u/\Row w' wr.heap.size 5 u ((zG t.count a*t.nst+7)/8) (λk=>int .u8 (xN (t.aheadF a) (zG t.count a*t.nst) k:Nat))/\Grew wr w'):=by
    have b:=zGY wr g 0 A (zG t.count j*t.nst) (t.aheadF j) (λi J=>by rw[Nat.zero_add];exact B i J) ah ag (by omega);rw[aZ] at b ⊢;exact b
   have r:Hid (Mem wr H p {c with ahead:=int i64 a,rows:=int i64 (zG t.count a:Nat)} {t with ahead:=a,rows:=zG t.count a}/\Keep w.heap.size p w wr):=⟨d.1.grown l,d.2.trans (l.lower d.2.size d.2.size)⟩
   clear E z l B ai F;generalize zG t.count j*t.nst=aY at *;go_wp2_with fail;apply ac.out;clear ac;have a1:=r.1.tp.get_longer;have a2:=r.1.tp.fz 12;go_wp2_with fail;refine a0.mono ?_;rintro e C ⟨u,rfl,K,L⟩;obtain⟨bc,bd,a3⟩:=zI K;have x:Hid (Mem C H p {c with ahead:=int i64 a,rows:=int i64 (zG t.count a:Nat)} {t with ahead:=a,rows:=zG t.count a}/\Keep w.heap.size p w C/\Row C H 5 u ((zG t.count a*t.nst+7)/8) (λk=>int .u8 (xN (t.aheadF a) (zG t.count a*t.nst) k:Nat))):=⟨r.1.grown L,r.2.trans (L.lower r.2.size r.2.size),K.mono r.1.HH⟩
   have be:cX C p 12=some c.longer:=x.1.tp.get_longer;have bf:=x.1.tp.fz 12;subst a3;clear K L a1 a2;go_wp2_with fail;go_end0;exact⟨rfl,_,x.1.putLonger _ _ _ x.2.2,x.2.1.trans (Keep.set _ _ _)⟩
structure Laid where
 starts:List Int
 ends:List Int
 next:List (List Int)
 rules:Nat
def zQ (kinds:List Int)(ms:List Sm):Nat->Laid
 |0=>⟨[],[],[],0⟩
 |j+1=>⟨(zQ kinds ms j).starts++[((zQ kinds ms j).next.length:Int)+(ms.getD j ⟨[],[],0,[]⟩).start],(zQ kinds ms j).ends++(ms.getD j ⟨[],[],0,[]⟩).rules.map (yB (zQ kinds ms j).rules),(zQ kinds ms j).next++(ms.getD j ⟨[],[],0,[]⟩).next.map (λrow=>zR kinds row (zQ kinds ms j).next.length 256),(zQ kinds ms j).rules+(ms.getD j ⟨[],[],0,[]⟩).empty.length⟩
def zE (ms:List Sm):Nat->Nat
 |0=>0
 |j+1=>zE ms j+(ms.getD j ⟨[],[],0,[]⟩).next.length
def zU (ms:List Sm):Nat->Nat
 |0=>0
 |j+1=>zU ms j+(ms.getD j ⟨[],[],0,[]⟩).empty.length
theorem qC (ms:List Sm)(i j:Nat)(b:i<=j):zE ms i<=zE ms j:=by
 induction j with
 |zero=>rw[show i=0 by omega];exact lQ
 |succ j a=>
  by_cases e:i=j+1
  ·rw[e];exact lQ
  ·have:=a (by omega)
   rw[zE];omega
theorem zBn (ms:List Sm)(i j:Nat)(b:i<=j):zU ms i<=zU ms j:=by
 induction j with
 |zero=>rw[show i=0 by omega];exact lQ
 |succ j a=>
  by_cases e:i=j+1
  ·rw[e];exact lQ
  ·have:=a (by omega)
   rw[zU];omega
structure ModesOk (ms:List Sm):Prop where
 one:1<=ms.length
 three:ms.length<=3
 states1:∀i (hi:i<ms.length),1<=ms[i].next.length
 wide:∀i (hi:i<ms.length),∀row∈ms[i].next,row.length=256/\∀b,b<256->0<=row.getD b 0/\row.getD b 0<ms[i].next.length
 rules:∀i (hi:i<ms.length),ms[i].rules.length=ms[i].next.length/\∀r∈ms[i].rules,-1<=r/\r<ms[i].empty.length
 start:∀i (hi:i<ms.length),0<=ms[i].start/\ms[i].start<ms[i].next.length
 states:zE ms ms.length<=200
 rules1:1<=zU ms ms.length
 rules8:zU ms ms.length<=8
theorem vH (kinds:List Int)(ms:List Sm)(g:ModesOk ms)(j:Nat)(l:j<=ms.length):(zQ kinds ms j).starts.length=j/\(zQ kinds ms j).next.length=zE ms j/\(zQ kinds ms j).ends.length=zE ms j/\(zQ kinds ms j).rules=zU ms j:=by
 induction j with
 |zero=>exact⟨rfl,rfl,rfl,rfl⟩
 |succ j i=>
  obtain⟨a,b,c,k⟩:=i (by omega);have f:j<ms.length:=by omega
  have e:ms.getD j ⟨[],[],0,[]⟩=ms[j]:=by rw[lW,lV f];rfl
  rw[zQ,zE,zU,e];refine⟨by simp[a],by simp[b],?_,by simp[k]⟩;simp[c,(g.rules j f).1]
theorem zFW (ms:List Sm)(b n i:Nat)(c:b<=n)(d:i<b):(zB ms n).1.getD i 0=(zB ms b).1.getD i 0:=by
 induction n with
 |zero=>omega
 |succ n a=>
  by_cases e:b=n+1
  ·rw[e]
  ·rw[<-a (by omega)]
   have f:=(qI ms n).1;rw[zB];split <;> (rw [lW,kW (by omega),<-lW])
theorem zDH (ms:List Sm)(b i:Nat)(f:i<b):0<=(zB ms b).1.getD i 0/\(zB ms b).1.getD i 0<(zB ms b).2:=by
 induction b generalizing i with
 |zero=>omega
 |succ b a=>
  have c:=(qI ms b).1;have g:=zGs ms b;rw[zB];split
  ·rename_i d
   by_cases e:i=b
   ·subst e
    rw[lW,hY (by omega),c];simp only[Nat.sub_self,List.getElem?_cons_zero,Option.getD_some];exact a _ d
   ·rw[lW,kW (by omega),<-lW]
    exact a i (by omega)
  ·by_cases e:i=b
   ·subst e
    rw[lW,hY (by omega),c];simp only[Nat.sub_self,List.getElem?_cons_zero,Option.getD_some];omega
   ·rw[lW,kW (by omega),<-lW]
    have:=a i (by omega);show _/\_<(((zB ms b).2+1:Nat):Int);omega
theorem zGl (ms:List Sm)(b n:Nat)(d:b<n):((zB ms n).1.getD b 0=((zB ms b).2:Int)↔¬yX ms b<b)/\(zB ms (b+1)).2=if yX ms b<b then(zB ms b).2 else(zB ms b).2+1:=by
 rw[zFW ms (b+1) n b d (by omega)];have c:=(qI ms b).1;rw[zB];split
 ·rename_i a
  refine⟨?_,rfl⟩;rw[lW,hY (by omega),c];simp only[Nat.sub_self,List.getElem?_cons_zero,Option.getD_some];have:=zDH ms b (yX ms b) a
  constructor
  ·intro e;omega
  ·intro e;exact absurd a e
 ·rename_i a
  refine⟨?_,rfl⟩;rw[lW,hY (by omega),c];simp only[Nat.sub_self,List.getElem?_cons_zero,Option.getD_some];exact⟨λ_=>a,λ_=>trivial⟩
theorem zCA (ms:List Sm)(row:List Int)(first:Int)(n b:Nat)(g:b<=n):(zR (zB ms n).1 row first b).length=(zB ms b).2:=by
 induction b with
 |zero=>rfl
 |succ b a=>
  obtain⟨d,f⟩:=zGl ms b n (by omega);have a:=a (by omega);rw[zR,f];by_cases c:yX ms b<b
  ·rw[if_neg (by rw[a];intro e;exact(d.1 e) c),if_pos c,a]
  ·rw[if_pos (by rw[a];exact d.2 c),if_neg c,kX,a]
   rfl
theorem zIC (kinds row:List Int)(first:Int)(P:Int->Prop)(b:Nat)(c:∀i,i<b->P (first+row.getD i 0)):∀x∈zR kinds row first b,P x:=by
 induction b with
 |zero=>intro x a;simp[zR] at a
 |succ b d=>
  intro x a;rw[zR] at a;split at a
  ·rcases kU.1 a with a|a
   ·exact d (λi e=>c i (by omega)) x a
   ·rw[kY.1 a];exact c b (by omega)
  ·exact d (λi e=>c i (by omega)) x a
theorem zCH (ms:List Sm)(b:Nat)(c:1<=b):1<=(zB ms b).2:=by
 induction b with
 |zero=>omega
 |succ b a=>
  rw[(zGl ms b (b+1) (by omega)).2];by_cases e:b=0
  ·subst e;simp
  ·have:=a (by omega)
   split <;> omega
theorem zBU (ms:List Sm)(g:ModesOk ms)(j:Nat)(s:j<=ms.length):
  (∀x∈(zQ (zB ms 256).1 ms j).starts,0<=x/\x<zE ms j)/\
  (∀x∈(zQ (zB ms 256).1 ms j).ends,-1<=x/\x<zU ms j)/\
  (∀r∈(zQ (zB ms 256).1 ms j).next,r.length=(zB ms 256).2/\∀x∈r,0<=x/\x<zE ms j):=by
 induction j with
 |zero=>exact⟨λx d=>by simp[zQ] at d,λx d=>by simp[zQ] at d,λx d=>by simp[zQ] at d⟩
 |succ j l=>
  obtain⟨a,b,c⟩:=l (by omega);obtain⟨s1,s2,t,m⟩:=vH (zB ms 256).1 ms g j (by omega);have k:j<ms.length:=by omega
  have e:ms.getD j ⟨[],[],0,[]⟩=ms[j]:=by rw[lW,lV k];rfl
  have u:=g.start j k;rw[zQ,zE,zU,e];refine⟨λx d=>?_,λx d=>?_,λr f=>?_⟩
  ·rcases kU.1 d with d|d
   ·have:=a x d;omega
   ·rw[kY.1 d,s2];omega
  ·rcases kU.1 d with d|d
   ·have:=b x d;omega
   ·obtain⟨y,o,rfl⟩:=List.mem_map.1 d
    have:=(g.rules j k).2 y o;unfold yB;rw[m];split <;> omega
  ·rcases kU.1 f with f|f
   ·refine⟨(c r f).1,λx d=>?_⟩
    have:=(c r f).2 x d;omega
   ·obtain⟨row,p,rfl⟩:=List.mem_map.1 f
    obtain⟨w1,w2⟩:=g.wide j k row p;refine⟨zCA ms row _ 256 256 lQ,zIC _ _ _ _ 256 λi q=>?_⟩;have:=w2 i q;rw[s2];omega
def zW (ms:List Sm)(acts pushed:List Int)(hold:Nat):Tb where
 stream:=false
 ahead:=0
 hold:=hold
 count:=(zB ms 256).2
 rows:=0
 nst:=zE ms ms.length
 nmode:=ms.length
 nrule:=acts.length
 nlong:=0
 start:=λi=>((zQ (zB ms 256).1 ms ms.length).starts.getD i 0).toNat
 act:=λi=>(acts.getD i 0).toNat
 push:=λi=>(pushed.getD i 0).toNat
 kind:=λb=>((zB ms 256).1.getD b 0).toNat
 next:=λs k=>(((zQ (zB ms 256).1 ms ms.length).next.getD s []).getD k 0).toNat
 ends:=λs=>(zQ (zB ms 256).1 ms ms.length).ends.getD s 0
 live:=λ_=>false
 long:=λ_=>0
theorem zS {a:Type}(l:List a)(i:Nat)(c:a)(b:i<l.length):l.getD i c∈l:=by
 rw[lW,lV b];exact List.getElem_mem b
theorem zCD (ms:List Sm)(acts pushed:List Int)(hold:Nat)(a:ModesOk ms)(d:acts.length=zU ms ms.length):(zW ms acts pushed hold).OkN:=by
 obtain⟨s1,s2,j,l⟩:=vH (zB ms 256).1 ms a ms.length lQ;obtain⟨m,b2,e⟩:=zBU ms a ms.length lQ;refine⟨(qI ms 256).2,a.states,λs k b f=>?_,λs b=>?_⟩
 ·have g:s<zE ms ms.length:=b
  have o:k<(zB ms 256).2:=f;have i:=e _ (zS _ s [] (by omega));have c:=i.2 _ (zS _ k 0 (by omega));show(((zQ (zB ms 256).1 ms ms.length).next.getD s []).getD k 0).toNat<zE ms ms.length;omega
 ·have g:s<zE ms ms.length:=b
  have c:=b2 _ (zS _ s 0 (by omega));show -1<=(zQ (zB ms 256).1 ms ms.length).ends.getD s 0/\(zQ (zB ms 256).1 ms ms.length).ends.getD s 0<(acts.length:Int);rw[d];exact c
theorem OwnI.row {w:World}{H:Nat}{v:Value}{l:List Int}(b:OwnI w H v l)(n:Nat)(c:l.length=n)(f:Nat->Int)(d:∀i,i<n->l.getD i 0=f i):Row w H 3 v n λi=>iX (f i):=by
 unfold Row;subst c;have e:(List.range l.length).map (λi=>iX (f i))=l.map λx=>iX x:=by
  apply List.ext_getElem?;intro i;rw[gZ,gZ];by_cases a:i<l.length
  ·rw[List.getElem?_range a,lV a]
   simp only[Option.map_some];rw[<-d i a,lW,lV a];rfl
  ·rw[List.getElem?_eq_none (by simpa using a),List.getElem?_eq_none (by omega)]
   rfl
 rw[e];exact b
theorem Gt.memB {w:World}{H p:Nat}{c:Tc}{ms:List Sm}{acts pushed:List Int}{hold:Nat}(a:Gt w H p c (zB ms 256).1 acts pushed (zQ (zB ms 256).1 ms ms.length).starts (zQ (zB ms 256).1 ms ms.length).ends (zQ (zB ms 256).1 ms ms.length).next)(d:ModesOk ms)
  (f:∀i,i<acts.length->0<=acts.getD i 0) (g:pushed.length=acts.length) (j:∀i,i<pushed.length->0<=pushed.getD i 0)
  (c0:c.stream=bool false) (c1:c.ahead=iX (0:Nat)) (c2:c.hold=iX (hold:Nat)) (l:c.count=iX ((zB ms 256).2:Nat)) (m:c.rows=iX (0:Nat)) (o:c.longer=slice none 0 0):MemB w H p c (zW ms acts pushed hold):=by
 obtain⟨s1,s2,q,y⟩:=vH (zB ms 256).1 ms d ms.length lQ;obtain⟨r,b2,e⟩:=zBU ms d ms.length lQ;obtain⟨rv,s,t⟩:=a.next
 refine⟨a.tp,c0,c1,c2,l,m,a.starts.row _ s1 _ λi b=>?_,a.acts.1.row _ rfl _ λi b=>?_,a.pushed.1.row _ g _ λi b=>?_,a.kinds.1.row _ (qI ms 256).1 _ λi b=>?_,⟨rv,?_,λi b=>(t i (by rw[s2];exact b)).1.row _ ?_ _ λk u=>?_⟩,a.ends.row _ q _ λi b=>rfl,?_,a.HH⟩
 ·have:=r _ (zS _ i 0 (by omega))
  show _=(((zQ (zB ms 256).1 ms ms.length).starts.getD i 0).toNat:Int);omega
 ·have:=f i b
  show _=((acts.getD i 0).toNat:Int);omega
 ·have v:i<acts.length:=b
  have:=j i (by omega);show _=((pushed.getD i 0).toNat:Int);omega
 ·have:=zDH ms 256 i b
  show _=(((zB ms 256).1.getD i 0).toNat:Int);omega
 ·have a:=s
  rw[s2] at a;exact a
 ·exact(e _ (zS _ i [] (by rw[s2];exact b))).1
 ·have v:i<zE ms ms.length:=b
  have x:=e _ (zS _ i [] (by omega));have z:k<(zB ms 256).2:=u;have A:=x.2 _ (zS _ k 0 (by omega));show _=((((zQ (zB ms 256).1 ms ms.length).next.getD i []).getD k 0).toNat:Int);omega
 ·rw[o]
  exact ownsRow_nil _ _ _ _
def vY (ms:List Sm)(acts pushed:List Int)(hold n:Nat):Tb:=(((zW ms acts pushed hold).first.itr n)).looking 0
theorem ModesOk.fit {ms:List Sm}(c:ModesOk ms)(i:Nat)(a:i<ms.length):ms[i].Fit/\ms[i].next.length<=200:=by
 have f:=qC ms (i+1) ms.length a;have m:=c.states;have e:ms.getD i ⟨[],[],0,[]⟩=ms[i]:=by rw[lW,lV a];rfl
 rw[zE,e] at f;have g:=zBn ms (i+1) ms.length a;have o:=c.rules8;rw[zU,e] at g;have k:=c.start i a;refine⟨⟨λj d=>?_,λj d=>?_,k.1,by omega⟩,by omega⟩
 ·obtain⟨w1,w2⟩:=c.wide i a _ (zS ms[i].next j [] d)
  exact⟨w1,λb l=>by have:=w2 b l;omega⟩
 ·have:=(c.rules i a).2 _ (zS ms[i].rules j 0 d)
  omega
def Made (w w':World)(e:Ending)(ms:List Sm)(acts pushed:List Int)(hold:Nat):Prop:=
 ∃p H c n,e=returned (pointer (some ⟨p,0,none⟩))/\w.heap.size<=p/\w.heap.size<=H/\Mem w' H p c (vY ms acts pushed hold n)/\(((zW ms acts pushed hold).first.itr n).spreadTo (zE ms ms.length)).2=false/\Grew w w'
theorem zOT (w0 w:World)(p:Nat)(c:Tc)(ms:List Sm)(acts pushed:List Int)(hold:Nat)(hG:Gt w w0.heap.size p c (zB ms 256).1 acts pushed (zQ (zB ms 256).1 ms ms.length).starts (zQ (zB ms 256).1 ms ms.length).ends (zQ (zB ms 256).1 ms ms.length).next)(hok:ModesOk ms)(hp0:w0.heap.size<=p)
  (hal:acts.length=zU ms ms.length) (ha:∀i,i<acts.length->0<=acts.getD i 0) (hpl:pushed.length=acts.length) (hp:∀i,i<pushed.length->0<=pushed.getD i 0)
  (c0:c.stream=bool false) (c1:c.ahead=iX (0:Nat)) (c2:c.hold=iX (hold:Nat)) (c7:c.count=iX ((zB ms 256).2:Nat)) (c10:c.live=slice none 0 0) (c11:c.rows=iX (0:Nat)) (c12:c.longer=slice none 0 0) (hK:Keep w0.heap.size p w0 w)
  {u0 u1 u2 u3 u4 u5 u6 u7 u8 u9 u10 u12 u13 u14 u15 u16 u17 u18 u19 u20 u21 u22 u23 u24 u25 u26 u27 u28 u29 u30 u31 u32 u33 u34 u35 u36 u37 u38 u39 u40 u41 u42 u43 u44 u45 u46 u47 u48 u49 u50 u51 u52 u53 u54 u55 u56 u57 u58 u59 u60 u61 u62 u63 u64:Value}:
  Code.wp prog (yT 7 ((f45.body).getD .skip)) (bodyPost prog f45 λe w'=>Made w0 w' e ms acts pushed hold)
   ⟨(u0::u1::u2::u3::u4::u5::u6::u7::u8::u9::u10::pX p::u12::u13::u14::u15::u16::u17::u18::u19::u20::u21::u22::u23::u24::u25::u26::u27::u28::u29::u30::u31::u32::u33::u34::u35::u36::u37::u38::u39::u40::u41::u42::u43::u44::u45::u46::u47::u48::u49::u50::u51::u52::u53::u54::u55::u56::u57::u58::u59::u60::u61::u62::u63::u64::[]).toArray,[]⟩ w:=by
 conv=>arg 2;whnf
 have hokN:=zCD ms acts pushed hold hok hal;have hn1:1<=(zW ms acts pushed hold).nst:=by
  have h1:=qC ms 1 ms.length hok.one;have h2:=hok.states1 0 hok.one;have e:ms.getD 0 ⟨[],[],0,[]⟩=ms[0]'hok.one:=by rw[lW,lV hok.one];rfl
  have h3:zE ms 1=0+(ms.getD 0 ⟨[],[],0,[]⟩).next.length:=rfl
  rw[e] at h3;show 1<=zE ms ms.length;omega
 have hc1:1<=(zW ms acts pushed hold).count:=zCH ms 256 (by decide);have HF:Hid (Ca 65 #[pX p] w λe w'=>e=returned (tuple #[])/\∃v n,Mem w' w0.heap.size p {c with live:=v} ((zW ms acts pushed hold).first.itr n)/\(((zW ms acts pushed hold).first.itr n).spreadTo (zW ms acts pushed hold).nst).2=false/\Keep w0.heap.size p w w'):=
  zFp w w0.heap.size p c (zW ms acts pushed hold) (hG.memB hok ha hpl hp c0 c1 c2 c7 c11 c12) c10 hokN hn1 hc1
 have HKP:Hid (Keep w0.heap.size p w0 w):=hK;have HOK:Hid ((zW ms acts pushed hold).OkN):=hokN;clear hG hok hal ha hpl hp c0 c1 c2 c7 c10 c11 c12 hK hokN;go_wp2_with fail;refine HF.mono ?_;rintro e w1 ⟨rfl,v,n,hM1,hsp,hk1⟩;have A1:Hid (Mem w1 w0.heap.size p {c with live:=v} ((zW ms acts pushed hold).first.itr n)/\(((zW ms acts pushed hold).first.itr n).spreadTo (zW ms acts pushed hold).nst).2=false/\Keep w0.heap.size p w0 w1):=⟨hM1,hsp,HKP.trans hk1⟩
 clear hM1 hsp hk1 HF;have HS:Hid (Ca 66 #[pX p,iX (0:Nat)] w1 λe w'=>e=returned (tuple #[])/\∃c',Mem w' w0.heap.size p c' (((zW ms acts pushed hold).first.itr n).looking 0)/\Keep w0.heap.size p w1 w'):=
  (zBM w1 w0.heap.size p _ _ A1.1 (zJv (t:=(zW ms acts pushed hold).first) (HOK.withLive _) n) (by rw[zHa];exact hn1) (by rw[zA9];exact hc1) 0 (by decide) (by rw[zBI];decide)).mono (by
   rintro e w' ⟨h1,c',h2,h3⟩;exact⟨h1,c',h2,⟨h3.os,h3.output,h3.size,λk k1 k2=>h3.block k (lZ k1 A1.1.HH) k2⟩⟩)
 go_wp2_with fail;refine HS.mono ?_;rintro e w2 ⟨rfl,c',hM2,hk2⟩;have A2:Hid (Mem w2 w0.heap.size p c' (((zW ms acts pushed hold).first.itr n).looking 0)/\Keep w0.heap.size p w0 w2):=⟨hM2,A1.2.2.trans hk2⟩
 clear hM2 hk2 HS;go_wp2_with fail;go_ret;exact⟨p,w0.heap.size,c',n,rfl,hp0,lQ,A2.1,A1.2.1,A2.2.lower lQ hp0⟩
theorem zOU (d w:World)(S:Nat->Prop)(p:Nat)(c:Tc)(ms:List Sm)(acts pushed:List Int)(hold:Nat)(K:Value)(aw:ModesAt d S K ms)(y:∀k,S k->k<d.heap.size)(L:Gt w d.heap.size p c (zB ms 256).1 acts pushed [] [] [])(C:ModesOk ms)(ax:d.heap.size<=p)
  (M:acts.length=zU ms ms.length) (N:∀i,i<acts.length->0<=acts.getD i 0) (O:pushed.length=acts.length) (P:∀i,i<pushed.length->0<=pushed.getD i 0)
  (c0:c.stream=bool false) (c1:c.ahead=iX (0:Nat)) (c2:c.hold=iX (hold:Nat)) (Q:c.count=iX ((zB ms 256).2:Nat)) (R:c.live=slice none 0 0) (T:c.rows=iX (0:Nat)) (U:c.longer=slice none 0 0) (V:Keep d.heap.size p d w)
  {u1 u2 u3 u4 u5 u6 u7 u8 u9 u10 u12 u13 u14 u15 u16 u17 u18 u19 u20 u21 u22 u23 u24 u25 u26 u27 u28 u29 u30 u31 u32 u33 u34 u35 u36 u37 u38 u39 u40 u41 u42 u43 u44 u45 u46 u47 u48 u49 u50 u51 u52 u53 u54 u55 u56 u57 u58 u59 u60 u61 u62 u63 u64:Value}:
  Code.wp prog (yT 5 ((f45.body).getD .skip)) (bodyPost prog f45 λe w'=>Made d w' e ms acts pushed hold)
   ⟨(K::u1::u2::u3::u4::u5::u6::u7::u8::u9::u10::pX p::u12::u13::u14::u15::u16::u17::u18::u19::u20::u21::u22::u23::u24::u25::u26::u27::u28::u29::u30::u31::u32::u33::u34::u35::u36::u37::u38::u39::u40::u41::u42::u43::u44::u45::u46::u47::u48::u49::u50::u51::u52::u53::u54::u55::u56::u57::u58::u59::u60::u61::u62::u63::u64::[]).toArray,[]⟩ w:=by
 conv=>arg 2;whnf
 obtain⟨ay,aZ,rfl,a2,a4,W⟩:=aw;have az:Hid (∀i (a5:i<ms.length),∃b o u0 u1 u3,ay=some ⟨b,o,none⟩/\S b/\d.cell? ⟨b,o+i*4,none⟩=some u0/\d.cell? ⟨b,o+i*4+1,none⟩=some u1/\d.cell? ⟨b,o+i*4+2,none⟩=some (iX ms[i].start)/\d.cell? ⟨b,o+i*4+3,none⟩=some u3/\IntRows d S u0 ms[i].next/\Ints d S u1 ms[i].rules/\Bools d S u3 ms[i].empty):=W;have E:Hid (Gt w d.heap.size p c (zB ms 256).1 acts pushed [] [] []/\Keep d.heap.size p d w):=⟨L,V⟩
 have aA:Hid (∀(f:Tc) (w':World),Gt w' d.heap.size p f (zB ms 256).1 acts pushed (zQ (zB ms 256).1 ms ms.length).starts (zQ (zB ms 256).1 ms ms.length).ends (zQ (zB ms 256).1 ms ms.length).next->Keep d.heap.size p d w'->f={c with starts:=f.starts,next:=f.next,ends:=f.ends}->∀{u0 u1 u2 u3 u4 u5 u6 u7 u8 u9 u10 u12 u13 u14 u15 u16 u17 u18 u19 u20 u21 u22 u23 u24 u25 u26 u27 u28 u29 u30 u31 u32 u33 u34 u35 u36 u37 u38 u39 u40 u41 u42 u43 u44 u45 u46 u47 u48 u49 u50 u51 u52 u53 u54 u55 u56 u57 u58 u59 u60 u61 u62 u63 u64:Value},Code.wp prog (yT 7 ((f45.body).getD .skip)) (bodyPost prog f45 λe w'=>Made d w' e ms acts pushed hold) ⟨(u0::u1::u2::u3::u4::u5::u6::u7::u8::u9::u10::pX p::u12::u13::u14::u15::u16::u17::u18::u19::u20::u21::u22::u23::u24::u25::u26::u27::u28::u29::u30::u31::u32::u33::u34::u35::u36::u37::u38::u39::u40::u41::u42::u43::u44::u45::u46::u47::u48::u49::u50::u51::u52::u53::u54::u55::u56::u57::u58::u59::u60::u61::u62::u63::u64::[]).toArray,[]⟩ w'):=by
  intro f w' aB D m;intros
  exact zOT d w' p f ms acts pushed hold aB C ax M N O P (by rw[m];exact c0) (by rw[m];exact c1) (by rw[m];exact c2) (by rw[m];exact Q) (by rw[m];exact R) (by rw[m];exact T) (by rw[m];exact U) D
 have t:Hid (ModesOk ms):=C;have a6:=C.three;clear W L V C M N O P c0 c1 c2 Q R T U;refine wp_seq_k ?_;intro aC hK0;have X:Hid (∀a w,_->aC a w):=hK0;clear hK0;go_wp2_with fail;apply X.out;clear X;refine wp_seq_k ?_;intro aD hK1;have aE:Hid (∀a w,_->aD a w):=hK1;clear hK1;go_wp2_with fail;go_loopg [12,45] ms.length (λq aF i wr=>∃(j:Nat) (l:Tc),q=ms.length-j/\j<=ms.length/\i=iX (j:Int)/\aF=iX ((zU ms j:Nat):Int)/\Gt wr d.heap.size p l (zB ms 256).1 acts pushed (zQ (zB ms 256).1 ms j).starts (zQ (zB ms 256).1 ms j).ends (zQ (zB ms 256).1 ms j).next/\Turn d.heap.size p w c wr l)
 case atStart=>exact⟨0,c,rfl,lX,rfl,rfl,E.1,Turn.refl _ _ _ _⟩
 case round=>
  obtain⟨j,l,F,Y,rfl,rfl,g,u⟩:=hrel;have aa:Hid (gk=ms.length-j/\Gt wr d.heap.size p l (zB ms 256).1 acts pushed (zQ (zB ms 256).1 ms j).starts (zQ (zB ms 256).1 ms j).ends (zQ (zB ms 256).1 ms j).next/\Turn d.heap.size p w c wr l):=⟨F,g,u⟩
  have aG:zU ms j<=8:=lY (zBn ms j ms.length Y) t.rules8;by_cases v:j<ms.length
  ·have aH:(j:Int)<(ms.length:Int):=by omega
   obtain⟨r,o,v0,v1,aI,rfl,aJ,ab,ac,ad,ae,af,ag,aK⟩:=az j v;have kb:∀x,S x->wr.heap[x]? =d.heap[x]? :=λx z=>by
    have:=y x z;exact(u.keep.block x this (by omega)).trans (E.2.block x this (by omega))
   have A:∀i,wr.cell? ⟨r,i,none⟩=d.cell? ⟨r,i,none⟩:=λi=>gW (kb r aJ);have aL:wr.cell? ⟨r,o+j*4,none⟩=some v0:=(A _).trans ab;have aM:wr.cell? ⟨r,o+j*4+1,none⟩=some v1:=(A _).trans ac;have aN:wr.cell? ⟨r,o+j*4+2,none⟩=some (iX ms[j].start):=(A _).trans ad;have aO:wr.cell? ⟨r,o+j*4+3,none⟩=some aI:=(A _).trans ae;obtain⟨s1,s2,ah,ai⟩:=vH (zB ms 256).1 ms t j Y;have aj:=qC ms (j+1) ms.length v;have aP:=t.states;have B:ms.getD j ⟨[],[],0,[]⟩=ms[j]:=by rw[lW,lV v];rfl
   have ak:zE ms j+ms[j].next.length<=200:=by
    rw[zE,B] at aj;omega
   have al:=(t.rules j v).1;have a7:zU ms j+ms[j].empty.length<=8:=by
    have G:=zBn ms (j+1) ms.length v;have am:=t.rules8;rw[zU,B] at G;omega
   have an:Hid (∀s,Grew wr s->Ca 64 #[pX p,agg #[v0,v1,iX ms[j].start],iX ((zU ms j:Nat):Int)] s λe w'=>e=returned (tuple #[])/\∃f,Gt w' d.heap.size p f (zB ms 256).1 acts pushed (zQ (zB ms 256).1 ms (j+1)).starts (zQ (zB ms 256).1 ms (j+1)).ends (zQ (zB ms 256).1 ms (j+1)).next/\Turn d.heap.size p wr l w' f/\∀k,wr.heap.size<=k->k<s.heap.size->w'.heap[k]? =s.heap[k]?):=by
    intro s H;have ao:∀x,S x->s.heap[x]? =d.heap[x]? :=λx z=>(H.block x (lZ (y x z) g.HH) (by have:=y x z;have:=g.HH;omega)).trans (kb x z);have aQ:=zF4 s d.heap.size p l (zB ms 256).1 acts pushed _ _ _ (g.grown H) ms[j] v0 v1 S (af.keep ao) (ag.keep ao) (λk D=>⟨y k D,by have:=y k D;omega⟩) (zU ms j) (t.fit j v).1 aG (qI ms 256).1 (by rw[s2];exact ak) (by rw[ah,al];exact ak) (by rw[s1];omega);refine aQ.mono ?_;rintro e w' ⟨aR,f,aS,ap⟩;refine⟨aR,f,?_,(Turn.grown H g.HH).trans ap,λk G am=>(ap.rest k (lY g.HH G) ⟨am,λe=>by have:=g.tp.lt;omega,λe=>by have:=(g.starts.lt k e.symm).2;omega,λe=>?_,λe=>by have:=(g.ends.lt k e.symm).2;omega⟩).1⟩
    ·rw[zQ,B,ai]
     exact aS
    ·obtain⟨_,aT,_⟩:=g.next
     have:=(aT.lt k e.symm).2;omega
   have aU:Hid (zU ms (j+1)=zU ms j+ms[j].empty.length):=by show _=_;rw[zU,B]
   have a8:d.heap.size<=wr.heap.size:=g.HH;obtain⟨a9,ba,aV,_⟩:=af;obtain⟨bc,bd,aW,_⟩:=ag;obtain⟨aX,q3,aY,_⟩:=aK;subst aV aW aY;clear F g u kb A ab ac ad ae s1 s2 ah ai aj aP B al;generalize ms[j].next.length=be at *
   generalize ms[j].rules.length=bf at *;generalize ms[j].empty.length=le at *;generalize ms[j].start=bg at *;generalize zU ms j=bh at *;go_wp2_with fail;refine(an _ (kZ _ _ lQ)).mono ?_;rintro e w2 ⟨rfl,f,aq,ar,au⟩;have bi:w2.cell? ⟨wr.heap.size,3,none⟩=some (slice aX le q3):=by
    rw[World.cell?_of_block (au wr.heap.size lQ (by simp))];unfold cell?;rw[gY wr _];rfl
   have av:Hid (Gt w2 d.heap.size p f (zB ms 256).1 acts pushed (zQ (zB ms 256).1 ms (j+1)).starts (zQ (zB ms 256).1 ms (j+1)).ends (zQ (zB ms 256).1 ms (j+1)).next/\Turn d.heap.size p w c w2 f):=⟨aq,aa.2.2.trans ar⟩
   clear aq ar au an aL aM aN aO;go_wp2_with fail;go_roundg (ms.length-(j+1))
   case measure=>rw[aa.out.1];omega
   case rel=>exact⟨j+1,f,rfl,by omega,by go_num,by rw[aU.out];go_num,av.1,av.2⟩
  ·have I:j=ms.length:=by omega
   have aH:(ms.length:Int)<=(j:Int):=by omega
   have J:Hid (Gt wr d.heap.size p l (zB ms 256).1 acts pushed (zQ (zB ms 256).1 ms ms.length).starts (zQ (zB ms 256).1 ms ms.length).ends (zQ (zB ms 256).1 ms ms.length).next/\Keep d.heap.size p d wr/\l={c with starts:=l.starts,next:=l.next,ends:=l.ends}):=by
    rw[<-I];refine⟨?_,E.2.trans u.keep,u.same⟩;rw[I] at g ⊢;exact g
   clear F g u I;go_wp2_with fail;apply aE.out;exact aA l wr J.1 J.2.1 J.2.2
theorem zJm (w:World)(S:Nat->Prop)(G V W:Value)(ms:List Sm)(acts pushed:List Int)(hold:Nat)(X:ModesAt w S G ms)(Y:Ints w S V acts)(aa:Ints w S W pushed)(O:∀k,S k->k<w.heap.size)(o:ModesOk ms)(A:acts.length=zU ms ms.length)(ab:pushed.length=acts.length)(aR:∀i,i<acts.length->0<=acts.getD i 0)(aS:∀i,i<pushed.length->0<=pushed.getD i 0):
  Calls prog 45 #[G,V,W,iX hold] w λe w'=>Made w w' e ms acts pushed hold:=by
 have aT:Hid (ModesAt w S G ms/\Ints w S V acts/\Ints w S W pushed):=⟨X,Y,aa⟩
 have an:Wide ms:=λm ac row aU=>by
  obtain⟨i,B,rfl⟩:=List.getElem_of_mem ac;exact(o.wide i B row aU).1
 have ao:∀m∈ms,m.next.length<=200:=λm ac=>by
  obtain⟨i,B,rfl⟩:=List.getElem_of_mem ac;have aV:=qC ms (i+1) ms.length B;have bj:=o.states;have e:ms.getD i ⟨[],[],0,[]⟩=ms[i]:=by rw[lW,lV B];rfl
  rw[zE,e] at aV;omega
 have ap:=zFV w S G ms X O an o.three ao;have H:Hid (Ca 63 #[G] w λe w'=>∃u,e=returned (tuple #[u,iX ((zB ms 256).2:Nat)])/\OwnI w' w.heap.size u (zB ms 256).1/\Grew w w'):=ap;obtain⟨bk,bl,rfl,_⟩:=X;obtain⟨I,ad,aW,rfl,aX,_,_,aq⟩:=Y.block (by rw[A];exact o.rules1);obtain⟨J,ae,aY,rfl,aZ,_,_,ar⟩:=aa.block (by rw[ab,A];exact o.rules1);have bm:acts.length<=8:=by rw[A];exact o.rules8
 have bn:1<=acts.length:=by rw[A];exact o.rules1
 have bo:pushed.length<=8:=by omega
 have bq:1<=pushed.length:=by omega
 obtain⟨aw,ax,ay,az,aA⟩:=info_parts yL;have a0:Hid (∀j u,(acts.map λx=>iX x)[j]? =some u->w.cell? ((⟨I,ad,none⟩:Addr).add j)=some u):=by
  intro j u b;rw[gZ] at b;obtain⟨x,K,rfl⟩:=Option.map_eq_some_iff.1 b;have af:=(List.getElem?_eq_some_iff.1 K).1;rw[Addr.add_lit,aq j af,lW,K];rfl
 have a1:Hid (∀j u,(pushed.map λx=>iX x)[j]? =some u->w.cell? ((⟨J,ae,none⟩:Addr).add j)=some u):=by
  intro j u b;rw[gZ] at b;obtain⟨x,K,rfl⟩:=Option.map_eq_some_iff.1 b;have af:=(List.getElem?_eq_some_iff.1 K).1;rw[Addr.add_lit,ar j af,lW,K];rfl
 have a2:=O I aX;have a3:=O J aZ;clear aq ar;have aB:Hid (acts.length=zU ms ms.length/\pushed.length=acts.length):=⟨A,ab⟩
 have a4:Hid (ModesOk ms):=o;clear ap A ab Y aa o an ao;go_enter func45,ntmps45
 refine wp_seq_k ?_;intro a5 hK0;have aC:Hid (∀a w,_->a5 a w):=hK0;clear hK0;go_wp2_with fail;apply aC.out;clear aC;refine wp_seq_k ?_;intro a6 hK1;have aD:Hid (∀a w,_->a6 a w):=hK1;clear hK1;go_wp2_with fail;refine H.mono ?_;rintro e w1 ⟨u,rfl,ag,aE⟩;obtain⟨r,s,b⟩:=ag.form;subst b;have P:Hid (OwnI w1 w.heap.size (slice r (zB ms 256).1.length s) (zB ms 256).1/\Grew w w1):=⟨ag,aE⟩
 clear ag aE H;go_wp2_with fail;apply aD.out;clear aD;refine wp_seq_k ?_;intro a7 hK2;have H:Hid (∀a w,_->a7 a w):=hK2;clear hK2;go_wp2_with fail;apply H.out;clear H;obtain⟨w2,ah,z⟩:∃w2,w2=w1.alloc (.cells #[bool false,iX 0,iX hold,slice none 0 0,slice none 0 0,slice none 0 0,slice r (zB ms 256).1.length s,iX ((zB ms 256).2:Nat),slice none 0 0,slice none 0 0,slice none 0 0,iX 0,slice none 0 0] 90)/\
   Hid (xB w2 w1.heap.size ⟨bool false,iX 0,iX hold,slice none 0 0,slice none 0 0,slice none 0 0,slice r (zB ms 256).1.length s,iX ((zB ms 256).2:Nat),slice none 0 0,slice none 0 0,slice none 0 0,iX 0,slice none 0 0⟩/\OwnI w2 w.heap.size (slice r (zB ms 256).1.length s) (zB ms 256).1/\Keep w.heap.size w1.heap.size w w2):=
  ⟨_,rfl,gY w1 _,zL P.1 (kZ _ _ lQ),P.2.lower lQ lQ |>.trans (kZ _ _ P.2.size)⟩
 rw[<-ah];have aF:w1.heap.size<w2.heap.size:=by rw[ah];simp
 have a8:=P.2.size;clear ah;refine wp_seq_k ?_;intro a9 hK3;have aG:Hid (∀a w,_->a9 a w):=hK3;clear hK3;have aH:=z.1.get_acts;have aI:=z.1.fz 4;have bb:w.heap.size<=w2.heap.size:=by omega
 have aJ:Hid (∀j u,(acts.map λx=>iX x)[j]? =some u->w2.cell? ((⟨I,ad,none⟩:Addr).add j)=some u):=λj u b=>by
  have f:=a0 j u b;rw[Addr.add_lit] at f ⊢;exact(gW (z.2.2.block I a2 (by omega))).trans f
 go_wp2_with (first|(at_builtin;refine wpList_append_lies _ rfl _ _ 45 rfl w.heap.size 3 aw (iX 0) 1 8 underlying45 ax ay az aA rfl (by decide) (slice none 0 0) 0 [] rfl (ownsRow_nil _ _ _ _) ⟨I,ad,none⟩ acts.length aW (acts.map λx=>iX x) rfl (by simp) aJ (by intro u b;obtain⟨x,_,rfl⟩:=List.mem_map.1 b;rfl) (by omega) (by unfold maxLen;omega) (by omega) bb w2.heap.size rfl ?_;intro C D L M c ai br;have p:=c.block w1.heap.size aF (by simp[Value.ownBlock]);have bc:cX L w1.heap.size 4=some (slice none 0 0):=(gW p).trans aH;have bd:L.frozen? ⟨w1.heap.size,4,none⟩=false:=(gV p).trans aI))
 obtain⟨d,aj,t⟩:∃d,d=L.setCell ⟨w1.heap.size,4,none⟩ (slice (qX C) acts.length D)/\
   Hid (xB d w1.heap.size ⟨bool false,iX 0,iX hold,slice none 0 0,slice (qX C) acts.length D,slice none 0 0,slice r (zB ms 256).1.length s,iX ((zB ms 256).2:Nat),slice none 0 0,slice none 0 0,slice none 0 0,iX 0,slice none 0 0⟩/\OwnI d w.heap.size (slice r (zB ms 256).1.length s) (zB ms 256).1/\OwnI d w.heap.size (slice (qX C) acts.length D) acts/\Keep w.heap.size w1.heap.size w d):=by
  have ak:=z.1.of_block p;have Q:OwnI L w.heap.size (slice (qX C) acts.length D) acts:=by
   have f:=M;rw[Nat.zero_add,List.nil_append] at f;exact f
  have aK:Grew w2 L:=⟨c.os,c.output,c.size,λk q _=>c.block k q (by simp[Value.ownBlock])⟩
  have R:=zL z.2.1 aK;refine⟨_,rfl,ak.set_acts _,zF R λk _ _ q=>lJ _ _ _ _ (λe=>vO ak R (by decide) (by rw[q];exact congrArg some e.symm)),zF Q λk _ _ q=>lJ _ _ _ _ (λe=>vO ak Q (by decide) (by rw[q];exact congrArg some e.symm)),(z.2.2.trans (aK.lower (by omega) (by omega))).trans (Keep.set _ _ _)⟩
 rw[<-aj];have be:w1.heap.size<d.heap.size:=by rw[aj,zC];exact lZ aF c.size
 clear aj M c ai p bc bd aH aI z aJ;apply aG.out;clear aG;refine wp_seq_k ?_;intro bf hK4;have aL:Hid (∀a w,_->bf a w):=hK4;clear hK4;have y5:=t.1.get_pushed;have aM:=t.1.fz 5;have aN:w.heap.size<=d.heap.size:=by omega
 have aO:Hid (∀j u,(pushed.map λx=>iX x)[j]? =some u->d.cell? ((⟨J,ae,none⟩:Addr).add j)=some u):=λj u b=>by
  have f:=a1 j u b;rw[Addr.add_lit] at f ⊢;exact(gW (t.2.2.2.block J a3 (by omega))).trans f
 go_wp2_with (first|(at_builtin;refine wpList_append_lies _ rfl _ _ 45 rfl w.heap.size 3 aw (iX 0) 1 8 underlying45 ax ay az aA rfl (by decide) (slice none 0 0) 0 [] rfl (ownsRow_nil _ _ _ _) ⟨J,ae,none⟩ pushed.length aY (pushed.map λx=>iX x) rfl (by simp) aO (by intro u b;obtain⟨x,_,rfl⟩:=List.mem_map.1 b;rfl) (by omega) (by unfold maxLen;omega) (by omega) aN d.heap.size rfl ?_;intro E F y M c ai bs;have p:=c.block w1.heap.size be (by simp[Value.ownBlock]);have bg:cX y w1.heap.size 5=some (slice none 0 0):=(gW p).trans y5;have bh:y.frozen? ⟨w1.heap.size,5,none⟩=false:=(gV p).trans aM))
 obtain⟨N,aP,aQ⟩:∃N,N=y.setCell ⟨w1.heap.size,5,none⟩ (slice (qX E) pushed.length F)/\
   Hid (Gt N w.heap.size w1.heap.size ⟨bool false,iX 0,iX hold,slice none 0 0,slice (qX C) acts.length D,slice (qX E) pushed.length F,slice r (zB ms 256).1.length s,iX ((zB ms 256).2:Nat),slice none 0 0,slice none 0 0,slice none 0 0,iX 0,slice none 0 0⟩ (zB ms 256).1 acts pushed [] [] []/\Keep w.heap.size w1.heap.size w N):=by
  have al:=t.1.of_block p;have bi:OwnI y w.heap.size (slice (qX E) pushed.length F) pushed:=by
   have f:=M;rw[Nat.zero_add,List.nil_append] at f;exact f
  have am:Grew d y:=⟨c.os,c.output,c.size,λk q _=>c.block k q (by simp[Value.ownBlock])⟩
  have R:=zL t.2.1 am;have Q:=zL t.2.2.1 am;have fin:∀{v l},OwnI y w.heap.size v l->Fin (y.setCell ⟨w1.heap.size,5,none⟩ (slice (qX E) pushed.length F)) (Rest (y.setCell ⟨w1.heap.size,5,none⟩ (slice (qX E) pushed.length F)) w1.heap.size ⟨bool false,iX 0,iX hold,slice none 0 0,slice (qX C) acts.length D,slice (qX E) pushed.length F,slice r (zB ms 256).1.length s,iX ((zB ms 256).2:Nat),slice none 0 0,slice none 0 0,slice none 0 0,iX 0,slice none 0 0⟩) w.heap.size v l:=λT=>
   ⟨zF T λk _ _ q=>lJ _ _ _ _ (λe=>vO al T (by decide) (by rw[q];exact congrArg some e.symm)),λg U=>⟨by rw[zC];exact(World.ownsRow.lt T g U).2,λe=>vO al T (by decide) (by rw[U,e]),by simp[Value.ownBlock],by simp[Value.ownBlock],by simp[Value.ownBlock]⟩⟩
  refine⟨_,rfl,⟨al.set_pushed _,OwnI.nil _ _,OwnI.nil _ _,⟨λ_=>slice none 0 0,ownsRow_nil _ _ _ _,λi B=>by simp at B⟩,fin R,fin Q,fin bi,by rw[zC];exact lY aN c.size,λg U=>by simp[Value.ownBlock] at U⟩,(t.2.2.2.trans (am.lower (by omega) (by omega))).trans (Keep.set _ _ _)⟩
 rw[<-aP];clear aP M c ai p bg bh y5 aM t aO;apply aL.out;clear aL;exact zOU w N S w1.heap.size _ ms acts pushed hold _ aT.1 O aQ.1 a4 a8 aB.1 aR aB.2 aS rfl rfl rfl rfl rfl rfl rfl aQ.2
end Go.Proofs.YtbjcfkdnjaiclaaGreat
