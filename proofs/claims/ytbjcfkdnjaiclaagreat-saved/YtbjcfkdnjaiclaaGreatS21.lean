import Derived.Deep.RegionHeld3
import Derived.Test.YtbjcfkdnjaiclaaGreatS0
import Derived.Test.YtbjcfkdnjaiclaaGreatS20
/- Parts of the proof. -/
set_option linter.unusedVariables false
set_option linter.unusedSimpArgs false
set_option maxHeartbeats 4000000
set_option maxRecDepth 100000
namespace Go.Proofs.YtbjcfkdnjaiclaaGreat
open Go.RowKit Go.Proofs.Tryz Go.World
open Go.Value (int slice bool pointer string agg tuple)
open Go.IntKind (i64)
open Go.Ending (returned)
theorem zKr (w:World)(X:Nat->Prop)(d p:Nat)(t:Tr)(h:TreeIn X w d p t)(hc:t.chars<=25)(o:Tm)(ho:o.least<=300/\o.most<=300):
  Calls prog 199 #[pX p,agg #[iX (o.least:Int),iX (o.most:Int),bool o.endless]] w λe w'=>∃p',e=returned (pX p')/\TreeIn (λi=>(X i/\i<w.heap.size)\/w.heap.size<=i) w' (d+1) p' (zCg t o)/\Grew w w':=by
 obtain⟨i0,hi0,hz0,hz1,hz2⟩:=info_parts zEN;have hC:o.copies<=301:=by
  unfold Tm.copies;split
  ·split <;> omega
  ·omega
 obtain⟨w1,hw1,y0,y1,y2,K1⟩:∃w1,w1=w.alloc (.cells #[iX (o.least:Int),iX (o.most:Int),bool o.endless] 163)/\w1.cell? ⟨w.heap.size,0,none⟩=some (iX (o.least:Int))/\w1.cell? ⟨w.heap.size,1,none⟩=some (iX (o.most:Int))/\w1.cell? ⟨w.heap.size,2,none⟩=some (bool o.endless)/\Hid (Grew w w1/\w1.heap.size=w.heap.size+1):=by
  have hb:=gX w (.cells #[iX (o.least:Int),iX (o.most:Int),bool o.endless] 163);refine⟨_,rfl,?_,?_,?_,kZ _ _ lQ,by simp⟩
  all_goals (unfold cell?;rw[hb];rfl)
 have hpl:p<w.heap.size:=by
  cases d with
  |zero=>exact False.elim h.at
  |succ d=>exact h.at.1
 have y7:w1.cell? ⟨p,7,none⟩=some (iX (t.chars:Int)):=(gZ (K1.1.block p hpl (by omega))).trans h.chars;have HCP:Hid (∀w',Grew w1 w'->Ca 165 #[agg #[iX (o.least:Int),iX (o.most:Int),bool o.endless]] w' λx w2=>x=returned (iX (o.copies:Int))/\Grew w1 w2/\w2.cell? ⟨w.heap.size,0,none⟩=some (iX (o.least:Int))/\w2.cell? ⟨w.heap.size,1,none⟩=some (iX (o.most:Int))/\w2.cell? ⟨w.heap.size,2,none⟩=some (bool o.endless)/\w2.cell? ⟨p,7,none⟩=some (iX (t.chars:Int))):=λw' hk=>by
  refine(zEi w' o.least o.most o.endless).mono ?_;rintro x w2 ⟨rfl,hk2⟩;have hs:=K1.2;have hk3:Grew w1 w2:=hk.trans (hk2.lower hk.size hk.size);exact⟨rfl,hk3,zA y0 (by show w.heap.size<w1.heap.size;omega) hk3,zA y1 (by show w.heap.size<w1.heap.size;omega) hk3,zA y2 (by show w.heap.size<w1.heap.size;omega) hk3,zA y7 (by show p<w1.heap.size;omega) hk3⟩
 have hm0:(0:Int)<=(t.chars:Int)*(o.copies:Int):=Int.mul_nonneg (by omega) (by omega);have hm1:(t.chars:Int)*(o.copies:Int)<=25*301:=by
  rw[<-Int.natCast_mul];have:=Nat.mul_le_mul hc hC;omega
 have HWR:Hid (IntKind.i64.wrap ((t.chars:Int)*(o.copies:Int))=(t.chars:Int)*(o.copies:Int)):=zBo _ (by omega) (by omega);have HBD:Hid (∀w,Ca 195 #[iX (IntKind.i64.wrap ((t.chars:Int)*(o.copies:Int)))] w λe w'=>e=returned (iX (xY (t.chars*o.copies):Int))/\w'=w):=λw=>by
  have:=zDv w (t.chars*o.copies);rw[show ((t.chars*o.copies:Nat):Int)=(t.chars:Int)*(o.copies:Int) by rw[Int.natCast_mul]] at this;rw[HWR.out];exact this
 have HA:Hid (zCg t o=Tr.plain ⟨4,⟨[],false⟩,[t],o.least,o.most,o.endless,xY (t.chars*o.copies)⟩):=rfl;have HBL:Hid (xY (t.chars*o.copies)<=25):=zEU _;have HT:=vl h;clear h hC;generalize xY (t.chars*o.copies)=bn at *;generalize o.copies=C at *;generalize zCg t o=ag at *;go_in;apply wp_cut;intro K0 HK0;go_wp2;apply HK0.out;clear HK0;rw[<-hw1];clear hw1 hpl;apply wp_cut;intro K0 HK0;go_region_held3 (λw'=>w'.cell? ⟨w.heap.size,0,none⟩=some (iX (o.least:Int))/\w'.cell? ⟨w.heap.size,1,none⟩=some (iX (o.most:Int))/\w'.cell? ⟨w.heap.size,2,none⟩=some (bool o.endless)/\w'.cell? ⟨p,7,none⟩=some (iX (t.chars:Int))) (first|exact⟨z0,z1,z2,z3⟩|go_keep) (first|(go_at_call 165;go_must ((refine (HCP w1.drew (Keep.alike (w':=w1.drew) ⟨rfl,rfl,rfl⟩)).mono ?_;rintro x w3 ⟨rfl,hk3,z0,z1,z2,z3⟩)))|(go_at_call 195;go_must ((refine (HBD _).mono ?_;rintro x w4 ⟨rfl,hw4⟩;have hw5:=hw4.symm;subst hw5))));show K0 _ _;apply HK0.out;clear HK0;have HY:Hid (Grew w w3/\w.heap.size+1<=w3.heap.size):=⟨K1.1.trans (hk3.lower K1.1.size K1.1.size),by have:=K1.2;have:=hk3.size;omega⟩
 obtain⟨P,hP⟩:∃P,P=w3.heap.size:=⟨_,rfl⟩
 obtain⟨w4,hw4,H4,HK4⟩:∃w4,w4=w3.alloc (.cells #[iX 4,slice none 0 0,bool false,slice none 0 0,iX (o.least:Int),iX (o.most:Int),bool o.endless,iX (bn:Int)] 165)/\Tw w4 (λi=>(X i/\i<w.heap.size)\/w.heap.size<=i) (P+1) P d (slice none 0 0) [] ⟨4,⟨[],false⟩,[],o.least,o.most,o.endless,bn⟩/\Hid (Grew w w4/\TreeIn (λj=>((X j/\j<w.heap.size)\/w.heap.size<=j)/\j≠P/\some j≠(Value.slice none 0 0).ownBlock) w4 d p t/\w.heap.size+1<=P):=by
  have hk4:Grew w (w3.alloc (.cells #[iX 4,slice none 0 0,bool false,slice none 0 0,iX (o.least:Int),iX (o.most:Int),bool o.endless,iX (bn:Int)] 165)):=HY.1.trans (kZ _ _ (by have:=HY.2;omega));have hb:=gX w3 (.cells #[iX 4,slice none 0 0,bool false,slice none 0 0,iX (o.least:Int),iX (o.most:Int),bool o.endless,iX (bn:Int)] 165);rw[<-hP] at hb;have h5:=HY.2;refine⟨_,rfl,⟨hb,rfl,ownsRow_nil _ _ _ _,rfl,λi hi=>absurd hi (Nat.not_lt_zero _),by omega,by rw[hP];simp,⟨by show 0<=_;omega,by show o.least<=_;omega,by show o.most<=_;omega,HBL⟩⟩,hk4,?_,by rw[hP];exact h5⟩;exact HT.step (hk4.agree λi hi _=>⟨hi,by omega⟩) λi hi hx=>⟨.inl ⟨hx,hi⟩,by omega,by simp[Value.ownBlock]⟩
 rw[<-hP,<-hw4];have HP:=vl hP;clear hw4 hP HT hk3 HY K1 HCP HBD HWR z0 z1 z2 z3 y0 y1 y2 y7;obtain⟨x3,-,xf⟩:=H4.cells;have xf3:=xf 3;have OW:w4.ownsRow (P+1) 158 1 (slice none 0 0) 0 (yI []):=H4.own;have hlt:P<w4.heap.size:=H4.lt;have HT4:=vl H4;clear H4 xf HP;apply wp_cut;intro K0 HK0;go_wp2_with (first|(at_builtin;refine wpList_append_lies _ rfl _ _ 118 rfl (P+1) 158 i0 (pointer none) 1 8 underlying118 hi0 hz0 hz1 hz2 rfl (by decide) _ _ _ rfl (OW.alloc _) ⟨w4.heap.size,0,none⟩ 1 1 [pX p] rfl rfl (cell_one_new _ _ _) (by intro u hu;simp at hu;subst hu;rfl) (by decide) (by unfold maxLen;omega) (by omega) (by simp;omega) _ rfl ?_;intro gg cap w5 hown hgrow hat hlt2;have hPB:=hgrow.block P (by simp;omega) (by intro e;cases e);have x3b:w5.cell? ⟨P,3,none⟩=some (slice none 0 0):=(gZ hPB).trans ((gW _ _ _ hlt).trans x3);have xf3b:w5.frozen? ⟨P,3,none⟩=false:=(gY hPB).trans ((frozen?_alloc_past _ _ _ hlt).trans xf3)))
 apply HK0.out;clear HK0;obtain⟨w6,hw6,H6⟩:∃w6,w6=w5.setCell ⟨P,3,none⟩ (slice (qX gg) 1 cap)/\Hid (Tw w6 (λi=>(X i/\i<w.heap.size)\/w.heap.size<=i) (P+1) P d (slice (qX gg) 1 cap) [p] ⟨4,⟨[],false⟩,[t],o.least,o.most,o.endless,bn⟩/\KeepO P (slice none 0 0) (slice (qX gg) 1 cap) w4 w6):=⟨_,rfl,HT4.app (m:=0) (q:=p) (u:=t) rfl (by omega) HK4.2.1 hown hgrow (by rcases hat with ha|ha;exact .inl ha;right;rw[ha];simp)⟩
 rw[<-hw6];clear hw6 hown hgrow hat hlt2 hPB x3b xf3b OW x3 xf3;have HPL:Hid (Ca 190 #[pX P] w6 λe w'=>∃p',e=returned (pX p')/\TreeIn (λi=>(X i/\i<w.heap.size)\/w.heap.size<=i) w' (d+1) p' ag/\Grew w w'):=by
  have hP:=HK4.2.2;have h4:=HK4.1;have hk6:Keep (P+1) P w4 w6:=H6.2.keep HT4.own HT4.lt;refine(zE8 w6 _ (d+1) P _ (H6.1.in (.inr (by omega)) λj hj=>.inr (by omega))).mono ?_;rintro e w7 ⟨p',rfl,ht,hk7⟩;have hs6:=hk6.size;have hs4:=h4.size;refine⟨p',rfl,?_,h4.trans (Keep.trans (w':=w6) ⟨hk6.os,hk6.output,hk6.size,λk h1 _=>hk6.block k (by omega) (by omega)⟩ (hk7.lower (by omega) (by omega)))⟩;rw[HA.out];exact ht.mono λi _ hx=>by
   rcases hx with hx|hx
   ·exact hx.1
   ·exact .inr (by omega)
 clear H6 HT4 HK4 HA;go_wp2_with (first|(go_at_call 190;refine HPL.mono ?_;rintro e w7 ⟨p',rfl,ht7,hk7⟩))
 go_ret;exact⟨p',rfl,ht7,hk7⟩
def DefsIn (b:Nat)(X:Nat->Prop)(w:World)(D:Nat)(v:Value)(l:List (ByteArray×Tr)):Prop:=
 ∃ao cap,v=slice ao l.length cap/\l.length<=cap/\cap<=maxLen/\∀i,i<l.length->∃g o p,ao=some ⟨g,o,none⟩/\In w g/\g<b/\w.cell? ⟨g,o+i*2,none⟩=some (string (l.getD i (⟨#[]⟩,Tr.none)).1)/\w.cell? ⟨g,o+i*2+1,none⟩=some (pointer (some ⟨p,0,none⟩))/\TreeIn X w D p (l.getD i (⟨#[]⟩,Tr.none)).2/\(l.getD i (⟨#[]⟩,Tr.none)).1.size<=100000
theorem DefsIn.go {b:Nat}{X:Nat->Prop}{w w2:World}{D:Nat}{v:Value}{l:List (ByteArray×Tr)}(f:DefsIn b X w D v l)(j:∀i,X i->i<b)(a:Agree (·<b) w w2):DefsIn b X w2 D v l:=by
 obtain⟨ao,cap,k,m,q,r⟩:=f;refine⟨ao,cap,k,m,q,λi s=>?_⟩;obtain⟨g,o,p,t,d,c,c0,c1,u,x⟩:=r i s;have e:=a.block g d c;exact⟨g,o,p,t,lZ d a.size,c,(gZ e).trans c0,(gZ e).trans c1,u.go (a.mono λi _ c=>j i c),x⟩
def TrAns (w:World)(X:Nat->Prop)(b:Nat)(s:ByteArray)(dv:Value)(r:Rx)(D:Nat)(a:Option (Tr×Nat))(e:Ending)(w':World):Prop:=
 Keep w.heap.size b w w'/\match a with
 |none=>∃v q,e=returned (tuple #[pointer v,bool false])/\RxAt w' b s dv {r with at_:=q}
 |some (t,q)=>∃p,e=returned (tuple #[pointer (some ⟨p,0,none⟩),bool true])/\TreeIn (λi=>X i\/w.heap.size<=i) w' (D+4*q) p t/\RxAt w' b s dv {r with at_:=q}
theorem zK8 (s:ByteArray)(p:Nat)(l:List (ByteArray×Tr))(j:Nat)(a:j<l.length):zDl s p (l.drop j)=if zJ s p (braced (l.getD j (⟨#[]⟩,Tr.none)).1) then some ((l.getD j (⟨#[]⟩,Tr.none)).2,p+(braced (l.getD j (⟨#[]⟩,Tr.none)).1).size) else zDl s p (l.drop (j+1)):=by
 rw[List.drop_eq_getElem_cons a,lW,lV a];rfl
theorem zK7 (w:World)(X:Nat->Prop)(b:Nat)(s:ByteArray)(dv:Value)(r:Rx)(F:RxAt w b s dv r)(ag:s.size<=1048576)(aH:r.at_<=s.size)(D:Nat)(defs:List (ByteArray×Tr))(ah:DefsIn b X w D dv defs)(I:∀i,X i->i<b)(aI:defs.length<=1000000):
  Calls prog 202 #[pX b] w (TrAns w X b s dv r D (zDl s r.at_ defs)):=by
 have ai:=F.lt;obtain⟨ao,cap,rfl,O,P,aj⟩:=ah;have ak:=vl aj;obtain⟨-,c1,-,-,-,-⟩:=F.cells;have al:=vl F;have Q:=vl ai;obtain⟨z,R⟩:∃z,z=zDl s r.at_ defs:=⟨_,rfl⟩
 have am:=vl R.symm;rw[<-R];go_in;go_wp2;go_loopg [11] defs.length (λq i wr=>∃j:Nat,q=defs.length-j/\j<=defs.length/\i=iX (j:Int)/\zDl s r.at_ (defs.drop j)=z/\RxAt wr b s (slice ao defs.length cap) r/\Keep w.heap.size b w wr)
 case atStart=>exact⟨0,rfl,lX,rfl,am,al,Keep.refl _ _ _⟩
 case round=>
  obtain⟨j,S,aJ,rfl,J,T,C⟩:=hrel;have m:Hid (gk=defs.length-j/\RxAt wr b s (slice ao defs.length cap) r/\Keep w.heap.size b w wr):=⟨S,T,C⟩
  by_cases U:j<defs.length
  ·have an:(j:Int)<(defs.length:Int):=by omega
   obtain⟨g,o,p,rfl,ap,aq,ar,au,f,av⟩:=ak j U;have V:=Q.out;have W:wr.heap[g]? =w.heap[g]? :=C.block g ap (kJ aq);have Y:=(gZ W).trans ar;have K:=(gZ W).trans au;have t:Hid ((if zJ s r.at_ (braced (defs.getD j (⟨#[]⟩,Tr.none)).1) then some ((defs.getD j (⟨#[]⟩,Tr.none)).2,r.at_+(braced (defs.getD j (⟨#[]⟩,Tr.none)).1).size) else zDl s r.at_ (defs.drop (j+1)))=z):=by
    show _=_;rw[<-zK8 s r.at_ defs j U];exact J
   have aw:=vl <| f.go (C.agree λi A d=>⟨A,kJ (I i d)⟩);generalize defs.getD j (⟨#[]⟩,Tr.none)=ax at *;obtain⟨a,aa⟩:=ax;simp only at Y K av;have E:Hid (∀w2 v,zJ s r.at_ (braced a)=v->RxAt w2 b s (slice (some ⟨g,o,none⟩) defs.length cap) r->Ca 189 #[pX b,string (⟨#[123]⟩++a++⟨#[125]⟩)] w2 λe w'=>e=returned (bool v)/\RxAt w' b s (slice (some ⟨g,o,none⟩) defs.length cap) {r with at_:=if v then r.at_+(braced a).size else r.at_}/\∀H,Keep H b w2 w'):=λw2 v ay az=>zAE (r:=r) (x:=r.at_) (braced a) ag (by omega) (by rw[zCP];omega) ay rfl az;have aA:=zCP a;have aB:Hid (braced a=⟨#[123]⟩++a++⟨#[125]⟩):=rfl;have aC:w.heap.size<=wr.heap.size:=m.2.2.size;obtain⟨c,ab,L,aK,aD,ac⟩:∃c,c=wr.alloc (.cells #[string a,pX p] 233)/\Hid (RxAt c b s (slice (some ⟨g,o,none⟩) defs.length cap) r/\TreeIn (λi=>X i\/w.heap.size<=i) c D p aa)/\c.cell? ⟨wr.heap.size,0,none⟩=some (string a)/\c.cell? ⟨wr.heap.size,1,none⟩=some (pX p)/\Hid (Keep w.heap.size b w c):=by
    have ad:=gX wr (.cells #[string a,pX p] 233);refine⟨_,rfl,⟨RxAt.of_block m.2.1 (lG _ _ _ (by omega)),aw.step ((kZ (H:=wr.heap.size) (b:=b) _ _ lQ).agree λi A d=>⟨A,kJ (I i d)⟩) λi _ d=>.inl d⟩,?_,?_,m.2.2.trans (kZ _ _ aC)⟩
    ·unfold cell?;rw[ad];rfl
    ·unfold cell?;rw[ad];rfl
   apply wp_cut;intro ae u;go_wp2;apply u.out;apply wp_cut;intro ae u;go_wp2;apply u.out;apply wp_cut;intro aL af;refine wp_block ?_;apply wp_cut;intro ae u;go_wp2;apply u.out;clear u;rw[<-ab];clear ab Y K;have aM:((⟨#[123]⟩:ByteArray)).size=1:=rfl;have aN:((⟨#[125]⟩:ByteArray)).size=1:=rfl;clear O P aA aB;cases f:zJ s r.at_ (braced a) with
   |true=>
    have B:=E c true f L.1;have M:=vl B;rw[f] at t;have y:=vl t.symm;rw[y.out];have V:=Q.out;have aE:Hid (∀k,(∀H,Keep H b c k)->TreeIn (λi=>X i\/w.heap.size<=i) k (D+4*(r.at_+(braced a).size)) p aa/\Keep w.heap.size b w k/\k.cell? ⟨wr.heap.size,1,none⟩=some (pX p)):=λk l=>by
     refine⟨((L.2.go ((l c.heap.size).agree λi A d=>⟨A,by rcases d with d|d;exact kJ (I i d);omega⟩))).deep (by omega),ac.trans (l _),?_⟩;exact(gZ ((l (wr.heap.size+1)).block wr.heap.size (by omega) (by omega))).trans aD
    generalize (braced a).size=bs at *;clear f B E t y V;go_wp2_with (first|(go_at_call 189;refine M.mono ?_;rintro e k ⟨rfl,N,l⟩;obtain⟨aF,aG,K⟩:=aE k l))
    refine gV (results_tmp2 rfl _ _ _) rfl ?_;exact⟨aG,p,rfl,aF,N⟩
   |false=>
    have B:=E c false f L.1;have M:=vl B;rw[f] at t;have y:=vl t;clear f B E t;go_wp2_with (first|(go_at_call 189;refine M.mono ?_;rintro e k ⟨rfl,N,l⟩))
    apply af.out;clear af;go_wp2;go_roundg (defs.length-(j+1))
    case measure=>rw[m.out.1];omega
    case rel=>exact⟨j+1,rfl,by omega,by go_num,y,N,ac.trans (l _)⟩
  ·have an:(defs.length:Int)<=(j:Int):=by omega
   have y:Hid (z=none):=by
    show _=_;rw[<-J,List.drop_eq_nil_of_le (by omega)];rfl
   clear S T C O P J;go_wp2;rw[y.out];refine gV (results_tmp2 rfl _ _ _) rfl ?_;exact⟨m.2.2,none,r.at_,rfl,m.2.1⟩
def zA2 (fn:Nat)(X:Nat->Prop)(b:Nat)(s:ByteArray)(dv:Value)(D0:Nat)(defs:List (ByteArray×Tr))(D k:Nat)(M:Reads):Prop:=
 ∀w r,RxAt w b s dv r->DefsIn b X w D0 dv defs->r.depth+k=8->r.at_<=s.size->Calls prog fn #[pointer (some ⟨b,0,none⟩)] w (TrAns w X b s dv r D (M r.at_ r.both))
theorem zKk {X f:Nat->Prop}{b:Nat}{s:ByteArray}{dv:Value}{w a:World}{r:Rx}{D q:Nat}{u:Value}{c:Cs}(o:b<w.heap.size)(t:0<q)(j:RxAt a b s dv {r with at_:=q})(k:RangesIn f a u c.ranges)(l:∀i,f i->w.heap.size<=i)(g:Keep w.heap.size b w a):Hid (Calls prog 205 #[agg #[u,bool c.others]] a λe w'=>∃p,e=returned (pX p)/\TreeIn (λi=>X i\/w.heap.size<=i) w' (D+4*q) p (zH7 c)/\RxAt w' b s dv {r with at_:=q}/\Keep w.heap.size b w w'):=by
 have v:=g.size;refine(zGW a _ _ c k).mono ?_;rintro e x ⟨p,rfl,m,h⟩;refine⟨p,rfl,?_,RxAt.of_block j (h.block b (by omega) (by omega)),g.trans (h.lower (by omega) (by omega))⟩;have:=m (D+4*q-1);rw[show D+4*q-1+1=D+4*q by omega] at this;exact this.mono λi _ d=>by
  rcases d with d|d
  ·exact .inr (l i d.1)
  ·exact .inr (by omega)
theorem zQj (X:Nat->Prop)(b:Nat)(s:ByteArray)(dv:Value)(c:s.size<=1048576)(D:Nat)(w:World)(r:Rx)(a:RxAt w b s dv r)(f:r.at_<=s.size)(u:byt s r.at_≠40)(x:byt s r.at_≠123)(g:zAk s r.at_=none):
  Calls prog 196 #[pX b] w (TrAns w X b s dv r D none):=by
 have i:=vl <| qY w b s dv r a c (by omega) 0 (by omega);have j:Hid (Ca 203 #[pX b] w (zAT w b s dv r none)):=by have:=zEw w b s dv r a c f;rw[g] at this;exact this
 have k:=vl a.lt;generalize byt s r.at_=c0 at *;have y:((c0:Int)==40)=false:=by rw[hX];omega
 have z:((c0:Int)==123)=false:=by rw[hX];omega
 go_in;go_wp2_with (first|(go_at_call 200;refine i.mono ?_;rintro e A ⟨rfl,l⟩;have m:=l.symm;subst m)|(go_at_call 203;refine j.mono ?_;rintro e w2 ⟨d,v,n,B,o,q,rfl,p⟩))
 refine gV (results_tmp2 rfl _ _ _) rfl ?_;have C:=k.out;have t:=d.size;refine⟨d.trans (kZ _ _ t),none,q,rfl,RxAt.of_block p (lG _ _ _ (by omega))⟩
theorem zQi (X:Nat->Prop)(b:Nat)(s:ByteArray)(dv:Value)(k:s.size<=1048576)(D:Nat)(w:World)(r:Rx)(g:RxAt w b s dv r)(G:r.at_<=s.size)(Y:byt s r.at_≠40)(aa:byt s r.at_≠123)(c:Cs)(q:Nat)(l:zAk s r.at_=some (c,q))(H:r.both=false):
  Calls prog 196 #[pX b] w (TrAns w X b s dv r D (some (zH7 c,q))):=by
 have I:=vl <| qY w b s dv r g k (by omega) 0 (by omega);have J:Hid (Ca 203 #[pX b] w (zAT w b s dv r (some (c,q)))):=by have:=zEw w b s dv r g k G;rw[l] at this;exact this
 have m:Hid (b<w.heap.size/\0<q/\c.ranges.length<=3000000):=⟨g.lt,by have:=(zDW s k _ _ _ l).1;omega,(zDW s k _ _ _ l).2.2.1⟩
 generalize byt s r.at_=c0 at *;have ab:((c0:Int)==40)=false:=by rw[hX];omega
 have ac:((c0:Int)==123)=false:=by rw[hX];omega
 have K:=vl H;go_in;apply wp_cut;intro o f;go_wp2;apply f.out;apply wp_cut;intro o f;go_wp2_with (first|(go_at_call 200;refine I.mono ?_;rintro e ad ⟨rfl,L⟩;have M:=L.symm;subst M))
 apply f.out;apply wp_cut;intro o f;go_wp2_with (first|(go_at_call 203;refine J.mono ?_;rintro e w2 ⟨t,u,rfl,v,y⟩;obtain⟨ao,cap,N,-⟩:=v.at;subst N))
 apply f.out;obtain⟨d,z,O,P,ae,j⟩:∃d,d=w2.alloc (.cells #[slice ao c.ranges.length cap,bool c.others] 161)/\d.cell? ⟨w2.heap.size,0,none⟩=some (slice ao c.ranges.length cap)/\d.cell? ⟨w2.heap.size,1,none⟩=some (bool c.others)/\d.cell? ⟨b,4,none⟩=some (bool false)/\Hid (RxAt d b s dv {r with at_:=q}/\RangesIn (λi=>w.heap.size<=i/\i≠w2.heap.size) d (slice ao c.ranges.length cap) c.ranges/\Keep w.heap.size b w d/\d.heap.size=w2.heap.size+1/\w.heap.size<=w2.heap.size/\d.heap[w2.heap.size]? =some (.cells #[slice ao c.ranges.length cap,bool c.others] 161)):=by
  have af:=m.1;have A:=t.size;have x:=gX w2 (.cells #[slice ao c.ranges.length cap,bool c.others] 161);have C:RxAt (w2.alloc (.cells #[slice ao c.ranges.length cap,bool c.others] 161)) b s dv {r with at_:=q}:=RxAt.of_block y (lG _ _ _ (by omega));refine⟨_,rfl,?_,?_,?_,C,λQ a=>v Q ⟨a.os,a.output,lY (by simp) a.size,λi R S=>(a.block i (by simp;omega) ⟨S,by omega⟩).trans (lG _ _ _ R)⟩,t.trans (kZ _ _ A),by simp,A,x⟩
  ·unfold cell?;rw[x];rfl
  ·unfold cell?;rw[x];rfl
  ·have:=C.cells.2.2.2.2.1
   rw[<-K.out];exact this
 rw[<-z];clear z t v y;obtain⟨E,F⟩:∃E,E=w2.heap.size:=⟨_,rfl⟩
 rw[<-F] at O P j ⊢;clear F;apply wp_cut;intro o f;go_wp2;apply f.out;clear f;have T:=zKk (X:=X) (D:=D) m.1 m.2.1 j.1 j.2.1 (λi g=>g.1) j.2.2.1;clear j;go_wp2_with (first|(go_at_call 205;refine T.mono ?_;rintro e ag ⟨p,rfl,U,V,W⟩))
 refine gV (results_tmp2 rfl _ _ _) rfl ?_;exact⟨W,p,rfl,U,V⟩
theorem zQk (X:Nat->Prop)(b:Nat)(s:ByteArray)(dv:Value)(A:s.size<=1048576)(D:Nat)(w:World)(r:Rx)(x:RxAt w b s dv r)(ab:r.at_<=s.size)(aA:byt s r.at_≠40)(aB:byt s r.at_≠123)(c:Cs)(q:Nat)(G:zAk s r.at_=some (c,q))(ac:r.both=true):
  Calls prog 196 #[pX b] w (TrAns w X b s dv r D (some (zH7 ⟨qV c.ranges,c.others⟩,q))):=by
 have ad:=vl <| qY w b s dv r x A (by omega) 0 (by omega);have ae:Hid (Ca 203 #[pX b] w (zAT w b s dv r (some (c,q)))):=by have:=zEw w b s dv r x A ab;rw[G] at this;exact this
 have y:Hid (b<w.heap.size/\0<q/\c.ranges.length<=3000000):=⟨x.lt,by have:=(zDW s A _ _ _ G).1;omega,(zDW s A _ _ _ G).2.2.1⟩
 generalize byt s r.at_=c0 at *;have aC:((c0:Int)==40)=false:=by rw[hX];omega
 have aD:((c0:Int)==123)=false:=by rw[hX];omega
 have af:=vl ac;go_in;apply wp_cut;intro C f;go_wp2;apply f.out;apply wp_cut;intro C f;go_wp2_with (first|(go_at_call 200;refine ad.mono ?_;rintro e aE ⟨rfl,ag⟩;have ah:=ag.symm;subst ah))
 apply f.out;clear f;apply wp_cut;intro C f;go_wp2_with (first|(go_at_call 203;refine ae.mono ?_;rintro e w2 ⟨H,u,rfl,I,P⟩;obtain⟨ao,cap,ai,-⟩:=I.at;subst ai))
 apply f.out;clear f;obtain⟨g,Q,R,S,aF,m⟩:∃g,g=w2.alloc (.cells #[slice ao c.ranges.length cap,bool c.others] 161)/\g.cell? ⟨w2.heap.size,0,none⟩=some (slice ao c.ranges.length cap)/\g.cell? ⟨w2.heap.size,1,none⟩=some (bool c.others)/\g.cell? ⟨b,4,none⟩=some (bool true)/\Hid (RxAt g b s dv {r with at_:=q}/\RangesIn (λi=>w.heap.size<=i/\i≠w2.heap.size) g (slice ao c.ranges.length cap) c.ranges/\Keep w.heap.size b w g/\g.heap.size=w2.heap.size+1/\w.heap.size<=w2.heap.size/\g.heap[w2.heap.size]? =some (.cells #[slice ao c.ranges.length cap,bool c.others] 161)):=by
  have aj:=y.1;have T:=H.size;have J:=gX w2 (.cells #[slice ao c.ranges.length cap,bool c.others] 161);have E:RxAt (w2.alloc (.cells #[slice ao c.ranges.length cap,bool c.others] 161)) b s dv {r with at_:=q}:=RxAt.of_block P (lG _ _ _ (by omega));refine⟨_,rfl,?_,?_,?_,E,λak a=>I ak ⟨a.os,a.output,lY (by simp) a.size,λi al K=>(a.block i (by simp;omega) ⟨K,by omega⟩).trans (lG _ _ _ al)⟩,H.trans (kZ _ _ T),by simp,T,J⟩
  ·unfold cell?;rw[J];rfl
  ·unfold cell?;rw[J];rfl
  ·have:=E.cells.2.2.2.2.1
   rw[<-af.out];exact this
 rw[<-Q];clear Q H I P;obtain⟨d,U⟩:∃d,d=w2.heap.size:=⟨_,rfl⟩
 rw[<-U] at R S m ⊢;clear U;apply wp_cut;intro C f;go_wp2;apply f.out;clear f;have V:=vl <| zFt g _ c.ranges c.others m.2.1.at (by have:=y.2.2;omega)
 apply wp_cut;intro C f;go_wp2_with (first|(go_at_call 204;refine V.mono ?_;rintro e j ⟨u5,rfl,M,z⟩;obtain⟨o,t,am,-⟩:=M.at;subst am;have v:=(z.block d (by have:=m.2.2.2.1;omega) (by have:=m.2.2.2.1;omega)).trans m.2.2.2.2.2;have an:j.cell? ⟨d,0,none⟩=some (slice ao c.ranges.length cap):=(by unfold cell?;rw[v];rfl);have ap:j.cell? ⟨d,1,none⟩=some (bool c.others):=(by unfold cell?;rw[v];rfl);have aq:j.frozen? ⟨d,0,none⟩=false:=(by unfold frozen?;rw[v];rfl);have ar:j.frozen? ⟨d,1,none⟩=false:=(by unfold frozen?;rw[v];rfl);have W:=vl v;clear v))
 apply f.out;clear f;obtain⟨l,Y,aG,aH,F⟩:∃l,l=(j.setCell ⟨d,0,none⟩ (slice o (qV c.ranges).length t)).setCell ⟨d,1,none⟩ (bool c.others)/\l.cell? ⟨d,0,none⟩=some (slice o (qV c.ranges).length t)/\l.cell? ⟨d,1,none⟩=some (bool c.others)/\Hid (RxAt l b s dv {r with at_:=q}/\RangesIn (λi=>w.heap.size<=i) l (slice o (qV c.ranges).length t) (qV c.ranges)/\Keep w.heap.size b w l/\w.heap.size<=l.heap.size):=by
  obtain⟨E,aI,au,aJ,aK,aL⟩:=m;have aj:=y.1;have aa:((j.setCell ⟨d,0,none⟩ (slice o (qV c.ranges).length t)).setCell ⟨d,1,none⟩ (bool c.others)).heap[d]? =some (.cells #[slice o (qV c.ranges).length t,bool c.others] 161):=by
   simp[setCell,lU,W.out]
  have N:∀i,i≠d->((j.setCell ⟨d,0,none⟩ (slice o (qV c.ranges).length t)).setCell ⟨d,1,none⟩ (bool c.others)).heap[i]? =j.heap[i]? :=λi av=>by
   simp[setCell,lU,Ne.symm av]
  have aM:=z.size;have O:((j.setCell ⟨d,0,none⟩ (slice o (qV c.ranges).length t)).setCell ⟨d,1,none⟩ (bool c.others)).heap.size=j.heap.size:=by simp[World.setCell]
  refine⟨_,rfl,?_,?_,RxAt.of_block E ((N b (by omega)).trans (z.block b (by omega) (by omega))),RangesIn.mono (X:=λi=>g.heap.size<=i) (M.go ⟨rfl,rfl,by rw[O];omega,λi _ K=>N i (by omega)⟩) (λi _ K=>by omega),(au.trans (z.lower (by omega) (by omega))).trans ⟨rfl,rfl,by rw[O];omega,λk aN _=>N k (by omega)⟩,by rw[O];omega⟩
  ·unfold cell?;rw[aa];rfl
  ·unfold cell?;rw[aa];rfl
 rw[<-Y];clear Y M z an ap aq ar R S;have aw:=zKk (X:=X) (D:=D) (c:=⟨qV c.ranges,c.others⟩) y.1 y.2.1 F.1 F.2.1 (λi x=>x) F.2.2.1;clear m F V W;generalize qV c.ranges=aO at *;go_wp2_with (first|(go_at_call 205;refine aw.mono ?_;rintro e aP ⟨p,rfl,ax,ay,az⟩))
 refine gV (results_tmp2 rfl _ _ _) rfl ?_;exact⟨az,p,rfl,ax,ay⟩
theorem TrAns.any {w w':World}{X:Nat->Prop}{b:Nat}{s:ByteArray}{dv:Value}{r:Rx}{D:Nat}{a:Option (Tr×Nat)}{e:Ending}(f:TrAns w X b s dv r D a e w'):∃(v:Option Addr) (q:Nat) (k:Bool),e=returned (tuple #[pointer v,bool k])/\RxAt w' b s dv {r with at_:=q}/\Hid (Keep w.heap.size b w w'/\(k=false/\a=none\/k=true/\∃p t,v=some ⟨p,0,none⟩/\a=some (t,q)/\TreeIn (λi=>X i\/w.heap.size<=i) w' (D+4*q) p t)):=by
 cases a with
 |none=>
  obtain⟨c,v,q,rfl,d⟩:=f;exact⟨v,q,false,rfl,d,c,.inl ⟨rfl,rfl⟩⟩
 |some g=>
  obtain⟨t,q⟩:=g;obtain⟨c,p,rfl,j,d⟩:=f;exact⟨_,q,true,rfl,d,c,.inr ⟨rfl,p,t,rfl,rfl,j⟩⟩
theorem zPw (X:Nat->Prop)(b:Nat)(s:ByteArray)(dv:Value)(f:s.size<=1048576)(D:Nat)(w:World)(r:Rx)(g:RxAt w b s dv r)(p:r.at_<=s.size)(i:byt s r.at_=40)(a:Option (Tr×Nat))(j:Calls prog 201 #[pX b] w (TrAns w X b s dv r D a)):
  Calls prog 196 #[pX b] w (TrAns w X b s dv r D a):=by
 have c:=vl ((zH4 f (by omega)) w g);rw[i] at c;have l:=vl j;go_in;go_wp2_with (first|(go_at_call 200;refine c.mono ?_;rintro e t ⟨rfl,m⟩;have o:=m.symm;subst o)|(go_at_call 201;refine l.mono ?_;rintro e w2 d;obtain⟨v,q,k,rfl,-,-⟩:=TrAns.any d))
 refine gV (results_tmp2 rfl _ _ _) rfl ?_;exact d
theorem zPv (X:Nat->Prop)(b:Nat)(s:ByteArray)(dv:Value)(f:s.size<=1048576)(D:Nat)(w:World)(r:Rx)(g:RxAt w b s dv r)(p:r.at_<=s.size)(i:byt s r.at_=123)(a:Option (Tr×Nat))(j:Calls prog 202 #[pX b] w (TrAns w X b s dv r D a)):
  Calls prog 196 #[pX b] w (TrAns w X b s dv r D a):=by
 have c:=vl ((zH4 f (by omega)) w g);rw[i] at c;have l:=vl j;go_in;go_wp2_with (first|(go_at_call 200;refine c.mono ?_;rintro e t ⟨rfl,m⟩;have o:=m.symm;subst o)|(go_at_call 202;refine l.mono ?_;rintro e w2 d;obtain⟨v,q,k,rfl,-,-⟩:=TrAns.any d))
 refine gV (results_tmp2 rfl _ _ _) rfl ?_;exact d
theorem zGG (X:Nat->Prop)(b:Nat)(s:ByteArray)(dv:Value)(f:s.size<=1048576)(t:∀i,X i->i<b)(D:Nat)(defs:List (ByteArray×Tr))(u:defs.length<=1000000)(k:Nat)(m:Reads)(v:∀w r,RxAt w b s dv r->DefsIn b X w D dv defs->r.depth+k=8->r.at_<=s.size->byt s r.at_=40->Calls prog 201 #[pX b] w (TrAns w X b s dv r D (brM s k m r.at_ r.both))):
  zA2 196 X b s dv D defs D k (zEl s defs k m):=λw r a o x d=>by
 unfold zEl;by_cases e:byt s r.at_=40
 ·rw[if_pos e]
  exact zPw X b s dv f D w r a d e _ (v w r a o x d e)
 rw[if_neg e];by_cases j:byt s r.at_=123
 ·rw[if_pos j]
  exact zPv X b s dv f D w r a d j _ (zK7 w X b s dv r a f d D defs o t u)
 rw[if_neg j];cases l:zAk s r.at_ with
 |none=>exact zQj X b s dv f D w r a d e j l
 |some g=>
  obtain⟨c,q⟩:=g;cases p:r.both with
  |false=>exact zQi X b s dv f D w r a d e j c q l p
  |true=>exact zQk X b s dv f D w r a d e j c q l p
section
section
variable {w:World} {b:Nat} {s:ByteArray} {dv:Value} {r:Rx}
theorem RxAt.setDepth (a:RxAt w b s dv r)(n:Nat):RxAt (w.setCell ⟨b,3,none⟩ (iX (n:Int))) b s dv {r with depth:=n}:=by
 unfold RxAt at *;simp[setCell,lU,a]
theorem RxAt.setBoth (a:RxAt w b s dv r)(x:Bool):RxAt (w.setCell ⟨b,4,none⟩ (bool x)) b s dv {r with both:=x}:=by
 unfold RxAt at *;simp[setCell,lU,a]
end
theorem zPu (X:Nat->Prop)(b:Nat)(s:ByteArray)(dv:Value)(D:Nat)(w:World)(r:Rx)(a:RxAt w b s dv r)(d:r.depth=8):Calls prog 201 #[pX b] w (TrAns w X b s dv r D (none)):=by
 obtain⟨-,-,-,c,-,-⟩:=a.cells;rw[d] at c;have f:=c;have e:=vl a;go_in;go_wp2;refine gV (results_tmp2 rfl _ _ _) rfl ?_;exact⟨Keep.refl _ _ _,none,r.at_,rfl,e⟩
theorem zOB (X:Nat->Prop)(b:Nat)(s:ByteArray)(dv:Value)(f:s.size<=1048576)(D:Nat)(w:World)(r:Rx)(a:RxAt w b s dv r)(l:r.depth<=7)(m:r.at_<=s.size)(g:zJ s r.at_ ⟨#[40,41]⟩=true):Calls prog 201 #[pX b] w (TrAns w X b s dv r D (some (Tr.none,r.at_+2))):=by
 obtain⟨-,-,-,o,-,-⟩:=a.cells;have i:=vl a.lt;have p:(r.depth:Int)<8:=by omega
 have j:=vl (zAE (r:=r) (x:=r.at_) (y:=r.at_+2) ⟨#[40,41]⟩ f (by omega) (by decide) g rfl a);go_in;go_wp2_with (first|(go_at_call 189;refine j.mono ?_;rintro e w1 ⟨rfl,k,c⟩))
 refine gV (results_tmp2 rfl _ _ _) rfl ?_;have q:=i.out;have d:=(c 0).size;refine⟨(c _).trans (kZ _ _ d),_,rfl,?_,RxAt.of_block k (lG _ _ _ (by omega))⟩;rw[show D+4*(r.at_+2)=D+4*r.at_+7+1 by omega];exact zJ4 (gX _ _) (.inr d)
def zPG (s:ByteArray):Option (Tr×Nat)->Option (Tr×Nat)
 |none=>none
 |some (t,q)=>if zJ s q ⟨#[41]⟩ then some (t,q+1) else none
theorem zQN (X:Nat->Prop)(b:Nat)(s:ByteArray)(dv:Value)(hs:s.size<=1048576)(hH:∀i,X i->i<b)(D:Nat)(w:World)(r:Rx)(h:RxAt w b s dv r)(hdp:r.depth<=7)(ha:r.at_<s.size)(h0:zJ s r.at_ ⟨#[40,41]⟩=false)(h1:zJ s r.at_ ⟨#[40,105,58]⟩=true)(m:Option (Tr×Nat))(hsub:∀w4,RxAt w4 b s dv ⟨r.at_+3,r.depth+1,true⟩->Keep w.heap.size b w w4->Calls prog 182 #[pX b] w4 (TrAns w4 X b s dv ⟨r.at_+3,r.depth+1,true⟩ (D+2) m))(hq:∀t q,m=some (t,q)->q<=s.size):Calls prog 201 #[pX b] w (TrAns w X b s dv r D (zPG s m)):=by
 obtain⟨-,-,-,c3,c4,-⟩:=h.cells;have HLB:=vl h.lt;have i8:(r.depth:Int)<8:=by omega
 have HT0:=vl (zAE (r:=r) (x:=r.at_) (y:=r.at_) ⟨#[40,41]⟩ hs (by omega) (by decide) h0 rfl h);have HT1:=zKD (b:=b) (dv:=dv) (r:=r) (y:=r.at_+3) h1 hs (by omega) (by decide) rfl;have HSB:=vl hsub;have HQ:=vl hq;go_in;apply wp_cut;intro K0 HK0;go_wp2;apply HK0.out;apply wp_cut;intro K0 HK0;go_wp2;apply HK0.out;apply wp_cut;intro K0 HK0;go_wp2_with (first|(go_at_call 189;refine HT0.out.mono ?_;rintro e w1 ⟨rfl,hR1,hk1⟩))
 apply HK0.out;have d4:w1.cell? ⟨b,4,none⟩=some (bool r.both):=hR1.cells.2.2.2.2.1;clear c3 c4;apply wp_cut;intro K0 HK0;go_wp2;apply HK0.out;clear HK0;clear d4;apply wp_cut;intro K0 HK0;go_wp2_with (first|(go_at_call 189;refine(HT1.out w1 hR1).mono ?_;rintro e w2 ⟨rfl,hR2,hk2⟩;have d4:w2.cell? ⟨b,4,none⟩=some (bool r.both):=hR2.cells.2.2.2.2.1;have f4:=hR2.cells.2.2.2.2.2 4))
 apply HK0.out;clear HK0;obtain⟨w3,hw3,hR3,hk3⟩:∃w3,w3=w2.setCell ⟨b,4,none⟩ (bool true)/\RxAt w3 b s dv ⟨r.at_+3,r.depth,true⟩/\Hid (Keep w.heap.size b w w3):=⟨_,rfl,hR2.setBoth true,((hk1 _).trans (hk2 _)).trans (Keep.set _ _ _)⟩
 rw[<-hw3];clear hw3 hR1 hR2 hk1 hk2 d4 f4;have d3:w3.cell? ⟨b,3,none⟩=some (iX (r.depth:Int)):=hR3.cells.2.2.2.1;have f3:=hR3.cells.2.2.2.2.2 3;apply wp_cut;intro K0 HK0;go_wp2;apply HK0.out;clear HK0;obtain⟨w4,hw4,hR4,hk4⟩:∃w4,w4=w3.setCell ⟨b,3,none⟩ (iX ((r.depth:Int)+1))/\RxAt w4 b s dv ⟨r.at_+3,r.depth+1,true⟩/\Hid (Keep w.heap.size b w w4):=⟨_,rfl,hR3.setDepth (r.depth+1),hk3.out.trans (Keep.set _ _ _)⟩
 rw[<-hw4];clear hw4 hR3 hk3 d3 f3;have HEJ:=vl (HSB.out w4 hR4 hk4.out);clear HSB;apply wp_cut;intro K0 HK0;go_wp2_with (first|(go_at_call 182;refine HEJ.out.mono ?_;rintro e w5 ha5;obtain⟨v,q,kk,rfl,hR5,HH⟩:=TrAns.any ha5;clear ha5))
 apply HK0.out;clear HK0;have d3:w5.cell? ⟨b,3,none⟩=some (iX ((r.depth:Int)+1)):=hR5.cells.2.2.2.1;have f3:=hR5.cells.2.2.2.2.2 3;apply wp_cut;intro K0 HK0;go_wp2;apply HK0.out;clear HK0;obtain⟨w6,hw6,hR6,HK6⟩:∃w6,w6=w5.setCell ⟨b,3,none⟩ (iX (r.depth:Int))/\RxAt w6 b s dv ⟨q,r.depth,true⟩/\Hid (∀H,Keep H b w5 w6):=⟨_,rfl,hR5.setDepth r.depth,λH=>Keep.set _ _ _⟩
 rw[<-hw6];clear hw6 d3 f3 hR5;have d4:w6.cell? ⟨b,4,none⟩=some (bool true):=hR6.cells.2.2.2.2.1;have f4:=hR6.cells.2.2.2.2.2 4;apply wp_cut;intro K0 HK0;go_wp2;apply HK0.out;clear HK0;obtain⟨w7,hw7,hR7,HK7⟩:∃w7,w7=w6.setCell ⟨b,4,none⟩ (bool r.both)/\RxAt w7 b s dv {r with at_:=q}/\Hid (∀H,Keep H b w5 w7):=⟨_,rfl,hR6.setBoth r.both,λH=>(HK6.out H).trans (Keep.set _ _ _)⟩
 rw[<-hw7];clear hw7 d4 f4 hR6 HK6;obtain⟨hk5,hkk⟩:=HH.out;have HKA:Hid (Keep w.heap.size b w w7):=by
  have h1:=hk4.out.size;exact(hk4.out.trans ⟨hk5.os,hk5.output,hk5.size,λk h1 h2=>hk5.block k (by omega) h2⟩).trans (HK7.out _)
 rcases hkk with⟨rfl,rfl⟩|⟨rfl,p,t,rfl,rfl,ht5⟩
 ·clear hk5 HK7 hk4 hR4 HH
  go_wp2;refine gV (results_tmp2 rfl _ _ _) rfl ?_;exact⟨HKA.out,none,q,rfl,hR7⟩
 have HTR:Hid (∀w8,(∀H,Keep H b w7 w8)->TreeIn (λi=>X i\/w.heap.size<=i) w8 (D+4*(q+1)) p t):=λw8 hk8=>by
  have hb:=HLB.out;have h1:=hk4.out.size;refine(((ht5.go ((HK7.out w5.heap.size).agree λi hi hx=>⟨hi,by rcases hx with hx|hx;exact kJ (hH i hx);omega⟩)).go ((hk8 w7.heap.size).agree λi hi hx=>⟨hi,by rcases hx with hx|hx;exact kJ (hH i hx);omega⟩)).mono λi _ hx=>?_).deep (by omega);rcases hx with hx|hx
  ·exact .inl hx
  ·exact .inr (by omega)
 have hq:=HQ.out t q rfl;clear ht5 hk5 HK7 hk4 hR4 HH;show Code.wp _ _ (bodyPost _ _ (TrAns w X b s dv r D (if zJ s q ⟨#[41]⟩ then some (t,q+1) else none))) _ _;cases h2:zJ s q ⟨#[41]⟩ with
 |true=>
  go_wp2_with (first|(go_at_call 189;refine(zAE (r:=r) (x:=q) (y:=q+1) ⟨#[41]⟩ hs (by omega) (by decide) h2 rfl hR7).mono ?_;rintro e w8 ⟨rfl,hR8,hk8⟩))
  refine gV (results_tmp2 rfl _ _ _) rfl ?_;exact⟨HKA.out.trans (hk8 _),p,rfl,HTR.out w8 hk8,hR8⟩
 |false=>
  go_wp2_with (first|(go_at_call 189;refine(zAE (r:=r) (x:=q) (y:=q) ⟨#[41]⟩ hs (by omega) (by decide) h2 rfl hR7).mono ?_;rintro e w8 ⟨rfl,hR8,hk8⟩))
  refine gV (results_tmp2 rfl _ _ _) rfl ?_;exact⟨HKA.out.trans (hk8 _),none,q,rfl,hR8⟩
theorem zQM (X:Nat->Prop)(b:Nat)(s:ByteArray)(dv:Value)(hs:s.size<=1048576)(hH:∀i,X i->i<b)(D:Nat)(w:World)(r:Rx)(h:RxAt w b s dv r)(hdp:r.depth<=7)(ha:r.at_<s.size)(h0:zJ s r.at_ ⟨#[40,41]⟩=false)(h1:zJ s r.at_ ⟨#[40,105,58]⟩=false)(m:Option (Tr×Nat))(hsub:∀w4,RxAt w4 b s dv ⟨r.at_+1,r.depth+1,r.both⟩->Keep w.heap.size b w w4->Calls prog 182 #[pX b] w4 (TrAns w4 X b s dv ⟨r.at_+1,r.depth+1,r.both⟩ (D+2) m))(hq:∀t q,m=some (t,q)->q<=s.size):Calls prog 201 #[pX b] w (TrAns w X b s dv r D (zPG s m)):=by
 obtain⟨-,-,-,c3,c4,-⟩:=h.cells;have HLB:=vl h.lt;have i8:(r.depth:Int)<8:=by omega
 have HT0:=vl (zAE (r:=r) (x:=r.at_) (y:=r.at_) ⟨#[40,41]⟩ hs (by omega) (by decide) h0 rfl h);have HT1:=zKD (b:=b) (dv:=dv) (r:=r) (y:=r.at_) h1 hs (by omega) (by decide) rfl;have HSB:=vl hsub;have HQ:=vl hq;go_in;apply wp_cut;intro K0 HK0;go_wp2;apply HK0.out;apply wp_cut;intro K0 HK0;go_wp2;apply HK0.out;apply wp_cut;intro K0 HK0;go_wp2_with (first|(go_at_call 189;refine HT0.out.mono ?_;rintro e w1 ⟨rfl,hR1,hk1⟩))
 apply HK0.out;have d4:w1.cell? ⟨b,4,none⟩=some (bool r.both):=hR1.cells.2.2.2.2.1;clear c3 c4;apply wp_cut;intro K0 HK0;go_wp2;apply HK0.out;clear HK0;clear d4;apply wp_cut;intro K0 HK0;go_wp2_with (first|(go_at_call 189;refine(HT1.out w1 hR1).mono ?_;rintro e w2 ⟨rfl,hR2,hk2⟩;have d2:w2.cell? ⟨b,2,none⟩=some (iX (r.at_:Int)):=hR2.cells.2.2.1;have f2:=hR2.cells.2.2.2.2.2 2))
 apply HK0.out;clear HK0;obtain⟨w3,hw3,hR3,hk3⟩:∃w3,w3=w2.setCell ⟨b,2,none⟩ (iX ((r.at_:Int)+1))/\RxAt w3 b s dv ⟨r.at_+1,r.depth,r.both⟩/\Hid (Keep w.heap.size b w w3):=⟨_,rfl,hR2.setAt (r.at_+1),((hk1 _).trans (hk2 _)).trans (Keep.set _ _ _)⟩
 rw[<-hw3];clear hw3 hR1 hR2 hk1 hk2 d2 f2;have d3:w3.cell? ⟨b,3,none⟩=some (iX (r.depth:Int)):=hR3.cells.2.2.2.1;have f3:=hR3.cells.2.2.2.2.2 3;apply wp_cut;intro K0 HK0;go_wp2;apply HK0.out;clear HK0;obtain⟨w4,hw4,hR4,hk4⟩:∃w4,w4=w3.setCell ⟨b,3,none⟩ (iX ((r.depth:Int)+1))/\RxAt w4 b s dv ⟨r.at_+1,r.depth+1,r.both⟩/\Hid (Keep w.heap.size b w w4):=⟨_,rfl,hR3.setDepth (r.depth+1),hk3.out.trans (Keep.set _ _ _)⟩
 rw[<-hw4];clear hw4 hR3 hk3 d3 f3;have HEJ:=vl (HSB.out w4 hR4 hk4.out);clear HSB;apply wp_cut;intro K0 HK0;go_wp2_with (first|(go_at_call 182;refine HEJ.out.mono ?_;rintro e w5 ha5;obtain⟨v,q,kk,rfl,hR5,HH⟩:=TrAns.any ha5;clear ha5))
 apply HK0.out;clear HK0;have d3:w5.cell? ⟨b,3,none⟩=some (iX ((r.depth:Int)+1)):=hR5.cells.2.2.2.1;have f3:=hR5.cells.2.2.2.2.2 3;apply wp_cut;intro K0 HK0;go_wp2;apply HK0.out;clear HK0;obtain⟨w6,hw6,hR6,HK6⟩:∃w6,w6=w5.setCell ⟨b,3,none⟩ (iX (r.depth:Int))/\RxAt w6 b s dv ⟨q,r.depth,r.both⟩/\Hid (∀H,Keep H b w5 w6):=⟨_,rfl,hR5.setDepth r.depth,λH=>Keep.set _ _ _⟩
 rw[<-hw6];clear hw6 d3 f3 hR5;have d4:w6.cell? ⟨b,4,none⟩=some (bool r.both):=hR6.cells.2.2.2.2.1;have f4:=hR6.cells.2.2.2.2.2 4;apply wp_cut;intro K0 HK0;go_wp2;apply HK0.out;clear HK0;obtain⟨w7,hw7,hR7,HK7⟩:∃w7,w7=w6.setCell ⟨b,4,none⟩ (bool r.both)/\RxAt w7 b s dv {r with at_:=q}/\Hid (∀H,Keep H b w5 w7):=⟨_,rfl,hR6.setBoth r.both,λH=>(HK6.out H).trans (Keep.set _ _ _)⟩
 rw[<-hw7];clear hw7 d4 f4 hR6 HK6;obtain⟨hk5,hkk⟩:=HH.out;have HKA:Hid (Keep w.heap.size b w w7):=by
  have h1:=hk4.out.size;exact(hk4.out.trans ⟨hk5.os,hk5.output,hk5.size,λk h1 h2=>hk5.block k (by omega) h2⟩).trans (HK7.out _)
 rcases hkk with⟨rfl,rfl⟩|⟨rfl,p,t,rfl,rfl,ht5⟩
 ·clear hk5 HK7 hk4 hR4 HH
  go_wp2;refine gV (results_tmp2 rfl _ _ _) rfl ?_;exact⟨HKA.out,none,q,rfl,hR7⟩
 have HTR:Hid (∀w8,(∀H,Keep H b w7 w8)->TreeIn (λi=>X i\/w.heap.size<=i) w8 (D+4*(q+1)) p t):=λw8 hk8=>by
  have hb:=HLB.out;have h1:=hk4.out.size;refine(((ht5.go ((HK7.out w5.heap.size).agree λi hi hx=>⟨hi,by rcases hx with hx|hx;exact kJ (hH i hx);omega⟩)).go ((hk8 w7.heap.size).agree λi hi hx=>⟨hi,by rcases hx with hx|hx;exact kJ (hH i hx);omega⟩)).mono λi _ hx=>?_).deep (by omega);rcases hx with hx|hx
  ·exact .inl hx
  ·exact .inr (by omega)
 have hq:=HQ.out t q rfl;clear ht5 hk5 HK7 hk4 hR4 HH;show Code.wp _ _ (bodyPost _ _ (TrAns w X b s dv r D (if zJ s q ⟨#[41]⟩ then some (t,q+1) else none))) _ _;cases h2:zJ s q ⟨#[41]⟩ with
 |true=>
  go_wp2_with (first|(go_at_call 189;refine(zAE (r:=r) (x:=q) (y:=q+1) ⟨#[41]⟩ hs (by omega) (by decide) h2 rfl hR7).mono ?_;rintro e w8 ⟨rfl,hR8,hk8⟩))
  refine gV (results_tmp2 rfl _ _ _) rfl ?_;exact⟨HKA.out.trans (hk8 _),p,rfl,HTR.out w8 hk8,hR8⟩
 |false=>
  go_wp2_with (first|(go_at_call 189;refine(zAE (r:=r) (x:=q) (y:=q) ⟨#[41]⟩ hs (by omega) (by decide) h2 rfl hR7).mono ?_;rintro e w8 ⟨rfl,hR8,hk8⟩))
  refine gV (results_tmp2 rfl _ _ _) rfl ?_;exact⟨HKA.out.trans (hk8 _),none,q,rfl,hR8⟩
theorem zG6 (X:Nat->Prop)(b:Nat)(s:ByteArray)(dv:Value)(d:s.size<=1048576)(e:∀i,X i->i<b)(D:Nat)(defs:List (ByteArray×Tr))(k:Nat)(f:Reads)(u:∀both,zCU s (D+2) λp=>f p both)(v:zA2 182 X b s dv D defs (D+2) k f)(w:World)(r:Rx)(c:RxAt w b s dv r)(z:DefsIn b X w D dv defs)(E:r.depth+(k+1)=8)(F:byt s r.at_=40):
  Calls prog 201 #[pX b] w (TrAns w X b s dv r D (brM s (k+1) f r.at_ r.both)):=by
 have x:r.at_<s.size:=zCO (by omega);have G:=c.lt;have y:∀a,Keep w.heap.size b w a->DefsIn b X a D dv defs:=λa A=>z.go e (A.agree λi B C=>⟨B,kJ C⟩);unfold brM;rw[if_neg (by omega)];cases g:zJ s r.at_ ⟨#[40,41]⟩ with
 |true=>exact zOB X b s dv d D w r c (by omega) (by omega) g
 |false=>
 rw[if_neg (by decide)];cases j:zJ s r.at_ ⟨#[40,105,58]⟩ with
 |true=>exact zQN X b s dv d e D w r c (by omega) x g j _ (λa l m=>v a _ l (y a m) (by show r.depth+1+k=8;omega) (vY j:r.at_+3<=s.size)) λt q o=>(u _ _ _ _ o).2.1
 |false=>exact zQM X b s dv d e D w r c (by omega) x g j _ (λa l m=>v a _ l (y a m) (by show r.depth+1+k=8;omega) (by show r.at_+1<=_;omega)) λt q o=>(u _ _ _ _ o).2.1
end
def ThW (w:World)(X:Nat->Prop)(b:Nat)(s:ByteArray)(dv:Value)(r:Rx)(D:Nat)(G:Option (Tr×Nat))(n:Nat)(v4 v5:Value)(wr:World):Prop:=
 (∃f pos t p,n=f/\v4=pointer (some ⟨p,0,none⟩)/\v5=bool true/\pos<=s.size/\s.size+1-pos<=f/\zBX s f pos t=G/\TreeIn (λi=>X i\/w.heap.size<=i) wr (D+4*pos) p t/\TrOk (D+4*pos) t/\RxAt wr b s dv {r with at_:=pos}/\Keep w.heap.size b w wr)\/
 (∃x pos,v4=pointer x/\v5=bool false/\G=none/\n=0/\RxAt wr b s dv {r with at_:=pos}/\Keep w.heap.size b w wr)
theorem zMr (w:World)(x y:Value)(c:Bool):∃a,a=w.alloc (.cells #[x,y,bool c] 163)/\a.cell? ⟨w.heap.size,0,none⟩=some x/\a.cell? ⟨w.heap.size,1,none⟩=some y/\a.cell? ⟨w.heap.size,2,none⟩=some (bool c)/\Hid (∀H b,H<=w.heap.size->Keep H b w a):=by
 have d:=gX w (.cells #[x,y,bool c] 163);refine⟨_,rfl,?_,?_,?_,λH b e=>kZ _ _ e⟩
 all_goals (unfold cell?;rw[d];rfl)
def zPA (s:ByteArray):Option (Tr×Nat)->Option (Tr×Nat)
 |none=>none
 |some (t,q)=>zBX s (s.size+1) q t
theorem zPl {w:World}{b:Nat}{s:ByteArray}{dv:Value}{r:Rx}(i:RxAt w b s dv r)(j:s.size<=1048576)(a:r.at_<=s.size):Hid (Calls prog 198 #[pX b] w λe w'=>∃(o:Tm) (q:Nat) (k:Bool),e=returned (tuple #[agg #[iX (o.least:Int),iX (o.most:Int),bool o.endless],bool k])/\Hid (o.least<=300/\o.most<=300/\RxAt w' b s dv {r with at_:=q}/\Keep w.heap.size b w w'/\(k=true/\zEP s r.at_=some (o,q)\/k=false/\zEP s r.at_=none))):=by
 refine(zGs w b s dv r i j a).mono ?_;rintro e w' ⟨f,a⟩;cases c:zEP s r.at_ with
 |none=>
  rw[c] at a;obtain⟨q,rfl,d⟩:=a;exact⟨⟨0,0,false⟩,q,false,rfl,lX,lX,d,f,.inr ⟨rfl,rfl⟩⟩
 |some g=>
  obtain⟨o,q⟩:=g;rw[c] at a;obtain⟨rfl,d⟩:=a;have:=zIr s r.at_ o q c;exact⟨o,q,true,rfl,this.2.2.1,this.2.2.2,d,f,.inl ⟨rfl,rfl⟩⟩
theorem zOT (X:Nat->Prop)(b:Nat)(s:ByteArray)(dv:Value)(ah:s.size<=1048576)(ar:∀i,X i->i<b)(D:Nat)(w:World)(r:Rx)(S:RxAt w b s dv r)(a:Option (Tr×Nat))(au:∀t q,a=some (t,q)->q<=s.size/\TrOk (D+4*q) t)(av:Calls prog 196 #[pX b] w (TrAns w X b s dv r D a)):
  Calls prog 193 #[pX b] w (TrAns w X b s dv r D (zPA s a)):=by
 have ai:=vl S.lt;have aw:=vl av;obtain⟨l,T⟩:∃l,l=zPA s a:=⟨_,rfl⟩
 have ax:Hid (∀e w2,TrAns w X b s dv r D a e w2->∃z A U,e=returned (tuple #[z,A])/\ThW w X b s dv r D l U z A w2):=λe w2 aj=>by
  cases a with
  |none=>
   obtain⟨V,v,q,rfl,W⟩:=aj;exact⟨_,_,0,rfl,.inr ⟨v,q,rfl,rfl,T,rfl,W,V⟩⟩
  |some g=>
   obtain⟨t0,ak⟩:=g;obtain⟨V,p,rfl,ay,W⟩:=aj;obtain⟨az,aA⟩:=au t0 ak rfl;exact⟨_,_,s.size+1,rfl,.inl ⟨s.size+1,ak,t0,p,rfl,rfl,rfl,az,by omega,T.symm,ay,aA,W,V⟩⟩
 rw[<-T];go_in;apply wp_cut;intro aB Y;go_wp2;apply Y.out;apply wp_cut;intro aB Y;go_wp2_with (first|(go_at_call 196;refine aw.mono ?_;rintro e w2 al;obtain⟨z,A,U,rfl,K⟩:=ax e w2 al;have aC:=vl K;clear al K))
 apply Y.out;apply wp_cut;intro aV aa;refine wp_block ?_;go_loopg [4,5] U (λn z A wr=>ThW w X b s dv r D l n z A wr)
 case atStart=>exact aC
 case round=>
  rcases hrel with⟨f,c,t,B,aD,rfl,rfl,aE,aW,aF,aG,aH,C,E⟩|⟨x,c,rfl,rfl,am,-,C,E⟩
  ·cases f with
   |zero=>omega
   |succ f=>
   have d:Hid (TreeIn (λi=>X i\/w.heap.size<=i) wr (D+4*c) B t/\TrOk (D+4*c) t/\RxAt wr b s dv {r with at_:=c}/\Keep w.heap.size b w wr/\gk=f+1/\w.heap.size<=wr.heap.size):=⟨aG,aH,C,E,aD,E.size⟩
   have m:(if zBs s c then(match zEP s c with|none=>none|some (o,q)=>zBX s f q (zCg t o)) else some (t,c))=l:=aF;have L:=vl <| zEL wr b s dv {r with at_:=c} C ah (by show c<=_;omega);cases ab:zBs s c with
   |false=>
    rw[ab] at m L;have N:=vl m.symm;go_wp2_with (first|(go_at_call 197;refine L.mono ?_;rintro e aI ⟨rfl,ac⟩;have ad:=ac.symm;subst ad))
    apply aa.out;go_wp2;rw[N.out];refine gV (results_tmp2 rfl _ _ _) rfl ?_;exact⟨d.2.2.2.1,B,rfl,d.1,d.2.2.1⟩
   |true=>
    rw[ab] at m L;rw[if_pos rfl] at m;have N:=vl m;have an:=zPl d.2.2.1 ah aE;have aJ:=vl λo q S=>zIr s c o q S;clear m ab;apply wp_cut;intro aK F;go_wp2_with (first|(go_at_call 197;refine L.mono ?_;rintro e aI ⟨rfl,ac⟩;have ad:=ac.symm;subst ad))
    apply F.out;clear F;refine wp_block ?_;apply wp_cut;intro aK F;go_wp2_with (first|(go_at_call 198;refine an.mono ?_;rintro e ae ⟨o,u,k,rfl,O⟩))
    apply F.out;clear F an;obtain⟨y,ao,aX,aY,aZ,af⟩:=zMr ae (iX (o.least:Int)) (iX (o.most:Int)) o.endless;have P:Hid (RxAt y b s dv {r with at_:=u}/\TreeIn (λi=>X i\/w.heap.size<=i) y (D+4*c) B t/\Keep w.heap.size b w y):=by
     obtain⟨-,-,aL,ap,-⟩:=O;have K:=ai.out;have aM:=ap.size;have ag:=d.2.2.2.2.2;have H:Keep wr.heap.size b wr y:=ap.trans (af _ _ aM);refine⟨RxAt.of_block aL ((af ae.heap.size ae.heap.size lQ).block b (by omega) (by omega)),d.1.go (H.agree λi aN j=>⟨aN,by rcases j with j|j;exact kJ (ar i j);omega⟩),d.2.2.2.1.trans ⟨H.os,H.output,H.size,λk a0 aO=>H.block k (by omega) aO⟩⟩
    have aP:Hid (Ca 199 #[pX B,agg #[iX (o.least:Int),iX (o.most:Int),bool o.endless]] y λe w'=>∃Q,e=returned (pX Q)/\TreeIn (λi=>X i\/w.heap.size<=i) w' (D+4*c+1) Q (zCg t o)/\RxAt w' b s dv {r with at_:=u}/\Keep w.heap.size b w w'):=by
     have K:=ai.out;have ag:=P.2.2.size;refine(zKr y _ _ B t P.2.1 d.2.1.few o ⟨O.1,O.2.1⟩).mono ?_;rintro e aQ ⟨Q,rfl,aR,I⟩;refine⟨Q,rfl,aR.mono λi _ j=>?_,RxAt.of_block P.1 (I.block b (by omega) (by omega)),P.2.2.trans (I.lower ag ag)⟩;rcases j with j|j
     ·exact j.1
     ·exact .inr (by omega)
    rw[<-ao];clear ao af;go_wp2_with (first|(go_at_call 199;refine aP.mono ?_;rintro e aQ ⟨aS,rfl,aT,aq,I⟩))
    go_roundg (if k then f else 0)
    case measure=>rw[d.out.2.2.2.2.1];split <;> omega
    case rel=>
     rcases O.out.2.2.2.2 with⟨rfl,R⟩|⟨rfl,R⟩
     ·have J:=N.out
      rw[show zEP s c=some (o,u) from R] at J;have aU:=aJ o u R;exact .inl ⟨f,u,_,aS,rfl,rfl,rfl,aU.2.1,by omega,J,aT.deep (by omega),(zKq o d.2.1).deep (by omega),aq,I⟩
     ·have J:=N.out
      rw[show zEP s c=none from R] at J;exact .inr ⟨_,u,rfl,rfl,J.symm,rfl,aq,I⟩
  ·have d:Hid (RxAt wr b s dv {r with at_:=c}/\Keep w.heap.size b w wr/\l=none):=⟨C,E,am⟩
   clear C E am;go_wp2;apply aa.out;clear aa;go_wp2;rw[d.out.2.2];refine gV (results_tmp2 rfl _ _ _) rfl ?_;exact⟨d.2.1,x,c,rfl,d.1⟩
theorem zE0 (X:Nat->Prop)(b:Nat)(s:ByteArray)(dv:Value)(d:s.size<=1048576)(e:∀i,X i->i<b)(D:Nat)(defs:List (ByteArray×Tr))(k:Nat)(a:Reads)(f:∀both,zCU s D λp=>zEl s defs k a p both)(g:zA2 196 X b s dv D defs D k (zEl s defs k a)):
  zA2 193 X b s dv D defs D k (zEt s defs k a):=λw r c j l m=>by
 have:=g w r c j l m;unfold zEt;exact zOT X b s dv d e D w r c _ (λt q o=>(f r.both r.at_ t q o).2) this
end Go.Proofs.YtbjcfkdnjaiclaaGreat
