import Derived.Laws.OwnMore
import Derived.Test.YtbjcfkdnjaiclaaGreatS0
import Derived.Test.YtbjcfkdnjaiclaaGreatS17
import Derived.Test.YtbjcfkdnjaiclaaGreatS21
/- Parts of the proof. -/
set_option linter.unusedVariables false
set_option linter.unusedSimpArgs false
set_option maxHeartbeats 4000000
set_option maxRecDepth 100000
namespace Go.Proofs.YtbjcfkdnjaiclaaGreat
open Go.RowKit Go.Proofs.Tryz Go.World
open Go.Value (int slice bool pointer string agg tuple)
open Go.IntKind (i64)
open Go.Ending (returned)
theorem zLS {X:Nat->Prop}{b:Nat}{s:ByteArray}{dv:Value}{w:World}{r:Rx}(a:RxAt w b s dv r)(D kind:Nat)(c:Int)(d:c=kind):∃w1,w1=w.alloc (.cells #[iX c,slice none 0 0,bool false,slice none 0 0,iX 0,iX 0,bool false,iX 0] 165)/\Hid (Tw w1 (λi=>X i\/w.heap.size<=i) (w.heap.size+1) w.heap.size (D+4*r.at_) (slice none 0 0) [] (zD4 kind)/\RxAt w1 b s dv {r with at_:=r.at_}/\Keep w.heap.size b w w1):=by
 have e:=a.lt;subst d;refine⟨_,rfl,⟨gX _ _,rfl,ownsRow_nil _ _ _ _,rfl,λi f=>absurd f (Nat.not_lt_zero _),by omega,by simp,⟨by show 0<=_;omega,by show 0<=_;omega,by show 0<=_;omega,by show 0<=_;omega⟩⟩,RxAt.of_block a (lG _ _ _ e),kZ _ _ lQ⟩
theorem zLT {X:Nat->Prop}{b:Nat}{s:ByteArray}{dv:Value}{w wr w2:World}{r:Rx}{D m q h:Nat}{sv:Value}{x:List Nat}{t u:Tr}(I:b<w.heap.size)(y:∀i,X i->i<b)(o:Tw wr (λi=>X i\/w.heap.size<=i) (w.heap.size+1) w.heap.size (D+4*m) sv x t)(z:Keep w.heap.size b w wr)(c:Keep wr.heap.size b wr w2)(B:TreeIn (λi=>X i\/wr.heap.size<=i) w2 (D+4*q) h u)(C:RxAt w2 b s dv {r with at_:=q})(J:m<q)(E:TrOk (D+4*q) u)(K:t.parts.length<=2000000):
  Hid (Ca 188 #[pX w.heap.size,pX h] w2 λe w'=>e=returned (tuple #[])/\RxAt w' b s dv {r with at_:=q}/\Keep w.heap.size b w w'/\∃p v,Tw w' (λi=>X i\/w.heap.size<=i) (w.heap.size+1) w.heap.size (D+4*q) p v (t.add u)):=by
 have L:=z.size;have M:=o.lt;have A:∀g,some g=sv.ownBlock->w.heap.size+1<=g/\g<wr.heap.size:=λg F=>o.own.lt g F.symm;have d:=(o.keep c (.inl (by omega)) (by omega) (λ_ a=>by rcases a with a|a;exact Nat.lt_irrefl _ (y b a);omega)).deep (show D+4*m<=D+4*q by omega);have l:TreeIn (λj=>(X j\/w.heap.size<=j)/\j≠w.heap.size/\some j≠sv.ownBlock) w2 (D+4*q) h u:=B.mono λi _ a=>by
  rcases a with a|a
  ·have N:=y i a
   exact⟨.inl a,by omega,λe=>by have:=(A i e).1;omega⟩
  ·exact⟨.inr (by omega),by omega,λe=>by have:=(A i e).2;omega⟩
 refine(zG8 w2 _ _ _ _ sv x t d h u l E.few (by omega)).mono ?_;rintro e O ⟨rfl,p,v,G,H⟩;have f:=H.keep d.own d.lt;exact⟨rfl,RxAt.of_block C (f.block b (by omega) (by omega)),(z.trans ⟨c.os,c.output,c.size,λk d l=>c.block k (by omega) l⟩).trans ⟨f.os,f.output,f.size,λk d l=>f.block k (by omega) (by omega)⟩,p,v,G⟩
theorem zHl {X:Nat->Prop}{b:Nat}{s:ByteArray}{dv:Value}{w f:World}{r:Rx}{D q:Nat}{sv:Value}{l:List Nat}{t:Tr}(x:b<w.heap.size)(m:∀i,X i->i<b)(h:Tw f (λi=>X i\/w.heap.size<=i) (w.heap.size+1) w.heap.size (D+4*q) sv l t)(o:Keep w.heap.size b w f):
  Hid (∀c,RxAt c b s dv {r with at_:=q}->(∀H,Keep H b f c)->Ca 190 #[pX w.heap.size] c λe w'=>∃d,e=returned (pX d)/\TreeIn (λi=>X i\/w.heap.size<=i) w' (D+1+4*q) d t.plain/\RxAt w' b s dv {r with at_:=q}/\Keep w.heap.size b w w'):=λc p g=>by
 have y:=h.lt;have z:=(g 0).size;have u:=h.keep (g _) (.inl (by omega)) (by omega) (λ_ a=>by rcases a with a|a;exact Nat.lt_irrefl _ (m b a);omega);refine(zE8 c _ (D+4*q+1) w.heap.size _ (u.in (.inr lQ) λj A=>.inr (by omega))).mono ?_;rintro e B ⟨d,rfl,v,k⟩;refine⟨d,rfl,?_,RxAt.of_block p (k.block b (by omega) (by omega)),(o.trans (g _)).trans (k.lower (by omega) (by omega))⟩;rw[show D+1+4*q=D+4*q+1 by omega];exact v.mono λi _ a=>by
  rcases a with a|a
  ·exact a.1
  ·exact .inr (by omega)
theorem zE4 (X:Nat->Prop)(b:Nat)(s:ByteArray)(dv:Value)(af:s.size<=1048576)(C:∀i,X i->i<b)(W D:Nat)(defs:List (ByteArray×Tr))(k:Nat)(c:Reads)(ag:∀both,zCU s D λp=>c p both)(ah:zA2 193 X b s dv W defs D k c):
  zA2 187 X b s dv W defs (D+1) k (λp both=>zCi s (λq=>c q both) (s.size+1) p (zD4 2)):=λw r Y ai aj ak=>by
 show Calls prog 187 #[pX b] w (TrAns w X b s dv r (D+1) (zCi s (λq=>c q r.both) (s.size+1) r.at_ (zD4 2)));have O:=vl Y.lt;have al:Hid (∀wr a,RxAt wr b s dv {r with at_:=a}->Keep w.heap.size b w wr->a<=s.size->Ca 193 #[pX b] wr (TrAns wr X b s dv {r with at_:=a} D (c a r.both))):=λwr a E F am=>ah wr {r with at_:=a} E (ai.go C (F.agree λi an o=>⟨an,kJ o⟩)) aj am;have ao:=vl (ag r.both);obtain⟨z,aa⟩:∃z,z=zCi s (λq=>c q r.both) (s.size+1) r.at_ (zD4 2):=⟨_,rfl⟩
 have ap:=vl aa.symm;rw[<-aa];obtain⟨w1,aq,P⟩:=zLS (X:=X) Y D 2 2 rfl;go_in;apply wp_cut;intro I d;go_wp2;apply d.out;apply wp_cut;intro I d;go_wp2;apply d.out;rw[<-aq];refine wp_block ?_;go_loopg [6] (s.size+1) (λn v wr=>∃f a t sv Q,n=f/\a<=s.size/\s.size+1-a<=f/\zCi s (λq=>c q r.both) f a t=z/\Tw wr (λi=>X i\/w.heap.size<=i) (w.heap.size+1) w.heap.size (D+4*a) sv Q t/\TrOk (D+1+4*a) t/\(t.kind=2\/t.kind=3)/\t.parts.length<=a/\RxAt wr b s dv {r with at_:=a}/\Keep w.heap.size b w wr)
 case atStart=>exact⟨s.size+1,r.at_,zD4 2,_,_,rfl,ak,by omega,ap,P.1,by rw[show D+1+4*r.at_=D+4*r.at_+1 by omega];exact zIe _ 2 (.inl rfl),.inl rfl,lX,P.2.1,P.2.2⟩
 case round=>
  obtain⟨f,a,t,sv,Q,ar,au,aL,ab,av,aw,ax,aM,E,F⟩:=hrel;cases f with
  |zero=>omega
  |succ f=>
  have J:=al wr a E F au;have j:Hid (Tw wr (λi=>X i\/w.heap.size<=i) (w.heap.size+1) w.heap.size (D+4*a) sv Q t/\TrOk (D+1+4*a) t/\(t.kind=2\/t.kind=3)/\RxAt wr b s dv {r with at_:=a}/\Keep w.heap.size b w wr/\gk=f+1):=⟨av,aw,ax,E,F,ar⟩
  cases A:c a r.both with
  |none=>
   rw[A] at J;have R:=vl J;have B:Hid (z=none):=by
    show _=_;rw[<-ab];unfold zCi;rw[A]
   refine wp_block ?_;go_wp2_with (first|(go_at_call 193;refine R.mono ?_;rintro e w2 ⟨x,v2,q2,rfl,S⟩))
   rw[B.out];refine gV (results_tmp2 rfl _ _ _) rfl ?_;have aN:=j.2.2.2.2.1.size;exact⟨j.2.2.2.2.1.trans ⟨x.os,x.output,x.size,λk aO ay=>x.block k (by omega) ay⟩,none,q2,rfl,S⟩
  |some g=>
   obtain⟨u,q⟩:=g;rw[A] at J;have R:=vl J;have K:=vl <| ao a u q A;have L:Hid ((if zCn s q then some ((t.add u).plain,q) else zCi s (λq=>c q r.both) f q (t.add u))=z):=by
    show _=_;rw[<-ab]
    conv=>rhs;unfold zCi
    rw[A]
   refine wp_block ?_;apply wp_cut;intro I d;go_wp2_with (first|(go_at_call 193;refine R.mono ?_;rintro e w2 ⟨x,aP,rfl,az,S⟩))
   apply d.out;apply wp_cut;intro I d;go_wp2;apply d.out;have aA:=K.1;have aB:=K.2.1;have aC:=zLT O C j.1 j.2.2.2.2.1 x az S aA K.2.2 (by omega);apply wp_cut;intro I d;go_wp2_with (first|(go_at_call 188;refine aC.mono ?_;rintro e y ⟨rfl,aD,aE,ac,ad,aF⟩))
   apply d.out;have l:Hid (Tw y (λi=>X i\/w.heap.size<=i) (w.heap.size+1) w.heap.size (D+4*q) ac ad (t.add u)/\RxAt y b s dv {r with at_:=q}/\Keep w.heap.size b w y/\TrOk (D+1+4*q) (t.add u)):=⟨aF,aD,aE,by
    rw[show D+1+4*q=D+4*q+1 by omega];exact zIH (j.2.1.deep (by omega)) j.2.2.1 K.2.2⟩
   have N:Hid (Ca 194 #[pX b] y λe w'=>e=returned (bool (zCn s q))/\RxAt w' b s dv {r with at_:=q}/\∀H,Keep H b y w'):=by
    refine(zGT y b s dv {r with at_:=q} l.2.1 af (by show q<=_;omega)).mono ?_;rintro e T ⟨rfl,m⟩;exact⟨rfl,RxAt.of_block l.2.1 ((m (b+1) (b+1)).block b (by omega) (by omega)),λH=>m H b⟩
   cases ae:zCn s q with
   |true=>
    rw[ae] at N L;have U:=N;have B:=vl L.symm;have aG:=zHl (s:=s) (dv:=dv) (r:=r) O C l.1 l.2.2.1;go_wp2_with (first|(go_at_call 194;refine U.mono ?_;rintro e T ⟨rfl,V,m⟩)|(go_at_call 190;refine(aG T V m).mono ?_;rintro e aQ ⟨aH,rfl,aI,aJ,aK⟩))
    rw[B.out];refine gV (results_tmp2 rfl _ _ _) rfl ?_;exact⟨aK,aH,rfl,aI,aJ⟩
   |false=>
    rw[ae] at N L;have U:=N;have B:=vl L;go_wp2_with (first|(go_at_call 194;refine U.mono ?_;rintro e T ⟨rfl,V,m⟩))
    have aR:=O.out;go_roundg f
    case measure=>rw[j.out.2.2.2.2.2];omega
    case rel=>exact⟨f,q,t.add u,ac,ad,rfl,aB,by omega,B,l.1.keep (m _) (.inl (by omega)) (by omega) (λ_ o=>by rcases o with o|o;exact Nat.lt_irrefl _ (C b o);omega),l.2.2.2,zEo j.2.2.1,by show(t.parts++[u]).length<=q;rw[kX];show t.parts.length+1<=q;omega,V,l.2.2.1.trans (m _)⟩
theorem zCw (X:Nat->Prop)(b:Nat)(s:ByteArray)(dv:Value)(W:s.size<=1048576)(E:∀i,X i->i<b)(Y D:Nat)(defs:List (ByteArray×Tr))(k:Nat)(c:Reads)(ag:∀both,zCU s D λp=>c p both)(ah:zA2 187 X b s dv Y defs D k c):
  zA2 182 X b s dv Y defs (D+1) k (λp both=>zAS s (λq=>c q both) (s.size+1) p (zD4 3)):=λw r aa ai aj ak=>by
 show Calls prog 182 #[pX b] w (TrAns w X b s dv r (D+1) (zAS s (λq=>c q r.both) (s.size+1) r.at_ (zD4 3)));have O:=vl aa.lt;have al:Hid (∀wr a,RxAt wr b s dv {r with at_:=a}->Keep w.heap.size b w wr->a<=s.size->Ca 187 #[pX b] wr (TrAns wr X b s dv {r with at_:=a} D (c a r.both))):=λwr a F H am=>ah wr {r with at_:=a} F (ai.go E (H.agree λi an m=>⟨an,kJ m⟩)) aj am;have ao:=vl (ag r.both);obtain⟨z,ab⟩:∃z,z=zAS s (λq=>c q r.both) (s.size+1) r.at_ (zD4 3):=⟨_,rfl⟩
 have ap:=vl ab.symm;rw[<-ab];obtain⟨w1,aq,P⟩:=zLS (X:=X) aa D 3 3 rfl;go_in;apply wp_cut;intro I d;go_wp2;apply d.out;apply wp_cut;intro I d;go_wp2;apply d.out;rw[<-aq];refine wp_block ?_;go_loopg [6] (s.size+1) (λn v wr=>∃f a t sv Q,n=f/\a<=s.size/\s.size+1-a<=f/\zAS s (λq=>c q r.both) f a t=z/\Tw wr (λi=>X i\/w.heap.size<=i) (w.heap.size+1) w.heap.size (D+4*a) sv Q t/\TrOk (D+1+4*a) t/\(t.kind=2\/t.kind=3)/\t.parts.length<=a/\RxAt wr b s dv {r with at_:=a}/\Keep w.heap.size b w wr)
 case atStart=>exact⟨s.size+1,r.at_,zD4 3,_,_,rfl,ak,by omega,ap,P.1,by rw[show D+1+4*r.at_=D+4*r.at_+1 by omega];exact zIe _ 3 (.inr rfl),.inr rfl,lX,P.2.1,P.2.2⟩
 case round=>
  obtain⟨f,a,t,sv,Q,ar,au,aL,ac,av,aw,ax,aM,F,H⟩:=hrel;cases f with
  |zero=>omega
  |succ f=>
  have J:=al wr a F H au;have j:Hid (Tw wr (λi=>X i\/w.heap.size<=i) (w.heap.size+1) w.heap.size (D+4*a) sv Q t/\TrOk (D+1+4*a) t/\(t.kind=2\/t.kind=3)/\RxAt wr b s dv {r with at_:=a}/\Keep w.heap.size b w wr/\gk=f+1):=⟨av,aw,ax,F,H,ar⟩
  cases A:c a r.both with
  |none=>
   rw[A] at J;have R:=vl J;have B:Hid (z=none):=by
    show _=_;rw[<-ac];unfold zAS;rw[A]
   refine wp_block ?_;go_wp2_with (first|(go_at_call 187;refine R.mono ?_;rintro e w2 ⟨o,v2,q2,rfl,S⟩))
   rw[B.out];refine gV (results_tmp2 rfl _ _ _) rfl ?_;have aN:=j.2.2.2.2.1.size;exact⟨j.2.2.2.2.1.trans ⟨o.os,o.output,o.size,λk aO ay=>o.block k (by omega) ay⟩,none,q2,rfl,S⟩
  |some g=>
   obtain⟨u,q⟩:=g;rw[A] at J;have R:=vl J;have K:=vl <| ao a u q A;have L:Hid ((if zJ s q ⟨#[124]⟩ then zAS s (λq=>c q r.both) f (q+1) (t.add u) else some ((t.add u).plain,q))=z):=by
    show _=_;rw[<-ac]
    conv=>rhs;unfold zAS
    rw[A]
   refine wp_block ?_;apply wp_cut;intro I d;go_wp2_with (first|(go_at_call 187;refine R.mono ?_;rintro e w2 ⟨o,aP,rfl,az,S⟩))
   apply d.out;apply wp_cut;intro I d;go_wp2;apply d.out;have aA:=K.1;have aQ:=K.2.1;have aB:=zLT O E j.1 j.2.2.2.2.1 o az S aA K.2.2 (by omega);apply wp_cut;intro I d;go_wp2_with (first|(go_at_call 188;refine aB.mono ?_;rintro e T ⟨rfl,aC,aD,ad,ae,aE⟩))
   apply d.out;have l:Hid (Tw T (λi=>X i\/w.heap.size<=i) (w.heap.size+1) w.heap.size (D+4*q) ad ae (t.add u)/\RxAt T b s dv {r with at_:=q}/\Keep w.heap.size b w T/\TrOk (D+1+4*q) (t.add u)):=⟨aE,aC,aD,by
    rw[show D+1+4*q=D+4*q+1 by omega];exact zIH (j.2.1.deep (by omega)) j.2.2.1 K.2.2⟩
   cases C:zJ s q ⟨#[124]⟩ with
   |false=>
    have U:=vl (zAE (r:=r) (x:=q) (y:=q) ⟨#[124]⟩ W (by omega) (by decide) C rfl l.2.1);rw[C] at L;have B:=vl L.symm;have aF:=zHl (s:=s) (dv:=dv) (r:=r) O E l.1 l.2.2.1;go_wp2_with (first|(go_at_call 189;refine U.mono ?_;rintro e af ⟨rfl,V,N⟩)|(go_at_call 190;refine(aF af V N).mono ?_;rintro e aR ⟨aG,rfl,aH,aI,aJ⟩))
    rw[B.out];refine gV (results_tmp2 rfl _ _ _) rfl ?_;exact⟨aJ,aG,rfl,aH,aI⟩
   |true=>
    have U:=vl (zAE (r:=r) (x:=q) (y:=q+1) ⟨#[124]⟩ W (by omega) (by decide) C rfl l.2.1);have aK:=vY C;rw[C] at L;have B:=vl L;go_wp2_with (first|(go_at_call 189;refine U.mono ?_;rintro e af ⟨rfl,V,N⟩))
    have aS:=O.out;go_roundg f
    case measure=>rw[j.out.2.2.2.2.2];omega
    case rel=>exact⟨f,q+1,t.add u,ad,ae,rfl,aK,by omega,B,(l.1.keep (N _) (.inl (by omega)) (by omega) (λ_ m=>by rcases m with m|m;exact Nat.lt_irrefl _ (E b m);omega)).deep (by omega),l.2.2.2.deep (by omega),zEo j.2.2.1,by show(t.parts++[u]).length<=q+1;rw[kX];show t.parts.length+1<=q+1;omega,V,l.2.2.1.trans (N _)⟩
theorem zEh (X:Nat->Prop)(b:Nat)(s:ByteArray)(dv:Value)(a:s.size<=1048576)(d:∀i,X i->i<b)(D:Nat)(defs:List (ByteArray×Tr))(f:defs.length<=1000000)(c:zBI D defs):∀k,zA2 182 X b s dv D defs (D+2) k (zCd s defs k)
 |0=>zCw X b s dv a d D (D+1) defs 0 _ (zHV a c (λ_ p t q e=>by cases e)) (zE4 X b s dv a d D D defs 0 _ (zEs a c (λ_ p t q e=>by cases e)) (zE0 X b s dv a d D defs 0 _ (zGH a c (λ_ p t q e=>by cases e)) (zGG X b s dv a d D defs f 0 _ λw r e _ g _ _=>zPu X b s dv D w r e g)))
 |k+1=>zCw X b s dv a d D (D+1) defs (k+1) _ (zHV a c (zAC a c k)) (zE4 X b s dv a d D D defs (k+1) _ (zEs a c (zAC a c k)) (zE0 X b s dv a d D defs (k+1) _ (zGH a c (zAC a c k)) (zGG X b s dv a d D defs f (k+1) _ λw r e j g _ l=>zG6 X b s dv a d D defs k _ (zAC a c k) (zEh X b s dv a d D defs f c k) w r e j g l)))
theorem DefsIn.step {b c:Nat}{X f:Nat->Prop}{w w2:World}{D:Nat}{v:Value}{l:List (ByteArray×Tr)}(m:DefsIn b X w D v l)(a:Grew w w2)(A:b<=c)(q:∀i,i<w.heap.size->X i->f i):DefsIn c f w2 D v l:=by
 obtain⟨ao,cap,r,s,t,u⟩:=m;refine⟨ao,cap,r,s,t,λi d=>?_⟩;obtain⟨g,o,p,x,j,B,c0,c1,y,z⟩:=u i d;have k:=j;have e:=a.block g j (kJ k);exact⟨g,o,p,x,lZ k a.size,by omega,(gZ e).trans c0,(gZ e).trans c1,y.step (a.agree λi d _=>⟨d,kJ d⟩) q,z⟩
def zIL (w:World)(X:Nat->Prop)(D:Nat)(a:Option Tr)(e:Ending)(w':World):Prop:=
 Grew w w'/\match a with
 |none=>e=returned (tuple #[pointer none,bool false])
 |some t=>∃p,e=returned (tuple #[pointer (some ⟨p,0,none⟩),bool true])/\TreeIn (λi=>(X i/\i<w.heap.size)\/w.heap.size<=i) w' D p t
theorem zAt (w:World)(X:Nat->Prop)(s:ByteArray)(dv:Value)(C:s.size<=1048576)(D:Nat)(defs:List (ByteArray×Tr))(E:DefsIn w.heap.size X w D dv defs)(I:defs.length<=1000000)(F:zBI D defs):
  Calls prog 162 #[string s,dv] w (zIL w X (D+2+4*s.size) (jN s defs)):=by
 obtain⟨w1,f,c⟩:∃w1,w1=w.alloc (.cells #[string s,dv,iX 0,iX 0,bool false] 252)/\Hid (Ca 182 #[pX w.heap.size] w1 (TrAns w1 (λi=>X i/\i<w.heap.size) w.heap.size s dv ⟨0,0,false⟩ (D+2) (zCd s defs 8 0 false))/\w1.heap.size=w.heap.size+1/\Grew w w1):=by
  refine⟨_,rfl,?_,by simp,kZ _ _ lQ⟩;exact zEh (λi=>X i/\i<w.heap.size) w.heap.size s dv C (λi y=>y.2) D defs I F 8 _ ⟨0,0,false⟩ (gX _ _) (E.step (kZ _ _ lQ) lQ λi y h=>⟨h,y⟩) rfl lX
 obtain⟨ao,cap,rfl,-⟩:=E;have z:Hid (∀w2,Keep w1.heap.size w.heap.size w1 w2->Grew w w2):=λw2 r=>c.2.2.trans ⟨r.os,r.output,r.size,λk M J=>r.block k (by have:=c.2.1;omega) J⟩;have l:Hid (jN s defs=match zCd s defs 8 0 false with|none=>none|some (t,q)=>if q=s.size then some t else none):=rfl;have A:Hid (∀t q,zCd s defs 8 0 false=some (t,q)->q<=s.size):=λt q e=>(zAC C F 8 false 0 t q e).2.1;cases b:zCd s defs 8 0 false with
 |none=>
  have u:Hid (Ca 182 #[pX w.heap.size] w1 (TrAns w1 (λi=>X i/\i<w.heap.size) w.heap.size s (slice ao defs.length cap) ⟨0,0,false⟩ (D+2) none)):=by have:=c.1;rw[b] at this;exact this
  have d:Hid (jN s defs=none):=by show _=_;rw[l.out,b]
  rw[d.out];go_in;apply wp_cut;intro m a;go_wp2;apply a.out;apply wp_cut;intro m a;go_wp2;apply a.out;clear a;rw[<-f];clear f;go_wp2_with (first|(go_at_call 182;refine u.mono ?_;rintro e w2 ⟨o,v,q,rfl,x⟩))
  refine gV (results_tmp2 rfl _ _ _) rfl ?_;exact⟨z w2 o,rfl⟩
 |some g=>
  obtain⟨t,q⟩:=g;have u:Hid (Ca 182 #[pX w.heap.size] w1 (TrAns w1 (λi=>X i/\i<w.heap.size) w.heap.size s (slice ao defs.length cap) ⟨0,0,false⟩ (D+2) (some (t,q)))):=by have:=c.1;rw[b] at this;exact this
  have N:=A t q b;have B:=c.2.1;by_cases j:q=s.size
  ·have d:Hid (jN s defs=some t):=by show _=_;rw[l.out,b];exact if_pos j
   rw[d.out];clear b d l c A;have K:((q:Int) != (s.size:Int))=false:=by rw[j];simp
   have G:Hid (w1.heap.size=w.heap.size+1/\q=s.size):=⟨B,j⟩
   clear B j;go_in;apply wp_cut;intro m a;go_wp2;apply a.out;clear a;apply wp_cut;intro m a;go_wp2;apply a.out;clear a;rw[<-f];clear f;go_wp2_with (first|(go_at_call 182;refine u.mono ?_;rintro e w2 ⟨o,p,rfl,H,x⟩;have L:cX w2 w.heap.size 2=some (iX (q:Int)):=x.cells.2.2.1))
   refine gV (results_tmp2 rfl _ _ _) rfl ?_;refine⟨z w2 o,p,rfl,?_⟩;rw[<-G.out.2];exact H.mono λi _ h=>by
    rcases h with h|h
    ·exact .inl h
    ·exact .inr (by have:=G.1;omega)
  ·have d:Hid (jN s defs=none):=by show _=_;rw[l.out,b];exact if_neg j
   rw[d.out];clear b d l c A B;have K:((q:Int) != (s.size:Int))=true:=by simp;omega
   clear j;go_in;apply wp_cut;intro m a;go_wp2;apply a.out;clear a;apply wp_cut;intro m a;go_wp2;apply a.out;clear a;rw[<-f];clear f;go_wp2_with (first|(go_at_call 182;refine u.mono ?_;rintro e w2 ⟨o,p,rfl,H,x⟩;have L:cX w2 w.heap.size 2=some (iX (q:Int)):=x.cells.2.2.1))
   refine gV (results_tmp2 rfl _ _ _) rfl ?_;exact⟨z w2 o,rfl⟩
section
def zBu (f g:Nat->Value)(n:Nat):List Value:=(List.range n).flatMap λi=>[f i,g i]
theorem jB (f g:Nat->Value)(n:Nat):zBu f g (n+1)=zBu f g n++[f n,g n]:=by
 unfold zBu;rw[List.range_succ,List.flatMap_append];rfl
theorem zHo (f g:Nat->Value)(n:Nat):(zBu f g n).length=n*2:=by
 induction n with
 |zero=>rfl
 |succ n a=>rw[jB,kX,a];show n*2+2=_;omega
theorem zBK (f g:Nat->Value)(n i:Nat)(d:i<n):(zBu f g n)[i*2]? =some (f i)/\(zBu f g n)[i*2+1]? =some (g i):=by
 induction n with
 |zero=>omega
 |succ n a=>
  rw[jB];have b:=zHo f g n;by_cases c:i<n
  ·rw[kW (by omega),kW (by omega)]
   exact a c
  ·have e:i=n:=by omega
   subst e;rw[hZ (by omega),hZ (by omega),b,Nat.sub_self,show i*2+1-i*2=1 by omega];exact⟨rfl,rfl⟩
theorem zBt (f g b c:Nat->Value)(n:Nat)(a:∀i,i<n->f i=b i/\g i=c i):zBu f g n=zBu b c n:=by
 induction n with
 |zero=>rfl
 |succ n d=>rw[jB,jB,d λi e=>a i (by omega),(a n (by omega)).1,(a n (by omega)).2]
theorem zMN (f g:Nat->Value)(n k:Nat)(v:Value)(d:k<n):(zBu f g n).set (k*2+1) v=zBu f (λi=>if i=k then v else g i) n:=by
 induction n with
 |zero=>omega
 |succ n a=>
  have b:=zHo f g n;rw[jB,jB];by_cases c:k<n
  ·rw[List.set_append_left _ _ (by omega),a c,if_neg (by omega)]
  ·have e:k=n:=by omega
   subst e;rw[List.set_append_right _ _ (by omega),b,show k*2+1-k*2=1 by omega,if_pos rfl];rw[zBt f (λi=>if i=k then v else g i) f g k λi j=>⟨rfl,if_neg (by omega)⟩];rfl
structure Sh where
 modes:List (ByteArray×List Tr)
 defs:List (ByteArray×Tr)
 acts:List Nat
 pushed:List ByteArray
def Sh.mode (s:Sh)(i:Nat):ByteArray×List Tr:=s.modes.getD i (⟨#[]⟩,[])
def Sh.defn (s:Sh)(i:Nat):ByteArray×Tr:=s.defs.getD i (⟨#[]⟩,Tr.none)
def Sh.none:Sh:=⟨[],[],[],[]⟩
structure Sw (w:World)(X:Nat->Prop)(S D:Nat)(sh:Sh)(mv dv av pv:Value)(rv:Nat->Value)(ps:Nat->List Nat)(dp:Nat->Nat):Prop where
 blk:w.heap[S]? =some (.cells #[mv,dv,av,pv] 114)
 mOwn:w.ownsRow (S+1) 120 2 mv sh.modes.length (zBu (λi=>string (sh.mode i).1) rv sh.modes.length)
 dOwn:w.ownsRow (S+1) 233 2 dv sh.defs.length (zBu (λi=>string (sh.defn i).1) (λi=>pointer (some ⟨dp i,0,none⟩)) sh.defs.length)
 aOwn:w.ownsRow (S+1) 3 1 av sh.acts.length (sh.acts.map λx:Nat=>int i64 (x:Int))
 pOwn:w.ownsRow (S+1) 9 1 pv sh.pushed.length (sh.pushed.map λx=>string x)
 rOwn:∀i,i<sh.modes.length->w.ownsRow (S+1) 158 1 (rv i) (sh.mode i).2.length (yI (ps i))
 rApart:∀i j g,i<sh.modes.length->j<sh.modes.length->i≠j->(rv i).ownBlock=some g->some g≠(rv j).ownBlock
 rTree:∀i,i<sh.modes.length->∀k,k<(sh.mode i).2.length->TreeIn X w D ((ps i).getD k 0) ((sh.mode i).2.getD k Tr.none)
 dTree:∀i,i<sh.defs.length->TreeIn X w D (dp i) (sh.defn i).2
 xlt:∀g,X g->S<g/\g<w.heap.size
 xm:∀g,X g->some g≠mv.ownBlock/\some g≠dv.ownBlock/\some g≠av.ownBlock/\some g≠pv.ownBlock
 xr:∀g i,X g->i<sh.modes.length->some g≠(rv i).ownBlock
 lt:S<w.heap.size
def SwIs (w:World)(S D:Nat)(sh:Sh):Prop:=∃X mv dv av pv rv ps dp,Sw w X S D sh mv dv av pv rv ps dp
section
variable {w w2:World} {X:Nat->Prop} {S D E:Nat} {sh:Sh} {mv dv av pv:Value} {rv:Nat->Value} {ps:Nat->List Nat} {dp:Nat->Nat}
theorem xJ {H e i n c j k:Nat}{v d:Value}{xs l:List Value}(m:w.ownsRow H e i v n xs)(o:w.ownsRow H c j d k l)(p:e≠c)(g:Nat)(a:v.ownBlock=some g):some g≠d.ownBlock:=by
 rcases m.2 with⟨b,-⟩|⟨q,cap,s,b,t,f,-⟩
 ·rw[b] at a;cases a
 ·rw[b] at a
  have r:q=g:=by simpa[Value.ownBlock] using a
  rw[r] at f;exact zM o f (Ne.symm p)
theorem Sw.cells (a:Sw w X S D sh mv dv av pv rv ps dp):w.cell? ⟨S,0,none⟩=some mv/\w.cell? ⟨S,1,none⟩=some dv/\w.cell? ⟨S,2,none⟩=some av/\w.cell? ⟨S,3,none⟩=some pv/\∀i,w.frozen? ⟨S,i,none⟩=false:=by
 refine⟨?_,?_,?_,?_,λi=>?_⟩
 all_goals first|(unfold cell?;rw[a.blk];rfl)|(unfold frozen?;rw[a.blk];simp)
theorem Sw.grown (a:Sw w X S D sh mv dv av pv rv ps dp)(c:Grew w w2):Sw w2 X S D sh mv dv av pv rv ps dp:=by
 have d:∀{H e j n v xs},w.ownsRow H e j v n xs->w2.ownsRow H e j v n xs:=λm=>zD m λg _ f _=>c.block g f (kJ f);have l:Agree X w w2:=c.agree λi b _=>⟨b,kJ b⟩
 exact⟨(c.block S a.lt (kJ a.lt)).trans a.blk,d a.mOwn,d a.dOwn,d a.aOwn,d a.pOwn,λi b=>d (a.rOwn i b),a.rApart,λi b k o=>(a.rTree i b k o).go l,λi b=>(a.dTree i b).go l,λg f=>⟨(a.xlt g f).1,lZ (a.xlt g f).2 c.size⟩,a.xm,a.xr,lZ a.lt c.size⟩
theorem Sw.deep (a:Sw w X S D sh mv dv av pv rv ps dp)(c:D<=E):Sw w X S E sh mv dv av pv rv ps dp:=⟨a.blk,a.mOwn,a.dOwn,a.aOwn,a.pOwn,a.rOwn,a.rApart,λi b k d=>(a.rTree i b k d).deep c,λi b=>(a.dTree i b).deep c,a.xlt,a.xm,a.xr,a.lt⟩
theorem Sw.more (c:Sw w X S D sh mv dv av pv rv ps dp)(l:Grew w w2):Sw w2 (λi=>X i\/(w.heap.size<=i/\i<w2.heap.size)) S D sh mv dv av pv rv ps dp:=by
 have b:=c.grown l;have q:=c.lt;have f:∀{e m n v xs},w.ownsRow (S+1) e m v n xs->∀g,w.heap.size<=g->some g≠v.ownBlock:=λo g a e=>by have:=(o.lt g e.symm).2;omega
 refine⟨b.blk,b.mOwn,b.dOwn,b.aOwn,b.pOwn,b.rOwn,b.rApart,λi d k p=>(b.rTree i d k p).mono λ_ _ j=>.inl j,λi d=>(b.dTree i d).mono λ_ _ j=>.inl j,λg a=>?_,λg a=>?_,λg i a d=>?_,b.lt⟩
 ·rcases a with a|a
  ·exact b.xlt g a
  ·exact⟨by omega,a.2⟩
 ·rcases a with a|a
  ·exact b.xm g a
  ·exact⟨f c.mOwn g a.1,f c.dOwn g a.1,f c.aOwn g a.1,f c.pOwn g a.1⟩
 ·rcases a with a|a
  ·exact b.xr g i a d
  ·exact f (c.rOwn i d) g a.1
theorem yL {p H e b n:Nat}{u c v:Value}{xs:List Value}(d:KeepO p u c w w2)(f:w.ownsRow H e b v n xs)(k:p<H)(h:∀g,v.ownBlock=some g->some g≠u.ownBlock):w2.ownsRow H e b v n xs/\∀g,v.ownBlock=some g->some g≠c.ownBlock:=by
 refine⟨zD f λg l i a=>(d.block g i (by omega) (h g a)).1,λg a=>?_⟩;have j:=f.lt g a;exact(d.block g j.2 (by omega) (h g a)).2
theorem zAc {p c b:Nat}{u h:Value}{t:Tr}(a:KeepO p u h w w2)(j:TreeIn X w c b t)(e:∀g,X g->g≠p/\some g≠u.ownBlock):TreeIn X w2 c b t:=j.go ⟨a.os,a.output,a.size,λi k f=>(a.block i k (e i f).1 (e i f).2).1⟩
theorem zFy {o:Obj}{H e b n g cap m i:Nat}{v:Value}{xs c:List Value}(l:w.ownsRow H e b v n xs)(d:S<H)(y:H<=w.heap.size)(p:w2.ownsRow H e b (slice (qX g) m cap) m c)(a:(w.alloc o).grownBy w2 v.ownBlock)(q:v.ownBlock=some g\/w.heap.size<=g):
  (w2.setCell ⟨S,i,none⟩ (slice (qX g) m cap)).ownsRow H e b (slice (qX g) m cap) m c/\KeepO S v (slice (qX g) m cap) w (w2.setCell ⟨S,i,none⟩ (slice (qX g) m cap))/\w2.heap[S]? =w.heap[S]? :=by
 have r:∀j,j<H->w2.heap[j]? =w.heap[j]? :=λj A=>(a.block j (by simp;omega) λe=>by have:=(l.lt j e.symm).1;omega).trans (lG _ _ _ (by omega));have s:w.heap.size<=w2.heap.size:=lY (by simp) a.size;refine⟨xG p d,⟨a.os,a.output,by rw[zC];exact s,λk t u f=>⟨(lJ _ _ _ _ u).trans ((a.block k (by simp;omega) f).trans (lG _ _ _ t)),λe=>by
  have x:k=g:=by simpa[Value.ownBlock] using e
  rcases q with h|h
  ·exact f (by rw[h,x])
  ·omega⟩⟩,r S d⟩
end
end
section
section
variable {w w2:World} {X:Nat->Prop} {S D:Nat} {sh:Sh} {mv dv av pv:Value} {rv:Nat->Value} {ps:Nat->List Nat} {dp:Nat->Nat} {o:Obj} {g cap:Nat}
theorem zC4 {p H e b n:Nat}{u c v:Value}{xs:List Value}(d:KeepO p u c w w2)(f:w.ownsRow H e b v n xs)(h:∀g,v.ownBlock=some g->g≠p)(i:∀g,v.ownBlock=some g->some g≠u.ownBlock):w2.ownsRow H e b v n xs/\∀g,v.ownBlock=some g->some g≠c.ownBlock:=by
 refine⟨zD f λg l j a=>(d.block g j (h g a) (i g a)).1,λg a=>?_⟩;have k:=f.lt g a;exact(d.block g k.2 (h g a) (i g a)).2
def Sh.addMode (sh:Sh)(nm:ByteArray):Sh:={sh with modes:=sh.modes++[(nm,[])]}
def Sh.addDef (sh:Sh)(nm:ByteArray)(t:Tr):Sh:={sh with defs:=sh.defs++[(nm,t)]}
def Sh.addAct (sh:Sh)(a:Nat):Sh:={sh with acts:=sh.acts++[a]}
def Sh.addPush (sh:Sh)(nm:ByteArray):Sh:={sh with pushed:=sh.pushed++[nm]}
theorem zAP (sh:Sh)(a:ByteArray)(i:Nat)(b:i<sh.modes.length):(sh.addMode a).mode i=sh.mode i:=by
 unfold Sh.mode Sh.addMode;rw[lW,lW];show((sh.modes++[(a,[])])[i]?).getD _=_;rw[kW b]
theorem zAQ (sh:Sh)(a:ByteArray):(sh.addMode a).mode sh.modes.length=(a,[]):=by
 unfold Sh.mode Sh.addMode;simp
theorem zAj (sh:Sh)(a:ByteArray):(sh.addMode a).modes.length=sh.modes.length+1:=by unfold Sh.addMode;simp
theorem zDK (sh:Sh)(a:ByteArray)(t:Tr)(i:Nat)(b:i<sh.defs.length):(sh.addDef a t).defn i=sh.defn i:=by
 unfold Sh.defn Sh.addDef;rw[lW,lW];show((sh.defs++[(a,t)])[i]?).getD _=_;rw[kW b]
theorem zDL (sh:Sh)(a:ByteArray)(t:Tr):(sh.addDef a t).defn sh.defs.length=(a,t):=by
 unfold Sh.defn Sh.addDef;simp
theorem zDM (sh:Sh)(a:ByteArray)(t:Tr):(sh.addDef a t).defs.length=sh.defs.length+1:=by unfold Sh.addDef;simp
theorem Sw.appAct (a:Sw w X S D sh mv dv av pv rv ps dp){x:Nat}(s:w2.ownsRow (S+1) 3 1 (slice (qX g) (sh.acts.length+1) cap) (sh.acts.length+1) ((sh.acts.map λx:Nat=>iX (x:Int))++[iX (x:Int)]))(u:(w.alloc o).grownBy w2 av.ownBlock)(v:av.ownBlock=some g\/w.heap.size<=g){e:Value}(y:e=slice (qX g) (sh.acts.length+1) cap:=by rfl):
  Sw (w2.setCell ⟨S,2,none⟩ e) X S D (sh.addAct x) mv dv e pv rv ps dp/\KeepO S av e w (w2.setCell ⟨S,2,none⟩ e):=by
 obtain⟨p,f,z⟩:=zFy (i:=2) a.aOwn (Nat.lt_succ_self S) a.lt s u v;rw[<-y] at p f;have A:=yL f a.mOwn (Nat.lt_succ_self S) (xJ a.mOwn a.aOwn (by decide));have B:=yL f a.dOwn (Nat.lt_succ_self S) (xJ a.dOwn a.aOwn (by decide));have C:=yL f a.pOwn (Nat.lt_succ_self S) (xJ a.pOwn a.aOwn (by decide));have E:=λi (j:i<sh.modes.length)=>yL f (a.rOwn i j) (Nat.lt_succ_self S) (xJ (a.rOwn i j) a.aOwn (by decide));have l:∀q,X q->q≠S/\some q≠av.ownBlock:=λq c=>⟨Nat.ne_of_gt (a.xlt q c).1,(a.xm q c).2.2.1⟩
 have r:∀m b t,TreeIn X w m b t->TreeIn X (w2.setCell ⟨S,2,none⟩ e) m b t:=λm b t F=>zAc f F l;have G:∀q,X q->some q≠e.ownBlock:=λq c=>(f.block q (a.xlt q c).2 (l q c).1 (l q c).2).2;have H:(w2.setCell ⟨S,2,none⟩ e).heap[S]? =some (.cells #[mv,dv,e,pv] 114):=by
  have:=z.trans a.blk;simp[setCell,lU,this]
 have I:∀q,X q->S<q/\q<(w2.setCell ⟨S,2,none⟩ e).heap.size:=λq c=>⟨(a.xlt q c).1,lZ (a.xlt q c).2 f.size⟩
 refine⟨⟨H,A.1,B.1,(by show(setCell _ _ _).ownsRow _ _ _ _ (sh.acts++[x]).length ((sh.acts++[x]).map _);rw[kX,List.map_append];exact p),C.1,λi j=>(E i j).1,a.rApart,λi j k J=>r _ _ _ (a.rTree i j k J),λi j=>r _ _ _ (a.dTree i j),I,λq c=>⟨(a.xm q c).1,(a.xm q c).2.1,G q c,(a.xm q c).2.2.2⟩,a.xr,lZ a.lt f.size⟩,f⟩
theorem Sw.appPush (a:Sw w X S D sh mv dv av pv rv ps dp){x:ByteArray}(s:w2.ownsRow (S+1) 9 1 (slice (qX g) (sh.pushed.length+1) cap) (sh.pushed.length+1) ((sh.pushed.map λx=>string x)++[string x]))(u:(w.alloc o).grownBy w2 pv.ownBlock)(v:pv.ownBlock=some g\/w.heap.size<=g){e:Value}(y:e=slice (qX g) (sh.pushed.length+1) cap:=by rfl):
  Sw (w2.setCell ⟨S,3,none⟩ e) X S D (sh.addPush x) mv dv av e rv ps dp/\KeepO S pv e w (w2.setCell ⟨S,3,none⟩ e):=by
 obtain⟨p,f,z⟩:=zFy (i:=3) a.pOwn (Nat.lt_succ_self S) a.lt s u v;rw[<-y] at p f;have A:=yL f a.mOwn (Nat.lt_succ_self S) (xJ a.mOwn a.pOwn (by decide));have B:=yL f a.dOwn (Nat.lt_succ_self S) (xJ a.dOwn a.pOwn (by decide));have C:=yL f a.aOwn (Nat.lt_succ_self S) (xJ a.aOwn a.pOwn (by decide));have E:=λi (j:i<sh.modes.length)=>yL f (a.rOwn i j) (Nat.lt_succ_self S) (xJ (a.rOwn i j) a.pOwn (by decide));have l:∀q,X q->q≠S/\some q≠pv.ownBlock:=λq c=>⟨Nat.ne_of_gt (a.xlt q c).1,(a.xm q c).2.2.2⟩
 have r:∀m b t,TreeIn X w m b t->TreeIn X (w2.setCell ⟨S,3,none⟩ e) m b t:=λm b t F=>zAc f F l;have G:∀q,X q->some q≠e.ownBlock:=λq c=>(f.block q (a.xlt q c).2 (l q c).1 (l q c).2).2;have H:(w2.setCell ⟨S,3,none⟩ e).heap[S]? =some (.cells #[mv,dv,av,e] 114):=by
  have:=z.trans a.blk;simp[setCell,lU,this]
 have I:∀q,X q->S<q/\q<(w2.setCell ⟨S,3,none⟩ e).heap.size:=λq c=>⟨(a.xlt q c).1,lZ (a.xlt q c).2 f.size⟩
 refine⟨⟨H,A.1,B.1,C.1,(by show(setCell _ _ _).ownsRow _ _ _ _ (sh.pushed++[x]).length ((sh.pushed++[x]).map _);rw[kX,List.map_append];exact p),λi j=>(E i j).1,a.rApart,λi j k J=>r _ _ _ (a.rTree i j k J),λi j=>r _ _ _ (a.dTree i j),I,λq c=>⟨(a.xm q c).1,(a.xm q c).2.1,(a.xm q c).2.2.1,G q c⟩,a.xr,lZ a.lt f.size⟩,f⟩
theorem Sw.appDef (a:Sw w X S D sh mv dv av pv rv ps dp){m:ByteArray}{t:Tr}{p:Nat}(r:TreeIn X w D p t)(y:w2.ownsRow (S+1) 233 2 (slice (qX g) (sh.defs.length+1) cap) (sh.defs.length+1) (zBu (λi=>string (sh.defn i).1) (λi=>pointer (some ⟨dp i,0,none⟩)) sh.defs.length++[string m,pX p]))(z:(w.alloc o).grownBy w2 dv.ownBlock)(A:dv.ownBlock=some g\/w.heap.size<=g){f:Value}(B:f=slice (qX g) (sh.defs.length+1) cap:=by rfl):
  Sw (w2.setCell ⟨S,1,none⟩ f) X S D (sh.addDef m t) mv f av pv rv ps (λi=>if i=sh.defs.length then p else dp i)/\KeepO S dv f w (w2.setCell ⟨S,1,none⟩ f):=by
 obtain⟨x,j,C⟩:=zFy (i:=1) a.dOwn (Nat.lt_succ_self S) a.lt y z A;rw[<-B] at x j;have E:=yL j a.mOwn (Nat.lt_succ_self S) (xJ a.mOwn a.dOwn (by decide));have F:=yL j a.aOwn (Nat.lt_succ_self S) (xJ a.aOwn a.dOwn (by decide));have G:=yL j a.pOwn (Nat.lt_succ_self S) (xJ a.pOwn a.dOwn (by decide));have H:=λi (l:i<sh.modes.length)=>yL j (a.rOwn i l) (Nat.lt_succ_self S) (xJ (a.rOwn i l) a.dOwn (by decide));have s:∀q,X q->q≠S/\some q≠dv.ownBlock:=λq c=>⟨Nat.ne_of_gt (a.xlt q c).1,(a.xm q c).2.1⟩
 have u:∀v b t,TreeIn X w v b t->TreeIn X (w2.setCell ⟨S,1,none⟩ f) v b t:=λv b t r=>zAc j r s;have I:∀q,X q->some q≠f.ownBlock:=λq c=>(j.block q (a.xlt q c).2 (s q c).1 (s q c).2).2;have J:(w2.setCell ⟨S,1,none⟩ f).heap[S]? =some (.cells #[mv,f,av,pv] 114):=by
  have:=C.trans a.blk;simp[setCell,lU,this]
 have K:∀q,X q->S<q/\q<(w2.setCell ⟨S,1,none⟩ f).heap.size:=λq c=>⟨(a.xlt q c).1,lZ (a.xlt q c).2 j.size⟩
 refine⟨⟨J,E.1,(by rw[zDM,jB,zDL,if_pos rfl,zBt (λi=>string ((sh.addDef m t).defn i).1) (λi=>pointer (some ⟨if i=sh.defs.length then p else dp i,0,none⟩)) (λi=>string (sh.defn i).1) (λi=>pointer (some ⟨dp i,0,none⟩)) _ λi l=>⟨by rw[zDK sh m t i l],by rw[if_neg (by omega)]⟩];exact x),F.1,G.1,λi l=>(H i l).1,a.rApart,λi l k L=>u _ _ _ (a.rTree i l k L),λi l=>(by
  rw[zDM] at l;by_cases e:i=sh.defs.length
  ·subst e;rw[zDL];simp only[if_pos];exact u _ _ _ r
  ·rw[zDK sh m t i (by omega)];simp only[if_neg e];exact u _ _ _ (a.dTree i (by omega))),K,λq c=>⟨(a.xm q c).1,I q c,(a.xm q c).2.2.1,(a.xm q c).2.2.2⟩,a.xr,lZ a.lt j.size⟩,j⟩
theorem Sw.appMode (a:Sw w X S D sh mv dv av pv rv ps dp){p:ByteArray}(A:w2.ownsRow (S+1) 120 2 (slice (qX g) (sh.modes.length+1) cap) (sh.modes.length+1) (zBu (λi=>string (sh.mode i).1) rv sh.modes.length++[string p,slice none 0 0]))(B:(w.alloc o).grownBy w2 mv.ownBlock)(C:mv.ownBlock=some g\/w.heap.size<=g){l:Value}(E:l=slice (qX g) (sh.modes.length+1) cap:=by rfl):
  Sw (w2.setCell ⟨S,0,none⟩ l) X S D (sh.addMode p) l dv av pv (λi=>if i=sh.modes.length then slice none 0 0 else rv i) (λi=>if i=sh.modes.length then[] else ps i) dp/\KeepO S mv l w (w2.setCell ⟨S,0,none⟩ l):=by
 obtain⟨x,m,F⟩:=zFy (i:=0) a.mOwn (Nat.lt_succ_self S) a.lt A B C;rw[<-E] at x m;have G:=yL m a.dOwn (Nat.lt_succ_self S) (xJ a.dOwn a.mOwn (by decide));have H:=yL m a.aOwn (Nat.lt_succ_self S) (xJ a.aOwn a.mOwn (by decide));have I:=yL m a.pOwn (Nat.lt_succ_self S) (xJ a.pOwn a.mOwn (by decide));have J:=λi (f:i<sh.modes.length)=>yL m (a.rOwn i f) (Nat.lt_succ_self S) (xJ (a.rOwn i f) a.mOwn (by decide));have s:∀q,X q->q≠S/\some q≠mv.ownBlock:=λq c=>⟨Nat.ne_of_gt (a.xlt q c).1,(a.xm q c).1⟩
 have y:∀u b t,TreeIn X w u b t->TreeIn X (w2.setCell ⟨S,0,none⟩ l) u b t:=λu b t K=>zAc m K s;have L:∀q,X q->some q≠l.ownBlock:=λq c=>(m.block q (a.xlt q c).2 (s q c).1 (s q c).2).2;have M:(w2.setCell ⟨S,0,none⟩ l).heap[S]? =some (.cells #[l,dv,av,pv] 114):=by
  have:=F.trans a.blk;simp[setCell,lU,this]
 have N:∀q,X q->S<q/\q<(w2.setCell ⟨S,0,none⟩ l).heap.size:=λq c=>⟨(a.xlt q c).1,lZ (a.xlt q c).2 m.size⟩
 refine⟨⟨M,(by rw[zAj,jB,zAQ,if_pos rfl,zBt (λi=>string ((sh.addMode p).mode i).1) (λi=>if i=sh.modes.length then slice none 0 0 else rv i) (λi=>string (sh.mode i).1) rv _ λi f=>⟨by rw[zAP sh p i f],by rw[if_neg (by omega)]⟩];exact x),G.1,H.1,I.1,λi f=>(by
  rw[zAj] at f;by_cases e:i=sh.modes.length
  ·subst e;rw[zAQ];simp only[if_pos];exact ownsRow_nil _ _ _ _
  ·rw[zAP sh p i (by omega)];simp only[if_neg e];exact(J i (by omega)).1),λi j q f O P c=>(by
  rw[zAj] at f O;by_cases e:i=sh.modes.length
  ·simp only[if_pos e] at c;cases c
  ·simp only[if_neg e] at c
   by_cases z:j=sh.modes.length
   ·simp only[if_pos z];intro v;cases v
   ·simp only[if_neg z];exact a.rApart i j q (by omega) (by omega) P c),λi f k r=>(by
  rw[zAj] at f;by_cases e:i=sh.modes.length
  ·subst e;rw[zAQ] at r;exact absurd r (Nat.not_lt_zero _)
  ·rw[zAP sh p i (by omega)] at r ⊢;simp only[if_neg e];exact y _ _ _ (a.rTree i (by omega) k r)),λi f=>y _ _ _ (a.dTree i f),N,λq c=>⟨L q c,(a.xm q c).2.1,(a.xm q c).2.2.1,(a.xm q c).2.2.2⟩,λq i c f=>(by
  rw[zAj] at f;by_cases e:i=sh.modes.length
  ·simp only[if_pos e];intro v;cases v
  ·simp only[if_neg e];exact a.xr q i c (by omega)),lZ a.lt m.size⟩,m⟩
end
end
def Sh.addRule (sh:Sh)(k:Nat)(t:Tr):Sh:={sh with modes:=sh.modes.set k ((sh.mode k).1,(sh.mode k).2++[t])}
theorem zFi (sh:Sh)(k:Nat)(t:Tr):(sh.addRule k t).modes.length=sh.modes.length:=by unfold Sh.addRule;simp
theorem zAO (sh:Sh)(k:Nat)(t:Tr)(i:Nat)(a:i≠k):(sh.addRule k t).mode i=sh.mode i:=by
 unfold Sh.addRule
 conv=>lhs;unfold Sh.mode
 conv=>rhs;unfold Sh.mode
 rw[lW,lW];show((sh.modes.set k _)[i]?).getD _=_;rw[List.getElem?_set_ne (Ne.symm a),lW]
theorem zBA (sh:Sh)(k:Nat)(t:Tr)(a:k<sh.modes.length):(sh.addRule k t).mode k=((sh.mode k).1,(sh.mode k).2++[t]):=by
 unfold Sh.addRule
 conv=>lhs;unfold Sh.mode
 rw[lW];show((sh.modes.set k _)[k]?).getD _=_;rw[List.getElem?_set_self a];rfl
theorem zIJ (sh:Sh)(k:Nat)(t:Tr)(a:k<sh.modes.length)(i:Nat):((sh.addRule k t).mode i).1=(sh.mode i).1:=by
 by_cases e:i=k
 ·subst e;rw[zBA sh i t a]
 ·rw[zAO sh k t i e]
theorem Sw.appRule {w w2:World}{X:Nat->Prop}{S D:Nat}{sh:Sh}{dv O P:Value}{rv:Nat->Value}{p:Nat->List Nat}{Q:Nat->Nat}{o:Obj}{g cap m R k x:Nat}{t:Tr}(a:Sw w X S D sh (slice (qX m) sh.modes.length R) dv O P rv p Q)(r:k<sh.modes.length)(G:TreeIn X w D x t)(ac:w2.ownsRow (S+1) 158 1 (slice (qX g) ((sh.mode k).2.length+1) cap) ((sh.mode k).2.length+1) (yI (p k)++[pX x]))(B:(w.alloc o).grownBy w2 (rv k).ownBlock)(T:(rv k).ownBlock=some g\/w.heap.size<=g):
  Sw (w2.setCell ⟨m,k*2+1,none⟩ (slice (qX g) ((sh.mode k).2.length+1) cap)) X S D (sh.addRule k t) (slice (qX m) sh.modes.length R) dv O P (λi=>if i=k then slice (qX g) ((sh.mode k).2.length+1) cap else rv i) (λi=>if i=k then p k++[x] else p i) Q/\KeepO m (rv k) (slice (qX g) ((sh.mode k).2.length+1) cap) w (w2.setCell ⟨m,k*2+1,none⟩ (slice (qX g) ((sh.mode k).2.length+1) cap)):=by
 have U:=a.lt;have ap:=a.mOwn.lt m rfl;have V:=xJ a.mOwn (a.rOwn k r) (by decide) m rfl;have ad:w.heap.size<=w2.heap.size:=lY (by simp) B.size;have ae:g≠m:=λe=>by
  rcases T with y|y
  ·exact V (by rw[y,e])
  ·omega
 have W:∀j,j<w.heap.size->some j≠(rv k).ownBlock->w2.heap[j]? =w.heap[j]? :=λj s af=>(B.block j (by simp;omega) af).trans (lG _ _ _ s);have u:KeepO m (rv k) (slice (qX g) ((sh.mode k).2.length+1) cap) w (w2.setCell ⟨m,k*2+1,none⟩ (slice (qX g) ((sh.mode k).2.length+1) cap)):=⟨B.os,B.output,by rw[zC];exact ad,λj H C Y=>⟨(lJ _ _ _ _ C).trans (W j H Y),λe=>by
  have l:j=g:=by simpa[Value.ownBlock] using e
  rcases T with y|y
  ·exact Y (by rw[y,l])
  ·omega⟩⟩
 have E:∀{e ag n v xs},w.ownsRow (S+1) e ag v n xs->e≠120->∀q,v.ownBlock=some q->q≠m:=λah ai q c l=>xJ ah a.mOwn ai q c (by rw[l];rfl);have aj:=zC4 u a.dOwn (E a.dOwn (by decide)) (xJ a.dOwn (a.rOwn k r) (by decide));have ak:=zC4 u a.aOwn (E a.aOwn (by decide)) (xJ a.aOwn (a.rOwn k r) (by decide));have al:=zC4 u a.pOwn (E a.pOwn (by decide)) (xJ a.pOwn (a.rOwn k r) (by decide));have I:=λi (f:i<sh.modes.length) (hik:i≠k)=>zC4 u (a.rOwn i f) (E (a.rOwn i f) (by decide)) (λq c=>a.rApart i k q f r hik c);have J:∀q,X q->q≠m/\some q≠(rv k).ownBlock:=λq c=>⟨λe=>(a.xm q c).1 (by rw[e];rfl),a.xr q k c r⟩
 have F:∀K b t,TreeIn X w K b t->TreeIn X (w2.setCell ⟨m,k*2+1,none⟩ (slice (qX g) ((sh.mode k).2.length+1) cap)) K b t:=λK b t G=>zAc u G J;have A:=zFi sh k t;refine⟨⟨?_,?_,aj.1,ak.1,al.1,λi f=>?_,λi j q f s aa c=>?_,λi f j s=>?_,λi f=>F _ _ _ (a.dTree i f),λq c=>⟨(a.xlt q c).1,lZ (a.xlt q c).2 u.size⟩,a.xm,λq i c f=>?_,lZ U u.size⟩,u⟩
 ·exact(u.block S U (by omega) λe=>by have:=((a.rOwn k r).lt S e.symm).1;omega).1.trans a.blk
 ·have H:=zD a.mOwn λq _ c L=>W q c (by
   have e:m=q:=by simpa[Value.ownBlock] using L
   rw[<-e];exact V)
  have C:=H.stored (k*2+1) (slice (qX g) ((sh.mode k).2.length+1) cap);rw[zMN _ _ _ _ _ r] at C;rw[A,zBt (λi=>string ((sh.addRule k t).mode i).1) _ (λi=>string (sh.mode i).1) (λi=>if i=k then slice (qX g) ((sh.mode k).2.length+1) cap else rv i) _ λi _=>⟨by rw[zIJ sh k t r],rfl⟩];exact C.1
 ·rw[A] at f
  by_cases e:i=k
  ·subst e
   rw[zBA sh i t r];simp only[if_pos];have l:((sh.mode i).2++[t]).length=(sh.mode i).2.length+1:=by simp
   have M:yI (p i++[x])=yI (p i)++[pX x]:=by simp[yI]
   show World.ownsRow _ _ _ _ _ ((sh.mode i).2++[t]).length _;rw[l,M];exact zD ac λq _ _ L=>lJ _ _ _ _ (by
    have am:g=q:=by simpa[Value.ownBlock] using L
    rw[<-am];exact ae)
  ·rw[zAO sh k t i e]
   simp only[if_neg e];exact(I i f e).1
 ·rw[A] at f s
  by_cases e:i=k
  ·simp only[if_pos e] at c
   have l:j≠k:=λl=>aa (by rw[e,l]);simp only[if_neg l];exact λM=>(I j s l).2 q M.symm (c.symm)
  ·simp only[if_neg e] at c
   by_cases l:j=k
   ·simp only[if_pos l]
    exact(I i f e).2 q c
   ·simp only[if_neg l]
    exact a.rApart i j q f s aa c
 ·rw[A] at f
  by_cases e:i=k
  ·subst e
   rw[zBA sh i t r] at s ⊢;simp only[if_pos];have an:(p i).length=(sh.mode i).2.length:=by
    have:=(a.rOwn i f).1;unfold yI at this;rw[kV] at this;omega
   have aq:j<(sh.mode i).2.length+1:=by simpa using s
   show TreeIn X _ D ((p i++[x]).getD j 0) (((sh.mode i).2++[t]).getD j Tr.none);by_cases ab:j<(sh.mode i).2.length
   ·have N:(p i++[x]).getD j 0=(p i).getD j 0:=by rw[lW,lW,kW (by omega)]
    have l:((sh.mode i).2++[t]).getD j Tr.none=(sh.mode i).2.getD j Tr.none:=by rw[lW,lW,kW ab]
    rw[N,l];exact F _ _ _ (a.rTree i f j ab)
   ·have ao:j=(sh.mode i).2.length:=by omega
    subst ao;have N:(p i++[x]).getD (sh.mode i).2.length 0=x:=by rw[<-an];simp
    have l:((sh.mode i).2++[t]).getD (sh.mode i).2.length Tr.none=t:=by simp
    rw[N,l];exact F _ _ _ G
  ·rw[zAO sh k t i e] at s ⊢
   simp only[if_neg e];exact F _ _ _ (a.rTree i f j s)
 ·rw[A] at f
  by_cases e:i=k
  ·simp only[if_pos e]
   exact(u.block q (a.xlt q c).2 (J q c).1 (J q c).2).2
  ·simp only[if_neg e]
   exact a.xr q i c f
theorem vD {w:World}{H e c n:Nat}{v:Value}{xs:List Value}(a:w.ownsRow H e c v n xs)(o:0<n):∃g cap,v=slice (qX g) n cap/\H<=g/\g<w.heap.size/\n<=cap/\cap<=maxLen/\(∀j u,xs[j]? =some u->w.cell? ⟨g,j,none⟩=some u)/\∀j,w.frozen? ⟨g,j,none⟩=false:=by
 rcases a.2 with⟨-,p⟩|⟨g,cap,q,b,d,f,i,k,-⟩
 ·omega
 ·have l:=a.lt g (by rw[b];rfl)
  refine⟨g,cap,b,d,l.2,i,k,λj u m=>?_,λj=>?_⟩
  ·have:=a.cells (g:=g) (by rw[b];rfl) j u m
   rw[Addr.add_lit,Nat.zero_add] at this;exact this
  ·unfold frozen?;rw[f];simp
theorem zD3 {w:World}{H e b n:Nat}{v:Value}{xs:List Value}(c:w.ownsRow H e b v n xs):∃ao cap,v=slice ao n cap/\n<=cap/\cap<=maxLen:=by
 rcases c.2 with⟨a,d⟩|⟨g,cap,j,a,k,l,f,i,-⟩
 ·exact⟨none,0,by rw[a,d],by omega,by unfold maxLen;omega⟩
 ·exact⟨_,cap,a,f,i⟩
theorem zHz {a:Type}(l:List a)(p:a->Bool)(b:a)(j:Nat)(c:j<l.length)(g:p (l.getD j b)=true)(m:∀i,i<j->p (l.getD i b)=false):l.findIdx p=j:=by
 have e:∀i (f:i<l.length),l.getD i b=l[i]:=λi f=>by rw[lW,lV f];rfl
 rw[List.findIdx_eq c];refine⟨by rw[<-e j c];exact g,λk o=>?_⟩;rw[<-e k (by omega)];exact m k o
theorem zJ0 {a:Type}(l:List a)(p:a->Bool)(c:a)(f:∀i,i<l.length->p (l.getD i c)=false):l.findIdx p=l.length:=by
 apply List.findIdx_eq_length_of_false;intro x g;obtain⟨i,b,e⟩:=List.getElem_of_mem g;have:=f i b;rw[lW,lV b] at this;rw[<-e];exact this
def Sh.modeIx (sh:Sh)(nm:ByteArray):Nat:=sh.modes.findIdx λm=>eqS m.1 nm
def Sh.modeI (sh:Sh)(nm:ByteArray):Int:=if sh.modeIx nm<sh.modes.length then(sh.modeIx nm:Int) else -1
def Sh.hasDefB (sh:Sh)(nm:ByteArray):Bool:=decide ((sh.defs.findIdx λm=>eqS m.1 nm)<sh.defs.length)
theorem zD5 (w:World)(X:Nat->Prop)(S D:Nat)(sh:Sh)(L dv M N:Value)(rv:Nat->Value)(O:Nat->List Nat)(P:Nat->Nat)(m:Sw w X S D sh L dv M N rv O P)(ai:sh.modes.length<=1000000)(a:ByteArray):
  Calls prog 88 #[pX S,string a] w λe w'=>e=returned (iX (sh.modeI a))/\Grew w w':=by
 have Q:Hid (∀j,j<sh.modes.length->eqS (sh.mode j).1 a=true->(∀i,i<j->eqS (sh.mode i).1 a=false)->sh.modeI a=(j:Int)):=λj o g p=>by
  have e:sh.modeIx a=j:=zHz sh.modes _ (⟨#[]⟩,[]) j o g p;unfold Sh.modeI;rw[e,if_pos o]
 have R:Hid ((∀i,i<sh.modes.length->eqS (sh.mode i).1 a=false)->sh.modeI a=-1):=λp=>by
  have e:sh.modeIx a=sh.modes.length:=zJ0 sh.modes _ (⟨#[]⟩,[]) p;unfold Sh.modeI;rw[e,if_neg (by omega)]
 generalize sh.modeI a=T at *;obtain⟨ao,aj,x⟩:=zE m.mOwn;obtain⟨c0,-,-,-,-⟩:=m.cells;have y:=vl m;have U:=vl x;rw[x] at c0;go_in;go_wp2;go_loopg [12] sh.modes.length (λq i wr=>∃j:Nat,q=sh.modes.length-j/\j<=sh.modes.length/\i=iX (j:Int)/\(∀k,k<j->eqS (sh.mode k).1 a=false)/\Grew w wr)
 case atStart=>exact⟨0,rfl,lX,rfl,λk b=>by omega,Keep.refl _ _ _⟩
 case round=>
  obtain⟨j,z,o,rfl,r,b⟩:=hrel;have c:Hid (gk=sh.modes.length-j/\(∀k,k<j->eqS (sh.mode k).1 a=false)/\Grew w wr/\w.heap.size<=wr.heap.size):=⟨z,r,b,b.size⟩
  by_cases s:j<sh.modes.length
  ·have W:(j:Int)<(sh.modes.length:Int):=by omega
   obtain⟨ak,al,A,-,B,-,-,C,-⟩:=vD y.mOwn (by omega);rw[U.out] at A;injection A with Y am aa;subst Y aa;obtain⟨ab,ac⟩:=zBK (λi=>string (sh.mode i).1) rv sh.modes.length j s;have ad:=zA (C _ _ ab) B b;have E:=zA (C _ _ ac) B b;obtain⟨F,G,ae⟩:=zE (y.rOwn j s);rw[ae] at E;obtain⟨l,H,an,I⟩:∃l,l=wr.alloc (.cells #[string (sh.mode j).1,(slice F (sh.mode j).2.length G)] 120)/\l.cell? ⟨wr.heap.size,0,none⟩=some (string (sh.mode j).1)/\Hid (Grew w l):=by
    have af:=gX wr (.cells #[string (sh.mode j).1,(slice F (sh.mode j).2.length G)] 120);refine⟨_,rfl,?_,c.2.2.1.trans (kZ _ _ c.2.2.2)⟩;unfold cell?;rw[af];rfl
   have t:Hid (eqS (sh.mode j).1 a=true->T=(j:Int)):=λg=>Q j s g c.2.1;have u:Hid (eqS (sh.mode j).1 a=false->∀k,k<j+1->eqS (sh.mode k).1 a=false):=λg k b=>by
    by_cases e:k=j
    ·rw[e];exact g
    ·exact c.2.1 k (by omega)
   apply wp_cut;intro J d;go_wp2;apply d.out;apply wp_cut;intro J d;go_wp2;apply d.out;apply wp_cut;intro ap K;refine wp_block ?_;apply wp_cut;intro J d;go_wp2;apply d.out;clear d;rw[<-H];clear H ad E;cases f:eqS (sh.mode j).1 a with
   |true=>
    have v:=vl <| t f;have ag:((sh.mode j).1.toList==a.toList)=true:=f;clear t u f;go_wp2;go_ret;exact⟨by rw[v.out];rfl,I⟩
   |false=>
    have ah:=u f;have ag:((sh.mode j).1.toList==a.toList)=false:=f;clear t u f;go_wp2;apply K.out;clear K;go_wp2;go_roundg (sh.modes.length-(j+1))
    case measure=>rw[c.out.1];omega
    case rel=>exact⟨j+1,rfl,by omega,by go_num,ah,I⟩
  ·have W:(sh.modes.length:Int)<=(j:Int):=by omega
   have v:=vl <| R λk b=>r k (by omega);clear z r b;go_wp2;go_ret;exact⟨by rw[v.out];rfl,c.2.2.1⟩
theorem zEc (w:World)(X:Nat->Prop)(S D:Nat)(sh:Sh)(J dv K L:Value)(rv:Nat->Value)(M:Nat->List Nat)(l:Nat->Nat)(p:Sw w X S D sh J dv K L rv M l)(ag:sh.defs.length<=1000000)(a:ByteArray):
  Calls prog 161 #[pX S,string a] w λe w'=>e=returned (bool (sh.hasDefB a))/\Grew w w':=by
 have N:Hid (∀j,j<sh.defs.length->eqS (sh.defn j).1 a=true->(∀i,i<j->eqS (sh.defn i).1 a=false)->sh.hasDefB a=true):=λj r g s=>by
  have e:(sh.defs.findIdx λm=>eqS m.1 a)=j:=zHz sh.defs _ (⟨#[]⟩,Tr.none) j r g s;unfold Sh.hasDefB;rw[e];exact gJ r
 have O:Hid ((∀i,i<sh.defs.length->eqS (sh.defn i).1 a=false)->sh.hasDefB a=false):=λs=>by
  have e:(sh.defs.findIdx λm=>eqS m.1 a)=sh.defs.length:=zJ0 sh.defs _ (⟨#[]⟩,Tr.none) s;unfold Sh.hasDefB;rw[e];exact gU (by omega)
 generalize sh.hasDefB a=P at *;obtain⟨ao,ah,y⟩:=zE p.dOwn;obtain⟨-,c0,-,-,-⟩:=p.cells;have Q:=vl p;have R:=vl y;rw[y] at c0;go_in;go_wp2;go_loopg [12] sh.defs.length (λq i wr=>∃j:Nat,q=sh.defs.length-j/\j<=sh.defs.length/\i=iX (j:Int)/\(∀k,k<j->eqS (sh.defn k).1 a=false)/\Grew w wr)
 case atStart=>exact⟨0,rfl,lX,rfl,λk b=>by omega,Keep.refl _ _ _⟩
 case round=>
  obtain⟨j,z,r,rfl,t,b⟩:=hrel;have c:Hid (gk=sh.defs.length-j/\(∀k,k<j->eqS (sh.defn k).1 a=false)/\Grew w wr/\w.heap.size<=wr.heap.size):=⟨z,t,b,b.size⟩
  by_cases A:j<sh.defs.length
  ·have T:(j:Int)<(sh.defs.length:Int):=by omega
   obtain⟨ai,aj,B,-,C,-,-,E,-⟩:=vD Q.dOwn (by omega);rw[R.out] at B;injection B with U ak W;subst U W;obtain⟨Y,aa⟩:=zBK (λi=>string (sh.defn i).1) (λi=>pointer (some ⟨l i,0,none⟩)) sh.defs.length j A;have ab:=zA (E _ _ Y) C b;have ac:=zA (E _ _ aa) C b;obtain⟨o,F,al,G⟩:∃o,o=wr.alloc (.cells #[string (sh.defn j).1,(pointer (some ⟨l j,0,none⟩))] 233)/\o.cell? ⟨wr.heap.size,0,none⟩=some (string (sh.defn j).1)/\Hid (Grew w o):=by
    have ad:=gX wr (.cells #[string (sh.defn j).1,(pointer (some ⟨l j,0,none⟩))] 233);refine⟨_,rfl,?_,c.2.2.1.trans (kZ _ _ c.2.2.2)⟩;unfold cell?;rw[ad];rfl
   have u:Hid (eqS (sh.defn j).1 a=true->P=true):=λg=>N j A g c.2.1;have v:Hid (eqS (sh.defn j).1 a=false->∀k,k<j+1->eqS (sh.defn k).1 a=false):=λg k b=>by
    by_cases e:k=j
    ·rw[e];exact g
    ·exact c.2.1 k (by omega)
   apply wp_cut;intro H d;go_wp2;apply d.out;apply wp_cut;intro H d;go_wp2;apply d.out;apply wp_cut;intro am I;refine wp_block ?_;apply wp_cut;intro H d;go_wp2;apply d.out;clear d;rw[<-F];clear F ab ac;cases f:eqS (sh.defn j).1 a with
   |true=>
    have x:=vl <| u f;have ae:((sh.defn j).1.toList==a.toList)=true:=f;clear u v f;go_wp2;go_ret;exact⟨by rw[x.out];rfl,G⟩
   |false=>
    have af:=v f;have ae:((sh.defn j).1.toList==a.toList)=false:=f;clear u v f;go_wp2;apply I.out;clear I;go_wp2;go_roundg (sh.defs.length-(j+1))
    case measure=>rw[c.out.1];omega
    case rel=>exact⟨j+1,rfl,by omega,by go_num,af,G⟩
  ·have T:(sh.defs.length:Int)<=(j:Int):=by omega
   have x:=vl <| O λk b=>t k (by omega);clear z t b;go_wp2;go_ret;exact⟨by rw[x.out];rfl,c.2.2.1⟩
theorem zLj:(prog.info? 120).map (λi=>(i.zero,i.size,i.bytes))=some (some (agg #[string ⟨#[]⟩,slice none 0 0]),2,40):=by kernel_rfl
def yW (sh:Sh)(nm:ByteArray):Option Sh:=if 3<=sh.modes.length then none else if 0<=sh.modeI nm then none else if xT nm then some (sh.addMode nm) else none
def LnAns (w:World)(S D:Nat)(a:Option Sh)(e:Ending)(w':World):Prop:=
 Keep S S w w'/\match a with
 |none=>e=returned (bool false)
 |some sh=>e=returned (bool true)/\SwIs w' S D sh
theorem zE9 (sh:Sh)(a:ByteArray):sh.modeI a=-1\/(0<=sh.modeI a/\sh.modeI a<sh.modes.length):=by
 unfold Sh.modeI;split
 ·right;omega
 ·left;rfl
theorem zF5 (w:World)(X:Nat->Prop)(S D:Nat)(sh:Sh)(K dv j k:Value)(rv:Nat->Value)(u:Nat->List Nat)(l:Nat->Nat)(f:Sw w X S D sh K dv j k rv u l)(L:sh.modes.length<=1000000)(a:ByteArray)(M:a.size<=1048576):
  Calls prog 120 #[pX S,string a] w (LnAns w S D (yW sh a)):=by
 obtain⟨N,O,P,Q,R⟩:=info_parts zLj;obtain⟨ao,T,U⟩:=zE f.mOwn;subst U;obtain⟨c0,-,-,-,-⟩:=f.cells;have v:=vl <| zD5 w X S D sh _ dv j k rv u l f L a;have m:Hid (∀w,Ca 160 #[string a] w λe w'=>e=returned (bool (xT a))/\w'=w):=λw=>jL w a M;have V:=vl f;have C:=f.lt;have x:Hid (∀w1,Grew w w1->Keep S S w w1):=λw1 W=>W.lower (Nat.le_of_lt C) (Nat.le_of_lt C);have o:Hid (yW sh a=if 3<=sh.modes.length then none else if 0<=sh.modeI a then none else if xT a then some (sh.addMode a) else none):=rfl;by_cases p:3<=sh.modes.length
 ·have b:Hid (yW sh a=none):=by show _=_;rw[o.out,if_pos p]
  have Y:(3:Int)<=(sh.modes.length:Int):=by omega
  rw[b.out];go_in;go_wp2;go_ret;exact⟨Keep.refl _ _ _,rfl⟩
 have Y:(sh.modes.length:Int)<3:=by omega
 rcases zE9 sh a with g|⟨g,-⟩
 ·rw[g] at v
  have E:=vl v;cases q:xT a with
  |false=>
   rw[q] at m;have y:=vl m;have b:Hid (yW sh a=none):=by show _=_;rw[o.out,if_neg p,if_neg (by rw[g];decide),q];rfl
   rw[b.out];go_in;go_wp2_with (first|(go_at_call 88;refine E.mono ?_;rintro e w1 ⟨rfl,c⟩)|(go_at_call 160;refine(y _).mono ?_;rintro e aa ⟨rfl,z⟩;have A:=z.symm;subst A))
   go_ret;exact⟨x _ c,rfl⟩
  |true=>
   rw[q] at m;have y:=vl m;have b:Hid (yW sh a=some (sh.addMode a)):=by show _=_;rw[o.out,if_neg p,if_neg (by rw[g];decide),q];rfl
   rw[b.out];go_in;apply wp_cut;intro F i;go_wp2;apply i.out;apply wp_cut;intro F i;go_wp2_with (first|(go_at_call 88;refine E.mono ?_;rintro e w1 ⟨rfl,c⟩)|(go_at_call 160;refine(y _).mono ?_;rintro e aa ⟨rfl,z⟩;have A:=z.symm;subst A))
   apply i.out;have d:=V.grown c;have r:Hid (Sw w1 X S D sh (slice ao sh.modes.length T) dv j k rv u l/\Keep S S w w1):=⟨d,x _ c⟩
   obtain⟨ab,-,-,-,ac⟩:=d.cells;have ad:=ac 0;have ae:=d.mOwn;have G:=d.lt;have af:=vl <| zM d.mOwn d.blk (by decide);apply wp_cut;intro F i;go_wp2_with (first|(at_builtin;refine wpList_append_lies _ rfl _ _ 77 rfl (S+1) 120 N (agg #[string ⟨#[]⟩,slice none 0 0]) 2 40 underlying77 O P Q R rfl (by decide) _ _ _ rfl (ae.alloc _) ⟨w1.heap.size,0,none⟩ 1 1 [string a,slice none 0 0] rfl rfl (news_of_block (cs:=#[string a,slice none 0 0]) (t:=120) (fr:=(0,0)) (gX w1 _)) (by simp[Value.oneCell']) (by decide) (by unfold maxLen;omega) (by omega) (by simp;omega) _ rfl ?_;intro ag cap w2 ah H ai al;have I:=H.block S (by simp;omega) af;have am:=(gZ I).trans ((gW _ _ _ G).trans ab);have an:=(gY I).trans ((frozen?_alloc_past _ _ _ G).trans ad)))
   apply i.out;obtain⟨s,aj,J⟩:∃s,s=w2.setCell ⟨S,0,none⟩ (slice (qX ag) (sh.modes.length+1) cap)/\Hid (SwIs s S D (sh.addMode a)/\Keep S S w s):=by
    obtain⟨ak,q2⟩:=r.1.appMode ah H (by rcases ai with B|B;exact .inl B;right;rw[B];simp);exact⟨_,rfl,⟨X,_,dv,j,k,_,_,l,ak⟩,r.2.trans ((q2.keep r.1.mOwn r.1.lt).lower (Nat.le_succ S) (Nat.le_refl S))⟩
   rw[<-aj];go_wp2;go_ret;exact⟨J.2,rfl,J.1⟩
 ·have b:Hid (yW sh a=none):=by show _=_;rw[o.out,if_neg p,if_pos g]
  rw[b.out];generalize sh.modeI a=ap at *;go_in;go_wp2_with (first|(go_at_call 88;refine v.mono ?_;rintro e w1 ⟨rfl,c⟩))
  go_ret;exact⟨x _ c,rfl⟩
end Go.Proofs.YtbjcfkdnjaiclaaGreat
