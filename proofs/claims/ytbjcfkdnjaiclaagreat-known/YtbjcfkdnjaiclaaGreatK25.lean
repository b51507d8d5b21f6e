import Derived.Deep.DrawnRows
import Derived.Deep.RegionHeld3
import Derived.Deep.RegionLaw
import Derived.Test.YtbjcfkdnjaiclaaGreatK0
import Derived.Test.YtbjcfkdnjaiclaaGreatK2
import Derived.Test.YtbjcfkdnjaiclaaGreatK24
/- Parts of the proof. -/
set_option linter.unusedVariables false
set_option linter.unusedSimpArgs false
set_option maxHeartbeats 4000000
set_option maxRecDepth 100000
namespace Go.Proofs.YtbjcfkdnjaiclaaGreat
open Go.RowKit Go.Proofs.Tryz Go.World
open Go.Value (int slice bool pointer string agg tuple)
open Go.IntKind (i64)
open Go.Ending (returned)
theorem SpecIs.grown {w w2:World}{D:Nat}{e f g:Value}{sh:Sh}(a:SpecIs w D e f g sh)(d:Grew w w2):SpecIs w2 D e f g sh:=by
 obtain⟨X,S,dv,i,rv,j,k,l⟩:=a.sheet;exact⟨⟨X,S,dv,i,rv,j,k,l.grown d⟩,(a.pushes.keep λb c=>d.block b c (kJ c)).mono λb c=>lZ c d.size,a.ok,a.few,a.there,a.have_,a.fit⟩
theorem SpecIs.forms {w:World}{D:Nat}{b d e:Value}{sh:Sh}(f:SpecIs w D b d e sh):(∃a c,b=slice a sh.modes.length c)/\(∃a c,d=slice a sh.acts.length c)/\∃a c,e=slice a sh.pushed.length c:=by
 obtain⟨X,S,dv,l,rv,m,o,g⟩:=f.sheet;obtain⟨j,k,i,-⟩:=f.pushes;rw[yS] at i;exact⟨zI g.mOwn,zI g.aOwn,j,k,i⟩
theorem SpecIs.acts {w:World}{D:Nat}{c a d:Value}{sh:Sh}(e:SpecIs w D c a d sh):Ints w (In w) a (ints sh.acts):=by
 obtain⟨X,S,dv,j,rv,k,l,f⟩:=e.sheet;have b:w.ownsRow (S+1) 3 1 a (ints sh.acts).length ((ints sh.acts).map λx=>iX x):=by
  rw[zO];unfold ints;rw[List.map_map];exact f.aOwn
 exact zBP b λg i=>(b.lt g i).2
theorem zJy (w:World)(s:ByteArray)(x:Bool)(L:s.size<=1048576)(m d:Nat)(ao:1<=m)(M:m<=200)(aq:1<=d)(ar:d<=64)(sh:Sh)(E:jL s=.inl sh)(F:xS (1+6*s.size) sh sh.modes.length 0 m=none):Calls prog 30 #[string s,agg #[iX (m:Int),iX (d:Int),bool x]] w (zIQ w 0 5):=by
 obtain⟨w2,y,z⟩:∃w2,w2=(w.alloc (.cells #[iX (m:Int),iX (d:Int),bool x] 58)).alloc (.cells #[slice none 0 0,slice none 0 0,slice none 0 0,iX 0,bool false,iX 0] 30)/\Hid (∀b,Keep (w.heap.size+2) (w.heap.size+2) w2 b->b.heap[w.heap.size+1]? =some (.cells #[slice none 0 0,slice none 0 0,slice none 0 0,iX 0,bool false,iX 0] 30)/\b.cell? ⟨w.heap.size,0,none⟩=some (iX (m:Int))/\b.cell? ⟨w.heap.size,1,none⟩=some (iX (d:Int))/\b.cell? ⟨w.heap.size,2,none⟩=some (bool x)/\Grew w b):=⟨_,rfl,λb N=>zGR N⟩
 have G:Hid (w2.heap.size=w.heap.size+2):=by show _=_;rw[y];simp
 have H:Hid (Ca 43 #[string s] w2 (zEz w2 (1+6*s.size) (.inl sh))):=by have:=zAD w2 s L;rw[E] at this;exact this
 have au:(1:Int)<=(m:Int):=by omega
 have aw:(m:Int)<=200:=by omega
 have ax:(1:Int)<=(d:Int):=by omega
 have ay:(d:Int)<=64:=by omega
 have O:Hid (∀a i j k,SpecIs a (1+6*s.size) i j k sh->Ca 44 #[agg #[i,j,k],iX (m:Int)] a (zML a (none))):=λa i j k d=>by have:=zCt a (1+6*s.size) i j k sh d m M;rw[F] at this;exact this
 clear E F;go_in;apply wp_cut;intro A c;go_wp2;apply c.out;clear c;rw[<-y];clear y;obtain⟨-,P,Q,R,-⟩:=z w2 (Keep.refl _ _ _);apply wp_cut;intro A c;go_wp2;apply c.out;clear c;clear P Q R;apply wp_cut;intro A c;go_wp2_with (first|(go_at_call 43;refine H.mono ?_;rintro e b ⟨C,i,j,k,rfl,D⟩;obtain⟨⟨l,o,S⟩,⟨p,q,T⟩,⟨r,t,U⟩⟩:=D.forms;subst S T U))
 apply c.out;clear c;obtain⟨a,I,V,W,X,g⟩:∃a,a=b.alloc (.cells #[slice l sh.modes.length o,slice p sh.acts.length q,slice r sh.pushed.length t] 79)/\a.cell? ⟨b.heap.size,0,none⟩=some (slice l sh.modes.length o)/\a.cell? ⟨b.heap.size,1,none⟩=some (slice p sh.acts.length q)/\a.cell? ⟨b.heap.size,2,none⟩=some (slice r sh.pushed.length t)/\Hid (Keep (w.heap.size+2) (w.heap.size+2) w2 a/\SpecIs a (1+6*s.size) (slice l sh.modes.length o) (slice p sh.acts.length q) (slice r sh.pushed.length t) sh/\b.heap.size<a.heap.size/\w.heap.size+2<=a.heap.size):=by
  have Y:Keep (w.heap.size+2) (w.heap.size+2) w2 b:=by rw[<-G.out];exact C
  have ab:w.heap.size+2<=b.heap.size:=by have:=C.size;rw[G.out] at this;exact this
  have ac:=gY b (.cells #[slice l sh.modes.length o,slice p sh.acts.length q,slice r sh.pushed.length t] 79);refine⟨_,rfl,?_,?_,?_,Y.trans (kZ _ _ ab),D.grown (kZ _ _ lQ),by simp,by simp;omega⟩
  all_goals (unfold cell?;rw[ac];rfl)
 rw[<-I];clear I C D H;apply wp_cut;intro A c;go_wp2;apply c.out;clear c;obtain⟨-,ad,-,-,-⟩:=z a g.1;obtain⟨u,f⟩:∃u,u=b.heap.size:=⟨_,rfl⟩
 have az:Hid (u<a.heap.size):=by show u<_;rw[f];exact g.2.2.1
 rw[<-f] at V W X ⊢;clear f;go_wp2_with (first|(go_at_call 44;refine(O a _ _ _ g.2.1).mono ?_;rintro e J ⟨ae,rfl⟩;obtain⟨f,ad,aA,aB,K⟩:=z J (g.1.trans (ae.lower g.2.2.2 g.2.2.2));obtain⟨aC,aD,aE,aF,aG,aH,aI,aJ,aK,aL,aM,aN⟩:=jC f;obtain⟨aO,af,ag,ah,ai,aj,ak,al,an⟩:=zDt w J (slice none 0 0) (slice none 0 0) (slice none 0 0) (iX 0) (bool false) (iX (0)) f K;clear f K))
 rw[<-af];refine gJ (v:=tuple #[pointer none,agg #[slice none 0 0,slice none 0 0,slice none 0 0,iX 0,bool false,iX (0)],iX 5]) (by simp[results,results30,go_sem,ag,ah,ai,aj,ak,al]) rfl ?_;exact⟨an.1,rfl⟩
theorem zEr (w2:World)(q:Nat)(c d e f g h:Value)(j:w2.heap[q]? =some (.cells #[slice none 0 0,slice none 0 0,slice none 0 0,iX 0,bool false,iX 0] 30)):
  ∃a:World,a=((((((w2.setCell ⟨q,0,none⟩ c).setCell ⟨q,1,none⟩ d).setCell ⟨q,2,none⟩ e).setCell ⟨q,3,none⟩ f).setCell ⟨q,4,none⟩ g).setCell ⟨q,5,none⟩ h)/\a.heap[q]? =some (.cells #[c,d,e,f,g,h] 30)/\a.heap.size=w2.heap.size/\a.os=w2.os/\a.output=w2.output/\∀k,k≠q->a.heap[k]? =w2.heap[k]? :=by
 obtain⟨l,m,c1,U,o,u1,p⟩:=qS w2 q 0 c _ _ j;have r:=c1;obtain⟨s,t,c2,V,u,u2,v⟩:=qS l q 1 d _ _ r;have b2:=c2;obtain⟨w,x,y,W,z,u3,A⟩:=qS s q 2 e _ _ b2;have B:=y;obtain⟨C,D,E,X,F,u4,G⟩:=qS w q 3 f _ _ B;have H:=E;obtain⟨I,J,K,Y,L,u5,M⟩:=qS C q 4 g _ _ H;have N:=K;obtain⟨O,P,Q,aa,R,u6,S⟩:=qS I q 5 h _ _ N;have T:=Q;exact⟨O,by rw[P,J,D,x,t,m],T,by omega,R.trans (L.trans (F.trans (z.trans (u.trans o)))),u6.trans (u5.trans (u4.trans (u3.trans (u2.trans u1)))),λi b=>(S i b).trans ((M i b).trans ((G i b).trans ((A i b).trans ((v i b).trans (p i b)))))⟩
theorem zMr (w a:World)(m:Ending->World->Prop)(p d:Nat)(m0 s0 v0:Option Addr)(m1 m2 s1 s2 v1 v2:Nat)(AH:Int)(ST:Bool)(l:a.heap[w.heap.size+1]? =some (.cells #[slice none 0 0,slice none 0 0,slice none 0 0,iX 0,bool false,iX 0] 30))(ai:d≠w.heap.size+1)(f:d<a.heap.size)
  (q:a.cell? ⟨d,0,none⟩=some (slice m0 m1 m2)) (r:a.cell? ⟨d,1,none⟩=some (slice s0 s1 s2)) (s:a.cell? ⟨d,2,none⟩=some (slice v0 v1 v2)) (t:a.cell? ⟨d,3,none⟩=some (iX AH)) (u:a.cell? ⟨d,4,none⟩=some (bool ST)) (x:a.cell? ⟨d,5,none⟩=some (iX 0))
  (y:∀b j,b.os=a.os->b.output=a.output->a.heap.size<=j->j<b.heap.size->(∀k,k<a.heap.size->k≠w.heap.size+1->b.heap[k]? =a.heap[k]?)->b.cell? ⟨j,0,none⟩=some (pX p)->m (returned (tuple #[pX j,agg #[slice m0 m1 m2,slice s0 s1 s2,slice v0 v1 v2,iX AH,bool ST,iX 0],iX 0])) b)
  {u0 u1 u2 u3 u4 u6 u7 u8 u9 u10 u11 u14 u15 u16 u17 u18 u19 u20 u21 u22 u23 u24 u25 u26 u27 u28 u29 u30 u31 u32 u33 u34 u35 u36 u37 u38 u39 u40 u41 u42 u43 u44 u45 u46 u47 u48 u49 u50 u51 u52 u53 u54 u55 u56 u57 u58 u59 u60 u61 u62 u63 u64 u65 u66 u67 u68 u69 u70 u71 u72 u73 u74 u75 u76 u77 u78 u79:Value}:
  Code.wp prog (yT 9 ((f30.body).getD .skip)) (bodyPost prog f30 m) ⟨(u0::u1::u2::u3::u4::pointer (some ⟨w.heap.size+1,0,none⟩)::u6::u7::u8::u9::u10::u11::pX p::pX d::u14::u15::u16::u17::u18::u19::u20::u21::u22::u23::u24::u25::u26::u27::u28::u29::u30::u31::u32::u33::u34::u35::u36::u37::u38::u39::u40::u41::u42::u43::u44::u45::u46::u47::u48::u49::u50::u51::u52::u53::u54::u55::u56::u57::u58::u59::u60::u61::u62::u63::u64::u65::u66::u67::u68::u69::u70::u71::u72::u73::u74::u75::u76::u77::u78::u79::[]).toArray,[]⟩ a:=by
 conv=>arg 2;whnf
 obtain⟨z,A,B,C,D,E,F,G,H,I,J,K⟩:=jC l;have e:w.heap.size+1<a.heap.size:=(kQ.1 l).1;have M:=vl l;have N:=vl y;generalize w.heap.size+1=c at *;have aj:(a.alloc (Obj.cells #[pX p] 93)).cell? ⟨c,0,none⟩=some (slice none 0 0):=(gU _ _ _ e).trans z;have ak:(a.alloc (Obj.cells #[pX p] 93)).frozen? ⟨c,0,none⟩=false:=(frozen?_alloc_past _ _ _ e).trans F;have al:(a.alloc (Obj.cells #[pX p] 93)).cell? ⟨c,1,none⟩=some (slice none 0 0):=(gU _ _ _ e).trans A;have am:(a.alloc (Obj.cells #[pX p] 93)).frozen? ⟨c,1,none⟩=false:=(frozen?_alloc_past _ _ _ e).trans G;have q2:(a.alloc (Obj.cells #[pX p] 93)).cell? ⟨c,2,none⟩=some (slice none 0 0):=(gU _ _ _ e).trans B;have an:(a.alloc (Obj.cells #[pX p] 93)).frozen? ⟨c,2,none⟩=false:=(frozen?_alloc_past _ _ _ e).trans H;have q3:(a.alloc (Obj.cells #[pX p] 93)).cell? ⟨c,3,none⟩=some (iX 0):=(gU _ _ _ e).trans C;have ao:(a.alloc (Obj.cells #[pX p] 93)).frozen? ⟨c,3,none⟩=false:=(frozen?_alloc_past _ _ _ e).trans I;have q4:(a.alloc (Obj.cells #[pX p] 93)).cell? ⟨c,4,none⟩=some (bool false):=(gU _ _ _ e).trans D;have ap:(a.alloc (Obj.cells #[pX p] 93)).frozen? ⟨c,4,none⟩=false:=(frozen?_alloc_past _ _ _ e).trans J;have q5:(a.alloc (Obj.cells #[pX p] 93)).cell? ⟨c,5,none⟩=some (iX 0):=(gU _ _ _ e).trans E;have aq:(a.alloc (Obj.cells #[pX p] 93)).frozen? ⟨c,5,none⟩=false:=(frozen?_alloc_past _ _ _ e).trans K;have ar:(a.alloc (Obj.cells #[pX p] 93)).cell? ⟨d,0,none⟩=some (slice m0 m1 m2):=(gU _ _ _ f).trans q;have au:(a.alloc (Obj.cells #[pX p] 93)).cell? ⟨d,1,none⟩=some (slice s0 s1 s2):=(gU _ _ _ f).trans r;have av:(a.alloc (Obj.cells #[pX p] 93)).cell? ⟨d,2,none⟩=some (slice v0 v1 v2):=(gU _ _ _ f).trans s;have y3:(a.alloc (Obj.cells #[pX p] 93)).cell? ⟨d,3,none⟩=some (iX AH):=(gU _ _ _ f).trans t;have aw:(a.alloc (Obj.cells #[pX p] 93)).cell? ⟨d,4,none⟩=some (bool ST):=(gU _ _ _ f).trans u;have y5:(a.alloc (Obj.cells #[pX p] 93)).cell? ⟨d,5,none⟩=some (iX 0):=(gU _ _ _ f).trans x;apply wp_cut;intro O P;go_region
 all_goals
  obtain⟨h,S,T,U,V,W,X⟩:=zEr a c (slice m0 m1 m2) (slice s0 s1 s2) (slice v0 v1 v2) (iX AH) (bool ST) (iX 0) M;rw[<-S];obtain⟨b,Y,aa,ab,ac,ad,ae,af,i⟩:∃b,b=(h.alloc (Obj.cells #[pX p] 93)).drew/\b.cell? ⟨c,0,none⟩=some (slice m0 m1 m2)/\b.cell? ⟨c,1,none⟩=some (slice s0 s1 s2)/\b.cell? ⟨c,2,none⟩=some (slice v0 v1 v2)/\b.cell? ⟨c,3,none⟩=some (iX AH)/\b.cell? ⟨c,4,none⟩=some (bool ST)/\b.cell? ⟨c,5,none⟩=some (iX 0)/\Hid (b.os=a.os/\b.output=a.output/\a.heap.size<b.heap.size/\(∀k,k<a.heap.size->k≠c->b.heap[k]? =a.heap[k]?)/\b.cell? ⟨a.heap.size,0,none⟩=some (pX p)):=by
   have o:=gY h (Obj.cells #[pX p] 93);rw[U] at o;have g:(h.alloc (Obj.cells #[pX p] 93)).drew.heap[c]? =some (.cells #[slice m0 m1 m2,slice s0 s1 s2,slice v0 v1 v2,iX AH,bool ST,iX 0] 30):=(lG _ _ _ (by omega)).trans T;have ag:(h.alloc (Obj.cells #[pX p] 93)).drew.heap[a.heap.size]? =some (Obj.cells #[pX p] 93):=o;refine⟨_,rfl,?_,?_,?_,?_,?_,?_,V,W,?_,λk ax ah=>(lG _ _ _ (by omega)).trans (X k ah),?_⟩
   ·unfold cell?;rw[g];rfl
   ·unfold cell?;rw[g];rfl
   ·unfold cell?;rw[g];rfl
   ·unfold cell?;rw[g];rfl
   ·unfold cell?;rw[g];rfl
   ·unfold cell?;rw[g];rfl
   ·show a.heap.size<(h.alloc _).heap.size
    simp;omega
   ·unfold cell?;rw[ag];rfl
  rw[<-Y];show O _ _;apply P.out;go_wp2;refine gJ (v:=tuple #[pX a.heap.size,agg #[slice m0 m1 m2,slice s0 s1 s2,slice v0 v1 v2,iX AH,bool ST,iX 0],iX 0]) (by simp[results,results30,go_sem,aa,ab,ac,ad,ae,af]) rfl ?_;exact N b a.heap.size i.1 i.2.1 lQ i.2.2.1 i.2.2.2.1 i.2.2.2.2
theorem zOf (w a:World)(j:Ending->World->Prop)(m:World->Prop)(p b:Nat)(m0 s0 v0:Option Addr)(m1 m2 s1 s2 v1 v2:Nat)(AH:Int)(ST:Bool)(q:a.heap[w.heap.size+1]? =some (.cells #[slice none 0 0,slice none 0 0,slice none 0 0,iX 0,bool false,iX 0] 30))(A:b≠w.heap.size+1)(B:b<a.heap.size)(C:b≠p)(D:w.heap.size+1≠p)
  (r:a.cell? ⟨b,0,none⟩=some (slice m0 m1 m2)) (s:a.cell? ⟨b,1,none⟩=some (slice s0 s1 s2)) (t:a.cell? ⟨b,2,none⟩=some (slice v0 v1 v2)) (u:a.cell? ⟨b,3,none⟩=some (iX AH)) (v:a.cell? ⟨b,4,none⟩=some (bool ST)) (x:a.cell? ⟨b,5,none⟩=some (iX 0))
  (E:ST=true->Calls prog 47 #[pX p,iX AH] a (λe c=>e=returned (tuple #[])/\m c/\Keep a.heap.size p a c)) (F:ST=false->m a)
  (G:∀c d g,Keep a.heap.size p a c->m c->d.os=c.os->d.output=c.output->c.heap.size<=g->g<d.heap.size->(∀k,k<c.heap.size->k≠w.heap.size+1->d.heap[k]? =c.heap[k]?)->d.cell? ⟨g,0,none⟩=some (pX p)->j (returned (tuple #[pX g,agg #[slice m0 m1 m2,slice s0 s1 s2,slice v0 v1 v2,iX AH,bool ST,iX 0],iX 0])) d)
  {u0 u1 u2 u3 u4 u6 u7 u8 u9 u10 u11 u14 u15 u16 u17 u18 u19 u20 u21 u22 u23 u24 u25 u26 u27 u28 u29 u30 u31 u32 u33 u34 u35 u36 u37 u38 u39 u40 u41 u42 u43 u44 u45 u46 u47 u48 u49 u50 u51 u52 u53 u54 u55 u56 u57 u58 u59 u60 u61 u62 u63 u64 u65 u66 u67 u68 u69 u70 u71 u72 u73 u74 u75 u76 u77 u78 u79:Value}:
  Code.wp prog (yT 8 ((f30.body).getD .skip)) (bodyPost prog f30 j) ⟨(u0::u1::u2::u3::u4::pointer (some ⟨w.heap.size+1,0,none⟩)::u6::u7::u8::u9::u10::u11::pX p::pX b::u14::u15::u16::u17::u18::u19::u20::u21::u22::u23::u24::u25::u26::u27::u28::u29::u30::u31::u32::u33::u34::u35::u36::u37::u38::u39::u40::u41::u42::u43::u44::u45::u46::u47::u48::u49::u50::u51::u52::u53::u54::u55::u56::u57::u58::u59::u60::u61::u62::u63::u64::u65::u66::u67::u68::u69::u70::u71::u72::u73::u74::u75::u76::u77::u78::u79::[]).toArray,[]⟩ a:=by
 conv=>arg 2;whnf
 have y:=vl G;have f:Hid (a.heap[w.heap.size+1]? =some (.cells #[slice none 0 0,slice none 0 0,slice none 0 0,iX 0,bool false,iX 0] 30)/\b≠w.heap.size+1/\b<a.heap.size/\b≠p/\w.heap.size+1≠p/\w.heap.size+1<a.heap.size):=⟨q,A,B,C,D,(kQ.1 q).1⟩
 apply wp_cut;intro K z;cases ST with
 |false=>
  have o:=F rfl;go_wp2;apply z.out;exact zMr w a j p b m0 s0 v0 m1 m2 s1 s2 v1 v2 AH false f.1 f.2.1 f.2.2.1 r s t u v x (λd g=>y a d g (Keep.refl _ _ _) o)
 |true=>
  have H:=vl <| E rfl;go_wp2_with (first|(go_at_call 47;refine H.mono ?_;rintro e c ⟨rfl,o,l⟩))
  apply z.out;have I:=l.block (w.heap.size+1) f.2.2.2.2.2 f.2.2.2.2.1;have J:=l.block b f.2.2.1 f.2.2.2.1;have h:∀i,cX c b i=cX a b i:=λi=>gW J;exact zMr w c j p b m0 s0 v0 m1 m2 s1 s2 v1 v2 AH true (I.trans f.1) f.2.1 (lZ f.2.2.1 l.size) ((h 0).trans r) ((h 1).trans s) ((h 2).trans t) ((h 3).trans u) ((h 4).trans v) ((h 5).trans x) (λd g=>y c d g l o)
theorem zOg (w a:World)(o:Ending->World->Prop)(q:World->Prop)(p:Nat)(v:Option Addr)(x y t:Nat)(AH:Int)(ST u:Bool)(E:a.heap[w.heap.size+1]? =some (.cells #[slice none 0 0,slice none 0 0,slice none 0 0,iX 0,bool false,iX 0] 30))(bR:w.heap.size+2<=a.heap.size)(F:p<a.heap.size)(G:w.heap.size+1≠p)
  (H:a.cell? ⟨p,7,none⟩=some (iX (t:Nat))) (I:a.cell? ⟨w.heap.size,2,none⟩=some (bool u))
  (J:∀m,Grew a m->Calls prog 46 #[slice v x y,iX (t:Nat),bool u] (m) (λe w'=>∃m0 m1 m2 s0 s1 s2 v0 v1 v2,e=returned (agg #[slice m0 m1 m2,slice s0 s1 s2,slice v0 v1 v2,iX AH,bool ST,iX 0])/\Keep (m).heap.size (m).heap.size (m) w'))
  (z:∀c,Grew a c->(ST=true->Calls prog 47 #[pX p,iX AH] c (λe f=>e=returned (tuple #[])/\q f/\Keep c.heap.size p c f))/\(ST=false->q c))
  (K:∀m0 m1 m2 s0 s1 s2 v0 v1 v2 c f i j,Grew a c->Keep c.heap.size p c f->q f->i.os=f.os->i.output=f.output->f.heap.size<=j->j<i.heap.size->(∀k,k<f.heap.size->k≠w.heap.size+1->i.heap[k]? =f.heap[k]?)->i.cell? ⟨j,0,none⟩=some (pX p)->o (returned (tuple #[pX j,agg #[slice m0 m1 m2,slice s0 s1 s2,slice v0 v1 v2,iX AH,bool ST,iX 0],iX 0])) i)
  {u0 u1 u2 u4 u6 u7 u8 u9 u11 u13 u14 u15 u16 u17 u18 u19 u20 u21 u22 u23 u24 u25 u26 u27 u28 u29 u30 u31 u32 u33 u34 u35 u36 u37 u38 u39 u40 u41 u42 u43 u44 u45 u46 u47 u48 u49 u50 u51 u52 u53 u54 u55 u56 u57 u58 u59 u60 u61 u62 u63 u64 u65 u66 u67 u68 u69 u70 u71 u72 u73 u74 u75 u76 u77 u78 u79:Value}:
  Code.wp prog (yT 7 ((f30.body).getD .skip)) (bodyPost prog f30 o) ⟨(u0::u1::u2::pX w.heap.size::u4::pointer (some ⟨w.heap.size+1,0,none⟩)::u6::u7::u8::u9::slice v x y::u11::pX p::u13::u14::u15::u16::u17::u18::u19::u20::u21::u22::u23::u24::u25::u26::u27::u28::u29::u30::u31::u32::u33::u34::u35::u36::u37::u38::u39::u40::u41::u42::u43::u44::u45::u46::u47::u48::u49::u50::u51::u52::u53::u54::u55::u56::u57::u58::u59::u60::u61::u62::u63::u64::u65::u66::u67::u68::u69::u70::u71::u72::u73::u74::u75::u76::u77::u78::u79::[]).toArray,[]⟩ a:=by
 conv=>arg 2;whnf
 have l:Grew a (a.alloc (.cells #[slice none 0 0,slice none 0 0,slice none 0 0,iX 0,bool false,iX 0] 30)):=kZ _ _ lQ;have M:=vl J;have N:Hid (Grew a a.drew):=Keep.drew _;have O:Hid (Grew a (a.alloc (.cells #[slice none 0 0,slice none 0 0,slice none 0 0,iX 0,bool false,iX 0] 30)).drew):=⟨l.os,l.output,l.size,l.block⟩
 have P:Hid (∀b,Grew a.drew b->Grew a b):=λb d=>Keep.undrew d;have A:Hid (∀b,Keep ((a.alloc (.cells #[slice none 0 0,slice none 0 0,slice none 0 0,iX 0,bool false,iX 0] 30)).drew).heap.size ((a.alloc (.cells #[slice none 0 0,slice none 0 0,slice none 0 0,iX 0,bool false,iX 0] 30)).drew).heap.size ((a.alloc (.cells #[slice none 0 0,slice none 0 0,slice none 0 0,iX 0,bool false,iX 0] 30)).drew) b->b.heap[a.heap.size]? =some (.cells #[slice none 0 0,slice none 0 0,slice none 0 0,iX 0,bool false,iX 0] 30)):=λb d=>(d.block a.heap.size (by show a.heap.size<(a.alloc _).heap.size;simp) (by show a.heap.size≠(a.alloc _).heap.size;simp)).trans (gY a _);have S:Hid (∀b,Keep ((a.alloc (.cells #[slice none 0 0,slice none 0 0,slice none 0 0,iX 0,bool false,iX 0] 30)).drew).heap.size ((a.alloc (.cells #[slice none 0 0,slice none 0 0,slice none 0 0,iX 0,bool false,iX 0] 30)).drew).heap.size ((a.alloc (.cells #[slice none 0 0,slice none 0 0,slice none 0 0,iX 0,bool false,iX 0] 30)).drew) b->Grew a b):=λb d=>l.trans ⟨d.os,d.output,d.size,λk T bS=>d.block k (by show k<(a.alloc _).heap.size;simp;omega) (by show k≠(a.alloc _).heap.size;simp;omega)⟩;have r:Hid (∀b,Grew a b->b.cell? ⟨p,7,none⟩=some (iX (t:Nat))/\b.cell? ⟨w.heap.size,2,none⟩=some (bool u)):=λb d=>⟨zA H F d,zA I (show w.heap.size<a.heap.size by omega) d⟩
 have B:Hid (∀g c m0 m1 m2 s0 s1 s2 v0 v1 v2,Grew a c->a.heap.size<=g->g<c.heap.size->c.cell? ⟨g,0,none⟩=some (slice m0 m1 m2)->c.cell? ⟨g,1,none⟩=some (slice s0 s1 s2)->c.cell? ⟨g,2,none⟩=some (slice v0 v1 v2)->c.cell? ⟨g,3,none⟩=some (iX AH)->c.cell? ⟨g,4,none⟩=some (bool ST)->c.cell? ⟨g,5,none⟩=some (iX 0)->∀(U V b2 W X Y aa ab ac ad ae af ag ah ai aj ak al am an ao ap aq ar au av aw ax ay az aA aB aC aD aE aF aG aH aI aJ aK aL aM aN aO aP aQ aR aS aT aU aV aW aX aY aZ a0 a1 a2 a3 a4 a6 a7 a8 a9 ba bb bc bd be bf bg bh bi bj bk bl:Value),Code.wp prog (yT 8 ((f30.body).getD .skip)) (bodyPost prog f30 o) ⟨(U::V::b2::W::X::pointer (some ⟨w.heap.size+1,0,none⟩)::Y::aa::ab::ac::ad::ae::pX p::pX g::af::ag::ah::ai::aj::ak::al::am::an::ao::ap::aq::ar::au::av::aw::ax::ay::az::aA::aB::aC::aD::aE::aF::aG::aH::aI::aJ::aK::aL::aM::aN::aO::aP::aQ::aR::aS::aT::aU::aV::aW::aX::aY::aZ::a0::a1::a2::a3::a4::a6::a7::a8::a9::ba::bb::bc::bd::be::bf::bg::bh::bi::bj::bk::bl::[]).toArray,[]⟩ c):=λg c m0 m1 m2 s0 s1 s2 v0 v1 v2 d bT bm bn bo bp bq br bs _ _ _ _ _ _ _ _ _ _ _ _ _ _ _ _ _ _ _ _ _ _ _ _ _ _ _ _ _ _ _ _ _ _ _ _ _ _ _ _ _ _ _ _ _ _ _ _ _ _ _ _ _ _ _ _ _ _ _ _ _ _ _ _ _ _ _ _ _ _ _ _ _ _ _ _ _=>zOf w c o q p g m0 s0 v0 m1 m2 s1 s2 v1 v2 AH ST ((d.block _ (by omega) (by omega)).trans E) (by omega) bm (by omega) G bn bo bp bq br bs (z c d).1 (z c d).2 (λf i j bt bu=>K m0 m1 m2 s0 s1 s2 v0 v1 v2 c f i j d bt bu);obtain⟨bU,bV⟩:=r (a.alloc (.cells #[slice none 0 0,slice none 0 0,slice none 0 0,iX 0,bool false,iX 0] 30)) l;refine wp_seq_k ?_;intro bv hK0;have bw:=vl hK0;go_region_with ((go_at_call 46;go_must ((refine (M _ (by first|exact N|exact O)).mono ?_;rintro e b ⟨m0,m1,m2,s0,s1,s2,v0,v1,v2,rfl,s⟩;first|(have h:=P b s;obtain⟨bx,bz⟩:=r b h;obtain⟨bA,bB,bC,bD,bE,bF,bG,bH,bI,bJ,bK,bL⟩:=jC (gY b (.cells #[slice none 0 0,slice none 0 0,slice none 0 0,iX 0,bool false,iX 0] 30));obtain⟨bW,bX⟩:=r (b.alloc (.cells #[slice none 0 0,slice none 0 0,slice none 0 0,iX 0,bool false,iX 0] 30)) (h.trans (kZ _ _ h.size)))|(have h:=S b s;obtain⟨bA,bB,bC,bD,bE,bF,bG,bH,bI,bJ,bK,bL⟩:=jC (A b s);obtain⟨bx,bz⟩:=r b h)))))
 all_goals
  show bv _ _;apply bw.out
  first
  |(obtain ⟨bM,bN,C,bY,bO,bP,bQ⟩:=zEr b a.heap.size (slice m0 m1 m2) (slice s0 s1 s2) (slice v0 v1 v2) (iX AH) (bool ST) (iX 0) (A b s);rw[<-bN];refine B a.heap.size bM m0 m1 m2 s0 s1 s2 v0 v1 v2 (h.trans ⟨bO,bP,by omega,λk T _=>bQ k (by omega)⟩) lQ (kQ.1 C).1 ?_ ?_ ?_ ?_ ?_ ?_ _ _ _ _ _ _ _ _ _ _ _ _ _ _ _ _ _ _ _ _ _ _ _ _ _ _ _ _ _ _ _ _ _ _ _ _ _ _ _ _ _ _ _ _ _ _ _ _ _ _ _ _ _ _ _ _ _ _ _ _ _ _ _ _ _ _ _ _ _ _ _ _ _ _ _ _ _;all_goals (unfold cell?;rw[C];rfl))
  |(have D:=gY b (.cells #[slice m0 m1 m2,slice s0 s1 s2,slice v0 v1 v2,iX AH,bool ST,iX 0] 30);refine B b.heap.size _ m0 m1 m2 s0 s1 s2 v0 v1 v2 (h.trans (kZ _ _ h.size)) h.size (kQ.1 D).1 ?_ ?_ ?_ ?_ ?_ ?_ _ _ _ _ _ _ _ _ _ _ _ _ _ _ _ _ _ _ _ _ _ _ _ _ _ _ _ _ _ _ _ _ _ _ _ _ _ _ _ _ _ _ _ _ _ _ _ _ _ _ _ _ _ _ _ _ _ _ _ _ _ _ _ _ _ _ _ _ _ _ _ _ _ _ _ _ _;all_goals (unfold cell?;rw[D];rfl))
def vS (ms:List Sm)(acts pushed:List Int)(hold n:Nat)(fo:Bool):Tb:=if !fo&&xE (aheadTo ms ms.length) (zB ms 256).2 then{vY ms acts pushed hold n with stream:=true}.looking (aheadTo ms ms.length).toNat else vY ms acts pushed hold n
def zMN (w:World)(ms:List Sm)(acts pushed:List Int)(hold:Nat)(fo:Bool)(e:Ending)(w':World):Prop:=
 Grew w w'/\∃L p H c n m0 m1 m2 s0 s1 s2 v0 v1 v2,e=returned (tuple #[pointer (some ⟨L,0,none⟩),agg #[slice m0 m1 m2,slice s0 s1 s2,slice v0 v1 v2,int i64 (aheadTo ms ms.length),bool (!fo&&xE (aheadTo ms ms.length) (zB ms 256).2),int i64 0],int i64 0])/\w'.cell? ⟨L,0,none⟩=some (pointer (some ⟨p,0,none⟩))/\L<w'.heap.size/\w.heap.size<=L/\w.heap.size<=H/\w.heap.size<=p/\Mem w' H p c (vS ms acts pushed hold n fo)/\(((zW ms acts pushed hold).first.itr n).spreadTo (zE ms ms.length)).2=false/\ModesOk ms/\acts.length=zU ms ms.length/\pushed.length=acts.length
theorem ModesAt.grown {w w2:World}{v:Value}{ms:List Sm}(d:ModesAt w (In w) v ms)(a:Grew w w2):ModesAt w2 (In w2) v ms:=by
 have e:=d.keep (w':=w2) λb c=>a.block b c (kJ c);obtain⟨ao,cap,f,j,k,l⟩:=e;refine⟨ao,cap,f,j,k,λi p=>?_⟩;obtain⟨b,o,u0,u1,u3,q,r,s,t,u,x,y,z,A⟩:=l i p;have m:∀g,In w g->In w2 g:=λg B=>lZ B a.size;exact⟨b,o,u0,u1,u3,q,m _ r,s,t,u,x,y.mono m,z.mono m,A.mono m⟩
theorem zIO (l:List Nat):∀i,i<(ints l).length->0<=(ints l).getD i 0:=λi a=>by
 unfold ints at a ⊢;rw[lW,lV a,List.getElem_map];show(0:Int)<=((l[i]'(by simpa using a):Nat):Int);omega
theorem zH4 {sh:Sh}(b:sh.there=true):∀i,i<(sh.pushesTo sh.pushed.length).length->0<=(sh.pushesTo sh.pushed.length).getD i 0:=λi a=>by
 have c:=a;rw[yS] at c;unfold Sh.there at b;have d:=(of_decide_eq_true b) i c;unfold Sh.pushesTo at a ⊢;rw[lW,lV a,List.getElem_map,List.getElem_range];exact d
theorem zOe (w:World)(s:ByteArray)(fo:Bool)(hs:s.size<=1048576)(m h:Nat)(h1:1<=m)(h2:m<=200)(h3:1<=h)(h4:h<=64)(sh:Sh)(hsp:jL s=.inl sh)(ms:List Sm)(hmo:xS (1+6*s.size) sh sh.modes.length 0 m=some ms):Calls prog 30 #[string s,agg #[iX (m:Int),iX (h:Int),bool fo]] w (zMN w ms (ints sh.acts) (sh.pushesTo sh.pushed.length) h fo):=by
 obtain⟨w2,hw2,HK1⟩:∃w2,w2=(w.alloc (.cells #[iX (m:Int),iX (h:Int),bool fo] 58)).alloc (.cells #[slice none 0 0,slice none 0 0,slice none 0 0,iX 0,bool false,iX 0] 30)/\Hid (∀w3,Keep (w.heap.size+2) (w.heap.size+2) w2 w3->w3.heap[w.heap.size+1]? =some (.cells #[slice none 0 0,slice none 0 0,slice none 0 0,iX 0,bool false,iX 0] 30)/\w3.cell? ⟨w.heap.size,0,none⟩=some (iX (m:Int))/\w3.cell? ⟨w.heap.size,1,none⟩=some (iX (h:Int))/\w3.cell? ⟨w.heap.size,2,none⟩=some (bool fo)/\Grew w w3):=⟨_,rfl,λw3 hk=>zGR hk⟩
 have HZ2:Hid (w2.heap.size=w.heap.size+2):=by show _=_;rw[hw2];simp
 have HRD:Hid (Ca 43 #[string s] w2 (zEz w2 (1+6*s.size) (.inl sh))):=by have:=zAD w2 s hs;rw[hsp] at this;exact this
 have k1:(1:Int)<=(m:Int):=by omega
 have k2:(m:Int)<=200:=by omega
 have k3:(1:Int)<=(h:Int):=by omega
 have k4:(h:Int)<=64:=by omega
 have HMO:Hid (∀w4 mv av pv,SpecIs w4 (1+6*s.size) mv av pv sh->Ca 44 #[agg #[mv,av,pv],iX (m:Int)] w4 (zML w4 (some ms))):=λw4 mv av pv h=>by have:=zCt w4 (1+6*s.size) mv av pv sh h m h2;rw[hmo] at this;exact this
 have hsum:=zHK hsp;have HMK:Hid (∀w5 v mv av pv,SpecIs w5 (1+6*s.size) mv av pv sh->ModesAt w5 (In w5) v ms->Ca 45 #[v,av,pv,iX (h:Int)] w5 (λe w'=>Made w5 w' e ms (ints sh.acts) (sh.pushesTo sh.pushed.length) h)/\ModesOk ms/\(ints sh.acts).length=zU ms ms.length/\(sh.pushesTo sh.pushed.length).length=(ints sh.acts).length):=λw5 v mv av pv hsi hM=>by
  obtain⟨hok,hrt⟩:=zL9 hsi hsum h2 hmo;exact⟨zJm w5 (In w5) v av pv ms (ints sh.acts) (sh.pushesTo sh.pushed.length) h hM hsi.acts hsi.pushes (λk hk=>hk) hok (by rw[zO,hrt]) (by rw[zO,yS];exact hsi.ok.same) (zIO _) (zH4 hsi.there),hok,by rw[zO,hrt],by rw[zO,yS];exact hsi.ok.same⟩
 clear hsp hmo hsum;go_in;apply wp_cut;intro K0 HK0;go_wp2;apply HK0.out;clear HK0;rw[<-hw2];clear hw2;obtain⟨-,p0,p1,p2,-⟩:=HK1 w2 (Keep.refl _ _ _);apply wp_cut;intro K0 HK0;go_wp2;apply HK0.out;clear HK0;clear p0 p1 p2;apply wp_cut;intro K0 HK0;go_wp2_with (first|(go_at_call 43;refine HRD.mono ?_;rintro e w3 ⟨hk3,mv,av,pv,rfl,hsi⟩;obtain⟨⟨am,cm,e1⟩,⟨aa,ca,e2⟩,⟨ap,cp,e3⟩⟩:=hsi.forms;subst e1 e2 e3))
 apply HK0.out;clear HK0;obtain⟨w4,hw4,y0,y1,y2,K4⟩:∃w4,w4=w3.alloc (.cells #[slice am sh.modes.length cm,slice aa sh.acts.length ca,slice ap sh.pushed.length cp] 79)/\w4.cell? ⟨w3.heap.size,0,none⟩=some (slice am sh.modes.length cm)/\w4.cell? ⟨w3.heap.size,1,none⟩=some (slice aa sh.acts.length ca)/\w4.cell? ⟨w3.heap.size,2,none⟩=some (slice ap sh.pushed.length cp)/\Hid (Keep (w.heap.size+2) (w.heap.size+2) w2 w4/\SpecIs w4 (1+6*s.size) (slice am sh.modes.length cm) (slice aa sh.acts.length ca) (slice ap sh.pushed.length cp) sh/\w3.heap.size<w4.heap.size/\w.heap.size+2<=w4.heap.size):=by
  have h5:Keep (w.heap.size+2) (w.heap.size+2) w2 w3:=by rw[<-HZ2.out];exact hk3
  have h6:w.heap.size+2<=w3.heap.size:=by have:=hk3.size;rw[HZ2.out] at this;exact this
  have hn:=gY w3 (.cells #[slice am sh.modes.length cm,slice aa sh.acts.length ca,slice ap sh.pushed.length cp] 79);refine⟨_,rfl,?_,?_,?_,h5.trans (kZ _ _ h6),hsi.grown (kZ _ _ lQ),by simp,by simp;omega⟩
  all_goals (unfold cell?;rw[hn];rfl)
 rw[<-hw4];clear hw4 hk3 hsi HRD;apply wp_cut;intro K0 HK0;go_wp2;apply HK0.out;clear HK0;obtain⟨-,l0,-,-,-⟩:=HK1 w4 K4.1;obtain⟨B,hB⟩:∃B,B=w3.heap.size:=⟨_,rfl⟩
 have HBL:Hid (B<w4.heap.size):=by show B<_;rw[hB];exact K4.2.2.1
 rw[<-hB] at y0 y1 y2 ⊢;clear hB;apply wp_cut;intro K0 HK0;go_wp2_with (first|(go_at_call 44;refine(HMO w4 _ _ _ K4.2.1).mono ?_;rintro e w5 ⟨hk5,v5,rfl,hM5⟩;obtain⟨a5,c5,e5,-⟩:=id hM5;subst e5))
 apply HK0.out;clear HK0;apply wp_cut;intro K0 HK0;go_wp2;apply HK0.out;clear HK0;have K5:Hid (Keep (w.heap.size+2) (w.heap.size+2) w2 w5/\SpecIs w5 (1+6*s.size) (slice am sh.modes.length cm) (slice aa sh.acts.length ca) (slice ap sh.pushed.length cp) sh/\w.heap.size+2<=w5.heap.size/\ModesAt w5 (In w5) (slice a5 ms.length c5) ms):=⟨K4.1.trans (hk5.lower K4.2.2.2 K4.2.2.2),K4.2.1.grown hk5,lY K4.2.2.2 hk5.size,hM5⟩
 have x1:=zA y1 HBL hk5;have x2:=zA y2 HBL hk5;obtain⟨-,-,l1,-,-⟩:=HK1 w5 K5.1;obtain⟨hmk,hok,hal⟩:=HMK w5 _ _ _ _ K5.2.1 hM5;have HMK2:=vl hmk;have HOK:Hid (ModesOk ms/\(ints sh.acts).length=zU ms ms.length/\(sh.pushesTo sh.pushed.length).length=(ints sh.acts).length):=⟨hok,hal⟩
 clear l0 y0 y1 y2 hk5 hM5 HMO HMK hmk hok hal K4 HBL;apply wp_cut;intro K0 HK0;go_wp2_with (first|(go_at_call 45;refine HMK2.mono ?_;rintro e w6 ⟨p,H,cc,n,rfl,hp6,hH6,hMem,hsp6,hk6⟩))
 apply HK0.out;clear HK0;have K6:Hid (Keep (w.heap.size+2) (w.heap.size+2) w2 w6/\w.heap.size+2<=w6.heap.size/\ModesAt w6 (In w6) (slice a5 ms.length c5) ms/\w.heap.size+2<=p/\w.heap.size+2<=H/\Mem w6 H p cc (vY ms (ints sh.acts) (sh.pushesTo sh.pushed.length) h n)/\(((zW ms (ints sh.acts) (sh.pushesTo sh.pushed.length) h).first.itr n).spreadTo (zE ms ms.length)).2=false):=⟨K5.1.trans (hk6.lower K5.2.2.1 K5.2.2.1),lY K5.2.2.1 hk6.size,K5.2.2.2.grown hk6,lY K5.2.2.1 hp6,lY K5.2.2.1 hH6,hMem,hsp6⟩
 have y7:w6.cell? ⟨p,7,none⟩=some (iX ((zB ms 256).2:Nat)):=by
  have e7:=hMem.tp.get_count;rw[hMem.count] at e7;have ec:(vY ms (ints sh.acts) (sh.pushesTo sh.pushed.length) h n).count=(zB ms 256).2:=by
   show((zW ms (ints sh.acts) (sh.pushesTo sh.pushed.length) h).first.itr n).count=_;rw[zA9];rfl
  rw[ec] at e7;exact e7
 obtain⟨-,-,-,l2,-⟩:=HK1 w6 K6.1;have HRP:Hid (∀wq,Grew w6 wq->Ca 46 #[slice a5 ms.length c5,iX ((zB ms 256).2:Nat),bool fo] wq λe w'=>∃m0 m1 m2 s0 s1 s2 v0 v1 v2,e=returned (agg #[slice m0 m1 m2,slice s0 s1 s2,slice v0 v1 v2,iX (aheadTo ms ms.length),bool (!fo&&xE (aheadTo ms ms.length) (zB ms 256).2),iX 0])/\Grew wq w'):=λwq hq=>(zGQ wq _ ms (K6.2.2.1.grown hq) HOK.1 (zB ms 256).2 (qI ms 256).2 fo).mono (by rintro e w7 ⟨mo,sv,ev,rfl,hsv,hev,hk7,a,n,c,rfl⟩;obtain⟨s0,s1,rfl⟩:=OwnB.form hsv;obtain⟨v0,v1,rfl⟩:=OwnB.form hev;exact⟨a,n,c,s0,_,s1,v0,_,v1,rfl,hk7⟩);have HQ:Hid (∀w8,Grew w6 w8->((!fo&&xE (aheadTo ms ms.length) (zB ms 256).2)=true->Ca 47 #[pX p,iX (aheadTo ms ms.length)] w8 (λe w9=>e=returned (tuple #[])/\(λw9=>∃c,Mem w9 H p c (vS ms (ints sh.acts) (sh.pushesTo sh.pushed.length) h n fo)) w9/\Keep w8.heap.size p w8 w9))/\((!fo&&xE (aheadTo ms ms.length) (zB ms 256).2)=false->(λw9=>∃c,Mem w9 H p c (vS ms (ints sh.acts) (sh.pushesTo sh.pushed.length) h n fo)) w8)):=λw8 hk8=>by
  refine⟨λhst=>?_,λhst=>?_⟩
  ·have hgt:vS ms (ints sh.acts) (sh.pushesTo sh.pushed.length) h n fo={vY ms (ints sh.acts) (sh.pushesTo sh.pushed.length) h n with stream:=true}.looking (aheadTo ms ms.length).toNat:=by unfold vS;rw[if_pos hst]
   have h5:=hst;rw[Bool.and_eq_true] at h5;have h6:=h5.2;unfold xE at h6;rw[Bool.and_eq_true] at h6;have h7:0<=aheadTo ms ms.length:=of_decide_eq_true h6.1;have h8:zG (zB ms 256).2 (aheadTo ms ms.length).toNat<=3000:=of_decide_eq_true h6.2;have h9:=(zFF ms HOK.1 ms.length lQ).2;have hok:=zJv (t:=(zW ms (ints sh.acts) (sh.pushesTo sh.pushed.length) h).first) ((zCD ms (ints sh.acts) (sh.pushesTo sh.pushed.length) h HOK.1 HOK.2.1).withLive _) n;have hcn:(vY ms (ints sh.acts) (sh.pushesTo sh.pushed.length) h n).count=(zB ms 256).2:=by
    show((zW ms (ints sh.acts) (sh.pushesTo sh.pushed.length) h).first.itr n).count=_;rw[zA9];rfl
   have hst1:1<=(vY ms (ints sh.acts) (sh.pushesTo sh.pushed.length) h n).nst:=by
    show 1<=((zW ms (ints sh.acts) (sh.pushesTo sh.pushed.length) h).first.itr n).nst;rw[zHa];exact lY (HOK.1.states1 0 HOK.1.one) (by have:=qC ms 1 ms.length HOK.1.one;have e:zE ms 1=(ms[0]'HOK.1.one).next.length:=(by simp[zE,lW,lV HOK.out.1.one]);rw[e] at this;exact this)
   have:=zDD w8 H p cc _ (K6.2.2.2.2.2.1.grown hk8) ⟨hok.1,hok.2,hok.3,hok.4⟩ hst1 (by rw[hcn];exact zCH ms 256 (by decide)) (aheadTo ms ms.length).toNat (by omega) (by rw[hcn];exact h8)
   rw[Int.toNat_of_nonneg h7] at this;refine this.mono ?_;rintro e w9 ⟨rfl,c',hM,hk⟩;exact⟨rfl,⟨c',by rw[hgt];exact hM⟩,hk⟩
  ·have hgt:vS ms (ints sh.acts) (sh.pushesTo sh.pushed.length) h n fo=vY ms (ints sh.acts) (sh.pushesTo sh.pushed.length) h n:=by unfold vS;rw[if_neg (by rw[hst];decide)]
   exact⟨cc,by rw[hgt];exact K6.2.2.2.2.2.1.grown hk8⟩
 obtain⟨hB6,-⟩:=HK1 w6 K6.1;refine zOg w w6 _ (λw9=>∃c,Mem w9 H p c (vS ms (ints sh.acts) (sh.pushesTo sh.pushed.length) h n fo)) p a5 ms.length c5 (zB ms 256).2 (aheadTo ms ms.length) (!fo&&xE (aheadTo ms ms.length) (zB ms 256).2) fo hB6 K6.2.1 K6.2.2.2.2.2.1.tp.lt (by have:=K6.2.2.2.1;omega) y7 l2 HRP HQ ?_;intro m0 m1 m2 s0 s1 s2 v0 v1 v2 w8 w9 wz L hk8 hk9 hq ho hu hL1 hL2 hblk hcell;obtain⟨c9,hM9⟩:=hq;obtain⟨-,-,-,-,hkw⟩:=HK1 w6 K6.1;have hp2:=K6.2.2.2.1;have hH2:=K6.2.2.2.2.1;have hs6:=K6.2.1;have hs8:=hk8.size;have hs9:=hk9.size;refine⟨hkw.trans ⟨ho.trans (hk9.os.trans hk8.os),hu.trans (hk9.output.trans hk8.output),by omega,λk k1 _=>(hblk k (by omega) (by omega)).trans ((hk9.block k (by omega) (by omega)).trans (hk8.block k (by omega) (by omega)))⟩,L,p,H,c9,n,m0,m1,m2,s0,s1,s2,v0,v1,v2,rfl,hcell,hL2,by omega,by omega,by omega,?_,K6.2.2.2.2.2.2,HOK.1,HOK.2.1,HOK.2.2⟩;exact hM9.keep (hblk p hM9.tp.lt (by omega)) (λk k1 k2=>hblk k k2 (by omega)) (by omega)
theorem zEN {s:ByteArray}{n k:Nat}(a:jL s=.inr (n,k)):k≠0:=by
 unfold jL at a;split at a
 ·cases a;decide
 split at a
 ·cases a;decide
 split at a
 ·split at a
  ·cases a
  ·cases a;decide
 ·cases a;decide
def zMO (w:World)(G:(List Sm×Sh) ⊕ (Nat×Nat))(hold:Nat)(fo:Bool)(e:Ending)(w':World):Prop:=match G with
 | .inr (n,k)=>k≠0/\zIQ w n k e w'
 | .inl (ms,sh)=>zMN w ms (ints sh.acts) (sh.pushesTo sh.pushed.length) hold fo e w'
theorem zFm (w:World)(s:ByteArray)(o:s.size<=1048576)(b a:Int)(c:Bool):Calls prog 30 #[string s,agg #[iX b,iX a,bool c]] w (zMO w (zAq s b a) a.toNat c):=by
 have i:∀{n k:Nat},k≠0->zAq s b a=.inr (n,k)->Calls prog 30 #[string s,agg #[iX b,iX a,bool c]] w (zIQ w n k)->Calls prog 30 #[string s,agg #[iX b,iX a,bool c]] w (zMO w (zAq s b a) a.toNat c):=by
  intro n k y f z;rw[f];exact z.mono λe w' d=>⟨y,d⟩
 by_cases p:b<1
 ·exact i (by decide) (by unfold zAq yN;rw[if_pos (by simp[p])]) (zEw w s b a c (.inl p))
 have j:1<=b:=by omega
 by_cases q:200<b
 ·exact i (by decide) (by unfold zAq yN;rw[if_pos (by simp[q])]) (zEw w s b a c (.inr (.inl ⟨j,q⟩)))
 have r:b<=200:=by omega
 by_cases t:a<1
 ·exact i (by decide) (by unfold zAq yN;rw[if_pos (by simp[t])]) (zEw w s b a c (.inr (.inr (.inl ⟨j,r,t⟩))))
 have x:1<=a:=by omega
 by_cases u:64<a
 ·exact i (by decide) (by unfold zAq yN;rw[if_pos (by simp[u])]) (zEw w s b a c (.inr (.inr (.inr ⟨j,r,x,u⟩))))
 have A:a<=64:=by omega
 have B:yN b a=false:=by unfold yN;simp[p,q,t,u]
 have f:zAq s b a=match jL s with
   | .inr e=>.inr e
   | .inl sh=>match xS (1+6*s.size) sh sh.modes.length 0 b.toNat with
    |none=>.inr (0,5)
    |some ms=>.inl (ms,sh):=by
  unfold zAq;rw[B];rfl
 obtain⟨m,rfl⟩:∃m:Nat,b=m:=⟨b.toNat,by omega⟩
 obtain⟨d,rfl⟩:∃d:Nat,a=d:=⟨a.toNat,by omega⟩
 cases g:jL s with
 |inr e=>
  obtain⟨n,k⟩:=e;rw[g] at f;exact i (zEN g) f (zMq w s m d c o j r x A n k (zEN g) g)
 |inl sh=>
  rw[g] at f;cases l:xS (1+6*s.size) sh sh.modes.length 0 m with
  |none=>
   have v:zAq s m d=.inr (0,5):=by rw[f];show(match xS (1+6*s.size) sh sh.modes.length 0 m with|none=>_|some ms=>_)=_;rw[l]
   exact i (by decide) v (zJy w s c o m d (by omega) (by omega) (by omega) (by omega) sh g l)
  |some ms=>
   have v:zAq s m d=.inl (ms,sh):=by rw[f];show(match xS (1+6*s.size) sh sh.modes.length 0 m with|none=>_|some ms=>_)=_;rw[l]
   rw[v];exact zOe w s c o m d (by omega) (by omega) (by omega) (by omega) sh g ms l
theorem zHy (kinds:Nat)(e:1<=kinds)(a:Nat)(b:zG kinds a<=3000):2^a<=zG kinds a:=by
 induction a with
 |zero=>exact lQ
 |succ a d=>
  rw[zG] at b ⊢;split at b
  ·rename_i c
   rw[if_pos c];have:=d c;rw[Nat.pow_succ];exact Nat.mul_le_mul this (by omega)
  ·exact absurd b (by assumption)
theorem zLL (kinds:Nat)(b:1<=kinds)(a:Nat)(c:zG kinds a<=3000):a<12:=by
 have d:=zHy kinds b a c;by_cases e:a<12
 ·exact e
 ·have f:2^12<=2^a:=kG (by decide) (by omega)
  have g:(2:Nat)^12=4096:=by decide
  omega
structure Tb.Made0 (t:Tb):Prop where
 ok:t.OkN
 hold0:1<=t.hold
 hold:t.hold<=64
 nst:1<=t.nst
 count:1<=t.count
 mode1:1<=t.nmode
 mode2:t.nmode<=3
 rule1:1<=t.nrule
 rule2:t.nrule<=8
 act:∀i,i<t.nrule->t.act i<4
 start:∀i,i<t.nmode->t.start i<t.nst
 push:∀i,i<t.nrule->t.push i<t.nmode
 kind:∀c,c<256->t.kind c<t.count
theorem Tb.Made0.fine {t:Tb}(b:t.Made0)(a:Nat)(c:zG t.count a<=3000):(t.looking a).Fine:=by
 have d:=zHy t.count b.count a c;have e:=zLL t.count b.count a c;have f:1<=2^a:=Nat.one_le_two_pow;have g:=Nat.mul_le_mul c b.ok.nst;have j:1*1<=zG t.count a*t.nst:=Nat.mul_le_mul (by omega) b.nst;refine⟨⟨?_,b.hold0,b.hold,b.ok.count,?_,c,b.ok.nst,b.mode1,?_,b.start,b.push,b.kind,b.ok.next,b.ok.ends,λi _=>zD4 _ _ _⟩,b.nst,b.count,?_,?_,b.rule1,b.rule2,b.mode2,b.act⟩
 ·show a<64
  omega
 ·show 1<=zG t.count a
  omega
 ·show zG t.count a*t.nst<=8*((zG t.count a*t.nst+7)/8)
  omega
 ·show 1<=(zG t.count a*t.nst+7)/8
  omega
 ·show(zG t.count a*t.nst+7)/8<=75000
  omega
theorem zI3 {ms:List Sm}(h:ModesOk ms):1<=zE ms ms.length:=by
 have h1:=qC ms 1 ms.length h.one;have e:zE ms 1=(ms[0]'h.one).next.length:=by simp[zE,lW,lV h.one]
 have:=h.states1 0 h.one;omega
theorem zLA {ms:List Sm}{acts pushed:List Int}{hold:Nat}(a:ModesOk ms)(b:acts.length=zU ms ms.length)(d:1<=hold)(e:hold<=64)(g:∀i,i<acts.length->(acts.getD i 0).toNat<4)(j:∀i,i<acts.length->(pushed.getD i 0).toNat<ms.length)(f:Nat->Bool):({zW ms acts pushed hold with live:=f}:Tb).Made0:=by
 have ok:=(zCD ms acts pushed hold a b).withLive f;obtain⟨k,-,-⟩:=zBU ms a ms.length lQ;obtain⟨s1,-⟩:=vH (zB ms 256).1 ms a ms.length lQ;refine⟨ok,d,e,zI3 a,zCH ms 256 (by decide),a.one,a.three,?_,?_,g,λi l=>?_,j,λc m=>?_⟩
 ·show 1<=acts.length
  rw[b];exact a.rules1
 ·show acts.length<=8
  rw[b];exact a.rules8
 ·have o:i<ms.length:=l
  have:=k _ (zS (zQ (zB ms 256).1 ms ms.length).starts i 0 (by omega));show((zQ (zB ms 256).1 ms ms.length).starts.getD i 0).toNat<zE ms ms.length;omega
 ·have:=zDH ms 256 c m
  show((zB ms 256).1.getD c 0).toNat<(zB ms 256).2;omega
theorem zLb {ms:List Sm}{acts pushed:List Int}{hold:Nat}(d:ModesOk ms)(e:acts.length=zU ms ms.length)(f:1<=hold)(g:hold<=64)(j:∀i,i<acts.length->(acts.getD i 0).toNat<4)(k:∀i,i<acts.length->(pushed.getD i 0).toNat<ms.length)(n:Nat)(l:Bool):(vS ms acts pushed hold n l).Fine:=by
 have a:((zW ms acts pushed hold).first.itr n).Made0:=by rw[jP];exact zLA d e f g j k _
 have m:((zW ms acts pushed hold).first.itr n).count=(zB ms 256).2:=by rw[zA9];rfl
 unfold vS;split
 ·rename_i c
  rw[Bool.and_eq_true] at c;have b:=c.2;unfold xE at b;rw[Bool.and_eq_true] at b;have o:({vY ms acts pushed hold n with stream:=true}:Tb).Made0:=⟨⟨a.ok.1,a.ok.2,a.ok.3,a.ok.4⟩,a.2,a.3,a.4,a.5,a.6,a.7,a.8,a.9,a.10,a.11,a.12,a.13⟩
  exact o.fine _ (by show zG ((zW ms acts pushed hold).first.itr n).count _<=3000;rw[m];exact of_decide_eq_true b.2)
 ·exact a.fine 0 (by rw[zBI];decide)
theorem zE5 (D:Nat)(sh:Sh):∀f j a ms,xS D sh f j a=some ms->ms.length=f
 |0,_,_,ms,b=>by have e:=hQ b;subst e;rfl
 |f+1,j,a,ms,b=>by
  have c:(match zBR D (sh.mode j).2 a with|none=>none|some m=>(xS D sh f (j+1) (a-m.next.length)).map (m::·))=some ms:=b;split at c
  ·cases c
  ·obtain⟨l,d,g⟩:=Option.map_eq_some_iff.1 c
   subst g;exact congrArg (·+1) (zE5 D sh f _ _ l d)
theorem zGp {s:ByteArray}{c g:Int}{ms:List Sm}{sh:Sh}(b:zAq s c g=.inl (ms,sh)):(∀i,i<(ints sh.acts).length->((ints sh.acts).getD i 0).toNat<4)/\(∀i,i<sh.pushed.length->((sh.pushesTo sh.pushed.length).getD i 0).toNat<ms.length)/\yN c g=false:=by
 unfold zAq at b;split at b
 ·cases b
 rename_i m
 have o:yN c g=false:=by cases e:yN c g;rfl;exact absurd e m
 cases a:jL s with
 |inr e=>rw[a] at b;cases b
 |inl j=>
  rw[a] at b;have k:(match xS (1+6*s.size) j j.modes.length 0 c.toNat with|none=>.inr (0,5)|some ms=>.inl (ms,j))=(.inl (ms,sh):(List Sm×Sh) ⊕ (Nat×Nat)):=b;split at k
  ·cases k
  rename_i v p
  cases k
  have q:=zE5 _ _ _ _ _ _ p;have r:=zHK a;unfold jL at a;split at a
  ·cases a
  split at a
  ·cases a
  split at a
  ·rename_i l
   rw[Bool.and_eq_true] at l;split at a
   ·have t:=Sum.inl.inj a
    rw[t] at l;refine⟨λi d=>?_,λi d=>?_,o⟩
    ·rw[zO] at d
     have:(ints sh.acts).getD i 0=((sh.acts[i]:Nat):Int):=by unfold ints;rw[lW,lV (by rw[kV];exact d),List.getElem_map];rfl
     rw[this];exact r.2 _ (List.getElem_mem d)
    ·have f:=l.2
     unfold Sh.haveB at f;have f:=(of_decide_eq_true f).1;have:(sh.pushesTo sh.pushed.length).getD i 0=sh.pushI (sh.push i):=by unfold Sh.pushesTo;rw[lW,lV (by rw[kV,List.length_range];exact d),List.getElem_map,List.getElem_range];rfl
     rw[this,q];unfold Sh.pushI;split
     ·exact f
     ·unfold Sh.modeI
      split
      ·rename_i u;exact u
      ·exact f
   ·cases a
  ·cases a
def zD3 (c:Int)(n:Nat):Nat:=(if c<0 then -(c+1) else c).toNat%n
theorem zLZ (c:Int)(n:Nat)(a:1<=n):zD3 c n<n:=hJ _ a
theorem zJd (w:World)(c:Int)(d:-9223372036854775808<=c)(f:c<=9223372036854775807)(n:Nat)(g:1<=n)(h:n<=1073741824):Calls prog 15 #[iX c,iX (n:Int)] w λe w'=>e=returned (iX (zD3 c n:Nat))/\w'=w:=by
 by_cases b:c<0
 ·have a:Hid ((zD3 c n:Int)=-((c+1).tmod n)):=by
   show _=_;unfold zD3;rw[if_pos b,<-Int.neg_tmod,Int.tmod_eq_emod_of_nonneg (by omega),Int.natCast_emod,Int.toNat_of_nonneg (by omega)]
  go_in;go_wp2;refine gJ (results_tmp rfl _ _ _) rfl ?_;exact⟨by rw[a.out];rfl,rfl⟩
 ·have a:Hid ((zD3 c n:Int)=c%n):=by
   show _=_;unfold zD3;rw[if_neg b,Int.natCast_emod,Int.toNat_of_nonneg (by omega)]
  go_in;go_wp2;refine gJ (results_tmp rfl _ _ _) rfl ?_;exact⟨by rw[a.out];rfl,rfl⟩
def zAN (s:ByteArray):Option (List Sm×Sh):=match zAq s 200 64 with
 | .inl x=>some x
 | .inr _=>none
theorem zLc (s:ByteArray)(a:Int)(c:1<=a)(d:a<=64):zAq s 200 a=zAq s 200 64:=by
 have b:yN 200 a=yN 200 64:=by
  unfold yN;rw[gG (show¬a<1 by omega),gG (show¬64<a by omega)];rfl
 unfold zAq;rw[b]
structure LexIn (w:World)(B L:Nat)(x:List Sm×Sh)(hold:Nat)(fo:Bool)(t:Tb):Prop where
 fine:t.Fine
 made:∃n,t=vS x.1 (ints x.2.acts) (x.2.pushesTo x.2.pushed.length) hold n fo/\(((zW x.1 (ints x.2.acts) (x.2.pushesTo x.2.pushed.length) hold).first.itr n).spreadTo (zE x.1 x.1.length)).2=false
 modes:ModesOk x.1
 from_:B<=L
 at_:∃S p,LexAt w S L p t/\∀k,S k->B<=k
theorem LexIn.keep {w w':World}{d f:Nat}{x:List Sm×Sh}{hold:Nat}{g:Bool}{t:Tb}(a:LexIn w d f x hold g t)(e:∀k,d<=k->k<w.heap.size->w'.heap[k]? =w.heap[k]?)(i:w.heap.size<=w'.heap.size):LexIn w' d f x hold g t:=by
 obtain⟨S,p,b,j⟩:=a.at_;exact⟨a.fine,a.made,a.modes,a.from_,S,p,⟨(gW (e f a.from_ b.lt)).trans b.cell,lZ b.lt i,b.tab.keep λk c=>e k (j k c) (b.safe k c),λk c=>lZ (b.safe k c) i⟩,j⟩
theorem LexIn.less {w:World}{b C c:Nat}{x:List Sm×Sh}{hold:Nat}{d:Bool}{t:Tb}(a:LexIn w b c x hold d t)(e:C<=b):LexIn w C c x hold d t:=by
 obtain⟨S,p,f,g⟩:=a.at_;exact⟨a.fine,a.made,a.modes,lY e a.from_,S,p,f,λk i=>lY e (g k i)⟩
theorem LexIn.of {w w':World}{s:ByteArray}{m:Int}{ms:List Sm}{sh:Sh}{hold:Nat}{d:Bool}(o:zAq s m hold=.inl (ms,sh)){e p H n:Nat}{c:Tc}(q:w'.cell? ⟨e,0,none⟩=some (pX p))(r:e<w'.heap.size)(t:w.heap.size<=e)(u:w.heap.size<=H)(v:w.heap.size<=p)(f:Mem w' H p c (vS ms (ints sh.acts) (sh.pushesTo sh.pushed.length) hold n d))(x:(((zW ms (ints sh.acts) (sh.pushesTo sh.pushed.length) hold).first.itr n).spreadTo (zE ms ms.length)).2=false)(g:ModesOk ms)(y:(ints sh.acts).length=zU ms ms.length)(z:(sh.pushesTo sh.pushed.length).length=(ints sh.acts).length):LexIn w' w.heap.size e (ms,sh) hold d (vS ms (ints sh.acts) (sh.pushesTo sh.pushed.length) hold n d):=by
 obtain⟨A,B,h⟩:=zGp o;have j:1<=hold/\hold<=64:=by
  unfold yN at h;simp only[Bool.or_eq_false_iff,decide_eq_false_iff_not] at h;omega
 have b:=zLb g y j.1 j.2 A (λi l=>B i (by rw[<-z,yS] at l;exact l)) n d;refine⟨b,⟨n,rfl,x⟩,g,t,Mem.blocks w' H p,p,⟨q,r,f.tabAt b.ok.nmode b.rule1 b.nst b.count b.long1,λk a=>?_⟩,λk a=>?_⟩
 ·rcases a with rfl|a
  ·exact f.tp.lt
  ·exact a.2
 ·rcases a with rfl|a
  ·exact v
  ·exact lY u a.1
def vJ (x:List Sm×Sh)(fo:Bool):Bool:=!fo&&xE (aheadTo x.1 x.1.length) (zB x.1 256).2
end Go.Proofs.YtbjcfkdnjaiclaaGreat
