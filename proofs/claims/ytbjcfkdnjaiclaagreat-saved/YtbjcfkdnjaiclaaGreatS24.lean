import Derived.Deep.DrawnRows
import Derived.Deep.RegionLaw
import Derived.Test.YtbjcfkdnjaiclaaGreatS0
import Derived.Test.YtbjcfkdnjaiclaaGreatS15
import Derived.Test.YtbjcfkdnjaiclaaGreatS23
/- Parts of the proof. -/
set_option linter.unusedVariables false
set_option linter.unusedSimpArgs false
set_option maxHeartbeats 4000000
set_option maxRecDepth 100000
namespace Go.Proofs.YtbjcfkdnjaiclaaGreat
open Go.RowKit Go.Proofs.Tryz Go.World
open Go.Value (int slice bool pointer string agg tuple)
open Go.IntKind (i64)
open Go.Ending (returned)
def zAw (s:ByteArray):Sh ⊕ (Nat×Nat):=
 if 400<s.size then .inr (0,1) else
 match zAs (s.size+1) Sh.none 1 s with
 | .inr n=>.inr (n,2)
 | .inl sh=>if sh.there&&sh.haveB then(if sh.fitB then .inl sh else .inr (0,4)) else .inr (0,3)
theorem zHu:∀f sh n s m,zAs f sh n s=.inr m->n<=m
 |0,_,_,_,_,b=>by cases b
 |f+1,sh,n,s,m,b=>by
  have a:(if s.size=0 then .inl sh else if zAD s 10 then(match yK sh (qD s 10) with|none=>.inr n|some c=>zAs f c (n+1) (vA s 10)) else .inr n)=(.inr m:Sh ⊕ Nat):=b;split at a
  ·cases a
  split at a
  ·cases d:yK sh (qD s 10) with
   |none=>rw[d] at a;cases a;exact lQ
   |some c=>
    rw[d] at a;exact Nat.le_of_succ_le (zHu f c (n+1) _ m a)
  ·cases a;exact lQ
theorem Sw.low {w w2:World}{X:Nat->Prop}{S D:Nat}{sh:Sh}{m dv o p:Value}{rv:Nat->Value}{q:Nat->List Nat}{r:Nat->Nat}(a:Sw w X S D sh m dv o p rv q r)(f:w2.os=w.os)(u:w2.output=w.output)(j:w.heap.size<=w2.heap.size)(l:∀k,S<=k->k<w.heap.size->w2.heap[k]? =w.heap[k]?):Sw w2 X S D sh m dv o p rv q r:=by
 have c:∀{e s n v xs},w.ownsRow (S+1) e s v n xs->w2.ownsRow (S+1) e s v n xs:=λf=>zD f λg A d _=>l g (by omega) d;have t:Agree X w w2:=⟨f,u,j,λi b x=>l i (Nat.le_of_lt (a.xlt i x).1) b⟩
 exact⟨(l S lQ a.lt).trans a.blk,c a.mOwn,c a.dOwn,c a.aOwn,c a.pOwn,λi b=>c (a.rOwn i b),a.rApart,λi b k y=>(a.rTree i b k y).go t,λi b=>(a.dTree i b).go t,λg d=>⟨(a.xlt g d).1,lZ (a.xlt g d).2 j⟩,a.xm,a.xr,lZ a.lt j⟩
structure SpecIs (w:World)(D:Nat)(mv av pv:Value)(sh:Sh):Prop where
 sheet:∃X S dv qv rv ps dp,Sw w X S D sh mv dv av qv rv ps dp
 pushes:Ints w (In w) pv (sh.pushesTo sh.pushed.length)
 ok:ShOk sh D
 few:jX sh
 there:sh.there=true
 have_:sh.haveB=true
 fit:sh.fitB=true
def zFE (w:World)(D:Nat)(G:Sh ⊕ (Nat×Nat))(e:Ending)(w':World):Prop:=
 Grew w w'/\match G with
 | .inr (n,k)=>e=returned (tuple #[agg #[slice none 0 0,slice none 0 0,slice none 0 0],int i64 (n:Int),int i64 (k:Int)])
 | .inl sh=>∃mv av pv,e=returned (tuple #[agg #[mv,av,pv],int i64 0,int i64 0])/\SpecIs w' D mv av pv sh
def zQp (w w2:World):Prop:=Hid (w2.heap[w.heap.size]? =some (.cells #[slice none 0 0,slice none 0 0,slice none 0 0] 79)/\Grew w w2)/\w2.cell? ⟨w.heap.size,0,none⟩=some (slice none 0 0)/\w2.cell? ⟨w.heap.size,1,none⟩=some (slice none 0 0)/\w2.cell? ⟨w.heap.size,2,none⟩=some (slice none 0 0)/\w2.frozen? ⟨w.heap.size,0,none⟩=false/\w2.frozen? ⟨w.heap.size,1,none⟩=false/\w2.frozen? ⟨w.heap.size,2,none⟩=false
theorem zBZ (w w2:World)(u v q:Value)(b:Hid (w2.heap[w.heap.size]? =some (.cells #[slice none 0 0,slice none 0 0,slice none 0 0] 79)/\Grew w w2)):
  ∃a,a=((w2.setCell ⟨w.heap.size,0,none⟩ u).setCell ⟨w.heap.size,1,none⟩ v).setCell ⟨w.heap.size,2,none⟩ q/\a.cell? ⟨w.heap.size,0,none⟩=some u/\a.cell? ⟨w.heap.size,1,none⟩=some v/\a.cell? ⟨w.heap.size,2,none⟩=some q/\Hid (Grew w a/\a.heap.size=w2.heap.size/\a.os=w2.os/\a.output=w2.output/\∀k,k≠w.heap.size->a.heap[k]? =w2.heap[k]?):=by
 obtain⟨b,d⟩:=b;have e:(((w2.setCell ⟨w.heap.size,0,none⟩ u).setCell ⟨w.heap.size,1,none⟩ v).setCell ⟨w.heap.size,2,none⟩ q).heap[w.heap.size]? =some (.cells #[u,v,q] 79):=by
  simp[setCell,lU,b]
 have c:∀i,i≠w.heap.size->(((w2.setCell ⟨w.heap.size,0,none⟩ u).setCell ⟨w.heap.size,1,none⟩ v).setCell ⟨w.heap.size,2,none⟩ q).heap[i]? =w2.heap[i]? :=λi f=>by
  simp[setCell,lU,Ne.symm f]
 refine⟨_,rfl,?_,?_,?_,d.trans ⟨rfl,rfl,by simp[World.setCell],λk g _=>c k (by omega)⟩,by simp[World.setCell],rfl,rfl,c⟩
 all_goals (unfold cell?;rw[e];rfl)
theorem zJd {w w2:World}(a:Keep (w.heap.size+1) (w.heap.size+1) (w.alloc (.cells #[slice none 0 0,slice none 0 0,slice none 0 0] 79)) w2):zQp w w2:=by
 have d:=gX w (.cells #[slice none 0 0,slice none 0 0,slice none 0 0] 79);have c:=(a.block w.heap.size (by omega) (by omega)).trans d;refine⟨⟨c,(kZ (H:=w.heap.size) (b:=w.heap.size) _ _ lQ).trans ⟨a.os,a.output,a.size,λk d c=>a.block k (by omega) (by omega)⟩⟩,?_,?_,?_,?_,?_,?_⟩
 all_goals first|(unfold cell?;rw[c];rfl)|(unfold frozen?;rw[c];simp)
theorem zME (w:World):SwIs (w.alloc (.cells #[slice none 0 0,slice none 0 0,slice none 0 0,slice none 0 0] 114)) w.heap.size 1 Sh.none:=by
 refine⟨λ_=>False,_,_,_,_,λ_=>slice none 0 0,λ_=>[],λ_=>0,gX _ _,ownsRow_nil _ _ _ _,ownsRow_nil _ _ _ _,ownsRow_nil _ _ _ _,ownsRow_nil _ _ _ _,λi a=>absurd a (Nat.not_lt_zero _),λi j g a=>absurd a (Nat.not_lt_zero _),λi a=>absurd a (Nat.not_lt_zero _),λi a=>absurd a (Nat.not_lt_zero _),λg b=>b.elim,λg b=>b.elim,λg i b=>b.elim,by simp⟩
theorem zMQ (D:Nat):ShOk Sh.none D:=⟨by show 0<=3;omega,by show 0<=4;omega,by show 0<=8;omega,rfl,λi a=>absurd a (Nat.not_lt_zero _),λc b=>(by cases b),λi a=>absurd a (Nat.not_lt_zero _)⟩
theorem zK3:jX Sh.none:=λi a=>absurd a (Nat.not_lt_zero _)
theorem zKM (w:World)(s:ByteArray):∃w1 w2,w1=w.alloc (.cells #[slice none 0 0,slice none 0 0,slice none 0 0] 79)/\w2=w1.alloc (.cells #[slice none 0 0,slice none 0 0,slice none 0 0,slice none 0 0] 114)/\Hid (∀v,Keep (w.heap.size+1) (w.heap.size+1) w2 v->zQp w v)/\Hid (w1.heap.size=w.heap.size+1)/\Hid (zQp w w1)/\(s.size<=400->Hid (Calls prog 56 #[pointer (some ⟨w.heap.size+1,0,none⟩),string s] w2 (zPH w2 (w.heap.size+1) (1+6*s.size) (zAs (s.size+1) Sh.none 1 s)))):=by
 have a:(w.alloc (.cells #[slice none 0 0,slice none 0 0,slice none 0 0] 79)).heap.size=w.heap.size+1:=by simp
 refine⟨_,_,rfl,rfl,λv b=>zJd ((kZ _ _ (by rw[a];omega)).trans b),a,zJd (Keep.refl _ _ _),λc=>?_⟩;have:=zME (w.alloc (.cells #[slice none 0 0,slice none 0 0,slice none 0 0] 79));rw[a] at this;exact zFl _ _ 1 Sh.none this (zMQ 1) zK3 s (by omega)
theorem SwIs.grew {w2 v b:World}{S D:Nat}{sh:Sh}(a:SwIs v S D sh)(d:Keep S S w2 v)(c:Grew v b):SwIs b S D sh/\Keep S S w2 b/\S<v.heap.size:=by
 obtain⟨X,e,dv,f,g,rv,i,j,a⟩:=a;exact⟨⟨X,e,dv,f,g,rv,i,j,a.grown c⟩,d.trans (c.lower (Nat.le_of_lt a.lt) (Nat.le_of_lt a.lt)),a.lt⟩
theorem zPX {v:World}{S D:Nat}{sh:Sh}(b:SwIs v S D sh)(ok:ShOk sh D):Calls prog 57 #[pX S] v λe w'=>∃u,e=returned (tuple #[u,bool sh.there])/\(∃a n c,u=slice a n c)/\(sh.there=true->OwnI w' v.heap.size u (sh.pushesTo sh.pushed.length))/\Grew v w':=by
 obtain⟨X,d,dv,f,g,rv,i,j,b⟩:=b;exact zD1 v X _ _ sh d dv f g rv i j b ok.modes (by rw[ok.same];exact ok.acts)
theorem zP4 {v:World}{S D:Nat}{sh:Sh}(a:SwIs v S D sh)(ok:ShOk sh D):Calls prog 58 #[pX S] v λe w'=>e=returned (bool sh.haveB)/\Grew v w':=by
 obtain⟨X,b,dv,c,d,rv,f,g,a⟩:=a;exact zFp v X _ _ sh b dv c d rv f g a ok.modes
theorem zQa {v:World}{S D:Nat}{sh:Sh}(a:SwIs v S D sh)(ok:ShOk sh D)(few:jX sh):Calls prog 59 #[pX S] v λe w'=>e=returned (bool sh.fitB)/\Grew v w':=by
 obtain⟨X,b,dv,c,d,rv,f,g,a⟩:=a;exact zGD v X _ _ sh b dv c d rv f g a ok few
theorem zA5 (w:World)(s:ByteArray)(aY:s.size<=1048576):Calls prog 43 #[string s] w (zFE w (1+6*s.size) (zAw s)):=by
 obtain⟨w1,w2,O,ap,P,aZ,aq,ar⟩:=zKM w s;obtain⟨A,au⟩:∃A,A=zAw s:=⟨_,rfl⟩
 have Q:=vl au;rw[<-au];go_in;apply wp_cut;intro c a;go_wp2;apply a.out;rcases Nat.lt_or_ge 400 s.size with ae|ae
 ·have b:A=.inr (0,1):=by rw[Q.out];unfold zAw;rw[if_pos ae]
  rw[b,<-O];clear O;have aD:(400:Int)<(s.size:Int):=by omega
  obtain⟨m,c0,c1,c2,R,T,U⟩:=aq;go_wp2;obtain⟨B,o,d,f,i,p⟩:=zBZ w w1 (slice none 0 0) (slice none 0 0) (slice none 0 0) m;rw[<-o];refine gV (v:=tuple #[agg #[slice none 0 0,slice none 0 0,slice none 0 0],iX 0,iX 1]) (by simp[results,results43,go_sem,d,f,i]) rfl ?_;exact⟨p.1,rfl⟩
 have aD:(s.size:Int)<=400:=by omega
 have u:=ar ae;clear ar;apply wp_cut;intro c a;go_wp2;apply a.out;clear a;apply wp_cut;intro c a;go_wp2;apply a.out;rw[<-O,<-ap];clear O ap a aq;rcases r:zAs (s.size+1) Sh.none 1 s with sh|n;rotate_left
 ·rw[r] at u
  have b:A=.inr (n,2):=by rw[Q.out];unfold zAw;rw[if_neg (by omega),r]
  rw[b];have a0:(0:Int)<(n:Int):=by have:=zHu _ _ _ _ _ r;omega
  clear r;go_wp2_with (first|(go_at_call 56;refine u.mono ?_;rintro e v ⟨j,rfl⟩;obtain⟨m,c0,c1,c2,R,T,U⟩:=P v j))
  obtain⟨B,o,d,f,i,p⟩:=zBZ w v (slice none 0 0) (slice none 0 0) (slice none 0 0) m;rw[<-o];refine gV (v:=tuple #[agg #[slice none 0 0,slice none 0 0,slice none 0 0],iX (n:Int),iX 2]) (by simp[results,results43,go_sem,d,f,i]) rfl ?_;exact⟨p.1,rfl⟩
 rw[r] at u;have b:Hid (A=if sh.there&&sh.haveB then(if sh.fitB then .inl sh else .inr (0,4)) else .inr (0,3)):=by show _=_;rw[Q.out];unfold zAw;rw[if_neg (by omega),r]
 clear r Q;have C:=vl λv E ok=>zPX (v:=v) (S:=w.heap.size+1) (D:=1+6*s.size) (sh:=sh) E ok;have F:=vl λv E ok=>zP4 (v:=v) (S:=w.heap.size+1) (D:=1+6*s.size) (sh:=sh) E ok;have I:=vl λv E ok few=>zQa (v:=v) (S:=w.heap.size+1) (D:=1+6*s.size) (sh:=sh) E ok few;rcases x:sh.there with _|_;rotate_left;rcases y:sh.haveB with _|_;rotate_left;rcases z:sh.fitB with _|_;rotate_left
 ·rw[x] at C
  rw[y] at F;rw[z] at I;rw[x,y,z] at b;have af:=vl (And.intro x (And.intro y z));clear x y z;apply wp_cut;intro c a;go_wp2_with (first|(go_at_call 56;refine u.mono ?_;rintro e aw ⟨ax,rfl,ag,J,ah⟩))
  apply a.out;clear a;apply wp_cut;intro c a;go_wp2;apply a.out;clear a;apply wp_cut;intro c a;go_wp2_with (first|(go_at_call 57;refine(C aw ag J).mono ?_;rintro e aE ⟨aF,rfl,⟨K,L,M,rfl⟩,ay,q⟩;obtain⟨ai,hK4,az⟩:=ag.grew ax q))
  apply a.out;clear a;apply wp_cut;intro c a;go_wp2_with (first|(go_at_call 58;refine(F aE ai J).mono ?_;rintro e aG ⟨rfl,aj⟩;obtain⟨ak,hK5,-⟩:=ai.grew hK4 aj))
  apply a.out;clear a;apply wp_cut;intro c a;go_wp2_with (first|(go_at_call 59;refine(I aG ak J ah).mono ?_;rintro e al ⟨rfl,an⟩;obtain⟨aH,hK6,-⟩:=ak.grew hK5 an))
  apply a.out;clear a;obtain⟨X,a1,dv,a2,aI,rv,aJ,aK,N⟩:=aH;obtain⟨V,W,aL⟩:=zE N.mOwn;obtain⟨Y,ab,aM⟩:=zE N.aOwn;subst aL aM;obtain⟨aN,-,aO,-,-⟩:=N.cells;obtain⟨m,c0,c1,c2,R,T,U⟩:=P al hK6;obtain⟨B,o,d,f,i,p⟩:=zBZ w al (slice V sh.modes.length W) (slice Y sh.acts.length ab) (slice K L M) m;have aP:=vl (zK (zK (ay trivial) aj) an);have ac:=vl (And.intro N (And.intro J (And.intro ah az)));clear m N ay q aj an ag J ah ax ai ak hK4 hK5 hK6 az u C F I P;apply wp_cut;intro c a;go_region
  all_goals
   rw[<-o];obtain⟨t,aA,aQ,aR,aS,aB⟩:∃t,t=B.drew/\cX t w.heap.size 0=some (slice V sh.modes.length W)/\cX t w.heap.size 1=some (slice Y sh.acts.length ab)/\cX t w.heap.size 2=some (slice K L M)/\Hid (Grew w t/\SpecIs t (1+6*s.size) (slice V sh.modes.length W) (slice Y sh.acts.length ab) (slice K L M) sh):=by
    obtain⟨ad,aT,aU,aV,aC⟩:=p;have a3:B.drew.heap.size=al.heap.size:=aT;refine⟨_,rfl,d,f,i,⟨ad.os,ad.output,ad.size,ad.block⟩,⟨⟨X,_,dv,aI,rv,aJ,aK,ac.1.low aU aV (by omega) λk aW _=>aC k (by omega)⟩,zBb (H:=aw.heap.size) (zD aP λg aW _ _=>aC g (by have:=ac.2.2.2;omega)),ac.2.1,ac.2.2.1,af.1,af.2.1,af.2.2⟩⟩
   rw[<-aA];show c _ _;apply a.out;clear a;clear o aA d f i aN aO c0 c1 c2 R T U;go_wp2;refine gV (v:=tuple #[agg #[slice V sh.modes.length W,slice Y sh.acts.length ab,slice K L M],iX 0,iX 0]) (by simp[results,results43,go_sem,aQ,aR,aS]) rfl ?_;rw[b.out];exact⟨aB.1,_,_,_,rfl,aB.2⟩
 all_goals
  rw[x] at C b
  try rw[y] at F b
  try rw[z] at I b
  clear x
  try clear y
  try clear z
  go_wp2_with ((first|(go_at_call 56;refine u.mono ?_;rintro e v ⟨j,rfl,l,ao,aX⟩)|(go_at_call 57;refine(C v l ao).mono ?_;rintro e v ⟨aF,rfl,⟨K,L,M,rfl⟩,-,q⟩;obtain⟨l,j,-⟩:=l.grew j q)|(go_at_call 58;refine(F v l ao).mono ?_;rintro e v ⟨rfl,q⟩;obtain⟨l,j,-⟩:=l.grew j q)|(go_at_call 59;refine(I v l ao aX).mono ?_;rintro e v ⟨rfl,q⟩;obtain⟨l,j,-⟩:=l.grew j q));obtain⟨m,c0,c1,c2,R,T,U⟩:=P v j)
  obtain⟨B,o,d,f,i,p⟩:=zBZ w v (slice none 0 0) (slice none 0 0) (slice none 0 0) m;rw[<-o]
  first
  |(refine gV (v:=tuple #[agg #[slice none 0 0,slice none 0 0,slice none 0 0],iX 0,iX 3]) (by simp[results,results43,go_sem,d,f,i];done) rfl ?_;rw[b.out];exact⟨p.1,rfl⟩)
  |(refine gV (v:=tuple #[agg #[slice none 0 0,slice none 0 0,slice none 0 0],iX 0,iX 4]) (by simp[results,results43,go_sem,d,f,i];done) rfl ?_;rw[b.out];exact⟨p.1,rfl⟩)
section
structure Mk.Tab (m:Mk)(nr:Int):Prop where
 one:1<=m.next.length
 wide:∀row∈m.next,row.length=256/\∀x∈row,0<=x/\x<(m.next.length:Int)
 rules:∀r∈m.rules,-1<=r/\r<nr
 of:∀x∈m.of,0<=x/\x<(m.next.length:Int)
def Mk.Inr (m:Mk)(x:Int):Prop:=0<=x/\x<(m.next.length:Int)
theorem Mk.Inr.grow {m a:Mk}{x:Int}(b:m.Inr x)(c:m.next.length<=a.next.length):a.Inr x:=⟨b.1,by have:=b.2;omega⟩
theorem zIM (x:Int)(a:x∈zeros):x=0:=List.eq_of_mem_replicate a
section
variable {m:Mk} {nr:Int} {most:Nat}
theorem zMg (c:m.Tab nr){r:Int}(f:-1<=r/\r<nr):(m.add most r).Tab nr:=by
 unfold Mk.add;split
 ·exact⟨c.one,c.wide,c.rules,c.of⟩
 ·have j:(m.next++[zeros]).length=m.next.length+1:=by simp
  refine⟨by show 1<=(m.next++[zeros]).length;omega,λrow g=>?_,λq i=>?_,λx e=>?_⟩
  ·show _/\∀x∈row,0<=x/\x<((m.next++[zeros]).length:Int)
   rcases kU.1 g with d|d
   ·obtain⟨a,b⟩:=c.wide row d
    exact⟨a,λx e=>by have:=b x e;omega⟩
   ·rw[kY.1 d]
    exact⟨by unfold zeros;exact List.length_replicate,λx e=>by rw[zIM x e];omega⟩
  ·rcases kU.1 i with d|d
   ·exact c.rules q d
   ·rw[kY.1 d];exact f
  ·show 0<=x/\x<((m.next++[zeros]).length:Int)
   have:=c.of x e;omega
theorem zIK (a:m.Tab nr)(r:Int):(m.add most r).Inr (m.addN most:Int):=by
 have:=a.one;unfold Mk.add Mk.addN Mk.Inr;split
 ·show(0:Int)<=((0:Nat):Int)/\((0:Nat):Int)<(m.next.length:Int)
  omega
 ·show(0:Int)<=(m.next.length:Int)/\(m.next.length:Int)<((m.next++[zeros]).length:Int)
  have b:(m.next++[zeros]).length=m.next.length+1:=by simp
  omega
theorem zLU (d:m.Tab nr)(s b:Nat){x:Int}(k:m.Inr x):(m.put s b x).Tab nr:=by
 have e:=zD0 m s b x;refine⟨by rw[e];exact d.one,λrow l=>?_,d.rules,λy f=>by rw[e];exact d.of y f⟩;rw[e];have g:row∈m.next.set s ((m.next.getD s []).set b x):=l
 rcases List.mem_or_eq_of_mem_set g with i|i
 ·exact d.wide row i
 ·by_cases o:s<m.next.length
  ·have p:m.next.getD s []∈m.next:=by
    rw[lW,lV o];exact List.getElem_mem _
   obtain⟨a,c⟩:=d.wide _ p;rw[i];refine⟨by rw[List.length_set];exact a,λy f=>?_⟩;rcases List.mem_or_eq_of_mem_set f with j|j
   ·exact c y j
   ·rw[j];exact k
  ·rw[List.set_eq_of_length_le (by omega)] at g
   exact d.wide row g
theorem zLp (a:m.Tab nr)(s:Nat){f:Nat->Int}(b:∀i,i<64->m.Inr (f i))(j:Nat)(d:j<=64):(m.fillTo s f j).Tab nr:=by
 induction j with
 |zero=>exact a
 |succ j c=>
  rw[Mk.fillTo];exact zLU (c (by omega)) _ _ ((b j (by omega)).grow (by rw[zCb];omega))
theorem zIO (a:m.Tab nr)(e:0<=nr){f:Nat->Int}(c:∀i,i<64->m.Inr (f i)):(m.withM most f).Tab nr/\(m.withM most f).Inr (m.withN most f:Int):=by
 have g:=a.one;unfold Mk.withM Mk.withN;split
 ·exact⟨a,by unfold Mk.Inr;omega⟩
 split
 ·exact⟨a,by unfold Mk.Inr;omega⟩
 have b:(m.add most (-1)).Tab nr:=zMg a ⟨by omega,by omega⟩;split
 ·exact⟨b,zIK a (-1)⟩
 ·exact⟨zLp b _ (λi d=>(c i d).grow (zEV m most (-1))) 64 lQ,(zIK a (-1)).grow (by rw[zCb];omega)⟩
end
def zGM (nr:Int)(sub:Mk->Nat->Int×Mk):Prop:=∀m c,m.Tab nr->(sub m c).2.Tab nr/\(sub m c).2.Inr (sub m c).1
theorem zOt (most:Nat)(nr:Int)(g:0<=nr)(c:Nat):∀(m:Mk) (to:Int),m.Tab nr->m.Inr to->(Mk.even most c m to).2.Tab nr/\(Mk.even most c m to).2.Inr (Mk.even most c m to).1:=by
 induction c with
 |zero=>exact λm to d e=>⟨d,e⟩
 |succ c i=>
  intro m to d e;obtain⟨a,b⟩:=zIO (most:=most) d g (f:=λ_=>to) λ_ _=>e;exact i (m.withM most λ_=>to) ((m.withN most λ_=>to:Nat):Int) a b
theorem zLW {m:Mk}{nr:Int}(a:m.Tab nr)(i:Nat):m.Inr (m.of.getD i 0):=by
 rw[lW];by_cases b:i<m.of.length
 ·rw[lV b]
  exact a.of _ (List.getElem_mem _)
 ·rw[List.getElem?_eq_none (by omega)]
  have:=a.one;exact⟨Int.le_refl _,by show(0:Int)<_;omega⟩
theorem zOX {nr:Int}{e:Mk->Nat->Int×Mk}(k:zGM nr e)(g:Grows e)(step low:Nat){m:Mk}(f:m.Tab nr)(j:Nat):(qQ e step low m j).2.Tab nr/\∀i,(qQ e step low m j).2.Inr ((qQ e step low m j).1 i):=by
 induction j with
 |zero=>
  have:=f.one;exact⟨f,λi=>⟨Int.le_refl _,by show(0:Int)<_;show(0:Int)<(m.next.length:Int);omega⟩⟩
 |succ j l=>
  obtain⟨a,b⟩:=l;have p:=a.one;unfold qQ;split
  ·refine⟨a,λi=>?_⟩
   show Mk.Inr _ (if i=j then 0 else _);split
   ·exact⟨Int.le_refl _,by show(0:Int)<((qQ e step low m j).2.next.length:Int);omega⟩
   ·exact b i
  ·obtain⟨c,o⟩:=k (qQ e step low m j).2 (low+j*step) a
   refine⟨c,λi=>?_⟩;show Mk.Inr _ (if i=j then _ else _);split
   ·exact o
   ·exact(b i).grow (g _ _)
theorem zFb (k:Kd)(a:Ar)(most kind cnt step:Nat){nr:Int}(f:0<=nr){d:Mk->Nat->Int×Mk}(j:zGM nr d)(g:Grows d):zGM nr (zA1 k a most kind cnt step d):=λm low e=>by
 unfold zA1;split
 ·exact zOt most nr f cnt m _ e (by unfold Mk.behind;exact zLW e _)
 ·obtain⟨b,c⟩:=zOX j g step low e 64
  exact zIO b f λi _=>c i
theorem zDE (k:Kd)(a:Ar)(most kind:Nat){nr:Int}(b:0<=nr)(l:Nat):zGM nr (yX k a most kind l):=by
 induction l with
 |zero=>exact zFb k a most kind 1 1 b (λm c d=>⟨d,by unfold Mk.behind;exact zLW d _⟩) λm c=>lQ
 |succ l e=>exact zFb k a most kind (l+2) (jA (l+2)) b e (zA0 k a most kind l)
theorem zDb {nr:Int}{c:Mk->Nat->Int×Mk}(e:zGM nr c)(s d:Nat){m:Mk}(f:m.Tab nr)(j:Nat):(vW c s d m j).Tab nr:=by
 induction j with
 |zero=>exact f
 |succ j g=>
  obtain⟨a,b⟩:=e (vW c s d m j) (d+j) g;unfold vW;exact zLU a _ _ b
theorem zNc (k:Kd)(a:Ar)(most kind s:Nat){nr:Int}(d:0<=nr){m:Mk}(b:m.Tab nr):(zCm k a most kind s m).Tab nr:=by
 unfold zCm;refine zDb (λm c b=>?_) _ _ ?_ _
 ·unfold zDS;exact zDE k a most kind d 2 m _ b
 unfold zEe;refine zDb (λm c b=>?_) _ _ ?_ _
 ·unfold zDT;exact zDE k a most kind d 1 m _ b
 unfold zEf;refine zDb (λm c b=>?_) _ _ ?_ _
 ·unfold zDU;exact zDE k a most kind d 0 m _ b
 unfold zEg;exact zDb (λm c b=>⟨b,by unfold zFj Mk.behind;exact zLW b _⟩) _ _ b _
theorem zMi (k:Kd)(most:Nat)(o:1<=most){nr:Int}(p:0<=nr)(f:∀r∈k.rules,-1<=r/\r<nr)(j:Nat)(q:j<=k.rules.length):(xK k most j).Tab nr:=by
 induction j with
 |zero=>
  have e:xK k most 0=⟨[zeros],[-1],[],false⟩:=by
   show Mk.blank.add most (-1)=_;unfold Mk.add Mk.blank;rw[if_neg (by show¬most<=0;omega)];rfl
  rw[e];refine⟨lQ,λrow h=>?_,λr f=>?_,λx c=>by cases c⟩
  ·rw[kY.1 h]
   exact⟨by unfold zeros;exact List.length_replicate,λx c=>by rw[zIM x c];exact⟨Int.le_refl _,by show(0:Int)<1;omega⟩⟩
  ·rw[kY.1 f];omega
 |succ j a=>
  have a:=a (by omega);have s:=a.one;unfold xK;split
  ·refine⟨a.one,a.wide,a.rules,λx c=>?_⟩
   have g:=c;rcases kU.1 g with b|b
   ·exact a.of x b
   ·rw[kY.1 b];exact⟨Int.le_refl _,by show(0:Int)<((xK k most j).next.length:Int);omega⟩
  ·have i:-1<=k.rules.getD j 0/\k.rules.getD j 0<nr:=by
    rw[lW,lV (by omega:j<k.rules.length)];exact f _ (List.getElem_mem _)
   have d:((xK k most j).add most (k.rules.getD j 0)).Tab nr:=zMg a i;have l:((xK k most j).add most (k.rules.getD j 0)).Inr ((xK k most j).addN most:Int):=zIK a _;refine⟨d.one,d.wide,d.rules,λx c=>?_⟩;have g:=c;rcases kU.1 g with b|b
   ·rw[<-zDJ (xK k most j) most (k.rules.getD j 0)] at b
    exact d.of x b
   ·rw[kY.1 b];exact l
theorem zN9 (k:Kd)(a:Ar)(most:Nat)(d:1<=most){nr:Int}(b:0<=nr)(e:∀r∈k.rules,-1<=r/\r<nr)(f:k.rules.length=k.rows.length)(j:Nat):(jC k a most j).Tab nr:=by
 induction j with
 |zero=>exact zMi k most d b e k.rows.length (by omega)
 |succ j c=>
  unfold jC;split
  ·exact zNc k a most _ _ b c
  ·exact c
theorem zHs (k:Kd)(a:Ar)(most:Nat){nr:Int}(c:0<=nr)(d:∀r∈k.rules,-1<=r/\r<nr)(e:k.rules.length=k.rows.length)(f:(yP k a most).full=false):(yP k a most).Tab nr/\(yP k a most).Fit most:=by
 have g:=(zJQ k a most k.rows.length f).1.one;have b:=(zEG k a most k.rows.length).1;have h:=b.few;exact⟨zN9 k a most (by omega) c d e _,b⟩
end
def RowsOk (len top:Nat)(rows:List (List Nat)):Prop:=∀row∈rows,row.length=len/\∀x∈row,x<top
theorem RowsOk.up {a top b:Nat}{rows:List (List Nat)}(c:RowsOk a top rows)(e:top<=b):RowsOk a b rows:=λrow d=>⟨(c row d).1,λx f=>lZ ((c row d).2 x f) e⟩
theorem RowsOk.snoc {a top:Nat}{rows:List (List Nat)}{row:List Nat}(c:RowsOk a top rows)(d:row.length=a/\∀x∈row,x<top):RowsOk a top (rows++[row]):=λr e=>by
 rcases kU.1 e with b|b
 ·exact c r b
 ·rw[kY.1 b];exact d
theorem zHi (s:Sq)(ahead:Nat->Nat)(ends most:Nat):∀f i g rows rules k j l,s.sortGo ahead ends most f i g rows rules=some (k,j,l)->1<=f->i+f=most+1->rows.length=i->rules.length=i->i<=g.found.length->RowsOk s.sets.length g.found.length rows->(∀r∈rules,-1<=r/\r<(s.rules.length:Int))->
  j.length=k.found.length/\l.length=j.length/\g.found.length<=k.found.length/\j.length<=most+1/\RowsOk s.sets.length k.found.length j/\∀r∈l,-1<=r/\r<(s.rules.length:Int)
 |0,_,_,_,_,_,_,_,_,z,_,_,_,_,_,_=>absurd z (by omega)
 |f+1,i,g,rows,rules,k,j,l,A,_,J,o,B,K,t,u=>by
  have m:(if i<g.found.length then(if g.found.length>most then none else s.sortGo ahead ends most f (i+1) (s.rowTo (zAY ahead (g.found.getD i 0)) g s.sets.length).2 (rows++[(s.rowTo (zAY ahead (g.found.getD i 0)) g s.sets.length).1]) (rules++[vV s.rules (g.found.getD i 0&&&ends)])) else some (g,rows,rules))=some (k,j,l):=A;by_cases v:i<g.found.length
  ·rw[if_pos v] at m
   by_cases w:g.found.length>most
   ·rw[if_pos w] at m;cases m
   ·rw[if_neg w] at m
    obtain⟨p,-,-,y⟩:=s.rowTo_len (zAY ahead (g.found.getD i 0)) g s.sets.length;have C:=s.rowTo_lt (zAY ahead (g.found.getD i 0)) g s.sets.length;have D:=zKS s.rules (g.found.getD i 0&&&ends);obtain⟨a,b,c,E,F,G⟩:=zHi s ahead ends most f (i+1) _ _ _ k j l m (by omega) (by omega) (by rw[kX,o];rfl) (by rw[kX,B];rfl) (by omega) ((t.up y).snoc ⟨p,C⟩) (λr o=>by
     rcases kU.1 o with q|q
     ·exact u r q
     ·rw[kY.1 q];exact D)
    exact⟨a,b,lY y c,E,F,G⟩
  ·rw[if_neg v] at m
   have e:=hQ m;have p:g=k:=congrArg Prod.fst e;have H:rows=j:=congrArg (λx=>x.2.1) e;have I:rules=l:=congrArg (λx=>x.2.2) e;subst p H I;exact⟨by omega,by omega,lQ,by omega,t,u⟩
theorem zLR {n:Nt}{most:Nat}{k:Kd}(m:n.sort most=some k)(ok:n.Ok)(fit:n.Fits):k.Ok n.areas/\k.rows.length<=most+2/\∀r∈k.rules,-1<=r/\r<(n.rules.length:Int):=by
 obtain⟨p,C,Q,R⟩:=zB5 n.sets;have S:=fit.few;have J:n.areas.sets.length=n.letters.length:=by
  have:=Ar.setsN_ints p;show(yN n.sets).sets.length=(yN n.sets).setsN.length;rw[this,zO]
 unfold Nt.sort at m;cases t:n.sq.sortGo n.ahead n.ends most (most+1) 0 n.start.2 [] [] with
 |none=>rw[t] at m;cases m
 |some g=>
  obtain⟨D,rows,rules⟩:=g;rw[t] at m;have e:=hQ m;have e:=e;obtain⟨a,b,c,T,K,E⟩:=zHi n.sq n.ahead n.ends most (most+1) 0 n.start.2 [] [] D rows rules t (by omega) (by omega) rfl rfl lX (λr o=>by cases o) (λr o=>by cases o);have L:=(n.sq.rowTo_len n.first ⟨[],[]⟩ n.letters.length).1;have M:∀x∈n.start.1,x<n.start.2.found.length:=n.sq.rowTo_lt n.first ⟨[],[]⟩ n.letters.length
  have N:=zL1 (rows.map ints) rules (ints n.start.1);rw[kV] at N;have F:n.areas.Good 24:=⟨λx w=>by
   obtain⟨u,v⟩:=p.sets x w;have U:(2:Nat)^n.sets.length<=2^24:=kG (by omega) ok.len;exact⟨u,by omega⟩,p.letters,p.lens⟩
  have G:∀{l:List (List Nat)} {top:Nat},RowsOk n.letters.length top l->∀i q,i<l.length->q<n.areas.sets.length->(l.getD i []).getD q 0<top:=λ{l top} j i q f s=>by
   have y:l.getD i []∈l:=by
    rw[lW,lV f];exact List.getElem_mem _
   obtain⟨u,v⟩:=j _ y;have z:q<(l.getD i []).length:=by rw[u];omega
   have O:(l.getD i []).getD q 0=(l.getD i [])[q]:=by rw[lW,lV z];rfl
   rw[O];exact v _ (List.getElem_mem _)
  have H:∀{l:List (List Nat)} {top:Nat},RowsOk n.letters.length top l->∀i,i<l.length->(l.getD i []).length=n.areas.sets.length:=λ{l top} j i f=>by
   have y:l.getD i []∈l:=by
    rw[lW,lV f];exact List.getElem_mem _
   rw[(j _ y).1,J]
  have A:RowsOk n.letters.length D.found.length rows:=K;subst e;unfold Nt.ended;split
  ·rename_i s
   have I:(rows++[n.start.1]).length=rows.length+1:=by simp
   have j:RowsOk n.letters.length (rows.length+1) (rows++[n.start.1]):=(A.up (by omega)).snoc ⟨L,λx w=>by have:=M x w;omega⟩;refine⟨⟨C,by show(yN n.sets).lows.length<=_;omega,F,?_,λi f=>H j i f,λi q f s=>?_,?_⟩,?_,λr o=>?_⟩
   ·show(rules++[-1]).length=(rows++[n.start.1]).length
    rw[I,kX,b];rfl
   ·show _<(rows++[n.start.1]).length
    rw[I];exact G j i q f s
   ·show zAW _ _ _<(rows++[n.start.1]).length
    omega
   ·show(rows++[n.start.1]).length<=_
    omega
   ·have P:r∈rules++[-1]:=o
    rcases kU.1 P with B|B
    ·exact E r B
    ·rw[kY.1 B];omega
  ·rename_i s
   refine⟨⟨C,by show(yN n.sets).lows.length<=_;omega,F,b,λi f=>H A i f,λi q f z=>?_,?_⟩,by show rows.length<=_;omega,E⟩
   ·show _<rows.length
    rw[a];exact G A i q f z
   ·show zAW _ _ _<rows.length
    omega
def vU (l:List Cs):Prop:=∀c∈l,zNE c
theorem zEI (n:Nt)(a b:Nat):(n.link a b).sets=n.sets:=(zCC n a b n.follow.length).1
theorem zHK {l:List Tr}{j:Nat}(a:j<l.length):l.getD j Tr.none∈l:=by
 rw[lW,lV a];exact List.getElem_mem _
theorem zF0 {a:Lay}{P:Tr->Prop}(b:∀n t,P t->vU n.sets->vU (a n t).1.sets){parts:List Tr}(c:∀t∈parts,P t){n:Nt}(d:vU n.sets)(j:Nat)(f:j<=parts.length):vU (rowTo a n parts j).1.sets:=by
 induction j with
 |zero=>exact d
 |succ j e=>
  show vU ((a (rowTo a n parts j).1 (parts.getD j Tr.none)).1.link _ _).sets;rw[zEI];exact b _ _ (c _ (zHK (by omega))) (e (by omega))
theorem zJ5 {a:Lay}{P:Tr->Prop}(b:∀n t,P t->vU n.sets->vU (a n t).1.sets){parts:List Tr}(c:∀t∈parts,P t){n:Nt}(d:vU n.sets)(j:Nat)(f:j<=parts.length):vU (zAe a n parts j).1.sets:=by
 induction j with
 |zero=>exact d
 |succ j e=>exact b _ _ (c _ (zHK (by omega))) (e (by omega))
theorem zLa (t:Tr)(j:Nat)(q:Nt×Sn):(zAU t j q).sets=q.1.sets:=by
 unfold zAU;split
 ·exact zEI _ _ _
 ·rfl
theorem zIG {a:Lay}{P:Tr->Prop}(b:∀n t,P t->vU n.sets->vU (a n t).1.sets){t:Tr}(c:∀u∈t.parts,P u){n:Nt}(d:vU n.sets)(j:Nat):vU (yH a n t j).1.sets:=by
 induction j with
 |zero=>exact d
 |succ j e=>
  show vU ((zAU t j (rowTo a (yH a n t j).1 t.parts t.parts.length)).link _ _).sets;rw[zEI,zLa];exact zF0 b c e _ lQ
theorem zC6:∀a n t,TrOk a t->vU n.sets->vU (xQ a n t).1.sets
 |0,_,_,b,_=>False.elim b
 |a+1,n,t,b,e=>by
  unfold xQ;split
  ·intro c j
   have k:=j;rcases kU.1 k with i|i
   ·exact e c i
   ·rw[kY.1 i];exact b.1
  split
  ·exact zF0 (P:=TrOk a) (λn t f g=>zC6 a n t f g) b.2.1 e _ lQ
  split
  ·exact zJ5 (P:=TrOk a) (λn t f g=>zC6 a n t f g) b.2.1 e _ lQ
  split
  ·exact zIG (P:=TrOk a) (λn t f g=>zC6 a n t f g) b.2.1 e _
  ·exact e
theorem zLe (a:Nat)(rules:List Tr)(b:∀t∈rules,TrOk a t)(j:Nat)(i:j<=rules.length):vU (yA a rules j).sets:=by
 induction j with
 |zero=>exact λc f=>by cases f
 |succ j g=>
  have e:(yA a rules (j+1)).sets=(xQ a (yA a rules j) (rules.getD j Tr.none)).1.sets:=rfl;rw[e];exact zC6 a _ _ (b _ (zHK (by omega))) (g (by omega))
theorem zMK (l:List Cs)(a:Nat)(b:∀c∈l,c.ranges.length<=a):yR l<=l.length*a:=by
 induction l with
 |nil=>exact lX
 |cons c l d=>
  have f:=b c hU;have g:=d λx e=>b x (List.mem_cons_of_mem _ e);show c.ranges.length+yR l<=(l.length+1)*a;rw[Nat.add_mul];omega
theorem zNQ {n:Nt}(b:vU n.sets)(d:n.sets.length<=24):n.Fits:=by
 refine⟨?_,λc a r e=>?_⟩
 ·have f:=zMK n.sets 10000000 λc a=>(b c a).1
  have g:n.sets.length*10000000<=24*10000000:=Nat.mul_le_mul_right _ d;omega
 ·have:=(b c a).2 r e
  omega
theorem zNp (a:Nat)(l:List Tr)(e:∀t∈l,TrOk a t)(j:Nat)(k:j<=l.length)(f:yY l j<=24):xE (qE a) l j=yY l j:=by
 induction j with
 |zero=>rfl
 |succ j g=>
  have m:yY l j+(l.getD j Tr.none).chars<=24:=f;have b:=(e _ (zHK (show j<l.length by omega))).chars;show xE (qE a) l j+qE a (l.getD j Tr.none)=yY l j+(l.getD j Tr.none).chars;rw[g (by omega) (by omega)];have c:xY (qE a (l.getD j Tr.none))<=24:=by omega
  unfold xY at b c;split at b
  ·rename_i i
   rw[if_pos i] at c;omega
  ·omega
def zBJ (a b c d:Nat->Value)(n:Nat):List Value:=(List.range n).flatMap λi=>[a i,b i,c i,d i]
theorem zA9 (a b c e:Nat->Value)(n:Nat):zBJ a b c e (n+1)=zBJ a b c e n++[a n,b n,c n,e n]:=by
 unfold zBJ;rw[List.range_succ,List.flatMap_append];rfl
theorem zML (a b c e:Nat->Value)(n:Nat):(zBJ a b c e n).length=n*4:=by
 induction n with
 |zero=>rfl
 |succ n f=>rw[zA9,kX,f];show n*4+4=_;omega
theorem zMM (a b c f:Nat->Value)(n i:Nat)(l:i<n):(zBJ a b c f n)[i*4]? =some (a i)/\(zBJ a b c f n)[i*4+1]? =some (b i)/\(zBJ a b c f n)[i*4+2]? =some (c i)/\(zBJ a b c f n)[i*4+3]? =some (f i):=by
 induction n with
 |zero=>omega
 |succ n g=>
  rw[zA9];have j:=zML a b c f n;by_cases k:i<n
  ·rw[kW (by omega),kW (by omega),kW (by omega),kW (by omega)]
   exact g k
  ·have e:i=n:=by omega
   subst e;rw[hZ (by omega),hZ (by omega),hZ (by omega),hZ (by omega),j,Nat.sub_self,show i*4+1-i*4=1 by omega,show i*4+2-i*4=2 by omega,show i*4+3-i*4=3 by omega];exact⟨rfl,rfl,rfl,rfl⟩
theorem zJv (a b c f g j k l:Nat->Value)(n:Nat)(e:∀i,i<n->a i=g i/\b i=j i/\c i=k i/\f i=l i):zBJ a b c f n=zBJ g j k l n:=by
 induction n with
 |zero=>rfl
 |succ n m=>rw[zA9,zA9,m λi o=>e i (by omega),(e n (by omega)).1,(e n (by omega)).2.1,(e n (by omega)).2.2.1,(e n (by omega)).2.2.2]
def Sm.nil:Sm:=⟨[],[],0,[]⟩
structure Lm (w:World)(H:Nat)(v:Value)(ms:List Sm)(a b d:Nat->Value):Prop where
 own:w.ownsRow H 134 4 v ms.length (zBJ a b (λi=>int i64 (ms.getD i Sm.nil).start) d ms.length)
 next:∀i,i<ms.length->IntRows w (λg=>H<=g/\g<w.heap.size/\some g≠v.ownBlock) (a i) (ms.getD i Sm.nil).next
 rules:∀i,i<ms.length->Ints w (λg=>H<=g/\g<w.heap.size/\some g≠v.ownBlock) (b i) (ms.getD i Sm.nil).rules
 empty:∀i,i<ms.length->Bools w (λg=>H<=g/\g<w.heap.size/\some g≠v.ownBlock) (d i) (ms.getD i Sm.nil).empty
def zND (w:World)(H:Nat)(v:Value)(ms:List Sm):Prop:=∃a b d,Lm w H v ms a b d
theorem Lm.nil (w:World)(H:Nat):zND w H (slice none 0 0) []:=⟨λ_=>slice none 0 0,λ_=>slice none 0 0,λ_=>slice none 0 0,ownsRow_nil _ _ _ _,λi a=>absurd a (Nat.not_lt_zero _),λi a=>absurd a (Nat.not_lt_zero _),λi a=>absurd a (Nat.not_lt_zero _)⟩
theorem Lm.grown {w w2:World}{H:Nat}{v:Value}{ms:List Sm}{a b l:Nat->Value}(j:Lm w H v ms a b l)(k:Grew w w2):Lm w2 H v ms a b l:=by
 have e:∀g,(H<=g/\g<w.heap.size/\some g≠v.ownBlock)->w2.heap[g]? =w.heap[g]? :=λg c=>k.block g c.2.1 (kJ c.2.1);have m:∀g,(H<=g/\g<w.heap.size/\some g≠v.ownBlock)->(H<=g/\g<w2.heap.size/\some g≠v.ownBlock):=λg c=>⟨c.1,lZ c.2.1 k.size,c.2.2⟩
 exact⟨zK j.own k,λi f=>((j.next i f).keep e).mono m,λi f=>((j.rules i f).keep e).mono m,λi f=>((j.empty i f).keep e).mono m⟩
theorem Lm.modes {w:World}{H:Nat}{v:Value}{ms:List Sm}(c:zND w H v ms):ModesAt w (In w) v ms:=by
 obtain⟨a,b,m,c⟩:=c;obtain⟨ao,cap,o,q,r⟩:=zD3 c.own;refine⟨ao,cap,o,q,r,λi e=>?_⟩;obtain⟨g,x,p,-,k,-,-,f,-⟩:=vD c.own (by omega);rw[o] at p;injection p with s y z;obtain⟨t,u,q2,q3⟩:=zMM a b (λi=>iX (ms.getD i Sm.nil).start) m ms.length i e;have j:ms.getD i Sm.nil=ms[i]:=by rw[lW,lV e];rfl
 have l:∀g,(H<=g/\g<w.heap.size/\some g≠v.ownBlock)->In w g:=λg k=>k.2.1;refine⟨g,0,a i,b i,m i,s,k,?_,?_,?_,?_,?_,?_,?_⟩
 ·rw[Nat.zero_add];exact f _ _ t
 ·rw[Nat.zero_add];exact f _ _ u
 ·rw[Nat.zero_add,<-j];exact f _ _ q2
 ·rw[Nat.zero_add];exact f _ _ q3
 ·rw[<-j];exact(c.next i e).mono l
 ·rw[<-j];exact(c.rules i e).mono l
 ·rw[<-j];exact(c.empty i e).mono l
theorem Lm.app {w w2:World}{H:Nat}{v:Value}{ms:List Sm}{a b l:Nat->Value}{o:Obj}{g cap:Nat}{m:Sm}{x y p:Value}(r:Lm w H v ms a b l)(B:H<=w.heap.size)(C:IntRows w (λg=>H<=g/\g<w.heap.size/\some g≠v.ownBlock) x m.next)(D:Ints w (λg=>H<=g/\g<w.heap.size/\some g≠v.ownBlock) y m.rules)(E:Bools w (λg=>H<=g/\g<w.heap.size/\some g≠v.ownBlock) p m.empty)(F:w2.ownsRow H 134 4 (slice (qX g) (ms.length+1) cap) (ms.length+1) (zBJ a b (λi=>iX (ms.getD i Sm.nil).start) l ms.length++[x,y,iX m.start,p]))(u:(w.alloc o).grownBy w2 v.ownBlock)(G:v.ownBlock=some g\/w.heap.size<=g):
  zND w2 H (slice (qX g) (ms.length+1) cap) (ms++[m])/\Keep H H w w2:=by
 have I:w.heap.size<=w2.heap.size:=lY (by simp) u.size;have e:∀q,(H<=q/\q<w.heap.size/\some q≠v.ownBlock)->w2.heap[q]? =w.heap[q]? :=λq j=>(u.block q (by simp;omega) j.2.2).trans (lG _ _ _ j.2.1);have k:∀q,(H<=q/\q<w.heap.size/\some q≠v.ownBlock)->(H<=q/\q<w2.heap.size/\some q≠(Value.slice (qX g) (ms.length+1) cap).ownBlock):=λq j=>⟨j.1,lZ j.2.1 I,λJ=>by
  have K:q=g:=by simpa[Value.ownBlock] using J
  rcases G with A|A
  ·exact j.2.2 (by rw[A,K])
  ·have:=j.2.1;omega⟩
 have s:(ms++[m]).length=ms.length+1:=by simp
 have hold:∀i,i<ms.length->(ms++[m]).getD i Sm.nil=ms.getD i Sm.nil:=λi c=>by rw[lW,lW,kW c]
 have t:(ms++[m]).getD ms.length Sm.nil=m:=by simp
 refine⟨⟨λi=>if i=ms.length then x else a i,λi=>if i=ms.length then y else b i,λi=>if i=ms.length then p else l i,?_,λi c=>?_,λi c=>?_,λi c=>?_⟩,xD (xF r.own u B)⟩
 ·rw[s,zA9,if_pos rfl,if_pos rfl,if_pos rfl,t,zJv (λi=>if i=ms.length then x else a i) (λi=>if i=ms.length then y else b i) (λi=>iX ((ms++[m]).getD i Sm.nil).start) (λi=>if i=ms.length then p else l i) a b (λi=>iX (ms.getD i Sm.nil).start) l ms.length λi c=>⟨if_neg (by omega),if_neg (by omega),by rw[hold i c],if_neg (by omega)⟩]
  exact F
 ·rw[s] at c
  by_cases f:i=ms.length
  ·subst f;rw[t];simp only[if_pos];exact(C.keep e).mono k
  ·rw[hold i (by omega)];simp only[if_neg f];exact((r.next i (by omega)).keep e).mono k
 ·rw[s] at c
  by_cases f:i=ms.length
  ·subst f;rw[t];simp only[if_pos];exact(D.keep e).mono k
  ·rw[hold i (by omega)];simp only[if_neg f];exact((r.rules i (by omega)).keep e).mono k
 ·rw[s] at c
  by_cases f:i=ms.length
  ·subst f;rw[t];simp only[if_pos];exact(E.keep e).mono k
  ·rw[hold i (by omega)];simp only[if_neg f];exact((r.empty i (by omega)).keep e).mono k
theorem Sw.treesAt {w:World}{X:Nat->Prop}{S D:Nat}{sh:Sh}{f dv k l:Value}{rv:Nat->Value}{a:Nat->List Nat}{m:Nat->Nat}(b:Sw w X S D sh f dv k l rv a m){j:Nat}(c:j<sh.modes.length):zMh w D (rv j) (sh.mode j).2:=by
 obtain⟨ao,cap,d,o,p⟩:=zD3 (b.rOwn j c);refine⟨ao,cap,d,o,p,λi q=>?_⟩;obtain⟨g,v,e,-,r,-,-,s,-⟩:=vD (b.rOwn j c) (by omega);rw[d] at e;injection e with t x y;have z:(a j).length=(sh.mode j).2.length:=by
  have:=(b.rOwn j c).1;unfold yI at this;rw[kV] at this;omega
 have u:(yI (a j))[i]? =some (pointer (some ⟨(a j).getD i 0,0,none⟩)):=by
  unfold yI;rw[gQ,lV (by omega:i<(a j).length),lW,lV (by omega:i<(a j).length)];rfl
 refine⟨g,0,(a j).getD i 0,t,r,?_,(b.rTree j c i q).at⟩;rw[Nat.zero_add];exact s _ _ u
def zD6 (D:Nat)(rules:List Tr)(most:Nat):Option Sm:=
 match (yA D rules rules.length).sort most with
 |none=>none
 |some k=>if(yP k (yA D rules rules.length).areas most).full then none else some ⟨(yP k (yA D rules rules.length).areas most).next,(yP k (yA D rules rules.length).areas most).rules,(yP k (yA D rules rules.length).areas most).of.getD k.start 0,(yA D rules rules.length).empty⟩
def yO (D:Nat)(sh:Sh):Nat->Nat->Nat->Option (List Sm)
 |0,_,_=>some []
 |f+1,j,most=>match zD6 D (sh.mode j).2 most with
  |none=>none
  |some m=>(yO D sh f (j+1) (most-m.next.length)).map (m::·)
section
attribute [local go_sem ↓] Go.wp_at_zero Go.wp_at_succ
theorem zLi:(prog.info? 134).map (λi=>(i.zero,i.size,i.bytes))=some (some (agg #[slice none 0 0,slice none 0 0,iX 0,slice none 0 0]),4,80):=by kernel_rfl
def zOM (w:World)(G:Option (List Sm))(e:Ending)(w':World):Prop:=
 Grew w w'/\match G with
 |none=>e=returned (tuple #[slice none 0 0,bool false])
 |some ms=>∃v,e=returned (tuple #[v,bool true])/\ModesAt w' (In w') v ms
structure ModeFacts (D:Nat)(rules:List Tr):Prop where
 cnt:xE (qE D) rules rules.length<=24
 eight:rules.length<=8
 ok:(yA D rules rules.length).Ok
 fit:(yA D rules rules.length).Fits
theorem SpecIs.facts {w:World}{D:Nat}{g i k:Value}{sh:Sh}(a:SpecIs w D g i k sh){j:Nat}(b:j<sh.modes.length):ModeFacts D (sh.mode j).2:=by
 have c:=lY (a.few j b) a.ok.acts;have d:yY (sh.mode j).2 (sh.mode j).2.length<=24:=by
  have:=a.fit;unfold Sh.fitB at this;exact(of_decide_eq_true this) j b
 have e:xE (qE D) (sh.mode j).2 (sh.mode j).2.length<=24:=by rw[zNp D _ (a.ok.rules j b) _ lQ d];exact d
 have f:=zP1 D (sh.mode j).2 e c;exact⟨e,c,f,zNQ (zLe D _ (a.ok.rules j b) _ lQ) f.len⟩
theorem zJO (D:Nat)(sh:Sh)(j a:Nat)(ms:List Sm)(b:j<sh.modes.length):(yO D sh (sh.modes.length-j) j a).map (ms++·)=match zD6 D (sh.mode j).2 a with
  |none=>none
  |some m=>(yO D sh (sh.modes.length-(j+1)) (j+1) (a-m.next.length)).map ((ms++[m])++·):=by
 rw[show sh.modes.length-j=(sh.modes.length-(j+1))+1 by omega]
 conv=>lhs;unfold yO
 cases zD6 D (sh.mode j).2 a with
 |none=>rfl
 |some m=>
  show((yO D sh (sh.modes.length-(j+1)) (j+1) (a-m.next.length)).map (m::·)).map (ms++·)=_;rw[Option.map_map]
  congr 1
  funext l
  simp
theorem zDm (w:World)(D:Nat)(a5 a6 a7:Value)(sh:Sh)(ak:SpecIs w D a5 a6 a7 sh)(most:Nat)(bN:most<=200):
  Calls prog 44 #[agg #[a5,a6,a7],iX (most:Int)] w (zOM w (yO D sh sh.modes.length 0 most)):=by
 obtain⟨bO,bP,bQ,bR,bS⟩:=info_parts zLi;obtain⟨X,S,dv,cw,rv,cx,cy,aC⟩:=ak.sheet;obtain⟨aP,aQ,bT⟩:=zE aC.mOwn;obtain⟨a8,a9,bU⟩:=zE aC.aOwn;obtain⟨ba,bb,bc,-⟩:=ak.pushes;rw[qR] at bc;subst bT bU bc;have bd:=vl aC;have bV:Hid (∀j,j<sh.modes.length->ModeFacts D (sh.mode j).2):=λj be=>ak.facts be;have cz:=ak.ok.modes;obtain⟨w1,aR,aS,bW⟩:∃w1,w1=w.alloc (.cells #[slice aP sh.modes.length aQ,slice a8 sh.acts.length a9,slice ba sh.pushed.length bb] 79)/\w1.cell? ⟨w.heap.size,0,none⟩=some (slice aP sh.modes.length aQ)/\Hid (Grew w w1):=by
  have bX:=gX w (.cells #[slice aP sh.modes.length aQ,slice a8 sh.acts.length a9,slice ba sh.pushed.length bb] 79);refine⟨_,rfl,?_,kZ _ _ lQ⟩;unfold cell?;rw[bX];rfl
 have bY:Hid (w1.heap.size=w.heap.size+1):=by show _=_;rw[aR];simp
 obtain⟨R,aT⟩:∃R,R=yO D sh sh.modes.length 0 most:=⟨_,rfl⟩
 have bZ:Hid ((yO D sh (sh.modes.length-0) 0 most).map (([]:List Sm)++·)=R):=by
  show _=_;rw[aT,Nat.sub_zero];cases yO D sh sh.modes.length 0 most with
  |none=>rfl
  |some l=>rfl
 rw[<-aT];clear ak aC aT;go_in;apply wp_cut;intro cA bf;go_wp2;apply bf.out;clear bf;rw[<-aR];clear aR;go_wp2;clear aS;go_loopg [1,6,17] sh.modes.length (λq v1 b0 i wr=>∃(j a:Nat) (ms:List Sm),q=sh.modes.length-j/\j<=sh.modes.length/\v1=iX (a:Int)/\i=iX (j:Int)/\a<=200/\ms.length=j/\zND wr (w.heap.size+1) b0 ms/\Grew w wr/\w.heap.size+1<=wr.heap.size/\(yO D sh (sh.modes.length-j) j a).map (ms++·)=R)
 case atStart=>exact⟨0,most,[],rfl,lX,rfl,rfl,bN,rfl,Lm.nil _ _,bW.out,by rw[bY.out];exact lQ,bZ.out⟩
 case round=>
  obtain⟨j,a,ms,bg,be,rfl,rfl,cB,bh,b1,aD,cC,s⟩:=hrel;obtain⟨K,L,M,aU⟩:=b1;obtain⟨ao,u,bi⟩:=zE aU.own;rw[bh] at bi;subst bi;have T:Hid (gk=sh.modes.length-j/\Lm wr (w.heap.size+1) (slice ao j u) ms K L M/\Grew w wr/\ms.length=j):=⟨bg,aU,aD,bh⟩
  clear bg aU;by_cases aE:j<sh.modes.length
  ·have b3:(j:Int)<(sh.modes.length:Int):=by omega
   obtain⟨cD,aF,aG,rfl,bj,aS,b4⟩:=zDC bd.out aE aD;rw[zJO D sh j a ms aE] at s;have al:=bV.out j aE;have bk:Hid (∀f,Grew w f->Ca 60 #[slice aF (sh.mode j).2.length aG] f λe w'=>∃v,e=returned (pX v)/\NwIs f w' v (yA D (sh.mode j).2 (sh.mode j).2.length)):=λf b5=>by
    have:=zMZ f D (rv j) (sh.mode j).2 ((bd.out.grown b5).treesAt aE) al.eight al.cnt;rw[bj] at this;exact this
   have bl:zD6 D (sh.mode j).2 a=match (yA D (sh.mode j).2 (sh.mode j).2.length).sort a with
     |none=>none
     |some k=>if(yP k (yA D (sh.mode j).2 (sh.mode j).2.length).areas a).full then none else some ⟨(yP k (yA D (sh.mode j).2 (sh.mode j).2.length).areas a).next,(yP k (yA D (sh.mode j).2 (sh.mode j).2.length).areas a).rules,(yP k (yA D (sh.mode j).2 (sh.mode j).2.length).areas a).of.getD k.start 0,(yA D (sh.mode j).2 (sh.mode j).2.length).empty⟩:=rfl
   rw[bl] at s;clear bl;obtain⟨bm,bn⟩:(yA D (sh.mode j).2 (sh.mode j).2.length).Ok/\(yA D (sh.mode j).2 (sh.mode j).2.length).Fits:=⟨al.ok,al.fit⟩
   clear al bj;generalize b6:yA D (sh.mode j).2 (sh.mode j).2.length=n at *;clear b6;have bo:Hid (∀f w2 v,NwIs f w2 v n->Ca 61 #[pX v,iX (a:Int)] w2 (zCh w2 n a)):=λf w2 v aV=>by
    obtain⟨sv,b7,ai,b8,aq,aV⟩:=aV;exact zKN w2 v n sv b7 ai b8 aV.netAt bm bn a (by omega)
   obtain⟨f,bp,b9,N⟩:∃f,f=wr.alloc (.cells #[string (sh.mode j).1,slice aF (sh.mode j).2.length aG] 120)/\f.cell? ⟨wr.heap.size,1,none⟩=some (slice aF (sh.mode j).2.length aG)/\Hid (Grew w f/\Lm f (w.heap.size+1) (slice ao j u) ms K L M/\w.heap.size+1<=f.heap.size):=by
    have aW:=gX wr (.cells #[string (sh.mode j).1,slice aF (sh.mode j).2.length aG] 120);refine⟨_,rfl,?_,aD.trans (kZ _ _ (by omega)),T.out.2.1.grown (kZ _ _ lQ),by simp;omega⟩;unfold cell?;rw[aW];rfl
   clear aD;apply wp_cut;intro O d;go_wp2;apply d.out;clear d;apply wp_cut;intro O d;go_wp2;apply d.out;clear d;apply wp_cut;intro cb bq;refine wp_block ?_;apply wp_cut;intro O d;go_wp2;apply d.out;clear d;rw[<-bp];clear bp aS b4;apply wp_cut;intro O d;go_wp2_with (first|(go_at_call 60;refine(bk.out f N.out.1).mono ?_;rintro e w2 ⟨v,rfl,cc⟩))
   apply d.out;clear d bk;obtain⟨aH,aI,ai,aJ,aq,aj⟩:=cc;have H:Hid (Grew w w2/\Lm w2 (w.heap.size+1) (slice ao j u) ms K L M/\w.heap.size+1<=w2.heap.size/\Nw f w2 v n aH aI ai aJ aq):=⟨N.out.1.trans (aj.keep.lower N.out.1.size N.out.1.size),N.out.2.1.grown aj.keep,lY N.out.2.2 aj.keep.size,aj⟩
   have U:=bo.out f w2 v ⟨aH,aI,ai,aJ,aq,aj⟩;unfold zCh at U;clear aj b9 bo;cases au:n.sort a with
   |none=>
    rw[au] at U s;have aK:=vl U;have V:=vl s.symm;clear U s au;go_wp2_with (first|(go_at_call 61;refine aK.out.mono ?_;rintro e c ⟨rfl,W⟩))
    rw[V.out];refine gV (results_tmp2 rfl _ _ _) rfl ?_;exact⟨H.out.1.trans (W.lower H.out.1.size H.out.1.size),rfl⟩
   |some k=>
    obtain⟨aX,cd,br⟩:=zLR au bm bn;rw[au] at U s;have aK:=vl U;have bs:Hid (∀c kb,KdAt c kb n.areas k->Ca 62 #[pX kb,iX (a:Int)] c (zEp c k n.areas a)):=λc kb aL=>zHP c kb a (by omega) k n.areas aL aX (by omega);have aY:Hid ((yP k n.areas a).full=false->(yP k n.areas a).next.length<=a):=λcf=>(zHs k n.areas a (nr:=(n.rules.length:Int)) (by omega) br aX.lens cf).2.few;clear U au aX cd br;apply wp_cut;intro O d;go_wp2_with (first|(go_at_call 61;refine aK.out.mono ?_;rintro e c ⟨kb,rfl,aL,W⟩))
    apply d.out;clear d;have Y:=bs.out c kb aL;have C:Hid (Grew w c/\Lm c (w.heap.size+1) (slice ao j u) ms K L M/\w.heap.size+1<=c.heap.size/\Nw f c v n aH aI ai aJ aq):=⟨H.out.1.trans (W.lower H.out.1.size H.out.1.size),H.out.2.1.grown W,lY H.out.2.2.1 W.size,H.out.2.2.2.grown W⟩
    clear aL W bs aK H;unfold zEp at Y;cases aw:(yP k n.areas a).full with
    |true=>
     rw[aw] at Y s;have V:Hid (R=none):=s.symm;have aM:Hid (Ca 62 #[pX kb,iX (a:Int)] c λe w'=>e=returned (tuple #[agg #[slice none 0 0,slice none 0 0,iX 0],bool false])/\Grew c w'):=Y.mono λe w' ax=>by
      rcases ax.2 with ab|ab
      ·exact⟨ab.2,ax.1⟩
      ·exact absurd ab.1 (by decide)
     clear Y s aw aY;go_wp2_with (first|(go_at_call 62;refine aM.out.mono ?_;rintro e r ⟨rfl,P⟩))
     rw[V.out];refine gV (results_tmp2 rfl _ _ _) rfl ?_;have ac:=C.out.1.trans (P.lower C.out.1.size C.out.1.size);exact⟨ac.trans (kZ _ _ ac.size),rfl⟩
    |false=>
     rw[aw] at Y s;have cE:=aY.out aw;have aM:Hid (Ca 62 #[pX kb,iX (a:Int)] c λe w'=>∃ay az,e=returned (tuple #[agg #[ay,az,iX ((yP k n.areas a).of.getD k.start 0)],bool true])/\IntRows w' (λg=>c.heap.size<=g/\g<w'.heap.size) ay (yP k n.areas a).next/\Ints w' (λg=>c.heap.size<=g/\g<w'.heap.size) az (yP k n.areas a).rules/\Grew c w'):=Y.mono λe w' ax=>by
      rcases ax.2 with ab|⟨-,ay,az,ab,cg,ch⟩
      ·exact absurd ab.1 (by decide)
      ·exact⟨ay,az,ab,cg,ch,ax.1⟩
     have V:Hid ((yO D sh (sh.modes.length-(j+1)) (j+1) (a-(yP k n.areas a).next.length)).map ((ms++[⟨(yP k n.areas a).next,(yP k n.areas a).rules,(yP k n.areas a).of.getD k.start 0,n.empty⟩])++·)=R):=s;clear Y s aw aY;generalize (yP k n.areas a).next=o at *
     generalize (yP k n.areas a).rules=p at *;generalize (yP k n.areas a).of.getD k.start 0=ST at *;apply wp_cut;intro O d;go_wp2;apply d.out;clear d;apply wp_cut;intro O d;go_wp2_with (first|(go_at_call 62;refine aM.out.mono ?_;rintro e r ⟨ay,az,rfl,aZ,a0,P⟩;obtain⟨x,y,ci,-⟩:=id aZ;obtain⟨z,A,cj,-⟩:=id a0;subst ci cj))
     apply d.out;clear d;obtain⟨b,bt,t0,bu,bv,I⟩:∃b,b=r.alloc (.cells #[slice x o.length y,slice z p.length A,iX ST] 127)/\b.cell? ⟨r.heap.size,0,none⟩=some (slice x o.length y)/\b.cell? ⟨r.heap.size,1,none⟩=some (slice z p.length A)/\b.cell? ⟨r.heap.size,2,none⟩=some (iX ST)/\Hid (Grew w b/\Lm b (w.heap.size+1) (slice ao j u) ms K L M/\w.heap.size+1<=b.heap.size/\Nw f b v n aH aI ai aJ aq/\IntRows b (λg=>c.heap.size<=g/\g<b.heap.size) (slice x o.length y) o/\Ints b (λg=>c.heap.size<=g/\g<b.heap.size) (slice z p.length A) p):=by
      have aW:=gX r (.cells #[slice x o.length y,slice z p.length A,iX ST] 127);have aN:Grew r (r.alloc (.cells #[slice x o.length y,slice z p.length A,iX ST] 127)):=kZ _ _ lQ;have ac:=C.out.1.trans (P.lower C.out.1.size C.out.1.size);have e:∀g,(c.heap.size<=g/\g<r.heap.size)->(r.alloc (.cells #[slice x o.length y,slice z p.length A,iX ST] 127)).heap[g]? =r.heap[g]? :=λg ad=>aN.block g ad.2 (kJ ad.2);have bw:∀g,(c.heap.size<=g/\g<r.heap.size)->(c.heap.size<=g/\g<(r.alloc (.cells #[slice x o.length y,slice z p.length A,iX ST] 127)).heap.size):=λg ad=>⟨ad.1,by simp;omega⟩
      refine⟨_,rfl,?_,?_,?_,ac.trans (aN.lower ac.size ac.size),(C.out.2.1.grown P).grown aN,by have:=P.size;have:=C.out.2.2.1;simp;omega,(C.out.2.2.2.grown P).grown aN,(aZ.keep e).mono bw,(a0.keep e).mono bw⟩
      all_goals (unfold cell?;rw[aW];rfl)
     rw[<-bt];have ck:c.heap.size<=r.heap.size:=P.size;clear bt aZ a0 P aM;obtain⟨bx,bz⟩:∃bx,bx=r.heap.size:=⟨_,rfl⟩
     rw[<-bz] at t0 bu bv ⊢;clear bz ck;apply wp_cut;intro O d;go_wp2;apply d.out;clear d;apply wp_cut;intro O d;go_wp2;apply d.out;clear d;obtain⟨af,ag,cl⟩:=zE I.out.2.2.2.1.eOwn;subst cl;have co:b.cell? ⟨v,5,none⟩=some (slice af n.empty.length ag):=I.out.2.2.2.1.netAt.c5;obtain⟨aA,a1⟩:∃aA,aA=zBJ K L (λi=>iX (ms.getD i Sm.nil).start) M j:=⟨_,rfl⟩
     have bA:b.ownsRow (w.heap.size+1) 134 4 (slice ao j u) j aA:=by
      have:=I.out.2.1.own;rw[T.out.2.2.2,<-a1] at this;exact this
     have bB:w.heap.size+1<=b.heap.size:=I.out.2.2.1;have bC:Hid (∀J cap E,E.ownsRow (w.heap.size+1) 134 4 (slice (qX J) (j+1) cap) (j+1) (aA++[slice x o.length y,slice z p.length A,iX ST,slice af n.empty.length ag])->(b.drew.alloc (Obj.cells #[slice x o.length y,slice z p.length A,iX ST,slice af n.empty.length ag] 134)).grownBy E (Value.slice ao j u).ownBlock->((Value.slice ao j u).ownBlock=some J\/b.heap.size<=J)->zND E (w.heap.size+1) (slice (qX J) (j+1) cap) (ms++[⟨o,p,ST,n.empty⟩])/\Grew w E/\w.heap.size+1<=E.heap.size):=λJ cap E a2 ad aB=>by
      have a3:=T.out.2.2.2;have bD:Grew b b.drew:=Keep.drew _;have bE:Lm b.drew (w.heap.size+1) (slice ao j u) ms K L M:=I.out.2.1.grown bD;have bF:=C.out.2.1.own;have cq:=N.out.2.1.own;have cF:=C.out.2.2.1;have cG:=N.out.2.2;have bG:IntRows b.drew (λg=>w.heap.size+1<=g/\g<b.drew.heap.size/\some g≠(Value.slice ao j u).ownBlock) (slice x o.length y) o:=(I.out.2.2.2.2.1.keep (w':=b.drew) λ_ _=>rfl).mono λg ah=>⟨by omega,ah.2,λe=>by have:=(bF.lt g e.symm).2;omega⟩
      have bH:Ints b.drew (λg=>w.heap.size+1<=g/\g<b.drew.heap.size/\some g≠(Value.slice ao j u).ownBlock) (slice z p.length A) p:=(I.out.2.2.2.2.2.keep (w':=b.drew) λ_ _=>rfl).mono λg ah=>⟨by omega,ah.2,λe=>by have:=(bF.lt g e.symm).2;omega⟩
      have aO:OwnB b.drew f.heap.size (slice af n.empty.length ag) n.empty:=zK I.out.2.2.2.1.eOwn bD;have bI:Bools b.drew (λg=>w.heap.size+1<=g/\g<b.drew.heap.size/\some g≠(Value.slice ao j u).ownBlock) (slice af n.empty.length ag) n.empty:=zHp aO λg ah=>⟨by have:=(aO.lt g ah).1;omega,(aO.lt g ah).2,λe=>by have:=(cq.lt g e.symm).2;have:=(aO.lt g ah).1;omega⟩
      rw[<-a3] at a2 aB ⊢;rw[a1,<-a3] at a2;rw[<-a3] at ad bG bH bI bE;obtain⟨ct,q2⟩:=Lm.app (m:=⟨o,p,ST,n.empty⟩) bE (show w.heap.size+1<=b.heap.size from bB) bG bH bI a2 ad aB;exact⟨ct,I.out.1.trans ⟨q2.os,q2.output,q2.size,λk ac cH=>q2.block k (by omega) (by omega)⟩,lY bB q2.size⟩
     clear a1;go_region_law ((refine step_append_lies _ (by rfl) (.tmp 45) (.tmp 52) 82 (by rfl) (w.heap.size+1) 134 bO _ 4 80 underlying82 bP bQ bR bS rfl (by decide) (slice ao j u) j aA (by simp[Act.eval,Act.put]) ((bA.alloc _).drew) ⟨b.heap.size,0,none⟩ 1 1 [slice x o.length y,slice z p.length A,iX ST,slice af n.empty.length ag] (by simp[Act.eval,Act.put]) (by rfl) (news_of_block (cs:=#[slice x o.length y,slice z p.length A,iX ST,slice af n.empty.length ag]) (t:=134) (fr:=(0,0)) (gX b _)) (by simp[Value.oneCell']) (by decide) (by unfold maxLen;omega) (by omega) (by simp;omega) (b.heap.size+1) (by simp) ?_;intro J cap E bJ bK bL cu))
     all_goals
      have a4:Hid (zND E (w.heap.size+1) (slice (qX J) (j+1) cap) (ms++[⟨o,p,ST,n.empty⟩])/\Grew w E/\w.heap.size+1<=E.heap.size):=bC.out J cap E bJ bK (by rcases bL with aB|aB;exact .inl aB;right;show b.heap.size<=J;omega);clear bJ bK bL cu bC bA t0 bu bv co;show cb _ _;apply bq.out;clear bq;have bM:((a:Int)-(o.length:Int))=((a-o.length:Nat):Int):=by omega
      rw[bM];clear bM;go_wp2;go_roundg (sh.modes.length-(j+1))
      case measure=>rw[T.out.1];omega
      case rel=>exact⟨j+1,a-o.length,ms++[⟨o,p,ST,n.empty⟩],rfl,by omega,rfl,by go_num,by omega,by rw[kX,T.out.2.2.2];rfl,a4.out.1,a4.out.2.1,a4.out.2.2,V.out⟩
  ·have b3:(sh.modes.length:Int)<=(j:Int):=by omega
   have e:j=sh.modes.length:=by omega
   have V:Hid (R=some ms):=by
    show _=_;rw[<-s,e,Nat.sub_self];show some (ms++[])=_;rw[gG]
   clear s e;go_wp2;rw[V.out];refine gV (results_tmp2 rfl _ _ _) rfl ?_;exact⟨T.out.2.2.1,_,rfl,Lm.modes ⟨K,L,M,T.out.2.1⟩⟩
end
end Go.Proofs.YtbjcfkdnjaiclaaGreat
