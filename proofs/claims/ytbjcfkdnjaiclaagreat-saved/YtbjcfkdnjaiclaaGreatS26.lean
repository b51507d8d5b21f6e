import Derived.Deep.AppendLies
import Derived.Deep.DrawnRows
import Derived.Deep.RegionHeld3
import Derived.Deep.RegionLaw
import Derived.Deep.RegionWith
import Derived.KernelRfl
import Derived.Laws.Pointers
import Derived.OwnWalk
import Derived.StillTactics
import Derived.Test.YtbjcfkdnjaiclaaGreatProg
import Derived.WalkKit
import Derived.WalkLawsBesides
import Derived.WalkSpells
import Derived.Test.YtbjcfkdnjaiclaaGreatS0
import Derived.Test.YtbjcfkdnjaiclaaGreatS2
import Derived.Test.YtbjcfkdnjaiclaaGreatS5
import Derived.Test.YtbjcfkdnjaiclaaGreatS25
/- Parts of the proof. -/
set_option linter.unusedVariables false
set_option linter.unusedSimpArgs false
set_option maxHeartbeats 4000000
set_option maxRecDepth 100000
namespace Go.Proofs.YtbjcfkdnjaiclaaGreat
open Go.RowKit Go.Proofs.Tryz Go.World
open Go.Value (int slice bool pointer string agg tuple)
open Go.IntKind (i64)
open Go.Ending (returned)
theorem zIR (kinds:Nat)(e:1<=kinds)(a:Nat)(b:zF kinds a<=3000):2^a<=zF kinds a:=by
 induction a with
 |zero=>exact lQ
 |succ a d=>
  rw[zF] at b ⊢;split at b
  ·rename_i c
   rw[if_pos c];have:=d c;rw[Nat.pow_succ];exact Nat.mul_le_mul this (by omega)
  ·exact absurd b (by assumption)
theorem zNI (kinds:Nat)(b:1<=kinds)(a:Nat)(c:zF kinds a<=3000):a<12:=by
 have d:=zIR kinds b a c;by_cases e:a<12
 ·exact e
 ·have f:2^12<=2^a:=kG (by decide) (by omega)
  have g:(2:Nat)^12=4096:=by decide
  omega
structure Tb.Made0 (t:Tb):Prop where
 ok:t.OkN
 hold0:1<=t.hold
 hold:t.hold<=64
 nst:1<=t.nst
 count:1<=t.count
 mode1:1<=t.nmode
 mode2:t.nmode<=3
 rule1:1<=t.nrule
 rule2:t.nrule<=8
 act:∀i,i<t.nrule->t.act i<4
 start:∀i,i<t.nmode->t.start i<t.nst
 push:∀i,i<t.nrule->t.push i<t.nmode
 kind:∀c,c<256->t.kind c<t.count
theorem Tb.Made0.fine {t:Tb}(b:t.Made0)(a:Nat)(c:zF t.count a<=3000):(t.looking a).Fine:=by
 have d:=zIR t.count b.count a c;have e:=zNI t.count b.count a c;have f:1<=2^a:=Nat.one_le_two_pow;have g:=Nat.mul_le_mul c b.ok.nst;have j:1*1<=zF t.count a*t.nst:=Nat.mul_le_mul (by omega) b.nst;refine⟨⟨?_,b.hold0,b.hold,b.ok.count,?_,c,b.ok.nst,b.mode1,?_,b.start,b.push,b.kind,b.ok.next,b.ok.ends,λi _=>zCy _ _ _⟩,b.nst,b.count,?_,?_,b.rule1,b.rule2,b.mode2,b.act⟩
 ·show a<64
  omega
 ·show 1<=zF t.count a
  omega
 ·show zF t.count a*t.nst<=8*((zF t.count a*t.nst+7)/8)
  omega
 ·show 1<=(zF t.count a*t.nst+7)/8
  omega
 ·show(zF t.count a*t.nst+7)/8<=75000
  omega
theorem zKL {ms:List Sm}(h:ModesOk ms):1<=zN ms ms.length:=by
 have h1:=vI ms 1 ms.length h.one;have e:zN ms 1=(ms[0]'h.one).next.length:=by simp[zN,lW,lV h.one]
 have:=h.states1 0 h.one;omega
theorem zNw {ms:List Sm}{acts pushed:List Int}{hold:Nat}(a:ModesOk ms)(b:acts.length=zU ms ms.length)(d:1<=hold)(e:hold<=64)(g:∀i,i<acts.length->(acts.getD i 0).toNat<4)(j:∀i,i<acts.length->(pushed.getD i 0).toNat<ms.length)(f:Nat->Bool):({zS ms acts pushed hold with live:=f}:Tb).Made0:=by
 have ok:=(zDx ms acts pushed hold a b).withLive f;obtain⟨k,-,-⟩:=zCF ms a ms.length lQ;obtain⟨s1,-⟩:=zBd (zB ms 256).1 ms a ms.length lQ;refine⟨ok,d,e,zKL a,zDD ms 256 (by decide),a.one,a.three,?_,?_,g,λi l=>?_,j,λc m=>?_⟩
 ·show 1<=acts.length
  rw[b];exact a.rules1
 ·show acts.length<=8
  rw[b];exact a.rules8
 ·have o:i<ms.length:=l
  have:=k _ (zY (zZ (zB ms 256).1 ms ms.length).starts i 0 (by omega));show((zZ (zB ms 256).1 ms ms.length).starts.getD i 0).toNat<zN ms ms.length;omega
 ·have:=zC7 ms 256 c m
  show((zB ms 256).1.getD c 0).toNat<(zB ms 256).2;omega
theorem zM7 {ms:List Sm}{acts pushed:List Int}{hold:Nat}(d:ModesOk ms)(e:acts.length=zU ms ms.length)(f:1<=hold)(g:hold<=64)(j:∀i,i<acts.length->(acts.getD i 0).toNat<4)(k:∀i,i<acts.length->(pushed.getD i 0).toNat<ms.length)(n:Nat)(l:Bool):(jH ms acts pushed hold n l).Fine:=by
 have a:((zS ms acts pushed hold).first.itr n).Made0:=by rw[vN];exact zNw d e f g j k _
 have m:((zS ms acts pushed hold).first.itr n).count=(zB ms 256).2:=by rw[vF];rfl
 unfold jH;split
 ·rename_i c
  rw[Bool.and_eq_true] at c;have b:=c.2;unfold yG at b;rw[Bool.and_eq_true] at b;have o:({zAm ms acts pushed hold n with stream:=true}:Tb).Made0:=⟨⟨a.ok.1,a.ok.2,a.ok.3,a.ok.4⟩,a.2,a.3,a.4,a.5,a.6,a.7,a.8,a.9,a.10,a.11,a.12,a.13⟩
  exact o.fine _ (by show zF ((zS ms acts pushed hold).first.itr n).count _<=3000;rw[m];exact of_decide_eq_true b.2)
 ·exact a.fine 0 (by rw[zCp];decide)
theorem zJa (t:Tb)(s:Nat)(a:(t.spreadTo s).2=false):(t.spreadTo s).1=t:=by
 induction s with
 |zero=>rfl
 |succ s b=>
  rw[Tb.spreadTo] at a ⊢;split at a
  ·cases a
  ·rename_i c
   rw[if_neg c];exact b a
theorem zHv (t:Tb)(n:Nat)(a:((t.itr n).spreadTo t.nst).2=false)(k:Nat):t.itr (n+k)=t.itr n:=by
 induction k with
 |zero=>rfl
 |succ k b=>
  show((t.itr (n+k)).spreadTo t.nst).1=t.itr n;rw[b];exact zJa _ _ a
theorem zPf (t:Tb)(n m:Nat)(a:((t.itr n).spreadTo t.nst).2=false)(b:((t.itr m).spreadTo t.nst).2=false):t.itr n=t.itr m:=by
 rcases Nat.le_total n m with c|c
 ·have:=zHv t n a (m-n)
  rw[show n+(m-n)=m by omega] at this;exact this.symm
 ·have:=zHv t m b (n-m)
  rw[show m+(n-m)=n by omega] at this;exact this
theorem zOn (ms:List Sm)(acts pushed:List Int)(hold:Nat)(a:Bool)(n m:Nat)(b:(((zS ms acts pushed hold).first.itr n).spreadTo (zN ms ms.length)).2=false)(c:(((zS ms acts pushed hold).first.itr m).spreadTo (zN ms ms.length)).2=false):jH ms acts pushed hold n a=jH ms acts pushed hold m a:=by
 have:=zPf (zS ms acts pushed hold).first n m b c
 unfold jH zAm;rw[this]
theorem zGf (D:Nat)(sh:Sh):∀f j a ms,yO D sh f j a=some ms->ms.length=f
 |0,_,_,ms,b=>by have e:=hQ b;subst e;rfl
 |f+1,j,a,ms,b=>by
  have c:(match zD6 D (sh.mode j).2 a with|none=>none|some m=>(yO D sh f (j+1) (a-m.next.length)).map (m::·))=some ms:=b;split at c
  ·cases c
  ·obtain⟨l,d,g⟩:=Option.map_eq_some_iff.1 c
   subst g;exact congrArg (·+1) (zGf D sh f _ _ l d)
theorem zM5 {s:ByteArray}{c g:Int}{ms:List Sm}{sh:Sh}(b:zBm s c g=.inl (ms,sh)):(∀i,i<(ints sh.acts).length->((ints sh.acts).getD i 0).toNat<4)/\(∀i,i<sh.pushed.length->((sh.pushesTo sh.pushed.length).getD i 0).toNat<ms.length)/\yZ c g=false:=by
 unfold zBm at b;split at b
 ·cases b
 rename_i m
 have o:yZ c g=false:=by cases e:yZ c g;rfl;exact absurd e m
 cases a:zAw s with
 |inr e=>rw[a] at b;cases b
 |inl j=>
  rw[a] at b;have k:(match yO (1+6*s.size) j j.modes.length 0 c.toNat with|none=>.inr (0,5)|some ms=>.inl (ms,j))=(.inl (ms,sh):(List Sm×Sh) ⊕ (Nat×Nat)):=b;split at k
  ·cases k
  rename_i v p
  cases k
  have q:=zGf _ _ _ _ _ _ p;have r:=zJc a;unfold zAw at a;split at a
  ·cases a
  split at a
  ·cases a
  split at a
  ·rename_i l
   rw[Bool.and_eq_true] at l;split at a
   ·have t:=Sum.inl.inj a
    rw[t] at l;refine⟨λi d=>?_,λi d=>?_,o⟩
    ·rw[zO] at d
     have:(ints sh.acts).getD i 0=((sh.acts[i]:Nat):Int):=by unfold ints;rw[lW,lV (by rw[kV];exact d),List.getElem_map];rfl
     rw[this];exact r.2 _ (List.getElem_mem d)
    ·have f:=l.2
     unfold Sh.haveB at f;have f:=(of_decide_eq_true f).1;have:(sh.pushesTo sh.pushed.length).getD i 0=sh.pushI (sh.push i):=by unfold Sh.pushesTo;rw[lW,lV (by rw[kV,List.length_range];exact d),List.getElem_map,List.getElem_range];rfl
     rw[this,q];unfold Sh.pushI;split
     ·exact f
     ·unfold Sh.modeI
      split
      ·rename_i u;exact u
      ·exact f
   ·cases a
  ·cases a
def zGb (c:Int)(n:Nat):Nat:=(if c<0 then -(c+1) else c).toNat%n
theorem zNX (c:Int)(n:Nat)(a:1<=n):zGb c n<n:=hY _ a
theorem zKX (w:World)(c:Int)(d:-9223372036854775808<=c)(f:c<=9223372036854775807)(n:Nat)(g:1<=n)(h:n<=1073741824):Calls prog 15 #[iX c,iX (n:Int)] w λe w'=>e=returned (iX (zGb c n:Nat))/\w'=w:=by
 by_cases b:c<0
 ·have a:Hid ((zGb c n:Int)=-((c+1).tmod n)):=by
   show _=_;unfold zGb;rw[if_pos b,<-Int.neg_tmod,Int.tmod_eq_emod_of_nonneg (by omega),Int.natCast_emod,Int.toNat_of_nonneg (by omega)]
  go_in;go_wp2;refine gV (results_tmp rfl _ _ _) rfl ?_;exact⟨by rw[a.out];rfl,rfl⟩
 ·have a:Hid ((zGb c n:Int)=c%n):=by
   show _=_;unfold zGb;rw[if_neg b,Int.natCast_emod,Int.toNat_of_nonneg (by omega)]
  go_in;go_wp2;refine gV (results_tmp rfl _ _ _) rfl ?_;exact⟨by rw[a.out];rfl,rfl⟩
def zAZ (s:ByteArray):Option (List Sm×Sh):=match zBm s 200 64 with
 | .inl x=>some x
 | .inr _=>none
theorem zM8 (s:ByteArray)(a:Int)(c:1<=a)(d:a<=64):zBm s 200 a=zBm s 200 64:=by
 have b:yZ 200 a=yZ 200 64:=by
  unfold yZ;rw[gU (show¬a<1 by omega),gU (show¬64<a by omega)];rfl
 unfold zBm;rw[b]
structure LexIn (w:World)(B L:Nat)(x:List Sm×Sh)(hold:Nat)(fo:Bool)(t:Tb):Prop where
 fine:t.Fine
 made:∃n,t=jH x.1 (ints x.2.acts) (x.2.pushesTo x.2.pushed.length) hold n fo/\(((zS x.1 (ints x.2.acts) (x.2.pushesTo x.2.pushed.length) hold).first.itr n).spreadTo (zN x.1 x.1.length)).2=false
 modes:ModesOk x.1
 from_:B<=L
 at_:∃S p,LexAt w S L p t/\∀k,S k->B<=k
theorem LexIn.keep {w w':World}{d f:Nat}{x:List Sm×Sh}{hold:Nat}{g:Bool}{t:Tb}(a:LexIn w d f x hold g t)(e:∀k,d<=k->k<w.heap.size->w'.heap[k]? =w.heap[k]?)(i:w.heap.size<=w'.heap.size):LexIn w' d f x hold g t:=by
 obtain⟨S,p,b,j⟩:=a.at_;exact⟨a.fine,a.made,a.modes,a.from_,S,p,⟨(gZ (e f a.from_ b.lt)).trans b.cell,lZ b.lt i,b.tab.keep λk c=>e k (j k c) (b.safe k c),λk c=>lZ (b.safe k c) i⟩,j⟩
theorem LexIn.grown {w w':World}{a b:Nat}{x:List Sm×Sh}{hold:Nat}{c:Bool}{t:Tb}(d:LexIn w a b x hold c t)(e:Grew w w'):LexIn w' a b x hold c t:=d.keep (λk _ f=>e.block k f (by omega)) e.size
theorem LexIn.less {w:World}{b C c:Nat}{x:List Sm×Sh}{hold:Nat}{d:Bool}{t:Tb}(a:LexIn w b c x hold d t)(e:C<=b):LexIn w C c x hold d t:=by
 obtain⟨S,p,f,g⟩:=a.at_;exact⟨a.fine,a.made,a.modes,lY e a.from_,S,p,f,λk i=>lY e (g k i)⟩
theorem LexIn.of {w w':World}{s:ByteArray}{m:Int}{ms:List Sm}{sh:Sh}{hold:Nat}{d:Bool}(o:zBm s m hold=.inl (ms,sh)){e p H n:Nat}{c:Tc}(q:w'.cell? ⟨e,0,none⟩=some (pX p))(r:e<w'.heap.size)(t:w.heap.size<=e)(u:w.heap.size<=H)(v:w.heap.size<=p)(f:Mem w' H p c (jH ms (ints sh.acts) (sh.pushesTo sh.pushed.length) hold n d))(x:(((zS ms (ints sh.acts) (sh.pushesTo sh.pushed.length) hold).first.itr n).spreadTo (zN ms ms.length)).2=false)(g:ModesOk ms)(y:(ints sh.acts).length=zU ms ms.length)(z:(sh.pushesTo sh.pushed.length).length=(ints sh.acts).length):LexIn w' w.heap.size e (ms,sh) hold d (jH ms (ints sh.acts) (sh.pushesTo sh.pushed.length) hold n d):=by
 obtain⟨A,B,h⟩:=zM5 o;have j:1<=hold/\hold<=64:=by
  unfold yZ at h;simp only[Bool.or_eq_false_iff,decide_eq_false_iff_not] at h;omega
 have b:=zM7 g y j.1 j.2 A (λi l=>B i (by rw[<-z,qR] at l;exact l)) n d;refine⟨b,⟨n,rfl,x⟩,g,t,Mem.blocks w' H p,p,⟨q,r,f.tabAt b.ok.nmode b.rule1 b.nst b.count b.long1,λk a=>?_⟩,λk a=>?_⟩
 ·rcases a with rfl|a
  ·exact f.tp.lt
  ·exact a.2
 ·rcases a with rfl|a
  ·exact v
  ·exact lY u a.1
def zLQ (x:List Sm×Sh)(fo:Bool):Bool:=!fo&&yG (aheadTo x.1 x.1.length) (zB x.1 256).2
def zPI (w:World)(s:ByteArray)(h:Nat)(fo:Bool)(k:Int)(Q:Option Addr->Int->Bool->World->Prop):Prop:=
 Calls prog 30 #[string s,agg #[int i64 200,int i64 (h:Int),bool fo]] w λe w'=>Grew w w'/\∃x m0 m1 m2 s0 s1 s2 v0 v1 v2 AH ST LN,e=returned (tuple #[pointer x,agg #[slice m0 m1 m2,slice s0 s1 s2,slice v0 v1 v2,int i64 AH,bool ST,int i64 LN],int i64 k])/\Q x AH ST w'
theorem zPE (w:World):∃a,a=w.alloc (Obj.cells #[slice none 0 0,slice none 0 0,slice none 0 0,iX 0,bool false,iX 0] 30)/\Hid (∀b,Grew a b->b.heap[w.heap.size]? =some (Obj.cells #[slice none 0 0,slice none 0 0,slice none 0 0,iX 0,bool false,iX 0] 30))/\Hid (a.heap.size=w.heap.size+1/\Grew w a):=⟨_,rfl,λb c=>(c.block w.heap.size (by simp) (by simp)).trans (gX w _),by simp,kZ _ _ lQ⟩
theorem zPD {w a w1:World}{m0 s0 v0:Option Addr}{m1 m2 s1 s2 v1 v2:Nat}{AH LN:Int}{ST:Bool}(b:Grew a w1)(d:Hid (a.heap.size=w.heap.size+1/\Grew w a)):∃w2,w2=w1.alloc (.cells #[slice m0 m1 m2,slice s0 s1 s2,slice v0 v1 v2,iX AH,bool ST,iX LN] 30)/\w2.cell? ⟨w1.heap.size,0,none⟩=some (slice m0 m1 m2)/\w2.cell? ⟨w1.heap.size,1,none⟩=some (slice s0 s1 s2)/\w2.cell? ⟨w1.heap.size,2,none⟩=some (slice v0 v1 v2)/\w2.cell? ⟨w1.heap.size,3,none⟩=some (iX AH)/\w2.cell? ⟨w1.heap.size,4,none⟩=some (bool ST)/\w2.cell? ⟨w1.heap.size,5,none⟩=some (iX LN)/\Hid (Grew a w2/\Grew w1 w2/\w.heap.size<w1.heap.size):=by
 have e:=gX w1 (.cells #[slice m0 m1 m2,slice s0 s1 s2,slice v0 v1 v2,iX AH,bool ST,iX LN] 30);have c:Grew w1 (w1.alloc (.cells #[slice m0 m1 m2,slice s0 s1 s2,slice v0 v1 v2,iX AH,bool ST,iX LN] 30)):=kZ _ _ lQ;have f:=b.size;rw[d.out.1] at f;refine⟨_,rfl,?_,?_,?_,?_,?_,?_,b.trans (c.lower b.size b.size),c,by omega⟩
 all_goals (unfold cell?;rw[e];rfl)
theorem zPC {w w2 b:World}{m0 s0 v0:Option Addr}{m1 m2 s1 s2 v1 v2:Nat}{AH LN:Int}{ST:Bool}(c:b.heap[w.heap.size]? =some (.cells #[slice m0 m1 m2,slice s0 s1 s2,slice v0 v1 v2,iX AH,bool ST,iX LN] 30))(d:b.heap.size=w2.heap.size)(e:b.os=w2.os)(f:b.output=w2.output)(g:∀k,k≠w.heap.size->b.heap[k]? =w2.heap[k]?):∃a,a=b.drew/\a.cell? ⟨w.heap.size,0,none⟩=some (slice m0 m1 m2)/\a.cell? ⟨w.heap.size,1,none⟩=some (slice s0 s1 s2)/\a.cell? ⟨w.heap.size,2,none⟩=some (slice v0 v1 v2)/\a.cell? ⟨w.heap.size,3,none⟩=some (iX AH)/\a.cell? ⟨w.heap.size,4,none⟩=some (bool ST)/\a.cell? ⟨w.heap.size,5,none⟩=some (iX LN)/\Hid (a.os=w2.os/\a.output=w2.output/\a.heap.size=w2.heap.size/\(∀k,k≠w.heap.size->a.heap[k]? =w2.heap[k]?)):=by
 have h:b.drew.heap[w.heap.size]? =some (.cells #[slice m0 m1 m2,slice s0 s1 s2,slice v0 v1 v2,iX AH,bool ST,iX LN] 30):=c;refine⟨_,rfl,?_,?_,?_,?_,?_,?_,e,f,d,g⟩
 all_goals (unfold cell?;rw[h];rfl)
theorem zPZ (w:World)(s:ByteArray)(l:Nat)(m:Bool)(d:Option Addr->Int->Bool->World->Prop)(i:zPI (w.alloc (Obj.cells #[slice none 0 0,slice none 0 0,slice none 0 0,iX 0,bool false,iX 0] 30)) s l m 0 d)
  (o:∀x AH ST w1 w',d x AH ST w1->(∀k,w.heap.size<k->k<w1.heap.size->w'.heap[k]? =w1.heap[k]?)->w1.heap.size<=w'.heap.size->d x AH ST w'):
  Calls prog 16 #[string s,iX (l:Int),bool m] w λe w'=>Grew w w'/\∃x m0 m1 m2 s0 s1 s2 v0 v1 v2 AH ST LN,e=returned (tuple #[pointer x,agg #[slice m0 m1 m2,slice s0 s1 s2,slice v0 v1 v2,iX AH,bool ST,iX LN]])/\d x AH ST w':=by
 obtain⟨T,j,p,f⟩:=zPE w;rw[<-j] at i;have q:=vl i;clear i;go_in;apply wp_cut;intro g a;go_wp2;rw[<-j];apply a.out;clear a j;apply wp_cut;intro g a;go_wp2_with (first|(go_at_call 30;refine q.mono ?_;rintro e w1 ⟨F,x,m0,m1,m2,s0,s1,s2,v0,v1,v2,AH,ST,LN,rfl,r⟩))
 obtain⟨w2,t,U,V,W,X,Y,aa,b⟩:=zPD (m0:=m0) (s0:=s0) (v0:=v0) (m1:=m1) (m2:=m2) (s1:=s1) (s2:=s2) (v1:=v1) (v2:=v2) (AH:=AH) (LN:=LN) (ST:=ST) F f;rw[<-t];apply a.out;clear a t q;have G:=vl r;clear r;apply wp_cut;intro g a;go_wp2;apply a.out;clear a;obtain⟨ab,ac,ad,ae,af,ag,ah,ai,aj,ak,al,am⟩:=zAf (p w2 b.1);have an:Hid (w1.heap.size≠w.heap.size):=by have:=b.2.2;show _≠_;omega
 have H:=vl o;clear o;apply wp_cut;intro g a;go_region
 all_goals
  obtain⟨ao,u,y,z,A,B,C⟩:=zFw w2 w.heap.size (slice m0 m1 m2) (slice s0 s1 s2) (slice v0 v1 v2) (iX AH) (bool ST) (iX LN) (p w2 b.1);rw[<-u];obtain⟨I,D,J,K,L,M,N,O,c⟩:=zPC y z A B C;rw[<-D];clear u D y z A B C;show g _ _;apply a.out;clear a;go_wp2;refine gV (v:=tuple #[pointer x,agg #[slice m0 m1 m2,slice s0 s1 s2,slice v0 v1 v2,iX AH,bool ST,iX LN]]) (by simp[results,results16,go_sem,J,K,L,M,N,O]) rfl ?_;have P:=b.1.size;have R:=b.2.1.size;refine⟨f.2.trans ⟨c.1.trans b.1.os,c.2.1.trans b.1.output,by rw[c.out.2.2.1];exact P,λk S E=>(c.2.2.2 k (by omega)).trans (b.1.block k (by rw[f.out.1];omega) (by rw[f.out.1];omega))⟩,x,m0,m1,m2,s0,s1,s2,v0,v1,v2,AH,ST,LN,rfl,?_⟩;exact H _ _ _ w1 I G (λk S E=>(c.2.2.2 k (by omega)).trans (b.2.1.block k E (by omega))) (by rw[c.out.2.2.1];exact R)
theorem zQx (w:World)(s:ByteArray)(j:Nat)(l:Bool)(k:Nat)(T:(k:Int)≠0)(d:Option Addr->Int->Bool->World->Prop)(g:zPI (w.alloc (Obj.cells #[slice none 0 0,slice none 0 0,slice none 0 0,iX 0,bool false,iX 0] 30)) s j l (k:Int) (λ_ AH ST w'=>d none AH ST w'))
  (m:∀x AH ST w1 w',d x AH ST w1->(∀k,w.heap.size<k->k<w1.heap.size->w'.heap[k]? =w1.heap[k]?)->w1.heap.size<=w'.heap.size->d x AH ST w'):
  Calls prog 16 #[string s,iX (j:Int),bool l] w λe w'=>Grew w w'/\∃x m0 m1 m2 s0 s1 s2 v0 v1 v2 AH ST LN,e=returned (tuple #[pointer x,agg #[slice m0 m1 m2,slice s0 s1 s2,slice v0 v1 v2,iX AH,bool ST,iX LN]])/\d x AH ST w':=by
 obtain⟨U,i,o,f⟩:=zPE w;rw[<-i] at g;have p:=vl g;clear g;go_in;apply wp_cut;intro q b;go_wp2;rw[<-i];apply b.out;clear b i;apply wp_cut;intro q b;go_wp2_with (first|(go_at_call 30;refine p.mono ?_;rintro e w1 ⟨F,x,m0,m1,m2,s0,s1,s2,v0,v1,v2,AH,ST,LN,rfl,r⟩))
 obtain⟨w2,t,V,W,X,Y,aa,ab,a⟩:=zPD (m0:=m0) (s0:=s0) (v0:=v0) (m1:=m1) (m2:=m2) (s1:=s1) (s2:=s2) (v1:=v1) (v2:=v2) (AH:=AH) (LN:=LN) (ST:=ST) F f;rw[<-t];apply b.out;clear b t p;have G:=vl r;clear r;apply wp_cut;intro q b;obtain⟨ac,ad,ae,af,ag,ah,ai,aj,ak,al,am,an⟩:=zAf (o w2 a.1);have ao:Hid (w1.heap.size≠w.heap.size):=by have:=a.2.2;show _≠_;omega
 have H:=vl m;clear m;go_wp2;go_region
 all_goals
  obtain⟨ap,u,y,z,A,B,C⟩:=zFw w2 w.heap.size (slice m0 m1 m2) (slice s0 s1 s2) (slice v0 v1 v2) (iX AH) (bool ST) (iX LN) (o w2 a.1);rw[<-u];obtain⟨I,D,J,K,L,M,N,O,c⟩:=zPC y z A B C;rw[<-D];clear u D y z A B C;go_wp2;refine gV (v:=tuple #[pointer none,agg #[slice m0 m1 m2,slice s0 s1 s2,slice v0 v1 v2,iX AH,bool ST,iX LN]]) (by simp[results,results16,go_sem,J,K,L,M,N,O]) rfl ?_;have P:=a.1.size;have R:=a.2.1.size;refine⟨f.2.trans ⟨c.1.trans a.1.os,c.2.1.trans a.1.output,by rw[c.out.2.2.1];exact P,λk S E=>(c.2.2.2 k (by omega)).trans (a.1.block k (by rw[f.out.1];omega) (by rw[f.out.1];omega))⟩,none,m0,m1,m2,s0,s1,s2,v0,v1,v2,AH,ST,LN,rfl,?_⟩;exact H _ _ _ w1 I G (λk S E=>(c.2.2.2 k (by omega)).trans (a.2.1.block k E (by omega))) (by rw[c.out.2.2.1];exact R)
theorem zPo {s:ByteArray}{d f:Int}{n k:Nat}(a:zBm s d f=.inr (n,k)):k≠0:=by
 unfold zBm at a;split at a
 ·cases a;decide
 cases b:zAw s with
 |inr e=>rw[b] at a;have a:=Sum.inr.inj a;subst a;exact zFT b
 |inl sh=>
  rw[b] at a;have c:(match yO (1+6*s.size) sh sh.modes.length 0 d.toNat with|none=>.inr (0,5)|some ms=>.inl (ms,sh))=(.inr (n,k):(List Sm×Sh) ⊕ (Nat×Nat)):=a;split at c
  ·cases c;decide
  ·cases c
def OfQ (s:ByteArray)(h:Nat)(fo:Bool)(B:Nat)(x:Option Addr)(AH:Int)(ST:Bool)(w':World):Prop:=match zAZ s with
 |none=>x=none
 |some y=>∃L t,x=some ⟨L,0,none⟩/\AH=aheadTo y.1 y.1.length/\ST=zLQ y fo/\LexIn w' B L y h fo t
theorem OfQ.keep {s:ByteArray}{b:Nat}{c:Bool}{a C:Nat}{x:Option Addr}{AH:Int}{ST:Bool}{w w':World}(q:OfQ s b c a x AH ST w)(e:∀k,a<=k->k<w.heap.size->w'.heap[k]? =w.heap[k]?)(f:w.heap.size<=w'.heap.size)(g:C<=a):OfQ s b c C x AH ST w':=by
 unfold OfQ at q ⊢;cases d:zAZ s with
 |none=>rw[d] at q;exact q
 |some y=>
  rw[d] at q;obtain⟨i,t,j,l,m,o⟩:=q;exact⟨i,t,j,l,m,(o.keep e f).less g⟩
def zQB (w:World)(s:ByteArray)(h:Nat)(fo:Bool)(e:Ending)(w':World):Prop:=Grew w w'/\∃x m0 m1 m2 s0 s1 s2 v0 v1 v2 AH ST LN,e=returned (tuple #[pointer x,agg #[slice m0 m1 m2,slice s0 s1 s2,slice v0 v1 v2,int i64 AH,bool ST,int i64 LN]])/\OfQ s h fo w.heap.size x AH ST w'
theorem zJJ (w:World)(s:ByteArray)(i:s.size<=1048576)(a:Nat)(J:1<=a)(K:a<=64)(b:Bool):Calls prog 16 #[string s,iX (a:Int),bool b] w (zQB w s a b):=by
 have g:=zCH (w.alloc (Obj.cells #[slice none 0 0,slice none 0 0,slice none 0 0,iX 0,bool false,iX 0] 30)) s i 200 (a:Int) b;have j:=zM8 s (a:Int) (by omega) (by omega);have t:(w.alloc (Obj.cells #[slice none 0 0,slice none 0 0,slice none 0 0,iX 0,bool false,iX 0] 30)).heap.size=w.heap.size+1:=by simp
 have o:∀x AH ST w1 w',OfQ s a b (w.heap.size+1) x AH ST w1->(∀k,w.heap.size<k->k<w1.heap.size->w'.heap[k]? =w1.heap[k]?)->w1.heap.size<=w'.heap.size->OfQ s a b (w.heap.size+1) x AH ST w':=λx AH ST w1 w' q e i=>q.keep (λk M u=>e k (by omega) u) i lQ;cases f:zBm s 200 64 with
 |inr v=>
  obtain⟨n,k⟩:=v;rw[j,f] at g;have l:zAZ s=none:=by unfold zAZ;rw[f]
  ·have N:=zPo f
   refine(zQx w s a b k (by omega) (OfQ s a b (w.heap.size+1)) (g.mono ?_) o).mono ?_
   ·rintro e w' ⟨-,d,rfl⟩
    exact⟨d,none,none,0,0,none,0,0,none,0,0,0,false,(n:Int),rfl,by unfold OfQ;rw[l]⟩
   ·rintro e w' ⟨d,x,m0,m1,m2,s0,s1,s2,v0,v1,v2,AH,ST,LN,rfl,m⟩
    exact⟨d,x,m0,m1,m2,s0,s1,s2,v0,v1,v2,AH,ST,LN,rfl,m.keep (λ_ _ _=>rfl) lQ (by omega)⟩
 |inl y=>
  obtain⟨ms,sh⟩:=y;rw[j,f] at g;have l:zAZ s=some (ms,sh):=by unfold zAZ;rw[f]
  refine(zPZ w s a b (OfQ s a b (w.heap.size+1)) (g.mono ?_) o).mono ?_
  ·rintro e w' ⟨d,z,p,H,c,n,m0,m1,m2,s0,s1,s2,v0,v1,v2,rfl,c1,c2,A,B,C,D,E,F,G,I⟩
   refine⟨d,_,m0,m1,m2,s0,s1,s2,v0,v1,v2,_,_,_,rfl,?_⟩;unfold OfQ;rw[l];have r:=LexIn.of (w:=w.alloc (Obj.cells #[slice none 0 0,slice none 0 0,slice none 0 0,iX 0,bool false,iX 0] 30)) (j.trans f) c1 c2 A B C D E F G I;rw[t] at r;exact⟨z,_,rfl,rfl,rfl,r⟩
  ·rintro e w' ⟨d,x,m0,m1,m2,s0,s1,s2,v0,v1,v2,AH,ST,LN,rfl,m⟩
   exact⟨d,x,m0,m1,m2,s0,s1,s2,v0,v1,v2,AH,ST,LN,rfl,m.keep (λ_ _ _=>rfl) lQ (by omega)⟩
theorem zK4 (w:World)(s:ByteArray)(h:s.size<=1048576):Calls prog 29 #[string s] w λe w'=>e=returned (tuple #[bool (zAZ s).isNone,bool true])/\Grew w w':=by
 have b:=zCH w s h 200 64 false;cases d:zBm s 200 64 with
 |inr i=>
  obtain⟨n,k⟩:=i;rw[d] at b;have f:=vl b;have g:zAZ s=none:=by unfold zAZ;rw[d]
  rw[g];go_in;go_wp2_with (first|(go_at_call 30;refine f.mono ?_;rintro e w1 ⟨j,a,rfl⟩;have l:((k:Int) != 0)=true:=by simpa using j))
  refine gV (results_tmp2 rfl _ _ _) rfl ?_;exact⟨by simp only[l];rfl,a.trans (kZ _ _ a.size)⟩
 |inl y=>
  obtain⟨ms,sh⟩:=y;rw[d] at b;have f:=vl b;have g:zAZ s=some (ms,sh):=by unfold zAZ;rw[d]
  rw[g];go_in;go_wp2_with (first|(go_at_call 30;refine f.mono ?_;rintro e w1 ⟨a,m,p,H,c,n,m0,m1,m2,s0,s1,s2,v0,v1,v2,rfl,-⟩))
  refine gV (results_tmp2 rfl _ _ _) rfl ?_;exact⟨rfl,a.trans (kZ _ _ a.size)⟩
section
attribute [local go_sem ↓] Go.wp_at_zero Go.wp_at_succ
theorem zOh:(prog.info? 51).map (λi=>(i.zero,i.size,i.bytes))=some (some (agg #[iX 0,iX 0,iX 0,iX 0,iX 0,iX 0]),6,48):=by kernel_rfl
theorem zEQ {w w1:World}{o:Obj}{row:Option Nat}(a:(w.alloc o).drew.grownBy w1 row):w.grownBy w1 row:=
 ⟨a.os,a.tape,a.output,lY (by simp) a.size,λk b c=>(a.block k (by simp;omega) c).trans (lG w o k b)⟩
def jM (k r f t l c:Int):List Value:=[int i64 k,int i64 r,int i64 f,int i64 t,int i64 l,int i64 c]
theorem zNR (b:Nat)(kind rule to at_ c d:Int)(a:Value)(n f:Nat)(xs:List Value)(w:World)
  (i:w.cell? ⟨b,2,none⟩=some a)
  (B:w.cell? ⟨b,8,none⟩=some (iX at_)) (C:w.cell? ⟨b,9,none⟩=some (iX c)) (D:w.cell? ⟨b,10,none⟩=some (iX d))
  (l:w.frozen? ⟨b,2,none⟩=false)
  (m:w.ownsRow f 51 6 a n xs) (E:f<=w.heap.size) (o:n+1<=maxLen) (p:(n+1)*48<=140737488355328)
  (j:a.ownBlock≠some b):
  Calls prog 157 #[pX b,iX kind,iX rule,iX to] w λe w'=>
   e=returned (tuple #[])/\∃g cap w1,w1.ownsRow f 51 6 (slice (qX g) (n+1) cap) (n+1) (xs++jM kind rule at_ to c d)/\
    w.grownBy w1 a.ownBlock/\(a.ownBlock=some g\/g=w.heap.size+1)/\g<w1.heap.size/\w'=w1.setCell ⟨b,2,none⟩ (slice (qX g) (n+1) cap):=by
 obtain⟨q,r,s,u,v⟩:=info_parts zOh;have k:=World.block_lt_of_cell? w _ i;go_enter func157,ntmps157
 go_wp2_with fail;go_region_law ((refine step_append_lies _ (by rfl) (.tmp 12) (.tmp 32) 48 (by rfl) f 51 q _ 6 48 underlying48 r s u v rfl (by omega) a n xs (by simp[Act.eval,Act.put]) ((m.alloc _).drew) ⟨w.heap.size,0,none⟩ 1 1 (jM kind rule at_ to c d) (by simp[Act.eval,Act.put]) (by rfl) (news_of_block (cs:=#[iX kind,iX rule,iX at_,iX to,iX c,iX d]) (t:=51) (fr:=(0,0)) (gX w _)) (by simp[Value.oneCell',jM]) (by omega) o p (by simp;omega) (w.heap.size+1) (by simp) ?_;intro x cap w1 y h z A;have F:cX w1 b 2=some a:=(h.cell_far ⟨b,2,none⟩ (by simp;omega) (Ne.symm j)).trans ((gW _ _ _ k).trans i);have G:w1.frozen? ⟨b,2,none⟩=false:=(h.frozen_far ⟨b,2,none⟩ (by simp;omega) (Ne.symm j)).trans ((frozen?_alloc_past _ _ _ k).trans l)))
 all_goals (go_end0;exact⟨rfl,x,cap,w1,y,zEQ h,z,A,rfl⟩)
end
theorem zKl (b i:Nat)(w:World)(r:Rs){v0:Value}(a:zL w b r v0)(c:r.first<64)(d:i<64):
  Calls prog 151 #[pointer (some ⟨b,12,none⟩),iX i] w λe w'=>e=returned (int .u8 (r.byte ((r.first+i)%64)))/\w'.Alike w:=by
 have g:=a.get_first;have h:=a.get_byte ((r.first+i)%64) (hY _ (by decide));generalize r.first=f at *
 go_in;go_wp2;go_quiet (fail);go_wp2;go_ret;exact⟨rfl,rfl,rfl,rfl⟩
theorem zGA (b n:Nat)(w:World)(r:Rs){v0:Value}(a:zL w b r v0)(k:r.first<64)(l:n<=r.count)(m:r.count<=64):
  Calls prog 152 #[pointer (some ⟨b,12,none⟩),iX n] w λe w'=>e=returned (tuple #[])/\
   zL w' b {r with first:=(r.first+n)%64,count:=r.count-n} v0/\∀H,Keep H b w w':=by
 have o:=a.get_first;have p:=a.get_count;have q:=a.frozen 76;have s:=a.frozen 77;have d:=vl a;generalize g:r.first=f at *
 generalize h:r.count=c at *;have t:Hid (r.first=f/\r.count=c):=⟨g,h⟩
 go_in;go_wp2;go_end0;refine⟨rfl,?_,λH=>(Keep.set w _ _).trans (Keep.set _ _ _)⟩;have i:((f:Int)+(n:Int))%64=(((f+n)%64:Nat):Int):=by omega
 have j:((c:Int)-(n:Int))=((c-n:Nat):Int):=by omega
 rw[i,j];exact(d.set_first _).set_count _
theorem zHF (b v:Nat)(w:World)(r:Rs){v0:Value}(a:zL w b r v0)(k:r.first<64)(l:r.count<64):
  Calls prog 107 #[pointer (some ⟨b,12,none⟩),int .u8 v] w λe w'=>e=returned (tuple #[])/\
   zL w' b {r with byte:=λj=>if j=(r.first+r.count)%64 then v else r.byte j,count:=r.count+1} v0/\∀H,Keep H b w w':=by
 have m:=a.get_first;have o:=a.get_count;have p:=a.get_byte ((r.first+r.count)%64) (hY _ (by decide));have q:=a.frozen 77;have s:=a.frozen (12+(r.first+r.count)%64);have d:=vl a;generalize g:r.first=f at *
 generalize h:r.count=c at *;have i:(f+c)%64<64:=hY _ (by decide);have t:¬(12+(f+c)%64=77):=by omega
 go_in;go_wp2;go_region
 all_goals go_wp2
 all_goals go_end0
 all_goals
  refine⟨rfl,?_,λH=>((Keep.set w _ _).trans (Keep.set _ _ _)).trans (Keep.drew _)⟩;rw[show ((c:Int)+1)=((c+1:Nat):Int) by omega];subst g h;exact((d.set_byte _ v i).set_count _).drew
theorem zF8 (b m:Nat)(w:World)(r:Rs){v0:Value}(a:zL w b r v0)(f:r.depth<4):
  Calls prog 71 #[pX b,iX m] w λe w'=>e=returned (tuple #[])/\
   zL w' b {r with stack:=λj=>if j=r.depth then m else r.stack j,depth:=r.depth+1} v0/\∀H,Keep H b w w':=by
 have i:=a.get_depth;have k:=a.get_stack r.depth f;have l:=a.frozen 7;have o:=a.frozen (3+r.depth);have g:=vl a;generalize h:r.depth=c at *;have p:¬(3+c=7):=by omega
 go_in;go_wp2;go_region
 all_goals go_wp2
 all_goals go_end0
 all_goals
  refine⟨rfl,?_,λH=>((Keep.set w _ _).trans (Keep.set _ _ _)).trans (Keep.drew _)⟩;rw[show ((c:Int)+1)=((c+1:Nat):Int) by omega];subst h;exact((g.set_stack _ m f).set_depth _).drew
theorem zEm (b:Nat)(w:World)(r:Rs)(ao:Option Addr)(n cap:Nat)(a:zL w b r (slice ao n cap)):
  Calls prog 75 #[pX b] w λe w'=>e=returned (slice ao n cap)/\
   zL w' b r (slice none 0 0)/\∀H,Keep H b w w':=by
 have d:=a.get_told;have f:=a.frozen 2;have c:=vl a;go_in;go_wp2;go_ret;exact⟨rfl,c.set_told _,λH=>Keep.set w _ _⟩
def zAV (v l:Nat):Nat:=if v=10 then l+1 else l
def zCL (v c:Nat):Nat:=if v=10 then 1 else c+1
theorem zLH (a l c v:Nat)(w:World)(g:a<2147483648)(h:l<2147483648)(i:c<2147483648)(j:v<256):
  Calls prog 153 #[agg #[iX a,iX l,iX c],int .u8 v] w λe w'=>
   e=returned (agg #[iX ((a+1:Nat):Int),iX ((if v=10 then l+1 else l:Nat):Int),iX ((if v=10 then 1 else c+1:Nat):Int)])/\Below w.heap.size w w':=by
 by_cases b:v=10
 ·have d:((v:Int)==10)=true:=by rw[beq_iff_eq];omega
  have f:=vl b;go_in;go_wp2;refine gV (v:=agg #[iX ((a:Int)+1),iX ((l:Int)+1),iX 1]) (by simp[results,results153,go_sem]) rfl ⟨?_,?_⟩
  ·rfl
  ·exact((Below.refl _ _).alloc lQ _).alloc (by simp) _
 ·have d:((v:Int)==10)=false:=by rw[hX];omega
  have f:=vl b;go_in;go_wp2;refine gV (v:=agg #[iX ((a:Int)+1),iX (l:Int),iX ((c:Int)+1)]) (by simp[results,results153,go_sem]) rfl ⟨?_,?_⟩
  ·rfl
  ·exact((Below.refl _ _).alloc lQ _).alloc (by simp) _
theorem zEk (a l c v:Nat)(w:World)(b:a<2147483648)(d:l<2147483648)(f:c<2147483648)(g:v<256):
  Calls prog 153 #[agg #[iX a,iX l,iX c],int .u8 v] w λe w'=>
   e=returned (agg #[iX ((a+1:Nat):Int),iX (zAV v l:Nat),iX (zCL v c:Nat)])/\Below w.heap.size w w':=zLH a l c v w b d f g
theorem zAH (b:Nat)(w:World)(r:Rs){v0:Value}(a:zL w b r v0)(S:Nat->Prop)(t:Tb)(f:TabAt w S r.tp t)(l:1<=r.depth)(o:r.depth<=4)(g:r.stack (r.depth-1)<t.nmode):
  Calls prog 72 #[pX b] w λe w'=>e=returned (iX (t.start (r.stack (r.depth-1))))/\w'.Alike w:=by
 have q:=a.get_tp;have s:=a.get_depth;have h:=a.get_stack (r.depth-1) (by omega);obtain⟨_,u,i,j,v,y,rfl,z,A,k⟩:=f.c3;have B:cX w i (j+r.stack (r.depth-1))=some (iX (t.start (r.stack (r.depth-1)):Nat)):=k _ g;generalize r.tp=p at *;generalize t.start (r.stack (r.depth-1))=x at *;generalize r.stack (r.depth-1)=m at *;generalize r.depth=c at *;generalize t.nmode=n at *;have C:(m:Int)<(n:Int):=by omega
 have D:(1:Int)<=(c:Int):=by omega
 have E:(c:Int)<=4:=by omega
 have F:=h;go_in;go_wp2;go_quiet (fail);go_wp2;go_ret;exact⟨rfl,rfl,rfl,rfl⟩
section
structure Cx (H b:Nat)(S:Nat->Prop)(t:Tb)(w:World)(r:Rs)(v0:Value)(n:Nat)(xs:List Value):Prop where
 run:zL w b r v0
 own:w.ownsRow H 51 6 v0 n xs
 tab:TabAt w S r.tp t
 bH:b<H
 HH:H<=w.heap.size
 safe:∀k,S k->k<H/\k≠b
namespace Cx
variable {H b:Nat} {S:Nat->Prop} {t:Tb} {w w':World} {r r':Rs} {v0 v1:Value} {n n':Nat} {xs xs':List Value}
theorem below (a:Cx H b S t w r v0 n xs)(e:Below w.heap.size w w'):Cx H b S t w' r v0 n xs:=
 ⟨a.run.below e,a.own.kept ⟨e.os,e.tape,e.output,e.size,λk c _=>e.block k c⟩ (row:=none) (by cases d:v0.ownBlock <;> simp),a.tab.keep λk c=>e.block k (lZ (a.safe k c).1 a.HH),a.bH,lY a.HH e.size,a.safe⟩
theorem alloc (a:Cx H b S t w r v0 n xs)(o:Obj):Cx H b S t (w.alloc o) r v0 n xs:=a.below ((Below.refl _ _).alloc lQ _)
theorem alike (a:Cx H b S t w r v0 n xs)(e:w'.Alike w):Cx H b S t w' r v0 n xs:=
 ⟨a.run.alike e,by unfold World.ownsRow;rw[e.1];exact a.own,a.tab.keep λk _=>by rw[e.1],a.bH,by rw[e.1];exact a.HH,a.safe⟩
theorem next (a:Cx H b S t w r v0 n xs)(c:Keep H b w w')(e:zL w' b r' v1)(f:r'.tp=r.tp)(g:w'.ownsRow H 51 6 v1 n' xs'):Cx H b S t w' r' v1 n' xs':=
 ⟨e,g,by rw[f];exact a.tab.keep λk d=>c.block k (a.safe k d).1 (a.safe k d).2,a.bH,lY a.HH c.size,a.safe⟩
theorem stored (a:Cx H b S t w r v0 n xs)(i:Nat)(v:Value)(c:zL (w.setCell ⟨b,i,none⟩ v) b r' v0)(d:r'.tp=r.tp):Cx H b S t (w.setCell ⟨b,i,none⟩ v) r' v0 n xs:=
 a.next (Keep.set _ _ _) c d (ownsRow_setCell_below a.own a.bH _)
theorem kept (a:Cx H b S t w r v0 n xs)(c:∀H,Keep H b w w')(e:zL w' b r' v0)(f:r'.tp=r.tp):Cx H b S t w' r' v0 n xs:=
 a.next (c H) e f (by
  refine⟨a.own.1,a.own.2.imp id ?_⟩;rintro⟨g,cap,i,j,k,d,l⟩;have m:=(kQ.1 d).1;have o:=a.bH;exact⟨g,cap,i,j,k,((c w.heap.size).block g m (by omega)).trans d,l⟩)
end Cx
theorem zBp (b H:Nat)(S:Nat->Prop)(t:Tb)(kind rule to:Int)(w:World)(r:Rs)(v0:Value)(n:Nat)(xs:List Value)(c:Cx H b S t w r v0 n xs)(v:n<=4194304):
  Calls prog 157 #[pX b,iX kind,iX rule,iX to] w λe w'=>
   e=returned (tuple #[])/\∃ao cap,Cx H b S t w' r (slice ao (n+1) cap) (n+1) (xs++jM kind rule r.bAt to r.bLine r.bCol)/\Keep H b w w'/\
    ∀k,k<w.heap.size->k≠b->some k≠v0.ownBlock->w'.heap[k]? =w.heap[k]? :=by
 have a:=c.run;have h:=c.own;have m:=c.bH;have i:=c.HH;have j:=h.lt;have l:v0.ownBlock≠some b:=λe=>by have:=j b e;omega
 refine(zNR b kind rule to r.bAt r.bLine r.bCol v0 n H xs w a.get_told a.get_bAt a.get_bLine a.get_bCol (a.frozen 2) h i (by unfold maxLen;omega) (by omega) l).mono ?_;rintro e w' ⟨rfl,g,cap,w1,o,f,x,y,rfl⟩;have p:=a.of_block (f.block b a.lt (Ne.symm l));have d:Keep H b w (w1.setCell ⟨b,2,none⟩ (slice (qX g) (n+1) cap)):=(Keep.grown f i λk d=>(j k d).1).trans (Keep.set _ _ _);refine⟨rfl,some ⟨g,0,none⟩,cap,c.next d (p.set_told _) rfl (ownsRow_setCell_below o m _),d,λk q s u=>?_⟩;exact(lJ _ _ _ _ s).trans (f.block k q u)
theorem jD (b H:Nat)(S:Nat->Prop)(t:Tb)(kind:Int)(w:World)(r:Rs)(v0:Value)(n:Nat)(xs:List Value)(c:Cx H b S t w r v0 n xs)(f:n<=4194304):
  Calls prog 110 #[pX b,iX kind] w λe w'=>
   e=returned (tuple #[])/\∃ao cap,Cx H b S t w' {r with opn:=false} (slice ao (n+1) cap) (n+1) (xs++jM kind 0 r.bAt r.bAt r.bLine r.bCol)/\Keep H b w w':=by
 have j:=c.run.get_bAt;have g:=vl c;go_in;go_wp2_with fail;refine(zBp b H S t kind 0 r.bAt _ r v0 n xs g f).mono ?_;rintro e w1 ⟨rfl,ao,cap,a,h,_⟩;have c1:=a.run.get_opn;have k:=a.run.frozen 1;have d:=vl a;have i:=vl h;go_wp2;go_end0;exact⟨rfl,ao,cap,d.stored 1 _ (d.run.set_opn false) rfl,i.trans (Keep.set _ _ _)⟩
theorem zKB (b H:Nat)(S:Nat->Prop)(t:Tb)(w:World)(r:Rs)(v0:Value)(n:Nat)(xs:List Value)(a:Cx H b S t w r v0 n xs)(f:n<=4194304)
  (rule g h i:Nat) (j:rule<t.nrule) (k:t.act rule=2) (l:r.depth=4):
  Calls prog 156 #[pX b,iX rule,agg #[iX g,iX h,iX i]] w λe w'=>
   e=returned (tuple #[])/\∃ao cap,Cx H b S t w' {r with opn:=false} (slice ao (n+1) cap) (n+1) (xs++jM 4 0 r.bAt r.bAt r.bLine r.bCol)/\Keep H b w w':=by
 have y:=a.run.get_tp;have m:=a.run.get_depth;obtain⟨_,z,c,o,A,p,rfl,B,C,q⟩:=a.tab.c4;have s:cX w c (o+rule)=some (iX (t.act rule:Nat)):=q _ j;rw[k] at s;rw[l] at m;have D:(rule:Int)<(t.nrule:Int):=by omega
 have E:b<w.heap.size:=a.run.lt;have F:c<w.heap.size:=lZ (a.safe _ p).1 a.HH;have G:r.tp<w.heap.size:=lZ (a.safe _ a.tab.safe).1 a.HH;have d:=vl a;go_in;go_wp2_with fail;refine(jD b H S t 4 _ r v0 n xs (d.alloc _) f).mono ?_;rintro e w1 ⟨rfl,ao,cap,u,v⟩;have x:=vl u;go_wp2;refine gV (results_none rfl _ _ _) rfl ?_;exact⟨rfl,ao,cap,x,(kZ _ _ d.HH).trans v⟩
theorem zIZ (b H:Nat)(S:Nat->Prop)(t:Tb)(w:World)(r:Rs)(v0:Value)(n:Nat)(xs:List Value)(a:Cx H b S t w r v0 n xs)(f:n<=4194304)
  (rule g h i:Nat) (j:rule<t.nrule) (k:t.act rule=3) (l:r.depth=1):
  Calls prog 156 #[pX b,iX rule,agg #[iX g,iX h,iX i]] w λe w'=>
   e=returned (tuple #[])/\∃ao cap,Cx H b S t w' {r with opn:=false} (slice ao (n+1) cap) (n+1) (xs++jM 5 0 r.bAt r.bAt r.bLine r.bCol)/\Keep H b w w':=by
 have y:=a.run.get_tp;have m:=a.run.get_depth;obtain⟨_,z,c,o,A,p,rfl,B,C,q⟩:=a.tab.c4;have s:cX w c (o+rule)=some (iX (t.act rule:Nat)):=q _ j;rw[k] at s;rw[l] at m;have D:(rule:Int)<(t.nrule:Int):=by omega
 have E:b<w.heap.size:=a.run.lt;have F:c<w.heap.size:=lZ (a.safe _ p).1 a.HH;have G:r.tp<w.heap.size:=lZ (a.safe _ a.tab.safe).1 a.HH;have d:=vl a;go_in;go_wp2_with fail;refine(jD b H S t 5 _ r v0 n xs (d.alloc _) f).mono ?_;rintro e w1 ⟨rfl,ao,cap,u,v⟩;have x:=vl u;go_wp2;refine gV (results_none rfl _ _ _) rfl ?_;exact⟨rfl,ao,cap,x,(kZ _ _ d.HH).trans v⟩
theorem zKz (b H:Nat)(S:Nat->Prop)(t:Tb)(w:World)(r:Rs)(v0:Value)(n:Nat)(xs:List Value)(a:Cx H b S t w r v0 n xs)
  (rule c d f:Nat) (o:rule<t.nrule) (p:t.act rule=1) (q:1<=r.depth) (s:r.depth<=4) (u:r.stack (r.depth-1)<t.nmode):
  Calls prog 156 #[pX b,iX rule,agg #[iX c,iX d,iX f]] w λe w'=>
   e=returned (tuple #[])/\Cx H b S t w' {r with bAt:=c,bLine:=d,bCol:=f,state:=t.start (r.stack (r.depth-1))} v0 n xs/\Keep H b w w':=by
 have C:=a.run.get_tp;have D:=a.run.get_depth;obtain⟨_,E,i,v,F,x,rfl,G,I,y⟩:=a.tab.c4;have z:cX w i (v+rule)=some (iX (t.act rule:Nat)):=y _ o;rw[p] at z;have J:(rule:Int)<(t.nrule:Int):=by omega
 have K:b<w.heap.size:=a.run.lt;have L:i<w.heap.size:=lZ (a.safe _ x).1 a.HH;have M:r.tp<w.heap.size:=lZ (a.safe _ a.tab.safe).1 a.HH;have N:=(a).run.get_bAt;have O:=(a).run.get_bLine;have P:=(a).run.get_bCol;have Q:=(a).run.get_state;have R:=(a).run.frozen 8;have T:=(a).run.frozen 9;have U:=(a).run.frozen 10;have V:=(a).run.frozen 11;have j:=vl a;go_in;go_wp2_with fail;have c1:=j.stored 8 _ (j.run.set_bAt c) rfl;have c2:=c1.stored 9 _ (c1.run.set_bLine d) rfl;have k:=c2.stored 10 _ (c2.run.set_bCol f) rfl;have g:=k.alloc (.cells #[iX c,iX d,iX f] 97);have A:=(((Keep.set (H:=H) (b:=b) w 8 (iX c)).trans (Keep.set _ 9 (iX d))).trans (Keep.set _ 10 (iX f))).trans (kZ _ (.cells #[iX c,iX d,iX f] 97) k.HH);refine(zAH b _ _ g.run S t g.tab q s u).mono ?_;rintro e W ⟨rfl,l⟩;have h:=g.alike l;have B:=vl <| A.trans (Keep.alike l);have X:=h.run.get_state;have Y:=h.run.frozen 11;have m:=vl h;go_wp2;go_end0;exact⟨rfl,m.stored 11 _ (m.run.set_state _) rfl,B.trans (Keep.set _ _ _)⟩
theorem zKC (b H:Nat)(S:Nat->Prop)(t:Tb)(w:World)(r:Rs)(v0:Value)(n:Nat)(xs:List Value)(a:Cx H b S t w r v0 n xs)(q:n<=4194304)
  (rule c f g:Nat) (s:rule<t.nrule) (u:t.act rule=0) (v:1<=r.depth) (x:r.depth<=4) (y:r.stack (r.depth-1)<t.nmode):
  Calls prog 156 #[pX b,iX rule,agg #[iX c,iX f,iX g]] w λe w'=>
   e=returned (tuple #[])/\∃ao cap,Cx H b S t w' {r with bAt:=c,bLine:=f,bCol:=g,state:=t.start (r.stack (r.depth-1))} (slice ao (n+1) cap) (n+1) (xs++jM 1 rule r.bAt c r.bLine r.bCol)/\Keep H b w w':=by
 have K:=a.run.get_tp;have L:=a.run.get_depth;obtain⟨_,M,l,z,N,A,rfl,O,P,B⟩:=a.tab.c4;have C:cX w l (z+rule)=some (iX (t.act rule:Nat)):=B _ s;rw[u] at C;have Q:(rule:Int)<(t.nrule:Int):=by omega
 have R:b<w.heap.size:=a.run.lt;have T:l<w.heap.size:=lZ (a.safe _ A).1 a.HH;have U:r.tp<w.heap.size:=lZ (a.safe _ a.tab.safe).1 a.HH;have h:=vl a;go_in;go_wp2_with fail;have D:=h.alloc (.cells #[iX c,iX f,iX g] 97);refine(zBp b H S t 1 rule c _ r v0 n xs D q).mono ?_;rintro e w1 ⟨rfl,ao,cap,d,E,F⟩;have i:w1.heap[w.heap.size]? =some (.cells #[iX c,iX f,iX g] 97):=by
  rw[F w.heap.size (by simp) (by omega) (λe=>by have:=(h.out.own.lt _ e.symm).2;omega)];exact gX w _
 have V:cX w1 w.heap.size 0=some (iX c):=by simp[World.cell?,i]
 have W:cX w1 w.heap.size 1=some (iX f):=by simp[World.cell?,i]
 have X:cX w1 w.heap.size 2=some (iX g):=by simp[World.cell?,i]
 have Y:=d.run.get_bAt;have aa:=d.run.frozen 8;have ab:=d.run.get_bLine;have ac:=d.run.frozen 9;have ad:=d.run.get_bCol;have ae:=d.run.frozen 10;have af:=d.run.get_state;have ag:=d.run.frozen 11;have m:=vl d;have G:=vl <| (kZ w _ h.HH).trans E;go_wp2_with fail;have c1:=m.stored 8 _ (m.run.set_bAt c) rfl;have c2:=c1.stored 9 _ (c1.run.set_bLine f) rfl;have j:=c2.stored 10 _ (c2.run.set_bCol g) rfl;have I:=((G.trans (Keep.set w1 8 (iX c))).trans (Keep.set _ 9 (iX f))).trans (Keep.set _ 10 (iX g));refine(zAH b _ _ j.run S t j.tab v x y).mono ?_;rintro e ah ⟨rfl,o⟩;have k:=j.alike o;have J:=vl <| I.trans (Keep.alike o);have ai:=k.run.get_state;have aj:=k.run.frozen 11;have p:=vl k;go_wp2;go_end0;exact⟨rfl,ao,cap,p.stored 11 _ (p.run.set_state _) rfl,J.trans (Keep.set _ _ _)⟩
end
theorem zMp (b H:Nat)(S:Nat->Prop)(t:Tb)(w:World)(r:Rs)(v0:Value)(n:Nat)(xs:List Value)(c:Cx H b S t w r v0 n xs)(q:n<=4194304)
  (rule d f g:Nat) (s:rule<t.nrule) (u:t.act rule=3) (J:2<=r.depth) (K:r.depth<=4) (v:r.stack (r.depth-1-1)<t.nmode):
  Calls prog 156 #[pX b,iX rule,agg #[iX d,iX f,iX g]] w λe w'=>
   e=returned (tuple #[])/\∃ao cap,Cx H b S t w' {r with depth:=r.depth-1,bAt:=d,bLine:=f,bCol:=g,state:=t.start (r.stack (r.depth-1-1))} (slice ao (n+1) cap) (n+1) (xs++jM 1 rule r.bAt d r.bLine r.bCol)/\Keep H b w w':=by
 have L:=c.run.get_tp;have M:=c.run.get_depth;have N:((r.depth:Int)==1)=false:=by rw[hX];omega
 have O:(2:Int)<=(r.depth:Int):=by omega
 have P:(r.depth:Int)<=4:=by omega
 obtain⟨_,Q,l,x,R,y,rfl,T,U,z⟩:=c.tab.c4;have A:cX w l (x+rule)=some (iX (t.act rule:Nat)):=z _ s;rw[u] at A;have V:(rule:Int)<(t.nrule:Int):=by omega
 have W:b<w.heap.size:=c.run.lt;have X:l<w.heap.size:=lZ (c.safe _ y).1 c.HH;have Y:r.tp<w.heap.size:=lZ (c.safe _ c.tab.safe).1 c.HH;have h:=vl c;go_in;go_wp2_with fail;have B:=h.alloc (.cells #[iX d,iX f,iX g] 97);refine(zBp b H S t 1 rule d _ r v0 n xs B q).mono ?_;rintro e w1 ⟨rfl,ao,cap,a,C,D⟩;have i:w1.heap[w.heap.size]? =some (.cells #[iX d,iX f,iX g] 97):=by
  rw[D w.heap.size (by simp) (by omega) (λe=>by have:=(h.out.own.lt _ e.symm).2;omega)];exact gX w _
 have aa:cX w1 w.heap.size 0=some (iX d):=by simp[World.cell?,i]
 have ab:cX w1 w.heap.size 1=some (iX f):=by simp[World.cell?,i]
 have ac:cX w1 w.heap.size 2=some (iX g):=by simp[World.cell?,i]
 have ad:=a.run.get_depth;have ae:=a.run.frozen 7;have af:=a.run.get_bAt;have ag:=a.run.frozen 8;have ah:=a.run.get_bLine;have ai:=a.run.frozen 9;have aj:=a.run.get_bCol;have ak:=a.run.frozen 10;have al:=a.run.get_state;have am:=a.run.frozen 11;have m:=vl a;have E:=vl <| (kZ w _ h.HH).trans C;go_wp2_with fail;have F:((r.depth:Int)-1)=((r.depth-1:Nat):Int):=by omega
 rw[F];have c0:=m.stored 7 _ (m.run.set_depth (r.depth-1)) rfl;have c1:=c0.stored 8 _ (c0.run.set_bAt d) rfl;have c2:=c1.stored 9 _ (c1.run.set_bLine f) rfl;have j:=c2.stored 10 _ (c2.run.set_bCol g) rfl;have G:=(((E.trans (Keep.set w1 7 (iX (r.depth-1:Nat)))).trans (Keep.set _ 8 (iX d))).trans (Keep.set _ 9 (iX f))).trans (Keep.set _ 10 (iX g));refine(zAH b _ _ j.run S t j.tab (by show 1<=r.depth-1;omega) (by show r.depth-1<=4;omega) v).mono ?_;rintro e an ⟨rfl,o⟩;have k:=j.alike o;have I:=vl <| G.trans (Keep.alike o);have ap:=k.run.get_state;have aq:=k.run.frozen 11;have p:=vl k;go_wp2;go_end0;exact⟨rfl,ao,cap,p.stored 11 _ (p.run.set_state _) rfl,I.trans (Keep.set _ _ _)⟩
theorem zKA (b H:Nat)(S:Nat->Prop)(t:Tb)(w:World)(r:Rs)(v0:Value)(n:Nat)(xs:List Value)(a:Cx H b S t w r v0 n xs)(F:n<=4194304)
  (rule c d f:Nat) (q:rule<t.nrule) (G:t.act rule=2) (Y:1<=r.depth) (I:r.depth<4) (J:t.push rule<t.nmode):
  Calls prog 156 #[pX b,iX rule,agg #[iX c,iX d,iX f]] w λe w'=>
   e=returned (tuple #[])/\∃ao cap,Cx H b S t w' {r with stack:=λj=>if j=r.depth then t.push rule else r.stack j,depth:=r.depth+1,bAt:=c,bLine:=d,bCol:=f,state:=t.start (t.push rule)} (slice ao (n+1) cap) (n+1) (xs++jM 1 rule r.bAt c r.bLine r.bCol)/\Keep H b w w':=by
 have aa:=a.run.get_tp;have ab:=a.run.get_depth;have ac:((r.depth:Int)==4)=false:=by rw[hX];omega
 obtain⟨_,ad,s,K,ae,L,rfl,af,ag,u⟩:=a.tab.c4;have M:cX w s (K+rule)=some (iX (t.act rule:Nat)):=u _ q;rw[G] at M;have ah:(rule:Int)<(t.nrule:Int):=by omega
 have ai:b<w.heap.size:=a.run.lt;have aj:s<w.heap.size:=lZ (a.safe _ L).1 a.HH;have ak:r.tp<w.heap.size:=lZ (a.safe _ a.tab.safe).1 a.HH;have o:=vl a;clear a u;go_in;go_wp2_with fail;have v:=o.alloc (.cells #[iX c,iX d,iX f] 97);refine(zBp b H S t 1 rule c _ r v0 n xs v F).mono ?_;rintro e w1 ⟨rfl,ao,cap,i,x,y⟩;have k:w1.heap[w.heap.size]? =some (.cells #[iX c,iX d,iX f] 97):=by
  rw[y w.heap.size (by simp) (by omega) (λe=>by have:=(o.out.own.lt _ e.symm).2;omega)];exact gX w _
 have N:cX w1 w.heap.size 0=some (iX c):=by simp[World.cell?,k]
 have O:cX w1 w.heap.size 1=some (iX d):=by simp[World.cell?,k]
 have P:cX w1 w.heap.size 2=some (iX f):=by simp[World.cell?,k]
 have al:=i.run.get_tp;obtain⟨_,am,Q,R,an,ap,rfl,aq,ar,z⟩:=i.tab.c5;have au:cX w1 Q (R+rule)=some (iX (t.push rule:Nat)):=z _ q;have A:=vl i;have T:=vl <| (kZ w _ o.HH).trans x;clear i v x y k z;go_wp2_with fail;refine(zF8 b (t.push rule) _ _ A.run (by exact I)).mono ?_;rintro e w2 ⟨rfl,B,h⟩;have g:=A.kept h B rfl;have av:cX w2 w.heap.size 0=some (iX c):=(gZ ((h (w.heap.size+1)).block _ (by show w.heap.size<_;omega) (by show w.heap.size≠b;omega))).trans N;have aw:cX w2 w.heap.size 1=some (iX d):=(gZ ((h (w.heap.size+1)).block _ (by show w.heap.size<_;omega) (by show w.heap.size≠b;omega))).trans O;have ax:cX w2 w.heap.size 2=some (iX f):=(gZ ((h (w.heap.size+1)).block _ (by show w.heap.size<_;omega) (by show w.heap.size≠b;omega))).trans P;have ay:=g.run.get_bAt;have az:=g.run.frozen 8;have aA:=g.run.get_bLine;have aB:=g.run.frozen 9;have aC:=g.run.get_bCol;have aD:=g.run.frozen 10;have U:=vl <| T.trans (h H);have C:=vl g;clear g h B;go_wp2_with fail;have c1:=C.stored 8 _ (C.run.set_bAt c) rfl;have c2:=c1.stored 9 _ (c1.run.set_bLine d) rfl;have l:=c2.stored 10 _ (c2.run.set_bCol f) rfl;have D:=((U.trans (Keep.set w2 8 (iX c))).trans (Keep.set _ 9 (iX d))).trans (Keep.set _ 10 (iX f));clear c1 c2;have V:(λj=>if j=r.depth then t.push rule else r.stack j) (r.depth+1-1)=t.push rule:=by simp
 refine(zAH b _ _ l.run S t l.tab (by show 1<=r.depth+1;omega) (by show r.depth+1<=4;omega) (by show(λj=>if j=r.depth then t.push rule else r.stack j) (r.depth+1-1)<t.nmode;rw[V];exact J)).mono ?_;rintro e aE ⟨rfl,p⟩;have m:=l.alike p;have W:=vl <| D.trans (Keep.alike p);have aF:=m.run.get_state;have aG:=m.run.frozen 11;have E:=vl m;clear m l D p;go_wp2;go_end0;refine⟨rfl,ao,cap,?_,W.trans (Keep.set _ 11 _)⟩;have X:=E.stored 11 _ (E.run.set_state (t.start (t.push rule))) rfl;simpa using X
structure Ev where
 kind:Int
 rule:Int
 from_:Int
 to:Int
 line:Int
 col:Int
def Ev.cells (e:Ev):List Value:=jM e.kind e.rule e.from_ e.to e.line e.col
def xI (es:List Ev):List Value:=es.flatMap Ev.cells
theorem yE (a:List Ev)(e:Ev):xI (a++[e])=xI a++e.cells:=by simp[xI]
abbrev Cv (H b:Nat)(S:Nat->Prop)(t:Tb)(w:World)(r:Rs)(v0:Value)(es:List Ev):Prop:=Cx H b S t w r v0 es.length (xI es)
structure Rs.Ok (r:Rs)(t:Tb):Prop where
 d1:1<=r.depth
 d4:r.depth<=4
 st:∀j,j<r.depth->r.stack j<t.nmode
 state:r.state<t.nst
 first:r.first<64
 count:r.count<=64
 bytes:∀j,j<64->r.byte j<256
def Rs.lastEv (r:Rs)(kind:Int):Ev:=⟨kind,0,r.bAt,r.bAt,r.bLine,r.bCol⟩
def Rs.moved (r:Rs)(t:Tb)(rule:Nat):Rs:=
 if t.act rule=3 then{r with depth:=r.depth-1}
 else if t.act rule=2 then{r with stack:=λj=>if j=r.depth then t.push rule else r.stack j,depth:=r.depth+1}
 else r
def Rs.tok (r:Rs)(t:Tb)(rule eAt eLine eCol:Nat):Rs×List Ev:=
 if t.act rule=2/\r.depth=4 then({r with opn:=false},[r.lastEv 4])
 else if t.act rule=3/\r.depth=1 then({r with opn:=false},[r.lastEv 5])
 else({r.moved t rule with bAt:=eAt,bLine:=eLine,bCol:=eCol,state:=t.start ((r.moved t rule).stack ((r.moved t rule).depth-1))},
  if t.act rule=1 then[] else[⟨1,rule,r.bAt,eAt,r.bLine,r.bCol⟩])
theorem zEY (b H:Nat)(S:Nat->Prop)(t:Tb)(w:World)(r:Rs){v0:Value}(h:List Ev)(l:Cv H b S t w r v0 h)(m:h.length<=4194304)
  (rule d f g:Nat) (j:rule<t.nrule) (y:t.act rule<4) (ok:t.Ok) (o:r.Ok t):
  Calls prog 156 #[pX b,iX rule,agg #[iX d,iX f,iX g]] w λe w'=>
   e=returned (tuple #[])/\∃v,Cv H b S t w' (r.tok t rule d f g).1 v (h++(r.tok t rule d f g).2)/\Keep H b w w':=by
 have q:=o.d1;have s:=o.d4;by_cases i:t.act rule=2/\r.depth=4
 ·refine(zKB b H S t w r v0 _ _ l m rule d f g j i.1 i.2).mono ?_
  rintro e w' ⟨rfl,ao,cap,a,c⟩;refine⟨rfl,slice ao (h.length+1) cap,?_,c⟩;unfold Rs.tok Cv;rw[if_pos i,yE,kX];exact a
 ·by_cases k:t.act rule=3/\r.depth=1
  ·refine(zIZ b H S t w r v0 _ _ l m rule d f g j k.1 k.2).mono ?_
   rintro e w' ⟨rfl,ao,cap,a,c⟩;refine⟨rfl,slice ao (h.length+1) cap,?_,c⟩;unfold Rs.tok Cv;rw[if_neg i,if_pos k,yE,kX];exact a
  ·by_cases p:t.act rule=1
   ·refine(zKz b H S t w r v0 _ _ l rule d f g j p q s (o.st _ (by omega))).mono ?_
    rintro e w' ⟨rfl,a,c⟩;refine⟨rfl,v0,?_,c⟩;unfold Rs.tok Cv Rs.moved;rw[if_neg i,if_neg k,if_neg (by omega),if_neg (by omega),if_pos p,gG];exact a
   ·by_cases u:t.act rule=2
    ·refine(zKA b H S t w r v0 _ _ l m rule d f g j u q (by omega) (ok.push _ j)).mono ?_
     rintro e w' ⟨rfl,ao,cap,a,c⟩;refine⟨rfl,slice ao (h.length+1) cap,?_,c⟩;unfold Rs.tok Cv Rs.moved;rw[if_neg i,if_neg k,if_neg (by omega),if_pos u,if_neg p,yE,kX];simpa[Ev.cells] using a
    ·by_cases x:t.act rule=3
     ·refine(zMp b H S t w r v0 _ _ l m rule d f g j x (by omega) s (o.st _ (by omega))).mono ?_
      rintro e w' ⟨rfl,ao,cap,a,c⟩;refine⟨rfl,slice ao (h.length+1) cap,?_,c⟩;unfold Rs.tok Cv Rs.moved;rw[if_neg i,if_neg k,if_pos x,if_neg p,yE,kX];exact a
     ·refine(zKC b H S t w r v0 _ _ l m rule d f g j (by omega) q s (o.st _ (by omega))).mono ?_
      rintro e w' ⟨rfl,ao,cap,a,c⟩;refine⟨rfl,slice ao (h.length+1) cap,?_,c⟩;unfold Rs.tok Cv Rs.moved;rw[if_neg i,if_neg k,if_neg x,if_neg u,if_neg p,yE,kX];exact a
end Go.Proofs.YtbjcfkdnjaiclaaGreat
