import Derived.Deep.DrawnRows
import Derived.Deep.LoopGhost
import Derived.Deep.RegionHeld3
import Derived.Deep.RegionLaw
import Derived.Deep.RegionWith
import Derived.Laws.IdiomStrings
import Derived.Laws.MakeOwn
import Derived.Laws.OwnMore
import Derived.StillTactics
import Derived.Test.YtbjcfkdnjaiclaaGreatO0
/- Parts of the proof. -/
set_option linter.unusedVariables false
set_option linter.unusedSimpArgs false
set_option maxHeartbeats 4000000
set_option maxRecDepth 100000
namespace Go.Proofs.YtbjcfkdnjaiclaaGreat
open Go.RowKit Go.Proofs.Tryz Go.World
open Go.Value (int slice bool pointer string agg tuple)
open Go.IntKind (i64)
open Go.Ending (returned)
theorem Tb.OkN.withLive {t:Tb}(ok:t.OkN)(f:Nat->Bool):({t with live:=f}).OkN:=⟨ok.count,ok.nst,ok.next,ok.ends⟩
def Tb.spreadTo (t:Tb):Nat->Tb×Bool
 |0=>(t,false)
 |s+1=>if !(t.spreadTo s).1.live s&&(t.spreadTo s).1.anyTo s t.count then({(t.spreadTo s).1 with live:=λj=>if j=s then true else(t.spreadTo s).1.live j},true) else t.spreadTo s
theorem zBD (t:Tb)(s:Nat)(a:(t.spreadTo s).1.live s=false)(b:(t.spreadTo s).1.anyTo s t.count=true):t.spreadTo (s+1)=({(t.spreadTo s).1 with live:=λj=>if j=s then true else(t.spreadTo s).1.live j},true):=by
 rw[Tb.spreadTo,a,b];rfl
theorem zAx (t:Tb)(s:Nat)(a:(t.spreadTo s).1.live s=true\/(t.spreadTo s).1.anyTo s t.count=false):t.spreadTo (s+1)=t.spreadTo s:=by
 rw[Tb.spreadTo];rcases a with a|a <;> rw[a] <;> simp
theorem zAt (t:Tb)(s:Nat):(t.spreadTo s).1={t with live:=(t.spreadTo s).1.live}:=by
 induction s with
 |zero=>rfl
 |succ s a=>
  rw[Tb.spreadTo];split
  ·show({(t.spreadTo s).1 with live:=_}:Tb)=_
   rw[a]
  ·exact a
theorem zBC (t:Tb)(s:Nat):(t.spreadTo s).1.nst=t.nst:=by rw[zAt]
theorem zHL (t:Tb)(s:Nat):(t.spreadTo s).1.count=t.count:=by rw[zAt]
theorem zMc {t:Tb}(ok:t.OkN)(s:Nat):(t.spreadTo s).1.OkN:=by rw[zAt];exact ok.withLive _
theorem zD2 (w:World)(H b:Nat)(c:Tc)(t:Tb)(z:Mem w H b c t)(ok:t.OkN)(A:1<=t.nst)(T:1<=t.count):
  Calls prog 100 #[pX b] w λe w'=>e=returned (bool (t.spreadTo t.nst).2)/\Mem w' H b c (t.spreadTo t.nst).1/\Below H w w':=by
 have ⟨rv,u,I⟩:=z.next
 have ⟨g,cap,U,aq,ar,au,av,aw,ax⟩:=u.get A;have ⟨gl,J,ae,af,ay,az,aA,aB,aC⟩:=z.live.get A;have aD:cX w b 8=some (slice (qX g) t.nst cap):=by rw[<-U];exact z.tp.get_next
 have ag:=vl z;have B:=vl ae;have ah:=vl U;have aE:=ok.nst;generalize ai:t.nst=n at *;have C:=vl ai;go_in;go_wp2;go_loopg [3,11] n (λq more i wr=>∃j:Nat,q=n-j/\j<=n/\i=iX (j:Int)/\more=bool (t.spreadTo j).2/\Mem wr H b c (t.spreadTo j).1/\Below H w wr)
 case atStart=>exact⟨0,rfl,lX,rfl,rfl,ag,Below.refl _ _⟩
 case round=>
  obtain⟨j,K,aF,rfl,rfl,o,L⟩:=hrel;have d:Hid (gk=n-j/\Mem wr H b c (t.spreadTo j).1/\Below H w wr):=⟨K,o,L⟩
  by_cases v:j<n
  ·have aj:(j:Int)<(n:Int):=by omega
   have ⟨rv,u,I⟩:=o.next
   rw[ah.out,zBC,C.out] at u;have ⟨ak,aG,D,_,_,_,_,V,_⟩:=u.get A;have al:ak=g:=by injection D with f _ _;injection f with f;injection f with f;exact f.symm
   subst al;have M:=V j v;have N:=o.live;rw[B.out,zBC,C.out] at N;have ⟨x,aH,D,_,_,_,_,W,X⟩:=N.get A;have am:x=gl:=by injection D with f _ _;injection f with f;injection f with f;exact f.symm
   subst am;have Y:=W j v;have aI:=X j;have aJ:cX wr b 10=some (slice (qX x) n J):=by rw[<-B.out];exact o.tp.get_live
   have O:=I j (by rw[zBC,C.out];exact v);have ⟨ao,aa,P⟩:=zF O;have E:=vl O;rw[P] at M;have F:=vl P;have an:=vl <| zBD t j;have ab:=vl <| zAx t j;have G:=zMc ok j;have h:=zHL t j;have p:(t.spreadTo j).1.nst=n:=by rw[zBC,C.out]
   clear K o L V W X O P u I N D;generalize ac:t.spreadTo j=a at *;cases r:a.1.live j with
   |true=>
    rw[r] at Y;have m:=vl <| ab (.inl r);go_wp2;go_roundg (n-(j+1))
    case measure=>rw[d.out.1];omega
    case rel=>exact⟨j+1,rfl,by omega,congrArg (Value.int IntKind.i64) (by omega),by rw[m.out],by rw[m.out];exact d.2.1,d.2.2⟩
   |false=>
    rw[r] at Y;cases s:a.1.anyTo j t.count with
    |true=>
     have m:=vl <| an r s;have R:Hid (a.1.anyTo j a.1.count=true):=by show _=_;rw[h];exact s
     have S:Hid (Row wr H 3 (slice ao t.count aa) a.1.count λk=>iX (a.1.next j k:Nat)):=by show Row _ _ _ _ _ _;rw[<-h,<-F.out];exact E
     have l:j<a.1.nst:=by rw[p];exact v
     have y:1<=a.1.count:=by rw[h];exact T
     have ad:Hid (c.live=slice (qX x) a.1.nst J):=by show _=_;rw[p];exact B
     clear r s ac E F p;rw[h] at M;clear h;go_wp2_with fail;refine(zC4 wr H b c a.1 d.2.1 G j l y _ S).mono ?_;rintro e w1 ⟨rfl,rfl⟩;rw[R.out];clear l y G;go_wp2_with fail;go_roundg (n-(j+1))
     case measure=>rw[d.out.1];omega
     case rel=>
      refine⟨j+1,rfl,by omega,congrArg (Value.int IntKind.i64) (by omega),by rw[m.out],?_,d.2.2.trans ?_⟩
      ·rw[m.out]
       exact d.2.1.setLive ad j af
      ·exact⟨rfl,rfl,rfl,by simp[World.setCell],λk aK=>lJ _ _ _ _ (by show k≠x;omega)⟩
    |false=>
     have m:Hid (t.spreadTo (j+1)=a):=ab (.inr s);have R:Hid (a.1.anyTo j a.1.count=false):=by show _=_;rw[h];exact s
     have S:Hid (Row wr H 3 (slice ao t.count aa) a.1.count λk=>iX (a.1.next j k:Nat)):=by show Row _ _ _ _ _ _;rw[<-h,<-F.out];exact E
     have l:j<a.1.nst:=by rw[p];exact v
     have y:1<=a.1.count:=by rw[h];exact T
     have ad:Hid (c.live=slice (qX x) a.1.nst J):=by show _=_;rw[p];exact B
     clear r s ac E F p;rw[h] at M;clear h;go_wp2_with fail;refine(zC4 wr H b c a.1 d.2.1 G j l y _ S).mono ?_;rintro e w1 ⟨rfl,rfl⟩;rw[R.out];clear l y G;go_wp2_with fail;go_roundg (n-(j+1))
     case measure=>rw[d.out.1];omega
     case rel=>exact⟨j+1,rfl,by omega,congrArg (Value.int IntKind.i64) (by omega),by rw[m.out],by rw[m.out];exact d.2.1,d.2.2⟩
  ·have l:j=n:=by omega
   have aj:(n:Int)<=(j:Int):=by omega
   rw[l] at d;clear K o L;have ap:Hid ((t.spreadTo j).2=(t.spreadTo n).2):=by show _=_;rw[l]
   clear l;generalize (t.spreadTo j).2=aL at *;go_wp2_with fail;go_ret;exact⟨vK ap,d.2.1,d.2.2⟩
structure MemB (w:World)(H b:Nat)(c:Tc)(t:Tb):Prop where
 tp:xH w b c
 stream:c.stream=bool t.stream
 ahead:c.ahead=int i64 t.ahead
 hold:c.hold=int i64 t.hold
 count:c.count=int i64 t.count
 rows:c.rows=int i64 t.rows
 starts:Row w H 3 c.starts t.nmode λi=>int i64 (t.start i:Nat)
 acts:Row w H 3 c.acts t.nrule λi=>int i64 (t.act i:Nat)
 pushed:Row w H 3 c.pushed t.nrule λi=>int i64 (t.push i:Nat)
 kinds:Row w H 3 c.kinds 256 λi=>int i64 (t.kind i:Nat)
 next:∃rv,Row w H 45 c.next t.nst rv/\∀i,i<t.nst->Row w H 3 (rv i) t.count λk=>int i64 (t.next i k:Nat)
 ends:Row w H 3 c.ends t.nst λi=>int i64 (t.ends i)
 longer:Row w H 5 c.longer t.nlong λi=>int .u8 (t.long i:Nat)
 HH:H<=w.heap.size
theorem MemB.withLive {w w':World}{H b:Nat}{c:Tc}{t:Tb}{v:Value}(a:MemB w H b c t)(d:Keep w.heap.size b w w')(j:xH w' b {c with live:=v}):MemB w' H b {c with live:=v} t:=by
 have k:∀{e v n f},e≠90->Row w H e v n f->Row w' H e v n f:=λl r=>r.blk λg _ m o=>d.block g m (zHQ a.tp r l o);have ⟨rv,p,q⟩:=a.next
 exact⟨j,a.stream,a.ahead,a.hold,a.count,a.rows,k (by decide) a.starts,k (by decide) a.acts,k (by decide) a.pushed,k (by decide) a.kinds,⟨rv,k (by decide) p,λi s=>k (by decide) (q i s)⟩,k (by decide) a.ends,k (by decide) a.longer,lY a.HH d.size⟩
theorem MemB.mem {w:World}{H b:Nat}{c:Tc}{t:Tb}(a:MemB w H b c t)(f:Nat->Bool)(d:Row w H 4 c.live t.nst λi=>bool (f i)):Mem w H b c {t with live:=f}:=
 ⟨a.tp,a.stream,a.ahead,a.hold,a.count,a.rows,a.starts,a.acts,a.pushed,a.kinds,a.next,a.ends,d,a.longer,a.HH⟩
def zEO (live:Nat->Bool):Nat->Nat
 |0=>0
 |n+1=>zEO live n+if live n then 0 else 1
def Tb.deadTo (t:Tb)(n:Nat):Nat:=zEO t.live n
theorem zOA (live:Nat->Bool)(s:Nat)(b:live s=false)(n:Nat):zEO (λj=>if j=s then true else live j) n+(if s<n then 1 else 0)=zEO live n:=by
 induction n with
 |zero=>rfl
 |succ n c=>
  simp only[zEO];generalize zEO (λj=>if j=s then true else live j) n=d at *;generalize zEO live n=B at *;by_cases e:n=s
  ·subst e
   simp[b] at *;omega
  ·by_cases a:s<n
   ·simp[e,a,show s<n+1 by omega] at *
    omega
   ·simp[e,a,show¬s<n+1 by omega] at *
    omega
theorem zIM (t:Tb)(s:Nat)(e:s<=t.nst):(t.spreadTo s).1.deadTo t.nst+(if (t.spreadTo s).2 then 1 else 0)<=t.deadTo t.nst:=by
 induction s with
 |zero=>exact lQ
 |succ s a=>
  have a:=a (by omega);cases b:(t.spreadTo s).1.live s with
  |true=>rw[zAx t s (.inl b)];exact a
  |false=>
   cases c:(t.spreadTo s).1.anyTo s t.count with
   |false=>rw[zAx t s (.inr c)];exact a
   |true=>
    rw[zBD t s b c];have d:=zOA (t.spreadTo s).1.live s b t.nst;rw[if_pos (by omega)] at d;show zEO (λj=>if j=s then true else(t.spreadTo s).1.live j) t.nst+(if true=true then 1 else 0)<=_;rw[if_pos rfl,d];exact lY (Nat.le_add_right _ _) a
theorem zIJ (t:Tb)(s:Nat)(a:(t.spreadTo s).2=false):(t.spreadTo s).1=t:=by
 induction s with
 |zero=>rfl
 |succ s b=>
  cases c:(t.spreadTo s).1.live s with
  |true=>rw[zAx t s (.inl c)] at a ⊢;exact b a
  |false=>
   cases d:(t.spreadTo s).1.anyTo s t.count with
   |false=>rw[zAx t s (.inr d)] at a ⊢;exact b a
   |true=>rw[zBD t s c d] at a;cases a
def Tb.itr (t:Tb):Nat->Tb
 |0=>t
 |n+1=>((t.itr n).spreadTo t.nst).1
theorem zIz {t u:Tb}(a:u={t with live:=u.live})(f:Nat->Bool):({u with live:=f}:Tb)={t with live:=f}:=by rw[a]
theorem vX (t:Tb)(n:Nat):t.itr n={t with live:=(t.itr n).live}:=by
 induction n with
 |zero=>rfl
 |succ n a=>exact(zAt (t.itr n) t.nst).trans (zIz a _)
theorem zIc (t:Tb)(n:Nat):(t.itr n).nst=t.nst:=by rw[vX]
theorem zBq (t:Tb)(n:Nat):(t.itr n).count=t.count:=by rw[vX]
theorem zKP {t:Tb}(ok:t.OkN)(n:Nat):(t.itr n).OkN:=by rw[vX];exact ok.withLive _
def Tb.first (t:Tb):Tb:={t with live:=λs=>t.ends s != -1}
theorem zF8 (w:World)(H b:Nat)(c:Tc)(t:Tb)(f:MemB w H b c t)(aj:c.live=nX)(ok:t.OkN)(L:1<=t.nst)(ak:1<=t.count):
  Calls prog 65 #[pX b] w λe w'=>e=rX/\∃v n,Mem w' H b {c with live:=v} (t.first.itr n)/\((t.first.itr n).spreadTo t.nst).2=false/\Keep H b w w':=by
 have ⟨al,am,an,ao,ap⟩:=info_parts vL;have ⟨M,aq,N,aK,ar,aL,aM,au,aN⟩:=f.ends.get L;have aO:cX w b 9=some (slice (qX M) t.nst aq):=by rw[<-N];exact f.tp.get_ends
 have O:=vl f;have av:=vl au;have aP:=vl ok.ends;have aQ:=ok.nst;have aR:=f.tp.lt;have aw:=zHQ f.tp f.ends (by decide) (by rw[N];rfl);have ax:=f.HH;generalize ay:t.nst=n at *;have y:=vl ay;go_in;apply wp_cut;intro aS P;go_wp2;go_loopg [9] n (λq i wr=>∃(j:Nat) (v:Value),q=n-j/\j<=n/\i=iX (j:Int)/\Row wr w.heap.size 4 v j (λs=>bool (t.ends s != -1))/\xH wr b {c with live:=v}/\Keep w.heap.size b w wr)
 case atStart=>exact⟨0,nX,rfl,lX,rfl,ownsRow_nil _ _ _ _,(by rw[<-aj];exact O.tp),Keep.refl _ _ _⟩
 case round=>
  obtain⟨j,v,z,aT,rfl,l,g,a⟩:=hrel;have az:=a.size;by_cases aA:j<n
  ·have aB:(j:Int)<(n:Int):=by omega
   have aC:=(gW (a.block M ar aw)).trans (av j aA);have aU:=g.get_live;have R:Hid (gk=n-j/\Keep w.heap.size b w wr):=⟨z,a⟩
   have S:=vl l;have A:=vl g;have B:Hid (∃x,x=t.ends j):=⟨_,rfl⟩
   have ⟨x,C⟩:=B.out;have B:=vl C;rw[<-C] at aC;clear z l g a C;go_wp2_with (at_builtin;refine wpList_append_lies _ rfl _ _ 28 rfl w.heap.size 4 al fX 1 1 underlying28 am an ao ap rfl (by decide) _ _ _ rfl (S.alloc _) ⟨wr.heap.size,0,none⟩ 1 1 [bool (x != -1)] rfl rfl (cell_one_new _ _ _) (by intro u T;simp at T;subst T;rfl) (by decide) (by unfold maxLen;omega) (by omega) (by simp;omega) _ rfl ?_;intro aD cap w2 aE aF aV aW;have o:=xU S aF az;have aX:=(A.of_block (o.block b (by omega))).get_live;have q2:=(A.of_block (o.block b (by omega))).fz 10)
   have aG:=A.of_block (o.block b (by omega));have aH:w2.ownsRow w.heap.size 4 1 (slice (qX aD) (j+1) cap) (j+1) ((List.range (j+1)).map λs=>bool (t.ends s != -1)):=by
    rw[zAn,<-B.out];exact aE
   go_roundg (n-(j+1))
   case measure=>rw[R.out.1];omega
   case rel=>exact⟨j+1,_,rfl,by omega,congrArg (Value.int IntKind.i64) (by omega),zNP aH (λ_=>Keep.set _ _ _) (by omega),aG.set_live _,(R.2.trans (xS o)).trans (Keep.set _ _ _)⟩
  ·have U:j=n:=by omega
   have aB:(n:Int)<=(j:Int):=by omega
   have aI:Hid (Mem wr H b {c with live:=v} t.first):=by
    refine(O.withLive a g).mem _ ?_;show Row wr H 4 v t.nst _;rw[y.out,<-U];exact l.mono ax
   have p:=vl a;clear z l g a U;go_wp2_with fail;apply P.out;clear P;have V:=zKP (t:=t.first) (ok.withLive _);have W:=zIc t.first
   have X:=zBq t.first
   go_wp2_with fail;go_loopg [] (t.first.deadTo n) (λq Y=>∃m:Nat,q=(t.first.itr m).deadTo n/\Mem Y H b {c with live:=v} (t.first.itr m)/\Keep H b w Y)
   case atStart=>exact⟨0,rfl,aI,⟨p.os,p.output,p.size,λk a=>p.block k (by omega)⟩⟩
   case round=>
    obtain⟨m,aa,D,ab⟩:=hrel;have E:(t.first.itr m).nst=n:=by rw[W];exact y
    have F:=zD2 wr H b _ (t.first.itr m) D (V m) (by rw[E];exact L) (by rw[X];exact ak);have G:=zIM (t.first.itr m) (t.first.itr m).nst lQ;rw[E] at F G;have I:Hid (gk=(t.first.itr m).deadTo n/\Mem wr H b {c with live:=v} (t.first.itr m)/\Keep H b w wr):=⟨aa,D,ab⟩
    have ac:Hid (t.first.itr (m+1)=((t.first.itr m).spreadTo n).1):=by show _=_;rw[<-y.out];rfl
    have ad:Hid (((t.first.itr m).spreadTo n).1.deadTo n+(if ((t.first.itr m).spreadTo n).2 then 1 else 0)<=(t.first.itr m).deadTo n):=G;have ae:Hid (Calls _ _ _ _ _):=F;clear aa D ab F G E V W X;go_wp2_with fail;refine Calls.mono ae ?_;rintro e w2 ⟨rfl,af,ag⟩;have d:Hid (Mem w2 H b {c with live:=v} ((t.first.itr m).spreadTo n).1/\Below H wr w2):=⟨af,ag⟩
    clear af ag ae;cases r:((t.first.itr m).spreadTo n).2 with
    |true=>
     have J:=ad.out;rw[r,if_pos rfl,<-ac.out] at J;have aJ:Hid ((t.first.itr (m+1)).deadTo n+1<=(t.first.itr m).deadTo n):=J;clear r ad J;go_wp2_with fail;go_roundg ((t.first.itr (m+1)).deadTo n)
     case measure=>rw[I.out.1];exact aJ
     case rel=>exact⟨m+1,rfl,by rw[ac.out];exact d.1,I.2.2.trans ⟨d.2.os,d.2.output,d.2.size,λk a _=>d.2.block k a⟩⟩
    |false=>
     have ah:Hid (((t.first.itr m).spreadTo n).2=false):=r;clear r;go_wp2_with fail;go_end0;refine⟨rfl,v,m,?_,ah,I.2.2.trans ⟨d.2.os,d.2.output,d.2.size,λk a _=>d.2.block k a⟩⟩;have ai:=d.1;rw[zIJ _ _ ah.out] at ai;exact ai
section
theorem Keep.lower {H b d c:Nat}{w w':World}(a:Keep H b w w')(e:d<=H)(f:d<=b):Keep d c w w':=⟨a.os,a.output,a.size,λk g _=>a.block k (by omega) (by omega)⟩
theorem Keep.th {w w1 w2:World}(h:Grew w w1)(k:Grew w1 w2):Grew w w2:=h.trans (k.lower h.size h.size)
def Ints (w:World)(S:Nat->Prop)(v:Value)(l:List Int):Prop:=
 ∃ao cap,v=slice ao l.length cap/\l.length<=cap/\cap<=maxLen/\∀i,i<l.length->∃b o,ao=some ⟨b,o,none⟩/\S b/\w.cell? ⟨b,o+i,none⟩=some (int i64 (l.getD i 0))
def Bools (w:World)(S:Nat->Prop)(v:Value)(l:List Bool):Prop:=
 ∃ao cap,v=slice ao l.length cap/\l.length<=cap/\cap<=maxLen/\∀i,i<l.length->∃b o,ao=some ⟨b,o,none⟩/\S b/\w.cell? ⟨b,o+i,none⟩=some (bool (l.getD i false))
def IntRows (w:World)(S:Nat->Prop)(v:Value)(l:List (List Int)):Prop:=
 ∃ao cap,v=slice ao l.length cap/\l.length<=cap/\cap<=maxLen/\∀i,i<l.length->∃b o u,ao=some ⟨b,o,none⟩/\S b/\w.cell? ⟨b,o+i,none⟩=some u/\Ints w S u (l.getD i [])
section
variable {w w':World} {S S':Nat->Prop} {v:Value}
theorem Ints.keep {l:List Int}(c:Ints w S v l)(e:∀b,S b->w'.heap[b]? =w.heap[b]?):Ints w' S v l:=by
 obtain⟨ao,cap,d,f,g,j⟩:=c;refine⟨ao,cap,d,f,g,λi k=>?_⟩;have ⟨b,o,m,a,p⟩:=j i k;exact⟨b,o,m,a,(gW (e b a)).trans p⟩
theorem Ints.mono {l:List Int}(a:Ints w S v l)(e:∀b,S b->S' b):Ints w S' v l:=by
 obtain⟨ao,cap,c,d,f,g⟩:=a;refine⟨ao,cap,c,d,f,λi j=>?_⟩;have ⟨b,o,k,m,p⟩:=g i j;exact⟨b,o,k,e b m,p⟩
theorem Bools.keep {l:List Bool}(c:Bools w S v l)(e:∀b,S b->w'.heap[b]? =w.heap[b]?):Bools w' S v l:=by
 obtain⟨ao,cap,d,f,g,j⟩:=c;refine⟨ao,cap,d,f,g,λi k=>?_⟩;have ⟨b,o,m,a,p⟩:=j i k;exact⟨b,o,m,a,(gW (e b a)).trans p⟩
theorem Bools.mono {l:List Bool}(a:Bools w S v l)(e:∀b,S b->S' b):Bools w S' v l:=by
 obtain⟨ao,cap,c,d,f,g⟩:=a;refine⟨ao,cap,c,d,f,λi j=>?_⟩;have ⟨b,o,k,m,p⟩:=g i j;exact⟨b,o,k,e b m,p⟩
theorem IntRows.keep {l:List (List Int)}(c:IntRows w S v l)(e:∀b,S b->w'.heap[b]? =w.heap[b]?):IntRows w' S v l:=by
 obtain⟨ao,cap,d,f,g,j⟩:=c;refine⟨ao,cap,d,f,g,λi k=>?_⟩;have ⟨b,o,u,m,a,p,q⟩:=j i k;exact⟨b,o,u,m,a,(gW (e b a)).trans p,q.keep e⟩
theorem IntRows.mono {l:List (List Int)}(a:IntRows w S v l)(e:∀b,S b->S' b):IntRows w S' v l:=by
 obtain⟨ao,cap,c,d,f,g⟩:=a;refine⟨ao,cap,c,d,f,λi j=>?_⟩;have ⟨b,o,u,k,m,p,q⟩:=g i j;exact⟨b,o,u,k,e b m,p,q.mono e⟩
theorem zCc {H:Nat}{e:TypeId}{l:List Int}(c:w.ownsRow H e 1 v l.length (l.map λx=>iX x))(f:∀g,v.ownBlock=some g->S g):Ints w S v l:=by
 rcases c.2 with⟨a,j⟩|⟨g,cap,o,a,p,q,k,m,r,s⟩
 ·refine⟨none,0,by rw[a,j],by omega,by unfold maxLen;omega,λi b=>by omega⟩
 ·refine⟨some ⟨g,0,none⟩,cap,a,k,m,λi b=>⟨g,0,rfl,f g (by rw[a];rfl),?_⟩⟩
  have d:=c.cells (g:=g) (by rw[a];rfl) i (iX (l.getD i 0)) (by
   rw[gZ,lV b,lW,lV b];rfl)
  rw[Addr.add_lit] at d;exact d
theorem zG6 {H:Nat}{e:TypeId}{l:List Bool}(c:w.ownsRow H e 1 v l.length (l.map λx=>bool x))(f:∀g,v.ownBlock=some g->S g):Bools w S v l:=by
 rcases c.2 with⟨a,j⟩|⟨g,cap,o,a,p,q,k,m,r,s⟩
 ·refine⟨none,0,by rw[a,j],by omega,by unfold maxLen;omega,λi b=>by omega⟩
 ·refine⟨some ⟨g,0,none⟩,cap,a,k,m,λi b=>⟨g,0,rfl,f g (by rw[a];rfl),?_⟩⟩
  have d:=c.cells (g:=g) (by rw[a];rfl) i (bool (l.getD i false)) (by
   rw[gZ,lV b,lW,lV b];rfl)
  rw[Addr.add_lit] at d;exact d
end
theorem Ints.block {w:World}{S:Nat->Prop}{v:Value}{l:List Int}(e:Ints w S v l)(f:0<l.length):∃b o cap,v=slice (some ⟨b,o,none⟩) l.length cap/\S b/\l.length<=cap/\cap<=maxLen/\∀i,i<l.length->w.cell? ⟨b,o+i,none⟩=some (iX (l.getD i 0)):=by
 obtain⟨ao,cap,g,j,k,c⟩:=e;have ⟨b,o,d,m,_⟩:=c 0 f;refine⟨b,o,cap,by rw[g,d],m,j,k,λi p=>?_⟩;have ⟨t,u,a,_,q⟩:=c i p;rw[d] at a;injection a with a;injection a with r s;subst r s;exact q
theorem IntRows.block {w:World}{S:Nat->Prop}{v:Value}{l:List (List Int)}(e:IntRows w S v l)(f:0<l.length):∃b o cap,v=slice (some ⟨b,o,none⟩) l.length cap/\S b/\l.length<=cap/\cap<=maxLen/\∀i,i<l.length->∃u,w.cell? ⟨b,o+i,none⟩=some u/\Ints w S u (l.getD i []):=by
 obtain⟨ao,cap,g,j,k,c⟩:=e;have ⟨b,o,_,d,m,_⟩:=c 0 f;refine⟨b,o,cap,by rw[g,d],m,j,k,λi p=>?_⟩;have ⟨t,x,u,a,_,q⟩:=c i p;rw[d] at a;injection a with a;injection a with r s;subst r s;exact⟨u,q⟩
structure Sm where
 next:List (List Int)
 rules:List Int
 start:Int
 empty:List Bool
def ModesAt (w:World)(S:Nat->Prop)(v:Value)(ms:List Sm):Prop:=
 ∃ao cap,v=slice ao ms.length cap/\ms.length<=cap/\cap<=maxLen/\∀i (hi:i<ms.length),∃b o u0 u1 u3,ao=some ⟨b,o,none⟩/\S b/\
  w.cell? ⟨b,o+i*4,none⟩=some u0/\w.cell? ⟨b,o+i*4+1,none⟩=some u1/\w.cell? ⟨b,o+i*4+2,none⟩=some (int i64 ms[i].start)/\w.cell? ⟨b,o+i*4+3,none⟩=some u3/\
  IntRows w S u0 ms[i].next/\Ints w S u1 ms[i].rules/\Bools w S u3 ms[i].empty
theorem ModesAt.keep {w w':World}{S:Nat->Prop}{v:Value}{ms:List Sm}(c:ModesAt w S v ms)(e:∀b,S b->w'.heap[b]? =w.heap[b]?):ModesAt w' S v ms:=by
 obtain⟨ao,cap,d,f,g,l⟩:=c;refine⟨ao,cap,d,f,g,λi m=>?_⟩;have ⟨b,o,u0,u1,u3,p,a,c0,c1,c2,q,r,s,t⟩:=l i m;have k:∀j,cX w' b j=cX w b j:=λj=>gW (e b a);exact⟨b,o,u0,u1,u3,p,a,(k _).trans c0,(k _).trans c1,(k _).trans c2,(k _).trans q,r.keep e,s.keep e,t.keep e⟩
end
def jO (a b:Nat)(row:List Int):Bool:=row.getD a 0==row.getD b 0
def zAo (a b:Nat)(m:Sm):Bool:=m.next.all (jO a b)
def zB0 (ms:List Sm)(a b:Nat):Bool:=ms.all (zAo a b)
def Wide (ms:List Sm):Prop:=∀m∈ms,∀row∈m.next,row.length=256
theorem zEX (w:World)(S:Nat->Prop)(v:Value)(ms:List Sm)(M:ModesAt w S v ms)(r:∀k,S k->k<w.heap.size)(N:Wide ms)(aI:ms.length<=3)(O:∀m∈ms,m.next.length<=200)(a b:Nat)(aJ:a<256)(aK:b<256):
  Calls prog 137 #[v,iX a,iX b] w λe w'=>e=returned (bool (zB0 ms a b))/\Grew w w':=by
 obtain⟨ao,cap,rfl,aL,aM,P⟩:=M;have R:=vl P;go_in;go_wp2;go_loopg [13] ms.length (λq i wr=>∃j:Nat,q=ms.length-j/\j<=ms.length/\i=iX (j:Int)/\(ms.take j).all (zAo a b)=true/\Grew w wr)
 case atStart=>exact⟨0,rfl,lX,rfl,rfl,Keep.refl _ _ _⟩
 case round=>
  obtain⟨j,y,aN,rfl,z,A⟩:=hrel;have s:Hid (gk=ms.length-j/\(ms.take j).all (zAo a b)=true/\Grew w wr):=⟨y,z,A⟩
  by_cases t:j<ms.length
  ·have T:(j:Int)<(ms.length:Int):=by omega
   obtain⟨h,o,u0,u1,u3,rfl,G,c0,c1,c2,U,V,W,X⟩:=R j t;have d:∀i,wr.cell? ⟨h,i,none⟩=w.cell? ⟨h,i,none⟩:=λi=>gW (A.block h (r h G) (by have:=r h G;omega));have Y:=(d _).trans c0;have aa:=(d _).trans c1;have ab:=(d _).trans c2;have aO:=(d _).trans U;have H:=vl A;obtain⟨ac,ad,ae,aP,m0,af⟩:=V;obtain⟨ag,ah,ai,_⟩:=W;obtain⟨aj,ak,al,_⟩:=X;subst ae ai al;have am:=vl af;have aQ:=O _ (List.getElem_mem t);have an:=vl <| N _ (List.getElem_mem t);have I:Hid ((ms.take (j+1)).all (zAo a b)=((ms.take j).all (zAo a b)&&ms[j].next.all (jO a b))):=by
    show _=_;rw[List.take_succ_eq_append_getElem t,List.all_append];simp[zAo]
   generalize aR:ms[j].next=rows at *
   generalize ms[j].start=ap at *;generalize ms[j].rules=aq at *;generalize ms[j].empty=ar at *;go_wp2;obtain⟨w1,au,av⟩:∃w1,w1=wr.alloc (.cells #[slice ac rows.length ad,slice ag aq.length ah,iX ap,slice aj ar.length ak] 134)/\Hid (Grew w w1):=⟨_,rfl,H.trans (kZ _ _ H.size)⟩
   rw[<-au];go_loopg [21] rows.length (λq i aw=>∃k:Nat,q=rows.length-k/\k<=rows.length/\i=iX (k:Int)/\(rows.take k).all (jO a b)=true/\Grew w aw)
   case atStart=>exact⟨0,rfl,lX,rfl,rfl,av⟩
   case round=>
    obtain⟨k,y,aS,rfl,z,J⟩:=hrel;have g:Hid (gk=rows.length-k/\(rows.take k).all (jO a b)=true/\Grew w wr):=⟨y,z,J⟩
    by_cases f:k<rows.length
    ·have ax:(k:Int)<(rows.length:Int):=by omega
     obtain⟨ay,az,u,rfl,aA,aB,aC⟩:=am k f;have aD:(rows.getD k []).length=256:=by
      rw[lW,lV f];exact an _ (List.getElem_mem f)
     obtain⟨B,C,aE,rfl,K,_,_,L⟩:=aC.block (by omega);have d:∀x i,S x->wr.cell? ⟨x,i,none⟩=w.cell? ⟨x,i,none⟩:=λx i c=>gW (J.block x (r x c) (by have:=r x c;omega));have Y:wr.cell? ⟨ay,az+k,none⟩=some (slice (some ⟨B,C,none⟩) 256 aE):=by rw[d _ _ aA,aB,aD]
     have aa:wr.cell? ⟨B,C+a,none⟩=some (iX ((rows.getD k []).getD a 0)):=by rw[d _ _ K,L a (by omega)]
     have ab:wr.cell? ⟨B,C+b,none⟩=some (iX ((rows.getD k []).getD b 0)):=by rw[d _ _ K,L b (by omega)]
     have aF:Hid ((rows.take (k+1)).all (jO a b)=((rows.take k).all (jO a b)&&((rows.getD k []).getD a 0==(rows.getD k []).getD b 0))):=by
      show _=_;rw[List.take_succ_eq_append_getElem f,List.all_append,lW (l:=rows),lV f];simp[jO]
     have aG:Hid (((rows.getD k []).getD a 0==(rows.getD k []).getD b 0)=false->rows.all (jO a b)=false):=by
      intro c;rw[List.all_eq_false];refine⟨rows[k],List.getElem_mem f,?_⟩;rw[lW (l:=rows),lV f] at c;simpa[jO] using c
     have aT:(a:Int)<256:=by omega
     have aU:(b:Int)<256:=by omega
     generalize (rows.getD k []).getD a 0=D at *;generalize (rows.getD k []).getD b 0=E at *;by_cases c:D=E
     ·have aH:(D != E)=false:=by simp[c]
      have p:Hid ((rows.take (k+1)).all (jO a b)=true):=by show _=_;rw[aF.out,g.out.2.1,c];simp
      go_wp2;go_quiet (fail);go_wp2;go_roundg (rows.length-(k+1))
      case measure=>rw[g.out.1];omega
      case rel=>exact⟨k+1,rfl,by omega,by go_num,p,g.2.2.trans (Keep.alike (w':=wr.drewN nq) ⟨rfl,rfl,rfl⟩)⟩
     ·have aH:(D != E)=true:=by simpa using c
      have p:=vl <| aG (by simpa using c);have F:Hid (zB0 ms a b=false):=by
       show _=_;unfold zB0;rw[<-List.take_append_drop (j+1) ms,List.all_append,I.out,p.out];simp
      go_wp2;go_quiet (fail);go_wp2;go_ret;exact⟨vK F.symm,g.2.2.trans (Keep.alike (w':=wr.drewN nq) ⟨rfl,rfl,rfl⟩)⟩
    ·have ax:(rows.length:Int)<=(k:Int):=by omega
     have p:Hid ((ms.take (j+1)).all (zAo a b)=true):=by
      show _=_;rw[I.out,s.out.2.1,<-List.take_of_length_le (l:=rows) (i:=k) (by omega),g.out.2.1];rfl
     go_wp2;go_roundg (ms.length-(j+1))
     case measure=>rw[s.out.1];omega
     case rel=>exact⟨j+1,rfl,by omega,by go_num,p,g.2.2⟩
  ·have T:(ms.length:Int)<=(j:Int):=by omega
   have F:Hid (zB0 ms a b=true):=by
    show _=_;unfold zB0;rw[<-List.take_of_length_le (l:=ms) (i:=j) (by omega)];exact s.2.1
   go_wp2;go_ret;exact⟨vK F.symm,s.2.2⟩
def OwnI (w:World)(H:Nat)(v:Value)(l:List Int):Prop:=w.ownsRow H 3 1 v l.length (l.map λx=>int i64 x)
theorem OwnI.snoc {w:World}{H g cap:Nat}{l:List Int}{x:Int}(a:w.ownsRow H 3 1 (slice (qX g) (l.length+1) cap) (l.length+1) (l.map (λx=>iX x)++[iX x])):OwnI w H (slice (qX g) (l.length+1) cap) (l++[x]):=by
 unfold OwnI;rw[kX,List.map_append];exact a
theorem OwnI.raw {w:World}{H:Nat}{v:Value}{l:List Int}(a:OwnI w H v l):w.ownsRow H 3 1 v l.length (l.map λx=>iX x):=a
theorem OwnI.nil (w:World)(H:Nat):OwnI w H nX []:=ownsRow_nil _ _ _ _
theorem OwnI.form {w:World}{H:Nat}{v:Value}{l:List Int}(a:OwnI w H v l):∃ao cap,v=slice ao l.length cap:=zF a
theorem zL {w w':World}{H e a n:Nat}{v:Value}{xs:List Value}(b:w.ownsRow H e a v n xs)(d:Grew w w'):w'.ownsRow H e a v n xs:=by
 refine⟨b.1,b.2.imp id ?_⟩;rintro⟨g,cap,f,j,k,c,l⟩;have m:=(kQ.1 c).1;exact⟨g,cap,f,j,k,(d.block g m (by omega)).trans c,l⟩
theorem OwnI.cell {w:World}{H g cap n:Nat}{l:List Int}(c:OwnI w H (slice (qX g) n cap) l)(i:Nat)(a:i<l.length):w.cell? ⟨g,i,none⟩=some (iX (l.getD i 0)):=by
 have b:=World.ownsRow.cells c (g:=g) rfl i (iX (l.getD i 0)) (by
  rw[gZ,lV a,lW,lV a];rfl)
 rw[Addr.add_lit,Nat.zero_add] at b;exact b
def vD (ms:List Sm)(b:Nat):Nat:=(List.range b).findIdx λa=>zB0 ms a b
theorem zHp (ms:List Sm)(b:Nat):vD ms b<=b:=by
 have c:=List.findIdx_le_length (xs:=List.range b) (p:=λa=>zB0 ms a b);rw[List.length_range] at c;exact c
theorem zEn (w:World)(S:Nat->Prop)(v:Value)(ms:List Sm)(t:ModesAt w S v ms)(g:∀k,S k->k<w.heap.size)(u:Wide ms)(x:ms.length<=3)(y:∀m∈ms,m.next.length<=200)(b:Nat)(z:b<256):
  Calls prog 98 #[v,iX b] w λe w'=>e=returned (iX (vD ms b:Nat))/\Grew w w':=by
 have A:=vl t;go_in;go_wp2;go_loopg [5] b (λq i wr=>∃j:Nat,q=b-j/\j<=b/\i=iX (j:Int)/\(∀a,a<j->zB0 ms a b=false)/\Grew w wr)
 case atStart=>exact⟨0,rfl,lX,rfl,λa f=>by omega,Keep.refl _ _ _⟩
 case round=>
  obtain⟨j,B,H,rfl,C,d⟩:=hrel;have c:Hid (gk=b-j/\(∀a,a<j->zB0 ms a b=false)/\Grew w wr):=⟨B,C,d⟩
  by_cases D:j<b
  ·have E:(j:Int)<(b:Int):=by omega
   go_wp2_with fail;refine(zEX wr S v ms (A.keep λk d=>c.2.2.block k (g k d) (by have:=g k d;omega)) (λk d=>lZ (g k d) c.2.2.size) u x y j b (by omega) z).mono ?_;rintro e w1 ⟨rfl,F⟩;have o:=vl <| c.2.2.th F;cases r:zB0 ms j b with
   |true=>
    have l:Hid (vD ms b=j):=by
     show _=_;unfold vD;rw[List.findIdx_eq (by simpa using D)];refine⟨by simpa using r,λa f=>by simpa using c.2.1 a (by simpa using f)⟩
    go_wp2;go_ret;exact⟨zBb (by rw[l.out]),o⟩
   |false=>
    have G:=vl r;go_wp2;go_roundg (b-(j+1))
    case measure=>rw[c.out.1];omega
    case rel=>exact⟨j+1,rfl,by omega,by go_num,λa f=>by(by_cases e:a=j;exact e ▸ G;exact c.2.1 a (by omega)),o⟩
  ·have E:(b:Int)<=(j:Int):=by omega
   have l:Hid (vD ms b=b):=by
    show _=_;unfold vD;have s:=List.findIdx_eq_length (xs:=List.range b) (p:=λa=>zB0 ms a b);rw[List.length_range] at s;refine s.2 λa f=>?_;simpa using c.2.1 a (by have:=List.mem_range.1 f;omega)
   go_wp2;go_ret;exact⟨zBb (by rw[l.out]),c.2.2⟩
def zB (ms:List Sm):Nat->List Int×Nat
 |0=>([],0)
 |b+1=>if vD ms b<b then((zB ms b).1++[(zB ms b).1.getD (vD ms b) 0],(zB ms b).2) else((zB ms b).1++[((zB ms b).2:Int)],(zB ms b).2+1)
theorem qZ (ms:List Sm)(b:Nat):(zB ms b).1.length=b/\(zB ms b).2<=b:=by
 induction b with
 |zero=>exact⟨rfl,lQ⟩
 |succ b a=>
  rw[zB];split
  ·exact⟨by simp[a.1],by show(zB ms b).2<=b+1;omega⟩
  ·exact⟨by simp[a.1],by show(zB ms b).2+1<=b+1;omega⟩
theorem zGJ (w:World)(S:Nat->Prop)(v:Value)(ms:List Sm)(P:ModesAt w S v ms)(t:∀k,S k->k<w.heap.size)(R:Wide ms)(T:ms.length<=3)(U:∀m∈ms,m.next.length<=200):
  Calls prog 63 #[v] w λe w'=>∃u,e=returned (tuple #[u,iX ((zB ms 256).2:Nat)])/\OwnI w' w.heap.size u (zB ms 256).1/\Grew w w':=by
 have ⟨D,E,F,G,H⟩:=info_parts yW;have V:=vl P;go_in;go_wp2;go_loopg [4,5,6] 256 (λq W cnt i wr=>∃j:Nat,q=256-j/\j<=256/\i=iX (j:Int)/\cnt=iX ((zB ms j).2:Nat)/\OwnI wr w.heap.size W (zB ms j).1/\Grew w wr)
 case atStart=>exact⟨0,rfl,lX,rfl,rfl,OwnI.nil _ _,Keep.refl _ _ _⟩
 case round=>
  obtain⟨j,X,aj,rfl,rfl,I,c⟩:=hrel;have b:Hid (gk=256-j/\OwnI wr w.heap.size u4 (zB ms j).1/\Grew w wr):=⟨X,I,c⟩
  have Y:=qZ ms j;have ⟨ao,cap,aa⟩:=I.form;subst aa;by_cases ab:j<256
  ·have ac:(j:Int)<256:=by omega
   go_wp2_with fail;refine(zEn wr S v ms (V.keep λk c=>b.2.2.block k (t k c) (by have:=t k c;omega)) (λk c=>lZ (t k c) b.2.2.size) R T U j ab).mono ?_;rintro e w1 ⟨rfl,J⟩;have y:=vl <| b.2.2.th J;have r:Hid (OwnI w1 w.heap.size (slice ao (zB ms j).1.length cap) (zB ms j).1):=zL b.2.1 J;have K:=y.size;have L:Hid (zB ms (j+1)=if vD ms j<j then((zB ms j).1++[(zB ms j).1.getD (vD ms j) 0],(zB ms j).2) else((zB ms j).1++[((zB ms j).2:Int)],(zB ms j).2+1)):=rfl;have ak:=zHp ms j;generalize vD ms j=f at *;generalize (zB ms j).1=l at *;generalize (zB ms j).2=cnt at *;obtain⟨ad,al⟩:=Y;have am:l.length<=j:=by omega
   have an:j<=l.length:=by omega
   clear ad;have s:=vl r;by_cases M:f<j
   ·have ae:(f:Int)<(j:Int):=by omega
    have d:Hid (zB ms (j+1)=(l++[l.getD f 0],cnt)):=by show _=_;rw[L.out,if_pos M]
    have af:ao≠none:=by
     intro e;rcases r.out.2 with⟨a,N⟩|⟨g,_,_,a,_⟩
     ·have ap:=N
      omega
     ·rw[e] at a;cases a
    obtain⟨g,rfl⟩:∃g,ao=some ⟨g,0,none⟩:=by
     rcases r.out.2 with⟨a,N⟩|⟨g,_,_,a,_⟩
     ·injection a with a _ _
      exact absurd a af
     ·injection a with a _ _
      exact⟨g,a⟩
    have aq:=r.cell f (by show f<l.length;omega);have ar:(f:Int)<(l.length:Int):=by omega
    generalize l.getD f 0=x at *;go_wp2_with (at_builtin;refine wpList_append_lies _ rfl _ _ 45 rfl (w.heap.size) 3 D zX 1 8 underlying45 E F G H rfl (by decide) _ _ _ rfl (s.alloc _) ⟨w1.heap.size,0,none⟩ 1 1 [iX x] rfl rfl (cell_one_new _ _ _) (by intro u o;simp at o;subst o;rfl) (by decide) (by unfold maxLen;omega) (by omega) (by simp;omega) _ rfl ?_;intro z cap w2 A B ag ah;have C:=xU s B K)
    have p:Hid (OwnI w2 w.heap.size (slice (qX z) (l.length+1) cap) (l++[x])/\Grew w w2):=⟨OwnI.snoc A,y.trans (xS C)⟩
    go_wp2;go_roundg (256-(j+1))
    case measure=>rw[b.out.1];omega
    case rel=>exact⟨j+1,rfl,by omega,by go_num,by rw[d.out],by rw[d.out];exact p.1,p.2⟩
   ·have ae:(j:Int)<=(f:Int):=by omega
    have d:Hid (zB ms (j+1)=(l++[(cnt:Int)],cnt+1)):=by show _=_;rw[L.out,if_neg M]
    go_wp2_with (at_builtin;refine wpList_append_lies _ rfl _ _ 45 rfl (w.heap.size) 3 D zX 1 8 underlying45 E F G H rfl (by decide) _ _ _ rfl (s.alloc _) ⟨w1.heap.size,0,none⟩ 1 1 [iX (cnt:Int)] rfl rfl (cell_one_new _ _ _) (by intro u o;simp at o;subst o;rfl) (by decide) (by unfold maxLen;omega) (by omega) (by simp;omega) _ rfl ?_;intro z cap w2 A B ag ah;have C:=xU s B K)
    have p:Hid (OwnI w2 w.heap.size (slice (qX z) (l.length+1) cap) (l++[(cnt:Int)])/\Grew w w2):=⟨OwnI.snoc A,y.trans (xS C)⟩
    go_wp2;go_roundg (256-(j+1))
    case measure=>rw[b.out.1];omega
    case rel=>exact⟨j+1,rfl,by omega,by go_num,by rw[d.out];go_num,by rw[d.out];exact p.1,p.2⟩
  ·have ai:j=256:=by omega
   have ac:(256:Int)<=(j:Int):=by omega
   have O:Hid (zB ms j=zB ms 256):=by show _=_;rw[ai]
   go_wp2;go_ret2
   refine⟨slice ao (zB ms j).1.length cap,congrArg (λn:Nat=>Ending.returned (tuple #[slice ao (zB ms j).1.length cap,iX (n:Int)])) (congrArg Prod.snd O),?_,b.2.2⟩;rw[<-O.out];exact b.2.1
def zR (kinds row:List Int)(first:Int):Nat->List Int
 |0=>[]
 |b+1=>if kinds.getD b 0=((zR kinds row first b).length:Int) then zR kinds row first b++[first+row.getD b 0] else zR kinds row first b
theorem zJL (kinds row:List Int)(first:Int)(b:Nat):(zR kinds row first b).length<=b:=by
 induction b with
 |zero=>exact lQ
 |succ b a=>
  rw[zR];split
  ·simp;omega
  ·omega
theorem zIo (w:World)(S:Nat->Prop)(p:Nat)(m rv:Value)(kinds row:List Int)(first:Nat)(o:w.cell? ⟨p,6,none⟩=some m)(D:p<w.heap.size)(r:∀k,S k->k<w.heap.size)(E:Ints w S m kinds)(F:Ints w S rv row)(G:kinds.length=256)(H:row.length=256)(ak:first<=200)(I:∀i,i<256->0<=row.getD i 0/\row.getD i 0<=200):
  Calls prog 99 #[pX p,rv,iX first] w λe w'=>∃u,e=returned u/\OwnI w' w.heap.size u (zR kinds row first 256)/\Grew w w':=by
 have ⟨J,K,L,M,N⟩:=info_parts yW;obtain⟨s,ok,al,rfl,O,_,_,t⟩:=E.block (by omega);obtain⟨v,am,an,rfl,P,_,_,y⟩:=F.block (by omega);rw[G] at o t;rw[H] at y ⊢;have R:=vl t;have T:=vl y;have U:=r s O;have V:=r v P;have W:=vl I;go_in;go_wp2;go_loopg [7,12] 256 (λq X i wr=>∃j:Nat,q=256-j/\j<=256/\i=iX (j:Int)/\OwnI wr w.heap.size X (zR kinds row first j)/\Grew w wr)
 case atStart=>exact⟨0,rfl,lX,rfl,OwnI.nil _ _,Keep.refl _ _ _⟩
 case round=>
  obtain⟨j,Y,ap,rfl,z,a⟩:=hrel;have b:Hid (gk=256-j/\Grew w wr):=⟨Y,a⟩
  have aq:=zJL kinds row first j
  have ⟨ao,cap,aa⟩:=z.form;subst aa;have ab:=a.size;have c:=vl z;by_cases f:j<256
  ·have ac:(j:Int)<256:=by omega
   have ar:=(gW (a.block p D (by omega))).trans o;have au:=(gW (a.block s U (by omega))).trans (R j f);have av:=(gW (a.block v V (by omega))).trans (T j f);have ⟨aw,ax⟩:=W j f;have A:Hid (zR kinds row first (j+1)=if kinds.getD j 0=((zR kinds row first j).length:Int) then zR kinds row first j++[first+row.getD j 0] else zR kinds row first j):=rfl;generalize zR kinds row first j=l at *
   generalize kinds.getD j 0=g at *;generalize row.getD j 0=x at *;by_cases d:g=(l.length:Int)
   ·have ad:(g==(l.length:Int))=true:=by simpa using d
    have h:Hid (zR kinds row first (j+1)=l++[first+x]):=by show _=_;rw[A.out,if_pos d]
    go_wp2_with (at_builtin;refine wpList_append_lies _ rfl _ _ 45 rfl (w.heap.size) 3 J zX 1 8 underlying45 K L M N rfl (by decide) _ _ _ rfl (c.alloc _) ⟨wr.heap.size,0,none⟩ 1 1 [iX ((first:Int)+x)] rfl rfl (cell_one_new _ _ _) (by intro u B;simp at B;subst B;rfl) (by decide) (by unfold maxLen;omega) (by omega) (by simp;omega) _ rfl ?_;intro ae cap w2 af ag ay az;have ah:=xU c ag ab)
    have C:Hid (OwnI w2 w.heap.size (slice (qX ae) (l.length+1) cap) (l++[(first:Int)+x])/\Grew w w2):=⟨OwnI.snoc af,b.2.trans (xS ah)⟩
    go_wp2;go_roundg (256-(j+1))
    case measure=>rw[b.out.1];omega
    case rel=>exact⟨j+1,rfl,by omega,by go_num,by rw[h.out];exact C.1,C.2⟩
   ·have ad:(g==(l.length:Int))=false:=by simpa using d
    have h:Hid (zR kinds row first (j+1)=l):=by show _=_;rw[A.out,if_neg d]
    go_wp2;go_roundg (256-(j+1))
    case measure=>rw[b.out.1];omega
    case rel=>exact⟨j+1,rfl,by omega,by go_num,by rw[h.out];exact c,b.2⟩
  ·have ai:j=256:=by omega
   have ac:(256:Int)<=(j:Int):=by omega
   have aj:Hid (zR kinds row first j=zR kinds row first 256):=by show _=_;rw[ai]
   generalize zR kinds row first j=l at *
   go_wp2;go_ret;exact⟨_,rfl,by rw[<-aj.out];exact c,b.2⟩
section
variable {w w2:World} {H p g cap:Nat} {c:Tc} {kinds acts pushed starts ends:List Int}
def Rest (w:World)(p:Nat)(c:Tc)(k:Nat):Prop:=k<w.heap.size/\k≠p/\some k≠c.starts.ownBlock/\some k≠c.next.ownBlock/\some k≠c.ends.ownBlock
def Fin (w:World)(S:Nat->Prop)(H:Nat)(v:Value)(l:List Int):Prop:=OwnI w H v l/\∀g,v.ownBlock=some g->S g
theorem Fin.keep {w w':World}{S c:Nat->Prop}{H:Nat}{v:Value}{l:List Int}(a:Fin w S H v l)(e:∀k,H<=k->S k->w'.heap[k]? =w.heap[k]? /\c k):Fin w' c H v l:=
 ⟨zE a.1 λg d _ b=>(e g d (a.2 g b)).1,λg b=>(e g (a.1.lt g b).1 (a.2 g b)).2⟩
theorem Fin.ints {S:Nat->Prop}{H:Nat}{v:Value}{l:List Int}(a:Fin w S H v l):Ints w S v l:=zCc a.1 a.2
structure Gt (w:World)(H p:Nat)(c:Tc)(kinds acts pushed starts ends:List Int)(next:List (List Int)):Prop where
 tp:xH w p c
 starts:OwnI w H c.starts starts
 ends:OwnI w H c.ends ends
 next:∃rv:Nat->Value,w.ownsRow H 45 1 c.next next.length ((List.range next.length).map rv)/\∀i,i<next.length->Fin w (Rest w p c) H (rv i) (next.getD i [])
 kinds:Fin w (Rest w p c) H c.kinds kinds
 acts:Fin w (Rest w p c) H c.acts acts
 pushed:Fin w (Rest w p c) H c.pushed pushed
 HH:H<=w.heap.size
 sep:∀g,c.starts.ownBlock=some g->c.ends.ownBlock≠some g
theorem Gt.grown {w w':World}{H p:Nat}{c:Tc}{kinds acts pushed starts ends:List Int}{next:List (List Int)}(a:Gt w H p c kinds acts pushed starts ends next)(f:Grew w w'):Gt w' H p c kinds acts pushed starts ends next:=by
 have j:=a.HH;have l:=a.tp.lt;have b:∀k,k<w.heap.size->w'.heap[k]? =w.heap[k]? :=λk m=>f.block k m (by omega);have e:∀k,H<=k->Rest w p c k->w'.heap[k]? =w.heap[k]? /\Rest w' p c k:=λk _ g=>⟨b k g.1,lZ g.1 f.size,g.2⟩
 have ⟨rv,o,q⟩:=a.next
 exact⟨a.tp.of_block (b p l),zE a.starts λk _ d _=>b k d,zE a.ends λk _ d _=>b k d,⟨rv,zE o λk _ d _=>b k d,λi r=>(q i r).keep e⟩,a.kinds.keep e,a.acts.keep e,a.pushed.keep e,lY j f.size,a.sep⟩
structure Turn (H p:Nat)(w:World)(c:Tc)(w':World)(c':Tc):Prop where
 rest:∀k,H<=k->Rest w p c k->w'.heap[k]? =w.heap[k]? /\Rest w' p c' k
 keep:Keep H p w w'
 same:c'={c with starts:=c'.starts,next:=c'.next,ends:=c'.ends}
theorem Turn.refl (H p:Nat)(w:World)(c:Tc):Turn H p w c w c:=⟨λ_ _ a=>⟨rfl,a⟩,Keep.refl _ _ _,rfl⟩
theorem Turn.trans {w w' e:World}{c f g:Tc}(a:Turn H p w c w' f)(k:Turn H p w' f e g):Turn H p w c e g:=
 ⟨λi b d=>⟨((k.rest i b (a.rest i b d).2).1).trans (a.rest i b d).1,(k.rest i b (a.rest i b d).2).2⟩,a.keep.trans k.keep,k.same.trans (by rw[a.same])⟩
theorem Turn.grown {w w':World}{c:Tc}(b:Grew w w')(d:H<=w.heap.size):Turn H p w c w' c:=
 ⟨λk _ a=>⟨b.block k a.1 (by have:=a.1;omega),lZ a.1 b.size,a.2⟩,b.lower d d,rfl⟩
theorem xZ {H e a b c n m:Nat}{v u:Value}{xs d:List Value}(f:w.ownsRow H e b v n xs)(j:w.ownsRow H a c u m d)(k:e≠a){g:Nat}(l:v.ownBlock=some g):some g≠u.ownBlock:=λo=>zG5 f j k l o.symm
theorem jK {H b e g n:Nat}{c:Tc}{v:Value}{xs:List Value}(a:xH w b c)(j:w.ownsRow H e g v n xs)(k:e≠90):some b≠v.ownBlock:=by
 intro d;rcases j.2 with⟨f,_⟩|⟨l,_,q,f,_,m,_⟩
 ·rw[f] at d;cases d
 ·rw[f] at d
  have o:b=l:=by simpa[Value.ownBlock] using d
  subst o;unfold xH at a;rw[m] at a;injection a with a;injection a with _ p _;exact k p
theorem zD (w:World)(a:Addr)(v:Value):(w.setCell a v).heap.size=w.heap.size:=by simp[World.setCell]
theorem Gt.starts_app {next:List (List Int)}{x:Int}(a:Gt w H p c kinds acts pushed starts ends next)
  (G:OwnI w2 H (slice (qX g) (starts.length+1) cap) (starts++[x])) (m:∀k,k<w.heap.size->some k≠c.starts.ownBlock->w2.heap[k]? =w.heap[k]?) (I:w.heap.size<=w2.heap.size) (s:w2.os=w.os/\w2.output=w.output) (t:c.starts.ownBlock=some g\/w.heap.size<=g):
  Gt (w2.setCell ⟨p,3,none⟩ (slice (qX g) (starts.length+1) cap)) H p {c with starts:=slice (qX g) (starts.length+1) cap} kinds acts pushed (starts++[x]) ends next/\Turn H p w c (w2.setCell ⟨p,3,none⟩ (slice (qX g) (starts.length+1) cap)) {c with starts:=slice (qX g) (starts.length+1) cap}:=by
 have J:=a.tp.lt;have T:=a.HH;have ⟨K,u,L⟩:=a.next
 have y:=G.raw;have A:=m p J (jK a.tp a.starts.raw (by decide));have M:g≠p:=λe=>by
  subst e;exact jK (a.tp.of_block A) y (by decide) rfl
 have o:∀k,k≠p->(w2.setCell ⟨p,3,none⟩ (slice (qX g) (starts.length+1) cap)).heap[k]? =w2.heap[k]? :=λk b=>lJ _ _ _ _ b;have f:∀k,H<=k->Rest w p c k->(w2.setCell ⟨p,3,none⟩ (slice (qX g) (starts.length+1) cap)).heap[k]? =w.heap[k]? /\Rest (w2.setCell ⟨p,3,none⟩ (slice (qX g) (starts.length+1) cap)) p {c with starts:=slice (qX g) (starts.length+1) cap} k:=by
  rintro k b ⟨B,C,d,N,O⟩;refine⟨(o k C).trans (m k B d),by rw[zD];omega,C,?_,N,O⟩;intro e;have j:k=g:=by simpa[Value.ownBlock] using e
  subst j;rcases t with l|l
  ·exact d l.symm
  ·omega
 have D:∀{e E n v xs},w.ownsRow H e E v n xs->e≠90->(∀k,v.ownBlock=some k->some k≠c.starts.ownBlock)->(w2.setCell ⟨p,3,none⟩ (slice (qX g) (starts.length+1) cap)).ownsRow H e E v n xs:=λF q P=>zE F λk _ d b=>(o k (λr=>jK a.tp F q (by rw[b,r]))).trans (m k d (P k b));have R:=zE (w':=(w2.setCell ⟨p,3,none⟩ (slice (qX g) (starts.length+1) cap))) y λk _ _ b=>o k (λr=>M (by have j:g=k:=(by simpa[Value.ownBlock] using b);rw[j,r]));refine⟨?_,f,⟨s.1,s.2,by rw[zD];exact I,λk B d=>(o k d).trans (m k (by omega) λe=>by have:=(a.starts.raw.lt k e.symm).1;omega)⟩,rfl⟩;refine⟨(a.tp.of_block A).set_starts _,?_,D a.ends (by decide) λk b e=>a.sep k e.symm b,⟨K,D u (by decide) λk b=>xZ u a.starts.raw (by decide) b,λi S=>(L i S).keep f⟩,a.kinds.keep f,a.acts.keep f,a.pushed.keep f,by rw[zD];omega,?_⟩
 ·exact R
 intro k b;have j:g=k:=by simpa[Value.ownBlock] using b
 subst j;intro q;rcases t with l|l
 ·exact a.sep g l q
 ·have:=(a.ends.lt g q).2
  omega
theorem Gt.ends_app {next:List (List Int)}{x:Int}(a:Gt w H p c kinds acts pushed starts ends next)
  (I:OwnI w2 H (slice (qX g) (ends.length+1) cap) (ends++[x])) (m:∀k,k<w.heap.size->some k≠c.ends.ownBlock->w2.heap[k]? =w.heap[k]?) (J:w.heap.size<=w2.heap.size) (s:w2.os=w.os/\w2.output=w.output) (t:c.ends.ownBlock=some g\/w.heap.size<=g):
  Gt (w2.setCell ⟨p,9,none⟩ (slice (qX g) (ends.length+1) cap)) H p {c with ends:=slice (qX g) (ends.length+1) cap} kinds acts pushed starts (ends++[x]) next/\Turn H p w c (w2.setCell ⟨p,9,none⟩ (slice (qX g) (ends.length+1) cap)) {c with ends:=slice (qX g) (ends.length+1) cap}:=by
 have K:=a.tp.lt;have T:=a.HH;have ⟨L,u,M⟩:=a.next
 have y:=I.raw;have A:=m p K (jK a.tp a.ends.raw (by decide));have N:g≠p:=λe=>by
  subst e;exact jK (a.tp.of_block A) y (by decide) rfl
 have o:∀k,k≠p->(w2.setCell ⟨p,9,none⟩ (slice (qX g) (ends.length+1) cap)).heap[k]? =w2.heap[k]? :=λk b=>lJ _ _ _ _ b;have d:∀k,H<=k->Rest w p c k->(w2.setCell ⟨p,9,none⟩ (slice (qX g) (ends.length+1) cap)).heap[k]? =w.heap[k]? /\Rest (w2.setCell ⟨p,9,none⟩ (slice (qX g) (ends.length+1) cap)) p {c with ends:=slice (qX g) (ends.length+1) cap} k:=by
  rintro k b ⟨B,C,f,O,D⟩;refine⟨(o k C).trans (m k B D),by rw[zD];omega,C,f,O,?_⟩;intro e;have j:k=g:=by simpa[Value.ownBlock] using e
  subst j;rcases t with l|l
  ·exact D l.symm
  ·omega
 have E:∀{e F n v xs},w.ownsRow H e F v n xs->e≠90->(∀k,v.ownBlock=some k->some k≠c.ends.ownBlock)->(w2.setCell ⟨p,9,none⟩ (slice (qX g) (ends.length+1) cap)).ownsRow H e F v n xs:=λG q P=>zE G λk _ f b=>(o k (λr=>jK a.tp G q (by rw[b,r]))).trans (m k f (P k b));have R:=zE (w':=(w2.setCell ⟨p,9,none⟩ (slice (qX g) (ends.length+1) cap))) y λk _ _ b=>o k (λr=>N (by have j:g=k:=(by simpa[Value.ownBlock] using b);rw[j,r]));refine⟨?_,d,⟨s.1,s.2,by rw[zD];exact J,λk B f=>(o k f).trans (m k (by omega) λe=>by have:=(a.ends.raw.lt k e.symm).1;omega)⟩,rfl⟩;refine⟨(a.tp.of_block A).set_ends _,E a.starts (by decide) λk b e=>a.sep k b e.symm,?_,⟨L,E u (by decide) λk b=>xZ u a.ends.raw (by decide) b,λi S=>(M i S).keep d⟩,a.kinds.keep d,a.acts.keep d,a.pushed.keep d,by rw[zD];omega,?_⟩
 ·exact R
 intro k b q;have j:g=k:=by simpa[Value.ownBlock] using q
 subst j;rcases t with l|l
 ·exact a.sep g b l
 ·have:=(a.starts.lt g b).2
  omega
theorem Gt.next_app {next:List (List Int)}{u:Value}{l:List Int}(a:Gt w H p c kinds acts pushed starts ends next)
  (rv:Nat->Value) (J:∀i,i<next.length->Fin w (Rest w p c) H (rv i) (next.getD i [])) (K:Fin w (Rest w p c) H u l) (L:w2.ownsRow H 45 1 (slice (qX g) (next.length+1) cap) (next.length+1) ((List.range next.length).map rv++[u])) (j:∀k,k<w.heap.size->some k≠c.next.ownBlock->w2.heap[k]? =w.heap[k]?) (M:w.heap.size<=w2.heap.size) (x:w2.os=w.os/\w2.output=w.output) (N:c.next.ownBlock=some g\/w.heap.size<=g):
  Gt (w2.setCell ⟨p,8,none⟩ (slice (qX g) (next.length+1) cap)) H p {c with next:=slice (qX g) (next.length+1) cap} kinds acts pushed starts ends (next++[l])/\Turn H p w c (w2.setCell ⟨p,8,none⟩ (slice (qX g) (next.length+1) cap)) {c with next:=slice (qX g) (next.length+1) cap}:=by
 have O:=a.tp.lt;have V:=a.HH;have ⟨W,m,X⟩:=a.next
 have y:=L;have A:=j p O (jK a.tp m (by decide));have P:g≠p:=λe=>by
  subst e;exact jK (a.tp.of_block A) y (by decide) rfl
 have o:∀k,k≠p->(w2.setCell ⟨p,8,none⟩ (slice (qX g) (next.length+1) cap)).heap[k]? =w2.heap[k]? :=λk b=>lJ _ _ _ _ b;have d:∀k,H<=k->Rest w p c k->(w2.setCell ⟨p,8,none⟩ (slice (qX g) (next.length+1) cap)).heap[k]? =w.heap[k]? /\Rest (w2.setCell ⟨p,8,none⟩ (slice (qX g) (next.length+1) cap)) p {c with next:=slice (qX g) (next.length+1) cap} k:=by
  rintro k b ⟨B,C,f,D,R⟩;refine⟨(o k C).trans (j k B D),by rw[zD];omega,C,f,?_,R⟩;intro e;have q:k=g:=by simpa[Value.ownBlock] using e
  subst q;rcases N with E|E
  ·exact D E.symm
  ·omega
 have F:∀{e G n v xs},w.ownsRow H e G v n xs->e≠90->(∀k,v.ownBlock=some k->some k≠c.next.ownBlock)->(w2.setCell ⟨p,8,none⟩ (slice (qX g) (next.length+1) cap)).ownsRow H e G v n xs:=λI S T=>zE I λk _ f b=>(o k (λr=>jK a.tp I S (by rw[b,r]))).trans (j k f (T k b));have U:=zE y λk _ _ b=>o k (λr=>P (by have q:g=k:=(by simpa[Value.ownBlock] using b);rw[q,r]));refine⟨?_,d,⟨x.1,x.2,by rw[zD];exact M,λk B f=>(o k f).trans (j k (by omega) λe=>by have:=(m.lt k e.symm).1;omega)⟩,rfl⟩;refine⟨(a.tp.of_block A).set_next _,F a.starts.raw (by decide) λk b=>xZ a.starts.raw m (by decide) b,F a.ends.raw (by decide) λk b=>xZ a.ends.raw m (by decide) b,⟨λi=>if i=next.length then u else rv i,?_,?_⟩,a.kinds.keep d,a.acts.keep d,a.pushed.keep d,by rw[zD];omega,a.sep⟩
 ·have e:(List.range (next++[l]).length).map (λi=>if i=next.length then u else rv i)=(List.range next.length).map rv++[u]:=by
   rw[kX,List.length_singleton,zAn,if_pos rfl]
   congr 1
   exact List.map_congr_left λi s=>if_neg (by have:=List.mem_range.1 s;omega)
  rw[e,kX];exact U
 ·intro i s
  rw[kX,List.length_singleton] at s;by_cases e:i=next.length
  ·subst e
   simp only[if_true];have t:(next++[l]).getD next.length []=l:=by simp
   rw[t];exact K.keep d
  ·show Fin _ _ _ (if i=next.length then u else rv i) _
   rw[if_neg e];have t:(next++[l]).getD i []=next.getD i []:=by
    rw[lW,kW (by omega),<-lW]
   rw[t];exact(J i (by omega)).keep d
end
section
attribute [local go_sem ↓] Go.wp_at_zero Go.wp_at_succ
def yL (rules:Nat)(r:Int):Int:=if r=-1 then r else r+rules
theorem zQW (J w:World)(H p K:Nat)(c0 c:Tc)(kinds acts pushed starts ends:List Int)(next:List (List Int))(P:Gt w H p c kinds acts pushed starts ends next)(ak rv al:Value)(S:Nat->Prop)(a:List Int)(am:w.heap[K]? =some (.cells #[ak,rv,al] 127))(an:Ints w S rv a)(ao:∀k,S k->k<H/\k≠p)(ap:Turn H p J c0 w c)
  (rules:Nat) (bW:rules<=8) (bX:ends.length+a.length<=200) (aq:∀i,i<a.length->-1<=a.getD i 0/\a.getD i 0<=8)
  {au av aw ax ay az aA aB aC aD aE aF aG aH aI aJ aK aL aM aN aO aP aQ aR aS aT aU aV aW aX aY aZ a0 a1 a2 a3 a4 a5 a6 a7 a8 a9 ba bb bc bd be bf bg bh bi bj bk bl bm bn bo bp bq bs bt bu bv bw bz bA bB bC bD bE:Value}:
  Code.wp prog (qE 4 ((f64.body).getD .skip)) (bodyPost prog f64 λe w'=>e=rX/\∃d,Gt w' H p d kinds acts pushed starts (ends++a.map (yL rules)) next/\Turn H p J c0 w' d)
   ⟨(pX p::au::iX rules::av::pX K::aw::ax::ay::az::aA::aB::aC::aD::aE::aF::aG::aH::aI::aJ::aK::aL::aM::aN::aO::aP::aQ::aR::aS::aT::aU::aV::aW::aX::aY::aZ::a0::a1::a2::a3::a4::a5::a6::a7::a8::a9::ba::bb::bc::bd::be::bf::bg::bh::bi::bj::bk::bl::bm::bn::bo::bp::bq::bs::bt::bu::bv::bw::bz::bA::bB::bC::bD::bE::[]).toArray,[]⟩ w:=by
 conv=>arg 2;whnf
 have ⟨R,T,U,V,W⟩:=info_parts yW;obtain⟨bF,bG,rfl,bY,bZ,bH⟩:=an;have bI:=vl bH;have X:Hid (Gt w H p c kinds acts pushed starts ends next/\Turn H p J c0 w c):=⟨P,ap⟩
 have bJ:=vl aq;have b0:cX w K 1=some (slice bF a.length bG):=by simp[World.cell?,am]
 have b3:=P.HH;go_wp2;go_loopg [53] a.length (λq i wr=>∃(j:Nat) (l:Tc),q=a.length-j/\j<=a.length/\i=iX (j:Int)/\Gt wr H p l kinds acts pushed starts (ends++(a.take j).map (yL rules)) next/\Turn H p w c wr l)
 case atStart=>exact⟨0,c,rfl,lX,rfl,by rw[List.take_zero,List.map_nil,dX];exact X.1,Turn.refl _ _ _ _⟩
 case round=>
  obtain⟨j,l,Y,b4,rfl,b,L⟩:=hrel;have v:Hid (gk=a.length-j/\Gt wr H p l kinds acts pushed starts (ends++(a.take j).map (yL rules)) next/\Turn H p w c wr l):=⟨Y,b,L⟩
  by_cases B:j<a.length
  ·have bK:(j:Int)<(a.length:Int):=by omega
   obtain⟨aa,b5,rfl,bL,bM⟩:=bI j B;have ⟨s1,s2⟩:=ao aa bL;have b6:=(gW (L.keep.block aa s1 s2)).trans bM;have ⟨m,o,C⟩:=b.ends.form;have ab:cX wr p 9=some (slice m (ends++(a.take j).map (yL rules)).length o):=by rw[<-C];exact b.tp.get_ends
   have ac:=b.tp.fz 9;have bN:Hid (ends++(a.take (j+1)).map (yL rules)=(ends++(a.take j).map (yL rules))++[yL rules (a.getD j 0)]):=by
    show _=_;rw[List.take_succ_eq_append_getElem B,List.map_append,gX,lW,lV B];rfl
   have b7:(ends++(a.take j).map (yL rules)).length<=200:=by
    rw[kX,kV,List.length_take];omega
   have ad:Hid (wr.ownsRow H 3 1 (slice m (ends++(a.take j).map (yL rules)).length o) (ends++(a.take j).map (yL rules)).length ((ends++(a.take j).map (yL rules)).map λx=>iX x)):=by have:=b.ends;rw[C] at this;exact this
   have af:=vl C;have b8:=b.HH;have D:=b.tp.lt;have bO:some p≠Value.ownBlock (slice m (ends++(a.take j).map (yL rules)).length o):=by rw[<-C];exact jK b.tp b.ends.raw (by decide)
   have ag:=vl bO;have ⟨b9,b2⟩:=bJ j B;generalize ca:ends++(a.take j).map (yL rules)=le at *;generalize a.getD j 0=x at *;have fin:∀(w2:World) (g cap:Nat) (y:Int),y=yL rules x->w2.ownsRow H 3 1 (slice (qX g) (le.length+1) cap) (le.length+1) ((le.map λx=>iX x)++[iX y])->(wr.alloc (.cells #[iX y] 3)).grownBy w2 (Value.ownBlock (slice m le.length o))->(Value.ownBlock (slice m le.length o)=some g\/g=(wr.alloc (.cells #[iX y] 3)).heap.size)->
     ∃d,Gt (w2.setCell ⟨p,9,none⟩ (slice (qX g) (le.length+1) cap)) H p d kinds acts pushed starts (ends++(a.take (j+1)).map (yL rules)) next/\Turn H p w c (w2.setCell ⟨p,9,none⟩ (slice (qX g) (le.length+1) cap)) d:=by
    intro w2 g cap y bP bQ E z;have f:=Gt.ends_app v.2.1 (w2:=w2) (g:=g) (cap:=cap) (x:=y) (OwnI.snoc bQ) (λk bR bS=>(E.block k (by simp;omega) (by rw[<-af.out];exact bS)).trans (lG _ _ _ bR)) (lY (by simp) E.size) ⟨E.os,E.output⟩ (by
     rw[af.out];rcases z with z|z
     ·exact .inl z
     ·right;rw[z];simp)
    rw[bN.out,<-bP];exact⟨_,f.1,v.2.2.trans f.2⟩
   have ah:=vl fin;by_cases r:x=-1
   ·have bT:(x != -1)=false:=by simp[r]
    have M:Hid (x=yL rules x):=by show _=_;rw[yL,if_pos r]
    clear r;go_wp2_with (at_builtin;refine wpList_append_lies _ rfl _ _ 45 rfl (H) 3 R zX 1 8 underlying45 T U V W rfl (by decide) _ _ _ rfl (ad.alloc _) ⟨wr.heap.size,0,none⟩ 1 1 [iX x] rfl rfl (cell_one_new _ _ _) (by intro u A;simp at A;subst A;rfl) (by decide) (by unfold maxLen;omega) (by omega) (by simp;omega) _ rfl ?_;intro N cap w2 F s G bU;have t:=s.block p (by simp;omega) ag;have ai:=(gW t).trans ((gU _ _ _ D).trans ab);have aj:=(gV t).trans ((frozen?_alloc_past _ _ _ D).trans ac);have I:=ah w2 N cap x M F s G)
    have O:Hid _:=I;go_wp2;go_roundg (a.length-(j+1))
    case measure=>rw[v.out.1];omega
    case rel=>exact O.elim λd f=>⟨j+1,d,rfl,by omega,by go_num,f⟩
   ·have bT:(x != -1)=true:=by simpa using r
    have M:Hid (x+rules=yL rules x):=by show _=_;rw[yL,if_neg r]
    clear r;go_wp2_with (at_builtin;refine wpList_append_lies _ rfl _ _ 45 rfl (H) 3 R zX 1 8 underlying45 T U V W rfl (by decide) _ _ _ rfl (ad.alloc _) ⟨wr.heap.size,0,none⟩ 1 1 [iX (x+(rules:Int))] rfl rfl (cell_one_new _ _ _) (by intro u A;simp at A;subst A;rfl) (by decide) (by unfold maxLen;omega) (by omega) (by simp;omega) _ rfl ?_;intro N cap w2 F s G bU;have t:=s.block p (by simp;omega) ag;have ai:cX w2 p 9=some (slice m le.length o):=(gW t).trans ((gU _ _ _ D).trans ab);have aj:w2.frozen? ⟨p,9,none⟩=false:=(gV t).trans ((frozen?_alloc_past _ _ _ D).trans ac);have I:=ah w2 N cap (x+(rules:Int)) M F s G)
    have O:Hid _:=I;clear I F s G t ai aj;go_wp2_with fail;go_roundg (a.length-(j+1))
    case measure=>rw[v.out.1];omega
    case rel=>exact O.elim λd f=>⟨j+1,d,rfl,by omega,by go_num,f⟩
  ·have bK:(a.length:Int)<=(j:Int):=by omega
   have bV:Hid (Gt wr H p l kinds acts pushed starts (ends++a.map (yL rules)) next):=by
    have f:=b;rw[List.take_of_length_le (by omega)] at f;exact f
   clear Y b L;go_wp2_with fail;go_end0;exact⟨rfl,l,bV,X.2.trans v.2.2⟩
end
section
attribute [local go_sem ↓] Go.wp_at_zero Go.wp_at_succ
theorem zQX (J w:World)(H p x:Nat)(c0 c:Tc)(kinds acts pushed starts ends:List Int)(next:List (List Int))(ac:Gt w H p c kinds acts pushed starts ends next)(ar rv O:Value)(S:Nat->Prop)(s:List Int)(d:List (List Int))(ad:w.heap[x]? =some (.cells #[ar,rv,O] 127))(af:H<=x/\Rest w p c x)(aN:IntRows w S ar d)(au:Ints w S rv s)(A:∀k,S k->k<H/\k≠p)(av:Turn H p J c0 w c)
  (rules first:Nat) (aO:rules<=8) (aP:ends.length+s.length<=200) (aw:∀i,i<s.length->-1<=s.getD i 0/\s.getD i 0<=8)
  (aQ:first<=200) (cK:next.length+d.length<=200) (m:kinds.length=256) (ax:∀i,i<d.length->(d.getD i []).length=256/\∀b,b<256->0<=(d.getD i []).getD b 0/\(d.getD i []).getD b 0<=200)
  {aR aS aT aU aV aW aX aY aZ a0 a2 a3 a4 a5 a6 a7 a8 a9 ba bb bc bd be bf bg bh bi bj bl bm bn bo bp bq bs bt bu bv bw bz bA bB bC bD bE bF bG bH bI bJ bK bL bM bN bO bP bQ bR bS bT bU bV bW bX bY bZ b0 b1 b3:Value}:
  Code.wp prog (qE 3 ((f64.body).getD .skip)) (bodyPost prog f64 λe w'=>e=rX/\∃B,Gt w' H p B kinds acts pushed starts (ends++s.map (yL rules)) (next++d.map λrow=>zR kinds row first 256)/\Turn H p J c0 w' B)
   ⟨(pX p::aR::iX rules::aS::pX x::aT::iX first::aU::aV::aW::aX::aY::aZ::a0::a2::a3::a4::a5::a6::a7::a8::a9::ba::bb::bc::bd::be::bf::bg::bh::bi::bj::bl::bm::bn::bo::bp::bq::bs::bt::bu::bv::bw::bz::bA::bB::bC::bD::bE::bF::bG::bH::bI::bJ::bK::bL::bM::bN::bO::bP::bQ::bR::bS::bT::bU::bV::bW::bX::bY::bZ::b0::b1::b3::[]).toArray,[]⟩ w:=by
 conv=>arg 2;whnf
 refine wp_seq_k ?_;intro b4 hK0;have b5:Hid (∀a w,_->b4 a w):=hK0;clear hK0;have ⟨b6,b7,b8,b9,ca⟩:=info_parts zF2;obtain⟨P,ag,rfl,cL,cM,ay⟩:=aN;have az:Hid (∀i,i<d.length->∃b o u,P=some ⟨b,o,none⟩/\S b/\cX w b (o+i)=some u/\Ints w S u (d.getD i [])):=ay;have L:Hid (Gt w H p c kinds acts pushed starts ends next/\Turn H p J c0 w c/\Ints w S rv s/\w.heap[x]? =some (.cells #[slice P d.length ag,rv,O] 127)/\Rest w p c x):=⟨ac,av,au,ad,af.2⟩
 have cb:Hid (∀i,i<d.length->(d.getD i []).length=256/\∀b,b<256->0<=(d.getD i []).getD b 0/\(d.getD i []).getD b 0<=200):=ax;have cc:Hid (∀i,i<s.length->-1<=s.getD i 0/\s.getD i 0<=8):=aw;have cd:Hid (kinds.length=256):=m;have cf:cX w x 0=some (slice P d.length ag):=by simp[World.cell?,ad]
 have cN:=ac.HH;have cg:=af.1;clear ay ac ad av aw au af m ax;go_wp2_with fail;clear cf;go_loopg [32] d.length (λq i wr=>∃(j:Nat) (f:Tc),q=d.length-j/\j<=d.length/\i=iX (j:Int)/\Gt wr H p f kinds acts pushed starts ends (next++(d.take j).map λrow=>zR kinds row first 256)/\Turn H p w c wr f)
 case atStart=>exact⟨0,c,rfl,lX,rfl,by rw[List.take_zero,List.map_nil,dX];exact L.1,Turn.refl _ _ _ _⟩
 case round=>
  obtain⟨j,f,ah,cO,rfl,v,z⟩:=hrel;have M:Hid (gk=d.length-j/\Gt wr H p f kinds acts pushed starts ends (next++(d.take j).map λrow=>zR kinds row first 256)/\Turn H p w c wr f):=⟨ah,v,z⟩
  by_cases N:j<d.length
  ·have ch:(j:Int)<(d.length:Int):=by omega
   obtain⟨ai,ci,u,rfl,ck,D,cl⟩:=az j N;have ⟨s1,s2⟩:=A ai ck;obtain⟨cP,cQ,aj,_⟩:=cl;have ak:=cb j N;have cm:cX wr ai (ci+j)=some u:=(gW (z.keep.block ai s1 s2)).trans D;rw[aj] at cm;have aA:Ints wr S u (d.getD j []):=(az j N).elim λb l=>l.elim λo l=>l.elim λcR l=>by
    obtain⟨C,cS,co,cp⟩:=l;injection C with C;injection C with cq cr;subst cq cr;rw[co] at D;injection D with D;subst D;exact cp.keep λk m=>z.keep.block k (A k m).1 (A k m).2
   have ⟨R,T,aB⟩:=v.next
   have ⟨E,F,U⟩:=zF T;have ct:cX wr p 8=some (slice E (next++(d.take j).map λrow=>zR kinds row first 256).length F):=by rw[<-U];exact v.tp.get_next
   have cu:=v.tp.fz 8;have aC:=v.tp.get_kinds;have G:p<wr.heap.size:=v.tp.lt;have cw:Hid (some p≠Value.ownBlock f.next):=jK v.tp T (by decide);have V:H<=wr.heap.size:=v.HH;have cx:Hid ((next++(d.take (j+1)).map λrow=>zR kinds row first 256)=(next++(d.take j).map λrow=>zR kinds row first 256)++[zR kinds (d.getD j []) first 256]):=by
    show _=_;rw[List.take_succ_eq_append_getElem N,List.map_append,gX,lW,lV N];rfl
   have cT:(next++(d.take j).map λrow=>zR kinds row first 256).length<=200:=by
    rw[kX,kV,List.length_take];omega
   have aD:Hid (∀y,y.Alike wr->Ca 99 #[pX p,u,iX first] y λe w'=>∃u,e=returned u/\OwnI w' y.heap.size u (zR kinds (d.getD j []) first 256)/\Grew y w'):=by
    intro y W;have al:∀k:Nat,y.heap[k]? =wr.heap[k]? :=λk=>by rw[W.1]
    exact zIo y (λk=>k<y.heap.size) p f.kinds u kinds (d.getD j []) first ((gW (al p)).trans aC) (by rw[W.1];exact G) (λk l=>l) ((v.kinds.ints.keep λk _=>al k).mono λk m=>by rw[W.1];exact m.1) ((aA.keep λk _=>al k).mono λk m=>by rw[W.1];exact lZ (A k m).1 V) cd ak.1 aQ ak.2
   rw[aj] at aD;have aE:Hid (wr.ownsRow H 45 1 (slice E (next++(d.take j).map λrow=>zR kinds row first 256).length F) (next++(d.take j).map λrow=>zR kinds row first 256).length ((List.range (next++(d.take j).map λrow=>zR kinds row first 256).length).map R)):=by have:=T;rw[U] at this;exact this
   have X:Hid (f.next=slice E (next++(d.take j).map λrow=>zR kinds row first 256).length F):=U;have cy:Hid (∀i,i<(next++(d.take j).map λrow=>zR kinds row first 256).length->Fin wr (Rest wr p f) H (R i) ((next++(d.take j).map λrow=>zR kinds row first 256).getD i [])):=aB;clear ah v z U D T aB aA aj aC ak;generalize cz:(next++(d.take j).map λrow=>zR kinds row first 256)=le at *;clear cz;generalize d.getD j []=row at *;generalize zR kinds row first 256=Y at *
   go_wp2_with fail;go_region_law ((first
    |(refine step_append_lies _ (by rfl) (.tmp 40) (.tmp 45) 88 (by rfl) H 45 b6 _ 1 24 underlying88 b7 b8 b9 ca rfl (by decide) (slice E le.length F) le.length ((List.range le.length).map R) (by simp[Act.eval,Act.put]) (aF.alloc _) ⟨w1.heap.size,0,none⟩ 1 1 [slice am Y.length c1] (by simp[Act.eval,Act.put]) (by rfl) (news_of_block (cs:=#[slice am Y.length c1]) (t:=45) (fr:=(0,0)) (gY w1 _)) (by simp[Value.oneCell']) (by decide) (by unfold maxLen;omega) (by omega) (by simp;omega) (w1.heap.size+1) (by simp) ?_;intro ao cap w2 aG I aH cU;have ap:=I.block p (by simp;omega) (by rw[<-X.out];exact cw);have cA:cX w2 p 8=some (slice E le.length F):=(gW ap).trans ((gU _ _ _ aI).trans aJ);have cB:w2.frozen? ⟨p,8,none⟩=false:=(gV ap).trans ((frozen?_alloc_past _ _ _ aI).trans aK))
    |(go_simp;go_at_call 99;refine(aD _ ?_).mono ?_;exact⟨rfl,rfl,rfl⟩;rintro e w1 ⟨cV,rfl,aa,r⟩;have ⟨am,c1,cC⟩:=aa.form;subst cC;have aJ:cX w1 p 8=some (slice E le.length F):=(gW (r.block p G (by exact kJ G))).trans ct;have aK:w1.frozen? ⟨p,8,none⟩=false:=(gV (r.block p G (by exact kJ G))).trans cu;have cW:H<=w1.heap.size:=lY V r.size;have aI:p<w1.heap.size:=lZ G r.size;have aF:=zL (w:=wr) (w':=w1) aE ⟨r.os,r.output,r.size,r.block⟩)))
   all_goals
    have aq:Grew wr w1:=⟨r.os,r.output,r.size,r.block⟩
    have cD:Hid (∃B,Gt (w2.setCell ⟨p,8,none⟩ (slice (qX ao) (le.length+1) cap)) H p B kinds acts pushed starts ends (next++(d.take (j+1)).map λrow=>zR kinds row first 256)/\Turn H p w c (w2.setCell ⟨p,8,none⟩ (slice (qX ao) (le.length+1) cap)) B):=by
     have aL:Turn H p wr f w1 f:=Turn.grown aq V;have cE:∀k,f.next.ownBlock=some k->k<wr.heap.size:=λk m=>(aE.lt k (by rw[<-X.out];exact m)).2
     have cF:Fin w1 (Rest w1 p f) H (slice am Y.length c1) Y:=by
      refine⟨vU aa V,λg cG=>?_⟩;have aM:=aa.lt g cG;have cY:wr.heap.size<=g:=aM.1;refine⟨aM.2,λe=>by omega,λe=>?_,λe=>?_,λe=>?_⟩
      ·have:=(M.2.1.starts.lt g e.symm).2;omega
      ·have:=cE g e.symm;omega
      ·have:=(M.2.1.ends.lt g e.symm).2;omega
     have l:=Gt.next_app (M.2.1.grown aq) R (λi cH=>(cy i cH).keep aL.rest) cF (w2:=w2) (g:=ao) (cap:=cap) aG (λk cI cJ=>(I.block k (by simp;omega) (by rw[<-X.out];exact cJ)).trans (lG _ _ _ cI)) (lY (by simp) I.size) ⟨I.os,I.output⟩ (by
      rw[X.out];rcases aH with C|C
      ·exact .inl C
      ·right;rw[C];omega)
     rw[cx.out];exact⟨_,l.1,(M.2.2.trans aL).trans l.2⟩
    clear aG I aH ap aJ aK cA cB r aq aF aa;go_wp2_with fail;go_roundg (d.length-(j+1))
    case measure=>rw[M.out.1];omega
    case rel=>exact cD.elim λB l=>⟨j+1,B,rfl,by omega,by go_num,l⟩
  ·have ch:(d.length:Int)<=(j:Int):=by omega
   have ab:Hid (Gt wr H p f kinds acts pushed starts ends (next++d.map λrow=>zR kinds row first 256)/\wr.heap[x]? =some (.cells #[slice P d.length ag,rv,O] 127)/\Ints wr S rv s/\Turn H p J c0 wr f):=by
    have l:=v;rw[List.take_of_length_le (by omega)] at l;exact⟨l,((z.rest x cg L.2.2.2.2).1).trans L.2.2.2.1,L.2.2.1.keep λk m=>z.keep.block k (A k m).1 (A k m).2,L.2.1.trans z⟩
   clear ah v z;go_wp2_with fail;apply b5.out;exact zQW J wr H p x c0 f kinds acts pushed starts ends _ ab.1 _ rv O S s ab.2.1 ab.2.2.1 A ab.2.2.2 rules aO aP cc
end
section
attribute [local go_sem ↓] Go.wp_at_zero Go.wp_at_succ
theorem zA8 (x:Int)(a:-4611686018427387904<=x)(b:x<=4611686018427387904):IntKind.i64.wrap x=x:=by
 simp[IntKind.wrap,IntKind.signed,IntKind.bits];omega
structure Sm.Fit (m:Sm):Prop where
 rows:∀i,i<m.next.length->(m.next.getD i []).length=256/\∀b,b<256->0<=(m.next.getD i []).getD b 0/\(m.next.getD i []).getD b 0<=200
 rules:∀i,i<m.rules.length->-1<=m.rules.getD i 0/\m.rules.getD i 0<=8
 start0:0<=m.start
 start:m.start<=200
theorem zGR (w:World)(H p:Nat)(c:Tc)(kinds acts pushed starts ends:List Int)(next:List (List Int))(j:Gt w H p c kinds acts pushed starts ends next)(m:Sm)(s rv:Value)(S:Nat->Prop)(E:IntRows w S s m.next)(F:Ints w S rv m.rules)(o:∀k,S k->k<H/\k≠p)
  (rules:Nat) (u:m.Fit) (V:rules<=8) (b:kinds.length=256) (W:next.length+m.next.length<=200) (X:ends.length+m.rules.length<=200) (aE:starts.length<=3):
  Calls prog 64 #[pX p,agg #[s,rv,iX m.start],iX rules] w λe w'=>e=rX/\∃d,Gt w' H p d kinds acts pushed (starts++[(next.length:Int)+m.start]) (ends++m.rules.map (yL rules)) (next++m.next.map λrow=>zR kinds row next.length 256)/\Turn H p w c w' d:=by
 have ⟨Y,aa,ab,ac,ad⟩:=info_parts yW;have l:Hid (Gt w H p c kinds acts pushed starts ends next/\IntRows w S s m.next/\Ints w S rv m.rules):=⟨j,E,F⟩
 obtain⟨G,I,rfl,aF,aG,_⟩:=E;obtain⟨J,K,rfl,aH,aI,_⟩:=F;have ae:=j.tp.lt;have q:=j.HH;have ⟨aJ,af,_⟩:=j.next
 have ⟨ag,ah,ai⟩:=zF af;have ⟨as_,cs,aj⟩:=j.starts.form;have L:cX w p 8=some (slice ag next.length ah):=by rw[<-ai];exact j.tp.get_next
 have r:=vl aj;have ak:=vl b;have aK:=u.start0;have aL:=u.start;have M:Hid m.Fit:=u;go_in;apply wp_cut;intro aM al;go_wp2;apply al.out;apply wp_cut;intro aN am;obtain⟨w1,v,a⟩:∃w1,w1=w.alloc (.cells #[slice G m.next.length I,slice J m.rules.length K,iX m.start] 127)/\Hid (w1.heap[w.heap.size]? =some (.cells #[slice G m.next.length I,slice J m.rules.length K,iX m.start] 127)/\Gt w1 H p c kinds acts pushed starts ends next/\Grew w w1):=⟨_,rfl,gY w _,l.1.grown (kZ _ _ lQ),kZ _ _ lQ⟩
 have N:w1.heap.size=w.heap.size+1:=by rw[v];simp
 have ao:=vl N;have aO:H<=w1.heap.size:=by omega
 have O:p<w1.heap.size:=by omega
 rw[<-v];have aP:=(gW (a.2.2.block p ae (by omega))).trans L;clear L v N;go_wp2;apply am.out;apply wp_cut;intro aQ ap;have y3:cX w1 p 3=some (slice as_ starts.length cs):=by rw[<-r.out];exact a.2.1.tp.get_starts
 have P:=a.2.1.tp.fz 3;have aq:cX w1 w.heap.size 2=some (iX m.start):=by simp[World.cell?,a.out.1]
 have au:w.heap.size<w1.heap.size:=by rw[ao.out];omega
 have y:w1.ownsRow H 3 1 (slice as_ starts.length cs) starts.length (starts.map λx=>iX x):=by have:=a.2.1.starts;rw[r.out] at this;exact this
 have aR:next.length<=200:=by omega
 have R:=vl <| jK a.2.1.tp y (by decide);go_wp2;go_region_law ((refine step_append_lies _ (by rfl) (.tmp 20) (.tmp 25) 45 (by rfl) H 3 Y _ 1 8 underlying45 aa ab ac ad rfl (by decide) (slice as_ starts.length cs) starts.length (starts.map λx=>iX x) (by simp[Act.eval,Act.put]) ((y.alloc _).drew) ⟨w1.heap.size,0,none⟩ 1 1 [iX (IntKind.i64.wrap ((next.length:Int)+m.start))] (by simp[Act.eval,Act.put]) (by rfl) (news_of_block (cs:=#[iX (IntKind.i64.wrap ((next.length:Int)+m.start))]) (t:=3) (fr:=(0,0)) (gY w1 _)) (by simp[Value.oneCell']) (by decide) (by unfold maxLen;omega) (by omega) (by simp;omega) (w1.heap.size+1) (by simp) ?_;intro z cap w2 A f T aS;have av:=(gW (f.block p (by simp;omega) R)).trans ((gU _ _ _ O).trans y3);have aw:=(gV (f.block p (by simp;omega) R)).trans ((frozen?_alloc_past _ _ _ O).trans P)))
 all_goals
  have ax:Hid (∃d,(Gt (w2.setCell ⟨p,3,none⟩ (slice (qX z) (starts.length+1) cap)) H p d kinds acts pushed (starts++[(next.length:Int)+m.start]) ends next/\Turn H p w1 c (w2.setCell ⟨p,3,none⟩ (slice (qX z) (starts.length+1) cap)) d)):=by
   rw[zA8 ((next.length:Int)+m.start) (by omega) (by omega)] at A;have ay:=Gt.starts_app a.2.1 (w2:=w2) (g:=z) (cap:=cap) (x:=(next.length:Int)+m.start) (OwnI.snoc A) (λk az aA=>(f.block k (by simp;omega) (by rw[<-r.out];exact aA)).trans (lG _ _ _ az)) (lY (by simp) f.size) ⟨f.os,f.output⟩ (by
    rw[r.out];rcases T with B|B
    ·exact .inl B
    ·right;rw[B];omega)
   exact⟨_,ay⟩
  clear A f T av aw y3 P aq y;go_wp2_with fail;apply ap.out;have ⟨d,aB,C⟩:=ax.out;have aC:Turn H p w c w1 c:=Turn.grown a.2.2 q;have D:=aC.trans C;have U:Rest w1 p c w.heap.size:=by
   refine⟨au,λe=>by omega,λe=>?_,λe=>?_,λe=>?_⟩
   ·have:=(l.1.starts.lt _ e.symm).2;omega
   ·have ⟨_,aD,_⟩:=l.1.next
    have:=(aD.lt _ e.symm).2;omega
   ·have:=(l.1.ends.lt _ e.symm).2;omega
  exact zQX w _ H p w.heap.size c d kinds acts pushed _ ends next aB _ _ _ S m.rules m.next (((C.rest _ q U).1).trans a.1) ⟨q,(C.rest _ q U).2⟩ (l.2.1.keep λk b=>D.keep.block k (o k b).1 (o k b).2) (l.2.2.keep λk b=>D.keep.block k (o k b).1 (o k b).2) o D rules next.length V X M.rules (by omega) W ak M.rows
end
structure TabN (w:World)(S:Nat->Prop)(p:Nat)(t:Tb):Prop where
 safe:S p
 c7:w.cell? ⟨p,7,none⟩=some (int i64 t.count)
 c8:∃v,w.cell? ⟨p,8,none⟩=some v/\RowsAt w S v t.nst t.count λi k=>t.next i k
 c9:∃v,w.cell? ⟨p,9,none⟩=some v/\IntsAt w S v t.nst λi=>t.ends i
theorem TabN.keep {w w':World}{S:Nat->Prop}{p:Nat}{t:Tb}(d:TabN w S p t)(e:∀b,S b->w'.heap[b]? =w.heap[b]?):TabN w' S p t:=by
 have c:∀i,cX w' p i=cX w p i:=λi=>gW (e p d.safe);refine⟨d.safe,(c _).trans d.c7,?_,?_⟩
 ·have ⟨v,a,b⟩:=d.c8;exact⟨v,(c _).trans a,b.keep e⟩
 ·have ⟨v,a,b⟩:=d.c9;exact⟨v,(c _).trans a,b.keep e⟩
theorem zDj (p:Nat)(w:World)(S:Nat->Prop)(t:Tb)(a:TabN w S p t):
  Calls prog 118 #[pX p] w λe w'=>e=returned (iX t.count)/\w'=w:=by
 have b:=a.c7;generalize t.count=m at *;go_in;go_wp2;go_ret;exact⟨rfl,rfl⟩
def Tb.willEnd (t:Tb)(s d:Nat)(rest:Nat->Bool):Bool:=if d=t.count then false else(t.ends (t.next s d) != -1)||rest (t.next s d)
theorem zGx (p:Nat)(w:World)(S:Nat->Prop)(t:Tb)(g:TabN w S p t)(ok:t.OkN)(s a:Nat)(l:s<t.nst)(E:a<=t.count)(b o cap:Nat)(c:Nat->Bool)(j:∀i,i<t.nst->w.cell? ⟨b,o+i,none⟩=some (bool (c i))):
  Calls prog 139 #[pX p,iX s,iX a,slice (some ⟨b,o,none⟩) t.nst cap] w λe w'=>e=returned (bool (t.willEnd s a c))/\w'=w:=by
 have k:=vl g;have F:=vl j;by_cases h:a=t.count
 ·have A:((a:Int)==(t.count:Int))=true:=by simp[h]
  have f:Hid (t.willEnd s a c=false):=if_pos h;go_in;go_wp2_with fail;refine(zDj p w S t k).mono ?_;rintro e w1 ⟨rfl,rfl⟩;go_wp2;go_ret;exact⟨vK f.symm,rfl⟩
 ·have A:((a:Int)==(t.count:Int))=false:=by rw[hX];omega
  have m:a<t.count:=by omega
  have f:Hid (t.willEnd s a c=((t.ends (t.next s a) != -1)||c (t.next s a))):=if_neg h;obtain⟨_,G,H,I,J,K,rfl,L,M,q⟩:=g.c8;obtain⟨u,N,b2,B,O,P,rfl,R,T,r⟩:=q s l;obtain⟨_,U,C,D,V,W,rfl,X,Y,v⟩:=g.c9;have y:=ok.next s a l m
  have aa:cX w b2 (B+a)=some (iX (t.next s a:Nat)):=r a m;have ab:cX w C (D+t.next s a)=some (iX (t.ends (t.next s a))):=v _ y;have ac:cX w b (o+t.next s a)=some (bool (c (t.next s a))):=j _ y;clear q r v g j ok h;generalize t.next s a=to at *
  generalize t.ends to=x at *;generalize c to=ad at *;generalize t.nst=n at *;have ae:(s:Int)<(n:Int):=by omega
  have af:(a:Int)<(t.count:Int):=by omega
  have ag:(to:Int)<(n:Int):=by omega
  cases z:(x != -1) with
  |true=>
   rw[z] at f;go_enter func139,ntmps139
   go_wp2_with fail;refine(zDj p w S t k).mono ?_;rintro e w1 ⟨rfl,rfl⟩;go_wp2_with fail;go_ret;exact⟨vK f.symm,rfl⟩
  |false=>
   rw[z] at f;go_enter func139,ntmps139
   go_wp2_with fail;refine(zDj p w S t k).mono ?_;rintro e w1 ⟨rfl,rfl⟩;go_wp2_with fail;go_ret;exact⟨vK f.symm,rfl⟩
def OwnF (w:World)(H:Nat)(v:Value)(n:Nat)(f:Nat->Bool):Prop:=w.ownsRow H 4 1 v n ((List.range n).map λi=>bool (f i))
theorem OwnF.nil (w:World)(H:Nat)(f:Nat->Bool):OwnF w H nX 0 f:=ownsRow_nil _ _ _ _
theorem OwnF.snoc {w:World}{H g cap n:Nat}{f:Nat->Bool}{x:Bool}(a:w.ownsRow H 4 1 (slice (qX g) (n+1) cap) (n+1) ((List.range n).map (λi=>bool (f i))++[bool x]))(b:f n=x):OwnF w H (slice (qX g) (n+1) cap) (n+1) f:=by
 unfold OwnF;rw[zAn,b];exact a
theorem OwnF.form {w:World}{H n:Nat}{v:Value}{f:Nat->Bool}(a:OwnF w H v n f):∃ao cap,v=slice ao n cap:=zF a
def Tb.more (t:Tb)(k:Nat)(l:Nat->Bool)(x:Nat):Bool:=t.willEnd (x%t.nst) (x/(k*t.nst)) λto=>l (x%(k*t.nst)/t.nst*t.nst+to)
theorem zLA (t:Tb)(k:Nat)(l:Nat->Bool)(a i s:Nat)(m:i<k)(b:s<t.nst):t.more k l (a*(k*t.nst)+i*t.nst+s)=t.willEnd s a λto=>l (i*t.nst+to):=by
 have e:0<t.nst:=by omega
 have c:i*t.nst+s<k*t.nst:=by
  have:=Nat.mul_le_mul_right t.nst (show i+1<=k by omega);rw[Nat.add_mul] at this;omega
 have f:(a*(k*t.nst)+i*t.nst+s)%t.nst=s:=by
  rw[Nat.add_assoc,Nat.mul_comm k,<-Nat.mul_assoc,Nat.mul_comm a,Nat.mul_assoc,Nat.mul_comm i,<-Nat.add_assoc,<-Nat.mul_add,Nat.mul_add_mod];exact Nat.mod_eq_of_lt b
 have g:(a*(k*t.nst)+i*t.nst+s)/(k*t.nst)=a:=by
  rw[Nat.add_assoc,Nat.mul_comm a,Nat.mul_add_div (by omega),Nat.div_eq_of_lt c];omega
 have h:(a*(k*t.nst)+i*t.nst+s)%(k*t.nst)=i*t.nst+s:=by
  rw[Nat.add_assoc,Nat.mul_comm a,Nat.mul_add_mod,Nat.mod_eq_of_lt c]
 have j:(i*t.nst+s)/t.nst=i:=by
  rw[Nat.mul_comm i,Nat.mul_add_div e,Nat.div_eq_of_lt b];omega
 unfold Tb.more;rw[f,g,h,j]
theorem zDs (p:Nat)(w:World)(S:Nat->Prop)(t:Tb)(F:TabN w S p t)(I:∀k,S k->k<w.heap.size)(ok:t.OkN)(ag:1<=t.nst)(k:Nat)(ah:1<=k)(l:Nat->Bool)(b o cap:Nat)(ai:S b)(aj:∀i,i<k*t.nst->w.cell? ⟨b,o+i,none⟩=some (bool (l i)))(aS:k*t.nst<=cap)(aT:cap<=maxLen)(aU:(t.count+1)*(k*t.nst)<=800000):
  Calls prog 102 #[pX p,slice (some ⟨b,o,none⟩) (k*t.nst) cap] w λe w'=>∃u,e=returned u/\OwnF w' w.heap.size u ((t.count+1)*(k*t.nst)) (t.more k l)/\Grew w w':=by
 have ⟨ak,al,am,an,ap⟩:=info_parts vL;have aq:=vl F;have ar:=vl aj;have J:=I p F.safe;have au:=I b ai;have av:=F.c7;obtain⟨_,P,aw,ax,ay,aV,rfl,aW,aX,_⟩:=F.c8;have az:Hid (∀a i s,i<k->s<t.nst->t.more k l (a*(k*t.nst)+i*t.nst+s)=t.willEnd s a λto=>l (i*t.nst+to)):=λa i s=>zLA t k l a i s;have aY:Hid (k*t.nst=k*t.nst):=rfl;have aZ:=ok.count;have a0:=ok.nst;have aA:Hid t.OkN:=ok;have a1:=Nat.mul_pos ah ag;generalize aB:k*t.nst=c at *;generalize a2:t.more k l=f at *;generalize aC:t.nst=n at *;generalize aD:t.count=cnt at *;have R:=vl aB;have L:=vl aC;have aE:=vl aD;have a3:c<=800000:=by
  have:=Nat.mul_le_mul_right c (show 1<=cnt+1 by omega);omega
 go_in;go_wp2;go_loopg [5,6] (cnt+1) (λq B i wr=>∃a D:Nat,q=cnt+1-a/\a<=cnt+1/\i=iX (a:Int)/\D=a*c/\OwnF wr w.heap.size B D f/\Grew w wr)
 case atStart=>exact⟨0,0,rfl,lX,rfl,(Nat.zero_mul _).symm,OwnF.nil _ _ _,Keep.refl _ _ _⟩
 case round=>
  obtain⟨a,D,v,a4,rfl,G,g,j⟩:=hrel;have y:Hid (gk=cnt+1-a/\D=a*c/\OwnF wr w.heap.size u5 D f/\Grew w wr):=⟨v,G,g,j⟩
  have a5:=(gW (j.block p J (by omega))).trans av;have ⟨ao,z,C⟩:=g.form;subst C;by_cases aF:a<=cnt
  ·have aG:(a:Int)<=(cnt:Int):=by omega
   have a6:D+c<=(cnt+1)*c:=by
    have:=Nat.mul_le_mul_right c (show a+1<=cnt+1 by omega);rw[Nat.add_mul] at this;omega
   clear v G g j;go_wp2;go_loopg [5,7] k (λq B i wr=>∃r fr:Nat,q=k-r/\r<=k/\i=iX (fr:Int)/\fr=r*n/\OwnF wr w.heap.size B (D+fr) f/\Grew w wr)
   case atStart=>exact⟨0,0,rfl,lX,rfl,(Nat.zero_mul _).symm,y.2.2.1,y.2.2.2⟩
   case round=>
    obtain⟨r,fr,v,a7,rfl,H,g,j⟩:=hrel;have A:Hid (gk=k-r/\fr=r*n/\OwnF wr w.heap.size u5 (D+fr) f/\Grew w wr):=⟨v,H,g,j⟩
    have T:=(gW (j.block p J (by omega))).trans P;have ⟨ao,z,C⟩:=g.form;subst C;by_cases aH:r<k
    ·have M:fr+n<=c:=by
      have:=Nat.mul_le_mul_right n (show r+1<=k by omega);rw[Nat.add_mul,R.out] at this;omega
     have aI:(fr:Int)<(c:Int):=by omega
     have a8:(fr:Int)+(n:Int)<=(c:Int):=by omega
     have a9:(c:Int)<=(cap:Int):=by omega
     clear v H g j;go_wp2_with fail;rw[hY];clear T;go_loopg [5,44] n (λq B i wr=>∃s:Nat,q=n-s/\s<=n/\i=iX (s:Int)/\OwnF wr w.heap.size B (D+fr+s) f/\Grew w wr)
     case atStart=>exact⟨0,rfl,lX,rfl,A.2.2.1,A.2.2.2⟩
     case round=>
      obtain⟨s,v,ba,rfl,g,j⟩:=hrel;have N:Hid (gk=n-s/\Grew w wr):=⟨v,j⟩
      have ⟨ao,z,C⟩:=g.form;subst C;have aJ:w.heap.size<=wr.heap.size:=j.size;have U:Hid (wr.ownsRow w.heap.size 4 1 (slice ao (D+fr+s) z) (D+fr+s) ((List.range (D+fr+s)).map λi=>bool (f i))):=g;by_cases V:s<n
      ·have aK:(s:Int)<(n:Int):=by omega
       have aL:Hid (Ca 139 #[pX p,iX s,iX a,slice (some ⟨b,o+fr,none⟩) n (cap-fr)] wr λe w'=>e=returned (bool (t.willEnd s a λto=>l (fr+to)))/\w'=wr):=by
        have W:∀x,x<w.heap.size->wr.heap[x]? =w.heap[x]? :=λx O=>j.block x O (by omega);have m:=zGx p wr S t (aq.keep λx O=>W x (I x O)) aA s a (by rw[L.out];exact V) (by rw[aE.out];exact aF) b (o+fr) (cap-fr) (λto=>l (fr+to)) (by
         intro i aM;rw[L.out] at aM;rw[World.cell?_of_block (W b au),Nat.add_assoc];exact ar (fr+i) (by omega))
        rw[L.out] at m;exact m
       have aN:Hid (f (D+fr+s)=t.willEnd s a λto=>l (fr+to)):=by
        have m:=az a r s aH V;rw[<-y.out.2.1,<-A.out.2.1] at m;exact m
       clear v g j;generalize (t.willEnd s a λto=>l (fr+to))=x at *;go_wp2_with fail;refine aL.mono ?_;rintro e w1 ⟨rfl,rfl⟩;go_wp2_with (at_builtin;refine wpList_append_lies _ rfl _ _ 28 rfl (w.heap.size) 4 ak fX 1 1 underlying28 al am an ap rfl (by decide) _ _ _ rfl (U.alloc _) ⟨w1.heap.size,0,none⟩ 1 1 [bool x] rfl rfl (cell_one_new _ _ _) (by intro u X;simp at X;subst X;rfl) (by decide) (by unfold maxLen;omega) (by omega) (by simp;omega) _ rfl ?_;intro aO aP w2 Y aa bb bc;have ab:=xU U aa aJ)
       have ac:Hid (OwnF w2 w.heap.size (slice (qX aO) (D+fr+s+1) aP) (D+fr+s+1) f/\Grew w w2):=⟨OwnF.snoc Y aN,N.2.trans (xS ab)⟩
       clear Y aa ab;go_wp2_with fail;go_roundg (n-(s+1))
       case measure=>rw[N.out.1];omega
       case rel=>exact⟨s+1,rfl,by omega,by go_num,ac.1,ac.2⟩
      ·have aK:(n:Int)<=(s:Int):=by omega
       have ad:s=n:=by omega
       have E:Hid (OwnF wr w.heap.size (slice ao (D+fr+s) z) (D+(fr+n)) f):=by
        have m:=g;rw[ad] at m ⊢;rw[Nat.add_assoc] at m;rw[Nat.add_assoc];exact m
       have aQ:Hid (fr+n=(r+1)*n):=by show _=_;rw[A.out.2.1,Nat.add_mul];omega
       have T:cX wr p 8=some (slice (some ⟨aw,ax,none⟩) n ay):=(gW (j.block p J (by omega))).trans P;clear v g j ad;go_wp2_with fail;go_roundg (k-(r+1))
       case measure=>rw[A.out.1];omega
       case rel=>exact⟨r+1,fr+n,rfl,by omega,by go_num,aQ,E,N.2⟩
    ·have ae:r=k:=by omega
     have M:fr=c:=by rw[H,ae];exact R
     have aI:(c:Int)<=(fr:Int):=by omega
     have E:Hid (OwnF wr w.heap.size (slice ao (D+fr) z) (D+c) f):=by
      have m:=g;rw[M] at m ⊢;exact m
     have aR:Hid (D+c=(a+1)*c):=by show _=_;rw[y.out.2.1,Nat.add_mul];omega
     clear v H g j M ae;go_wp2_with fail;go_roundg (cnt+1-(a+1))
     case measure=>rw[y.out.1];omega
     case rel=>exact⟨a+1,D+c,rfl,by omega,by go_num,aR,E,A.2.2.2⟩
  ·have af:a=cnt+1:=by omega
   have aG:(cnt:Int)<(a:Int):=by omega
   have E:Hid (OwnF wr w.heap.size (slice ao D z) ((cnt+1)*c) f):=by
    have m:=g;rw[G,af] at m ⊢;exact m
   clear v G g j af;go_wp2_with fail;go_ret;exact⟨_,rfl,E,y.2.2.2⟩
theorem zQ {H:Nat}(w:World)(g i:Nat)(x:Value)(a:H<=g):Keep H H w (w.setCell ⟨g,i,none⟩ x):=⟨rfl,rfl,by simp[World.setCell],λk b _=>lJ _ _ _ _ (by show k≠g;omega)⟩
theorem zAy (a:Value)(c:a.cells=#[a])(n:Nat):(madeCells a.cells n).toList=(List.range n).map λ_=>a:=by
 rw[c,toList_madeCells_one];exact(List.eq_replicate_iff.2 ⟨by simp,by intro b d;have ⟨_,_,e⟩:=List.mem_map.1 d;exact e.symm⟩).symm
def xX (f:Nat->Bool):Nat->Nat->Nat
 |0,_=>0
 |i+1,j=>if f i=true/\j=i/8 then xX f i j+2^(i%8) else xX f i j
theorem zJe (f:Nat->Bool)(i j:Nat)(b:i<=8*j):xX f i j=0:=by
 induction i with
 |zero=>rfl
 |succ i a=>rw[xX,if_neg (by omega),a (by omega)]
theorem zD6 (f:Nat->Bool)(i j:Nat)(d:8*j<=i)(g:i<=8*j+8):xX f i j<2^(i-8*j):=by
 induction i with
 |zero=>simp[xX]
 |succ i a=>
  by_cases e:8*j=i+1
  ·rw[zJe f (i+1) j (by omega)]
   exact Nat.pow_pos (by decide)
  ·have k:=a (by omega) (by omega)
   have b:i%8=i-8*j:=by omega
   have c:i+1-8*j=(i-8*j)+1:=by omega
   rw[xX,c,Nat.pow_succ];split
   ·rw[b];omega
   ·omega
theorem zEI (f:Nat->Bool)(i j:Nat):xX f i j<256:=by
 induction i with
 |zero=>simp[xX]
 |succ i a=>
  rw[xX];split
  ·rename_i d
   have b:=zD6 f i j (by omega) (by omega);have c:i%8=i-8*j:=by omega
   rw[<-c] at b;have e:2^(i%8)<=2^7:=kG (by decide) (by omega);omega
  ·exact a
theorem zO7 (f:Nat->Bool)(i:Nat):bits BinOp.or IntKind.u8 (xX f i (i/8):Nat) ((2^(i%8):Nat):Int)=((xX f i (i/8)+2^(i%8):Nat):Int):=by
 have b:=zEI f i (i/8);have e:2^(i%8)<=2^7:=kG (by decide) (by omega);have a:=zD6 f i (i/8) (by omega) (by omega);have c:i%8=i-8*(i/8):=by omega
 rw[<-c] at a;rw[u8_or_nat _ _ b (by omega),Nat.or_comm]
 congr 1
 rw[Nat.add_comm];have d:=Nat.two_pow_add_eq_or_of_lt a 1;simpa using d.symm
theorem zNL (f:Nat->Bool)(i:Nat):bits BinOp.or IntKind.u8 (xX f i (i/8):Nat) ((2:Int)^(i%8)%256)=((xX f i (i/8)+2^(i%8):Nat):Int):=by
 rw[<-zO7];have b:2^(i%8)<=2^7:=kG (by decide) (by omega);have e:((2:Int)^(i%8)%256)=((2^(i%8):Nat):Int):=by
  have a:((2^(i%8):Nat):Int)=(2:Int)^(i%8):=by simp
  rw[<-a];generalize 2^(i%8)=c at *;omega
 rw[e]
theorem zH0 (w:World)(b o cap n:Nat)(f:Nat->Bool)(z:∀i,i<n->w.cell? ⟨b,o+i,none⟩=some (bool (f i)))(A:b<w.heap.size)(W:1<=n)(X:n<=800000):
  Calls prog 103 #[slice (some ⟨b,o,none⟩) n cap] w λe w'=>∃u,e=returned u/\Row w' w.heap.size 5 u ((n+7)/8) (λj=>int .u8 (xX f n j:Nat))/\Grew w w':=by
 have ⟨B,C,D,E,F⟩:=info_parts zQk;have G:=vl z;have ⟨w1,H,I,d⟩:=run_makeSlice_full (P:=prog) w w.heap.size 68 5 B _ 1 underlying68 C D E i64 i64 ((n+7)/8) (by omega) (by rw[F];omega) (by unfold maxLen;omega) lQ;have J:(((n+7)/8:Nat):Int)=((n:Int)+7)/8:=by omega
 rw[J] at H;have s:Hid (Row w1 w.heap.size 5 (slice (qX w.heap.size) ((n+7)/8) ((n+7)/8)) ((n+7)/8) (λj=>int .u8 (xX f 0 j:Nat))/\Grew w w1):=by
  refine⟨?_,⟨d.os,d.output,d.size,λk K _=>d.block k K (by simp)⟩⟩;have l:=I;rw[Nat.mul_one,zAy _ rfl] at l;exact l
 go_in;go_wp2;go_loopg [13] n (λq i wr=>∃j:Nat,q=n-j/\j<=n/\i=iX (j:Int)/\Row wr w.heap.size 5 (slice (qX w.heap.size) ((n+7)/8) ((n+7)/8)) ((n+7)/8) (λk=>int .u8 (xX f j k:Nat))/\Grew w wr)
 case atStart=>exact⟨0,rfl,lX,rfl,s.1,s.2⟩
 case round=>
  obtain⟨j,L,Y,rfl,m,t⟩:=hrel;have a:Hid (gk=n-j/\Row wr w.heap.size 5 (slice (qX w.heap.size) ((n+7)/8) ((n+7)/8)) ((n+7)/8) (λk=>int .u8 (xX f j k:Nat))/\Grew w wr):=⟨L,m,t⟩
  by_cases M:j<n
  ·have N:(j:Int)<(n:Int):=by omega
   have v:=(gW (t.block b A (by omega))).trans (G j M);have ⟨g,aa,O,ab,ac,ad,ae,R,S⟩:=m.get (by omega);have T:g=w.heap.size:=by injection O with c _ _;injection c with c;injection c with c;exact c.symm
   subst T;have af:=R (j/8) (by omega);have ag:=S (j/8);have U:=vl <| zNL f j;have x:Hid (∀k,xX f (j+1) k=if f j=true/\k=j/8 then xX f j k+2^(j%8) else xX f j k):=λk=>rfl;cases p:f j with
   |true=>
    rw[p] at v;have r:Hid (∀k,xX f (j+1) k=if k=j/8 then xX f j k+2^(j%8) else xX f j k):=by
     intro k;rw[x.out k,p];simp
    have ah:(j:Int)/8<((n:Int)+7)/8:=by omega
    have ai:(0:Int)<=(j:Int)/8:=by omega
    go_wp2;go_region;go_wp2;go_roundg (n-(j+1))
    case measure=>rw[a.out.1];omega
    case rel=>
     refine⟨j+1,rfl,by omega,by go_num,?_,a.2.2.trans (Keep.trans (zQ _ _ _ _ lQ) (Keep.drew _))⟩;have l:=a.2.1.set (j/8) (int .u8 (bits BinOp.or IntKind.u8 (xX f j (j/8):Nat) ((2:Int)^(j%8)%256)));refine Row.congr (w:=(wr.setCell ⟨w.heap.size,j/8,none⟩ (int .u8 (bits BinOp.or IntKind.u8 (xX f j (j/8):Nat) ((2:Int)^(j%8)%256)))).drew) l λk _=>?_;rw[r.out k,U.out];by_cases e:k=j/8
     ·subst e;simp
     ·simp[e]
   |false=>
    rw[p] at v;have r:Hid (∀k,xX f (j+1) k=xX f j k):=by
     intro k;rw[x.out k,p];simp
    go_wp2;go_roundg (n-(j+1))
    case measure=>rw[a.out.1];omega
    case rel=>exact⟨j+1,rfl,by omega,by go_num,a.2.1.congr λk _=>by rw[r.out k],a.2.2⟩
  ·have y:j=n:=by omega
   have N:(n:Int)<=(j:Int):=by omega
   have V:Hid (Row wr w.heap.size 5 (slice (qX w.heap.size) ((n+7)/8) ((n+7)/8)) ((n+7)/8) (λk=>int .u8 (xX f n k:Nat))):=by rw[<-y];rw[y] at m ⊢;exact m
   go_wp2;go_ret;exact⟨_,rfl,V,a.2.2⟩
theorem zNs (a k:Nat):1<=zJ a k:=by
 induction k with
 |zero=>exact lQ
 |succ k b=>
  rw[zJ];split
  ·exact Nat.mul_le_mul b (by omega:1<=a+1)
  ·exact b
section
variable {w:World} {H b:Nat} {e:TypeId} {v:Value} {n:Nat}
def Mem.blocks (w:World)(H b:Nat)(k:Nat):Prop:=k=b\/(H<=k/\k<w.heap.size)
theorem Row.intsAt {f:Nat->Int}(a:Row w H e v n λi=>iX (f i))(c:0<n):IntsAt w (Mem.blocks w H b) v n f:=by
 have ⟨g,cap,d,j,k,l,m,o,_⟩:=a.get c;exact⟨g,0,cap,.inr ⟨j,k⟩,d,l,m,λi p=>by rw[Nat.zero_add];exact o i p⟩
theorem Row.boolsAt {f:Nat->Bool}(a:Row w H e v n λi=>bool (f i))(c:0<n):BoolsAt w (Mem.blocks w H b) v n f:=by
 have ⟨g,cap,d,j,k,l,m,o,_⟩:=a.get c;exact⟨g,0,cap,.inr ⟨j,k⟩,d,l,m,λi p=>by rw[Nat.zero_add];exact o i p⟩
theorem Row.bytesAt {f:Nat->Nat}(a:Row w H e v n λi=>int .u8 (f i:Nat))(c:0<n):BytesAt w (Mem.blocks w H b) v n f:=by
 have ⟨g,cap,d,j,k,l,m,o,_⟩:=a.get c;exact⟨g,0,cap,.inr ⟨j,k⟩,d,l,m,λi p=>by rw[Nat.zero_add];exact o i p⟩
theorem Mem.tabAt {c:Tc}{t:Tb}(d:Mem w H b c t)(l:1<=t.nmode)(f:1<=t.nrule)(e:1<=t.nst)(m:1<=t.count)(o:1<=t.nlong):TabAt w (Mem.blocks w H b) b t:=by
 have a:=d.tp;have ⟨rv,p,q⟩:=d.next
 have r:RowsAt w (Mem.blocks w H b) c.next t.nst t.count λi k=>t.next i k:=by
  have ⟨g,cap,s,u,v,x,y,z,_⟩:=p.get e;exact⟨g,0,cap,.inr ⟨u,v⟩,s,x,y,λi j=>⟨rv i,by rw[Nat.zero_add];exact z i j,(q i j).intsAt m⟩⟩
 refine⟨.inl rfl,?_,?_,?_,⟨_,?_,d.starts.intsAt l⟩,⟨_,?_,d.acts.intsAt f⟩,⟨_,?_,d.pushed.intsAt f⟩,⟨_,?_,d.kinds.intsAt (by decide)⟩,?_,⟨_,?_,r⟩,⟨_,?_,d.ends.intsAt e⟩,⟨_,?_,d.live.boolsAt e⟩,?_,⟨_,?_,d.longer.bytesAt o⟩⟩
 ·rw[a.get_stream,d.stream]
 ·rw[a.get_ahead,d.ahead]
 ·rw[a.get_hold,d.hold]
 ·unfold xH at a;simp[World.cell?,a]
 ·unfold xH at a;simp[World.cell?,a]
 ·unfold xH at a;simp[World.cell?,a]
 ·unfold xH at a;simp[World.cell?,a]
 ·unfold xH at a;simp[World.cell?,a,d.count]
 ·unfold xH at a;simp[World.cell?,a]
 ·unfold xH at a;simp[World.cell?,a]
 ·unfold xH at a;simp[World.cell?,a]
 ·unfold xH at a;simp[World.cell?,a,d.rows]
 ·unfold xH at a;simp[World.cell?,a]
structure Tb.Fine (t:Tb):Prop where
 ok:t.Ok
 nst:1<=t.nst
 count:1<=t.count
 long1:1<=t.nlong
 long2:t.nlong<=75000
 rule1:1<=t.nrule
 rule2:t.nrule<=8
 mode2:t.nmode<=3
 act:∀i,i<t.nrule->t.act i<4
structure LexAt (w:World)(S:Nat->Prop)(x p:Nat)(t:Tb):Prop where
 cell:w.cell? ⟨x,0,none⟩=some (pointer (some ⟨p,0,none⟩))
 lt:x<w.heap.size
 tab:TabAt w S p t
 safe:∀k,S k->k<w.heap.size
theorem LexAt.keep {w w':World}{S:Nat->Prop}{x p:Nat}{t:Tb}(a:LexAt w S x p t)(e:∀k,k<w.heap.size->w'.heap[k]? =w.heap[k]?)(c:w.heap.size<=w'.heap.size):LexAt w' S x p t:=
 ⟨(gW (e x a.lt)).trans a.cell,lZ a.lt c,a.tab.keep λk b=>e k (a.safe k b),λk b=>lZ (a.safe k b) c⟩
theorem LexAt.grown {w w':World}{S:Nat->Prop}{x p:Nat}{t:Tb}(a:LexAt w S x p t)(e:Grew w w'):LexAt w' S x p t:=a.keep (λk b=>e.block k b (by omega)) e.size
end
section
variable {w:World} {H p:Nat} {c:Tc} {t:Tb} (b:Mem w H p c t) (a:Nat)
theorem zB4 (kinds:Nat):zJ kinds 0=1:=rfl
theorem zFj (kinds k m:Nat)(a:k<=m)(b:zJ kinds m<=3000):zJ kinds k<=3000:=by
 by_cases e:3000<zJ kinds k
 ·rw[zEw kinds k m e a] at b
  omega
 ·omega
theorem zL1 (kinds k:Nat)(a:zJ kinds k<=3000):zJ kinds (k+1)=zJ kinds k*(kinds+1):=by
 rw[zJ];split
 ·rfl
 ·omega
def Tb.aheadF (t:Tb):Nat->Nat->Bool
 |0=>λ_=>false
 |i+1=>t.more (zJ t.count i) (t.aheadF i)
theorem Mem.tabN {H b:Nat}{c:Tc}{t:Tb}(d:Mem w H b c t)(e:1<=t.nst)(j:1<=t.count):TabN w (Mem.blocks w H b) b t:=by
 have a:=d.tp;have ⟨rv,l,m⟩:=d.next
 have o:RowsAt w (Mem.blocks w H b) c.next t.nst t.count λi k=>t.next i k:=by
  have ⟨g,cap,p,q,r,s,u,v,_⟩:=l.get e;exact⟨g,0,cap,.inr ⟨q,r⟩,p,s,u,λi f=>⟨rv i,by rw[Nat.zero_add];exact v i f,(m i f).intsAt j⟩⟩
 refine⟨.inl rfl,?_,⟨_,?_,o⟩,⟨_,?_,d.ends.intsAt e⟩⟩
 ·unfold xH at a;simp[World.cell?,a,d.count]
 ·unfold xH at a;simp[World.cell?,a]
 ·unfold xH at a;simp[World.cell?,a]
theorem Row.put {H p i:Nat}{c:Tc}{x:Value}{e:TypeId}{v:Value}{n:Nat}{f:Nat->Value}(a:Row w H e v n f)(b:xH w p c)(d:e≠90:=by decide):Row (w.setCell ⟨p,i,none⟩ x) H e v n f:=a.blk λg _ _ j=>lJ _ _ _ _ (zHQ b a d j)
theorem Mem.putAhead (b:Mem w H p c t)(a:Nat):Mem (w.setCell ⟨p,1,none⟩ (iX a)) H p {c with ahead:=iX a} {t with ahead:=a}:=by
 have ⟨rv,e,f⟩:=b.next
 have d:=b.tp;exact⟨b.tp.set_ahead _,b.stream,rfl,b.hold,b.count,b.rows,b.starts.put d,b.acts.put d,b.pushed.put d,b.kinds.put d,⟨rv,e.put d,λi g=>(f i g).put d⟩,b.ends.put d,b.live.put d,b.longer.put d,by simp[World.setCell];exact b.HH⟩
theorem Mem.putRows (b:Mem w H p c t)(a:Nat):Mem (w.setCell ⟨p,11,none⟩ (iX a)) H p {c with rows:=iX a} {t with rows:=a}:=by
 have ⟨rv,e,f⟩:=b.next
 have d:=b.tp;exact⟨b.tp.set_rows _,b.stream,b.ahead,b.hold,b.count,rfl,b.starts.put d,b.acts.put d,b.pushed.put d,b.kinds.put d,⟨rv,e.put d,λi g=>(f i g).put d⟩,b.ends.put d,b.live.put d,b.longer.put d,by simp[World.setCell];exact b.HH⟩
theorem Mem.putLonger (a:Mem w H p c t)(v:Value)(n:Nat)(f:Nat->Nat)(d:Row w H 5 v n λi=>int .u8 (f i:Nat)):Mem (w.setCell ⟨p,12,none⟩ v) H p {c with longer:=v} {t with nlong:=n,long:=f}:=by
 have ⟨rv,e,g⟩:=a.next
 have b:=a.tp;exact⟨a.tp.set_longer _,a.stream,a.ahead,a.hold,a.count,a.rows,a.starts.put b,a.acts.put b,a.pushed.put b,a.kinds.put b,⟨rv,e.put b,λi j=>(g i j).put b⟩,a.ends.put b,a.live.put b,d.put b,by simp[World.setCell];exact a.HH⟩
theorem Mem.putStream (b:Mem w H p c t)(a:Bool):Mem (w.setCell ⟨p,0,none⟩ (bool a)) H p {c with stream:=bool a} {t with stream:=a}:=by
 have ⟨rv,e,f⟩:=b.next
 have d:=b.tp;exact⟨b.tp.set_stream _,rfl,b.ahead,b.hold,b.count,b.rows,b.starts.put d,b.acts.put d,b.pushed.put d,b.kinds.put d,⟨rv,e.put d,λi g=>(f i g).put d⟩,b.ends.put d,b.live.put d,b.longer.put d,by simp[World.setCell];exact b.HH⟩
theorem Mem.grown {w w':World}{H b:Nat}{c:Tc}{t:Tb}(a:Mem w H b c t)(d:Grew w w'):Mem w' H b c t:=by
 have f:=a.HH;have g:=a.tp.lt;exact a.keep (d.block b (by omega) (by omega)) (λk _ e=>d.block k e (by omega)) d.size
theorem TabN.mono {S d:Nat->Prop}{p:Nat}{t:Tb}(c:TabN w S p t)(e:∀b,S b->d b):TabN w d p t:=by
 have j:∀{v n f},IntsAt w S v n f->IntsAt w d v n f:=λ⟨b,o,cap,g,r⟩=>⟨b,o,cap,e b g,r⟩
 refine⟨e p c.safe,c.c7,?_,?_⟩
 ·have ⟨v,a,b,o,cap,g,l,m,q,s⟩:=c.c8
  exact⟨v,a,b,o,cap,e b g,l,m,q,λi x=>(s i x).imp λu k=>⟨k.1,j k.2⟩⟩
 ·have ⟨v,a,b⟩:=c.c9;exact⟨v,a,j b⟩
def Tb.looking (t:Tb)(a:Nat):Tb:={t with ahead:=a,rows:=zJ t.count a,nlong:=(zJ t.count a*t.nst+7)/8,long:=xX (t.aheadF a) (zJ t.count a*t.nst)}
theorem zB8 (w:World)(H p:Nat)(c:Tc)(t:Tb)(m:Mem w H p c t)(ok:t.OkN)(y:1<=t.nst)(aq:1<=t.count)(a:Nat)(ar:a<=255)(M:zJ t.count a<=3000):
  Calls prog 66 #[pointer (some ⟨p,0,none⟩),int i64 a] w λe w'=>e=rX/\∃av,Mem w' H p av (t.looking a)/\Keep w.heap.size p w w':=by
 obtain⟨aw,ax,ay,az,aA⟩:=info_parts vL;have O:=vl m;have a5:=m.tp.lt;have a6:=m.HH;have R:=m.tp.get_ahead;have aB:=m.tp.fz 1;have D:cX w p 7=some (int i64 (t.count:Nat)):=by rw[<-m.count];exact m.tp.get_count
 have aC:=ok.count;have T:=ok.nst;rw[O.out.ahead] at R;go_in;apply wp_cut;intro a7 aD;go_wp2;apply aD.out;obtain⟨w1,U,f⟩:∃w1,w1=w.setCell ⟨p,1,none⟩ (int i64 (a:Nat))/\Hid (Mem w1 H p {c with ahead:=int i64 a} {t with ahead:=a}/\Keep w.heap.size p w w1):=⟨_,rfl,O.putAhead a,Keep.set _ _ _⟩
 rw[<-U];clear U R aB D;apply wp_cut;intro a8 aE;have D:cX w1 p 7=some (int i64 (t.count:Nat)):=by have b:=f.1.tp.get_count;rw[f.out.1.count] at b;exact b
 have aF:cX w1 p 11=some (int i64 (t.rows:Nat)):=by have b:=f.1.tp.get_rows;rw[f.out.1.rows] at b;exact b
 have aG:=f.1.tp.fz 11;go_wp2_with fail;refine(zFB t.count a _ aC ar).mono ?_;rintro e aH ⟨rfl,rfl⟩;go_wp2;apply aE.out;obtain⟨w2,V,d⟩:∃w2,w2=aH.setCell ⟨p,11,none⟩ (int i64 (zJ t.count a:Nat))/\Hid (Mem w2 H p {c with ahead:=int i64 a,rows:=int i64 (zJ t.count a:Nat)} {t with ahead:=a,rows:=zJ t.count a}/\Keep w.heap.size p w w2):=⟨_,rfl,f.1.putRows _,f.2.trans (Keep.set _ _ _)⟩
 rw[<-V];clear V D aF aG f;refine wp_seq_k ?_;intro aI hK2;have W:Hid (∀a w,_->aI a w):=hK2;clear hK2;obtain⟨rv,X,_⟩:=d.1.next
 obtain⟨aJ,aK,Y,_⟩:=X.get y;have aL:cX w2 p 8=some (slice (some ⟨aJ,0,none⟩) t.nst aK):=by rw[<-show c.next=_ from Y];exact d.1.tp.get_next
 have a9:H<=w2.heap.size:=d.1.HH;obtain⟨aa,aM,ab,s⟩:=run_makeSlice_full (P:=prog) w2 w2.heap.size 28 4 aw _ 1 underlying28 ax ay az i64 i64 t.nst (by omega) (by rw[aA];omega) (by unfold maxLen;omega) lQ;have ac:Hid (OwnF aa w2.heap.size (slice (some ⟨w2.heap.size,0,none⟩) t.nst t.nst) (zJ t.count 0*t.nst) (t.aheadF 0)/\Grew w2 aa):=by
  refine⟨?_,⟨s.os,s.output,s.size,λk o _=>s.block k o (by simp)⟩⟩;have b:=ab;rw[Nat.mul_one,zAy _ rfl] at b;rw[zB4,Nat.one_mul];exact b
 clear X Y ab s;go_wp2_with fail;apply W.out;clear W aM aL;refine wp_seq_k ?_;intro aN hK3;have ad:Hid (∀a w,_->aN a w):=hK3;clear hK3;have aO:Hid t.OkN:=ok;have ae:Hid (zJ t.count a<=3000):=M;clear ok M;go_wp2_with fail;go_loopg [4,5] a (λq aP i wr=>∃j:Nat,q=a-j/\j<=a/\i=int i64 (j:Int)/\OwnF wr w2.heap.size aP (zJ t.count j*t.nst) (t.aheadF j)/\Grew w2 wr)
 case atStart=>exact⟨0,rfl,lX,rfl,ac.1,ac.2⟩
 case round=>
  obtain⟨j,E,aQ,rfl,z,l⟩:=hrel;have v:Hid (gk=a-j/\OwnF wr w2.heap.size u4 (zJ t.count j*t.nst) (t.aheadF j)/\Grew w2 wr):=⟨E,z,l⟩
  have af:=zFj t.count j a aQ ae;have ag:=zNs t.count j;have ah:1<=zJ t.count j*t.nst:=Nat.mul_pos ag y;have ba:zJ t.count j*t.nst<=600000:=lY (Nat.mul_le_mul af T) (by decide);have F:TabN wr (λk=>k<wr.heap.size) p t:=by
   have b:=(d.1.grown l).tabN y aq;have bb:=l.size;refine TabN.mono (S:=Mem.blocks wr H p) ⟨b.safe,b.c7,b.c8,b.c9⟩ λk o=>?_;rcases o with o|o
   ·rw[o];exact(d.1.grown l).tp.lt
   ·exact o.2
  obtain⟨g,A,aR,bc,ai,aS,aT,B,aj⟩:=Row.get z ah;subst aR;by_cases aU:j<a
  ·have aV:(j:Int)<(a:Int):=by omega
   have ak:=zL1 t.count j af;have aW:=zFj t.count (j+1) a aU ae;have G:(t.count+1)*(zJ t.count j*t.nst)=zJ t.count (j+1)*t.nst:=by
    rw[ak,<-Nat.mul_assoc,Nat.mul_comm (t.count+1)]
   have al:(t.count+1)*(zJ t.count j*t.nst)<=800000:=by
    rw[G];exact lY (Nat.mul_le_mul aW T) (by decide)
   have I:=zDs p wr (λk=>k<wr.heap.size) t F (λk b=>b) aO y (zJ t.count j) ag (t.aheadF j) g 0 A ai (λi J=>by rw[Nat.zero_add];exact B i J) aS aT al;rw[G] at I;have aX:Hid (Ca 102 #[pointer (some ⟨p,0,none⟩),slice (some ⟨g,0,none⟩) (zJ t.count j*t.nst) A] wr λe w'=>∃u,e=returned u/\OwnF w' wr.heap.size u (zJ t.count (j+1)*t.nst) (t.aheadF (j+1))/\Grew wr w'):=I;clear I E z l B aj F ak G al;generalize aY:zJ t.count j*t.nst=aZ at *;clear aY;go_wp2_with fail;refine aX.mono ?_;rintro e am ⟨u,rfl,an,ao⟩;have ap:Hid (OwnF am w2.heap.size u (zJ t.count (j+1)*t.nst) (t.aheadF (j+1))/\Grew w2 am):=⟨vU an v.2.2.size,v.2.2.trans (ao.lower v.2.2.size v.2.2.size)⟩
   clear an ao;go_wp2_with fail;go_roundg (a-(j+1))
   case measure=>rw[v.out.1];omega
   case rel=>exact⟨j+1,rfl,by omega,by go_num,ap.1,ap.2⟩
  ·have a0:j=a:=by omega
   have aV:(a:Int)<=(j:Int):=by omega
   have a1:Hid (Ca 103 #[slice (some ⟨g,0,none⟩) (zJ t.count j*t.nst) A] wr λe w'=>∃u,e=returned u/\Row w' wr.heap.size 5 u ((zJ t.count a*t.nst+7)/8) (λk=>int .u8 (xX (t.aheadF a) (zJ t.count a*t.nst) k:Nat))/\Grew wr w'):=by
    have b:=zH0 wr g 0 A (zJ t.count j*t.nst) (t.aheadF j) (λi J=>by rw[Nat.zero_add];exact B i J) ai ah (by omega);rw[a0] at b ⊢;exact b
   have r:Hid (Mem wr H p {c with ahead:=int i64 a,rows:=int i64 (zJ t.count a:Nat)} {t with ahead:=a,rows:=zJ t.count a}/\Keep w.heap.size p w wr):=⟨d.1.grown l,d.2.trans (l.lower d.2.size d.2.size)⟩
   clear E z l B aj F;generalize zJ t.count j*t.nst=aZ at *;go_wp2_with fail;apply ad.out;clear ad;have a2:=r.1.tp.get_longer;have a3:=r.1.tp.fz 12;go_wp2_with fail;refine a1.mono ?_;rintro e C ⟨u,rfl,K,L⟩;obtain⟨bd,be,a4⟩:=zF K;have x:Hid (Mem C H p {c with ahead:=int i64 a,rows:=int i64 (zJ t.count a:Nat)} {t with ahead:=a,rows:=zJ t.count a}/\Keep w.heap.size p w C/\Row C H 5 u ((zJ t.count a*t.nst+7)/8) (λk=>int .u8 (xX (t.aheadF a) (zJ t.count a*t.nst) k:Nat))):=⟨r.1.grown L,r.2.trans (L.lower r.2.size r.2.size),K.mono r.1.HH⟩
   have bf:cX C p 12=some c.longer:=x.1.tp.get_longer;have bg:=x.1.tp.fz 12;subst a4;clear K L a2 a3;go_wp2_with fail;go_end0;exact⟨rfl,_,x.1.putLonger _ _ _ x.2.2,x.2.1.trans (Keep.set _ _ _)⟩
end
section
variable (ms:List Sm) (b n i:Nat)
structure Laid where
 starts:List Int
 ends:List Int
 next:List (List Int)
 rules:Nat
def zT (kinds:List Int)(ms:List Sm):Nat->Laid
 |0=>⟨[],[],[],0⟩
 |j+1=>⟨(zT kinds ms j).starts++[((zT kinds ms j).next.length:Int)+(ms.getD j ⟨[],[],0,[]⟩).start],(zT kinds ms j).ends++(ms.getD j ⟨[],[],0,[]⟩).rules.map (yL (zT kinds ms j).rules),(zT kinds ms j).next++(ms.getD j ⟨[],[],0,[]⟩).next.map (λrow=>zR kinds row (zT kinds ms j).next.length 256),(zT kinds ms j).rules+(ms.getD j ⟨[],[],0,[]⟩).empty.length⟩
def zI (ms:List Sm):Nat->Nat
 |0=>0
 |j+1=>zI ms j+(ms.getD j ⟨[],[],0,[]⟩).next.length
def zW (ms:List Sm):Nat->Nat
 |0=>0
 |j+1=>zW ms j+(ms.getD j ⟨[],[],0,[]⟩).empty.length
theorem qN (i j:Nat)(b:i<=j):zI ms i<=zI ms j:=by
 induction j with
 |zero=>rw[show i=0 by omega];exact lQ
 |succ j a=>
  by_cases e:i=j+1
  ·rw[e];exact lQ
  ·have:=a (by omega)
   rw[zI];omega
theorem zBF (i j:Nat)(b:i<=j):zW ms i<=zW ms j:=by
 induction j with
 |zero=>rw[show i=0 by omega];exact lQ
 |succ j a=>
  by_cases e:i=j+1
  ·rw[e];exact lQ
  ·have:=a (by omega)
   rw[zW];omega
structure ModesOk (ms:List Sm):Prop where
 one:1<=ms.length
 three:ms.length<=3
 states1:∀i (hi:i<ms.length),1<=ms[i].next.length
 wide:∀i (hi:i<ms.length),∀row∈ms[i].next,row.length=256/\∀b,b<256->0<=row.getD b 0/\row.getD b 0<ms[i].next.length
 rules:∀i (hi:i<ms.length),ms[i].rules.length=ms[i].next.length/\∀r∈ms[i].rules,-1<=r/\r<ms[i].empty.length
 start:∀i (hi:i<ms.length),0<=ms[i].start/\ms[i].start<ms[i].next.length
 states:zI ms ms.length<=200
 rules1:1<=zW ms ms.length
 rules8:zW ms ms.length<=8
theorem zAp (kinds:List Int)(ms:List Sm)(g:ModesOk ms)(j:Nat)(m:j<=ms.length):(zT kinds ms j).starts.length=j/\(zT kinds ms j).next.length=zI ms j/\(zT kinds ms j).ends.length=zI ms j/\(zT kinds ms j).rules=zW ms j:=by
 induction j with
 |zero=>exact⟨rfl,rfl,rfl,rfl⟩
 |succ j k=>
  have ⟨a,b,c,l⟩:=k (by omega);have f:j<ms.length:=by omega
  have e:ms.getD j ⟨[],[],0,[]⟩=ms[j]:=by rw[lW,lV f];rfl
  rw[zT,zI,zW,e];refine⟨by simp[a],by simp[b],?_,by simp[l]⟩;simp[c,(g.rules j f).1]
theorem zGK (c:b<=n)(d:i<b):(zB ms n).1.getD i 0=(zB ms b).1.getD i 0:=by
 induction n with
 |zero=>omega
 |succ n a=>
  by_cases e:b=n+1
  ·rw[e]
  ·rw[<-a (by omega)]
   have f:=(qZ ms n).1;rw[zB];split <;> (rw [lW,kW (by omega),<-lW])
theorem zEd (f:i<b):0<=(zB ms b).1.getD i 0/\(zB ms b).1.getD i 0<(zB ms b).2:=by
 induction b generalizing i with
 |zero=>omega
 |succ b a=>
  have c:=(qZ ms b).1;have g:=zHp ms b;rw[zB];split
  ·rename_i d
   by_cases e:i=b
   ·subst e
    rw[lW,hZ (by omega),c];simp only[Nat.sub_self,List.getElem?_cons_zero,Option.getD_some];exact a _ d
   ·rw[lW,kW (by omega),<-lW]
    exact a i (by omega)
  ·by_cases e:i=b
   ·subst e
    rw[lW,hZ (by omega),c];simp only[Nat.sub_self,List.getElem?_cons_zero,Option.getD_some];omega
   ·rw[lW,kW (by omega),<-lW]
    have:=a i (by omega);show _/\_<(((zB ms b).2+1:Nat):Int);omega
theorem zHj (d:b<n):((zB ms n).1.getD b 0=((zB ms b).2:Int)↔¬vD ms b<b)/\(zB ms (b+1)).2=if vD ms b<b then(zB ms b).2 else(zB ms b).2+1:=by
 rw[zGK ms (b+1) n b d (by omega)];have c:=(qZ ms b).1;rw[zB];split
 ·rename_i a
  refine⟨?_,rfl⟩;rw[lW,hZ (by omega),c];simp only[Nat.sub_self,List.getElem?_cons_zero,Option.getD_some];have:=zEd ms b (vD ms b) a
  constructor
  ·intro e;omega
  ·intro e;exact absurd a e
 ·rename_i a
  refine⟨?_,rfl⟩;rw[lW,hZ (by omega),c];simp only[Nat.sub_self,List.getElem?_cons_zero,Option.getD_some];exact⟨λ_=>a,λ_=>trivial⟩
theorem zC8 (row:List Int)(first:Int)(n b:Nat)(g:b<=n):(zR (zB ms n).1 row first b).length=(zB ms b).2:=by
 induction b with
 |zero=>rfl
 |succ b a=>
  have ⟨d,f⟩:=zHj ms b n (by omega);have a:=a (by omega);rw[zR,f];by_cases c:vD ms b<b
  ·rw[if_neg (by rw[a];intro e;exact(d.1 e) c),if_pos c,a]
  ·rw[if_pos (by rw[a];exact d.2 c),if_neg c,kX,a]
   rfl
theorem zJM (kinds row:List Int)(first:Int)(P:Int->Prop)(b:Nat)(c:∀i,i<b->P (first+row.getD i 0)):∀x∈zR kinds row first b,P x:=by
 induction b with
 |zero=>intro x a;simp[zR] at a
 |succ b d=>
  intro x a;rw[zR] at a;split at a
  ·rcases kU.1 a with a|a
   ·exact d (λi e=>c i (by omega)) x a
   ·rw[kY.1 a];exact c b (by omega)
  ·exact d (λi e=>c i (by omega)) x a
theorem zDf (c:1<=b):1<=(zB ms b).2:=by
 induction b with
 |zero=>omega
 |succ b a=>
  rw[(zHj ms b (b+1) (by omega)).2];by_cases e:b=0
  ·subst e;simp
  ·have:=a (by omega)
   split <;> omega
theorem zCf (g:ModesOk ms)(j:Nat)(s:j<=ms.length):
  (∀x∈(zT (zB ms 256).1 ms j).starts,0<=x/\x<zI ms j)/\
  (∀x∈(zT (zB ms 256).1 ms j).ends,-1<=x/\x<zW ms j)/\
  (∀r∈(zT (zB ms 256).1 ms j).next,r.length=(zB ms 256).2/\∀x∈r,0<=x/\x<zI ms j):=by
 induction j with
 |zero=>exact⟨λx d=>by simp[zT] at d,λx d=>by simp[zT] at d,λx d=>by simp[zT] at d⟩
 |succ j l=>
  have ⟨a,b,c⟩:=l (by omega);have ⟨s1,s2,t,m⟩:=zAp (zB ms 256).1 ms g j (by omega);have k:j<ms.length:=by omega
  have e:ms.getD j ⟨[],[],0,[]⟩=ms[j]:=by rw[lW,lV k];rfl
  have u:=g.start j k;rw[zT,zI,zW,e];refine⟨λx d=>?_,λx d=>?_,λr f=>?_⟩
  ·rcases kU.1 d with d|d
   ·have:=a x d;omega
   ·rw[kY.1 d,s2];omega
  ·rcases kU.1 d with d|d
   ·have:=b x d;omega
   ·obtain⟨y,o,rfl⟩:=List.mem_map.1 d
    have:=(g.rules j k).2 y o;unfold yL;rw[m];split <;> omega
  ·rcases kU.1 f with f|f
   ·refine⟨(c r f).1,λx d=>?_⟩
    have:=(c r f).2 x d;omega
   ·obtain⟨row,p,rfl⟩:=List.mem_map.1 f
    have ⟨w1,w2⟩:=g.wide j k row p;refine⟨zC8 ms row _ 256 256 lQ,zJM _ _ _ _ 256 λi q=>?_⟩;have:=w2 i q;rw[s2];omega
def zZ (ms:List Sm)(acts pushed:List Int)(hold:Nat):Tb where
 stream:=false
 ahead:=0
 hold:=hold
 count:=(zB ms 256).2
 rows:=0
 nst:=zI ms ms.length
 nmode:=ms.length
 nrule:=acts.length
 nlong:=0
 start:=λi=>((zT (zB ms 256).1 ms ms.length).starts.getD i 0).toNat
 act:=λi=>(acts.getD i 0).toNat
 push:=λi=>(pushed.getD i 0).toNat
 kind:=λb=>((zB ms 256).1.getD b 0).toNat
 next:=λs k=>(((zT (zB ms 256).1 ms ms.length).next.getD s []).getD k 0).toNat
 ends:=λs=>(zT (zB ms 256).1 ms ms.length).ends.getD s 0
 live:=λ_=>false
 long:=λ_=>0
theorem zV {a:Type}(l:List a)(i:Nat)(c:a)(b:i<l.length):l.getD i c∈l:=by
 rw[lW,lV b];exact List.getElem_mem b
theorem zDb (acts pushed:List Int)(hold:Nat)(a:ModesOk ms)(d:acts.length=zW ms ms.length):(zZ ms acts pushed hold).OkN:=by
 have ⟨s1,s2,l,m⟩:=zAp (zB ms 256).1 ms a ms.length lQ;have ⟨o,b2,e⟩:=zCf ms a ms.length lQ;refine⟨(qZ ms 256).2,a.states,λs k b f=>?_,λs b=>?_⟩
 ·have g:s<zI ms ms.length:=b
  have p:k<(zB ms 256).2:=f;have j:=e _ (zV _ s [] (by omega));have c:=j.2 _ (zV _ k 0 (by omega));show(((zT (zB ms 256).1 ms ms.length).next.getD s []).getD k 0).toNat<zI ms ms.length;omega
 ·have g:s<zI ms ms.length:=b
  have c:=b2 _ (zV _ s 0 (by omega));show -1<=(zT (zB ms 256).1 ms ms.length).ends.getD s 0/\(zT (zB ms 256).1 ms ms.length).ends.getD s 0<(acts.length:Int);rw[d];exact c
end
theorem OwnI.row {w:World}{H:Nat}{v:Value}{l:List Int}(b:OwnI w H v l)(n:Nat)(c:l.length=n)(f:Nat->Int)(d:∀i,i<n->l.getD i 0=f i):Row w H 3 v n λi=>iX (f i):=by
 unfold Row;subst c;have e:(List.range l.length).map (λi=>iX (f i))=l.map λx=>iX x:=by
  apply List.ext_getElem?;intro i;rw[gZ,gZ];by_cases a:i<l.length
  ·rw[List.getElem?_range a,lV a]
   simp only[Option.map_some];rw[<-d i a,lW,lV a];rfl
  ·rw[List.getElem?_eq_none (by simpa using a),List.getElem?_eq_none (by omega)]
   rfl
 rw[e];exact b
theorem Gt.memB {w:World}{H p:Nat}{c:Tc}{ms:List Sm}{acts pushed:List Int}{hold:Nat}(a:Gt w H p c (zB ms 256).1 acts pushed (zT (zB ms 256).1 ms ms.length).starts (zT (zB ms 256).1 ms ms.length).ends (zT (zB ms 256).1 ms ms.length).next)(d:ModesOk ms)
  (f:∀i,i<acts.length->0<=acts.getD i 0) (g:pushed.length=acts.length) (j:∀i,i<pushed.length->0<=pushed.getD i 0)
  (c0:c.stream=bool false) (c1:c.ahead=iX (0:Nat)) (c2:c.hold=iX (hold:Nat)) (l:c.count=iX ((zB ms 256).2:Nat)) (m:c.rows=iX (0:Nat)) (o:c.longer=nX):MemB w H p c (zZ ms acts pushed hold):=by
 have ⟨s1,s2,q,y⟩:=zAp (zB ms 256).1 ms d ms.length lQ;have ⟨r,b2,e⟩:=zCf ms d ms.length lQ;have ⟨rv,s,t⟩:=a.next
 refine⟨a.tp,c0,c1,c2,l,m,a.starts.row _ s1 _ λi b=>?_,a.acts.1.row _ rfl _ λi b=>?_,a.pushed.1.row _ g _ λi b=>?_,a.kinds.1.row _ (qZ ms 256).1 _ λi b=>?_,⟨rv,?_,λi b=>(t i (by rw[s2];exact b)).1.row _ ?_ _ λk u=>?_⟩,a.ends.row _ q _ λi b=>rfl,?_,a.HH⟩
 ·have:=r _ (zV _ i 0 (by omega))
  show _=(((zT (zB ms 256).1 ms ms.length).starts.getD i 0).toNat:Int);omega
 ·have:=f i b
  show _=((acts.getD i 0).toNat:Int);omega
 ·have v:i<acts.length:=b
  have:=j i (by omega);show _=((pushed.getD i 0).toNat:Int);omega
 ·have:=zEd ms 256 i b
  show _=(((zB ms 256).1.getD i 0).toNat:Int);omega
 ·have a:=s
  rw[s2] at a;exact a
 ·exact(e _ (zV _ i [] (by rw[s2];exact b))).1
 ·have v:i<zI ms ms.length:=b
  have x:=e _ (zV _ i [] (by omega));have z:k<(zB ms 256).2:=u;have A:=x.2 _ (zV _ k 0 (by omega));show _=((((zT (zB ms 256).1 ms ms.length).next.getD i []).getD k 0).toNat:Int);omega
 ·rw[o]
  exact ownsRow_nil _ _ _ _
def vN (ms:List Sm)(acts pushed:List Int)(hold n:Nat):Tb:=(((zZ ms acts pushed hold).first.itr n)).looking 0
theorem ModesOk.fit {ms:List Sm}(c:ModesOk ms)(i:Nat)(a:i<ms.length):ms[i].Fit/\ms[i].next.length<=200:=by
 have f:=qN ms (i+1) ms.length a;have m:=c.states;have e:ms.getD i ⟨[],[],0,[]⟩=ms[i]:=by rw[lW,lV a];rfl
 rw[zI,e] at f;have g:=zBF ms (i+1) ms.length a;have o:=c.rules8;rw[zW,e] at g;have k:=c.start i a;refine⟨⟨λj d=>?_,λj d=>?_,k.1,by omega⟩,by omega⟩
 ·have ⟨w1,w2⟩:=c.wide i a _ (zV ms[i].next j [] d)
  exact⟨w1,λb l=>by have:=w2 b l;omega⟩
 ·have:=(c.rules i a).2 _ (zV ms[i].rules j 0 d)
  omega
def Made (w w':World)(e:Ending)(ms:List Sm)(acts pushed:List Int)(hold:Nat):Prop:=
 ∃p H c n,e=returned (pointer (some ⟨p,0,none⟩))/\w.heap.size<=p/\w.heap.size<=H/\Mem w' H p c (vN ms acts pushed hold n)/\(((zZ ms acts pushed hold).first.itr n).spreadTo (zI ms ms.length)).2=false/\Grew w w'
theorem zQQ (w0 w:World)(p:Nat)(c:Tc)(ms:List Sm)(acts pushed:List Int)(hold:Nat)(hG:Gt w w0.heap.size p c (zB ms 256).1 acts pushed (zT (zB ms 256).1 ms ms.length).starts (zT (zB ms 256).1 ms ms.length).ends (zT (zB ms 256).1 ms ms.length).next)(hok:ModesOk ms)(hp0:w0.heap.size<=p)
  (hal:acts.length=zW ms ms.length) (ha:∀i,i<acts.length->0<=acts.getD i 0) (hpl:pushed.length=acts.length) (hp:∀i,i<pushed.length->0<=pushed.getD i 0)
  (c0:c.stream=bool false) (c1:c.ahead=iX (0:Nat)) (c2:c.hold=iX (hold:Nat)) (c7:c.count=iX ((zB ms 256).2:Nat)) (c10:c.live=nX) (c11:c.rows=iX (0:Nat)) (c12:c.longer=nX) (hK:Keep w0.heap.size p w0 w)
  {u0 u1 u2 u3 u4 u5 u6 u7 u8 u9 u10 u12 u13 u14 u15 u16 u17 u18 u19 u20 u21 u22 u23 u24 u25 u26 u27 u28 u29 u30 u31 u32 u33 u34 u35 u36 u37 u38 u39 u40 u41 u42 u43 u44 u45 u46 u47 u48 u49 u50 u51 u52 u53 u54 u55 u56 u57 u58 u59 u60 u61 u62 u63 u64:Value}:
  Code.wp prog (qE 7 ((f45.body).getD .skip)) (bodyPost prog f45 λe w'=>Made w0 w' e ms acts pushed hold)
   ⟨(u0::u1::u2::u3::u4::u5::u6::u7::u8::u9::u10::pX p::u12::u13::u14::u15::u16::u17::u18::u19::u20::u21::u22::u23::u24::u25::u26::u27::u28::u29::u30::u31::u32::u33::u34::u35::u36::u37::u38::u39::u40::u41::u42::u43::u44::u45::u46::u47::u48::u49::u50::u51::u52::u53::u54::u55::u56::u57::u58::u59::u60::u61::u62::u63::u64::[]).toArray,[]⟩ w:=by
 conv=>arg 2;whnf
 have hokN:=zDb ms acts pushed hold hok hal;have hn1:1<=(zZ ms acts pushed hold).nst:=by
  have h1:=qN ms 1 ms.length hok.one;have h2:=hok.states1 0 hok.one;have e:ms.getD 0 ⟨[],[],0,[]⟩=ms[0]'hok.one:=by rw[lW,lV hok.one];rfl
  have h3:zI ms 1=0+(ms.getD 0 ⟨[],[],0,[]⟩).next.length:=rfl
  rw[e] at h3;show 1<=zI ms ms.length;omega
 have hc1:1<=(zZ ms acts pushed hold).count:=zDf ms 256 (by decide);have HF:Hid (Ca 65 #[pX p] w λe w'=>e=rX/\∃v n,Mem w' w0.heap.size p {c with live:=v} ((zZ ms acts pushed hold).first.itr n)/\(((zZ ms acts pushed hold).first.itr n).spreadTo (zZ ms acts pushed hold).nst).2=false/\Keep w0.heap.size p w w'):=
  zF8 w w0.heap.size p c (zZ ms acts pushed hold) (hG.memB hok ha hpl hp c0 c1 c2 c7 c11 c12) c10 hokN hn1 hc1
 have HKP:Hid (Keep w0.heap.size p w0 w):=hK;have HOK:Hid ((zZ ms acts pushed hold).OkN):=hokN;clear hG hok hal ha hpl hp c0 c1 c2 c7 c10 c11 c12 hK hokN;go_wp2_with fail;refine HF.mono ?_;rintro e w1 ⟨rfl,v,n,hM1,hsp,hk1⟩;have A1:Hid (Mem w1 w0.heap.size p {c with live:=v} ((zZ ms acts pushed hold).first.itr n)/\(((zZ ms acts pushed hold).first.itr n).spreadTo (zZ ms acts pushed hold).nst).2=false/\Keep w0.heap.size p w0 w1):=⟨hM1,hsp,HKP.trans hk1⟩
 clear hM1 hsp hk1 HF;have HS:Hid (Ca 66 #[pX p,iX (0:Nat)] w1 λe w'=>e=rX/\∃c',Mem w' w0.heap.size p c' (((zZ ms acts pushed hold).first.itr n).looking 0)/\Keep w0.heap.size p w1 w'):=
  (zB8 w1 w0.heap.size p _ _ A1.1 (zKP (t:=(zZ ms acts pushed hold).first) (HOK.withLive _) n) (by rw[zIc];exact hn1) (by rw[zBq];exact hc1) 0 (by decide) (by rw[zB4];decide)).mono (by
   rintro e w' ⟨h1,c',h2,h3⟩;exact⟨h1,c',h2,⟨h3.os,h3.output,h3.size,λk k1 k2=>h3.block k (lZ k1 A1.1.HH) k2⟩⟩)
 go_wp2_with fail;refine HS.mono ?_;rintro e w2 ⟨rfl,c',hM2,hk2⟩;have A2:Hid (Mem w2 w0.heap.size p c' (((zZ ms acts pushed hold).first.itr n).looking 0)/\Keep w0.heap.size p w0 w2):=⟨hM2,A1.2.2.trans hk2⟩
 clear hM2 hk2 HS;go_wp2_with fail;go_ret;exact⟨p,w0.heap.size,c',n,rfl,hp0,lQ,A2.1,A1.2.1,A2.2.lower lQ hp0⟩
theorem zQR (d w:World)(S:Nat->Prop)(p:Nat)(c:Tc)(ms:List Sm)(acts pushed:List Int)(hold:Nat)(K:Value)(ax:ModesAt d S K ms)(y:∀k,S k->k<d.heap.size)(L:Gt w d.heap.size p c (zB ms 256).1 acts pushed [] [] [])(C:ModesOk ms)(ay:d.heap.size<=p)
  (M:acts.length=zW ms ms.length) (N:∀i,i<acts.length->0<=acts.getD i 0) (O:pushed.length=acts.length) (P:∀i,i<pushed.length->0<=pushed.getD i 0)
  (c0:c.stream=bool false) (c1:c.ahead=iX (0:Nat)) (c2:c.hold=iX (hold:Nat)) (R:c.count=iX ((zB ms 256).2:Nat)) (T:c.live=nX) (U:c.rows=iX (0:Nat)) (V:c.longer=nX) (W:Keep d.heap.size p d w)
  {u1 u2 u3 u4 u5 u6 u7 u8 u9 u10 u12 u13 u14 u15 u16 u17 u18 u19 u20 u21 u22 u23 u24 u25 u26 u27 u28 u29 u30 u31 u32 u33 u34 u35 u36 u37 u38 u39 u40 u41 u42 u43 u44 u45 u46 u47 u48 u49 u50 u51 u52 u53 u54 u55 u56 u57 u58 u59 u60 u61 u62 u63 u64:Value}:
  Code.wp prog (qE 5 ((f45.body).getD .skip)) (bodyPost prog f45 λe w'=>Made d w' e ms acts pushed hold)
   ⟨(K::u1::u2::u3::u4::u5::u6::u7::u8::u9::u10::pX p::u12::u13::u14::u15::u16::u17::u18::u19::u20::u21::u22::u23::u24::u25::u26::u27::u28::u29::u30::u31::u32::u33::u34::u35::u36::u37::u38::u39::u40::u41::u42::u43::u44::u45::u46::u47::u48::u49::u50::u51::u52::u53::u54::u55::u56::u57::u58::u59::u60::u61::u62::u63::u64::[]).toArray,[]⟩ w:=by
 conv=>arg 2;whnf
 obtain⟨az,a2,rfl,a4,a5,X⟩:=ax;have aA:Hid (∀i (a6:i<ms.length),∃b o u0 u1 u3,az=some ⟨b,o,none⟩/\S b/\d.cell? ⟨b,o+i*4,none⟩=some u0/\d.cell? ⟨b,o+i*4+1,none⟩=some u1/\d.cell? ⟨b,o+i*4+2,none⟩=some (iX ms[i].start)/\d.cell? ⟨b,o+i*4+3,none⟩=some u3/\IntRows d S u0 ms[i].next/\Ints d S u1 ms[i].rules/\Bools d S u3 ms[i].empty):=X;have E:Hid (Gt w d.heap.size p c (zB ms 256).1 acts pushed [] [] []/\Keep d.heap.size p d w):=⟨L,W⟩
 have aB:Hid (∀(f:Tc) (w':World),Gt w' d.heap.size p f (zB ms 256).1 acts pushed (zT (zB ms 256).1 ms ms.length).starts (zT (zB ms 256).1 ms ms.length).ends (zT (zB ms 256).1 ms ms.length).next->Keep d.heap.size p d w'->f={c with starts:=f.starts,next:=f.next,ends:=f.ends}->∀{u0 u1 u2 u3 u4 u5 u6 u7 u8 u9 u10 u12 u13 u14 u15 u16 u17 u18 u19 u20 u21 u22 u23 u24 u25 u26 u27 u28 u29 u30 u31 u32 u33 u34 u35 u36 u37 u38 u39 u40 u41 u42 u43 u44 u45 u46 u47 u48 u49 u50 u51 u52 u53 u54 u55 u56 u57 u58 u59 u60 u61 u62 u63 u64:Value},Code.wp prog (qE 7 ((f45.body).getD .skip)) (bodyPost prog f45 λe w'=>Made d w' e ms acts pushed hold) ⟨(u0::u1::u2::u3::u4::u5::u6::u7::u8::u9::u10::pX p::u12::u13::u14::u15::u16::u17::u18::u19::u20::u21::u22::u23::u24::u25::u26::u27::u28::u29::u30::u31::u32::u33::u34::u35::u36::u37::u38::u39::u40::u41::u42::u43::u44::u45::u46::u47::u48::u49::u50::u51::u52::u53::u54::u55::u56::u57::u58::u59::u60::u61::u62::u63::u64::[]).toArray,[]⟩ w'):=by
  intro f w' aC D m;intros
  exact zQQ d w' p f ms acts pushed hold aC C ay M N O P (by rw[m];exact c0) (by rw[m];exact c1) (by rw[m];exact c2) (by rw[m];exact R) (by rw[m];exact T) (by rw[m];exact U) (by rw[m];exact V) D
 have t:Hid (ModesOk ms):=C;have a7:=C.three;clear X L W C M N O P c0 c1 c2 R T U V;refine wp_seq_k ?_;intro aD hK0;have Y:Hid (∀a w,_->aD a w):=hK0;clear hK0;go_wp2_with fail;apply Y.out;clear Y;refine wp_seq_k ?_;intro aE hK1;have aF:Hid (∀a w,_->aE a w):=hK1;clear hK1;go_wp2_with fail;go_loopg [12,45] ms.length (λq aG i wr=>∃(j:Nat) (l:Tc),q=ms.length-j/\j<=ms.length/\i=iX (j:Int)/\aG=iX ((zW ms j:Nat):Int)/\Gt wr d.heap.size p l (zB ms 256).1 acts pushed (zT (zB ms 256).1 ms j).starts (zT (zB ms 256).1 ms j).ends (zT (zB ms 256).1 ms j).next/\Turn d.heap.size p w c wr l)
 case atStart=>exact⟨0,c,rfl,lX,rfl,rfl,E.1,Turn.refl _ _ _ _⟩
 case round=>
  obtain⟨j,l,F,aa,rfl,rfl,g,u⟩:=hrel;have ab:Hid (gk=ms.length-j/\Gt wr d.heap.size p l (zB ms 256).1 acts pushed (zT (zB ms 256).1 ms j).starts (zT (zB ms 256).1 ms j).ends (zT (zB ms 256).1 ms j).next/\Turn d.heap.size p w c wr l):=⟨F,g,u⟩
  have aH:zW ms j<=8:=lY (zBF ms j ms.length aa) t.rules8;by_cases v:j<ms.length
  ·have aI:(j:Int)<(ms.length:Int):=by omega
   obtain⟨r,o,v0,v1,aJ,rfl,aK,ac,ad,ae,af,ag,ah,aL⟩:=aA j v;have kb:∀x,S x->wr.heap[x]? =d.heap[x]? :=λx z=>by
    have:=y x z;exact(u.keep.block x this (by omega)).trans (E.2.block x this (by omega))
   have A:∀i,wr.cell? ⟨r,i,none⟩=d.cell? ⟨r,i,none⟩:=λi=>gW (kb r aK);have aM:wr.cell? ⟨r,o+j*4,none⟩=some v0:=(A _).trans ac;have aN:wr.cell? ⟨r,o+j*4+1,none⟩=some v1:=(A _).trans ad;have aO:wr.cell? ⟨r,o+j*4+2,none⟩=some (iX ms[j].start):=(A _).trans ae;have aP:wr.cell? ⟨r,o+j*4+3,none⟩=some aJ:=(A _).trans af;have ⟨s1,s2,ai,aj⟩:=zAp (zB ms 256).1 ms t j aa;have ak:=qN ms (j+1) ms.length v;have aQ:=t.states;have B:ms.getD j ⟨[],[],0,[]⟩=ms[j]:=by rw[lW,lV v];rfl
   have al:zI ms j+ms[j].next.length<=200:=by
    rw[zI,B] at ak;omega
   have am:=(t.rules j v).1;have a8:zW ms j+ms[j].empty.length<=8:=by
    have G:=zBF ms (j+1) ms.length v;have an:=t.rules8;rw[zW,B] at G;omega
   have ao:Hid (∀s,Grew wr s->Ca 64 #[pX p,agg #[v0,v1,iX ms[j].start],iX ((zW ms j:Nat):Int)] s λe w'=>e=rX/\∃f,Gt w' d.heap.size p f (zB ms 256).1 acts pushed (zT (zB ms 256).1 ms (j+1)).starts (zT (zB ms 256).1 ms (j+1)).ends (zT (zB ms 256).1 ms (j+1)).next/\Turn d.heap.size p wr l w' f/\∀k,wr.heap.size<=k->k<s.heap.size->w'.heap[k]? =s.heap[k]?):=by
    intro s H;have ap:∀x,S x->s.heap[x]? =d.heap[x]? :=λx z=>(H.block x (lZ (y x z) g.HH) (by have:=y x z;have:=g.HH;omega)).trans (kb x z);have aR:=zGR s d.heap.size p l (zB ms 256).1 acts pushed _ _ _ (g.grown H) ms[j] v0 v1 S (ag.keep ap) (ah.keep ap) (λk D=>⟨y k D,by have:=y k D;omega⟩) (zW ms j) (t.fit j v).1 aH (qZ ms 256).1 (by rw[s2];exact al) (by rw[ai,am];exact al) (by rw[s1];omega);refine aR.mono ?_;rintro e w' ⟨aS,f,aT,aq⟩;refine⟨aS,f,?_,(Turn.grown H g.HH).trans aq,λk G an=>(aq.rest k (lY g.HH G) ⟨an,λe=>by have:=g.tp.lt;omega,λe=>by have:=(g.starts.lt k e.symm).2;omega,λe=>?_,λe=>by have:=(g.ends.lt k e.symm).2;omega⟩).1⟩
    ·rw[zT,B,aj]
     exact aT
    ·have ⟨_,aU,_⟩:=g.next
     have:=(aU.lt k e.symm).2;omega
   have aV:Hid (zW ms (j+1)=zW ms j+ms[j].empty.length):=by show _=_;rw[zW,B]
   have a9:d.heap.size<=wr.heap.size:=g.HH;obtain⟨ba,bc,aW,_⟩:=ag;obtain⟨bd,be,aX,_⟩:=ah;obtain⟨aY,q3,aZ,_⟩:=aL;subst aW aX aZ;clear F g u kb A ac ad ae af s1 s2 ai aj ak aQ B am;generalize ms[j].next.length=bf at *
   generalize ms[j].rules.length=bg at *;generalize ms[j].empty.length=le at *;generalize ms[j].start=bh at *;generalize zW ms j=bi at *;go_wp2_with fail;refine(ao _ (kZ _ _ lQ)).mono ?_;rintro e w2 ⟨rfl,f,ar,au,av⟩;have bj:w2.cell? ⟨wr.heap.size,3,none⟩=some (slice aY le q3):=by
    rw[World.cell?_of_block (av wr.heap.size lQ (by simp))];unfold cell?;rw[gY wr _];rfl
   have aw:Hid (Gt w2 d.heap.size p f (zB ms 256).1 acts pushed (zT (zB ms 256).1 ms (j+1)).starts (zT (zB ms 256).1 ms (j+1)).ends (zT (zB ms 256).1 ms (j+1)).next/\Turn d.heap.size p w c w2 f):=⟨ar,ab.2.2.trans au⟩
   clear ar au av ao aM aN aO aP;go_wp2_with fail;go_roundg (ms.length-(j+1))
   case measure=>rw[ab.out.1];omega
   case rel=>exact⟨j+1,f,rfl,by omega,by go_num,by rw[aV.out];go_num,aw.1,aw.2⟩
  ·have I:j=ms.length:=by omega
   have aI:(ms.length:Int)<=(j:Int):=by omega
   have J:Hid (Gt wr d.heap.size p l (zB ms 256).1 acts pushed (zT (zB ms 256).1 ms ms.length).starts (zT (zB ms 256).1 ms ms.length).ends (zT (zB ms 256).1 ms ms.length).next/\Keep d.heap.size p d wr/\l={c with starts:=l.starts,next:=l.next,ends:=l.ends}):=by
    rw[<-I];refine⟨?_,E.2.trans u.keep,u.same⟩;rw[I] at g ⊢;exact g
   clear F g u I;go_wp2_with fail;apply aF.out;exact aB l wr J.1 J.2.1 J.2.2
theorem zKI (w:World)(S:Nat->Prop)(G W X:Value)(ms:List Sm)(acts pushed:List Int)(hold:Nat)(Y:ModesAt w S G ms)(aa:Ints w S W acts)(ab:Ints w S X pushed)(O:∀k,S k->k<w.heap.size)(o:ModesOk ms)(A:acts.length=zW ms ms.length)(ac:pushed.length=acts.length)(aS:∀i,i<acts.length->0<=acts.getD i 0)(aT:∀i,i<pushed.length->0<=pushed.getD i 0):
  Calls prog 45 #[G,W,X,iX hold] w λe w'=>Made w w' e ms acts pushed hold:=by
 have aU:Hid (ModesAt w S G ms/\Ints w S W acts/\Ints w S X pushed):=⟨Y,aa,ab⟩
 have ao:Wide ms:=λm ad row aV=>by
  obtain⟨i,B,rfl⟩:=List.getElem_of_mem ad;exact(o.wide i B row aV).1
 have ap:∀m∈ms,m.next.length<=200:=λm ad=>by
  obtain⟨i,B,rfl⟩:=List.getElem_of_mem ad;have aW:=qN ms (i+1) ms.length B;have bk:=o.states;have e:ms.getD i ⟨[],[],0,[]⟩=ms[i]:=by rw[lW,lV B];rfl
  rw[zI,e] at aW;omega
 have aq:=zGJ w S G ms Y O ao o.three ap;have H:Hid (Ca 63 #[G] w λe w'=>∃u,e=returned (tuple #[u,iX ((zB ms 256).2:Nat)])/\OwnI w' w.heap.size u (zB ms 256).1/\Grew w w'):=aq;obtain⟨bl,bm,rfl,_⟩:=Y;obtain⟨I,ae,aX,rfl,aY,_,_,ar⟩:=aa.block (by rw[A];exact o.rules1);obtain⟨J,af,aZ,rfl,a0,_,_,aw⟩:=ab.block (by rw[ac,A];exact o.rules1);have bn:acts.length<=8:=by rw[A];exact o.rules8
 have bo:1<=acts.length:=by rw[A];exact o.rules1
 have bq:pushed.length<=8:=by omega
 have br:1<=pushed.length:=by omega
 have ⟨ax,ay,az,aA,aB⟩:=info_parts yW;have a1:Hid (∀j u,(acts.map λx=>iX x)[j]? =some u->w.cell? ((⟨I,ae,none⟩:Addr).add j)=some u):=by
  intro j u b;rw[gZ] at b;obtain⟨x,K,rfl⟩:=Option.map_eq_some_iff.1 b;have ag:=(List.getElem?_eq_some_iff.1 K).1;rw[Addr.add_lit,ar j ag,lW,K];rfl
 have a2:Hid (∀j u,(pushed.map λx=>iX x)[j]? =some u->w.cell? ((⟨J,af,none⟩:Addr).add j)=some u):=by
  intro j u b;rw[gZ] at b;obtain⟨x,K,rfl⟩:=Option.map_eq_some_iff.1 b;have ag:=(List.getElem?_eq_some_iff.1 K).1;rw[Addr.add_lit,aw j ag,lW,K];rfl
 have a3:=O I aY;have a4:=O J a0;clear ar aw;have aC:Hid (acts.length=zW ms ms.length/\pushed.length=acts.length):=⟨A,ac⟩
 have a5:Hid (ModesOk ms):=o;clear aq A ac aa ab o ao ap;go_enter func45,ntmps45
 refine wp_seq_k ?_;intro a6 hK0;have aD:Hid (∀a w,_->a6 a w):=hK0;clear hK0;go_wp2_with fail;apply aD.out;clear aD;refine wp_seq_k ?_;intro a7 hK1;have aE:Hid (∀a w,_->a7 a w):=hK1;clear hK1;go_wp2_with fail;refine H.mono ?_;rintro e w1 ⟨u,rfl,ah,aF⟩;have ⟨r,s,b⟩:=ah.form;subst b;have P:Hid (OwnI w1 w.heap.size (slice r (zB ms 256).1.length s) (zB ms 256).1/\Grew w w1):=⟨ah,aF⟩
 clear ah aF H;go_wp2_with fail;apply aE.out;clear aE;refine wp_seq_k ?_;intro a8 hK2;have H:Hid (∀a w,_->a8 a w):=hK2;clear hK2;go_wp2_with fail;apply H.out;clear H;obtain⟨w2,ai,z⟩:∃w2,w2=w1.alloc (.cells #[fX,zX,iX hold,nX,nX,nX,slice r (zB ms 256).1.length s,iX ((zB ms 256).2:Nat),nX,nX,nX,zX,nX] 90)/\
   Hid (xH w2 w1.heap.size ⟨fX,zX,iX hold,nX,nX,nX,slice r (zB ms 256).1.length s,iX ((zB ms 256).2:Nat),nX,nX,nX,zX,nX⟩/\OwnI w2 w.heap.size (slice r (zB ms 256).1.length s) (zB ms 256).1/\Keep w.heap.size w1.heap.size w w2):=
  ⟨_,rfl,gY w1 _,zL P.1 (kZ _ _ lQ),P.2.lower lQ lQ |>.trans (kZ _ _ P.2.size)⟩
 rw[<-ai];have aG:w1.heap.size<w2.heap.size:=by rw[ai];simp
 have a9:=P.2.size;clear ai;refine wp_seq_k ?_;intro bb hK3;have aH:Hid (∀a w,_->bb a w):=hK3;clear hK3;have aI:=z.1.get_acts;have aJ:=z.1.fz 4;have bc:w.heap.size<=w2.heap.size:=by omega
 have aK:Hid (∀j u,(acts.map λx=>iX x)[j]? =some u->w2.cell? ((⟨I,ae,none⟩:Addr).add j)=some u):=λj u b=>by
  have f:=a1 j u b;rw[Addr.add_lit] at f ⊢;exact(gW (z.2.2.block I a3 (by omega))).trans f
 go_wp2_with (at_builtin;refine wpList_append_lies _ rfl _ _ 45 rfl w.heap.size 3 ax zX 1 8 underlying45 ay az aA aB rfl (by decide) nX 0 [] rfl (ownsRow_nil _ _ _ _) ⟨I,ae,none⟩ acts.length aX (acts.map λx=>iX x) rfl (by simp) aK (by intro u b;obtain⟨x,_,rfl⟩:=List.mem_map.1 b;rfl) (by omega) (by unfold maxLen;omega) (by omega) bc w2.heap.size rfl ?_;intro C D L M c aj bs;have p:=c.block w1.heap.size aG (by simp[Value.ownBlock]);have bd:cX L w1.heap.size 4=some nX:=(gW p).trans aI;have be:L.frozen? ⟨w1.heap.size,4,none⟩=false:=(gV p).trans aJ)
 obtain⟨d,ak,t⟩:∃d,d=L.setCell ⟨w1.heap.size,4,none⟩ (slice (qX C) acts.length D)/\
   Hid (xH d w1.heap.size ⟨fX,zX,iX hold,nX,slice (qX C) acts.length D,nX,slice r (zB ms 256).1.length s,iX ((zB ms 256).2:Nat),nX,nX,nX,zX,nX⟩/\OwnI d w.heap.size (slice r (zB ms 256).1.length s) (zB ms 256).1/\OwnI d w.heap.size (slice (qX C) acts.length D) acts/\Keep w.heap.size w1.heap.size w d):=by
  have al:=z.1.of_block p;have R:OwnI L w.heap.size (slice (qX C) acts.length D) acts:=by
   have f:=M;rw[Nat.zero_add,List.nil_append] at f;exact f
  have aL:Grew w2 L:=⟨c.os,c.output,c.size,λk q _=>c.block k q (by simp[Value.ownBlock])⟩
  have T:=zL z.2.1 aL;refine⟨_,rfl,al.set_acts _,zE T λk _ _ q=>lJ _ _ _ _ (λe=>jK al T (by decide) (by rw[q];exact congrArg some e.symm)),zE R λk _ _ q=>lJ _ _ _ _ (λe=>jK al R (by decide) (by rw[q];exact congrArg some e.symm)),(z.2.2.trans (aL.lower (by omega) (by omega))).trans (Keep.set _ _ _)⟩
 rw[<-ak];have bf:w1.heap.size<d.heap.size:=by rw[ak,zD];exact lZ aG c.size
 clear ak M c aj p bd be aI aJ z aK;apply aH.out;clear aH;refine wp_seq_k ?_;intro bg hK4;have aM:Hid (∀a w,_->bg a w):=hK4;clear hK4;have y5:=t.1.get_pushed;have aN:=t.1.fz 5;have aO:w.heap.size<=d.heap.size:=by omega
 have aP:Hid (∀j u,(pushed.map λx=>iX x)[j]? =some u->d.cell? ((⟨J,af,none⟩:Addr).add j)=some u):=λj u b=>by
  have f:=a2 j u b;rw[Addr.add_lit] at f ⊢;exact(gW (t.2.2.2.block J a4 (by omega))).trans f
 go_wp2_with (at_builtin;refine wpList_append_lies _ rfl _ _ 45 rfl w.heap.size 3 ax zX 1 8 underlying45 ay az aA aB rfl (by decide) nX 0 [] rfl (ownsRow_nil _ _ _ _) ⟨J,af,none⟩ pushed.length aZ (pushed.map λx=>iX x) rfl (by simp) aP (by intro u b;obtain⟨x,_,rfl⟩:=List.mem_map.1 b;rfl) (by omega) (by unfold maxLen;omega) (by omega) aO d.heap.size rfl ?_;intro E F y M c aj bt;have p:=c.block w1.heap.size bf (by simp[Value.ownBlock]);have bh:cX y w1.heap.size 5=some nX:=(gW p).trans y5;have bi:y.frozen? ⟨w1.heap.size,5,none⟩=false:=(gV p).trans aN)
 obtain⟨N,aQ,aR⟩:∃N,N=y.setCell ⟨w1.heap.size,5,none⟩ (slice (qX E) pushed.length F)/\
   Hid (Gt N w.heap.size w1.heap.size ⟨fX,zX,iX hold,nX,slice (qX C) acts.length D,slice (qX E) pushed.length F,slice r (zB ms 256).1.length s,iX ((zB ms 256).2:Nat),nX,nX,nX,zX,nX⟩ (zB ms 256).1 acts pushed [] [] []/\Keep w.heap.size w1.heap.size w N):=by
  have am:=t.1.of_block p;have bj:OwnI y w.heap.size (slice (qX E) pushed.length F) pushed:=by
   have f:=M;rw[Nat.zero_add,List.nil_append] at f;exact f
  have an:Grew d y:=⟨c.os,c.output,c.size,λk q _=>c.block k q (by simp[Value.ownBlock])⟩
  have T:=zL t.2.1 an;have R:=zL t.2.2.1 an;have fin:∀{v l},OwnI y w.heap.size v l->Fin (y.setCell ⟨w1.heap.size,5,none⟩ (slice (qX E) pushed.length F)) (Rest (y.setCell ⟨w1.heap.size,5,none⟩ (slice (qX E) pushed.length F)) w1.heap.size ⟨fX,zX,iX hold,nX,slice (qX C) acts.length D,slice (qX E) pushed.length F,slice r (zB ms 256).1.length s,iX ((zB ms 256).2:Nat),nX,nX,nX,zX,nX⟩) w.heap.size v l:=λU=>
   ⟨zE U λk _ _ q=>lJ _ _ _ _ (λe=>jK am U (by decide) (by rw[q];exact congrArg some e.symm)),λg V=>⟨by rw[zD];exact(World.ownsRow.lt U g V).2,λe=>jK am U (by decide) (by rw[V,e]),by simp[Value.ownBlock],by simp[Value.ownBlock],by simp[Value.ownBlock]⟩⟩
  refine⟨_,rfl,⟨am.set_pushed _,OwnI.nil _ _,OwnI.nil _ _,⟨λ_=>nX,ownsRow_nil _ _ _ _,λi B=>by simp at B⟩,fin T,fin R,fin bj,by rw[zD];exact lY aO c.size,λg V=>by simp[Value.ownBlock] at V⟩,(t.2.2.2.trans (an.lower (by omega) (by omega))).trans (Keep.set _ _ _)⟩
 rw[<-aQ];clear aQ M c aj p bh bi y5 aN t aP;apply aM.out;clear aM;exact zQR w N S w1.heap.size _ ms acts pushed hold _ aU.1 O aR.1 a5 a9 aC.1 aS aC.2 aT rfl rfl rfl rfl rfl rfl rfl aR.2
section
variable {w w':World} {v:Value}
def In (w:World)(k:Nat):Prop:=k<w.heap.size
theorem Ints.grown {l:List Int}(d:Ints w (In w) v l)(c:Grew w w'):Ints w' (In w') v l:=
 (d.keep λb a=>c.block b a (kJ a)).mono λ_ a=>lZ a c.size
theorem Bools.grown {l:List Bool}(d:Bools w (In w) v l)(c:Grew w w'):Bools w' (In w') v l:=
 (d.keep λb a=>c.block b a (kJ a)).mono λ_ a=>lZ a c.size
theorem IntRows.grown {l:List (List Int)}(d:IntRows w (In w) v l)(c:Grew w w'):IntRows w' (In w') v l:=
 (d.keep λb a=>c.block b a (kJ a)).mono λ_ a=>lZ a c.size
theorem BoolsAt.grown {n:Nat}{f:Nat->Bool}(d:BoolsAt w (In w) v n f)(c:Grew w w'):BoolsAt w' (In w') v n f:=by
 have ⟨b,o,cap,a,r⟩:=d.keep λb a=>c.block b a (kJ a);exact⟨b,o,cap,lZ a c.size,r⟩
theorem OwnF.at {H n:Nat}{v:Value}{f:Nat->Bool}(a:OwnF w H v n f)(b:0<n):BoolsAt w (In w) v n f:=by
 have ⟨g,cap,c,m,d,e,j,k,_⟩:=Row.get a b;exact⟨g,0,cap,d,c,e,j,λi l=>by rw[Nat.zero_add];exact k i l⟩
theorem zA {b i:Nat}{x:Value}(a:w.cell? ⟨b,i,none⟩=some x)(c:b<w.heap.size)(d:Grew w w'):w'.cell? ⟨b,i,none⟩=some x:=(gW (d.block b c (by omega))).trans a
structure TblAt (w:World)(nv rv:Value)(m:Sm):Prop where
 next:IntRows w (In w) nv m.next
 rules:Ints w (In w) rv m.rules
theorem TblAt.grown {a rv:Value}{m:Sm}(b:TblAt w a rv m)(c:Grew w w'):TblAt w' a rv m:=⟨b.next.grown c,b.rules.grown c⟩
structure Sm.Tbl (m:Sm):Prop where
 one:1<=m.next.length
 most:m.next.length<=200
 rules:m.rules.length=m.next.length
 rows:∀i,i<m.next.length->(m.next.getD i []).length=256
 to:∀i b,i<m.next.length->b<256->0<=(m.next.getD i []).getD b 0/\(m.next.getD i []).getD b 0<m.next.length
def tokF (m:Sm)(s:Nat):Bool:=m.rules.getD s 0 != -1
def zCe (s:Nat):Bool:=(s:Int) != 0
def zCd (one:Nat)(s:Nat):Bool:=(s:Int)==(one:Int)
def vC (a b:Nat->Bool)(s:Nat):Bool:=a s&& !b s
theorem zDt (w:World)(g rv:Value)(m:Sm)(c:TblAt w g rv m)(h:m.Tbl):
  Calls prog 140 #[agg #[g,rv,iX m.start]] w λe w'=>∃u,e=returned u/\OwnF w' w.heap.size u (m.rules.length) (tokF m)/\Grew w w':=by
 have ⟨r,s,t,v,y⟩:=info_parts vL;have T:=vl c;obtain⟨U,V,rfl,W,X,Y⟩:=c.next
 obtain⟨aa,ab,rfl,ac,ad,z⟩:=c.rules;have A:=vl z;have B:=vl h.rules;have ae:m.rules.length<=200:=by rw[B.out];exact h.most
 go_in;go_wp2;go_loopg [3,9] (m.rules.length) (λq C i wr=>∃j:Nat,q=m.rules.length-j/\j<=m.rules.length/\i=iX (j:Int)/\OwnF wr w.heap.size C j (tokF m)/\Grew w wr)
 case atStart=>exact⟨0,rfl,lX,rfl,OwnF.nil _ _ _,kZ _ _ lQ⟩
 case round=>
  obtain⟨j,D,af,rfl,a,d⟩:=hrel;have f:Hid (gk=m.rules.length-j/\Grew w wr):=⟨D,d⟩
  have ⟨ao,cap,E⟩:=a.form;subst E;have F:=d.size;have k:=vl a;by_cases G:j<m.rules.length
  ·have H:(j:Int)<((m.rules.length:Nat):Int):=by omega
   obtain⟨b,o,rfl,I,J⟩:=A j G;have ag:=zA J I d;have K:Hid (tokF m j=(m.rules.getD j 0 != -1)):=rfl;generalize m.rules.getD j 0=x at *;go_wp2_with (at_builtin;refine wpList_append_lies _ rfl _ _ 28 rfl (w.heap.size) 4 r fX 1 1 underlying28 s t v y rfl (by decide) _ _ _ rfl (k.alloc _) ⟨wr.heap.size,0,none⟩ 1 1 [bool (x != -1)] rfl rfl (cell_one_new _ _ _) (by intro u l;simp at l;subst l;rfl) (by decide) (by unfold maxLen;omega) (by omega) (by simp;omega) _ rfl ?_;intro L M w2 N O ah ai;have P:=xU k O F)
   have p:Hid (OwnF w2 w.heap.size (slice (qX L) (j+1) M) (j+1) (tokF m)/\Grew w w2):=⟨OwnF.snoc N K,f.2.trans (xS P)⟩
   go_wp2;go_roundg (m.rules.length-(j+1))
   case measure=>rw[f.out.1];omega
   case rel=>exact⟨j+1,rfl,by omega,by go_num,p.1,p.2⟩
  ·have R:j=m.rules.length:=by omega
   have H:((m.rules.length:Nat):Int)<=(j:Int):=by omega
   have S:Hid (OwnF wr w.heap.size (slice ao j cap) (m.rules.length) (tokF m)):=by rw[R] at a ⊢;exact a
   go_wp2;go_ret;exact⟨_,rfl,S,f.2⟩
theorem zH6 (w:World)(d rv:Value)(m:Sm)(b:TblAt w d rv m)(l:m.Tbl):
  Calls prog 144 #[agg #[d,rv,iX m.start]] w λe w'=>∃u,e=returned u/\OwnF w' w.heap.size u (m.next.length) (zCe)/\Grew w w':=by
 have ⟨o,p,r,s,t⟩:=info_parts vL;have J:=vl b;obtain⟨K,L,rfl,M,N,O⟩:=b.next
 obtain⟨P,R,rfl,S,T,U⟩:=b.rules;have V:=l.most;go_in;go_wp2;go_loopg [3,8] (m.next.length) (λq v i wr=>∃j:Nat,q=m.next.length-j/\j<=m.next.length/\i=iX (j:Int)/\OwnF wr w.heap.size v j (zCe)/\Grew w wr)
 case atStart=>exact⟨0,rfl,lX,rfl,OwnF.nil _ _ _,kZ _ _ lQ⟩
 case round=>
  obtain⟨j,x,W,rfl,a,f⟩:=hrel;have c:Hid (gk=m.next.length-j/\Grew w wr):=⟨x,f⟩
  have ⟨ao,cap,y⟩:=a.form;subst y;have z:=f.size;have g:=vl a;by_cases X:j<m.next.length
  ·have A:(j:Int)<((m.next.length:Nat):Int):=by omega
   have B:Hid (zCe j=((j:Int) != 0)):=rfl;go_wp2_with (at_builtin;refine wpList_append_lies _ rfl _ _ 28 rfl (w.heap.size) 4 o fX 1 1 underlying28 p r s t rfl (by decide) _ _ _ rfl (g.alloc _) ⟨wr.heap.size,0,none⟩ 1 1 [bool ((j:Int) != 0)] rfl rfl (cell_one_new _ _ _) (by intro u h;simp at h;subst h;rfl) (by decide) (by unfold maxLen;omega) (by omega) (by simp;omega) _ rfl ?_;intro C D w2 E F Y aa;have G:=xU g F z)
   have k:Hid (OwnF w2 w.heap.size (slice (qX C) (j+1) D) (j+1) (zCe)/\Grew w w2):=⟨OwnF.snoc E B,c.2.trans (xS G)⟩
   go_wp2;go_roundg (m.next.length-(j+1))
   case measure=>rw[c.out.1];omega
   case rel=>exact⟨j+1,rfl,by omega,by go_num,k.1,k.2⟩
  ·have H:j=m.next.length:=by omega
   have A:((m.next.length:Nat):Int)<=(j:Int):=by omega
   have I:Hid (OwnF wr w.heap.size (slice ao j cap) (m.next.length) (zCe)):=by rw[H] at a ⊢;exact a
   go_wp2;go_ret;exact⟨_,rfl,I,c.2⟩
theorem zKA (w:World)(d rv:Value)(m:Sm)(b:TblAt w d rv m)(l:m.Tbl)(one:Nat):
  Calls prog 148 #[agg #[d,rv,iX m.start],iX one] w λe w'=>∃u,e=returned u/\OwnF w' w.heap.size u (m.next.length) (zCd one)/\Grew w w':=by
 have ⟨o,p,r,s,t⟩:=info_parts vL;have J:=vl b;obtain⟨K,L,rfl,M,N,O⟩:=b.next
 obtain⟨P,R,rfl,S,T,U⟩:=b.rules;have V:=l.most;go_in;go_wp2;go_loopg [5,10] (m.next.length) (λq v i wr=>∃j:Nat,q=m.next.length-j/\j<=m.next.length/\i=iX (j:Int)/\OwnF wr w.heap.size v j (zCd one)/\Grew w wr)
 case atStart=>exact⟨0,rfl,lX,rfl,OwnF.nil _ _ _,kZ _ _ lQ⟩
 case round=>
  obtain⟨j,x,W,rfl,a,f⟩:=hrel;have c:Hid (gk=m.next.length-j/\Grew w wr):=⟨x,f⟩
  have ⟨ao,cap,y⟩:=a.form;subst y;have z:=f.size;have g:=vl a;by_cases X:j<m.next.length
  ·have A:(j:Int)<((m.next.length:Nat):Int):=by omega
   have B:Hid (zCd one j=((j:Int)==(one:Int))):=rfl;go_wp2_with (at_builtin;refine wpList_append_lies _ rfl _ _ 28 rfl (w.heap.size) 4 o fX 1 1 underlying28 p r s t rfl (by decide) _ _ _ rfl (g.alloc _) ⟨wr.heap.size,0,none⟩ 1 1 [bool ((j:Int)==(one:Int))] rfl rfl (cell_one_new _ _ _) (by intro u h;simp at h;subst h;rfl) (by decide) (by unfold maxLen;omega) (by omega) (by simp;omega) _ rfl ?_;intro C D w2 E F Y aa;have G:=xU g F z)
   have k:Hid (OwnF w2 w.heap.size (slice (qX C) (j+1) D) (j+1) (zCd one)/\Grew w w2):=⟨OwnF.snoc E B,c.2.trans (xS G)⟩
   go_wp2;go_roundg (m.next.length-(j+1))
   case measure=>rw[c.out.1];omega
   case rel=>exact⟨j+1,rfl,by omega,by go_num,k.1,k.2⟩
  ·have H:j=m.next.length:=by omega
   have A:((m.next.length:Nat):Int)<=(j:Int):=by omega
   have I:Hid (OwnF wr w.heap.size (slice ao j cap) (m.next.length) (zCd one)):=by rw[H] at a ⊢;exact a
   go_wp2;go_ret;exact⟨_,rfl,I,c.2⟩
theorem zCS (w:World)(va vb:Value)(n:Nat)(fa fb:Nat->Bool)(hA:BoolsAt w (In w) va n fa)(hB:BoolsAt w (In w) vb n fb)(hn:n<=200):
  Calls prog 143 #[va,vb] w λe w'=>∃u,e=returned u/\OwnF w' w.heap.size u (n) (vC fa fb)/\Grew w w':=by
 obtain⟨i0,hi0,hz0,hz1,hz2⟩:=info_parts vL;obtain⟨ba,oa,ca,hba,rfl,_,_,hca⟩:=hA;obtain⟨bb,ob,cb,hbb,rfl,_,_,hcb⟩:=hB;have HCA:=vl hca;have HCB:=vl hcb;go_in;go_wp2;go_loopg [5,10] (n) (λq lst i wr=>∃j:Nat,q=n-j/\j<=n/\i=iX (j:Int)/\OwnF wr w.heap.size lst j (vC fa fb)/\Grew w wr)
 case atStart=>exact⟨0,rfl,lX,rfl,OwnF.nil _ _ _,Keep.refl _ _ _⟩
 case round=>
  obtain⟨j,hgk,hj,rfl,ho,hkp⟩:=hrel;have HA:Hid (gk=n-j/\Grew w wr):=⟨hgk,hkp⟩
  obtain⟨ao,cap,hv⟩:=ho.form;subst hv;have hszr:=hkp.size;have OR:=vl ho;by_cases hj2:j<n
  ·have i1:(j:Int)<((n:Nat):Int):=by omega
   have ya:=zA (HCA j hj2) hba hkp;have yb:=zA (HCB j hj2) hbb hkp;have HV:Hid (vC fa fb j=(fa j&& !fb j)):=rfl;generalize fa j=xa at *;generalize fb j=xb at *;cases xa with
   |true=>
    go_wp2_with (first|(at_builtin;refine wpList_append_lies _ rfl _ _ 28 rfl (w.heap.size) 4 i0 fX 1 1 underlying28 hi0 hz0 hz1 hz2 rfl (by decide) _ _ _ rfl (OR.alloc _) ⟨wr.heap.size,0,none⟩ 1 1 [bool (!xb)] rfl rfl (cell_one_new _ _ _) (by intro u hu;simp at hu;subst hu;rfl) (by decide) (by unfold maxLen;omega) (by omega) (by simp;omega) _ rfl ?_;intro gg cap2 w2 hown hgrow hat hlt2;have hB:=xU OR hgrow hszr))
    have O2:Hid (OwnF w2 w.heap.size (slice (qX gg) (j+1) cap2) (j+1) (vC fa fb)/\Grew w w2):=⟨OwnF.snoc hown HV,HA.2.trans (xS hB)⟩
    go_wp2;go_roundg (n-(j+1))
    case measure=>rw[HA.out.1];omega
    case rel=>exact⟨j+1,rfl,by omega,by go_num,O2.1,O2.2⟩
   |false=>
    go_wp2_with (first|(at_builtin;refine wpList_append_lies _ rfl _ _ 28 rfl (w.heap.size) 4 i0 fX 1 1 underlying28 hi0 hz0 hz1 hz2 rfl (by decide) _ _ _ rfl (OR.alloc _) ⟨wr.heap.size,0,none⟩ 1 1 [bool (false)] rfl rfl (cell_one_new _ _ _) (by intro u hu;simp at hu;subst hu;rfl) (by decide) (by unfold maxLen;omega) (by omega) (by simp;omega) _ rfl ?_;intro gg cap2 w2 hown hgrow hat hlt2;have hB:=xU OR hgrow hszr))
    have O2:Hid (OwnF w2 w.heap.size (slice (qX gg) (j+1) cap2) (j+1) (vC fa fb)/\Grew w w2):=⟨OwnF.snoc hown HV,HA.2.trans (xS hB)⟩
    go_wp2;go_roundg (n-(j+1))
    case measure=>rw[HA.out.1];omega
    case rel=>exact⟨j+1,rfl,by omega,by go_num,O2.1,O2.2⟩
  ·have hje:j=n:=by omega
   have i1:((n:Nat):Int)<=(j:Int):=by omega
   have HZ:Hid (OwnF wr w.heap.size (slice ao j cap) (n) (vC fa fb)):=by rw[hje] at ho ⊢;exact ho
   go_wp2;go_ret;exact⟨_,rfl,HZ,HA.2⟩
end
def zAq (n:Nat)(f:Nat->Bool):Int:=if(List.range n).findIdx f<n then((List.range n).findIdx f:Int) else -1
theorem zEN (w:World)(v:Value)(n:Nat)(f:Nat->Bool)(m:BoolsAt w (In w) v n f)(t:n<=200):
  Calls prog 142 #[v] w λe w'=>e=returned (iX (zAq n f))/\w'=w:=by
 obtain⟨u,x,z,A,rfl,_,_,o⟩:=m;have q:=vl o;go_in;go_wp2;go_loop [7] (λi=>∃j:Nat,j<=n/\i=iX j/\∀a,a<j->f a=false) (λi=>n-(intOf i).toNat)
 case atStart=>exact⟨0,lX,rfl,λa b=>by omega⟩
 case round=>
  obtain⟨j,B,rfl,r⟩:=hrel;have g:=vl r;by_cases k:j<n
  ·have s:(j:Int)<(n:Int):=by omega
   have y:=q j k;cases d:f j with
   |true=>
    rw[d] at y;have c:Hid (zAq n f=(j:Int)):=by
     have e:(List.range n).findIdx f=j:=by
      rw[List.findIdx_eq (by simpa using k)];exact⟨by simpa using d,λa b=>by simpa using g a (by simpa using b)⟩
     show _=_;unfold zAq;rw[e,if_pos k]
    go_wp2;go_ret;exact⟨zBb c.symm,rfl⟩
   |false=>
    rw[d] at y;have c:=vl d;go_wp2;exact⟨⟨j+1,by omega,by go_num,λa b=>by(by_cases e:a=j;exact e ▸ c;exact g a (by omega))⟩,by simp[intOf];omega⟩
  ·have s:(n:Int)<=(j:Int):=by omega
   have c:Hid (zAq n f=-1):=by
    have l:=List.findIdx_eq_length (xs:=List.range n) (p:=f);rw[List.length_range] at l;have e:=l.2 λa b=>g a (by have:=List.mem_range.1 b;omega);show _=_;unfold zAq;rw[e,if_neg (Nat.lt_irrefl _)]
   go_wp2;go_ret;exact⟨zBb c.symm,rfl⟩
def hasRuleB (m:Sm)(rule:Int):Bool:=m.rules.any (·==rule)
theorem zGM (w:World)(g rv:Value)(m:Sm)(k:TblAt w g rv m)(p:m.Tbl)(rule:Nat):
  Calls prog 69 #[agg #[g,rv,iX m.start],iX rule] w λe w'=>e=returned (bool (hasRuleB m rule))/\Grew w w':=by
 obtain⟨F,G,rfl,H,I,J⟩:=k.next
 obtain⟨K,L,rfl,M,N,y⟩:=k.rules;have z:=vl y;have A:=vl p.rules;have O:m.rules.length<=200:=by rw[A.out];exact p.most
 go_in;go_wp2;go_loopg [10] m.rules.length (λq i wr=>∃j:Nat,q=m.rules.length-j/\j<=m.rules.length/\i=iX (j:Int)/\(m.rules.take j).any (·==(rule:Int))=false/\Grew w wr)
 case atStart=>exact⟨0,rfl,lX,rfl,rfl,kZ _ _ lQ⟩
 case round=>
  obtain⟨j,r,P,rfl,s,f⟩:=hrel;have a:Hid (gk=m.rules.length-j/\(m.rules.take j).any (·==(rule:Int))=false/\Grew w wr):=⟨r,s,f⟩
  by_cases c:j<m.rules.length
  ·have B:(j:Int)<(m.rules.length:Int):=by omega
   obtain⟨b,o,rfl,C,t⟩:=z j c;have R:=zA t C f;have D:Hid ((m.rules.take (j+1)).any (·==(rule:Int))=((m.rules.take j).any (·==(rule:Int))||(m.rules.getD j 0==(rule:Int)))):=by
    show _=_;rw[List.take_succ_eq_append_getElem c,List.any_append,lW,lV c];simp
   have E:Hid ((m.rules.getD j 0==(rule:Int))=true->hasRuleB m rule=true):=by
    intro u;unfold hasRuleB;rw[List.any_eq_true];rw[lW,lV c] at u;exact⟨m.rules[j],List.getElem_mem c,u⟩
   clear r s f t;generalize m.rules.getD j 0=x at *;cases v:(x==(rule:Int)) with
   |true=>
    have d:=vl <| E v;go_wp2;go_ret;exact⟨vK d.symm,a.2.2⟩
   |false=>
    have d:Hid ((m.rules.take (j+1)).any (·==(rule:Int))=false):=by show _=_;rw[D.out,a.out.2.1,v];rfl
    go_wp2;go_roundg (m.rules.length-(j+1))
    case measure=>rw[a.out.1];omega
    case rel=>exact⟨j+1,rfl,by omega,by go_num,d,a.2.2⟩
  ·have B:(m.rules.length:Int)<=(j:Int):=by omega
   have d:Hid (hasRuleB m rule=false):=by
    show _=_;unfold hasRuleB;rw[<-List.take_of_length_le (l:=m.rules) (i:=j) (by omega)];exact a.2.1
   go_wp2;go_ret;exact⟨vK d.symm,a.2.2⟩
def qC (a b:Int):Int:=if a<0\/b<0 then -1 else if a>b then a else b
theorem zIh (w:World)(a b:Int):
  Calls prog 68 #[iX a,iX b] w λe w'=>e=returned (iX (qC a b))/\w'=w:=by
 by_cases f:a<0
 ·have c:Hid (qC a b=-1):=if_pos (.inl f)
  go_in;go_wp2;go_ret;exact⟨zBb c.symm,rfl⟩
 ·have h:0<=a:=by omega
  by_cases g:b<0
  ·have c:Hid (qC a b=-1):=if_pos (.inr g)
   go_in;go_wp2;go_ret;exact⟨zBb c.symm,rfl⟩
  ·have j:0<=b:=by omega
   by_cases d:a>b
   ·have c:Hid (qC a b=a):=by show _=_;unfold qC;rw[if_neg (by omega),if_pos d]
    go_in;go_wp2;go_ret;exact⟨zBb c.symm,rfl⟩
   ·have k:a<=b:=by omega
    have c:Hid (qC a b=b):=by show _=_;unfold qC;rw[if_neg (by omega),if_neg d]
    go_in;go_wp2;go_ret;exact⟨zBb c.symm,rfl⟩
def yB (ahead:Int)(kinds:Nat):Bool:=decide (0<=ahead)&&decide (zJ kinds ahead.toNat<=3000)
theorem zFW (w:World)(ahead:Int)(kinds:Nat)(d:kinds<=256)(f:ahead<=255):
  Calls prog 70 #[iX ahead,iX kinds] w λe w'=>e=returned (bool (yB ahead kinds))/\w'=w:=by
 by_cases b:0<=ahead
 ·obtain⟨n,rfl⟩:∃n:Nat,ahead=(n:Int):=⟨ahead.toNat,by omega⟩
  have a:Hid (yB n kinds=decide (zJ kinds n<=3000)):=by
   show _=_;unfold yB;rw[dQ b,Int.toNat_natCast];rfl
  go_in;go_wp2_with fail;refine(zFB kinds n w d (by omega)).mono ?_;rintro e w1 ⟨rfl,rfl⟩;go_wp2;go_ret;refine⟨vK ?_,rfl⟩;rw[a.out];by_cases c:zJ kinds n<=3000
  ·simp[c];omega
  ·simp[c];omega
 ·have a:Hid (yB ahead kinds=false):=by
   show _=_;unfold yB;rw[gG b];rfl
  have g:ahead<0:=by omega
  go_in;go_wp2;go_ret;exact⟨vK a.symm,rfl⟩
section
variable (m:Sm) (f:Nat->Bool) (s k t:Nat)
def yP (m:Sm)(from_:Nat->Bool)(s t:Nat):Bool:=((t:Int) != 0)&&(List.range s).any λi=>from_ i&&(m.next.getD i []).any (·==(t:Int))
def qV (m:Sm)(from_:Nat->Bool)(t:Nat):Bool:=yP m from_ m.next.length t
def vB (m:Sm)(from_:Nat->Bool)(s k t:Nat):Bool:=((t:Int) != 0)&&(((List.range s).any λi=>from_ i&&(m.next.getD i []).any (·==(t:Int)))||((m.next.getD s []).take k).any (·==(t:Int)))
theorem zHX:vB m f s 0 t=yP m f s t:=by simp[vB,yP]
theorem zI5 (a:f s=true)(b:(m.next.getD s []).length<=k):vB m f s k t=yP m f (s+1) t:=by
 unfold vB yP;rw[List.take_of_length_le b,List.range_succ,List.any_append];simp[a]
theorem zKt (a:f s=false):yP m f (s+1) t=yP m f s t:=by
 unfold yP;rw[List.range_succ,List.any_append];simp[a]
theorem zHY (s k t x:Nat)(a:k<(m.next.getD s []).length)(c:(m.next.getD s []).getD k 0=(x:Int)):vB m f s (k+1) t=if t=x then((x:Int) != 0) else vB m f s k t:=by
 unfold vB;rw[List.take_succ_eq_append_getElem a,List.any_append];have e:(m.next.getD s [])[k]=(x:Int):=by rw[<-c,lW (l:=m.next.getD s []),lV a];rfl
 rw[e];by_cases b:t=x
 ·subst b
  simp
 ·have d:((x:Int)==(t:Int))=false:=by rw[hX];omega
  rw[if_neg b];simp[d]
theorem zCV (w:World)(R rv S:Value)(m:Sm)(T:TblAt w R rv m)(F:m.Tbl)(f:Nat->Bool)(al:BoolsAt w (In w) S m.next.length f):
  Calls prog 141 #[agg #[R,rv,iX m.start],S] w λe w'=>∃u,e=returned u/\OwnF w' w.heap.size u m.next.length (qV m f)/\Grew w w':=by
 have ⟨am,ao,ap,aq,au⟩:=info_parts vL;obtain⟨G,H,rfl,a4,a5,av⟩:=T.next
 obtain⟨U,V,rfl,a6,a7,a8⟩:=T.rules;obtain⟨aw,of_,a9,ax,rfl,_,_,ay⟩:=al;have az:=vl av;have aA:=vl ay;have W:Hid m.Tbl:=F;have ba:=F.most;have bb:=F.one;have aB:Hid (∀t,qV m f t=yP m f m.next.length t):=λt=>rfl;have aC:Hid (∀t,yP m f 0 t=false):=λt=>by simp[yP]
 generalize aD:m.next.length=n at *
 have I:=vl aD;have aE:Grew w (w.alloc (.cells #[slice G n H,slice U m.rules.length V,iX m.start] 127)):=kZ _ _ lQ;obtain⟨w1,X,Y,aF⟩:∃w1,w1=w.alloc (.cells #[slice G n H,slice U m.rules.length V,iX m.start] 127)/\Hid (Grew w w1/\w1.cell? ⟨w.heap.size,0,none⟩=some (slice G n H))/\w.heap.size<w1.heap.size:=by
  refine⟨_,rfl,⟨aE,?_⟩,by simp⟩;unfold cell?;rw[gY w _];rfl
 have ⟨w2,aG,aH,r⟩:=run_makeSlice_full (P:=prog) w1 w.heap.size 28 4 am _ 1 underlying28 ao ap aq i64 i64 n (by omega) (by rw[au];omega) (by unfold maxLen;omega) (by omega);have aa:Hid (Row w2 w.heap.size 4 (slice (qX w1.heap.size) n n) n (λt=>bool (yP m f 0 t))/\Grew w w2):=by
  have v:Grew w1 w2:=⟨r.os,r.output,r.size,λk C _=>r.block k C (by simp)⟩
  refine⟨?_,Y.1.trans (v.lower (by omega) (by omega))⟩;have j:=aH;rw[Nat.mul_one,zAy _ rfl] at j;exact Row.congr j λi _=>by rw[aC.out i]
 have ab:=Y.2;have aI:=(gW (r.block w.heap.size aF (by simp))).trans ab;go_in;apply wp_cut;intro bc ac;go_wp2_with fail;apply ac.out;clear ac;rw[<-X];clear X;go_wp2_with fail;clear aG ab aI;go_loopg [17] n (λq i wr=>∃s:Nat,q=n-s/\s<=n/\i=iX (s:Int)/\Row wr w.heap.size 4 (slice (qX w1.heap.size) n n) n (λt=>bool (yP m f s t))/\Grew w wr)
 case atStart=>exact⟨0,rfl,lX,rfl,aa.1,aa.2⟩
 case round=>
  obtain⟨s,l,bd,rfl,a,c⟩:=hrel;have p:Hid (gk=n-s/\Row wr w.heap.size 4 (slice (qX w1.heap.size) n n) n (λt=>bool (yP m f s t))/\Grew w wr):=⟨l,a,c⟩
  by_cases D:s<n
  ·have aJ:(s:Int)<(n:Int):=by omega
   obtain⟨b,o,u,rfl,J,ad,ae⟩:=az s D;have y:=W.rows s (by rw[I.out];exact D);obtain⟨K,L,aK,rfl,aL,_,_,af⟩:=ae.block (by omega);have aM:wr.cell? ⟨b,o+s,none⟩=some (slice (some ⟨K,L,none⟩) 256 aK):=by rw[<-y];exact zA ad J c
   have M:wr.cell? ⟨aw,of_+s,none⟩=some (bool (f s)):=zA (aA s D) ax c;have aN:Hid (∀i,i<256->w.cell? ⟨K,L+i,none⟩=some (iX ((m.next.getD s []).getD i 0))):=by
    intro i aO;exact af i (by rw[y];exact aO)
   have aP:Hid (∀b,b<256->0<=(m.next.getD s []).getD b 0/\(m.next.getD s []).getD b 0<n):=λb J=>by
    have j:=W.to s b (by rw[I.out];exact D) J;rw[I.out] at j;exact j
   have aQ:Hid (∀k t x,k<256->(m.next.getD s []).getD k 0=((x:Nat):Int)->vB m f s (k+1) t=if t=x then((x:Int) != 0) else vB m f s k t):=λk t x C z=>zHY m f s k t x (by rw[y];exact C) z;have aR:Hid (f s=true->∀t,vB m f s 256 t=yP m f (s+1) t):=λd t=>zI5 m f s 256 t d (by rw[y];exact lQ);have aS:Hid (f s=false->∀t,yP m f (s+1) t=yP m f s t):=λd t=>zKt m f s t d;clear l a c ad ae af y;cases d:f s with
   |false=>
    rw[d] at M;have A:=aS d;have N:Hid (∀t,yP m f (s+1) t=yP m f s t):=A;clear d A;go_wp2_with fail;go_roundg (n-(s+1))
    case measure=>rw[p.out.1];omega
    case rel=>exact⟨s+1,rfl,by omega,by go_num,p.2.1.congr λt _=>by rw[N.out t],p.2.2⟩
   |true=>
    rw[d] at M;have A:=aR d;have N:Hid (∀t,vB m f s 256 t=yP m f (s+1) t):=A;clear d A;go_wp2_with fail;clear aM M;go_loopg [29] 256 (λq i wr=>∃k:Nat,q=256-k/\k<=256/\i=iX (k:Int)/\Row wr w.heap.size 4 (slice (qX w1.heap.size) n n) n (λt=>bool (vB m f s k t))/\Grew w wr)
    case atStart=>exact⟨0,rfl,lX,rfl,p.2.1.congr λt _=>by rw[zHX],p.2.2⟩
    case round=>
     obtain⟨k,l,C,rfl,a,c⟩:=hrel;have E:Hid (gk=256-k/\Row wr w.heap.size 4 (slice (qX w1.heap.size) n n) n (λt=>bool (vB m f s k t))/\Grew w wr):=⟨l,a,c⟩
     by_cases v:k<256
     ·have aT:(k:Int)<256:=by omega
      have aU:wr.cell? ⟨K,L+k,none⟩=some (iX ((m.next.getD s []).getD k 0)):=zA (aN k v) aL c;have ⟨aV,aW⟩:=aP k v;obtain⟨x,z⟩:∃x:Nat,(m.next.getD s []).getD k 0=(x:Int):=⟨((m.next.getD s []).getD k 0).toNat,by omega⟩
      have aX:Hid (∀t,vB m f s (k+1) t=if t=x then((x:Int) != 0) else vB m f s k t):=λt=>aQ k t x v z;rw[z] at aU aV aW;have aY:x<n:=by omega
      have ⟨g,be,ag,aZ,a0,a1,a2,ah,ai⟩:=a.get (by omega);have a3:g=w1.heap.size:=by injection ag with B _ _;injection B with B;injection B with B;exact B.symm
      subst a3;have bg:wr.cell? ⟨w1.heap.size,x,none⟩=some (bool (vB m f s k x)):=ah x aY;have zl:=ai x;clear l a c ag aZ a0 a1 a2 ah ai z;go_wp2_with fail;go_roundg (256-(k+1))
      case measure=>rw[E.out.1];omega
      case rel=>
       refine⟨k+1,rfl,by omega,by go_num,?_,E.2.2.trans (zQ _ _ _ _ (by omega))⟩;have j:=E.2.1.set x (bool ((x:Int) != 0));refine Row.congr j λt _=>?_;rw[aX.out t];by_cases e:t=x
       ·subst e;simp
       ·simp[e]
     ·have aj:k=256:=by omega
      have aT:(256:Int)<=(k:Int):=by omega
      have O:Hid (Row wr w.heap.size 4 (slice (qX w1.heap.size) n n) n (λt=>bool (yP m f (s+1) t))):=by
       refine Row.congr a λt _=>?_;rw[aj,N.out t]
      clear l a c aj;go_wp2_with fail;go_roundg (n-(s+1))
      case measure=>rw[p.out.1];omega
      case rel=>exact⟨s+1,rfl,by omega,by go_num,O,E.2.2⟩
  ·have ak:s=n:=by omega
   have aJ:(n:Int)<=(s:Int):=by omega
   have O:Hid (OwnF wr w.heap.size (slice (qX w1.heap.size) n n) n (qV m f)):=by
    refine Row.congr a λt _=>?_;rw[aB.out t,ak]
   clear l a c ak;go_wp2_with fail;go_ret;exact⟨_,rfl,O,p.2.2⟩
end
def xY (m:Sm):Nat->Nat->Bool
 |0=>tokF m
 |i+1=>vC (qV m (xY m i)) (tokF m)
def zBa (m:Sm)(i:Nat):Bool:=decide (zAq m.next.length (qV m (xY m i))<0)
def yO (m:Sm):Int:=if(List.range (m.next.length+1)).findIdx (zBa m)<m.next.length+1 then((List.range (m.next.length+1)).findIdx (zBa m):Int) else -1
theorem zPz (m:Sm)(j:Nat)(f:j<=m.next.length)(b:zBa m j=true)(c:∀a,a<j->zBa m a=false):yO m=(j:Int):=by
 have e:(List.range (m.next.length+1)).findIdx (zBa m)=j:=by
  rw[List.findIdx_eq (by simp;omega)];exact⟨by simpa using b,λa d=>by simpa using c a (by simpa using d)⟩
 unfold yO;rw[e,if_pos (by omega)]
theorem zM5 (m:Sm)(c:∀a,a<=m.next.length->zBa m a=false):yO m=-1:=by
 have b:=List.findIdx_eq_length (xs:=List.range (m.next.length+1)) (p:=zBa m);rw[List.length_range] at b;have e:=b.2 λa d=>c a (by have:=List.mem_range.1 d;omega);unfold yO;rw[e,if_neg (Nat.lt_irrefl _)]
theorem zPy (m:Sm):-1<=yO m/\yO m<=m.next.length:=by
 unfold yO;split <;> omega
theorem zML:(prog.info? 28).map (λi=>(i.zero,i.size,i.bytes))=some (some nX,1,24):=by kernel_rfl
def FrontsAt (w:World)(H:Nat)(v:Value)(d:Nat)(m:Sm):Prop:=∃rv:Nat->Value,w.ownsRow H 28 1 v d ((List.range d).map rv)/\∀i,i<d->OwnF w H (rv i) m.next.length (xY m i)
theorem FrontsAt.grown {w w':World}{H a:Nat}{v:Value}{m:Sm}(c:FrontsAt w H v a m)(b:Grew w w'):FrontsAt w' H v a m:=by
 obtain⟨rv,e,f⟩:=c;exact⟨rv,zL e b,λi g=>zL (f i g) b⟩
theorem FrontsAt.nil (w:World)(H:Nat)(m:Sm):FrontsAt w H nX 0 m:=⟨λ_=>nX,ownsRow_nil _ _ _ _,λi a=>by omega⟩
theorem FrontsAt.snoc {w w1 w2:World}{H g cap a:Nat}{v u:Value}{m:Sm}{o:Obj}(z:FrontsAt w1 H v a m)(l:OwnF w1 H u m.next.length (xY m a))(A:w=w1)(rv:Nat->Value)(p:∀i,i<a->OwnF w1 H (rv i) m.next.length (xY m i))(q:w1.ownsRow H 28 1 v a ((List.range a).map rv))
  (r:w2.ownsRow H 28 1 (slice (qX g) (a+1) cap) (a+1) ((List.range a).map rv++[u])) (s:(w1.alloc o).grownBy w2 v.ownBlock):FrontsAt w2 H (slice (qX g) (a+1) cap) (a+1) m:=by
 have b:∀{x f},OwnF w1 H x m.next.length f->OwnF w2 H x m.next.length f:=λ{x f} c=>zE c λk B t y=>(s.block k (by simp;omega) (xZ c q (by decide) y)).trans (lG _ _ _ t)
 refine⟨λi=>if i=a then u else rv i,?_,λi j=>?_⟩
 ·rw[zAn,if_pos rfl]
  have e:(List.range a).map (λi=>if i=a then u else rv i)=(List.range a).map rv:=List.map_congr_left λi j=>if_neg (by have:=List.mem_range.1 j;omega);rw[e];exact r
 ·by_cases e:i=a
  ·subst e
   simp only[if_true];exact b l
  ·show OwnF w2 H (if i=a then u else rv i) _ _
   rw[if_neg e];exact b (p i (by omega))
theorem zF7 (w:World)(W rv:Value)(m:Sm)(X:TblAt w W rv m)(J:m.Tbl):
  Calls prog 104 #[agg #[W,rv,iX m.start]] w λe w'=>Grew w w'/\
   ((yO m=-1/\e=returned (tuple #[nX,bool false]))\/(∃Y v,yO m=((Y:Nat):Int)/\Y<=m.next.length/\e=returned (tuple #[v,bool true])/\FrontsAt w' w.heap.size v Y m)):=by
 have ⟨a0,a1,a2,a6,a7⟩:=info_parts zML;have K:Hid (TblAt w W rv m/\m.Tbl):=⟨X,J⟩
 obtain⟨c,g,rfl,bE,bF,bG⟩:=X.next
 obtain⟨l,o,rfl,bH,bI,bJ⟩:=X.rules;have av:=J.most;have E:=J.one;have a8:=vl J.rules;obtain⟨w1,aw,L,a9⟩:∃w1,w1=w.alloc (.cells #[slice c m.next.length g,slice l m.rules.length o,iX m.start] 127)/\Hid (Grew w w1/\w1.heap[w.heap.size]? =some (.cells #[slice c m.next.length g,slice l m.rules.length o,iX m.start] 127))/\w.heap.size<w1.heap.size:=
  ⟨_,rfl,⟨kZ _ _ lQ,gY w _⟩,by simp⟩
 go_in;apply wp_cut;intro bK ba;go_wp2;apply ba.out;rw[<-aw];clear aw;have aa:w1.cell? ⟨w.heap.size,0,none⟩=some (slice c m.next.length g)/\w1.cell? ⟨w.heap.size,1,none⟩=some (slice l m.rules.length o)/\w1.cell? ⟨w.heap.size,2,none⟩=some (iX m.start):=by
  refine⟨?_,?_,?_⟩ <;> (unfold cell?;rw[L.out.2];rfl)
 obtain⟨ab,ac,ad⟩:=aa;go_wp2_with fail;have ax:Hid (∀y,Grew w y->Ca 140 #[agg #[slice c m.next.length g,slice l m.rules.length o,iX m.start]] y λe w'=>∃u,e=returned u/\OwnF w' y.heap.size u m.next.length (tokF m)/\Grew y w'):=λy bb=>by
  have ay:=zDt y _ _ m (K.1.grown bb) K.2;rw[a8.out] at ay ⊢;exact ay
 refine(ax w1 L.1).mono ?_;rintro e w2 ⟨u,rfl,az,aA⟩;have ⟨bc,bd,M⟩:=az.form;subst M;have ae:Hid (OwnF w2 w.heap.size (slice bc m.next.length bd) m.next.length (xY m 0)/\Grew w w2/\w2.heap[w.heap.size]? =some (.cells #[slice c m.next.length g,slice l m.rules.length o,iX m.start] 127)):=⟨vU az (by omega),L.1.trans (aA.lower (by omega) (by omega)),(aA.block _ a9 (by omega)).trans L.2⟩
 go_wp2;go_loopg [4,5,6] (m.next.length+1) (λq fr be i wr=>∃j:Nat,q=m.next.length+1-j/\j<=m.next.length+1/\i=iX (j:Int)/\FrontsAt wr w.heap.size fr j m/\OwnF wr w.heap.size be m.next.length (xY m j)/\(∀a,a<j->zBa m a=false)/\Grew w wr/\wr.heap[w.heap.size]? =some (.cells #[slice c m.next.length g,slice l m.rules.length o,iX m.start] 127))
 case atStart=>exact⟨0,rfl,lX,rfl,FrontsAt.nil _ _ _,ae.1,λa aB=>by omega,ae.2.1,ae.2.2⟩
 case round=>
  obtain⟨j,aC,bL,rfl,aD,z,aE,af,N⟩:=hrel;have p:Hid (gk=m.next.length+1-j/\FrontsAt wr w.heap.size u4 j m/\OwnF wr w.heap.size u5 m.next.length (xY m j)/\(∀a,a<j->zBa m a=false)/\Grew w wr/\wr.heap[w.heap.size]? =some (.cells #[slice c m.next.length g,slice l m.rules.length o,iX m.start] 127)):=⟨aC,aD,z,aE,af,N⟩
  have aa:wr.cell? ⟨w.heap.size,0,none⟩=some (slice c m.next.length g)/\wr.cell? ⟨w.heap.size,1,none⟩=some (slice l m.rules.length o)/\wr.cell? ⟨w.heap.size,2,none⟩=some (iX m.start):=by
   refine⟨?_,?_,?_⟩ <;> (unfold cell?;rw[N];rfl)
  obtain⟨ab,ac,ad⟩:=aa;have A:=(kQ.1 N).1;have ⟨ag,ah,bf⟩:=z.form;subst bf;obtain⟨bM,aF,bg⟩:=aD;have ⟨O,P,bh⟩:=zF aF;subst bh;by_cases aG:j<=m.next.length
  ·have bi:(j:Int)<=(m.next.length:Int):=by omega
   have aH:=vl <| zCV wr _ _ _ m (K.1.grown af) K.2 (xY m j) (z.at E);have aI:Hid (zBa m j=decide (zAq m.next.length (qV m (xY m j))<0)):=rfl;have bN:Hid (∀s,xY m (j+1) s=vC (qV m (xY m j)) (tokF m) s):=λ_=>rfl;go_wp2_with fail;refine aH.mono ?_;rintro e B ⟨u3,rfl,ai,C⟩;have ⟨aJ,aK,bj⟩:=ai.form;subst bj;have r:Hid (OwnF B wr.heap.size (slice aJ m.next.length aK) m.next.length (qV m (xY m j))/\Grew wr B/\Grew w B):=⟨ai,C,p.2.2.2.2.1.trans (C.lower (by omega) (by omega))⟩
   have aL:B.cell? ⟨w.heap.size,0,none⟩=some (slice c m.next.length g):=zA ab A C;have aM:B.cell? ⟨w.heap.size,1,none⟩=some (slice l m.rules.length o):=zA ac A C;have aN:B.cell? ⟨w.heap.size,2,none⟩=some (iX m.start):=zA ad A C;clear ai C aH ab ac ad;go_wp2_with fail;refine(zEN B _ m.next.length _ (r.1.at E) av).mono ?_;rintro e t ⟨rfl,rfl⟩;by_cases aj:zAq m.next.length (qV m (xY m j))<0
   ·have ak:Hid (yO m=(j:Int)):=zPz m j aG (by rw[aI.out];exact dQ aj) p.2.2.2.1
    have bk:Hid (FrontsAt t w.heap.size (slice O j P) j m):=p.2.1.grown r.2.1;generalize zAq m.next.length (qV m (xY m j))=bl at *
    go_wp2_with fail;go_ret2
    exact⟨r.2.2,.inr ⟨j,_,ak,aG,rfl,bk⟩⟩
   ·have bO:0<=zAq m.next.length (qV m (xY m j)):=by omega
    have bm:Hid (zBa m j=false):=by show _=_;rw[aI.out];exact gG aj
    generalize zAq m.next.length (qV m (xY m j))=bl at *
    have ⟨R,al,aO⟩:=p.2.1.grown r.2.1;have F:Hid (t.ownsRow w.heap.size 28 1 (slice O j P) j ((List.range j).map R)):=al;have aP:Hid (∀i,i<j->OwnF t w.heap.size (R i) m.next.length (xY m i)):=aO;have bn:Hid (OwnF t w.heap.size (slice ag m.next.length ah) m.next.length (xY m j)):=zL p.2.2.1 r.2.1;have bo:w.heap.size<=t.heap.size:=r.2.2.size;have bp:w.heap.size<t.heap.size:=lZ A r.2.1.size;have bq:Hid (some w.heap.size≠Value.ownBlock (slice O j P)):=by
     intro e;rcases al.2 with⟨am,_⟩|⟨br,_,bP,am,_,bs,_⟩
     ·rw[am] at e;cases e
     ·rw[am] at e
      have bt:w.heap.size=br:=by simpa[Value.ownBlock] using e
      have D:=(r.2.1.block w.heap.size A (by omega)).trans p.2.2.2.2.2;rw[bt,bs] at D;injection D with D;injection D with _ D _;exact absurd D (by decide)
    clear al aO aj;go_wp2_with (at_builtin;refine wpList_append_lies _ rfl _ _ 188 rfl (w.heap.size) 28 a0 nX 1 24 underlying188 a1 a2 a6 a7 rfl (by decide) _ _ _ rfl (F.alloc _) ⟨t.heap.size,0,none⟩ 1 1 [slice ag m.next.length ah] rfl rfl (cell_one_new _ _ _) (by intro u M;simp at M;subst M;rfl) (by decide) (by unfold maxLen;omega) (by omega) (by simp;omega) _ rfl ?_;intro aQ cap b aR aS bu bQ;have G:(t.alloc (.cells #[slice ag m.next.length ah] 28)).grownBy b (Value.ownBlock (slice O j P)):=aS;have H:b.heap[w.heap.size]? =t.heap[w.heap.size]? :=(G.block w.heap.size (by simp;omega) bq).trans (lG _ _ _ bp);have bv:b.cell? ⟨w.heap.size,0,none⟩=some (slice c m.next.length g):=(gW H).trans aL;have bw:b.cell? ⟨w.heap.size,1,none⟩=some (slice l m.rules.length o):=(gW H).trans aM;have bx:b.cell? ⟨w.heap.size,2,none⟩=some (iX m.start):=(gW H).trans aN)
    have aT:Below w.heap.size t b:=xU F G bo;have aU:∀{x f},OwnF t w.heap.size x m.next.length f->OwnF b w.heap.size x m.next.length f:=λ{x f} z=>zE z λk E bz bA=>(G.block k (by simp;omega) (xZ z F (by decide) bA)).trans (lG _ _ _ bz)
    have S:Hid (FrontsAt b w.heap.size (slice (qX aQ) (j+1) cap) (j+1) m/\OwnF b w.heap.size (slice aJ m.next.length aK) m.next.length (qV m (xY m j))/\Grew w b):=⟨FrontsAt.snoc ⟨R,F,aP⟩ bn rfl R aP F aR G,aU (vU r.1 (Nat.le_of_lt A)),r.2.2.trans (xS aT)⟩
    have aV:Hid (b.heap[w.heap.size]? =some (.cells #[slice c m.next.length g,slice l m.rules.length o,iX m.start] 127)):=H.trans ((r.2.1.block w.heap.size A (by omega)).trans p.2.2.2.2.2);clear aR G aS bu aT H aU aL aM aN;refine(ax b S.2.2).mono ?_;rintro e ao ⟨bR,rfl,ap,aW⟩;have ⟨bB,bC,bD⟩:=ap.form;subst bD;have T:Hid (OwnF ao b.heap.size (slice bB m.next.length bC) m.next.length (tokF m)/\Grew b ao):=⟨ap,aW⟩
    clear ap aW bv bw bx;go_wp2_with fail;refine(zCS ao _ _ m.next.length (qV m (xY m j)) (tokF m) (OwnF.at (zL S.2.1 T.2) E) (T.1.at E) av).mono ?_;rintro e I ⟨u6,rfl,aX,aY⟩;have U:Grew b I:=T.2.th aY;have aZ:w.heap.size<b.heap.size:=(kQ.1 aV).1;have V:Hid (FrontsAt I w.heap.size (slice (qX aQ) (j+1) cap) (j+1) m/\OwnF I w.heap.size u6 m.next.length (xY m (j+1))/\Grew w I/\I.heap[w.heap.size]? =some (.cells #[slice c m.next.length g,slice l m.rules.length o,iX m.start] 127)):=
     ⟨S.1.grown U,vU aX (Nat.le_of_lt (lZ aZ T.2.size)),S.2.2.trans (U.lower (by omega) (by omega)),(U.block w.heap.size aZ (by omega)).trans aV⟩
    clear aX aY U;go_wp2_with fail;go_roundg (m.next.length+1-(j+1))
    case measure=>rw[p.out.1];omega
    case rel=>exact⟨j+1,rfl,by omega,by go_num,V.1,V.2.1,λa aB=>by(by_cases e:a=j;exact e ▸ bm;exact p.2.2.2.1 a (by omega)),V.2.2.1,V.2.2.2⟩
  ·have bi:(m.next.length:Int)<(j:Int):=by omega
   have ak:Hid (yO m=-1):=zM5 m λa aB=>p.2.2.2.1 a (by omega);clear aC z aE af N aF bg;go_wp2_with fail;go_ret2
   exact⟨p.2.2.2.2.1,.inl ⟨ak,rfl⟩⟩
theorem zMh (w:World)(b:Nat)(d:b<256):
  (convert 68 9 (slice (qX w.heap.size) 1 1)).run prog (w.alloc (.cells #[int .u8 (b:Int)] 5))=
   .ok (string ⟨#[UInt8.ofNat b]⟩) (w.alloc (.cells #[int .u8 (b:Int)] 5)):=by
 refine run_convert_bytes_back _ 68 9 5 ⟨w.heap.size,0,none⟩ 1 [UInt8.ofNat b] underlying68 underlying5 underlying9 ?_;intro j c;have a:=gY w (.cells #[int .u8 (b:Int)] 5);generalize w.alloc (.cells #[int .u8 (b:Int)] 5)=w1 at a ⊢;have:j=0:=by simp at c;omega
 subst this;have e:([UInt8.ofNat b]:List UInt8)[0].toNat=b:=by simp;omega
 rw[e];simp[Addr.add,cell?,a]
theorem zDc (w:World)(b:Nat)(a:b<256):
  Calls prog 150 #[iX b] w λe w'=>e=returned (string ⟨#[UInt8.ofNat b]⟩)/\Grew w w':=by
 have c:=zMh w b a;go_in;go_wp2;go_ret;exact⟨rfl,kZ _ _ lQ⟩
theorem zGH (w:World)(l rv p:Value)(m:Sm)(r:TblAt w l rv m)(g:m.Tbl)(f:Nat->Bool)(C:BoolsAt w (In w) p m.next.length f)(to:Int):
  Calls prog 149 #[agg #[l,rv,iX m.start],p,iX to] w λe w'=>∃s b:Nat,s<m.next.length/\b<256/\e=returned (tuple #[iX s,iX b])/\Grew w w':=by
 obtain⟨W,X,rfl,Y,aa,D⟩:=r.next
 obtain⟨ab,ac,rfl,ad,ae,af⟩:=r.rules;obtain⟨ag,of_,ah,E,rfl,_,_,F⟩:=C;have G:=vl D;have H:=vl F;have I:Hid m.Tbl:=g;have ai:=g.most;have aj:=g.one;generalize J:m.next.length=n at *
 have K:=vl J;go_in;go_wp2;go_loopg [15] n (λq i wr=>∃s:Nat,q=n-s/\s<=n/\i=iX (s:Int)/\Grew w wr)
 case atStart=>exact⟨0,rfl,lX,rfl,kZ _ _ lQ⟩
 case round=>
  obtain⟨s,h,ak,rfl,a⟩:=hrel;have j:Hid (gk=n-s/\Grew w wr):=⟨h,a⟩
  by_cases d:s<n
  ·have L:(s:Int)<(n:Int):=by omega
   obtain⟨b,o,u,rfl,M,N,O⟩:=G s d;have t:=I.rows s (by rw[K.out];exact d);obtain⟨v,y,P,rfl,R,_,_,S⟩:=O.block (by omega);have al:cX wr b (o+s)=some (slice (some ⟨v,y,none⟩) 256 P):=by rw[<-t];exact zA N M a
   have T:Hid (∀i,i<256->cX w v (y+i)=some (iX ((m.next.getD s []).getD i 0))):=by
    intro i U;exact S i (by rw[t];exact U)
   go_wp2;go_loopg [22] 256 (λq i wr=>∃k:Nat,q=256-k/\k<=256/\i=iX (k:Int)/\Grew w wr)
   case atStart=>exact⟨0,rfl,lX,rfl,j.2⟩
   case round=>
    obtain⟨k,h,am,rfl,a⟩:=hrel;have c:Hid (gk=256-k/\Grew w wr):=⟨h,a⟩
    by_cases z:k<256
    ·have V:(k:Int)<256:=by omega
     have ao:=zA (T k z) R a;have A:=zA (H s d) E a;generalize (m.next.getD s []).getD k 0=x at *;cases B:f s with
     |false=>
      rw[B] at A;go_wp2;go_roundg (256-(k+1))
      case measure=>rw[c.out.1];omega
      case rel=>exact⟨k+1,rfl,by omega,by go_num,c.2⟩
     |true=>
      rw[B] at A;cases ap:(x==to) with
      |true=>
       go_wp2;go_ret2
       exact⟨s,k,d,z,rfl,c.2⟩
      |false=>
       go_wp2;go_roundg (256-(k+1))
       case measure=>rw[c.out.1];omega
       case rel=>exact⟨k+1,rfl,by omega,by go_num,c.2⟩
    ·have V:(256:Int)<=(k:Int):=by omega
     go_wp2;go_roundg (n-(s+1))
     case measure=>rw[j.out.1];omega
     case rel=>exact⟨s+1,rfl,by omega,by go_num,c.2⟩
  ·have L:(n:Int)<=(s:Int):=by omega
   go_wp2;go_ret2
   exact⟨0,0,by omega,by omega,rfl,j.2⟩
theorem zId:(prog.info? 9).map (λi=>(i.zero,i.size,i.bytes))=some (some (string ⟨#[]⟩),1,16):=by kernel_rfl
theorem zM7 (f:Nat->Bool)(t n:Nat)(h:t<n)(a:f t=false):(List.range n).countP (λi=>if i=t then true else f i)=(List.range n).countP f+1:=by
 induction n with
 |zero=>omega
 |succ n b=>
  rw[List.range_succ,List.countP_append,List.countP_append];by_cases e:t=n
  ·subst e
   have c:(List.range t).countP (λi=>if i=t then true else f i)=(List.range t).countP f:=by
    apply List.countP_congr;intro i d;rw[if_neg (by have:=List.mem_range.1 d;omega)]
   rw[c];simp[a]
  ·rw[b (by omega)]
   have g:[n].countP (λi=>if i=t then true else f i)=[n].countP f:=by simp[Ne.symm e]
   rw[g];omega
theorem zOB (f:Nat->Bool)(n:Nat):(List.range n).countP f<=n:=by
 have a:=List.countP_le_length (p:=f) (l:=List.range n);rw[List.length_range] at a;exact a
structure Wy (w:World)(H gs gw n:Nat)(sf:Nat->Bool)(wf:Nat->ByteArray)(lv:Value)(l:List Int):Prop where
 seen:Row w H 4 (slice (some ⟨gs,0,none⟩) n n) n λi=>bool (sf i)
 words:Row w H 9 (slice (some ⟨gw,0,none⟩) n n) n λi=>string (wf i)
 list:OwnI w H lv l
 all:∀x∈l,0<=x/\x<(n:Int)
 len:l.length=1+(List.range n).countP sf
 size:∀i,(wf i).size<=l.length
theorem Wy.most {w:World}{H b c n:Nat}{a:Nat->Bool}{d:Nat->ByteArray}{lv:Value}{l:List Int}(e:Wy w H b c n a d lv l):l.length<=n+1:=by
 have:=zOB a n;have:=e.len;omega
theorem Row.at {w:World}{H g n c:Nat}{e:TypeId}{f:Nat->Value}(b:Row w H e (slice (qX g) n c) n f)(d:0<n):H<=g/\g<w.heap.size/\(∀i,i<n->w.cell? ⟨g,i,none⟩=some (f i))/\∀i,w.frozen? ⟨g,i,none⟩=false:=by
 have ⟨j,r,k,l,m,s,t,o,p⟩:=b.get d;have q:j=g:=by injection k with a _ _;injection a with a;injection a with a;exact a.symm
 subst q;exact⟨l,m,o,p⟩
theorem Keep.undrew {a b:Nat}{w w':World}(c:Keep a b w.drew w'):Keep a b w w':=⟨c.os,c.output,c.size,c.block⟩
theorem zIi {w w':World}{b i:Nat}(a:w.frozen? ⟨b,i,none⟩=false)(c:b<w.heap.size)(d:Grew w w'):w'.frozen? ⟨b,i,none⟩=false:=(gV (d.block b c (by omega))).trans a
theorem zO {w:World}{H b:Nat}{e g:TypeId}{j:Nat}{v:Value}{n:Nat}{xs:List Value}{c:Array Value}(k:w.ownsRow H e j v n xs)(l:w.heap[b]? =some (.cells c g))(m:e≠g):some b≠v.ownBlock:=by
 intro d;rcases k.2 with⟨f,_⟩|⟨o,_,q,f,_,a,_⟩
 ·rw[f] at d;cases d
 ·rw[f] at d
  have p:o=b:=by simpa[Value.ownBlock] using d.symm
  subst p;rw[l] at a;injection a with a;injection a with _ a;exact m a.symm
theorem Wy.mark {w d:World}{H a b n:Nat}{o:Nat->Bool}{j:Nat->ByteArray}{lv:Value}{l:List Int}(c:Wy w H a b n o j lv l)(x:Nat)(f:ByteArray)(k:Keep (w.setCell ⟨a,x,none⟩ (bool true)).heap.size (w.setCell ⟨a,x,none⟩ (bool true)).heap.size (w.setCell ⟨a,x,none⟩ (bool true)) d):
  Row (d.setCell ⟨b,x,none⟩ (string f)) H 4 (slice (qX a) n n) n (λi=>bool (if i=x then true else o i))/\
  Row (d.setCell ⟨b,x,none⟩ (string f)) H 9 (slice (qX b) n n) n (λi=>string (if i=x then f else j i))/\
  OwnI (d.setCell ⟨b,x,none⟩ (string f)) H lv l:=by
 have q:=c.seen.set x tX;have r:Row (w.setCell ⟨a,x,none⟩ tX) H 9 (slice (qX b) n n) n λi=>string (j i):=c.words.setOther c.seen (by decide);have s:OwnI (w.setCell ⟨a,x,none⟩ tX) H lv l:=zE c.list λg _ _ m=>lJ _ _ _ _ λe=>xZ (g:=g) c.list c.seen (by decide) m (by rw[e];rfl);have t:=zL q k;have b2:Row d H 9 (slice (qX b) n n) n λi=>string (j i):=zL r k;have p:=zL s k;refine⟨?_,?_,?_⟩
 ·refine Row.congr (Row.setOther (H:=H) t b2 (by decide)) λi _=>?_
  by_cases e:i=x <;> simp[e]
 ·refine Row.congr (b2.set x (string f)) λi _=>?_
  by_cases e:i=x <;> simp[e]
 ·exact zE p λg _ _ m=>lJ _ _ _ _ λe=>xZ (g:=g) p b2 (by decide) m (by rw[e];rfl)
theorem Wy.more {c h:World}{o:Obj}{H m p n q cap:Nat}{a:Nat->Bool}{d:Nat->ByteArray}{r:Option Addr}{s:Nat}{l:List Int}(x:Nat)(f:ByteArray)
  (A:∀x∈l,0<=x/\x<(n:Int)) (B:l.length=1+(List.range n).countP a) (C:∀i,(d i).size<=l.length) (D:x<n) (E:a x=false) (F:f.size<=l.length+1)
  (t:Row c H 4 (slice (qX m) n n) n (λi=>bool (if i=x then true else a i)))
  (u:Row c H 9 (slice (qX p) n n) n (λi=>string (if i=x then f else d i)))
  (v:OwnI c H (slice r l.length s) l)
  (G:h.ownsRow H 3 1 (slice (qX q) (l.length+1) cap) (l.length+1) ((l.map λx=>iX x)++[iX (x:Int)]))
  (w:(c.alloc o).grownBy h (Value.ownBlock (slice r l.length s))):
  Wy h H m p n (λi=>if i=x then true else a i) (λi=>if i=x then f else d i) (slice (qX q) (l.length+1) cap) (l++[(x:Int)]):=by
 refine⟨?_,?_,OwnI.snoc G,?_,?_,?_⟩
 ·exact t.blk λg _ j k=>(w.block g (by simp;omega) (xZ t v.raw (by decide) k)).trans (lG _ _ _ j)
 ·exact u.blk λg _ j k=>(w.block g (by simp;omega) (xZ u v.raw (by decide) k)).trans (lG _ _ _ j)
 ·intro y b
  rcases kU.1 b with b|b
  ·exact A y b
  ·rw[kY.1 b];omega
 ·rw[kX,zM7 a x n D E,B]
  simp;omega
 ·intro i
  rw[kX];show(if i=x then f else d i).size<=l.length+1;by_cases e:i=x
  ·rw[if_pos e];exact F
  ·rw[if_neg e];have:=C i;omega
theorem zL3 (w:World)(aN rv aO gv:Value)(m:Sm)(aP:TblAt w aN rv m)(am:m.Tbl)(from_:Nat)(ct:from_<m.next.length)(ao ap:Nat->Bool)(bh:BoolsAt w (In w) aO m.next.length ao)(bi:BoolsAt w (In w) gv m.next.length ap):
  Calls prog 146 #[agg #[aN,rv,iX m.start],iX from_,aO,gv] w λe w'=>∃(aQ:ByteArray) (a:Int),e=returned (tuple #[string aQ,iX a])/\aQ.size<=300/\ -1<=a/\a<m.next.length/\Grew w w':=by
 have ⟨bj,bk,bl,bm,bn⟩:=info_parts yW;have ⟨bp,bq,bs,bt,bu⟩:=info_parts vL;have ⟨is,bv,bw,bx,bz⟩:=info_parts zId;obtain⟨H,y,rfl,cu,cw,bA⟩:=aP.next
 obtain⟨C,D,rfl,cx,cy,cz⟩:=aP.rules;obtain⟨bB,bC,cA,bD,rfl,_,_,bE⟩:=bh;obtain⟨bF,bG,cB,bH,rfl,_,_,bI⟩:=bi;have bJ:=vl bA;have bK:=vl bE;have bL:=vl bI;have aR:Hid m.Tbl:=am;have cC:=am.most;have cD:=am.one;generalize bM:m.next.length=n at *
 have aq:=vl bM;obtain⟨w1,aS,X,au⟩:∃w1,w1=w.alloc (.cells #[slice H n y,slice C m.rules.length D,iX m.start] 127)/\Hid (Grew w w1/\w1.heap[w.heap.size]? =some (.cells #[slice H n y,slice C m.rules.length D,iX m.start] 127))/\w.heap.size<w1.heap.size:=
  ⟨_,rfl,⟨kZ _ _ lQ,gY w _⟩,by simp⟩
 have ⟨w2,bN,bO,Y⟩:=run_makeSlice_full (P:=prog) w1 w.heap.size 28 4 bp _ 1 underlying28 bq bs bt i64 i64 n (by omega) (by rw[bu];omega) (by unfold maxLen;omega) (by omega);have F:Grew w1 w2:=⟨Y.os,Y.output,Y.size,λk aa _=>Y.block k aa (by simp)⟩
 have aT:=lZ au F.size;have ⟨v,bP,bQ,ab⟩:=run_makeSlice_full (P:=prog) w2 w.heap.size 108 9 is _ 1 underlying108 bv bw bx i64 i64 n (by omega) (by rw[bz];omega) (by unfold maxLen;omega) (by omega);have ac:Grew w2 v:=⟨ab.os,ab.output,ab.size,λk aa _=>ab.block k aa (by simp)⟩
 have bR:=lZ aT ac.size;have M:Hid (Row v w.heap.size 4 (slice (qX w1.heap.size) n n) n (λ_=>fX)/\Row v w.heap.size 9 (slice (qX w2.heap.size) n n) n (λ_=>string ⟨#[]⟩)/\Grew w v/\v.heap[w.heap.size]? =some (.cells #[slice H n y,slice C m.rules.length D,iX m.start] 127)):=by
  have aU:=bO;rw[Nat.mul_one,zAy _ rfl] at aU;have aV:=bQ;rw[Nat.mul_one,zAy _ rfl] at aV;exact⟨zL aU ac,aV,(X.1.trans (F.lower (by omega) (by omega))).trans (ac.lower (by omega) (by omega)),(ac.block _ aT (by omega)).trans ((F.block _ au (by omega)).trans X.2)⟩
 have aW:w1.cell? ⟨w.heap.size,0,none⟩=some (slice H n y):=by unfold cell?;rw[X.out.2];rfl
 have bS:=zA aW au F;go_in;apply wp_cut;intro cE bT;go_wp2;apply bT.out;rw[<-aS];clear aS;go_wp2_with fail;clear bN bP aW bS;obtain⟨N,aX,av⟩:∃N,N=v.alloc (.cells #[iX (from_:Int)] 3)/\Hid (Wy N w.heap.size w1.heap.size w2.heap.size n (λ_=>false) (λ_=>⟨#[]⟩) (slice (qX v.heap.size) 1 1) [(from_:Int)]/\Grew w N/\N.heap[w.heap.size]? =some (.cells #[slice H n y,slice C m.rules.length D,iX m.start] 127)):=by
  have ad:Grew v (v.alloc (.cells #[iX (from_:Int)] 3)):=kZ _ _ lQ;refine⟨_,rfl,⟨zL M.1 ad,zL M.2.1 ad,?_,?_,?_,λi=>lX⟩,M.2.2.1.trans (ad.lower (by omega) (by omega)),(ad.block _ bR (by omega)).trans M.2.2.2⟩
  ·exact⟨rfl,.inr ⟨v.heap.size,1,#[iX (from_:Int)],rfl,by omega,gY v _,lQ,by unfold maxLen;omega,rfl,rfl⟩⟩
  ·intro x ae
   rw[kY.1 ae];omega
  ·have e:(List.range n).countP (λ_=>false)=0:=by simp
   rw[e];rfl
 rw[<-aX];clear aX M X;have aw:w1.heap.size≠w2.heap.size->True:=λ_=>trivial;clear aw;go_loopg [12,13] (n+1) (λq ax i wr=>∃(j:Nat) (f:Nat->Bool) (d:Nat->ByteArray) (l:List Int),q=n+1-j/\j<=l.length/\i=iX (j:Int)/\Wy wr w.heap.size w1.heap.size w2.heap.size n f d ax l/\Grew w wr/\wr.heap[w.heap.size]? =some (.cells #[slice H n y,slice C m.rules.length D,iX m.start] 127))
 case atStart=>exact⟨0,_,_,_,rfl,lX,rfl,av.1,av.2.1,av.2.2⟩
 case round=>
  obtain⟨j,f,d,l,I,cF,rfl,p,A,r⟩:=hrel;have O:Hid (gk=n+1-j/\Wy wr w.heap.size w1.heap.size w2.heap.size n f d u12 l/\Grew w wr/\wr.heap[w.heap.size]? =some (.cells #[slice H n y,slice C m.rules.length D,iX m.start] 127)):=⟨I,p,A,r⟩
  have bU:=p.most;have ⟨af,ay,az⟩:=p.list.form;subst az;by_cases aA:j<l.length
  ·have bV:(j:Int)<(l.length:Int):=by omega
   obtain⟨gl,rfl⟩:∃gl,af=some ⟨gl,0,none⟩:=by
    rcases p.list.2 with⟨J,cG⟩|⟨g,_,_,J,_⟩
    ·omega
    ·injection J with J _ _
     exact⟨g,J⟩
   have aY:wr.cell? ⟨gl,j,none⟩=some (iX (l.getD j 0)):=p.list.cell j aA;have ⟨bW,bX⟩:=p.all _ (zV l j 0 aA);obtain⟨s,aZ⟩:∃s:Nat,l.getD j 0=(s:Int):=⟨(l.getD j 0).toNat,by omega⟩
   rw[aZ] at aY bX;have ag:s<n:=by omega
   have cH:(s:Int)<(n:Int):=by omega
   have bY:wr.cell? ⟨w.heap.size,0,none⟩=some (slice H n y):=by unfold cell?;rw[r];rfl
   obtain⟨b,o,u,rfl,K,a0,a1⟩:=bJ s ag;have aB:=aR.rows s (by rw[aq.out];exact ag);obtain⟨aC,aD,bZ,rfl,b0,_,_,a2⟩:=a1.block (by omega);have b1:wr.cell? ⟨b,o+s,none⟩=some (slice (some ⟨aC,aD,none⟩) 256 bZ):=by rw[<-aB];exact zA a0 K A
   have b3:Hid (∀i,i<256->w.cell? ⟨aC,aD+i,none⟩=some (iX ((m.next.getD s []).getD i 0))):=by
    intro i b4;exact a2 i (by rw[aB];exact b4)
   have b5:Hid (∀b,b<256->0<=(m.next.getD s []).getD b 0/\(m.next.getD s []).getD b 0<n):=λb K=>by
    have J:=aR.to s b (by rw[aq.out];exact ag) K;rw[aq.out] at J;exact J
   clear I p A r a0 a1 a2 aB aZ bW;go_wp2_with fail;clear aY bY b1;go_loopg [12,43] 256 (λq ax i wr=>∃(k:Nat) (f:Nat->Bool) (d:Nat->ByteArray) (l:List Int),q=256-k/\k<=256/\i=iX (k:Int)/\j<l.length/\Wy wr w.heap.size w1.heap.size w2.heap.size n f d ax l/\Grew w wr/\wr.heap[w.heap.size]? =some (.cells #[slice (some ⟨b,o,none⟩) n y,slice C m.rules.length D,iX m.start] 127))
   case atStart=>exact⟨0,f,d,l,rfl,lX,rfl,aA,O.2.1,O.2.2.1,O.2.2.2⟩
   case round=>
    obtain⟨k,f,d,l,I,aa,rfl,R,p,A,r⟩:=hrel;have c:Hid (gk=256-k/\Wy wr w.heap.size w1.heap.size w2.heap.size n f d u12 l/\Grew w wr/\wr.heap[w.heap.size]? =some (.cells #[slice (some ⟨b,o,none⟩) n y,slice C m.rules.length D,iX m.start] 127)):=⟨I,p,A,r⟩
    have bU:=p.most;have ⟨af,ay,az⟩:=p.list.form;subst az;by_cases F:k<256
    ·have b6:(k:Int)<256:=by omega
     have a3:wr.cell? ⟨aC,aD+k,none⟩=some (iX ((m.next.getD s []).getD k 0)):=zA (b3 k F) b0 A;have ⟨b7,b8⟩:=b5 k F;obtain⟨x,ae⟩:∃x:Nat,(m.next.getD s []).getD k 0=(x:Int):=⟨((m.next.getD s []).getD k 0).toNat,by omega⟩
     rw[ae] at a3 b7 b8;have S:x<n:=by omega
     have aE:wr.cell? ⟨bF,bG+x,none⟩=some (bool (ap x)):=zA (bL x S) bH A;have aF:wr.cell? ⟨bB,bC+x,none⟩=some (bool (ao x)):=zA (bK x S) bD A;have ⟨s1,s2,a4,a5⟩:=p.seen.at (by omega)
     have ⟨v1,v2,aG,a6⟩:=p.words.at (by omega)
     have T:wr.cell? ⟨w1.heap.size,x,none⟩=some (bool (f x)):=a4 x S;have b9:=a5 x;have aH:wr.cell? ⟨w2.heap.size,s,none⟩=some (string (d s)):=aG s ag;have a7:wr.cell? ⟨w2.heap.size,x,none⟩=some (string (d x)):=aG x S;have a8:=a6 x;have cI:=p.size s;have a9:w.heap.size<=wr.heap.size:=Nat.le_of_lt (Nat.lt_of_le_of_lt s1 s2);have aw:w1.heap.size≠w2.heap.size:=λe=>xZ (g:=w1.heap.size) p.seen p.words (by decide) rfl (by rw[e];rfl);have ca:Hid (f x=f x):=rfl;clear I A r ae ca a4 a5 aG a6;cases ah:ap x with
     |true=>
      rw[ah] at aE;clear ah;go_wp2_with fail;have G:Hid (w2.heap.size<wr.heap.size/\wr.cell? ⟨w2.heap.size,s,none⟩=some (string (d s))):=⟨v2,aH⟩
      go_region_with ((go_at_call 150;go_must ((refine (zDc _ k F).mono ?_;rintro e cb ⟨rfl,ba⟩;have q5:cb.cell? ⟨w2.heap.size,s,none⟩=some (string (d s)):=zA (w:=wr.drew) G.2 G.1 ba))))
      all_goals first
       |omega
       |(go_wp2_with fail;go_ret2;refine⟨_,_,rfl,?_,by omega,by omega,c.2.2.1.trans ((Keep.undrew ba).lower a9 a9)⟩;rw[ByteArray.size_append];show _+1<=300;omega)
     |false=>
      rw[ah] at aE;clear ah;cases ai:ao x with
      |false=>
       rw[ai] at aF;clear ai;cases E:f x with
       |true=>
        rw[E] at T;clear E;go_wp2_with fail;go_roundg (256-(k+1))
        case measure=>rw[c.out.1];omega
        case rel=>exact⟨k+1,f,d,l,rfl,by omega,by go_num,R,c.2.1,c.2.2.1,c.2.2.2⟩
       |false=>
        rw[E] at T;clear E;go_wp2_with fail;go_roundg (256-(k+1))
        case measure=>rw[c.out.1];omega
        case rel=>exact⟨k+1,f,d,l,rfl,by omega,by go_num,R,c.2.1,c.2.2.1,c.2.2.2⟩
      |true=>
       rw[ai] at aF;clear ai;cases E:f x with
       |true=>
        rw[E] at T;clear E;go_wp2_with fail;go_roundg (256-(k+1))
        case measure=>rw[c.out.1];omega
        case rel=>exact⟨k+1,f,d,l,rfl,by omega,by go_num,R,c.2.1,c.2.2.1,c.2.2.2⟩
       |false=>
        rw[E] at T;have cc:Hid (f x=false):=E;clear E;by_cases aI:x=from_
        ·have cd:((x:Int) != (from_:Int))=false:=by simp[aI]
         clear aI;go_wp2_with fail;go_roundg (256-(k+1))
         case measure=>rw[c.out.1];omega
         case rel=>exact⟨k+1,f,d,l,rfl,by omega,by go_num,R,c.2.1,c.2.2.1,c.2.2.2⟩
        ·have cd:((x:Int) != (from_:Int))=true:=by simp;omega
         clear aI;go_wp2_with fail;obtain⟨t,aJ,ce,q2,q3,q4⟩:∃t,t=wr.setCell ⟨w1.heap.size,x,none⟩ tX/\t.cell? ⟨w2.heap.size,s,none⟩=some (string (d s))/\t.cell? ⟨w2.heap.size,x,none⟩=some (string (d x))/\t.frozen? ⟨w2.heap.size,x,none⟩=false/\w2.heap.size<t.heap.size:=by
          have K:(wr.setCell ⟨w1.heap.size,x,none⟩ tX).heap[w2.heap.size]? =wr.heap[w2.heap.size]? :=lJ _ _ _ _ aw.symm;exact⟨_,rfl,(gW K).trans aH,(gW K).trans a7,(gV K).trans a8,by simpa[World.setCell] using v2⟩
         rw[<-aJ];have cf:Hid (t=wr.setCell ⟨w1.heap.size,x,none⟩ tX):=aJ;clear aJ aH a7 a8 T b9 aF aE a3;have G:Hid (w2.heap.size<t.heap.size/\t.cell? ⟨w2.heap.size,s,none⟩=some (string (d s))/\t.cell? ⟨w2.heap.size,x,none⟩=some (string (d x))/\t.frozen? ⟨w2.heap.size,x,none⟩=false):=⟨q4,ce,q2,q3⟩
         have cJ:((⟨#[UInt8.ofNat k]⟩:ByteArray)).size=1:=rfl;go_region_with ((go_at_call 150;go_must ((refine (zDc _ k F).mono ?_;rintro e U ⟨rfl,V⟩;have q5:U.cell? ⟨w2.heap.size,s,none⟩=some (string (d s)):=zA (w:=t.drew) G.2.1 G.1 V;have q6:U.cell? ⟨w2.heap.size,x,none⟩=some (string (d x)):=zA (w:=t.drew) G.2.2.1 G.1 V;have ch:U.frozen? ⟨w2.heap.size,x,none⟩=false:=zIi (w:=t.drew) G.2.2.2 G.1 V))))
         all_goals
          obtain⟨B,bb,L,bc⟩:∃B,B=U.setCell ⟨w2.heap.size,x,none⟩ (string (d s++⟨#[UInt8.ofNat k]⟩))/\Hid ((Row B w.heap.size 4 (slice (qX w1.heap.size) n n) n (λi=>bool (if i=x then true else f i))/\Row B w.heap.size 9 (slice (qX w2.heap.size) n n) n (λi=>string (if i=x then d s++⟨#[UInt8.ofNat k]⟩ else d i))/\OwnI B w.heap.size (slice af l.length ay) l)/\Grew w B/\B.heap[w.heap.size]? =some (.cells #[slice (some ⟨b,o,none⟩) n y,slice C m.rules.length D,iX m.start] 127))/\w.heap.size<B.heap.size:=by
           have ci:=cf.out;subst ci;have r:=c.2.2.2;have aj:Keep (wr.setCell ⟨w1.heap.size,x,none⟩ tX).heap.size (wr.setCell ⟨w1.heap.size,x,none⟩ tX).heap.size (wr.setCell ⟨w1.heap.size,x,none⟩ tX) U:=Keep.undrew V;have W:(wr.setCell ⟨w1.heap.size,x,none⟩ tX).heap.size=wr.heap.size:=by simp[World.setCell]
           have cj:w.heap.size≠w1.heap.size:=λe=>zO c.2.1.seen r (by decide) (by rw[e];rfl);have ck:w.heap.size≠w2.heap.size:=λe=>zO c.2.1.words r (by decide) (by rw[e];rfl);refine⟨_,rfl,⟨c.2.1.mark x _ aj,?_,?_⟩,?_⟩
           ·exact((c.2.2.1.trans (zQ _ _ _ _ (by omega))).trans (aj.lower (by rw[W];omega) (by rw[W];omega))).trans (zQ _ _ _ _ (by omega))
           ·refine(lJ _ _ _ _ ck).trans ((aj.block _ (by rw[W];omega) (by rw[W];omega)).trans ((lJ _ _ _ _ cj).trans r))
           ·have:=aj.size
            rw[W] at this;simp[World.setCell];omega
          rw[<-bb];clear bb q5 q6 ch V;have aK:Hid (B.ownsRow w.heap.size 3 1 (slice af l.length ay) l.length (l.map λx=>iX x)):=L.1.2.2;have cm:w.heap.size<=B.heap.size:=Nat.le_of_lt bc;go_wp2_with (at_builtin;refine wpList_append_lies _ rfl _ _ 45 rfl (w.heap.size) 3 bj zX 1 8 underlying45 bk bl bm bn rfl (by decide) _ _ _ rfl (aK.alloc _) ⟨B.heap.size,0,none⟩ 1 1 [iX (x:Int)] rfl rfl (cell_one_new _ _ _) (by intro u bd;simp at bd;subst bd;rfl) (by decide) (by unfold maxLen;omega) (by omega) (by simp;omega) _ rfl ?_;intro cp cap aL be ak cq cK;have bf:=xU aK ak cm)
          have aM:Hid (Wy aL w.heap.size w1.heap.size w2.heap.size n (λi=>if i=x then true else f i) (λi=>if i=x then d s++⟨#[UInt8.ofNat k]⟩ else d i) (slice (qX cp) (l.length+1) cap) (l++[(x:Int)])/\Grew w aL/\aL.heap[w.heap.size]? =some (.cells #[slice (some ⟨b,o,none⟩) n y,slice C m.rules.length D,iX m.start] 127)):=by
           have r:=L.2.2;refine⟨Wy.more x _ c.2.1.all c.2.1.len c.2.1.size S cc ?_ L.1.1 L.1.2.1 L.1.2.2 be ak,L.2.1.trans (xS bf),(ak.block _ (by simp;omega) (zO aK r (by decide))).trans ((lG _ _ _ bc).trans r)⟩;rw[ByteArray.size_append];show _+1<=_;omega
          clear be ak bf cq;go_wp2_with fail;go_roundg (256-(k+1))
          case measure=>rw[c.out.1];omega
          case rel=>exact⟨k+1,_,_,_,rfl,by omega,by go_num,by rw[kX];omega,aM.1,aM.2.1,aM.2.2⟩
    ·have b6:(256:Int)<=(k:Int):=by omega
     clear I A r;go_wp2_with fail;go_roundg (n+1-(j+1))
     case measure=>rw[O.out.1];omega
     case rel=>exact⟨j+1,f,d,l,rfl,R,by go_num,c.2.1,c.2.2.1,c.2.2.2⟩
  ·have bV:(l.length:Int)<=(j:Int):=by omega
   clear I A r;go_wp2_with fail;go_ret2
   exact⟨⟨#[]⟩,-1,rfl,lX,by omega,by omega,O.2.2.1⟩
section
variable {w w':World} {a rv:Value} {m:Sm} (j:TblAt w a rv m) (d:m.Tbl) (one b:Nat)
structure Boxed (w w':World)(b:Nat)(nv rv:Value)(m:Sm):Prop where
 c0:w'.cell? ⟨b,0,none⟩=some nv
 c1:w'.cell? ⟨b,1,none⟩=some rv
 c2:w'.cell? ⟨b,2,none⟩=some (int i64 m.start)
 keep:Grew w w'
 lt:b<w'.heap.size
theorem Boxed.made (w:World)(a rv:Value)(m:Sm):Boxed w (w.alloc (.cells #[a,rv,iX m.start] 127)) w.heap.size a rv m:=by
 have b:=gY w (.cells #[a,rv,iX m.start] 127);refine⟨?_,?_,?_,kZ _ _ lQ,by simp⟩ <;> ·unfold cell?;rw[b];rfl
theorem Boxed.grown {w w' w2:World}{b:Nat}{d rv:Value}{m:Sm}(a:Boxed w w' b d rv m)(c:Grew w' w2):Boxed w w2 b d rv m:=
 ⟨zA a.c0 a.lt c,zA a.c1 a.lt c,zA a.c2 a.lt c,a.keep.th c,lZ a.lt c.size⟩
theorem Boxed.drew {b:Nat}{c rv:Value}{m:Sm}(a:Boxed w w' b c rv m):Boxed w w'.drew b c rv m:=⟨a.c0,a.c1,a.c2,a.keep.trans (Keep.drew _),a.lt⟩
theorem Boxed.living (j:TblAt w a rv m)(d:m.Tbl)(b:Nat)(f:Boxed w w' b a rv m):
  Calls prog 144 #[agg #[a,rv,iX m.start]] w' λe c=>∃u,e=returned u/\BoolsAt c (In c) u m.next.length zCe/\Boxed w c b a rv m/\Grew w' c:=by
 refine(zH6 w' a rv m (j.grown f.keep) d).mono ?_;rintro e w2 ⟨u,rfl,k,g⟩;exact⟨u,rfl,k.at d.one,f.grown g,g⟩
theorem Boxed.only (j:TblAt w a rv m)(d:m.Tbl)(one b:Nat)(f:Boxed w w' b a rv m):
  Calls prog 148 #[agg #[a,rv,iX m.start],iX one] w' λe c=>∃u,e=returned u/\BoolsAt c (In c) u m.next.length (zCd one)/\Boxed w c b a rv m/\Grew w' c:=by
 refine(zKA w' a rv m (j.grown f.keep) d one).mono ?_;rintro e w2 ⟨u,rfl,k,g⟩;exact⟨u,rfl,k.at d.one,f.grown g,g⟩
theorem Boxed.tokens (k:TblAt w a rv m)(d:m.Tbl)(b:Nat)(f:Boxed w w' b a rv m):
  Calls prog 140 #[agg #[a,rv,iX m.start]] w' λe c=>∃u,e=returned u/\BoolsAt c (In c) u m.next.length (tokF m)/\Boxed w c b a rv m/\Grew w' c:=by
 refine(zDt w' a rv m (k.grown f.keep) d).mono ?_;rintro e w2 ⟨u,rfl,g,j⟩;rw[d.rules] at g;exact⟨u,rfl,g.at d.one,f.grown j,j⟩
theorem Boxed.way {c rv f gv:Value}{m:Sm}(p:TblAt w c rv m)(q:m.Tbl)(b from_:Nat)(r:from_<m.next.length)(g j:Nat->Bool)(k:Boxed w w' b c rv m)(s:BoolsAt w' (In w') f m.next.length g)(t:BoolsAt w' (In w') gv m.next.length j):
  Calls prog 146 #[agg #[c,rv,iX m.start],iX from_,f,gv] w' λe l=>∃(d:ByteArray) (a:Int),e=returned (tuple #[string d,iX a])/\d.size<=300/\ -1<=a/\a<m.next.length/\Boxed w l b c rv m/\Grew w' l:=by
 refine(zL3 w' c rv f gv m (p.grown k.keep) q from_ r g j s t).mono ?_;rintro e w2 ⟨d,a,rfl,u,v,x,o⟩;exact⟨d,a,rfl,u,v,x,k.grown o,o⟩
theorem zE2 (w:World)(b rv g:Value)(m:Sm)(j:TblAt w b rv m)(k:m.Tbl)(s:Nat)(o:s<m.next.length)(l:Nat->Bool)(p:BoolsAt w (In w) g m.next.length l):
  Calls prog 180 #[agg #[b,rv,iX m.start],iX s,g] w λe w'=>∃x:Bool,e=returned (bool x)/\Grew w w':=by
 have c:=Boxed.made w b rv m;have q:Hid (∀w',Boxed w w' w.heap.size b rv m->_):=λw' d=>Boxed.only (w':=w') j k s w.heap.size d;have r:Hid (∀w' gv,Boxed w w' w.heap.size b rv m->BoolsAt w' (In w') gv m.next.length (zCd s)->_):=λw' gv d t=>Boxed.way (w':=w') (gv:=gv) j k w.heap.size s o l (zCd s) d (p.grown d.keep) t;go_in;apply wp_cut;intro C v;go_wp2;apply v.out;generalize w.alloc (.cells #[b,rv,iX m.start] 127)=w1 at *;have D:=c.c0;have E:=c.c1;have F:=c.c2;have y:=vl c;go_wp2;go_region_with ((first|(go_at_call 148;go_must ((refine (q _ y.drew).mono ?_;rintro e G ⟨u,rfl,A,f,-⟩;have H:=f.c0;have I:=f.c1;have J:=f.c2)))|(go_at_call 146;go_must ((refine (r _ _ f A).mono ?_;rintro e K ⟨L,a,rfl,M,N,O,B,-⟩)))))
 all_goals
  go_wp2;go_ret;exact⟨_,rfl,B.keep⟩
end
theorem zDr (w:World)(b rv:Value)(m:Sm)(o:TblAt w b rv m)(p:m.Tbl)(q:Nat)(r:m.start=(q:Int))(F:q<m.next.length)(s:Nat):
  Calls prog 147 #[agg #[b,rv,iX m.start],iX s] w λe w'=>∃f:ByteArray,e=returned (string f)/\f.size<=300/\Grew w w':=by
 have k:=Boxed.made w b rv m;have G:Hid (∀w',Boxed w w' w.heap.size b rv m->_):=λw' c=>Boxed.only (w':=w') o p s w.heap.size c;have H:Hid (∀w',Boxed w w' w.heap.size b rv m->_):=λw' c=>Boxed.living (w':=w') o p w.heap.size c;have t:Hid (∀w' d gv,Boxed w w' w.heap.size b rv m->BoolsAt w' (In w') d m.next.length zCe->BoolsAt w' (In w') gv m.next.length (zCd s)->_):=λw' d gv c u v=>Boxed.way (w':=w') (gv:=gv) o p w.heap.size q F zCe (zCd s) c u v;have M:=vl r;have t:Hid (∀w' d gv,Boxed w w' w.heap.size b rv m->BoolsAt w' (In w') d m.next.length zCe->BoolsAt w' (In w') gv m.next.length (zCd s)->Ca 146 #[agg #[b,rv,iX m.start],iX m.start,d,gv] w' λe B=>∃(f:ByteArray) (a:Int),e=returned (tuple #[string f,iX a])/\f.size<=300/\ -1<=a/\a<m.next.length/\Boxed w B w.heap.size b rv m/\Grew w' B):=by
  intro w' d gv c u v;have c:=t w' d gv c u v;rw[<-r] at c;exact c
 clear r;go_in;apply wp_cut;intro N I;go_wp2;apply I.out;generalize w.alloc (.cells #[b,rv,iX m.start] 127)=w1 at *;have O:=k.c0;have P:=k.c1;have R:=k.c2;have C:=vl k;go_wp2;go_region_held3 (λw'=>cX w' w.heap.size 0=some b/\cX w' w.heap.size 1=some rv/\cX w' w.heap.size 2=some (iX m.start)) (first|exact⟨x,y,A⟩|go_keep) (first|(go_at_call 144;go_must ((refine (H _ (by first|exact g|exact C.drew)).mono ?_;rintro e S ⟨T,rfl,D,j,J⟩;have x:=j.c0;have y:=j.c1;have A:=j.c2)))|(go_at_call 148;go_must ((refine (G _ (by first|exact j|exact C.drew)).mono ?_;rintro e U ⟨V,rfl,E,g,K⟩;have x:=g.c0;have y:=g.c1;have A:=g.c2)))|(go_at_call 146;go_must ((refine (t _ _ _ (by first|exact g|exact j) (by first|exact D|exact D.grown K) (by first|exact E|exact E.grown J)).mono ?_;rintro e W ⟨f,a,rfl,L,X,Y,l,-⟩;have x:=l.c0;have y:=l.c1;have A:=l.c2))))
 all_goals
  go_wp2;go_ret;exact⟨_,rfl,L,l.keep⟩
theorem OwnF.more {w:World}{H g cap n:Nat}{f:Nat->Bool}{x:Bool}(a:w.ownsRow H 4 1 (slice (qX g) (n+1) cap) (n+1) ((List.range n).map (λi=>bool (f i))++[bool x])):OwnF w H (slice (qX g) (n+1) cap) (n+1) (λi=>if i=n then x else f i):=by
 refine OwnF.snoc ?_ (if_pos rfl);have e:(List.range n).map (λi=>Value.bool (if i=n then x else f i))=(List.range n).map (λi=>Value.bool (f i)):=by
  apply List.map_congr_left;intro i b;have:=List.mem_range.1 b;rw[if_neg (by omega)]
 rw[e];exact a
theorem Boxed.below {w w' w2:World}{b:Nat}{d rv:Value}{m:Sm}(c:Boxed w w' b d rv m)(f:w.heap.size<=b)(a:Below (b+1) w' w2):Boxed w w2 b d rv m:=by
 have e:=a.block b (Nat.lt_succ_self b);exact⟨(gW e).trans c.c0,(gW e).trans c.c1,(gW e).trans c.c2,c.keep.trans ⟨a.os,a.output,a.size,λk g _=>a.block k (by omega)⟩,lZ c.lt a.size⟩
theorem zFD (w:World)(a rv k:Value)(m:Sm)(N:TblAt w a rv m)(l:m.Tbl)(o:Nat->Bool)(A:BoolsAt w (In w) k m.next.length o):
  Calls prog 145 #[agg #[a,rv,iX m.start],k] w λe w'=>∃u f,e=returned u/\OwnF w' w.heap.size u m.next.length f/\Grew w w':=by
 have ⟨B,C,D,E,F⟩:=info_parts vL;have O:=Boxed.made w a rv m;have ⟨aj,ak,al,P,R,_,_,S⟩:=id A;have T:Hid (∀w' s,Boxed w w' w.heap.size a rv m->s<m.next.length->Ca 180 #[agg #[a,rv,iX m.start],iX s,k] w' λe w2=>∃x:Bool,e=returned (bool x)/\Boxed w w2 w.heap.size a rv m/\Grew w' w2):=by
  intro w' s p G;refine(zE2 w' a rv k m (N.grown p.keep) l s G o (A.grown p.keep)).mono ?_;rintro e w2 ⟨x,rfl,H⟩;exact⟨x,rfl,p.grown H,H⟩
 have U:=vl S;have am:=l.most;have an:=l.one;subst R;generalize m.next.length=n at *
 go_in;apply wp_cut;intro ap V;go_wp2;apply V.out;generalize w.alloc (.cells #[a,rv,iX m.start] 127)=w1 at *;have W:=vl O;go_wp2;go_loopg [5,10] n (λq X i wr=>∃(s:Nat) (f:Nat->Bool),q=n-s/\s<=n/\i=iX (s:Int)/\OwnF wr (w.heap.size+1) X s f/\Boxed w wr w.heap.size a rv m)
 case atStart=>exact⟨0,λ_=>false,rfl,lX,rfl,ownsRow_nil _ _ _ _,W⟩
 case round=>
  obtain⟨s,f,Y,G,rfl,I,c⟩:=hrel;have b:Hid (gk=n-s/\OwnF wr (w.heap.size+1) u5 s f/\Boxed w wr w.heap.size a rv m):=⟨Y,I,c⟩
  have ⟨ao,cap,aa⟩:=I.form;subst aa;by_cases J:s<n
  ·have ab:(s:Int)<(n:Int):=by omega
   have K:=zA (U s J) P c.keep;have aq:=c.c0;have ar:=c.c1;have au:=c.c2;have ac:=c.lt;cases L:o s with
   |false=>
    rw[L] at K;have d:=vl b.2.1;go_wp2_with (at_builtin;refine wpList_append_lies _ rfl _ _ 28 rfl (w.heap.size+1) 4 B fX 1 1 underlying28 C D E F rfl (by decide) _ _ _ rfl (d.alloc _) ⟨wr.heap.size,0,none⟩ 1 1 [fX] rfl rfl (cell_one_new _ _ _) (by intro u g;simp at g;subst g;rfl) (by decide) (by unfold maxLen;omega) (by omega) (by simp;omega) _ rfl ?_;intro r t w2 v y ad ae;have z:=xU d y ac)
    have j:Hid (OwnF w2 (w.heap.size+1) (slice (qX r) (s+1) t) (s+1) (λi=>if i=s then false else f i)/\Boxed w w2 w.heap.size a rv m):=⟨OwnF.more v,b.2.2.below lQ z⟩
    go_wp2;go_roundg (n-(s+1))
    case measure=>rw[b.out.1];omega
    case rel=>exact⟨s+1,_,rfl,by omega,by go_num,j.1,j.2⟩
   |true=>
    rw[L] at K;go_wp2_with (first|(go_at_call 180;refine(T _ s b.2.2 J).mono ?_;rintro e af ⟨x,rfl,M,ag⟩;have d:=vl <| zL b.2.1 ag;have ah:=M.lt)|(at_builtin;refine wpList_append_lies _ rfl _ _ 28 rfl (w.heap.size+1) 4 B fX 1 1 underlying28 C D E F rfl (by decide) _ _ _ rfl (d.alloc _) ⟨af.heap.size,0,none⟩ 1 1 [bool x] rfl rfl (cell_one_new _ _ _) (by intro u g;simp at g;subst g;rfl) (by decide) (by unfold maxLen;omega) (by omega) (by simp;omega) _ rfl ?_;intro r t w2 v y ad ae;have z:=xU d y ah))
    have j:Hid (OwnF w2 (w.heap.size+1) (slice (qX r) (s+1) t) (s+1) (λi=>if i=s then x else f i)/\Boxed w w2 w.heap.size a rv m):=⟨OwnF.more v,M.below lQ z⟩
    go_wp2;go_roundg (n-(s+1))
    case measure=>rw[b.out.1];omega
    case rel=>exact⟨s+1,_,rfl,by omega,by go_num,j.1,j.2⟩
  ·have ai:s=n:=by omega
   have ab:(n:Int)<=(s:Int):=by omega
   subst ai;go_wp2;go_ret;exact⟨_,_,rfl,Row.mono b.2.1 (Nat.le_succ _),b.2.2.keep⟩
theorem zDz {b:Func}{t u v x:Tmp}(c:b.results=#[.tmp t,.tmp u,.tmp v,.tmp x])(a:Array Value)(P:Program)(w:World):
  (results b a).run P w=.ok (tuple #[a.getD t undef,a.getD u undef,a.getD v undef,a.getD x undef]) w:=by
 simp[results,c]
structure Ra (w w':World)(nv rv ev ov kv:Value)(m:Sm)(n:Nat)(fe fo fk:Nat->Bool):Prop where
 box:Boxed w w' w.heap.size nv rv m
 ends:BoolsAt w' (In w') ev n fe
 open_:BoolsAt w' (In w') ov n fo
 rounds:BoolsAt w' (In w') kv n fk
theorem Ra.grown {w w' w2:World}{c rv d e f:Value}{m:Sm}{n:Nat}{g j k:Nat->Bool}(a:Ra w w' c rv d e f m n g j k)(b:Grew w' w2):Ra w w2 c rv d e f m n g j k:=⟨a.box.grown b,a.ends.grown b,a.open_.grown b,a.rounds.grown b⟩
theorem Ra.drew {w w':World}{b rv c d e:Value}{m:Sm}{n:Nat}{f g j:Nat->Bool}(a:Ra w w' b rv c d e m n f g j):Ra w w'.drew b rv c d e m n f g j:=⟨a.box.drew,a.ends,a.open_,a.rounds⟩
theorem zD4 (w:World)(b rv:Value)(m:Sm)(o:TblAt w b rv m)(g:m.Tbl)(ac:Nat)(ar:m.start=(ac:Int))(E:ac<m.next.length):
  Calls prog 105 #[agg #[b,rv,iX m.start]] w λe w'=>∃a x y r:ByteArray,e=returned (tuple #[string a,string x,string y,string r])/\(a.size<=300/\x.size<=300/\y.size<=300/\r.size<=300)/\Grew w w':=by
 have F:=Boxed.made w b rv m;have bd:=g.most;have au:=g.one;have aQ:Hid (∀w',Boxed w w' w.heap.size b rv m->_):=λw' j=>Boxed.tokens (w':=w') o g w.heap.size j;have aR:Hid (∀w',Boxed w w' w.heap.size b rv m->_):=λw' j=>Boxed.living (w':=w') o g w.heap.size j;have aS:Hid (∀(w':World) O P R S,BoolsAt w' (In w') O m.next.length R->BoolsAt w' (In w') P m.next.length S->Ca 143 #[O,P] w' λe w2=>∃u,e=returned u/\BoolsAt w2 (In w2) u m.next.length (vC R S)/\Grew w' w2):=by
  intro w' O P R S au ad;refine(zCS w' O P m.next.length R S au ad g.most).mono ?_;rintro e w2 ⟨u,rfl,ae,T⟩;exact⟨u,rfl,ae.at g.one,T⟩
 have aT:Hid (∀w' d k,Boxed w w' w.heap.size b rv m->BoolsAt w' (In w') d m.next.length k->Ca 145 #[agg #[b,rv,iX m.start],d] w' λe w2=>∃u f,e=returned u/\BoolsAt w2 (In w2) u m.next.length f/\Boxed w w2 w.heap.size b rv m/\Grew w' w2):=by
  intro w' d k j ad;refine(zFD w' b rv d m (o.grown j.keep) g k ad).mono ?_;rintro e w2 ⟨u,f,rfl,ae,T⟩;exact⟨u,f,rfl,ae.at g.one,j.grown T,T⟩
 have af:Hid (∀w' s d gv k ag,s<m.next.length->Boxed w w' w.heap.size b rv m->BoolsAt w' (In w') d m.next.length k->BoolsAt w' (In w') gv m.next.length ag->_):=λw' s d gv k ag av j aU aV=>Boxed.way (w':=w') (gv:=gv) o g w.heap.size s av k ag j aU aV;have aW:Hid (∀w' s,Boxed w w' w.heap.size b rv m->Ca 147 #[agg #[b,rv,iX m.start],iX ((s:Nat):Int)] w' λe w2=>∃r:ByteArray,e=returned (string r)/\r.size<=300/\Grew w' w2):=λw' s j=>zDr w' b rv m (o.grown j.keep) g ac ar E s;have aX:Hid (∀w' s,Boxed w w' w.heap.size b rv m->_):=λw' s j=>Boxed.only (w':=w') o g s w.heap.size j;clear o g ar E;generalize aw:m.next.length=n at *
 have bf:Hid (m.next.length=n):=aw;clear aw;go_enter func105,ntmps105
 refine wp_seq_k ?_;intro aY hK0;have ax:Hid (∀a w,_->aY a w):=hK0;clear hK0;go_wp2_with fail;apply ax.out;clear ax;generalize w.alloc (.cells #[b,rv,iX m.start] 127)=w1 at *;have ah:=F.c0;have ai:=F.c1;have aj:=F.c2;have aZ:Hid (Boxed w w1 w.heap.size b rv m):=F;clear F;go_wp2_with (first|(go_at_call 140;refine(aQ _ aZ).mono ?_;rintro e w2 ⟨bg,rfl,U,G,-⟩;obtain⟨t,v,H,a0,rfl,-⟩:=id U;have A:=G.c0;have B:=G.c1;have C:=G.c2)|(go_at_call 144;refine(aR _ G).mono ?_;rintro e bh ⟨lv,rfl,ay,az,ak⟩)|(go_at_call 143;refine(aS _ _ _ _ _ ay (U.grown ak)).mono ?_;rintro e bi ⟨d,rfl,al,am⟩;have I:=az.grown am;have aA:=I.c0;have aB:=I.c1;have aC:=I.c2)|(go_at_call 145;refine(aT _ _ _ I al).mono ?_;rintro e a1 ⟨J,K,rfl,aD,aE,an⟩))
 have a2:Hid (Ra w a1 b rv (slice (some ⟨t,v,none⟩) n H) d J m n (tokF m) (vC zCe (tokF m)) K):=⟨aE,((U.grown ak).grown am).grown an,al.grown an,aD⟩
 clear A B C aA aB aC ah ai aj G az I aE ak am an ay al aD U a0;generalize vC zCe (tokF m)=k at *;generalize tokF m=D at *;go_loopg [29] n (λq i wr=>∃s:Nat,q=n-s/\s<=n/\i=iX (s:Int)/\Ra w wr b rv (slice (some ⟨t,v,none⟩) n H) d J m n D k K)
 case atStart=>exact⟨0,rfl,lX,rfl,a2⟩
 case round=>
  obtain⟨s,ao,av,rfl,p⟩:=hrel;have l:Hid (gk=n-s/\Ra w wr b rv (slice (some ⟨t,v,none⟩) n H) d J m n D k K):=⟨ao,p⟩
  by_cases E:s<n
  ·have a3:(s:Int)<(n:Int):=by omega
   have ap:cX wr t (v+s)=some (bool (D s)):=by
    have ⟨bj,bk,bl,_,a4,_,_,a5⟩:=p.ends;injection a4 with L _ _;injection L with L;injection L with L a6;rw[L,a6];exact a5 s E
   have ah:=p.box.c0;have ai:=p.box.c1;have aj:=p.box.c2;clear ao p;cases V:D s with
   |false=>
    rw[V] at ap;clear V;go_wp2_with fail;go_roundg (n-(s+1))
    case measure=>rw[l.out.1];omega
    case rel=>exact⟨s+1,rfl,by omega,by go_num,l.2⟩
   |true=>
    rw[V] at ap;clear V;go_wp2_with (first|(go_at_call 146;refine(af _ s _ _ _ _ E l.2.box l.2.open_ l.2.rounds).mono ?_;rintro e bm ⟨x,at_,rfl,aF,a7,a8,M,aG⟩;have A:=M.c0;have B:=M.c1;have C:=M.c2;have aq:=l.2.grown aG)|(go_at_call 147;refine(aW _ s M).mono ?_;rintro e ba ⟨a,rfl,W,aH⟩))
    ·go_roundg (n-(s+1))
     case measure=>rw[l.out.1];omega
     case rel=>exact⟨s+1,rfl,by omega,by go_num,aq⟩
    ·have bn:0<=at_:=by omega
     obtain⟨c,rfl⟩:∃c:Nat,at_=(c:Int):=⟨at_.toNat,by omega⟩
     have aI:c<n:=by omega
     have N:=aq.grown aH;have aJ:Hid (Ra w ba b rv (slice (some ⟨t,v,none⟩) n H) d J m n D k K):=N;have aA:=N.box.c0;have aB:=N.box.c1;have aC:=N.box.c2;have aK:Hid (a.size<=300/\x.size<=300):=⟨W,aF⟩
     clear A B C aG aH M aq N ap ah ai aj W aF a7 a8;go_region_held3 (λw'=>cX w' w.heap.size 0=some b/\cX w' w.heap.size 1=some rv/\cX w' w.heap.size 2=some (iX m.start)) (first|exact⟨A,B,C⟩|go_keep) (first|(go_at_call 148;refine(aX _ c aJ.drew.box).mono ?_;rintro e bo ⟨bp,rfl,aL,X,aM⟩;have Y:=aJ.drew.grown aM;have A:=X.c0;have B:=X.c1;have C:=X.c2)|(go_at_call 146;refine(af _ c _ _ _ _ aI Y.box Y.open_ aL).mono ?_;rintro e bb ⟨y,bq,rfl,aN,-,-,aa,aO⟩;have A:=aa.c0;have B:=aa.c1;have C:=aa.c2))
     all_goals
      have aP:=Y.grown aO;have ab:Hid (Ra w bb b rv (slice (some ⟨t,v,none⟩) n H) d J m n D k K/\y.size<=300):=⟨aP,aN⟩
      clear X aM aa aO aL Y aP aN;go_wp2_with (go_at_call 146;refine(af _ c _ _ _ _ aI ab.1.box ab.1.open_ ab.1.ends).mono ?_;rintro e br ⟨r,bs,rfl,W,-,-,bc,-⟩)
      (try simp only[Exit.inBlock,Exit.then])
      refine gJ (zDz rfl _ _ _) rfl ?_;exact⟨_,_,_,_,rfl,⟨aK.1,aK.2,ab.2,W⟩,bc.keep⟩
  ·have a3:(n:Int)<=(s:Int):=by omega
   clear ao p;go_wp2_with fail
   (try simp only[Exit.inBlock,Exit.then])
   refine gJ (zDz rfl _ _ _) rfl ?_;exact⟨_,_,_,_,rfl,⟨lX,lX,lX,lX⟩,l.2.box.keep⟩
theorem FrontsAt.open_ {w:World}{H a:Nat}{v:Value}{m:Sm}(f:FrontsAt w H v a m)(j:0<a)(k:1<=m.next.length):∃g c,v=slice (qX g) a c/\g<w.heap.size/\∀i,i<a->∃u,w.cell? ⟨g,i,none⟩=some u/\BoolsAt w (In w) u m.next.length (xY m i):=by
 obtain⟨rv,b,l⟩:=f;have b:Row w H 28 v a rv:=b;have ⟨g,cap,o,r,p,s,t,q,x⟩:=b.get j;exact⟨g,cap,o,p,λi e=>⟨rv i,q i e,(l i e).at k⟩⟩
theorem zKx (w:World)(o rv L:Value)(m:Sm)(F:TblAt w o rv m)(y:m.Tbl)(M:Nat)(W:m.start=(M:Int))(X:M<m.next.length)(ai l:Nat)(Y:FrontsAt w ai L l m)(aO:l<=m.next.length):
  Calls prog 106 #[agg #[o,rv,iX m.start],L] w λe w'=>∃a x:ByteArray,e=returned (tuple #[string a,string x])/\(a.size<=300/\x.size<=600)/\Grew w w':=by
 have B:=Boxed.made w o rv m;have aP:=y.most;have aj:=y.one;have ak:Hid (∀w' v f,Boxed w w' w.heap.size o rv m->BoolsAt w' (In w') v m.next.length f->Ca 141 #[agg #[o,rv,iX m.start],v] w' λe w2=>∃u,e=returned u/\BoolsAt w2 (In w2) u m.next.length (qV m f)/\Boxed w w2 w.heap.size o rv m/\Grew w' w2):=by
  intro w' v f p N;refine(zCV w' o rv v m (F.grown p.keep) y f N).mono ?_;rintro e w2 ⟨u,rfl,O,A⟩;exact⟨u,rfl,O.at y.one,p.grown A,A⟩
 have al:Hid (∀w' v f,BoolsAt w' (In w') v m.next.length f->_):=λw' v f p=>zEN w' v m.next.length f p y.most
 have am:Hid (∀w' v f to,Boxed w w' w.heap.size o rv m->BoolsAt w' (In w') v m.next.length f->Ca 149 #[agg #[o,rv,iX m.start],v,iX to] w' λe w2=>∃s b:Nat,s<m.next.length/\b<256/\e=returned (tuple #[iX s,iX b])/\Boxed w w2 w.heap.size o rv m/\Grew w' w2):=by
  intro w' v f to p N;refine(zGH w' o rv v m (F.grown p.keep) y f N to).mono ?_;rintro e w2 ⟨s,b,H,E,rfl,A⟩;exact⟨s,b,H,E,rfl,p.grown A,A⟩
 have an:Hid (∀w' b,b<256->Boxed w w' w.heap.size o rv m->Ca 150 #[iX ((b:Nat):Int)] w' λe w2=>e=returned (string ⟨#[UInt8.ofNat b]⟩)/\Boxed w w2 w.heap.size o rv m/\Grew w' w2):=by
  intro w' b E p;refine(zDc w' b E).mono ?_;rintro e w2 ⟨rfl,A⟩;exact⟨rfl,p.grown A,A⟩
 have ap:Hid (∀w' s,Boxed w w' w.heap.size o rv m->Ca 147 #[agg #[o,rv,iX m.start],iX ((s:Nat):Int)] w' λe w2=>∃C:ByteArray,e=returned (string C)/\C.size<=300/\Grew w' w2):=λw' s p=>zDr w' o rv m (F.grown p.keep) y M W X s;clear F y W X;have aQ:(l:Int)<=200:=by omega
 by_cases aa:0<l
 ·obtain⟨g,c,rfl,I,ab⟩:=Y.open_ aa aj
  have aq:=vl ab;have aR:¬(l:Int)=0:=by omega
  have ⟨ac,ar,au⟩:=ab (l-1) (by omega);have aS:IntKind.i64.wrap ((l:Int)-1)=((l-1:Nat):Int):=by rw[zA8 _ (by omega) (by omega)];omega
  have aT:((l-1:Nat):Int)<(l:Int):=by omega
  go_in;apply wp_cut;intro aU av;go_wp2;apply av.out;generalize w.alloc (.cells #[o,rv,iX m.start] 127)=w1 at *;have ad:=B.c0;have ae:=B.c1;have af:=B.c2;have aw:=zA ar I B.keep;have P:Hid (Boxed w w1 w.heap.size o rv m/\BoolsAt w1 (In w1) ac m.next.length (xY m (l-1))):=⟨B,au.grown B.keep⟩
  go_wp2;go_region_held3 (λw'=>cX w' w.heap.size 0=some o/\cX w' w.heap.size 1=some rv/\cX w' w.heap.size 2=some (iX m.start)/\cX w' g (l-1)=some ac) (first|exact⟨R,S,T,U⟩|go_keep) (first|(go_at_call 141;refine(ak _ _ _ P.1.drew P.2).mono ?_;rintro e w2 ⟨u,rfl,O,J,ax⟩;have R:=J.c0;have S:=J.c1;have T:=J.c2;have U:=zA (w:=w1.drew) aw (lZ I P.1.keep.size) ax));have ag:Hid (Boxed w w2 w.heap.size o rv m/\BoolsAt w2 (In w2) u m.next.length (qV m (xY m (l-1)))):=⟨J,O⟩
  go_wp2_with (go_at_call 142;refine(al _ _ _ ag.2).mono ?_;rintro e aV ⟨rfl,rfl⟩)
  go_loopg [7,8,9] l (λq at_ ay i wr=>∃(j:Nat) (x:Int) (C:ByteArray),q=j/\j<=l/\i=iX ((j:Int)-1)/\at_=iX x/\(j<l->∃s:Nat,x=(s:Int))/\ay=string C/\C.size+j<=l/\Boxed w wr w.heap.size o rv m)
  case atStart=>exact⟨l,_,_,rfl,lQ,(by congr 1;omega),rfl,λp=>absurd p (Nat.lt_irrefl _),rfl,by show 0+l<=l;omega,ag.1⟩
  case round=>
   obtain⟨j,x,C,az,aW,rfl,rfl,ah,rfl,aX,t⟩:=hrel;have K:Hid (gk=j/\(j<l->∃s:Nat,x=(s:Int))/\Boxed w wr w.heap.size o rv m):=⟨az,ah,t⟩
   cases j with
   |zero=>
    have ⟨s,H⟩:=ah aa;subst H;have ad:=t.c0;have ae:=t.c1;have af:=t.c2;go_wp2_with (go_at_call 147;refine(ap _ s K.2.2).mono ?_;rintro e aA ⟨a,rfl,aB,V⟩;have D:=K.2.2.grown V)
    go_ret2
    exact⟨_,_,rfl,⟨aB,by rw[ByteArray.size_append];omega⟩,D.keep⟩
   |succ k=>
    have aC:k<l:=by omega
    have aY:(k:Int)<(l:Int):=by omega
    have aZ:(0:Int)<=(k:Int):=by omega
    have ⟨aD,aE,aF⟩:=aq k aC;have aG:=zA aE I t.keep;have aH:=vl <| aF.grown t.keep;have ad:=t.c0;have ae:=t.c1;have af:=t.c2;have aI:=lZ I t.keep.size;have aJ:(((k+1:Nat):Int)-1)=(k:Int):=by omega
    rw[aJ];go_wp2;go_region_held3 (λw'=>cX w' w.heap.size 0=some o/\cX w' w.heap.size 1=some rv/\cX w' w.heap.size 2=some (iX m.start)/\cX w' g k=some aD) (first|exact⟨R,S,T,U⟩|go_keep) (first|(go_at_call 149;refine(am _ _ _ _ K.2.2.drew aH).mono ?_;rintro e aA ⟨s,b,H,E,rfl,D,V⟩;have R:=D.c0;have S:=D.c1;have T:=D.c2;have U:=zA (w:=wr.drew) aG aI V))
    all_goals
     have aK:=vl D;go_wp2_with (go_at_call 150;refine(an _ b E aK).mono ?_;rintro e a0 ⟨rfl,aL,-⟩;have a1:(⟨#[UInt8.ofNat b]⟩:ByteArray).size=1:=rfl)
     go_roundg k
     case measure=>rw[K.out.1];omega
     case rel=>exact⟨k,_,_,rfl,by omega,rfl,rfl,λ_=>⟨s,rfl⟩,rfl,by rw[ByteArray.size_append];omega,aL⟩
 ·have aM:l=0:=by omega
  subst aM;obtain⟨ao,cap,rfl⟩:∃ao cap,L=slice ao 0 cap:=by
   obtain⟨r,aN,_⟩:=Y;exact zF aN
  go_in;go_wp2;go_ret2
  exact⟨_,_,rfl,⟨lX,lX⟩,B.keep⟩
structure Zm (w:World)(r:Nat):Prop where
 lt:r<w.heap.size
 block:w.heap[r]? =some (.cells #[int i64 0,int i64 0,string ⟨#[]⟩,string ⟨#[]⟩,string ⟨#[]⟩,string ⟨#[]⟩,string ⟨#[]⟩] 139)
theorem Zm.grown {w w':World}{r:Nat}(a:Zm w r)(b:Grew w w'):Zm w' r:=⟨lZ a.lt b.size,(b.block r a.lt (kJ a.lt)).trans a.block⟩
theorem Zm.cells {w:World}{r:Nat}(a:Zm w r):(w.cell? ⟨r,0,none⟩=some zX/\w.cell? ⟨r,1,none⟩=some zX/\w.cell? ⟨r,2,none⟩=some (string ⟨#[]⟩)/\w.cell? ⟨r,3,none⟩=some (string ⟨#[]⟩)/\w.cell? ⟨r,4,none⟩=some (string ⟨#[]⟩)/\w.cell? ⟨r,5,none⟩=some (string ⟨#[]⟩)/\w.cell? ⟨r,6,none⟩=some (string ⟨#[]⟩))/\(w.frozen? ⟨r,0,none⟩=false/\w.frozen? ⟨r,1,none⟩=false/\w.frozen? ⟨r,2,none⟩=false/\w.frozen? ⟨r,3,none⟩=false/\w.frozen? ⟨r,4,none⟩=false/\w.frozen? ⟨r,5,none⟩=false/\w.frozen? ⟨r,6,none⟩=false):=by
 refine⟨⟨?_,?_,?_,?_,?_,?_,?_⟩,?_,?_,?_,?_,?_,?_,?_⟩
 all_goals first|(unfold cell?;rw[a.block];rfl)|(unfold frozen?;rw[a.block];rfl)
theorem zFo (w:World)(L rv:Value)(m:Sm)(q:TblAt w L rv m)(s:m.Tbl)(u:Nat)(D:m.start=(u:Int))(E:u<m.next.length):
  Calls prog 67 #[agg #[L,rv,iX m.start]] w λe w'=>∃a b x y A:ByteArray,e=returned (agg #[iX m.next.length,iX (yO m),string a,string b,string x,string y,string A])/\Grew w w':=by
 have ap:=s.most;obtain⟨g,j,rfl,_⟩:=id q.next
 obtain⟨w1,M,l⟩:∃w1,w1=(w.alloc (.cells #[slice g m.next.length j,rv,iX m.start] 127)).alloc (.cells #[zX,zX,string ⟨#[]⟩,string ⟨#[]⟩,string ⟨#[]⟩,string ⟨#[]⟩,string ⟨#[]⟩] 139)/\Hid (Boxed w w1 w.heap.size (slice g m.next.length j) rv m/\Zm w1 (w.heap.size+1)):=by
  have S:=Boxed.made w (slice g m.next.length j) rv m;refine⟨_,rfl,S.grown (kZ _ _ lQ),⟨by simp,?_⟩⟩;have o:=gY (w.alloc (.cells #[slice g m.next.length j,rv,iX m.start] 127)) (.cells #[zX,zX,string ⟨#[]⟩,string ⟨#[]⟩,string ⟨#[]⟩,string ⟨#[]⟩,string ⟨#[]⟩] 139);simpa using o
 have T:Hid (∀w',Boxed w w' w.heap.size (slice g m.next.length j) rv m->_):=λw' o=>zF7 w' _ rv m (q.grown o.keep) s;have U:Hid (∀w',Boxed w w' w.heap.size (slice g m.next.length j) rv m->_):=λw' o=>zD4 w' _ rv m (q.grown o.keep) s u D E;have V:Hid (∀w' F H f,Boxed w w' w.heap.size (slice g m.next.length j) rv m->FrontsAt w' H F f m->f<=m.next.length->_):=λw' F H f o B t=>zKx w' _ rv F m (q.grown o.keep) s u D E H f B t;clear q s D E;go_in;apply wp_cut;intro aq W;go_wp2;apply W.out;rw[<-M];clear M;have N:=l.1.c0;have O:=l.1.c1;have P:=l.1.c2;apply wp_cut;intro ar R;go_wp2_with (go_at_call 104;refine(T _ l.1).mono ?_;rintro e w2 ⟨C,X⟩;rcases X with⟨t,rfl⟩|⟨f,v,t,Y,rfl,B⟩)
 ·apply R.out
  have k:=l.1.grown C;have I:=l.2.grown C;have N:=k.c0;have O:=k.c1;have P:=k.c2;have c:Hid (Boxed w w2 w.heap.size (slice g m.next.length j) rv m/\Zm w2 (w.heap.size+1)/\yO m=-1):=⟨k,I,t⟩
  go_wp2_with (go_at_call 105;refine(U _ c.1).mono ?_;rintro e aa ⟨a,x,y,A,rfl,-,p⟩;have ⟨⟨c0,c1,c2,ab,ac,ad,ae⟩,af,ag,ah,ai,aj,ak,al⟩:=(c.2.1.grown p).cells;have am:=(c.1.grown p).c0;have J:=vl <| (c.1.grown p).keep)
  refine gJ (v:=agg #[iX m.next.length,iX (-1),string a,string ⟨#[]⟩,string x,string y,string A]) (by simp[results,results67,go_sem, *]) rfl ⟨a,⟨#[]⟩,x,y,A,by rw[c.out.2.2],?_⟩;refine J.trans ?_
  iterate 6 refine Keep.trans ?_ (zQ _ _ _ _ (by omega))
  exact zQ _ _ _ _ (by omega)
 ·apply R.out
  have k:=l.1.grown C;have I:=l.2.grown C;have N:=k.c0;have O:=k.c1;have P:=k.c2;obtain⟨K,cv,rfl⟩:∃K cv,v=slice K f cv:=by
   obtain⟨r,ao,_⟩:=B;exact zF ao
  have c:Hid (Boxed w w2 w.heap.size (slice g m.next.length j) rv m/\Zm w2 (w.heap.size+1)/\yO m=(f:Int)/\FrontsAt w2 w1.heap.size (slice K f cv) f m):=⟨k,I,t,B⟩
  go_wp2_with (go_at_call 106;refine(V _ _ _ f c.1 c.2.2.2 Y).mono ?_;rintro e aa ⟨a,x,rfl,-,p⟩;have ⟨⟨c0,c1,c2,ab,ac,ad,ae⟩,af,ag,ah,ai,aj,ak,al⟩:=(c.2.1.grown p).cells;have am:=(c.1.grown p).c0;have J:=vl <| (c.1.grown p).keep)
  refine gJ (v:=agg #[iX m.next.length,iX (f:Int),string a,string x,string ⟨#[]⟩,string ⟨#[]⟩,string ⟨#[]⟩]) (by simp[results,results67,go_sem, *]) rfl ⟨a,x,⟨#[]⟩,⟨#[]⟩,⟨#[]⟩,by rw[c.out.2.2.1],?_⟩;refine J.trans ?_
  iterate 6 refine Keep.trans ?_ (zQ _ _ _ _ (by omega))
  exact zQ _ _ _ _ (by omega)
section
def OwnB (w:World)(H:Nat)(v:Value)(l:List Bool):Prop:=w.ownsRow H 4 1 v l.length (l.map λx=>bool x)
theorem OwnB.form {w:World}{H:Nat}{v:Value}{l:List Bool}(b:OwnB w H v l):∃ao cap,v=slice ao l.length cap:=zF b
theorem OwnB.snoc {w:World}{H g cap:Nat}{l:List Bool}{x:Bool}(b:w.ownsRow H 4 1 (slice (qX g) (l.length+1) cap) (l.length+1) ((l.map λx=>bool x)++[bool x])):OwnB w H (slice (qX g) (l.length+1) cap) (l++[x]):=by
 unfold OwnB;rw[kX,List.map_append];exact b
theorem zU {w1 w2:World}{o:Obj}{H e b m:Nat}{u v:Value}{c:List Value}(d:(w1.alloc o).grownBy w2 v.ownBlock)(f:w1.ownsRow H e b u m c)(j:∀g,u.ownBlock=some g->some g≠v.ownBlock):w2.ownsRow H e b u m c:=
 zE f λk _ l p=>(d.block k (by simp;omega) (j k p)).trans (lG _ _ _ l)
theorem xB {w:World}{H e b m p i:Nat}{u x:Value}{c:List Value}(d:w.ownsRow H e b u m c)(f:p<H):(w.setCell ⟨p,i,none⟩ x).ownsRow H e b u m c:=
 zE d λk g _ _=>lJ _ _ _ _ (by show k≠p;omega)
structure Rp (w wr:World)(mv sv ev:Value)(k:Nat)(xs:List Value)(sl el:List Bool)(a:Int):Prop where
 res:wr.heap[w.heap.size]? =some (.cells #[slice none 0 0,slice none 0 0,slice none 0 0,int i64 0,bool false,int i64 0] 30)
 blk:wr.heap[w.heap.size+1]? =some (.cells #[mv,sv,ev,int i64 a,bool false,int i64 0] 30)
 modes:wr.ownsRow (w.heap.size+2) 139 7 mv k xs
 shad:OwnB wr (w.heap.size+2) sv sl
 emp:OwnB wr (w.heap.size+2) ev el
 ne:∀g,sv.ownBlock=some g->some g≠ev.ownBlock
 keep:Grew w wr
 lt:w.heap.size+2<=wr.heap.size
section
variable {w wr w2:World} {mv sv ev:Value} {k:Nat} {xs:List Value} {sl el:List Bool} {a:Int}
theorem Rp.grown (b:Rp w wr mv sv ev k xs sl el a)(c:Grew wr w2):Rp w w2 mv sv ev k xs sl el a:=by
 have:=b.lt;exact⟨(c.block _ (by omega) (by omega)).trans b.res,(c.block _ (by omega) (by omega)).trans b.blk,zL b.modes c,zL b.shad c,zL b.emp c,b.ne,b.keep.trans (c.lower (by omega) (by omega)),lY b.lt c.size⟩
theorem Rp.drew (b:Rp w wr mv sv ev k xs sl el a):Rp w wr.drew mv sv ev k xs sl el a:=b.grown (Keep.drew _)
theorem Rp.cells (b:Rp w wr mv sv ev k xs sl el a):(wr.cell? ⟨w.heap.size+1,0,none⟩=some mv/\wr.cell? ⟨w.heap.size+1,1,none⟩=some sv/\wr.cell? ⟨w.heap.size+1,2,none⟩=some ev/\wr.cell? ⟨w.heap.size+1,3,none⟩=some (iX a)/\wr.cell? ⟨w.heap.size+1,4,none⟩=some (bool false)/\wr.cell? ⟨w.heap.size+1,5,none⟩=some zX)/\(∀i,wr.frozen? ⟨w.heap.size+1,i,none⟩=false):=by
 refine⟨⟨?_,?_,?_,?_,?_,?_⟩,λi=>?_⟩
 all_goals first|(unfold cell?;rw[b.blk];rfl)|(unfold frozen?;rw[b.blk];simp[World.frozen?])
theorem Rp.modes_app {o:Obj}{g cap:Nat}{f:List Value}(b:Rp w wr mv sv ev k xs sl el a)(l:w2.ownsRow (w.heap.size+2) 139 7 (slice (qX g) (k+1) cap) (k+1) (xs++f))(c:(wr.alloc o).grownBy w2 mv.ownBlock):
  Rp w (w2.setCell ⟨w.heap.size+1,0,none⟩ (slice (qX g) (k+1) cap)) (slice (qX g) (k+1) cap) sv ev (k+1) (xs++f) sl el a:=by
 have m:=b.lt;have d:∀j,j<w.heap.size+2->w2.heap[j]? =wr.heap[j]? :=λj p=>(c.block j (by simp;omega) λe=>by have:=(b.modes.lt j e.symm).1;omega).trans (lG _ _ _ (by omega));have q:=(d (w.heap.size+1) (by omega)).trans b.blk;refine⟨(lJ _ _ _ _ (by show w.heap.size≠w.heap.size+1;omega)).trans ((d _ (by omega)).trans b.res),?_,xB l (by omega),xB (zU c b.shad λg c=>xZ b.shad b.modes (by decide) c) (by omega),xB (zU c b.emp λg c=>xZ b.emp b.modes (by decide) c) (by omega),b.ne,?_,?_⟩
 ·simp[setCell,lU,q]
 ·exact(b.keep.trans ⟨c.os,c.output,lY (by simp) c.size,λj p _=>d j (by omega)⟩).trans (zQ _ _ _ _ (by omega))
 ·rw[zD];exact lY m (lY (by simp) c.size)
theorem Rp.shad_app {o:Obj}{g cap:Nat}{x:Bool}(b:Rp w wr mv sv ev k xs sl el a)(l:w2.ownsRow (w.heap.size+2) 4 1 (slice (qX g) (sl.length+1) cap) (sl.length+1) ((sl.map λx=>bool x)++[bool x]))(c:(wr.alloc o).grownBy w2 sv.ownBlock)(m:sv.ownBlock=some g\/wr.heap.size<=g):
  Rp w (w2.setCell ⟨w.heap.size+1,1,none⟩ (slice (qX g) (sl.length+1) cap)) mv (slice (qX g) (sl.length+1) cap) ev k xs (sl++[x]) el a:=by
 have p:=b.lt;have d:∀j,j<w.heap.size+2->w2.heap[j]? =wr.heap[j]? :=λj q=>(c.block j (by simp;omega) λe=>by have:=(b.shad.lt j e.symm).1;omega).trans (lG _ _ _ (by omega));have r:=(d (w.heap.size+1) (by omega)).trans b.blk;refine⟨(lJ _ _ _ _ (by show w.heap.size≠w.heap.size+1;omega)).trans ((d _ (by omega)).trans b.res),?_,xB (zU c b.modes λg c=>xZ b.modes b.shad (by decide) c) (by omega),?_,xB (zU c b.emp λg c e=>b.ne g e.symm c.symm) (by omega),?_,?_,?_⟩
 ·simp[setCell,lU,r]
 ·exact xB (OwnB.snoc l) (by omega)
 ·intro s t e
  have u:g=s:=by simpa[Value.ownBlock] using t
  subst u;rcases m with f|f
  ·exact b.ne g f e
  ·have:=(b.emp.lt g e.symm).2
   omega
 ·exact(b.keep.trans ⟨c.os,c.output,lY (by simp) c.size,λj q _=>d j (by omega)⟩).trans (zQ _ _ _ _ (by omega))
 ·rw[zD];exact lY p (lY (by simp) c.size)
theorem Rp.emp_app {o:Obj}{g cap:Nat}{x:Bool}(b:Rp w wr mv sv ev k xs sl el a)(p:w2.ownsRow (w.heap.size+2) 4 1 (slice (qX g) (el.length+1) cap) (el.length+1) ((el.map λx=>bool x)++[bool x]))(c:(wr.alloc o).grownBy w2 ev.ownBlock)(q:ev.ownBlock=some g\/wr.heap.size<=g):
  Rp w (w2.setCell ⟨w.heap.size+1,2,none⟩ (slice (qX g) (el.length+1) cap)) mv sv (slice (qX g) (el.length+1) cap) k xs sl (el++[x]) a:=by
 have r:=b.lt;have d:∀j,j<w.heap.size+2->w2.heap[j]? =wr.heap[j]? :=λj s=>(c.block j (by simp;omega) λe=>by have:=(b.emp.lt j e.symm).1;omega).trans (lG _ _ _ (by omega));have t:=(d (w.heap.size+1) (by omega)).trans b.blk;refine⟨(lJ _ _ _ _ (by show w.heap.size≠w.heap.size+1;omega)).trans ((d _ (by omega)).trans b.res),?_,xB (zU c b.modes λg c=>xZ b.modes b.emp (by decide) c) (by omega),xB (zU c b.shad λg c=>b.ne g c) (by omega),?_,?_,?_,?_⟩
 ·simp[setCell,lU,t]
 ·exact xB (OwnB.snoc p) (by omega)
 ·intro f l e
  have u:f=g:=by simpa[Value.ownBlock] using e
  subst u;rcases q with m|m
  ·exact b.ne f l m.symm
  ·have:=(b.shad.lt f l).2
   omega
 ·exact(b.keep.trans ⟨c.os,c.output,lY (by simp) c.size,λj s _=>d j (by omega)⟩).trans (zQ _ _ _ _ (by omega))
 ·rw[zD];exact lY r (lY (by simp) c.size)
theorem Rp.ahead (b:Rp w wr mv sv ev k xs sl el a)(c:Int):Rp w (wr.setCell ⟨w.heap.size+1,3,none⟩ (iX c)) mv sv ev k xs sl el c:=by
 have d:=b.blk;have:=b.lt;exact⟨(lJ _ _ _ _ (by show w.heap.size≠w.heap.size+1;omega)).trans b.res,by simp[setCell,lU,d],xB b.modes (by omega),xB b.shad (by omega),xB b.emp (by omega),b.ne,b.keep.trans (zQ _ _ _ _ (by omega)),by rw[zD];omega⟩
end
end
def Sm.none:Sm:=⟨[],[],0,[]⟩
def zAH (m:Sm)(k:Nat):List Bool:=(List.range k).map λr=>!hasRuleB m ((r:Nat):Int)
def qU (ms:List Sm):Nat->List Bool
 |0=>[]
 |j+1=>qU ms j++zAH (ms.getD j ⟨[],[],0,[]⟩) (ms.getD j ⟨[],[],0,[]⟩).empty.length
def jP (ms:List Sm):Nat->List Bool
 |0=>[]
 |j+1=>jP ms j++(ms.getD j ⟨[],[],0,[]⟩).empty
def aheadTo (ms:List Sm):Nat->Int
 |0=>0
 |j+1=>qC (aheadTo ms j) (yO (ms.getD j ⟨[],[],0,[]⟩))
theorem zKn (ms:List Sm)(j:Nat):(qU ms j).length=zW ms j:=by
 induction j with
 |zero=>rfl
 |succ j a=>simp[qU,zW,a,zAH]
theorem zM2 (ms:List Sm)(j:Nat):(jP ms j).length=zW ms j:=by
 induction j with
 |zero=>rfl
 |succ j a=>simp[jP,zW,a]
theorem zKV (a b n:Int)(c:-1<=a/\a<=n)(d:-1<=b/\b<=n)(e:-1<=n):-1<=qC a b/\qC a b<=n:=by
 unfold qC;split
 ·omega
 ·split <;> omega
theorem zGq (ms:List Sm)(a:ModesOk ms)(j:Nat)(b:j<=ms.length):-1<=aheadTo ms j/\aheadTo ms j<=200:=by
 induction j with
 |zero=>exact⟨by show(-1:Int)<=0;omega,by show(0:Int)<=200;omega⟩
 |succ j c=>
  have e:=qN ms (j+1) ms.length b;have f:=a.states;have g:(ms.getD j ⟨[],[],0,[]⟩).next.length<=200:=by
   have:zI ms (j+1)=zI ms j+(ms.getD j ⟨[],[],0,[]⟩).next.length:=rfl
   omega
  have d:=zPy (ms.getD j ⟨[],[],0,[]⟩);exact zKV _ _ 200 (c (by omega)) ⟨d.1,by omega⟩ (by omega)
theorem ModesOk.tbl {ms:List Sm}(c:ModesOk ms)(j:Nat)(a:j<ms.length):(ms[j]).Tbl:=by
 have g:=qN ms (j+1) ms.length a;have k:=c.states;have e:ms.getD j ⟨[],[],0,[]⟩=ms[j]:=by rw[lW,lV a];rfl
 have l:zI ms (j+1)=zI ms j+ms[j].next.length:=by rw[<-e];rfl
 refine⟨c.states1 j a,by omega,(c.rules j a).1,λi d=>?_,λi b d f=>?_⟩
 ·exact(c.wide j a _ (zV _ i [] d)).1
 ·exact(c.wide j a _ (zV _ i [] d)).2 b f
end Go.Proofs.YtbjcfkdnjaiclaaGreat
