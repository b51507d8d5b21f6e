import Derived.Deep.DrawnRows
import Derived.Deep.LoopGhost
import Derived.Deep.RegionLaw
import Derived.Deep.RegionWith
import Derived.Laws.IdiomStrings
import Derived.Laws.MakeOwn
import Derived.Laws.OwnMore
import Derived.StillTactics
import Derived.Test.YtbjcfkdnjaiclaaGreatT0
/- Parts of the proof. -/
set_option linter.unusedVariables false
set_option linter.unusedSimpArgs false
set_option maxHeartbeats 4000000
set_option maxRecDepth 100000
namespace Go.Proofs.YtbjcfkdnjaiclaaGreat
open Go.RowKit Go.Proofs.Tryz Go.World
open Go.Value (int slice bool pointer string agg tuple)
open Go.IntKind (i64)
open Go.Ending (returned)
theorem Tb.Ok.withLive {t:Tb}(ok:t.Ok)(f:Nat->Bool):({t with live:=f}).Ok:=
 ⟨ok.ahead,ok.hold0,ok.hold,ok.count,ok.rows0,ok.rows,ok.nst,ok.nmode,ok.long,ok.start,ok.push,ok.kind,ok.next,ok.ends,ok.longB⟩
theorem Tb.OkN.withLive {t:Tb}(ok:t.OkN)(f:Nat->Bool):({t with live:=f}).OkN:=⟨ok.count,ok.nst,ok.next,ok.ends⟩
def Tb.spreadTo (t:Tb):Nat->Tb×Bool
 |0=>(t,false)
 |s+1=>if !(t.spreadTo s).1.live s&&(t.spreadTo s).1.anyTo s t.count then({(t.spreadTo s).1 with live:=λj=>if j=s then true else(t.spreadTo s).1.live j},true) else t.spreadTo s
theorem zB8 (t:Tb)(s:Nat)(a:(t.spreadTo s).1.live s=false)(b:(t.spreadTo s).1.anyTo s t.count=true):t.spreadTo (s+1)=({(t.spreadTo s).1 with live:=λj=>if j=s then true else(t.spreadTo s).1.live j},true):=by
 rw[Tb.spreadTo,a,b];rfl
theorem zAM (t:Tb)(s:Nat)(a:(t.spreadTo s).1.live s=true\/(t.spreadTo s).1.anyTo s t.count=false):t.spreadTo (s+1)=t.spreadTo s:=by
 rw[Tb.spreadTo];rcases a with a|a <;> rw[a] <;> simp
theorem zAI (t:Tb)(s:Nat):(t.spreadTo s).1={t with live:=(t.spreadTo s).1.live}:=by
 induction s with
 |zero=>rfl
 |succ s a=>
  rw[Tb.spreadTo];split
  ·show({(t.spreadTo s).1 with live:=_}:Tb)=_
   rw[a]
  ·exact a
theorem zB7 (t:Tb)(s:Nat):(t.spreadTo s).1.nst=t.nst:=by rw[zAI]
theorem zH3 (t:Tb)(s:Nat):(t.spreadTo s).1.count=t.count:=by rw[zAI]
theorem zMH {t:Tb}(ok:t.OkN)(s:Nat):(t.spreadTo s).1.OkN:=by rw[zAI];exact ok.withLive _
theorem zEL (w:World)(H b:Nat)(c:Tc)(t:Tb)(z:Mem w H b c t)(ok:t.OkN)(A:1<=t.nst)(T:1<=t.count):
  Calls prog 100 #[pX b] w λe w'=>e=returned (bool (t.spreadTo t.nst).2)/\Mem w' H b c (t.spreadTo t.nst).1/\Below H w w':=by
 have ⟨rv,u,I⟩:=z.next
 have ⟨g,cap,U,aq,ar,au,av,aw,ax⟩:=u.get A;have ⟨gl,J,ae,af,ay,az,aA,aB,aC⟩:=z.live.get A;have aD:cX w b 8=some (slice (qX g) t.nst cap):=by rw[<-U];exact z.tp.get_next
 have ag:=vl z;have B:=vl ae;have ah:=vl U;have aE:=ok.nst;generalize ai:t.nst=n at *;have C:=vl ai;go_in;go_wp2;go_loopg [3,11] n (λq more i wr=>∃j:Nat,q=n-j/\j<=n/\i=iX (j:Int)/\more=bool (t.spreadTo j).2/\Mem wr H b c (t.spreadTo j).1/\Below H w wr)
 case atStart=>exact⟨0,rfl,lX,rfl,rfl,ag,Below.refl _ _⟩
 case round=>
  obtain⟨j,K,aF,rfl,rfl,o,L⟩:=hrel;have d:Hid (gk=n-j/\Mem wr H b c (t.spreadTo j).1/\Below H w wr):=⟨K,o,L⟩
  by_cases v:j<n
  ·have aj:(j:Int)<(n:Int):=by omega
   have ⟨rv,u,I⟩:=o.next
   rw[ah.out,zB7,C.out] at u;have ⟨ak,aG,D,_,_,_,_,V,_⟩:=u.get A;have al:ak=g:=by injection D with f _ _;injection f with f;injection f with f;exact f.symm
   subst al;have M:=V j v;have N:=o.live;rw[B.out,zB7,C.out] at N;have ⟨x,aH,D,_,_,_,_,W,X⟩:=N.get A;have am:x=gl:=by injection D with f _ _;injection f with f;injection f with f;exact f.symm
   subst am;have Y:=W j v;have aI:=X j;have aJ:cX wr b 10=some (slice (qX x) n J):=by rw[<-B.out];exact o.tp.get_live
   have O:=I j (by rw[zB7,C.out];exact v);have ⟨ao,aa,P⟩:=zF O;have E:=vl O;rw[P] at M;have F:=vl P;have an:=vl <| zB8 t j;have ab:=vl <| zAM t j;have G:=zMH ok j;have h:=zH3 t j;have p:(t.spreadTo j).1.nst=n:=by rw[zB7,C.out]
   clear K o L V W X O P u I N D;generalize ac:t.spreadTo j=a at *;cases r:a.1.live j with
   |true=>
    rw[r] at Y;have m:=vl <| ab (.inl r);go_wp2;go_roundg (n-(j+1))
    case measure=>rw[d.out.1];omega
    case rel=>exact⟨j+1,rfl,by omega,congrArg (Value.int IntKind.i64) (by omega),by rw[m.out],by rw[m.out];exact d.2.1,d.2.2⟩
   |false=>
    rw[r] at Y;cases s:a.1.anyTo j t.count with
    |true=>
     have m:=vl <| an r s;have R:Hid (a.1.anyTo j a.1.count=true):=by show _=_;rw[h];exact s
     have S:Hid (Row wr H 3 (slice ao t.count aa) a.1.count λk=>iX (a.1.next j k:Nat)):=by show Row _ _ _ _ _ _;rw[<-h,<-F.out];exact E
     have l:j<a.1.nst:=by rw[p];exact v
     have y:1<=a.1.count:=by rw[h];exact T
     have ad:Hid (c.live=slice (qX x) a.1.nst J):=by show _=_;rw[p];exact B
     clear r s ac E F p;rw[h] at M;clear h;go_wp2_with fail;refine(zDF wr H b c a.1 d.2.1 G j l y _ S).mono ?_;rintro e w1 ⟨rfl,rfl⟩;rw[R.out];clear l y G;go_wp2_with fail;go_roundg (n-(j+1))
     case measure=>rw[d.out.1];omega
     case rel=>
      refine⟨j+1,rfl,by omega,congrArg (Value.int IntKind.i64) (by omega),by rw[m.out],?_,d.2.2.trans ?_⟩
      ·rw[m.out]
       exact d.2.1.setLive ad j af
      ·exact⟨rfl,rfl,rfl,by simp[World.setCell],λk aK=>lJ _ _ _ _ (by show k≠x;omega)⟩
    |false=>
     have m:Hid (t.spreadTo (j+1)=a):=ab (.inr s);have R:Hid (a.1.anyTo j a.1.count=false):=by show _=_;rw[h];exact s
     have S:Hid (Row wr H 3 (slice ao t.count aa) a.1.count λk=>iX (a.1.next j k:Nat)):=by show Row _ _ _ _ _ _;rw[<-h,<-F.out];exact E
     have l:j<a.1.nst:=by rw[p];exact v
     have y:1<=a.1.count:=by rw[h];exact T
     have ad:Hid (c.live=slice (qX x) a.1.nst J):=by show _=_;rw[p];exact B
     clear r s ac E F p;rw[h] at M;clear h;go_wp2_with fail;refine(zDF wr H b c a.1 d.2.1 G j l y _ S).mono ?_;rintro e w1 ⟨rfl,rfl⟩;rw[R.out];clear l y G;go_wp2_with fail;go_roundg (n-(j+1))
     case measure=>rw[d.out.1];omega
     case rel=>exact⟨j+1,rfl,by omega,congrArg (Value.int IntKind.i64) (by omega),by rw[m.out],by rw[m.out];exact d.2.1,d.2.2⟩
  ·have l:j=n:=by omega
   have aj:(n:Int)<=(j:Int):=by omega
   rw[l] at d;clear K o L;have ap:Hid ((t.spreadTo j).2=(t.spreadTo n).2):=by show _=_;rw[l]
   clear l;generalize (t.spreadTo j).2=aL at *;go_wp2_with fail;go_ret;exact⟨vG ap,d.2.1,d.2.2⟩
structure MemB (w:World)(H b:Nat)(c:Tc)(t:Tb):Prop where
 tp:zW w b c
 stream:c.stream=bool t.stream
 ahead:c.ahead=int i64 t.ahead
 hold:c.hold=int i64 t.hold
 count:c.count=int i64 t.count
 rows:c.rows=int i64 t.rows
 starts:Row w H 3 c.starts t.nmode λi=>int i64 (t.start i:Nat)
 acts:Row w H 3 c.acts t.nrule λi=>int i64 (t.act i:Nat)
 pushed:Row w H 3 c.pushed t.nrule λi=>int i64 (t.push i:Nat)
 kinds:Row w H 3 c.kinds 256 λi=>int i64 (t.kind i:Nat)
 next:∃rv,Row w H 45 c.next t.nst rv/\∀i,i<t.nst->Row w H 3 (rv i) t.count λk=>int i64 (t.next i k:Nat)
 ends:Row w H 3 c.ends t.nst λi=>int i64 (t.ends i)
 longer:Row w H 5 c.longer t.nlong λi=>int .u8 (t.long i:Nat)
 HH:H<=w.heap.size
theorem MemB.withLive {w w':World}{H b:Nat}{c:Tc}{t:Tb}{v:Value}(a:MemB w H b c t)(d:Keep w.heap.size b w w')(j:zW w' b {c with live:=v}):MemB w' H b {c with live:=v} t:=by
 have k:∀{e v n f},e≠90->Row w H e v n f->Row w' H e v n f:=λl r=>r.blk λg _ m o=>d.block g m (zH6 a.tp r l o);have ⟨rv,p,q⟩:=a.next
 exact⟨j,a.stream,a.ahead,a.hold,a.count,a.rows,k (by decide) a.starts,k (by decide) a.acts,k (by decide) a.pushed,k (by decide) a.kinds,⟨rv,k (by decide) p,λi s=>k (by decide) (q i s)⟩,k (by decide) a.ends,k (by decide) a.longer,lY a.HH d.size⟩
theorem MemB.mem {w:World}{H b:Nat}{c:Tc}{t:Tb}(a:MemB w H b c t)(f:Nat->Bool)(d:Row w H 4 c.live t.nst λi=>bool (f i)):Mem w H b c {t with live:=f}:=
 ⟨a.tp,a.stream,a.ahead,a.hold,a.count,a.rows,a.starts,a.acts,a.pushed,a.kinds,a.next,a.ends,d,a.longer,a.HH⟩
def zFv (live:Nat->Bool):Nat->Nat
 |0=>0
 |n+1=>zFv live n+if live n then 0 else 1
def Tb.deadTo (t:Tb)(n:Nat):Nat:=zFv t.live n
theorem zOx (live:Nat->Bool)(s:Nat)(b:live s=false)(n:Nat):zFv (λj=>if j=s then true else live j) n+(if s<n then 1 else 0)=zFv live n:=by
 induction n with
 |zero=>rfl
 |succ n c=>
  simp only[zFv];generalize zFv (λj=>if j=s then true else live j) n=d at *;generalize zFv live n=B at *;by_cases e:n=s
  ·subst e
   simp[b] at *;omega
  ·by_cases a:s<n
   ·simp[e,a,show s<n+1 by omega] at *
    omega
   ·simp[e,a,show¬s<n+1 by omega] at *
    omega
theorem zJm (t:Tb)(s:Nat)(e:s<=t.nst):(t.spreadTo s).1.deadTo t.nst+(if (t.spreadTo s).2 then 1 else 0)<=t.deadTo t.nst:=by
 induction s with
 |zero=>exact lQ
 |succ s a=>
  have a:=a (by omega);cases b:(t.spreadTo s).1.live s with
  |true=>rw[zAM t s (.inl b)];exact a
  |false=>
   cases c:(t.spreadTo s).1.anyTo s t.count with
   |false=>rw[zAM t s (.inr c)];exact a
   |true=>
    rw[zB8 t s b c];have d:=zOx (t.spreadTo s).1.live s b t.nst;rw[if_pos (by omega)] at d;show zFv (λj=>if j=s then true else(t.spreadTo s).1.live j) t.nst+(if true=true then 1 else 0)<=_;rw[if_pos rfl,d];exact lY (Nat.le_add_right _ _) a
theorem zJk (t:Tb)(s:Nat)(a:(t.spreadTo s).2=false):(t.spreadTo s).1=t:=by
 induction s with
 |zero=>rfl
 |succ s b=>
  cases c:(t.spreadTo s).1.live s with
  |true=>rw[zAM t s (.inl c)] at a ⊢;exact b a
  |false=>
   cases d:(t.spreadTo s).1.anyTo s t.count with
   |false=>rw[zAM t s (.inr d)] at a ⊢;exact b a
   |true=>rw[zB8 t s c d] at a;cases a
def Tb.itr (t:Tb):Nat->Tb
 |0=>t
 |n+1=>((t.itr n).spreadTo t.nst).1
theorem zI3 {t u:Tb}(a:u={t with live:=u.live})(f:Nat->Bool):({u with live:=f}:Tb)={t with live:=f}:=by rw[a]
theorem zBk (t:Tb)(n:Nat):t.itr n={t with live:=(t.itr n).live}:=by
 induction n with
 |zero=>rfl
 |succ n a=>exact(zAI (t.itr n) t.nst).trans (zI3 a _)
theorem zID (t:Tb)(n:Nat):(t.itr n).nst=t.nst:=by rw[zBk]
theorem zBR (t:Tb)(n:Nat):(t.itr n).count=t.count:=by rw[zBk]
theorem zLp {t:Tb}(ok:t.OkN)(n:Nat):(t.itr n).OkN:=by rw[zBk];exact ok.withLive _
def Tb.first (t:Tb):Tb:={t with live:=λs=>t.ends s != -1}
theorem zCV (w:World)(H b:Nat)(c:Tc)(t:Tb)(f:MemB w H b c t)(aj:c.live=nX)(ok:t.OkN)(L:1<=t.nst)(ak:1<=t.count):
  Calls prog 65 #[pX b] w λe w'=>e=rX/\∃v n,Mem w' H b {c with live:=v} (t.first.itr n)/\((t.first.itr n).spreadTo t.nst).2=false/\Keep H b w w':=by
 have ⟨al,am,an,ao,ap⟩:=info_parts vR;have ⟨M,aq,N,aK,ar,aL,aM,au,aN⟩:=f.ends.get L;have aO:cX w b 9=some (slice (qX M) t.nst aq):=by rw[<-N];exact f.tp.get_ends
 have O:=vl f;have av:=vl au;have aP:=vl ok.ends;have aQ:=ok.nst;have aR:=f.tp.lt;have aw:=zH6 f.tp f.ends (by decide) (by rw[N];rfl);have ax:=f.HH;generalize ay:t.nst=n at *;have y:=vl ay;go_in;apply wp_cut;intro aS P;go_wp2;go_loopg [9] n (λq i wr=>∃(j:Nat) (v:Value),q=n-j/\j<=n/\i=iX (j:Int)/\Row wr w.heap.size 4 v j (λs=>bool (t.ends s != -1))/\zW wr b {c with live:=v}/\Keep w.heap.size b w wr)
 case atStart=>exact⟨0,nX,rfl,lX,rfl,ownsRow_nil _ _ _ _,(by rw[<-aj];exact O.tp),Keep.refl _ _ _⟩
 case round=>
  obtain⟨j,v,z,aT,rfl,l,g,a⟩:=hrel;have az:=a.size;by_cases aA:j<n
  ·have aB:(j:Int)<(n:Int):=by omega
   have aC:=(gY (a.block M ar aw)).trans (av j aA);have aU:=g.get_live;have R:Hid (gk=n-j/\Keep w.heap.size b w wr):=⟨z,a⟩
   have S:=vl l;have A:=vl g;have B:Hid (∃x,x=t.ends j):=⟨_,rfl⟩
   have ⟨x,C⟩:=B.out;have B:=vl C;rw[<-C] at aC;clear z l g a C;go_wp2_with (at_builtin;refine wpList_append_lies _ rfl _ _ 28 rfl w.heap.size 4 al fX 1 1 underlying28 am an ao ap rfl (by decide) _ _ _ rfl (S.alloc _) ⟨wr.heap.size,0,none⟩ 1 1 [bool (x != -1)] rfl rfl (cell_one_new _ _ _) (by intro u T;simp at T;subst T;rfl) (by decide) (by unfold maxLen;omega) (by omega) (by simp;omega) _ rfl ?_;intro aD cap w2 aE aF aV aW;have o:=xH S aF az;have aX:=(A.of_block (o.block b (by omega))).get_live;have q2:=(A.of_block (o.block b (by omega))).fz 10)
   have aG:=A.of_block (o.block b (by omega));have aH:w2.ownsRow w.heap.size 4 1 (slice (qX aD) (j+1) cap) (j+1) ((List.range (j+1)).map λs=>bool (t.ends s != -1)):=by
    rw[xQ,<-B.out];exact aE
   go_roundg (n-(j+1))
   case measure=>rw[R.out.1];omega
   case rel=>exact⟨j+1,_,rfl,by omega,congrArg (Value.int IntKind.i64) (by omega),xX aH (λ_=>Keep.set _ _ _) (by omega),aG.set_live _,(R.2.trans (xE o)).trans (Keep.set _ _ _)⟩
  ·have U:j=n:=by omega
   have aB:(n:Int)<=(j:Int):=by omega
   have aI:Hid (Mem wr H b {c with live:=v} t.first):=by
    refine(O.withLive a g).mem _ ?_;show Row wr H 4 v t.nst _;rw[y.out,<-U];exact l.mono ax
   have p:=vl a;clear z l g a U;go_wp2_with fail;apply P.out;clear P;have V:=zLp (t:=t.first) (ok.withLive _);have W:=zID t.first
   have X:=zBR t.first
   go_wp2_with fail;go_loopg [] (t.first.deadTo n) (λq Y=>∃m:Nat,q=(t.first.itr m).deadTo n/\Mem Y H b {c with live:=v} (t.first.itr m)/\Keep H b w Y)
   case atStart=>exact⟨0,rfl,aI,⟨p.os,p.output,p.size,λk a=>p.block k (by omega)⟩⟩
   case round=>
    obtain⟨m,aa,D,ab⟩:=hrel;have E:(t.first.itr m).nst=n:=by rw[W];exact y
    have F:=zEL wr H b _ (t.first.itr m) D (V m) (by rw[E];exact L) (by rw[X];exact ak);have G:=zJm (t.first.itr m) (t.first.itr m).nst lQ;rw[E] at F G;have I:Hid (gk=(t.first.itr m).deadTo n/\Mem wr H b {c with live:=v} (t.first.itr m)/\Keep H b w wr):=⟨aa,D,ab⟩
    have ac:Hid (t.first.itr (m+1)=((t.first.itr m).spreadTo n).1):=by show _=_;rw[<-y.out];rfl
    have ad:Hid (((t.first.itr m).spreadTo n).1.deadTo n+(if ((t.first.itr m).spreadTo n).2 then 1 else 0)<=(t.first.itr m).deadTo n):=G;have ae:Hid (Calls _ _ _ _ _):=F;clear aa D ab F G E V W X;go_wp2_with fail;refine Calls.mono ae ?_;rintro e w2 ⟨rfl,af,ag⟩;have d:Hid (Mem w2 H b {c with live:=v} ((t.first.itr m).spreadTo n).1/\Below H wr w2):=⟨af,ag⟩
    clear af ag ae;cases r:((t.first.itr m).spreadTo n).2 with
    |true=>
     have J:=ad.out;rw[r,if_pos rfl,<-ac.out] at J;have aJ:Hid ((t.first.itr (m+1)).deadTo n+1<=(t.first.itr m).deadTo n):=J;clear r ad J;go_wp2_with fail;go_roundg ((t.first.itr (m+1)).deadTo n)
     case measure=>rw[I.out.1];exact aJ
     case rel=>exact⟨m+1,rfl,by rw[ac.out];exact d.1,I.2.2.trans ⟨d.2.os,d.2.output,d.2.size,λk a _=>d.2.block k a⟩⟩
    |false=>
     have ah:Hid (((t.first.itr m).spreadTo n).2=false):=r;clear r;go_wp2_with fail;go_end0;refine⟨rfl,v,m,?_,ah,I.2.2.trans ⟨d.2.os,d.2.output,d.2.size,λk a _=>d.2.block k a⟩⟩;have ai:=d.1;rw[zJk _ _ ah.out] at ai;exact ai
section
theorem Keep.lower {H b d c:Nat}{w w':World}(a:Keep H b w w')(e:d<=H)(f:d<=b):Keep d c w w':=⟨a.os,a.output,a.size,λk g _=>a.block k (by omega) (by omega)⟩
theorem Keep.th {w w1 w2:World}(h:Grew w w1)(k:Grew w1 w2):Grew w w2:=h.trans (k.lower h.size h.size)
def Ints (w:World)(S:Nat->Prop)(v:Value)(l:List Int):Prop:=
 ∃ao cap,v=slice ao l.length cap/\l.length<=cap/\cap<=maxLen/\∀i,i<l.length->∃b o,ao=some ⟨b,o,none⟩/\S b/\w.cell? ⟨b,o+i,none⟩=some (int i64 (l.getD i 0))
def Bools (w:World)(S:Nat->Prop)(v:Value)(l:List Bool):Prop:=
 ∃ao cap,v=slice ao l.length cap/\l.length<=cap/\cap<=maxLen/\∀i,i<l.length->∃b o,ao=some ⟨b,o,none⟩/\S b/\w.cell? ⟨b,o+i,none⟩=some (bool (l.getD i false))
def IntRows (w:World)(S:Nat->Prop)(v:Value)(l:List (List Int)):Prop:=
 ∃ao cap,v=slice ao l.length cap/\l.length<=cap/\cap<=maxLen/\∀i,i<l.length->∃b o u,ao=some ⟨b,o,none⟩/\S b/\w.cell? ⟨b,o+i,none⟩=some u/\Ints w S u (l.getD i [])
section
variable {w w':World} {S S':Nat->Prop} {v:Value}
theorem Ints.keep {l:List Int}(c:Ints w S v l)(e:∀b,S b->w'.heap[b]? =w.heap[b]?):Ints w' S v l:=by
 obtain⟨ao,cap,d,f,g,j⟩:=c;refine⟨ao,cap,d,f,g,λi k=>?_⟩;have ⟨b,o,m,a,p⟩:=j i k;exact⟨b,o,m,a,(gY (e b a)).trans p⟩
theorem Ints.mono {l:List Int}(a:Ints w S v l)(e:∀b,S b->S' b):Ints w S' v l:=by
 obtain⟨ao,cap,c,d,f,g⟩:=a;refine⟨ao,cap,c,d,f,λi j=>?_⟩;have ⟨b,o,k,m,p⟩:=g i j;exact⟨b,o,k,e b m,p⟩
theorem Bools.keep {l:List Bool}(c:Bools w S v l)(e:∀b,S b->w'.heap[b]? =w.heap[b]?):Bools w' S v l:=by
 obtain⟨ao,cap,d,f,g,j⟩:=c;refine⟨ao,cap,d,f,g,λi k=>?_⟩;have ⟨b,o,m,a,p⟩:=j i k;exact⟨b,o,m,a,(gY (e b a)).trans p⟩
theorem Bools.mono {l:List Bool}(a:Bools w S v l)(e:∀b,S b->S' b):Bools w S' v l:=by
 obtain⟨ao,cap,c,d,f,g⟩:=a;refine⟨ao,cap,c,d,f,λi j=>?_⟩;have ⟨b,o,k,m,p⟩:=g i j;exact⟨b,o,k,e b m,p⟩
theorem IntRows.keep {l:List (List Int)}(c:IntRows w S v l)(e:∀b,S b->w'.heap[b]? =w.heap[b]?):IntRows w' S v l:=by
 obtain⟨ao,cap,d,f,g,j⟩:=c;refine⟨ao,cap,d,f,g,λi k=>?_⟩;have ⟨b,o,u,m,a,p,q⟩:=j i k;exact⟨b,o,u,m,a,(gY (e b a)).trans p,q.keep e⟩
theorem IntRows.mono {l:List (List Int)}(a:IntRows w S v l)(e:∀b,S b->S' b):IntRows w S' v l:=by
 obtain⟨ao,cap,c,d,f,g⟩:=a;refine⟨ao,cap,c,d,f,λi j=>?_⟩;have ⟨b,o,u,k,m,p,q⟩:=g i j;exact⟨b,o,u,k,e b m,p,q.mono e⟩
theorem zCL {H:Nat}{e:TypeId}{l:List Int}(c:w.ownsRow H e 1 v l.length (l.map λx=>iX x))(f:∀g,v.ownBlock=some g->S g):Ints w S v l:=by
 rcases c.2 with⟨a,j⟩|⟨g,cap,o,a,p,q,k,m,r,s⟩
 ·refine⟨none,0,by rw[a,j],by omega,by unfold maxLen;omega,λi b=>by omega⟩
 ·refine⟨some ⟨g,0,none⟩,cap,a,k,m,λi b=>⟨g,0,rfl,f g (by rw[a];rfl),?_⟩⟩
  have d:=c.cells (g:=g) (by rw[a];rfl) i (iX (l.getD i 0)) (by
   rw[gX,lV b,lW,lV b];rfl)
  rw[Addr.add_lit] at d;exact d
theorem zHC {H:Nat}{e:TypeId}{l:List Bool}(c:w.ownsRow H e 1 v l.length (l.map λx=>bool x))(f:∀g,v.ownBlock=some g->S g):Bools w S v l:=by
 rcases c.2 with⟨a,j⟩|⟨g,cap,o,a,p,q,k,m,r,s⟩
 ·refine⟨none,0,by rw[a,j],by omega,by unfold maxLen;omega,λi b=>by omega⟩
 ·refine⟨some ⟨g,0,none⟩,cap,a,k,m,λi b=>⟨g,0,rfl,f g (by rw[a];rfl),?_⟩⟩
  have d:=c.cells (g:=g) (by rw[a];rfl) i (bool (l.getD i false)) (by
   rw[gX,lV b,lW,lV b];rfl)
  rw[Addr.add_lit] at d;exact d
end
theorem Ints.block {w:World}{S:Nat->Prop}{v:Value}{l:List Int}(e:Ints w S v l)(f:0<l.length):∃b o cap,v=slice (some ⟨b,o,none⟩) l.length cap/\S b/\l.length<=cap/\cap<=maxLen/\∀i,i<l.length->w.cell? ⟨b,o+i,none⟩=some (iX (l.getD i 0)):=by
 obtain⟨ao,cap,g,j,k,c⟩:=e;have ⟨b,o,d,m,_⟩:=c 0 f;refine⟨b,o,cap,by rw[g,d],m,j,k,λi p=>?_⟩;have ⟨t,u,a,_,q⟩:=c i p;rw[d] at a;injection a with a;injection a with r s;subst r s;exact q
theorem IntRows.block {w:World}{S:Nat->Prop}{v:Value}{l:List (List Int)}(e:IntRows w S v l)(f:0<l.length):∃b o cap,v=slice (some ⟨b,o,none⟩) l.length cap/\S b/\l.length<=cap/\cap<=maxLen/\∀i,i<l.length->∃u,w.cell? ⟨b,o+i,none⟩=some u/\Ints w S u (l.getD i []):=by
 obtain⟨ao,cap,g,j,k,c⟩:=e;have ⟨b,o,_,d,m,_⟩:=c 0 f;refine⟨b,o,cap,by rw[g,d],m,j,k,λi p=>?_⟩;have ⟨t,x,u,a,_,q⟩:=c i p;rw[d] at a;injection a with a;injection a with r s;subst r s;exact⟨u,q⟩
structure Sm where
 next:List (List Int)
 rules:List Int
 start:Int
 empty:List Bool
def ModesAt (w:World)(S:Nat->Prop)(v:Value)(ms:List Sm):Prop:=
 ∃ao cap,v=slice ao ms.length cap/\ms.length<=cap/\cap<=maxLen/\∀i (hi:i<ms.length),∃b o u0 u1 u3,ao=some ⟨b,o,none⟩/\S b/\
  w.cell? ⟨b,o+i*4,none⟩=some u0/\w.cell? ⟨b,o+i*4+1,none⟩=some u1/\w.cell? ⟨b,o+i*4+2,none⟩=some (int i64 ms[i].start)/\w.cell? ⟨b,o+i*4+3,none⟩=some u3/\
  IntRows w S u0 ms[i].next/\Ints w S u1 ms[i].rules/\Bools w S u3 ms[i].empty
theorem ModesAt.keep {w w':World}{S:Nat->Prop}{v:Value}{ms:List Sm}(c:ModesAt w S v ms)(e:∀b,S b->w'.heap[b]? =w.heap[b]?):ModesAt w' S v ms:=by
 obtain⟨ao,cap,d,f,g,l⟩:=c;refine⟨ao,cap,d,f,g,λi m=>?_⟩;have ⟨b,o,u0,u1,u3,p,a,c0,c1,c2,q,r,s,t⟩:=l i m;have k:∀j,cX w' b j=cX w b j:=λj=>gY (e b a);exact⟨b,o,u0,u1,u3,p,a,(k _).trans c0,(k _).trans c1,(k _).trans c2,(k _).trans q,r.keep e,s.keep e,t.keep e⟩
end
def jU (a b:Nat)(row:List Int):Bool:=row.getD a 0==row.getD b 0
def zAC (a b:Nat)(m:Sm):Bool:=m.next.all (jU a b)
def zCR (ms:List Sm)(a b:Nat):Bool:=ms.all (zAC a b)
def Wide (ms:List Sm):Prop:=∀m∈ms,∀row∈m.next,row.length=256
theorem zFD (w:World)(S:Nat->Prop)(v:Value)(ms:List Sm)(M:ModesAt w S v ms)(r:∀k,S k->k<w.heap.size)(N:Wide ms)(aI:ms.length<=3)(O:∀m∈ms,m.next.length<=200)(a b:Nat)(aJ:a<256)(aK:b<256):
  Calls prog 137 #[v,iX a,iX b] w λe w'=>e=returned (bool (zCR ms a b))/\Grew w w':=by
 obtain⟨ao,cap,rfl,aL,aM,P⟩:=M;have R:=vl P;go_in;go_wp2;go_loopg [13] ms.length (λq i wr=>∃j:Nat,q=ms.length-j/\j<=ms.length/\i=iX (j:Int)/\(ms.take j).all (zAC a b)=true/\Grew w wr)
 case atStart=>exact⟨0,rfl,lX,rfl,rfl,Keep.refl _ _ _⟩
 case round=>
  obtain⟨j,y,aN,rfl,z,A⟩:=hrel;have s:Hid (gk=ms.length-j/\(ms.take j).all (zAC a b)=true/\Grew w wr):=⟨y,z,A⟩
  by_cases t:j<ms.length
  ·have T:(j:Int)<(ms.length:Int):=by omega
   obtain⟨h,o,u0,u1,u3,rfl,G,c0,c1,c2,U,V,W,X⟩:=R j t;have d:∀i,wr.cell? ⟨h,i,none⟩=w.cell? ⟨h,i,none⟩:=λi=>gY (A.block h (r h G) (by have:=r h G;omega));have Y:=(d _).trans c0;have aa:=(d _).trans c1;have ab:=(d _).trans c2;have aO:=(d _).trans U;have H:=vl A;obtain⟨ac,ad,ae,aP,m0,af⟩:=V;obtain⟨ag,ah,ai,_⟩:=W;obtain⟨aj,ak,al,_⟩:=X;subst ae ai al;have am:=vl af;have aQ:=O _ (List.getElem_mem t);have an:=vl <| N _ (List.getElem_mem t);have I:Hid ((ms.take (j+1)).all (zAC a b)=((ms.take j).all (zAC a b)&&ms[j].next.all (jU a b))):=by
    show _=_;rw[List.take_succ_eq_append_getElem t,List.all_append];simp[zAC]
   generalize aR:ms[j].next=rows at *
   generalize ms[j].start=ap at *;generalize ms[j].rules=aq at *;generalize ms[j].empty=ar at *;go_wp2;obtain⟨w1,au,av⟩:∃w1,w1=wr.alloc (.cells #[slice ac rows.length ad,slice ag aq.length ah,iX ap,slice aj ar.length ak] 134)/\Hid (Grew w w1):=⟨_,rfl,H.trans (kZ _ _ H.size)⟩
   rw[<-au];go_loopg [21] rows.length (λq i aw=>∃k:Nat,q=rows.length-k/\k<=rows.length/\i=iX (k:Int)/\(rows.take k).all (jU a b)=true/\Grew w aw)
   case atStart=>exact⟨0,rfl,lX,rfl,rfl,av⟩
   case round=>
    obtain⟨k,y,aS,rfl,z,J⟩:=hrel;have g:Hid (gk=rows.length-k/\(rows.take k).all (jU a b)=true/\Grew w wr):=⟨y,z,J⟩
    by_cases f:k<rows.length
    ·have ax:(k:Int)<(rows.length:Int):=by omega
     obtain⟨ay,az,u,rfl,aA,aB,aC⟩:=am k f;have aD:(rows.getD k []).length=256:=by
      rw[lW,lV f];exact an _ (List.getElem_mem f)
     obtain⟨B,C,aE,rfl,K,_,_,L⟩:=aC.block (by omega);have d:∀x i,S x->wr.cell? ⟨x,i,none⟩=w.cell? ⟨x,i,none⟩:=λx i c=>gY (J.block x (r x c) (by have:=r x c;omega));have Y:wr.cell? ⟨ay,az+k,none⟩=some (slice (some ⟨B,C,none⟩) 256 aE):=by rw[d _ _ aA,aB,aD]
     have aa:wr.cell? ⟨B,C+a,none⟩=some (iX ((rows.getD k []).getD a 0)):=by rw[d _ _ K,L a (by omega)]
     have ab:wr.cell? ⟨B,C+b,none⟩=some (iX ((rows.getD k []).getD b 0)):=by rw[d _ _ K,L b (by omega)]
     have aF:Hid ((rows.take (k+1)).all (jU a b)=((rows.take k).all (jU a b)&&((rows.getD k []).getD a 0==(rows.getD k []).getD b 0))):=by
      show _=_;rw[List.take_succ_eq_append_getElem f,List.all_append,lW (l:=rows),lV f];simp[jU]
     have aG:Hid (((rows.getD k []).getD a 0==(rows.getD k []).getD b 0)=false->rows.all (jU a b)=false):=by
      intro c;rw[List.all_eq_false];refine⟨rows[k],List.getElem_mem f,?_⟩;rw[lW (l:=rows),lV f] at c;simpa[jU] using c
     have aT:(a:Int)<256:=by omega
     have aU:(b:Int)<256:=by omega
     generalize (rows.getD k []).getD a 0=D at *;generalize (rows.getD k []).getD b 0=E at *;by_cases c:D=E
     ·have aH:(D != E)=false:=by simp[c]
      have p:Hid ((rows.take (k+1)).all (jU a b)=true):=by show _=_;rw[aF.out,g.out.2.1,c];simp
      go_wp2;go_quiet (fail);go_wp2;go_roundg (rows.length-(k+1))
      case measure=>rw[g.out.1];omega
      case rel=>exact⟨k+1,rfl,by omega,by go_num,p,g.2.2.trans (Keep.alike (w':=wr.drewN nq) ⟨rfl,rfl,rfl⟩)⟩
     ·have aH:(D != E)=true:=by simpa using c
      have p:=vl <| aG (by simpa using c);have F:Hid (zCR ms a b=false):=by
       show _=_;unfold zCR;rw[<-List.take_append_drop (j+1) ms,List.all_append,I.out,p.out];simp
      go_wp2;go_quiet (fail);go_wp2;go_ret;exact⟨vG F.symm,g.2.2.trans (Keep.alike (w':=wr.drewN nq) ⟨rfl,rfl,rfl⟩)⟩
    ·have ax:(rows.length:Int)<=(k:Int):=by omega
     have p:Hid ((ms.take (j+1)).all (zAC a b)=true):=by
      show _=_;rw[I.out,s.out.2.1,<-List.take_of_length_le (l:=rows) (i:=k) (by omega),g.out.2.1];rfl
     go_wp2;go_roundg (ms.length-(j+1))
     case measure=>rw[s.out.1];omega
     case rel=>exact⟨j+1,rfl,by omega,by go_num,p,g.2.2⟩
  ·have T:(ms.length:Int)<=(j:Int):=by omega
   have F:Hid (zCR ms a b=true):=by
    show _=_;unfold zCR;rw[<-List.take_of_length_le (l:=ms) (i:=j) (by omega)];exact s.2.1
   go_wp2;go_ret;exact⟨vG F.symm,s.2.2⟩
def OwnI (w:World)(H:Nat)(v:Value)(l:List Int):Prop:=w.ownsRow H 3 1 v l.length (l.map λx=>int i64 x)
theorem OwnI.snoc {w:World}{H g cap:Nat}{l:List Int}{x:Int}(a:w.ownsRow H 3 1 (slice (qX g) (l.length+1) cap) (l.length+1) (l.map (λx=>iX x)++[iX x])):OwnI w H (slice (qX g) (l.length+1) cap) (l++[x]):=by
 unfold OwnI;rw[kX,List.map_append];exact a
theorem OwnI.raw {w:World}{H:Nat}{v:Value}{l:List Int}(a:OwnI w H v l):w.ownsRow H 3 1 v l.length (l.map λx=>iX x):=a
theorem OwnI.nil (w:World)(H:Nat):OwnI w H nX []:=ownsRow_nil _ _ _ _
theorem OwnI.form {w:World}{H:Nat}{v:Value}{l:List Int}(a:OwnI w H v l):∃ao cap,v=slice ao l.length cap:=zF a
theorem zM {w w':World}{H e a n:Nat}{v:Value}{xs:List Value}(b:w.ownsRow H e a v n xs)(d:Grew w w'):w'.ownsRow H e a v n xs:=by
 refine⟨b.1,b.2.imp id ?_⟩;rintro⟨g,cap,f,j,k,c,l⟩;have m:=(kQ.1 c).1;exact⟨g,cap,f,j,k,(d.block g m (by omega)).trans c,l⟩
theorem OwnI.cell {w:World}{H g cap n:Nat}{l:List Int}(c:OwnI w H (slice (qX g) n cap) l)(i:Nat)(a:i<l.length):w.cell? ⟨g,i,none⟩=some (iX (l.getD i 0)):=by
 have b:=World.ownsRow.cells c (g:=g) rfl i (iX (l.getD i 0)) (by
  rw[gX,lV a,lW,lV a];rfl)
 rw[Addr.add_lit,Nat.zero_add] at b;exact b
def jS (ms:List Sm)(b:Nat):Nat:=(List.range b).findIdx λa=>zCR ms a b
theorem zHM (ms:List Sm)(b:Nat):jS ms b<=b:=by
 have c:=List.findIdx_le_length (xs:=List.range b) (p:=λa=>zCR ms a b);rw[List.length_range] at c;exact c
theorem zE8 (w:World)(S:Nat->Prop)(v:Value)(ms:List Sm)(t:ModesAt w S v ms)(g:∀k,S k->k<w.heap.size)(u:Wide ms)(x:ms.length<=3)(y:∀m∈ms,m.next.length<=200)(b:Nat)(z:b<256):
  Calls prog 98 #[v,iX b] w λe w'=>e=returned (iX (jS ms b:Nat))/\Grew w w':=by
 have A:=vl t;go_in;go_wp2;go_loopg [5] b (λq i wr=>∃j:Nat,q=b-j/\j<=b/\i=iX (j:Int)/\(∀a,a<j->zCR ms a b=false)/\Grew w wr)
 case atStart=>exact⟨0,rfl,lX,rfl,λa f=>by omega,Keep.refl _ _ _⟩
 case round=>
  obtain⟨j,B,H,rfl,C,d⟩:=hrel;have c:Hid (gk=b-j/\(∀a,a<j->zCR ms a b=false)/\Grew w wr):=⟨B,C,d⟩
  by_cases D:j<b
  ·have E:(j:Int)<(b:Int):=by omega
   go_wp2_with fail;refine(zFD wr S v ms (A.keep λk d=>c.2.2.block k (g k d) (by have:=g k d;omega)) (λk d=>lZ (g k d) c.2.2.size) u x y j b (by omega) z).mono ?_;rintro e w1 ⟨rfl,F⟩;have o:=vl <| c.2.2.th F;cases r:zCR ms j b with
   |true=>
    have l:Hid (jS ms b=j):=by
     show _=_;unfold jS;rw[List.findIdx_eq (by simpa using D)];refine⟨by simpa using r,λa f=>by simpa using c.2.1 a (by simpa using f)⟩
    go_wp2;go_ret;exact⟨zAr (by rw[l.out]),o⟩
   |false=>
    have G:=vl r;go_wp2;go_roundg (b-(j+1))
    case measure=>rw[c.out.1];omega
    case rel=>exact⟨j+1,rfl,by omega,by go_num,λa f=>by(by_cases e:a=j;exact e ▸ G;exact c.2.1 a (by omega)),o⟩
  ·have E:(b:Int)<=(j:Int):=by omega
   have l:Hid (jS ms b=b):=by
    show _=_;unfold jS;have s:=List.findIdx_eq_length (xs:=List.range b) (p:=λa=>zCR ms a b);rw[List.length_range] at s;refine s.2 λa f=>?_;simpa using c.2.1 a (by have:=List.mem_range.1 f;omega)
   go_wp2;go_ret;exact⟨zAr (by rw[l.out]),c.2.2⟩
def zB (ms:List Sm):Nat->List Int×Nat
 |0=>([],0)
 |b+1=>if jS ms b<b then((zB ms b).1++[(zB ms b).1.getD (jS ms b) 0],(zB ms b).2) else((zB ms b).1++[((zB ms b).2:Int)],(zB ms b).2+1)
theorem jG (ms:List Sm)(b:Nat):(zB ms b).1.length=b/\(zB ms b).2<=b:=by
 induction b with
 |zero=>exact⟨rfl,lQ⟩
 |succ b a=>
  rw[zB];split
  ·exact⟨by simp[a.1],by show(zB ms b).2<=b+1;omega⟩
  ·exact⟨by simp[a.1],by show(zB ms b).2+1<=b+1;omega⟩
theorem zHd (w:World)(S:Nat->Prop)(v:Value)(ms:List Sm)(P:ModesAt w S v ms)(t:∀k,S k->k<w.heap.size)(R:Wide ms)(T:ms.length<=3)(U:∀m∈ms,m.next.length<=200):
  Calls prog 63 #[v] w λe w'=>∃u,e=returned (tuple #[u,iX ((zB ms 256).2:Nat)])/\OwnI w' w.heap.size u (zB ms 256).1/\Grew w w':=by
 have ⟨D,E,F,G,H⟩:=info_parts yG;have V:=vl P;go_in;go_wp2;go_loopg [4,5,6] 256 (λq W cnt i wr=>∃j:Nat,q=256-j/\j<=256/\i=iX (j:Int)/\cnt=iX ((zB ms j).2:Nat)/\OwnI wr w.heap.size W (zB ms j).1/\Grew w wr)
 case atStart=>exact⟨0,rfl,lX,rfl,rfl,OwnI.nil _ _,Keep.refl _ _ _⟩
 case round=>
  obtain⟨j,X,aj,rfl,rfl,I,c⟩:=hrel;have b:Hid (gk=256-j/\OwnI wr w.heap.size u4 (zB ms j).1/\Grew w wr):=⟨X,I,c⟩
  have Y:=jG ms j;have ⟨ao,cap,aa⟩:=I.form;subst aa;by_cases ab:j<256
  ·have ac:(j:Int)<256:=by omega
   go_wp2_with fail;refine(zE8 wr S v ms (V.keep λk c=>b.2.2.block k (t k c) (by have:=t k c;omega)) (λk c=>lZ (t k c) b.2.2.size) R T U j ab).mono ?_;rintro e w1 ⟨rfl,J⟩;have y:=vl <| b.2.2.th J;have r:Hid (OwnI w1 w.heap.size (slice ao (zB ms j).1.length cap) (zB ms j).1):=zM b.2.1 J;have K:=y.size;have L:Hid (zB ms (j+1)=if jS ms j<j then((zB ms j).1++[(zB ms j).1.getD (jS ms j) 0],(zB ms j).2) else((zB ms j).1++[((zB ms j).2:Int)],(zB ms j).2+1)):=rfl;have ak:=zHM ms j;generalize jS ms j=f at *;generalize (zB ms j).1=l at *;generalize (zB ms j).2=cnt at *;obtain⟨ad,al⟩:=Y;have am:l.length<=j:=by omega
   have an:j<=l.length:=by omega
   clear ad;have s:=vl r;by_cases M:f<j
   ·have ae:(f:Int)<(j:Int):=by omega
    have d:Hid (zB ms (j+1)=(l++[l.getD f 0],cnt)):=by show _=_;rw[L.out,if_pos M]
    have af:ao≠none:=by
     intro e;rcases r.out.2 with⟨a,N⟩|⟨g,_,_,a,_⟩
     ·have ap:=N
      omega
     ·rw[e] at a;cases a
    obtain⟨g,rfl⟩:∃g,ao=some ⟨g,0,none⟩:=by
     rcases r.out.2 with⟨a,N⟩|⟨g,_,_,a,_⟩
     ·injection a with a _ _
      exact absurd a af
     ·injection a with a _ _
      exact⟨g,a⟩
    have aq:=r.cell f (by show f<l.length;omega);have ar:(f:Int)<(l.length:Int):=by omega
    generalize l.getD f 0=x at *;go_wp2_with (at_builtin;refine wpList_append_lies _ rfl _ _ 45 rfl (w.heap.size) 3 D zX 1 8 underlying45 E F G H rfl (by decide) _ _ _ rfl (s.alloc _) ⟨w1.heap.size,0,none⟩ 1 1 [iX x] rfl rfl (cell_one_new _ _ _) (by intro u o;simp at o;subst o;rfl) (by decide) (by unfold maxLen;omega) (by omega) (by simp;omega) _ rfl ?_;intro z cap w2 A B ag ah;have C:=xH s B K)
    have p:Hid (OwnI w2 w.heap.size (slice (qX z) (l.length+1) cap) (l++[x])/\Grew w w2):=⟨OwnI.snoc A,y.trans (xE C)⟩
    go_wp2;go_roundg (256-(j+1))
    case measure=>rw[b.out.1];omega
    case rel=>exact⟨j+1,rfl,by omega,by go_num,by rw[d.out],by rw[d.out];exact p.1,p.2⟩
   ·have ae:(j:Int)<=(f:Int):=by omega
    have d:Hid (zB ms (j+1)=(l++[(cnt:Int)],cnt+1)):=by show _=_;rw[L.out,if_neg M]
    go_wp2_with (at_builtin;refine wpList_append_lies _ rfl _ _ 45 rfl (w.heap.size) 3 D zX 1 8 underlying45 E F G H rfl (by decide) _ _ _ rfl (s.alloc _) ⟨w1.heap.size,0,none⟩ 1 1 [iX (cnt:Int)] rfl rfl (cell_one_new _ _ _) (by intro u o;simp at o;subst o;rfl) (by decide) (by unfold maxLen;omega) (by omega) (by simp;omega) _ rfl ?_;intro z cap w2 A B ag ah;have C:=xH s B K)
    have p:Hid (OwnI w2 w.heap.size (slice (qX z) (l.length+1) cap) (l++[(cnt:Int)])/\Grew w w2):=⟨OwnI.snoc A,y.trans (xE C)⟩
    go_wp2;go_roundg (256-(j+1))
    case measure=>rw[b.out.1];omega
    case rel=>exact⟨j+1,rfl,by omega,by go_num,by rw[d.out];go_num,by rw[d.out];exact p.1,p.2⟩
  ·have ai:j=256:=by omega
   have ac:(256:Int)<=(j:Int):=by omega
   have O:Hid (zB ms j=zB ms 256):=by show _=_;rw[ai]
   go_wp2;go_ret2
   refine⟨slice ao (zB ms j).1.length cap,congrArg (λn:Nat=>Ending.returned (tuple #[slice ao (zB ms j).1.length cap,iX (n:Int)])) (congrArg Prod.snd O),?_,b.2.2⟩;rw[<-O.out];exact b.2.1
def xB (kinds row:List Int)(first:Int):Nat->List Int
 |0=>[]
 |b+1=>if kinds.getD b 0=((xB kinds row first b).length:Int) then xB kinds row first b++[first+row.getD b 0] else xB kinds row first b
theorem zKm (kinds row:List Int)(first:Int)(b:Nat):(xB kinds row first b).length<=b:=by
 induction b with
 |zero=>exact lQ
 |succ b a=>
  rw[xB];split
  ·simp;omega
  ·omega
theorem zIS (w:World)(S:Nat->Prop)(p:Nat)(m rv:Value)(kinds row:List Int)(first:Nat)(o:w.cell? ⟨p,6,none⟩=some m)(D:p<w.heap.size)(r:∀k,S k->k<w.heap.size)(E:Ints w S m kinds)(F:Ints w S rv row)(G:kinds.length=256)(H:row.length=256)(ak:first<=200)(I:∀i,i<256->0<=row.getD i 0/\row.getD i 0<=200):
  Calls prog 99 #[pX p,rv,iX first] w λe w'=>∃u,e=returned u/\OwnI w' w.heap.size u (xB kinds row first 256)/\Grew w w':=by
 have ⟨J,K,L,M,N⟩:=info_parts yG;obtain⟨s,ok,al,rfl,O,_,_,t⟩:=E.block (by omega);obtain⟨v,am,an,rfl,P,_,_,y⟩:=F.block (by omega);rw[G] at o t;rw[H] at y ⊢;have R:=vl t;have T:=vl y;have U:=r s O;have V:=r v P;have W:=vl I;go_in;go_wp2;go_loopg [7,12] 256 (λq X i wr=>∃j:Nat,q=256-j/\j<=256/\i=iX (j:Int)/\OwnI wr w.heap.size X (xB kinds row first j)/\Grew w wr)
 case atStart=>exact⟨0,rfl,lX,rfl,OwnI.nil _ _,Keep.refl _ _ _⟩
 case round=>
  obtain⟨j,Y,ap,rfl,z,a⟩:=hrel;have b:Hid (gk=256-j/\Grew w wr):=⟨Y,a⟩
  have aq:=zKm kinds row first j
  have ⟨ao,cap,aa⟩:=z.form;subst aa;have ab:=a.size;have c:=vl z;by_cases f:j<256
  ·have ac:(j:Int)<256:=by omega
   have ar:=(gY (a.block p D (by omega))).trans o;have au:=(gY (a.block s U (by omega))).trans (R j f);have av:=(gY (a.block v V (by omega))).trans (T j f);have ⟨aw,ax⟩:=W j f;have A:Hid (xB kinds row first (j+1)=if kinds.getD j 0=((xB kinds row first j).length:Int) then xB kinds row first j++[first+row.getD j 0] else xB kinds row first j):=rfl;generalize xB kinds row first j=l at *
   generalize kinds.getD j 0=g at *;generalize row.getD j 0=x at *;by_cases d:g=(l.length:Int)
   ·have ad:(g==(l.length:Int))=true:=by simpa using d
    have h:Hid (xB kinds row first (j+1)=l++[first+x]):=by show _=_;rw[A.out,if_pos d]
    go_wp2_with (at_builtin;refine wpList_append_lies _ rfl _ _ 45 rfl (w.heap.size) 3 J zX 1 8 underlying45 K L M N rfl (by decide) _ _ _ rfl (c.alloc _) ⟨wr.heap.size,0,none⟩ 1 1 [iX ((first:Int)+x)] rfl rfl (cell_one_new _ _ _) (by intro u B;simp at B;subst B;rfl) (by decide) (by unfold maxLen;omega) (by omega) (by simp;omega) _ rfl ?_;intro ae cap w2 af ag ay az;have ah:=xH c ag ab)
    have C:Hid (OwnI w2 w.heap.size (slice (qX ae) (l.length+1) cap) (l++[(first:Int)+x])/\Grew w w2):=⟨OwnI.snoc af,b.2.trans (xE ah)⟩
    go_wp2;go_roundg (256-(j+1))
    case measure=>rw[b.out.1];omega
    case rel=>exact⟨j+1,rfl,by omega,by go_num,by rw[h.out];exact C.1,C.2⟩
   ·have ad:(g==(l.length:Int))=false:=by simpa using d
    have h:Hid (xB kinds row first (j+1)=l):=by show _=_;rw[A.out,if_neg d]
    go_wp2;go_roundg (256-(j+1))
    case measure=>rw[b.out.1];omega
    case rel=>exact⟨j+1,rfl,by omega,by go_num,by rw[h.out];exact c,b.2⟩
  ·have ai:j=256:=by omega
   have ac:(256:Int)<=(j:Int):=by omega
   have aj:Hid (xB kinds row first j=xB kinds row first 256):=by show _=_;rw[ai]
   generalize xB kinds row first j=l at *
   go_wp2;go_ret;exact⟨_,rfl,by rw[<-aj.out];exact c,b.2⟩
section
variable {w w2:World} {H p g cap:Nat} {c:Tc} {kinds acts pushed starts ends:List Int}
def Rest (w:World)(p:Nat)(c:Tc)(k:Nat):Prop:=k<w.heap.size/\k≠p/\some k≠c.starts.ownBlock/\some k≠c.next.ownBlock/\some k≠c.ends.ownBlock
def Fin (w:World)(S:Nat->Prop)(H:Nat)(v:Value)(l:List Int):Prop:=OwnI w H v l/\∀g,v.ownBlock=some g->S g
theorem Fin.keep {w w':World}{S c:Nat->Prop}{H:Nat}{v:Value}{l:List Int}(a:Fin w S H v l)(e:∀k,H<=k->S k->w'.heap[k]? =w.heap[k]? /\c k):Fin w' c H v l:=
 ⟨zD a.1 λg d _ b=>(e g d (a.2 g b)).1,λg b=>(e g (a.1.lt g b).1 (a.2 g b)).2⟩
theorem Fin.ints {S:Nat->Prop}{H:Nat}{v:Value}{l:List Int}(a:Fin w S H v l):Ints w S v l:=zCL a.1 a.2
structure Gt (w:World)(H p:Nat)(c:Tc)(kinds acts pushed starts ends:List Int)(next:List (List Int)):Prop where
 tp:zW w p c
 starts:OwnI w H c.starts starts
 ends:OwnI w H c.ends ends
 next:∃rv:Nat->Value,w.ownsRow H 45 1 c.next next.length ((List.range next.length).map rv)/\∀i,i<next.length->Fin w (Rest w p c) H (rv i) (next.getD i [])
 kinds:Fin w (Rest w p c) H c.kinds kinds
 acts:Fin w (Rest w p c) H c.acts acts
 pushed:Fin w (Rest w p c) H c.pushed pushed
 HH:H<=w.heap.size
 sep:∀g,c.starts.ownBlock=some g->c.ends.ownBlock≠some g
theorem Gt.grown {w w':World}{H p:Nat}{c:Tc}{kinds acts pushed starts ends:List Int}{next:List (List Int)}(a:Gt w H p c kinds acts pushed starts ends next)(f:Grew w w'):Gt w' H p c kinds acts pushed starts ends next:=by
 have j:=a.HH;have l:=a.tp.lt;have b:∀k,k<w.heap.size->w'.heap[k]? =w.heap[k]? :=λk m=>f.block k m (by omega);have e:∀k,H<=k->Rest w p c k->w'.heap[k]? =w.heap[k]? /\Rest w' p c k:=λk _ g=>⟨b k g.1,lZ g.1 f.size,g.2⟩
 have ⟨rv,o,q⟩:=a.next
 exact⟨a.tp.of_block (b p l),zD a.starts λk _ d _=>b k d,zD a.ends λk _ d _=>b k d,⟨rv,zD o λk _ d _=>b k d,λi r=>(q i r).keep e⟩,a.kinds.keep e,a.acts.keep e,a.pushed.keep e,lY j f.size,a.sep⟩
structure Turn (H p:Nat)(w:World)(c:Tc)(w':World)(c':Tc):Prop where
 rest:∀k,H<=k->Rest w p c k->w'.heap[k]? =w.heap[k]? /\Rest w' p c' k
 keep:Keep H p w w'
 same:c'={c with starts:=c'.starts,next:=c'.next,ends:=c'.ends}
theorem Turn.refl (H p:Nat)(w:World)(c:Tc):Turn H p w c w c:=⟨λ_ _ a=>⟨rfl,a⟩,Keep.refl _ _ _,rfl⟩
theorem Turn.trans {w w' e:World}{c f g:Tc}(a:Turn H p w c w' f)(k:Turn H p w' f e g):Turn H p w c e g:=
 ⟨λi b d=>⟨((k.rest i b (a.rest i b d).2).1).trans (a.rest i b d).1,(k.rest i b (a.rest i b d).2).2⟩,a.keep.trans k.keep,k.same.trans (by rw[a.same])⟩
theorem Turn.grown {w w':World}{c:Tc}(b:Grew w w')(d:H<=w.heap.size):Turn H p w c w' c:=
 ⟨λk _ a=>⟨b.block k a.1 (by have:=a.1;omega),lZ a.1 b.size,a.2⟩,b.lower d d,rfl⟩
theorem yD {H e a b c n m:Nat}{v u:Value}{xs d:List Value}(f:w.ownsRow H e b v n xs)(j:w.ownsRow H a c u m d)(k:e≠a){g:Nat}(l:v.ownBlock=some g):some g≠u.ownBlock:=λo=>zDf f j k l o.symm
theorem jR {H b e g n:Nat}{c:Tc}{v:Value}{xs:List Value}(a:zW w b c)(j:w.ownsRow H e g v n xs)(k:e≠90):some b≠v.ownBlock:=by
 intro d;rcases j.2 with⟨f,_⟩|⟨l,_,q,f,_,m,_⟩
 ·rw[f] at d;cases d
 ·rw[f] at d
  have o:b=l:=by simpa[Value.ownBlock] using d
  subst o;unfold zW at a;rw[m] at a;injection a with a;injection a with _ p _;exact k p
theorem zC (w:World)(a:Addr)(v:Value):(w.setCell a v).heap.size=w.heap.size:=by simp[World.setCell]
theorem Gt.starts_app {next:List (List Int)}{x:Int}(a:Gt w H p c kinds acts pushed starts ends next)
  (G:OwnI w2 H (slice (qX g) (starts.length+1) cap) (starts++[x])) (m:∀k,k<w.heap.size->some k≠c.starts.ownBlock->w2.heap[k]? =w.heap[k]?) (I:w.heap.size<=w2.heap.size) (s:w2.os=w.os/\w2.output=w.output) (t:c.starts.ownBlock=some g\/w.heap.size<=g):
  Gt (w2.setCell ⟨p,3,none⟩ (slice (qX g) (starts.length+1) cap)) H p {c with starts:=slice (qX g) (starts.length+1) cap} kinds acts pushed (starts++[x]) ends next/\Turn H p w c (w2.setCell ⟨p,3,none⟩ (slice (qX g) (starts.length+1) cap)) {c with starts:=slice (qX g) (starts.length+1) cap}:=by
 have J:=a.tp.lt;have T:=a.HH;have ⟨K,u,L⟩:=a.next
 have y:=G.raw;have A:=m p J (jR a.tp a.starts.raw (by decide));have M:g≠p:=λe=>by
  subst e;exact jR (a.tp.of_block A) y (by decide) rfl
 have o:∀k,k≠p->(w2.setCell ⟨p,3,none⟩ (slice (qX g) (starts.length+1) cap)).heap[k]? =w2.heap[k]? :=λk b=>lJ _ _ _ _ b;have f:∀k,H<=k->Rest w p c k->(w2.setCell ⟨p,3,none⟩ (slice (qX g) (starts.length+1) cap)).heap[k]? =w.heap[k]? /\Rest (w2.setCell ⟨p,3,none⟩ (slice (qX g) (starts.length+1) cap)) p {c with starts:=slice (qX g) (starts.length+1) cap} k:=by
  rintro k b ⟨B,C,d,N,O⟩;refine⟨(o k C).trans (m k B d),by rw[zC];omega,C,?_,N,O⟩;intro e;have j:k=g:=by simpa[Value.ownBlock] using e
  subst j;rcases t with l|l
  ·exact d l.symm
  ·omega
 have D:∀{e E n v xs},w.ownsRow H e E v n xs->e≠90->(∀k,v.ownBlock=some k->some k≠c.starts.ownBlock)->(w2.setCell ⟨p,3,none⟩ (slice (qX g) (starts.length+1) cap)).ownsRow H e E v n xs:=λF q P=>zD F λk _ d b=>(o k (λr=>jR a.tp F q (by rw[b,r]))).trans (m k d (P k b));have R:=zD (w':=(w2.setCell ⟨p,3,none⟩ (slice (qX g) (starts.length+1) cap))) y λk _ _ b=>o k (λr=>M (by have j:g=k:=(by simpa[Value.ownBlock] using b);rw[j,r]));refine⟨?_,f,⟨s.1,s.2,by rw[zC];exact I,λk B d=>(o k d).trans (m k (by omega) λe=>by have:=(a.starts.raw.lt k e.symm).1;omega)⟩,rfl⟩;refine⟨(a.tp.of_block A).set_starts _,?_,D a.ends (by decide) λk b e=>a.sep k e.symm b,⟨K,D u (by decide) λk b=>yD u a.starts.raw (by decide) b,λi S=>(L i S).keep f⟩,a.kinds.keep f,a.acts.keep f,a.pushed.keep f,by rw[zC];omega,?_⟩
 ·exact R
 intro k b;have j:g=k:=by simpa[Value.ownBlock] using b
 subst j;intro q;rcases t with l|l
 ·exact a.sep g l q
 ·have:=(a.ends.lt g q).2
  omega
theorem Gt.ends_app {next:List (List Int)}{x:Int}(a:Gt w H p c kinds acts pushed starts ends next)
  (I:OwnI w2 H (slice (qX g) (ends.length+1) cap) (ends++[x])) (m:∀k,k<w.heap.size->some k≠c.ends.ownBlock->w2.heap[k]? =w.heap[k]?) (J:w.heap.size<=w2.heap.size) (s:w2.os=w.os/\w2.output=w.output) (t:c.ends.ownBlock=some g\/w.heap.size<=g):
  Gt (w2.setCell ⟨p,9,none⟩ (slice (qX g) (ends.length+1) cap)) H p {c with ends:=slice (qX g) (ends.length+1) cap} kinds acts pushed starts (ends++[x]) next/\Turn H p w c (w2.setCell ⟨p,9,none⟩ (slice (qX g) (ends.length+1) cap)) {c with ends:=slice (qX g) (ends.length+1) cap}:=by
 have K:=a.tp.lt;have T:=a.HH;have ⟨L,u,M⟩:=a.next
 have y:=I.raw;have A:=m p K (jR a.tp a.ends.raw (by decide));have N:g≠p:=λe=>by
  subst e;exact jR (a.tp.of_block A) y (by decide) rfl
 have o:∀k,k≠p->(w2.setCell ⟨p,9,none⟩ (slice (qX g) (ends.length+1) cap)).heap[k]? =w2.heap[k]? :=λk b=>lJ _ _ _ _ b;have d:∀k,H<=k->Rest w p c k->(w2.setCell ⟨p,9,none⟩ (slice (qX g) (ends.length+1) cap)).heap[k]? =w.heap[k]? /\Rest (w2.setCell ⟨p,9,none⟩ (slice (qX g) (ends.length+1) cap)) p {c with ends:=slice (qX g) (ends.length+1) cap} k:=by
  rintro k b ⟨B,C,f,O,D⟩;refine⟨(o k C).trans (m k B D),by rw[zC];omega,C,f,O,?_⟩;intro e;have j:k=g:=by simpa[Value.ownBlock] using e
  subst j;rcases t with l|l
  ·exact D l.symm
  ·omega
 have E:∀{e F n v xs},w.ownsRow H e F v n xs->e≠90->(∀k,v.ownBlock=some k->some k≠c.ends.ownBlock)->(w2.setCell ⟨p,9,none⟩ (slice (qX g) (ends.length+1) cap)).ownsRow H e F v n xs:=λG q P=>zD G λk _ f b=>(o k (λr=>jR a.tp G q (by rw[b,r]))).trans (m k f (P k b));have R:=zD (w':=(w2.setCell ⟨p,9,none⟩ (slice (qX g) (ends.length+1) cap))) y λk _ _ b=>o k (λr=>N (by have j:g=k:=(by simpa[Value.ownBlock] using b);rw[j,r]));refine⟨?_,d,⟨s.1,s.2,by rw[zC];exact J,λk B f=>(o k f).trans (m k (by omega) λe=>by have:=(a.ends.raw.lt k e.symm).1;omega)⟩,rfl⟩;refine⟨(a.tp.of_block A).set_ends _,E a.starts (by decide) λk b e=>a.sep k b e.symm,?_,⟨L,E u (by decide) λk b=>yD u a.ends.raw (by decide) b,λi S=>(M i S).keep d⟩,a.kinds.keep d,a.acts.keep d,a.pushed.keep d,by rw[zC];omega,?_⟩
 ·exact R
 intro k b q;have j:g=k:=by simpa[Value.ownBlock] using q
 subst j;rcases t with l|l
 ·exact a.sep g b l
 ·have:=(a.starts.lt g b).2
  omega
theorem Gt.next_app {next:List (List Int)}{u:Value}{l:List Int}(a:Gt w H p c kinds acts pushed starts ends next)
  (rv:Nat->Value) (J:∀i,i<next.length->Fin w (Rest w p c) H (rv i) (next.getD i [])) (K:Fin w (Rest w p c) H u l) (L:w2.ownsRow H 45 1 (slice (qX g) (next.length+1) cap) (next.length+1) ((List.range next.length).map rv++[u])) (j:∀k,k<w.heap.size->some k≠c.next.ownBlock->w2.heap[k]? =w.heap[k]?) (M:w.heap.size<=w2.heap.size) (x:w2.os=w.os/\w2.output=w.output) (N:c.next.ownBlock=some g\/w.heap.size<=g):
  Gt (w2.setCell ⟨p,8,none⟩ (slice (qX g) (next.length+1) cap)) H p {c with next:=slice (qX g) (next.length+1) cap} kinds acts pushed starts ends (next++[l])/\Turn H p w c (w2.setCell ⟨p,8,none⟩ (slice (qX g) (next.length+1) cap)) {c with next:=slice (qX g) (next.length+1) cap}:=by
 have O:=a.tp.lt;have V:=a.HH;have ⟨W,m,X⟩:=a.next
 have y:=L;have A:=j p O (jR a.tp m (by decide));have P:g≠p:=λe=>by
  subst e;exact jR (a.tp.of_block A) y (by decide) rfl
 have o:∀k,k≠p->(w2.setCell ⟨p,8,none⟩ (slice (qX g) (next.length+1) cap)).heap[k]? =w2.heap[k]? :=λk b=>lJ _ _ _ _ b;have d:∀k,H<=k->Rest w p c k->(w2.setCell ⟨p,8,none⟩ (slice (qX g) (next.length+1) cap)).heap[k]? =w.heap[k]? /\Rest (w2.setCell ⟨p,8,none⟩ (slice (qX g) (next.length+1) cap)) p {c with next:=slice (qX g) (next.length+1) cap} k:=by
  rintro k b ⟨B,C,f,D,R⟩;refine⟨(o k C).trans (j k B D),by rw[zC];omega,C,f,?_,R⟩;intro e;have q:k=g:=by simpa[Value.ownBlock] using e
  subst q;rcases N with E|E
  ·exact D E.symm
  ·omega
 have F:∀{e G n v xs},w.ownsRow H e G v n xs->e≠90->(∀k,v.ownBlock=some k->some k≠c.next.ownBlock)->(w2.setCell ⟨p,8,none⟩ (slice (qX g) (next.length+1) cap)).ownsRow H e G v n xs:=λI S T=>zD I λk _ f b=>(o k (λr=>jR a.tp I S (by rw[b,r]))).trans (j k f (T k b));have U:=zD y λk _ _ b=>o k (λr=>P (by have q:g=k:=(by simpa[Value.ownBlock] using b);rw[q,r]));refine⟨?_,d,⟨x.1,x.2,by rw[zC];exact M,λk B f=>(o k f).trans (j k (by omega) λe=>by have:=(m.lt k e.symm).1;omega)⟩,rfl⟩;refine⟨(a.tp.of_block A).set_next _,F a.starts.raw (by decide) λk b=>yD a.starts.raw m (by decide) b,F a.ends.raw (by decide) λk b=>yD a.ends.raw m (by decide) b,⟨λi=>if i=next.length then u else rv i,?_,?_⟩,a.kinds.keep d,a.acts.keep d,a.pushed.keep d,by rw[zC];omega,a.sep⟩
 ·have e:(List.range (next++[l]).length).map (λi=>if i=next.length then u else rv i)=(List.range next.length).map rv++[u]:=by
   rw[kX,List.length_singleton,xQ,if_pos rfl]
   congr 1
   exact List.map_congr_left λi s=>if_neg (by have:=List.mem_range.1 s;omega)
  rw[e,kX];exact U
 ·intro i s
  rw[kX,List.length_singleton] at s;by_cases e:i=next.length
  ·subst e
   simp only[if_true];have t:(next++[l]).getD next.length []=l:=by simp
   rw[t];exact K.keep d
  ·show Fin _ _ _ (if i=next.length then u else rv i) _
   rw[if_neg e];have t:(next++[l]).getD i []=next.getD i []:=by
    rw[lW,kW (by omega),<-lW]
   rw[t];exact(J i (by omega)).keep d
end
section
attribute [local go_sem ↓] Go.wp_at_zero Go.wp_at_succ
def qK (rules:Nat)(r:Int):Int:=if r=-1 then r else r+rules
theorem zQV (J w:World)(H p K:Nat)(c0 c:Tc)(kinds acts pushed starts ends:List Int)(next:List (List Int))(P:Gt w H p c kinds acts pushed starts ends next)(ak rv al:Value)(S:Nat->Prop)(a:List Int)(am:w.heap[K]? =some (.cells #[ak,rv,al] 127))(an:Ints w S rv a)(ao:∀k,S k->k<H/\k≠p)(ap:Turn H p J c0 w c)
  (rules:Nat) (bW:rules<=8) (bX:ends.length+a.length<=200) (aq:∀i,i<a.length->-1<=a.getD i 0/\a.getD i 0<=8)
  {au av aw ax ay az aA aB aC aD aE aF aG aH aI aJ aK aL aM aN aO aP aQ aR aS aT aU aV aW aX aY aZ a0 a1 a2 a3 a4 a5 a6 a7 a8 a9 ba bb bc bd be bf bg bh bi bj bk bl bm bn bo bp bq bs bt bu bv bw bz bA bB bC bD bE:Value}:
  Code.wp prog (xO 4 ((f64.body).getD .skip)) (bodyPost prog f64 λe w'=>e=rX/\∃d,Gt w' H p d kinds acts pushed starts (ends++a.map (qK rules)) next/\Turn H p J c0 w' d)
   ⟨(pX p::au::iX rules::av::pX K::aw::ax::ay::az::aA::aB::aC::aD::aE::aF::aG::aH::aI::aJ::aK::aL::aM::aN::aO::aP::aQ::aR::aS::aT::aU::aV::aW::aX::aY::aZ::a0::a1::a2::a3::a4::a5::a6::a7::a8::a9::ba::bb::bc::bd::be::bf::bg::bh::bi::bj::bk::bl::bm::bn::bo::bp::bq::bs::bt::bu::bv::bw::bz::bA::bB::bC::bD::bE::[]).toArray,[]⟩ w:=by
 conv=>arg 2;whnf
 have ⟨R,T,U,V,W⟩:=info_parts yG;obtain⟨bF,bG,rfl,bY,bZ,bH⟩:=an;have bI:=vl bH;have X:Hid (Gt w H p c kinds acts pushed starts ends next/\Turn H p J c0 w c):=⟨P,ap⟩
 have bJ:=vl aq;have b0:cX w K 1=some (slice bF a.length bG):=by simp[World.cell?,am]
 have b3:=P.HH;go_wp2;go_loopg [53] a.length (λq i wr=>∃(j:Nat) (l:Tc),q=a.length-j/\j<=a.length/\i=iX (j:Int)/\Gt wr H p l kinds acts pushed starts (ends++(a.take j).map (qK rules)) next/\Turn H p w c wr l)
 case atStart=>exact⟨0,c,rfl,lX,rfl,by rw[List.take_zero,List.map_nil,dQ];exact X.1,Turn.refl _ _ _ _⟩
 case round=>
  obtain⟨j,l,Y,b4,rfl,b,L⟩:=hrel;have v:Hid (gk=a.length-j/\Gt wr H p l kinds acts pushed starts (ends++(a.take j).map (qK rules)) next/\Turn H p w c wr l):=⟨Y,b,L⟩
  by_cases B:j<a.length
  ·have bK:(j:Int)<(a.length:Int):=by omega
   obtain⟨aa,b5,rfl,bL,bM⟩:=bI j B;have ⟨s1,s2⟩:=ao aa bL;have b6:=(gY (L.keep.block aa s1 s2)).trans bM;have ⟨m,o,C⟩:=b.ends.form;have ab:cX wr p 9=some (slice m (ends++(a.take j).map (qK rules)).length o):=by rw[<-C];exact b.tp.get_ends
   have ac:=b.tp.fz 9;have bN:Hid (ends++(a.take (j+1)).map (qK rules)=(ends++(a.take j).map (qK rules))++[qK rules (a.getD j 0)]):=by
    show _=_;rw[List.take_succ_eq_append_getElem B,List.map_append,gQ,lW,lV B];rfl
   have b7:(ends++(a.take j).map (qK rules)).length<=200:=by
    rw[kX,kV,List.length_take];omega
   have ad:Hid (wr.ownsRow H 3 1 (slice m (ends++(a.take j).map (qK rules)).length o) (ends++(a.take j).map (qK rules)).length ((ends++(a.take j).map (qK rules)).map λx=>iX x)):=by have:=b.ends;rw[C] at this;exact this
   have af:=vl C;have b8:=b.HH;have D:=b.tp.lt;have bO:some p≠Value.ownBlock (slice m (ends++(a.take j).map (qK rules)).length o):=by rw[<-C];exact jR b.tp b.ends.raw (by decide)
   have ag:=vl bO;have ⟨b9,b2⟩:=bJ j B;generalize ca:ends++(a.take j).map (qK rules)=le at *;generalize a.getD j 0=x at *;have fin:∀(w2:World) (g cap:Nat) (y:Int),y=qK rules x->w2.ownsRow H 3 1 (slice (qX g) (le.length+1) cap) (le.length+1) ((le.map λx=>iX x)++[iX y])->(wr.alloc (.cells #[iX y] 3)).grownBy w2 (Value.ownBlock (slice m le.length o))->(Value.ownBlock (slice m le.length o)=some g\/g=(wr.alloc (.cells #[iX y] 3)).heap.size)->
     ∃d,Gt (w2.setCell ⟨p,9,none⟩ (slice (qX g) (le.length+1) cap)) H p d kinds acts pushed starts (ends++(a.take (j+1)).map (qK rules)) next/\Turn H p w c (w2.setCell ⟨p,9,none⟩ (slice (qX g) (le.length+1) cap)) d:=by
    intro w2 g cap y bP bQ E z;have f:=Gt.ends_app v.2.1 (w2:=w2) (g:=g) (cap:=cap) (x:=y) (OwnI.snoc bQ) (λk bR bS=>(E.block k (by simp;omega) (by rw[<-af.out];exact bS)).trans (lG _ _ _ bR)) (lY (by simp) E.size) ⟨E.os,E.output⟩ (by
     rw[af.out];rcases z with z|z
     ·exact .inl z
     ·right;rw[z];simp)
    rw[bN.out,<-bP];exact⟨_,f.1,v.2.2.trans f.2⟩
   have ah:=vl fin;by_cases r:x=-1
   ·have bT:(x != -1)=false:=by simp[r]
    have M:Hid (x=qK rules x):=by show _=_;rw[qK,if_pos r]
    clear r;go_wp2_with (at_builtin;refine wpList_append_lies _ rfl _ _ 45 rfl (H) 3 R zX 1 8 underlying45 T U V W rfl (by decide) _ _ _ rfl (ad.alloc _) ⟨wr.heap.size,0,none⟩ 1 1 [iX x] rfl rfl (cell_one_new _ _ _) (by intro u A;simp at A;subst A;rfl) (by decide) (by unfold maxLen;omega) (by omega) (by simp;omega) _ rfl ?_;intro N cap w2 F s G bU;have t:=s.block p (by simp;omega) ag;have ai:=(gY t).trans ((gV _ _ _ D).trans ab);have aj:=(gW t).trans ((frozen?_alloc_past _ _ _ D).trans ac);have I:=ah w2 N cap x M F s G)
    have O:Hid _:=I;go_wp2;go_roundg (a.length-(j+1))
    case measure=>rw[v.out.1];omega
    case rel=>exact O.elim λd f=>⟨j+1,d,rfl,by omega,by go_num,f⟩
   ·have bT:(x != -1)=true:=by simpa using r
    have M:Hid (x+rules=qK rules x):=by show _=_;rw[qK,if_neg r]
    clear r;go_wp2_with (at_builtin;refine wpList_append_lies _ rfl _ _ 45 rfl (H) 3 R zX 1 8 underlying45 T U V W rfl (by decide) _ _ _ rfl (ad.alloc _) ⟨wr.heap.size,0,none⟩ 1 1 [iX (x+(rules:Int))] rfl rfl (cell_one_new _ _ _) (by intro u A;simp at A;subst A;rfl) (by decide) (by unfold maxLen;omega) (by omega) (by simp;omega) _ rfl ?_;intro N cap w2 F s G bU;have t:=s.block p (by simp;omega) ag;have ai:cX w2 p 9=some (slice m le.length o):=(gY t).trans ((gV _ _ _ D).trans ab);have aj:w2.frozen? ⟨p,9,none⟩=false:=(gW t).trans ((frozen?_alloc_past _ _ _ D).trans ac);have I:=ah w2 N cap (x+(rules:Int)) M F s G)
    have O:Hid _:=I;clear I F s G t ai aj;go_wp2_with fail;go_roundg (a.length-(j+1))
    case measure=>rw[v.out.1];omega
    case rel=>exact O.elim λd f=>⟨j+1,d,rfl,by omega,by go_num,f⟩
  ·have bK:(a.length:Int)<=(j:Int):=by omega
   have bV:Hid (Gt wr H p l kinds acts pushed starts (ends++a.map (qK rules)) next):=by
    have f:=b;rw[List.take_of_length_le (by omega)] at f;exact f
   clear Y b L;go_wp2_with fail;go_end0;exact⟨rfl,l,bV,X.2.trans v.2.2⟩
end
section
attribute [local go_sem ↓] Go.wp_at_zero Go.wp_at_succ
theorem zQW (J w:World)(H p x:Nat)(c0 c:Tc)(kinds acts pushed starts ends:List Int)(next:List (List Int))(ac:Gt w H p c kinds acts pushed starts ends next)(ar rv O:Value)(S:Nat->Prop)(s:List Int)(d:List (List Int))(ad:w.heap[x]? =some (.cells #[ar,rv,O] 127))(af:H<=x/\Rest w p c x)(aN:IntRows w S ar d)(au:Ints w S rv s)(A:∀k,S k->k<H/\k≠p)(av:Turn H p J c0 w c)
  (rules first:Nat) (aO:rules<=8) (aP:ends.length+s.length<=200) (aw:∀i,i<s.length->-1<=s.getD i 0/\s.getD i 0<=8)
  (aQ:first<=200) (cK:next.length+d.length<=200) (m:kinds.length=256) (ax:∀i,i<d.length->(d.getD i []).length=256/\∀b,b<256->0<=(d.getD i []).getD b 0/\(d.getD i []).getD b 0<=200)
  {aR aS aT aU aV aW aX aY aZ a0 a2 a3 a4 a5 a6 a7 a8 a9 ba bb bc bd be bf bg bh bi bj bl bm bn bo bp bq bs bt bu bv bw bz bA bB bC bD bE bF bG bH bI bJ bK bL bM bN bO bP bQ bR bS bT bU bV bW bX bY bZ b0 b1 b3:Value}:
  Code.wp prog (xO 3 ((f64.body).getD .skip)) (bodyPost prog f64 λe w'=>e=rX/\∃B,Gt w' H p B kinds acts pushed starts (ends++s.map (qK rules)) (next++d.map λrow=>xB kinds row first 256)/\Turn H p J c0 w' B)
   ⟨(pX p::aR::iX rules::aS::pX x::aT::iX first::aU::aV::aW::aX::aY::aZ::a0::a2::a3::a4::a5::a6::a7::a8::a9::ba::bb::bc::bd::be::bf::bg::bh::bi::bj::bl::bm::bn::bo::bp::bq::bs::bt::bu::bv::bw::bz::bA::bB::bC::bD::bE::bF::bG::bH::bI::bJ::bK::bL::bM::bN::bO::bP::bQ::bR::bS::bT::bU::bV::bW::bX::bY::bZ::b0::b1::b3::[]).toArray,[]⟩ w:=by
 conv=>arg 2;whnf
 refine wp_seq_k ?_;intro b4 hK0;have b5:Hid (∀a w,_->b4 a w):=hK0;clear hK0;have ⟨b6,b7,b8,b9,ca⟩:=info_parts zEp;obtain⟨P,ag,rfl,cL,cM,ay⟩:=aN;have az:Hid (∀i,i<d.length->∃b o u,P=some ⟨b,o,none⟩/\S b/\cX w b (o+i)=some u/\Ints w S u (d.getD i [])):=ay;have L:Hid (Gt w H p c kinds acts pushed starts ends next/\Turn H p J c0 w c/\Ints w S rv s/\w.heap[x]? =some (.cells #[slice P d.length ag,rv,O] 127)/\Rest w p c x):=⟨ac,av,au,ad,af.2⟩
 have cb:Hid (∀i,i<d.length->(d.getD i []).length=256/\∀b,b<256->0<=(d.getD i []).getD b 0/\(d.getD i []).getD b 0<=200):=ax;have cc:Hid (∀i,i<s.length->-1<=s.getD i 0/\s.getD i 0<=8):=aw;have cd:Hid (kinds.length=256):=m;have cf:cX w x 0=some (slice P d.length ag):=by simp[World.cell?,ad]
 have cN:=ac.HH;have cg:=af.1;clear ay ac ad av aw au af m ax;go_wp2_with fail;clear cf;go_loopg [32] d.length (λq i wr=>∃(j:Nat) (f:Tc),q=d.length-j/\j<=d.length/\i=iX (j:Int)/\Gt wr H p f kinds acts pushed starts ends (next++(d.take j).map λrow=>xB kinds row first 256)/\Turn H p w c wr f)
 case atStart=>exact⟨0,c,rfl,lX,rfl,by rw[List.take_zero,List.map_nil,dQ];exact L.1,Turn.refl _ _ _ _⟩
 case round=>
  obtain⟨j,f,ah,cO,rfl,v,z⟩:=hrel;have M:Hid (gk=d.length-j/\Gt wr H p f kinds acts pushed starts ends (next++(d.take j).map λrow=>xB kinds row first 256)/\Turn H p w c wr f):=⟨ah,v,z⟩
  by_cases N:j<d.length
  ·have ch:(j:Int)<(d.length:Int):=by omega
   obtain⟨ai,ci,u,rfl,ck,D,cl⟩:=az j N;have ⟨s1,s2⟩:=A ai ck;obtain⟨cP,cQ,aj,_⟩:=cl;have ak:=cb j N;have cm:cX wr ai (ci+j)=some u:=(gY (z.keep.block ai s1 s2)).trans D;rw[aj] at cm;have aA:Ints wr S u (d.getD j []):=(az j N).elim λb l=>l.elim λo l=>l.elim λcR l=>by
    obtain⟨C,cS,co,cp⟩:=l;injection C with C;injection C with cq cr;subst cq cr;rw[co] at D;injection D with D;subst D;exact cp.keep λk m=>z.keep.block k (A k m).1 (A k m).2
   have ⟨R,T,aB⟩:=v.next
   have ⟨E,F,U⟩:=zF T;have ct:cX wr p 8=some (slice E (next++(d.take j).map λrow=>xB kinds row first 256).length F):=by rw[<-U];exact v.tp.get_next
   have cu:=v.tp.fz 8;have aC:=v.tp.get_kinds;have G:p<wr.heap.size:=v.tp.lt;have cw:Hid (some p≠Value.ownBlock f.next):=jR v.tp T (by decide);have V:H<=wr.heap.size:=v.HH;have cx:Hid ((next++(d.take (j+1)).map λrow=>xB kinds row first 256)=(next++(d.take j).map λrow=>xB kinds row first 256)++[xB kinds (d.getD j []) first 256]):=by
    show _=_;rw[List.take_succ_eq_append_getElem N,List.map_append,gQ,lW,lV N];rfl
   have cT:(next++(d.take j).map λrow=>xB kinds row first 256).length<=200:=by
    rw[kX,kV,List.length_take];omega
   have aD:Hid (∀y,y.Alike wr->Ca 99 #[pX p,u,iX first] y λe w'=>∃u,e=returned u/\OwnI w' y.heap.size u (xB kinds (d.getD j []) first 256)/\Grew y w'):=by
    intro y W;have al:∀k:Nat,y.heap[k]? =wr.heap[k]? :=λk=>by rw[W.1]
    exact zIS y (λk=>k<y.heap.size) p f.kinds u kinds (d.getD j []) first ((gY (al p)).trans aC) (by rw[W.1];exact G) (λk l=>l) ((v.kinds.ints.keep λk _=>al k).mono λk m=>by rw[W.1];exact m.1) ((aA.keep λk _=>al k).mono λk m=>by rw[W.1];exact lZ (A k m).1 V) cd ak.1 aQ ak.2
   rw[aj] at aD;have aE:Hid (wr.ownsRow H 45 1 (slice E (next++(d.take j).map λrow=>xB kinds row first 256).length F) (next++(d.take j).map λrow=>xB kinds row first 256).length ((List.range (next++(d.take j).map λrow=>xB kinds row first 256).length).map R)):=by have:=T;rw[U] at this;exact this
   have X:Hid (f.next=slice E (next++(d.take j).map λrow=>xB kinds row first 256).length F):=U;have cy:Hid (∀i,i<(next++(d.take j).map λrow=>xB kinds row first 256).length->Fin wr (Rest wr p f) H (R i) ((next++(d.take j).map λrow=>xB kinds row first 256).getD i [])):=aB;clear ah v z U D T aB aA aj aC ak;generalize cz:(next++(d.take j).map λrow=>xB kinds row first 256)=le at *;clear cz;generalize d.getD j []=row at *;generalize xB kinds row first 256=Y at *
   go_wp2_with fail;go_region_law ((first
    |(refine step_append_lies _ (by rfl) (.tmp 40) (.tmp 45) 88 (by rfl) H 45 b6 _ 1 24 underlying88 b7 b8 b9 ca rfl (by decide) (slice E le.length F) le.length ((List.range le.length).map R) (by simp[Act.eval,Act.put]) (aF.alloc _) ⟨w1.heap.size,0,none⟩ 1 1 [slice am Y.length c1] (by simp[Act.eval,Act.put]) (by rfl) (news_of_block (cs:=#[slice am Y.length c1]) (t:=45) (fr:=(0,0)) (gZ w1 _)) (by simp[Value.oneCell']) (by decide) (by unfold maxLen;omega) (by omega) (by simp;omega) (w1.heap.size+1) (by simp) ?_;intro ao cap w2 aG I aH cU;have ap:=I.block p (by simp;omega) (by rw[<-X.out];exact cw);have cA:cX w2 p 8=some (slice E le.length F):=(gY ap).trans ((gV _ _ _ aI).trans aJ);have cB:w2.frozen? ⟨p,8,none⟩=false:=(gW ap).trans ((frozen?_alloc_past _ _ _ aI).trans aK))
    |(go_simp;go_at_call 99;refine(aD _ ?_).mono ?_;exact⟨rfl,rfl,rfl⟩;rintro e w1 ⟨cV,rfl,aa,r⟩;have ⟨am,c1,cC⟩:=aa.form;subst cC;have aJ:cX w1 p 8=some (slice E le.length F):=(gY (r.block p G (by exact kJ G))).trans ct;have aK:w1.frozen? ⟨p,8,none⟩=false:=(gW (r.block p G (by exact kJ G))).trans cu;have cW:H<=w1.heap.size:=lY V r.size;have aI:p<w1.heap.size:=lZ G r.size;have aF:=zM (w:=wr) (w':=w1) aE ⟨r.os,r.output,r.size,r.block⟩)))
   all_goals
    have aq:Grew wr w1:=⟨r.os,r.output,r.size,r.block⟩
    have cD:Hid (∃B,Gt (w2.setCell ⟨p,8,none⟩ (slice (qX ao) (le.length+1) cap)) H p B kinds acts pushed starts ends (next++(d.take (j+1)).map λrow=>xB kinds row first 256)/\Turn H p w c (w2.setCell ⟨p,8,none⟩ (slice (qX ao) (le.length+1) cap)) B):=by
     have aL:Turn H p wr f w1 f:=Turn.grown aq V;have cE:∀k,f.next.ownBlock=some k->k<wr.heap.size:=λk m=>(aE.lt k (by rw[<-X.out];exact m)).2
     have cF:Fin w1 (Rest w1 p f) H (slice am Y.length c1) Y:=by
      refine⟨yE aa V,λg cG=>?_⟩;have aM:=aa.lt g cG;have cY:wr.heap.size<=g:=aM.1;refine⟨aM.2,λe=>by omega,λe=>?_,λe=>?_,λe=>?_⟩
      ·have:=(M.2.1.starts.lt g e.symm).2;omega
      ·have:=cE g e.symm;omega
      ·have:=(M.2.1.ends.lt g e.symm).2;omega
     have l:=Gt.next_app (M.2.1.grown aq) R (λi cH=>(cy i cH).keep aL.rest) cF (w2:=w2) (g:=ao) (cap:=cap) aG (λk cI cJ=>(I.block k (by simp;omega) (by rw[<-X.out];exact cJ)).trans (lG _ _ _ cI)) (lY (by simp) I.size) ⟨I.os,I.output⟩ (by
      rw[X.out];rcases aH with C|C
      ·exact .inl C
      ·right;rw[C];omega)
     rw[cx.out];exact⟨_,l.1,(M.2.2.trans aL).trans l.2⟩
    clear aG I aH ap aJ aK cA cB r aq aF aa;go_wp2_with fail;go_roundg (d.length-(j+1))
    case measure=>rw[M.out.1];omega
    case rel=>exact cD.elim λB l=>⟨j+1,B,rfl,by omega,by go_num,l⟩
  ·have ch:(d.length:Int)<=(j:Int):=by omega
   have ab:Hid (Gt wr H p f kinds acts pushed starts ends (next++d.map λrow=>xB kinds row first 256)/\wr.heap[x]? =some (.cells #[slice P d.length ag,rv,O] 127)/\Ints wr S rv s/\Turn H p J c0 wr f):=by
    have l:=v;rw[List.take_of_length_le (by omega)] at l;exact⟨l,((z.rest x cg L.2.2.2.2).1).trans L.2.2.2.1,L.2.2.1.keep λk m=>z.keep.block k (A k m).1 (A k m).2,L.2.1.trans z⟩
   clear ah v z;go_wp2_with fail;apply b5.out;exact zQV J wr H p x c0 f kinds acts pushed starts ends _ ab.1 _ rv O S s ab.2.1 ab.2.2.1 A ab.2.2.2 rules aO aP cc
end
section
attribute [local go_sem ↓] Go.wp_at_zero Go.wp_at_succ
theorem zBt (x:Int)(a:-4611686018427387904<=x)(b:x<=4611686018427387904):IntKind.i64.wrap x=x:=by
 simp[IntKind.wrap,IntKind.signed,IntKind.bits];omega
structure Sm.Fit (m:Sm):Prop where
 rows:∀i,i<m.next.length->(m.next.getD i []).length=256/\∀b,b<256->0<=(m.next.getD i []).getD b 0/\(m.next.getD i []).getD b 0<=200
 rules:∀i,i<m.rules.length->-1<=m.rules.getD i 0/\m.rules.getD i 0<=8
 start0:0<=m.start
 start:m.start<=200
theorem zHp (w:World)(H p:Nat)(c:Tc)(kinds acts pushed starts ends:List Int)(next:List (List Int))(j:Gt w H p c kinds acts pushed starts ends next)(m:Sm)(s rv:Value)(S:Nat->Prop)(E:IntRows w S s m.next)(F:Ints w S rv m.rules)(o:∀k,S k->k<H/\k≠p)
  (rules:Nat) (u:m.Fit) (V:rules<=8) (b:kinds.length=256) (W:next.length+m.next.length<=200) (X:ends.length+m.rules.length<=200) (aE:starts.length<=3):
  Calls prog 64 #[pX p,agg #[s,rv,iX m.start],iX rules] w λe w'=>e=rX/\∃d,Gt w' H p d kinds acts pushed (starts++[(next.length:Int)+m.start]) (ends++m.rules.map (qK rules)) (next++m.next.map λrow=>xB kinds row next.length 256)/\Turn H p w c w' d:=by
 have ⟨Y,aa,ab,ac,ad⟩:=info_parts yG;have l:Hid (Gt w H p c kinds acts pushed starts ends next/\IntRows w S s m.next/\Ints w S rv m.rules):=⟨j,E,F⟩
 obtain⟨G,I,rfl,aF,aG,_⟩:=E;obtain⟨J,K,rfl,aH,aI,_⟩:=F;have ae:=j.tp.lt;have q:=j.HH;have ⟨aJ,af,_⟩:=j.next
 have ⟨ag,ah,ai⟩:=zF af;have ⟨as_,cs,aj⟩:=j.starts.form;have L:cX w p 8=some (slice ag next.length ah):=by rw[<-ai];exact j.tp.get_next
 have r:=vl aj;have ak:=vl b;have aK:=u.start0;have aL:=u.start;have M:Hid m.Fit:=u;go_in;apply wp_cut;intro aM al;go_wp2;apply al.out;apply wp_cut;intro aN am;obtain⟨w1,v,a⟩:∃w1,w1=w.alloc (.cells #[slice G m.next.length I,slice J m.rules.length K,iX m.start] 127)/\Hid (w1.heap[w.heap.size]? =some (.cells #[slice G m.next.length I,slice J m.rules.length K,iX m.start] 127)/\Gt w1 H p c kinds acts pushed starts ends next/\Grew w w1):=⟨_,rfl,gZ w _,l.1.grown (kZ _ _ lQ),kZ _ _ lQ⟩
 have N:w1.heap.size=w.heap.size+1:=by rw[v];simp
 have ao:=vl N;have aO:H<=w1.heap.size:=by omega
 have O:p<w1.heap.size:=by omega
 rw[<-v];have aP:=(gY (a.2.2.block p ae (by omega))).trans L;clear L v N;go_wp2;apply am.out;apply wp_cut;intro aQ ap;have y3:cX w1 p 3=some (slice as_ starts.length cs):=by rw[<-r.out];exact a.2.1.tp.get_starts
 have P:=a.2.1.tp.fz 3;have aq:cX w1 w.heap.size 2=some (iX m.start):=by simp[World.cell?,a.out.1]
 have au:w.heap.size<w1.heap.size:=by rw[ao.out];omega
 have y:w1.ownsRow H 3 1 (slice as_ starts.length cs) starts.length (starts.map λx=>iX x):=by have:=a.2.1.starts;rw[r.out] at this;exact this
 have aR:next.length<=200:=by omega
 have R:=vl <| jR a.2.1.tp y (by decide);go_wp2;go_region_law ((refine step_append_lies _ (by rfl) (.tmp 20) (.tmp 25) 45 (by rfl) H 3 Y _ 1 8 underlying45 aa ab ac ad rfl (by decide) (slice as_ starts.length cs) starts.length (starts.map λx=>iX x) (by simp[Act.eval,Act.put]) ((y.alloc _).drew) ⟨w1.heap.size,0,none⟩ 1 1 [iX (IntKind.i64.wrap ((next.length:Int)+m.start))] (by simp[Act.eval,Act.put]) (by rfl) (news_of_block (cs:=#[iX (IntKind.i64.wrap ((next.length:Int)+m.start))]) (t:=3) (fr:=(0,0)) (gZ w1 _)) (by simp[Value.oneCell']) (by decide) (by unfold maxLen;omega) (by omega) (by simp;omega) (w1.heap.size+1) (by simp) ?_;intro z cap w2 A f T aS;have av:=(gY (f.block p (by simp;omega) R)).trans ((gV _ _ _ O).trans y3);have aw:=(gW (f.block p (by simp;omega) R)).trans ((frozen?_alloc_past _ _ _ O).trans P)))
 all_goals
  have ax:Hid (∃d,(Gt (w2.setCell ⟨p,3,none⟩ (slice (qX z) (starts.length+1) cap)) H p d kinds acts pushed (starts++[(next.length:Int)+m.start]) ends next/\Turn H p w1 c (w2.setCell ⟨p,3,none⟩ (slice (qX z) (starts.length+1) cap)) d)):=by
   rw[zBt ((next.length:Int)+m.start) (by omega) (by omega)] at A;have ay:=Gt.starts_app a.2.1 (w2:=w2) (g:=z) (cap:=cap) (x:=(next.length:Int)+m.start) (OwnI.snoc A) (λk az aA=>(f.block k (by simp;omega) (by rw[<-r.out];exact aA)).trans (lG _ _ _ az)) (lY (by simp) f.size) ⟨f.os,f.output⟩ (by
    rw[r.out];rcases T with B|B
    ·exact .inl B
    ·right;rw[B];omega)
   exact⟨_,ay⟩
  clear A f T av aw y3 P aq y;go_wp2_with fail;apply ap.out;have ⟨d,aB,C⟩:=ax.out;have aC:Turn H p w c w1 c:=Turn.grown a.2.2 q;have D:=aC.trans C;have U:Rest w1 p c w.heap.size:=by
   refine⟨au,λe=>by omega,λe=>?_,λe=>?_,λe=>?_⟩
   ·have:=(l.1.starts.lt _ e.symm).2;omega
   ·have ⟨_,aD,_⟩:=l.1.next
    have:=(aD.lt _ e.symm).2;omega
   ·have:=(l.1.ends.lt _ e.symm).2;omega
  exact zQW w _ H p w.heap.size c d kinds acts pushed _ ends next aB _ _ _ S m.rules m.next (((C.rest _ q U).1).trans a.1) ⟨q,(C.rest _ q U).2⟩ (l.2.1.keep λk b=>D.keep.block k (o k b).1 (o k b).2) (l.2.2.keep λk b=>D.keep.block k (o k b).1 (o k b).2) o D rules next.length V X M.rules (by omega) W ak M.rows
end
structure TabN (w:World)(S:Nat->Prop)(p:Nat)(t:Tb):Prop where
 safe:S p
 c7:w.cell? ⟨p,7,none⟩=some (int i64 t.count)
 c8:∃v,w.cell? ⟨p,8,none⟩=some v/\RowsAt w S v t.nst t.count λi k=>t.next i k
 c9:∃v,w.cell? ⟨p,9,none⟩=some v/\IntsAt w S v t.nst λi=>t.ends i
theorem TabN.keep {w w':World}{S:Nat->Prop}{p:Nat}{t:Tb}(d:TabN w S p t)(e:∀b,S b->w'.heap[b]? =w.heap[b]?):TabN w' S p t:=by
 have c:∀i,cX w' p i=cX w p i:=λi=>gY (e p d.safe);refine⟨d.safe,(c _).trans d.c7,?_,?_⟩
 ·have ⟨v,a,b⟩:=d.c8;exact⟨v,(c _).trans a,b.keep e⟩
 ·have ⟨v,a,b⟩:=d.c9;exact⟨v,(c _).trans a,b.keep e⟩
theorem zDR (p:Nat)(w:World)(S:Nat->Prop)(t:Tb)(a:TabN w S p t):
  Calls prog 118 #[pX p] w λe w'=>e=returned (iX t.count)/\w'=w:=by
 have b:=a.c7;generalize t.count=m at *;go_in;go_wp2;go_ret;exact⟨rfl,rfl⟩
def Tb.willEnd (t:Tb)(s d:Nat)(rest:Nat->Bool):Bool:=if d=t.count then false else(t.ends (t.next s d) != -1)||rest (t.next s d)
theorem zG0 (p:Nat)(w:World)(S:Nat->Prop)(t:Tb)(g:TabN w S p t)(ok:t.OkN)(s a:Nat)(l:s<t.nst)(E:a<=t.count)(b o cap:Nat)(c:Nat->Bool)(j:∀i,i<t.nst->w.cell? ⟨b,o+i,none⟩=some (bool (c i))):
  Calls prog 139 #[pX p,iX s,iX a,slice (some ⟨b,o,none⟩) t.nst cap] w λe w'=>e=returned (bool (t.willEnd s a c))/\w'=w:=by
 have k:=vl g;have F:=vl j;by_cases h:a=t.count
 ·have A:((a:Int)==(t.count:Int))=true:=by simp[h]
  have f:Hid (t.willEnd s a c=false):=if_pos h;go_in;go_wp2_with fail;refine(zDR p w S t k).mono ?_;rintro e w1 ⟨rfl,rfl⟩;go_wp2;go_ret;exact⟨vG f.symm,rfl⟩
 ·have A:((a:Int)==(t.count:Int))=false:=by rw[hX];omega
  have m:a<t.count:=by omega
  have f:Hid (t.willEnd s a c=((t.ends (t.next s a) != -1)||c (t.next s a))):=if_neg h;obtain⟨_,G,H,I,J,K,rfl,L,M,q⟩:=g.c8;obtain⟨u,N,b2,B,O,P,rfl,R,T,r⟩:=q s l;obtain⟨_,U,C,D,V,W,rfl,X,Y,v⟩:=g.c9;have y:=ok.next s a l m
  have aa:cX w b2 (B+a)=some (iX (t.next s a:Nat)):=r a m;have ab:cX w C (D+t.next s a)=some (iX (t.ends (t.next s a))):=v _ y;have ac:cX w b (o+t.next s a)=some (bool (c (t.next s a))):=j _ y;clear q r v g j ok h;generalize t.next s a=to at *
  generalize t.ends to=x at *;generalize c to=ad at *;generalize t.nst=n at *;have ae:(s:Int)<(n:Int):=by omega
  have af:(a:Int)<(t.count:Int):=by omega
  have ag:(to:Int)<(n:Int):=by omega
  cases z:(x != -1) with
  |true=>
   rw[z] at f;go_enter func139,ntmps139
   go_wp2_with fail;refine(zDR p w S t k).mono ?_;rintro e w1 ⟨rfl,rfl⟩;go_wp2_with fail;go_ret;exact⟨vG f.symm,rfl⟩
  |false=>
   rw[z] at f;go_enter func139,ntmps139
   go_wp2_with fail;refine(zDR p w S t k).mono ?_;rintro e w1 ⟨rfl,rfl⟩;go_wp2_with fail;go_ret;exact⟨vG f.symm,rfl⟩
def OwnF (w:World)(H:Nat)(v:Value)(n:Nat)(f:Nat->Bool):Prop:=w.ownsRow H 4 1 v n ((List.range n).map λi=>bool (f i))
theorem OwnF.nil (w:World)(H:Nat)(f:Nat->Bool):OwnF w H nX 0 f:=ownsRow_nil _ _ _ _
theorem OwnF.snoc {w:World}{H g cap n:Nat}{f:Nat->Bool}{x:Bool}(a:w.ownsRow H 4 1 (slice (qX g) (n+1) cap) (n+1) ((List.range n).map (λi=>bool (f i))++[bool x]))(b:f n=x):OwnF w H (slice (qX g) (n+1) cap) (n+1) f:=by
 unfold OwnF;rw[xQ,b];exact a
theorem OwnF.form {w:World}{H n:Nat}{v:Value}{f:Nat->Bool}(a:OwnF w H v n f):∃ao cap,v=slice ao n cap:=zF a
def Tb.more (t:Tb)(k:Nat)(l:Nat->Bool)(x:Nat):Bool:=t.willEnd (x%t.nst) (x/(k*t.nst)) λto=>l (x%(k*t.nst)/t.nst*t.nst+to)
theorem zPa (t:Tb)(k:Nat)(l:Nat->Bool)(a i s:Nat)(m:i<k)(b:s<t.nst):t.more k l (a*(k*t.nst)+i*t.nst+s)=t.willEnd s a λto=>l (i*t.nst+to):=by
 have e:0<t.nst:=by omega
 have c:i*t.nst+s<k*t.nst:=by
  have:=Nat.mul_le_mul_right t.nst (show i+1<=k by omega);rw[Nat.add_mul] at this;omega
 have f:(a*(k*t.nst)+i*t.nst+s)%t.nst=s:=by
  rw[Nat.add_assoc,Nat.mul_comm k,<-Nat.mul_assoc,Nat.mul_comm a,Nat.mul_assoc,Nat.mul_comm i,<-Nat.add_assoc,<-Nat.mul_add,Nat.mul_add_mod];exact Nat.mod_eq_of_lt b
 have g:(a*(k*t.nst)+i*t.nst+s)/(k*t.nst)=a:=by
  rw[Nat.add_assoc,Nat.mul_comm a,Nat.mul_add_div (by omega),Nat.div_eq_of_lt c];omega
 have h:(a*(k*t.nst)+i*t.nst+s)%(k*t.nst)=i*t.nst+s:=by
  rw[Nat.add_assoc,Nat.mul_comm a,Nat.mul_add_mod,Nat.mod_eq_of_lt c]
 have j:(i*t.nst+s)/t.nst=i:=by
  rw[Nat.mul_comm i,Nat.mul_add_div e,Nat.div_eq_of_lt b];omega
 unfold Tb.more;rw[f,g,h,j]
theorem zD0 (p:Nat)(w:World)(S:Nat->Prop)(t:Tb)(F:TabN w S p t)(I:∀k,S k->k<w.heap.size)(ok:t.OkN)(ag:1<=t.nst)(k:Nat)(ah:1<=k)(l:Nat->Bool)(b o cap:Nat)(ai:S b)(aj:∀i,i<k*t.nst->w.cell? ⟨b,o+i,none⟩=some (bool (l i)))(aS:k*t.nst<=cap)(aT:cap<=maxLen)(aU:(t.count+1)*(k*t.nst)<=800000):
  Calls prog 102 #[pX p,slice (some ⟨b,o,none⟩) (k*t.nst) cap] w λe w'=>∃u,e=returned u/\OwnF w' w.heap.size u ((t.count+1)*(k*t.nst)) (t.more k l)/\Grew w w':=by
 have ⟨ak,al,am,an,ap⟩:=info_parts vR;have aq:=vl F;have ar:=vl aj;have J:=I p F.safe;have au:=I b ai;have av:=F.c7;obtain⟨_,P,aw,ax,ay,aV,rfl,aW,aX,_⟩:=F.c8;have az:Hid (∀a i s,i<k->s<t.nst->t.more k l (a*(k*t.nst)+i*t.nst+s)=t.willEnd s a λto=>l (i*t.nst+to)):=λa i s=>zPa t k l a i s;have aY:Hid (k*t.nst=k*t.nst):=rfl;have aZ:=ok.count;have a0:=ok.nst;have aA:Hid t.OkN:=ok;have a1:=Nat.mul_pos ah ag;generalize aB:k*t.nst=c at *;generalize a2:t.more k l=f at *;generalize aC:t.nst=n at *;generalize aD:t.count=cnt at *;have R:=vl aB;have L:=vl aC;have aE:=vl aD;have a3:c<=800000:=by
  have:=Nat.mul_le_mul_right c (show 1<=cnt+1 by omega);omega
 go_in;go_wp2;go_loopg [5,6] (cnt+1) (λq B i wr=>∃a D:Nat,q=cnt+1-a/\a<=cnt+1/\i=iX (a:Int)/\D=a*c/\OwnF wr w.heap.size B D f/\Grew w wr)
 case atStart=>exact⟨0,0,rfl,lX,rfl,(Nat.zero_mul _).symm,OwnF.nil _ _ _,Keep.refl _ _ _⟩
 case round=>
  obtain⟨a,D,v,a4,rfl,G,g,j⟩:=hrel;have y:Hid (gk=cnt+1-a/\D=a*c/\OwnF wr w.heap.size u5 D f/\Grew w wr):=⟨v,G,g,j⟩
  have a5:=(gY (j.block p J (by omega))).trans av;have ⟨ao,z,C⟩:=g.form;subst C;by_cases aF:a<=cnt
  ·have aG:(a:Int)<=(cnt:Int):=by omega
   have a6:D+c<=(cnt+1)*c:=by
    have:=Nat.mul_le_mul_right c (show a+1<=cnt+1 by omega);rw[Nat.add_mul] at this;omega
   clear v G g j;go_wp2;go_loopg [5,7] k (λq B i wr=>∃r fr:Nat,q=k-r/\r<=k/\i=iX (fr:Int)/\fr=r*n/\OwnF wr w.heap.size B (D+fr) f/\Grew w wr)
   case atStart=>exact⟨0,0,rfl,lX,rfl,(Nat.zero_mul _).symm,y.2.2.1,y.2.2.2⟩
   case round=>
    obtain⟨r,fr,v,a7,rfl,H,g,j⟩:=hrel;have A:Hid (gk=k-r/\fr=r*n/\OwnF wr w.heap.size u5 (D+fr) f/\Grew w wr):=⟨v,H,g,j⟩
    have T:=(gY (j.block p J (by omega))).trans P;have ⟨ao,z,C⟩:=g.form;subst C;by_cases aH:r<k
    ·have M:fr+n<=c:=by
      have:=Nat.mul_le_mul_right n (show r+1<=k by omega);rw[Nat.add_mul,R.out] at this;omega
     have aI:(fr:Int)<(c:Int):=by omega
     have a8:(fr:Int)+(n:Int)<=(c:Int):=by omega
     have a9:(c:Int)<=(cap:Int):=by omega
     clear v H g j;go_wp2_with fail;rw[Nat.add_sub_cancel_left];clear T;go_loopg [5,44] n (λq B i wr=>∃s:Nat,q=n-s/\s<=n/\i=iX (s:Int)/\OwnF wr w.heap.size B (D+fr+s) f/\Grew w wr)
     case atStart=>exact⟨0,rfl,lX,rfl,A.2.2.1,A.2.2.2⟩
     case round=>
      obtain⟨s,v,ba,rfl,g,j⟩:=hrel;have N:Hid (gk=n-s/\Grew w wr):=⟨v,j⟩
      have ⟨ao,z,C⟩:=g.form;subst C;have aJ:w.heap.size<=wr.heap.size:=j.size;have U:Hid (wr.ownsRow w.heap.size 4 1 (slice ao (D+fr+s) z) (D+fr+s) ((List.range (D+fr+s)).map λi=>bool (f i))):=g;by_cases V:s<n
      ·have aK:(s:Int)<(n:Int):=by omega
       have aL:Hid (Ca 139 #[pX p,iX s,iX a,slice (some ⟨b,o+fr,none⟩) n (cap-fr)] wr λe w'=>e=returned (bool (t.willEnd s a λto=>l (fr+to)))/\w'=wr):=by
        have W:∀x,x<w.heap.size->wr.heap[x]? =w.heap[x]? :=λx O=>j.block x O (by omega);have m:=zG0 p wr S t (aq.keep λx O=>W x (I x O)) aA s a (by rw[L.out];exact V) (by rw[aE.out];exact aF) b (o+fr) (cap-fr) (λto=>l (fr+to)) (by
         intro i aM;rw[L.out] at aM;rw[World.cell?_of_block (W b au),Nat.add_assoc];exact ar (fr+i) (by omega))
        rw[L.out] at m;exact m
       have aN:Hid (f (D+fr+s)=t.willEnd s a λto=>l (fr+to)):=by
        have m:=az a r s aH V;rw[<-y.out.2.1,<-A.out.2.1] at m;exact m
       clear v g j;generalize (t.willEnd s a λto=>l (fr+to))=x at *;go_wp2_with fail;refine aL.mono ?_;rintro e w1 ⟨rfl,rfl⟩;go_wp2_with (at_builtin;refine wpList_append_lies _ rfl _ _ 28 rfl (w.heap.size) 4 ak fX 1 1 underlying28 al am an ap rfl (by decide) _ _ _ rfl (U.alloc _) ⟨w1.heap.size,0,none⟩ 1 1 [bool x] rfl rfl (cell_one_new _ _ _) (by intro u X;simp at X;subst X;rfl) (by decide) (by unfold maxLen;omega) (by omega) (by simp;omega) _ rfl ?_;intro aO aP w2 Y aa bb bc;have ab:=xH U aa aJ)
       have ac:Hid (OwnF w2 w.heap.size (slice (qX aO) (D+fr+s+1) aP) (D+fr+s+1) f/\Grew w w2):=⟨OwnF.snoc Y aN,N.2.trans (xE ab)⟩
       clear Y aa ab;go_wp2_with fail;go_roundg (n-(s+1))
       case measure=>rw[N.out.1];omega
       case rel=>exact⟨s+1,rfl,by omega,by go_num,ac.1,ac.2⟩
      ·have aK:(n:Int)<=(s:Int):=by omega
       have ad:s=n:=by omega
       have E:Hid (OwnF wr w.heap.size (slice ao (D+fr+s) z) (D+(fr+n)) f):=by
        have m:=g;rw[ad] at m ⊢;rw[Nat.add_assoc] at m;rw[Nat.add_assoc];exact m
       have aQ:Hid (fr+n=(r+1)*n):=by show _=_;rw[A.out.2.1,Nat.add_mul];omega
       have T:cX wr p 8=some (slice (some ⟨aw,ax,none⟩) n ay):=(gY (j.block p J (by omega))).trans P;clear v g j ad;go_wp2_with fail;go_roundg (k-(r+1))
       case measure=>rw[A.out.1];omega
       case rel=>exact⟨r+1,fr+n,rfl,by omega,by go_num,aQ,E,N.2⟩
    ·have ae:r=k:=by omega
     have M:fr=c:=by rw[H,ae];exact R
     have aI:(c:Int)<=(fr:Int):=by omega
     have E:Hid (OwnF wr w.heap.size (slice ao (D+fr) z) (D+c) f):=by
      have m:=g;rw[M] at m ⊢;exact m
     have aR:Hid (D+c=(a+1)*c):=by show _=_;rw[y.out.2.1,Nat.add_mul];omega
     clear v H g j M ae;go_wp2_with fail;go_roundg (cnt+1-(a+1))
     case measure=>rw[y.out.1];omega
     case rel=>exact⟨a+1,D+c,rfl,by omega,by go_num,aR,E,A.2.2.2⟩
  ·have af:a=cnt+1:=by omega
   have aG:(cnt:Int)<(a:Int):=by omega
   have E:Hid (OwnF wr w.heap.size (slice ao D z) ((cnt+1)*c) f):=by
    have m:=g;rw[G,af] at m ⊢;exact m
   clear v G g j af;go_wp2_with fail;go_ret;exact⟨_,rfl,E,y.2.2.2⟩
theorem zP {H:Nat}(w:World)(g i:Nat)(x:Value)(a:H<=g):Keep H H w (w.setCell ⟨g,i,none⟩ x):=⟨rfl,rfl,by simp[World.setCell],λk b _=>lJ _ _ _ _ (by show k≠g;omega)⟩
theorem zAO (a:Value)(c:a.cells=#[a])(n:Nat):(madeCells a.cells n).toList=(List.range n).map λ_=>a:=by
 rw[c,toList_madeCells_one];exact(List.eq_replicate_iff.2 ⟨by simp,by intro b d;have ⟨_,_,e⟩:=List.mem_map.1 d;exact e.symm⟩).symm
def yC (f:Nat->Bool):Nat->Nat->Nat
 |0,_=>0
 |i+1,j=>if f i=true/\j=i/8 then yC f i j+2^(i%8) else yC f i j
theorem zJO (f:Nat->Bool)(i j:Nat)(b:i<=8*j):yC f i j=0:=by
 induction i with
 |zero=>rfl
 |succ i a=>rw[yC,if_neg (by omega),a (by omega)]
theorem zER (f:Nat->Bool)(i j:Nat)(d:8*j<=i)(g:i<=8*j+8):yC f i j<2^(i-8*j):=by
 induction i with
 |zero=>simp[yC]
 |succ i a=>
  by_cases e:8*j=i+1
  ·rw[zJO f (i+1) j (by omega)]
   exact Nat.pow_pos (by decide)
  ·have k:=a (by omega) (by omega)
   have b:i%8=i-8*j:=by omega
   have c:i+1-8*j=(i-8*j)+1:=by omega
   rw[yC,c,Nat.pow_succ];split
   ·rw[b];omega
   ·omega
theorem zCK (f:Nat->Bool)(i j:Nat):yC f i j<256:=by
 induction i with
 |zero=>simp[yC]
 |succ i a=>
  rw[yC];split
  ·rename_i d
   have b:=zER f i j (by omega) (by omega);have c:i%8=i-8*j:=by omega
   rw[<-c] at b;have e:2^(i%8)<=2^7:=kG (by decide) (by omega);omega
  ·exact a
theorem zO3 (f:Nat->Bool)(i:Nat):bits BinOp.or IntKind.u8 (yC f i (i/8):Nat) ((2^(i%8):Nat):Int)=((yC f i (i/8)+2^(i%8):Nat):Int):=by
 have b:=zCK f i (i/8);have e:2^(i%8)<=2^7:=kG (by decide) (by omega);have a:=zER f i (i/8) (by omega) (by omega);have c:i%8=i-8*(i/8):=by omega
 rw[<-c] at a;rw[u8_or_nat _ _ b (by omega),Nat.or_comm]
 congr 1
 rw[Nat.add_comm];have d:=Nat.two_pow_add_eq_or_of_lt a 1;simpa using d.symm
theorem zNW (f:Nat->Bool)(i:Nat):bits BinOp.or IntKind.u8 (yC f i (i/8):Nat) ((2:Int)^(i%8)%256)=((yC f i (i/8)+2^(i%8):Nat):Int):=by
 rw[<-zO3];have b:2^(i%8)<=2^7:=kG (by decide) (by omega);have e:((2:Int)^(i%8)%256)=((2^(i%8):Nat):Int):=by
  have a:((2^(i%8):Nat):Int)=(2:Int)^(i%8):=by simp
  rw[<-a];generalize 2^(i%8)=c at *;omega
 rw[e]
theorem zIi (w:World)(b o cap n:Nat)(f:Nat->Bool)(z:∀i,i<n->w.cell? ⟨b,o+i,none⟩=some (bool (f i)))(A:b<w.heap.size)(W:1<=n)(X:n<=800000):
  Calls prog 103 #[slice (some ⟨b,o,none⟩) n cap] w λe w'=>∃u,e=returned u/\Row w' w.heap.size 5 u ((n+7)/8) (λj=>int .u8 (yC f n j:Nat))/\Grew w w':=by
 have ⟨B,C,D,E,F⟩:=info_parts zIE;have G:=vl z;have ⟨w1,H,I,d⟩:=run_makeSlice_full (P:=prog) w w.heap.size 68 5 B _ 1 underlying68 C D E i64 i64 ((n+7)/8) (by omega) (by rw[F];omega) (by unfold maxLen;omega) lQ;have J:(((n+7)/8:Nat):Int)=((n:Int)+7)/8:=by omega
 rw[J] at H;have s:Hid (Row w1 w.heap.size 5 (slice (qX w.heap.size) ((n+7)/8) ((n+7)/8)) ((n+7)/8) (λj=>int .u8 (yC f 0 j:Nat))/\Grew w w1):=by
  refine⟨?_,⟨d.os,d.output,d.size,λk K _=>d.block k K (by simp)⟩⟩;have l:=I;rw[Nat.mul_one,zAO _ rfl] at l;exact l
 go_in;go_wp2;go_loopg [13] n (λq i wr=>∃j:Nat,q=n-j/\j<=n/\i=iX (j:Int)/\Row wr w.heap.size 5 (slice (qX w.heap.size) ((n+7)/8) ((n+7)/8)) ((n+7)/8) (λk=>int .u8 (yC f j k:Nat))/\Grew w wr)
 case atStart=>exact⟨0,rfl,lX,rfl,s.1,s.2⟩
 case round=>
  obtain⟨j,L,Y,rfl,m,t⟩:=hrel;have a:Hid (gk=n-j/\Row wr w.heap.size 5 (slice (qX w.heap.size) ((n+7)/8) ((n+7)/8)) ((n+7)/8) (λk=>int .u8 (yC f j k:Nat))/\Grew w wr):=⟨L,m,t⟩
  by_cases M:j<n
  ·have N:(j:Int)<(n:Int):=by omega
   have v:=(gY (t.block b A (by omega))).trans (G j M);have ⟨g,aa,O,ab,ac,ad,ae,R,S⟩:=m.get (by omega);have T:g=w.heap.size:=by injection O with c _ _;injection c with c;injection c with c;exact c.symm
   subst T;have af:=R (j/8) (by omega);have ag:=S (j/8);have U:=vl <| zNW f j;have x:Hid (∀k,yC f (j+1) k=if f j=true/\k=j/8 then yC f j k+2^(j%8) else yC f j k):=λk=>rfl;cases p:f j with
   |true=>
    rw[p] at v;have r:Hid (∀k,yC f (j+1) k=if k=j/8 then yC f j k+2^(j%8) else yC f j k):=by
     intro k;rw[x.out k,p];simp
    have ah:(j:Int)/8<((n:Int)+7)/8:=by omega
    have ai:(0:Int)<=(j:Int)/8:=by omega
    go_wp2;go_region;go_wp2;go_roundg (n-(j+1))
    case measure=>rw[a.out.1];omega
    case rel=>
     refine⟨j+1,rfl,by omega,by go_num,?_,a.2.2.trans (Keep.trans (zP _ _ _ _ lQ) (Keep.drew _))⟩;have l:=a.2.1.set (j/8) (int .u8 (bits BinOp.or IntKind.u8 (yC f j (j/8):Nat) ((2:Int)^(j%8)%256)));refine Row.congr (w:=(wr.setCell ⟨w.heap.size,j/8,none⟩ (int .u8 (bits BinOp.or IntKind.u8 (yC f j (j/8):Nat) ((2:Int)^(j%8)%256)))).drew) l λk _=>?_;rw[r.out k,U.out];by_cases e:k=j/8
     ·subst e;simp
     ·simp[e]
   |false=>
    rw[p] at v;have r:Hid (∀k,yC f (j+1) k=yC f j k):=by
     intro k;rw[x.out k,p];simp
    go_wp2;go_roundg (n-(j+1))
    case measure=>rw[a.out.1];omega
    case rel=>exact⟨j+1,rfl,by omega,by go_num,a.2.1.congr λk _=>by rw[r.out k],a.2.2⟩
  ·have y:j=n:=by omega
   have N:(n:Int)<=(j:Int):=by omega
   have V:Hid (Row wr w.heap.size 5 (slice (qX w.heap.size) ((n+7)/8) ((n+7)/8)) ((n+7)/8) (λk=>int .u8 (yC f n k:Nat))):=by rw[<-y];rw[y] at m ⊢;exact m
   go_wp2;go_ret;exact⟨_,rfl,V,a.2.2⟩
section
variable (s:ByteArray) (p b a n:Nat)
theorem zCf {n a most:Nat}:inB n a most=true↔a<=n/\n<=most:=by unfold inB;simp
theorem zFJ:toK s p b n=true↔∀i,i<n->p+2*i+1<s.size/\xU s (p+2*i)<=b-1:=by
 induction n with
 |zero=>simp[toK]
 |succ n c=>
  rw[toK,Bool.and_eq_true,Bool.and_eq_true,c,zCf,decide_eq_true_iff]
  constructor
  ·rintro⟨⟨d,f⟩,_,g⟩ i j
   by_cases e:i=n
   ·subst e;exact⟨f,g⟩
   ·exact d i (by omega)
  ·intro a
   exact⟨⟨λi j=>a i (by omega),(a n (by omega)).1⟩,lX,(a n (by omega)).2⟩
theorem zEN:zAz s p b n=true↔∀i,i<n->p+2*i+1<s.size/\byt s (p+2*i)<=3/\byt s (p+2*i+1)<=b-1:=by
 induction n with
 |zero=>simp[zAz]
 |succ n d=>
  rw[zAz,Bool.and_eq_true,Bool.and_eq_true,Bool.and_eq_true,Bool.and_eq_true,d,zCf,zCf,decide_eq_true_iff,decide_eq_true_iff]
  constructor
  ·rintro⟨⟨⟨⟨f,m⟩,_,g⟩,j⟩,_,k⟩ i l
   by_cases e:i=n
   ·subst e;exact⟨j,g,k⟩
   ·exact f i (by omega)
  ·intro c
   have a:=c n (by omega);exact⟨⟨⟨⟨λi l=>c i (by omega),by omega⟩,lX,a.2.1⟩,a.1⟩,lX,a.2.2⟩
theorem zBi:vI s p n=true↔∀i,i<n->p+i<s.size/\byt s (p+i)<=yX s p i:=by
 induction n with
 |zero=>simp[vI]
 |succ n b=>
  rw[vI,Bool.and_eq_true,Bool.and_eq_true,b,zCf,decide_eq_true_iff]
  constructor
  ·rintro⟨⟨c,d⟩,_,f⟩ i g
   by_cases e:i=n
   ·subst e;exact⟨d,f⟩
   ·exact c i (by omega)
  ·intro a
   exact⟨⟨λi g=>a i (by omega),(a n (by omega)).1⟩,lX,(a n (by omega)).2⟩
theorem zGJ:zCW s p b n=true↔∀i,i<n->p+i<s.size/\byt s (p+i)<=b:=by
 induction n with
 |zero=>simp[zCW]
 |succ n c=>
  rw[zCW,Bool.and_eq_true,Bool.and_eq_true,c,zCf,decide_eq_true_iff]
  constructor
  ·rintro⟨⟨d,f⟩,_,g⟩ i j
   by_cases e:i=n
   ·subst e;exact⟨f,g⟩
   ·exact d i (by omega)
  ·intro a
   exact⟨⟨λi j=>a i (by omega),(a n (by omega)).1⟩,lX,(a n (by omega)).2⟩
theorem zGQ (p m n:Nat):zBs s p m n=true↔∀i,i<n->p+i<s.size/\byt s (p+i)<=jW m i:=by
 induction n with
 |zero=>simp[zBs]
 |succ n b=>
  rw[zBs,Bool.and_eq_true,Bool.and_eq_true,b,zCf,decide_eq_true_iff]
  constructor
  ·rintro⟨⟨c,d⟩,_,f⟩ i g
   by_cases e:i=n
   ·subst e;exact⟨d,f⟩
   ·exact c i (by omega)
  ·intro a
   exact⟨⟨λi g=>a i (by omega),(a n (by omega)).1⟩,lX,(a n (by omega)).2⟩
theorem zET:zAN s p b a n=true↔∀i,i<n->∀m,m<a->p+2*a*i+2*m+1<s.size/\xU s (p+2*a*i+2*m)<=b-1:=by
 induction n with
 |zero=>simp[zAN]
 |succ n f=>
  rw[zAN,Bool.and_eq_true,f,zFJ]
  constructor
  ·rintro⟨g,j⟩ i k m c
   by_cases e:i=n
   ·subst e;exact j m c
   ·exact g i (by omega) m c
  ·intro d
   exact⟨λi k=>d i (by omega),d n (by omega)⟩
theorem zAQ (i:Nat)(a:i+1<s.size):b2 s i=xU s i:=by
 have b:(s.extract i (i+2)).data.toList=[s[i],s[i+1]]:=by
  have c:i<s.data.toList.length:=by simp;omega
  have d:i+1<s.data.toList.length:=by simp;omega
  have e:s.data.toList.drop i=s.data.toList[i]::s.data.toList[i+1]::s.data.toList.drop (i+2):=by
   rw[List.drop_eq_getElem_cons c,List.drop_eq_getElem_cons d]
  have f:(s.extract i (i+2)).data.toList=(s.data.toList.drop i).take 2:=by simp[List.take_drop,Nat.add_comm]
  rw[f,e];rfl
 unfold b2 zHm;rw[b];simp[zKp];unfold xU;rw[zBK s i (by omega),zBK s (i+1) a]
theorem zGr (a:∀i,i<n->byt s (p+i)<=yX s p i):yX s p n=zEl s p n:=by
 induction n with
 |zero=>rfl
 |succ n b=>
  have e:=b λi d=>a i (by omega);have c:=a n (by omega);simp only[yX,zEl];rw[zL ⟨lX,c⟩];split <;> omega
theorem zMY (a:∀i,i<n->byt s (p+i)<=zEl s p i):yX s p n=zEl s p n:=by
 induction n with
 |zero=>rfl
 |succ n b=>
  have e:=b λi c=>a i (by omega);have d:=a n (by omega);simp only[yX,zEl];rw[zL ⟨lX,by omega⟩];split <;> omega
theorem zLn:(∀i,i<n->byt s (p+i)<=yX s p i)↔(∀i,i<n->byt s (p+i)<=zEl s p i):=by
 constructor
 ·intro a i b
  rw[<-zGr s p i λj c=>a j (by omega)];exact a i b
 ·intro a i b
  rw[zMY s p i λj c=>a j (by omega)];exact a i b
theorem zB0 (f:Nat->Bool)(n:Nat):(List.range n).all f=true↔∀i,i<n->f i=true:=by simp[List.all_eq_true]
end
section
variable (s:ByteArray) (a b c:Nat)
theorem zIn (e:1<=a)(f:13+2*b<=s.size):zIo s a b=true↔toK s 13 a b=true:=by
 unfold zIo;rw[zB0,zFJ]
 constructor
 ·intro c i d
  have:=c i d;rw[decide_eq_true_iff,zAQ s _ (by omega)] at this;exact⟨by omega,by omega⟩
 ·intro c i d
  have:=c i d;rw[decide_eq_true_iff,zAQ s _ (by omega)];omega
theorem zIl (f:1<=b)(g:a+2*c<=s.size):zIm s a b c=true↔zAz s a b c=true:=by
 unfold zIm;rw[zB0,zEN]
 constructor
 ·intro d i e
  have:=d i e;rw[Bool.and_eq_true,decide_eq_true_iff,decide_eq_true_iff] at this;exact⟨by omega,by omega,by omega⟩
 ·intro d i e
  have:=d i e;rw[Bool.and_eq_true,decide_eq_true_iff,decide_eq_true_iff];omega
theorem zIp (f:b+256<=s.size):zIq s b 256=true↔vI s b 256=true:=by
 unfold zIq;rw[zB0,zBi];have e:=zLn s b 256
 constructor
 ·intro a i c
  exact⟨by omega,e.2 (λj d=>by have:=a j d;rwa [decide_eq_true_iff] at this) i c⟩
 ·intro a i c
  rw[decide_eq_true_iff];exact e.1 (λj d=>(a j d).2) i c
theorem zJT (c b a:Nat)(o:1<=b)(p:c+2*(b*a)<=s.size):zK7 s c b (b*a)=true↔zAN s c b a b=true:=by
 unfold zK7;rw[zB0,zET]
 constructor
 ·intro f i g m k
  have d:a*i+m<b*a:=by
   have:a*(i+1)<=a*b:=Nat.mul_le_mul_left _ g;rw[Nat.mul_add,Nat.mul_one,Nat.mul_comm a b] at this;omega
  have:=f (a*i+m) d;have e:c+2*(a*i+m)=c+2*a*i+2*m:=by rw[Nat.mul_add,Nat.mul_assoc];omega
  rw[e] at this;rw[decide_eq_true_iff,zAQ s _ (by omega)] at this;exact⟨by omega,by omega⟩
 ·intro f j d
  have l:0<a:=Nat.pos_of_ne_zero λe=>by rw[e,Nat.mul_zero] at d;omega
  have g:=Nat.div_lt_of_lt_mul (by rw[Nat.mul_comm];exact d);have k:j%a<a:=hU _ l;have:=f (j/a) g (j%a) k;have e:c+2*j=c+2*a*(j/a)+2*(j%a):=by
   have:=Nat.div_add_mod j a;rw[Nat.mul_assoc];omega
  rw[<-e] at this;rw[decide_eq_true_iff,zAQ s _ (by omega)];omega
theorem zJU (a f b:Nat)(g:a+b<=s.size):zK8 s a f b=true↔zCW s a f b=true:=by
 unfold zK8;rw[zB0,zGJ]
 constructor
 ·intro c i e
  have:=c i e;rw[decide_eq_true_iff] at this;exact⟨by omega,by omega⟩
 ·intro c i e
  have:=c i e;rw[decide_eq_true_iff];omega
theorem zNv (p n:Nat)(f:p+(n+7)/8<=s.size):(decide (n%8=0)||decide (byt s (p+(n+7)/8-1)/2^(n%8)=0))=true↔zBs s p n ((n+7)/8)=true:=by
 rw[zGQ,Bool.or_eq_true,decide_eq_true_iff,decide_eq_true_iff]
 constructor
 ·intro a i g
  refine⟨by omega,?_⟩;have j:=yQ s (p+i);unfold jW;split
  ·rename_i k
   have d:n-8*i=n%8:=by omega
   have b:p+(n+7)/8-1=p+i:=by omega
   rcases a with a|a
   ·omega
   ·rw[b] at a
    have c:0<2^(n%8):=Nat.two_pow_pos _;have:=Nat.lt_of_div_eq_zero c a;rw[d];omega
  ·omega
 ·intro a
  by_cases e:n%8=0
  ·exact .inl e
  ·right
   have:=(a ((n+7)/8-1) (by omega)).2;have b:p+((n+7)/8-1)=p+(n+7)/8-1:=by omega
   unfold jW at this;rw[b,if_pos (by omega),show n-8*((n+7)/8-1)=n%8 by omega] at this;have c:0<2^(n%8):=Nat.two_pow_pos _;exact Nat.div_eq_of_lt (by omega)
theorem zHS (b c a d e:Nat)(r:1<=b)(q:1<=a)(t:s.size=yS b c a d e+4):
  zLS s b c a d e=true↔(toK s 13 a b&&zAz s (13+2*b) b c&&(vI s (13+2*b+2*c) 256&&decide (yX s (13+2*b+2*c) 256=d))&&zAN s (13+2*b+2*c+256) a d a&&zCW s (13+2*b+2*c+256+2*d*a) c a&&zBs s (13+2*b+2*c+256+2*d*a+a) (a*e) ((a*e+7)/8))=true:=by
 have u:2*d*a=2*a*d:=by rw[Nat.mul_assoc,Nat.mul_comm d a,<-Nat.mul_assoc]
 have C:2*a*d=2*(a*d):=Nat.mul_assoc _ _ _;have v:a*e=e*a:=Nat.mul_comm _ _;unfold yS at t;have w:=zIn s a b q (by omega);have x:=zIl s (13+2*b) b c r (by omega);have y:=zIp s (13+2*b+2*c) (by omega);have z:=zJT s (13+2*b+2*c+256) a d q (by omega);have A:=zJU s (13+2*b+2*c+256+2*a*d) c a (by omega);have B:=zNv s (13+2*b+2*c+256+2*a*d+a) (e*a) (by omega);rw[u,v];unfold zLS;simp only[Bool.and_eq_true];rw[w,x,y,z,A,B,decide_eq_true_iff,decide_eq_true_iff]
 constructor
 ·rintro⟨⟨⟨⟨⟨⟨g,h⟩,f⟩,j⟩,k⟩,l⟩,m⟩
  have o:=zGr s (13+2*b+2*c) 256 λi p=>((zBi _ _ _).1 f i p).2;exact⟨⟨⟨⟨⟨g,h⟩,f,by rw[o];exact j⟩,k⟩,l⟩,m⟩
 ·rintro⟨⟨⟨⟨⟨g,h⟩,f,j⟩,k⟩,l⟩,m⟩
  have o:=zGr s (13+2*b+2*c) 256 λi p=>((zBi _ _ _).1 f i p).2;exact⟨⟨⟨⟨⟨⟨g,h⟩,f⟩,by rw[<-o];exact j⟩,k⟩,l⟩,m⟩
end
theorem zAE (s:ByteArray):yZ s=true↔12<s.size/\byt s 0=76/\byt s 1=88/\byt s 2<=1/\(1<=byt s 4/\byt s 4<=64)/\(1<=xU s 5/\xU s 5<=3)/\(1<=xU s 7/\xU s 7<=8)/\(1<=xU s 9/\xU s 9<=200)/\(1<=xU s 11/\xU s 11<=256)/\xP s<=3000/\(xF s=1\/xK s=0):=by
 unfold yZ hK8 hK7 hK6 hK5 hK4 hK3 hK2 hK1 hK0;simp only[Bool.and_eq_true,Bool.or_eq_true,decide_eq_true_iff,zCf];have:=yQ s 3
 constructor
 ·intro a
  refine⟨by omega,by omega,by omega,by omega,by omega,by omega,by omega,by omega,by omega,by omega,?_⟩;exact a.2
 ·rintro⟨e,f,g,j,k,l,m,o,b,c,d⟩
  refine⟨⟨⟨⟨?_,?_⟩,b⟩,c⟩,d⟩
  ·refine⟨⟨⟨⟨⟨⟨⟨⟨⟨⟨⟨⟨⟨⟨⟨⟨trivial,by omega⟩,by omega⟩,by omega⟩,by omega⟩,by omega⟩,by omega⟩,by omega⟩,by omega⟩,by omega⟩,by omega⟩,by omega⟩,by omega⟩,by omega⟩,by omega⟩,by omega⟩,by omega⟩
  ·omega
theorem zON (s:ByteArray)(c:2<=s.size):((s.extract 0 2).toList==[76,88])=true↔byt s 0=76/\byt s 1=88:=by
 have d:0<s.data.toList.length:=by simp;omega
 have f:0+1<s.data.toList.length:=by simp;omega
 have e:s.data.toList.drop 0=s.data.toList[0]::s.data.toList[0+1]::s.data.toList.drop (0+2):=by
  rw[List.drop_eq_getElem_cons d,List.drop_eq_getElem_cons f]
 have g:(s.extract 0 2).data.toList=(s.data.toList.drop 0).take 2:=by simp
 have j:=zBK s 0 (by omega);have k:=zBK s 1 (by omega);have l:s.data.toList[0].toNat=byt s 0:=j;have m:s.data.toList[0+1].toNat=byt s 1:=k;rw[ByteArray.toList_eq,g,e];show([s.data.toList[0],s.data.toList[0+1]]==[76,88])=true↔_;rw[beq_iff_eq,<-l,<-m]
 constructor
 ·intro c
  injection c with b a;injection a with a _;rw[b,a];exact⟨rfl,rfl⟩
 ·rintro⟨b,a⟩
  have o:s.data.toList[0]=76:=UInt8.toNat_inj.1 b;have p:s.data.toList[0+1]=88:=UInt8.toNat_inj.1 a;rw[o,p]
def q2 (s:ByteArray):Nat:=13+2*zQ s
def q3 (s:ByteArray):Nat:=q2 s+2*zT s
def q4 (s:ByteArray):Nat:=q3 s+256
def q5 (s:ByteArray):Nat:=q4 s+2*zJ s*zE s
def q6 (s:ByteArray):Nat:=q5 s+zE s
def nbit (s:ByteArray):Nat:=zE s*xP s
def zEd (s:ByteArray):Bool:=toK s 13 (zE s) (zQ s)&&zAz s (q2 s) (zQ s) (zT s)&&(vI s (q3 s) 256&&decide (yX s (q3 s) 256=zJ s))&&zAN s (q4 s) (zE s) (zJ s) (zE s)&&zCW s (q5 s) (zT s) (zE s)&&zBs s (q6 s) (nbit s) ((nbit s+7)/8)
def zOq (s:ByteArray):Bool:=decide (s.size=yS (zQ s) (zT s) (zE s) (zJ s) (xP s)+4)
def zHt (s:ByteArray):Bool:=zJi (s.extract 0 (s.size-4))==zHm (s.extract (s.size-4) s.size)
theorem zB2 (s:ByteArray):jP s=(yZ s&&zOq s&&zHt s&&zEd s):=by
 rw[Bool.eq_iff_iff];simp only[Bool.and_eq_true];unfold jP;simp only[Bool.and_eq_true,Bool.or_eq_true,decide_eq_true_iff]
 constructor
 ·rintro⟨⟨⟨o,f⟩,g⟩,⟨⟨⟨c,h⟩,w⟩,j⟩,a⟩
  rw[zON s (by omega)] at f;unfold zOj at c;rw[decide_eq_true_iff,zAQ s 5 (by omega),zAQ s 7 (by omega),zAQ s 9 (by omega),zAQ s 11 (by omega)] at c;rw[zAQ s 11 (by omega)] at h;rw[zAQ s 5 (by omega),zAQ s 7 (by omega),zAQ s 9 (by omega),zAQ s 11 (by omega)] at j a;have m1:zQ s=xU s 5:=zL (by omega);have m2:zT s=xU s 7:=zL (by omega);have k:zE s=xU s 9:=zL (by omega);have d:zJ s=xU s 11:=zL (by omega);have e:xK s=byt s 3:=zL (by have:=yQ s 3;omega);have l:xF s=byt s 2:=zL (by omega);have m:xP s=zG (xU s 11) (byt s 3):=by unfold xP;rw[d,e]
  rw[<-m] at h j a;rw[<-m1,<-m2,<-k,<-d] at j a;have b:s.size=yS (zQ s) (zT s) (zE s) (zJ s) (xP s)+4:=by omega
  refine⟨⟨⟨(zAE s).2 ⟨by omega,f.1,f.2,by omega,by omega,by omega,by omega,by omega,by omega,h,?_⟩,gG b⟩,g⟩,(zHS s _ _ _ _ _ (by omega) (by omega) b).1 a⟩;rw[l,e];omega
 ·rintro⟨⟨⟨c,q⟩,g⟩,r⟩
  rw[zAE] at c;obtain⟨x,t,u,y,z,A,B,C,D,p,v⟩:=c;have m1:zQ s=xU s 5:=zL (by omega);have m2:zT s=xU s 7:=zL (by omega);have k:zE s=xU s 9:=zL (by omega);have d:zJ s=xU s 11:=zL (by omega);have e:xK s=byt s 3:=zL (by have:=yQ s 3;omega);have l:xF s=byt s 2:=zL (by omega);have m:xP s=zG (xU s 11) (byt s 3):=by unfold xP;rw[d,e]
  have b:s.size=yS (zQ s) (zT s) (zE s) (zJ s) (xP s)+4:=of_decide_eq_true q;have o:17<=s.size:=by unfold yS at b;omega
  have a:=(zHS s _ _ _ _ _ (by omega) (by omega) b).2 r;rw[m] at a b p;rw[m1,m2,k,d] at a b;rw[zAQ s 5 (by omega),zAQ s 7 (by omega),zAQ s 9 (by omega),zAQ s 11 (by omega)];refine⟨⟨⟨o,(zON s (by omega)).2 ⟨t,u⟩⟩,g⟩,⟨⟨⟨?_,p⟩,?_⟩,by omega⟩,a⟩
  ·unfold zOj
   rw[decide_eq_true_iff];omega
  ·rw[l,e] at v
   omega
def vZ (s:ByteArray):Tb where
 stream:=decide (xF s=1)
 ahead:=xK s
 hold:=vS s
 count:=zJ s
 rows:=xP s
 nst:=zE s
 nmode:=zQ s
 nrule:=zT s
 nlong:=(nbit s+7)/8
 start:=toF s 13 (zE s)
 act:=zC4 s (q2 s)
 push:=zAA s (q2 s) (zQ s)
 kind:=zBj s (q3 s)
 next:=λi=>toF s (q4 s+2*zJ s*i) (zE s)
 ends:=λi=>(zE9 s (q5 s) (zT s) i:Int)-1
 live:=λ_=>false
 long:=zDU s (q6 s) (nbit s)
theorem zNH (a:Nat)(e:1<=a)(k:Nat)(b:zG a k<=3000):2^k<=zG a k:=by
 induction k with
 |zero=>exact lQ
 |succ k d=>
  rw[zG] at b ⊢;split at b
  ·rename_i c
   rw[if_pos c,Nat.pow_succ];exact Nat.mul_le_mul (d c) (by omega)
  ·omega
theorem zI6 (a k:Nat):1<=zG a k:=by
 induction k with
 |zero=>exact lQ
 |succ k b=>
  rw[zG];split
  ·exact Nat.mul_le_mul b (by omega:1<=a+1)
  ·exact b
theorem zJ2 (s:ByteArray)(p i:Nat):yX s p i<=yX s p (i+1)/\zBj s p i<yX s p (i+1):=by
 have a:=zY (byt s (p+i)) 0 (yX s p i) lX;simp only[yX,zBj];split <;> omega
theorem zN7 (s:ByteArray)(p i j:Nat)(b:i<=j):yX s p i<=yX s p j:=by
 induction j with
 |zero=>rw[show i=0 by omega];exact lQ
 |succ j a=>
  by_cases e:i=j+1
  ·rw[e];exact lQ
  ·exact lY (a (by omega)) (zJ2 s p j).1
theorem zL0 (s:ByteArray)(d:yZ s=true)(m:yX s (q3 s) 256=zJ s):(vZ s).Ok:=by
 have a:=(zAE s).1 d;have b:=a.2.2.2.2.2.2.2.2.2.1;have f:1<=zJ s:=qL _ _ _;have g:zJ s<=256:=zY _ _ _ (by decide);have s1:1<=zE s:=qL _ _ _;have s2:zE s<=200:=zY _ _ _ (by decide);have m1:1<=zQ s:=qL _ _ _;have o:=zNH (zJ s) f (xK s) b;refine⟨?_,qL _ _ _,zY _ _ _ (by decide),g,zI6 _ _,b,s2,m1,?_,λi _=>?_,λi _=>?_,λc p=>?_,λi k _ _=>?_,λi _=>?_,λi _=>?_⟩
 ·show xK s<64
  rcases Nat.lt_or_ge (xK s) 64 with a|a
  ·exact a
  ·have:2^64<=2^xK s:=kG (by decide) a
   have e:xP s=zG (zJ s) (xK s):=rfl;omega
 ·show xP s*zE s<=8*((nbit s+7)/8)
  unfold nbit;rw[Nat.mul_comm];omega
 ·have:=zY (xU s (13+2*i)) 0 (zE s-1) lX
  show toF s 13 (zE s) i<zE s;unfold toF;omega
 ·have:=zY (byt s (q2 s+2*i+1)) 0 (zQ s-1) lX
  show zAA s (q2 s) (zQ s) i<zQ s;unfold zAA;omega
 ·have j:=(zJ2 s (q3 s) c).2
  have l:=zN7 s (q3 s) (c+1) 256 (by omega);show zBj s (q3 s) c<zJ s;omega
 ·have:=zY (xU s (q4 s+2*zJ s*i+2*k)) 0 (zE s-1) lX
  show toF s (q4 s+2*zJ s*i) (zE s) k<zE s;unfold toF;omega
 ·have:=zY (byt s (q5 s+i)) 0 (zT s) lX
  show -1<=(zE9 s (q5 s) (zT s) i:Int)-1/\(zE9 s (q5 s) (zT s) i:Int)-1<(zT s:Int);unfold zE9;omega
 ·have j:=zY (byt s (q6 s+i)) 0 (jW (nbit s) i) lX
  have l:=zJ0 (nbit s) i;show zDU s (q6 s) (nbit s) i<256;unfold zDU;omega
theorem zNK (s:ByteArray)(i:Nat):(vZ s).act i<4:=by
 have:=zY (byt s (q2 s+2*i)) 0 3 lX;show zC4 s (q2 s) i<4;unfold zC4;omega
def zBB (q:Nat):Nat:=if q%2=1 then q/2^^^3988292384 else q/2
def zAb (q:Nat):Nat->Nat
 |0=>q
 |j+1=>zBB (zAb q j)
def zAi (l:List UInt8):Nat:=l.foldl (λq c=>zAb (q^^^c.toNat) 8) 4294967295
theorem zLI (l:List UInt8)(c:UInt8):zAi (l++[c])=zAb (zAi l^^^c.toNat) 8:=by simp[zAi]
theorem zLJ (q:Nat)(a:q<4294967296):zBB q<4294967296:=by
 unfold zBB;split
 ·exact Nat.xor_lt_two_pow (n:=32) (by omega) (by omega)
 ·omega
theorem zLK (q:Nat)(a:q<4294967296)(j:Nat):zAb q j<4294967296:=by
 induction j with
 |zero=>exact a
 |succ j b=>exact zLJ _ b
theorem vK (x i:Nat):x.testBit i=decide (x/2^i%2=1):=Nat.testBit_eq_decide_div_mod_eq
theorem jJ (x i:Nat):(x/2).testBit i=x.testBit (i+1):=(Nat.testBit_succ x i).symm
theorem zD1 (v n:Nat):xC v (n+1)=2*xC v n+v/2^n%2:=by rw[xC,Nat.shiftRight_eq_div_pow]
theorem zAc (v n i:Nat):(xC v n).testBit i=(decide (i<n)&&v.testBit (n-1-i)):=by
 induction n generalizing i with
 |zero=>simp[xC]
 |succ n b=>
  cases i with
  |zero=>
   have d:v/2^n%2<2:=hU _ (by decide);rw[vK,vK,zD1,Nat.pow_zero,Nat.div_one,gG (Nat.succ_pos n),Bool.true_and,show n+1-1-0=n by omega];generalize v/2^n%2=x at *
   congr 1
   apply propext;omega
  |succ i=>
   rw[<-jJ];have c:xC v (n+1)/2=xC v n:=by
    rw[zD1];have:v/2^n%2<2:=hU _ (by decide);omega
   rw[c,b];by_cases a:i<n
   ·rw[gG a,gG (by omega:i+1<n+1),show n+1-1-(i+1)=n-1-i by omega]
   ·rw[gJ a,gJ (by omega:¬i+1<n+1)]
    rfl
theorem zLH (r i:Nat):(r*2).testBit (i+1)=r.testBit i:=by rw[<-jJ];congr 1;omega
theorem zPE (r:Nat):xC (r*2%4294967296) 32=xC r 32/2:=by
 apply Nat.eq_of_testBit_eq;intro i;rw[jJ,zAc,zAc,show(4294967296:Nat)=2^32 by decide,Nat.testBit_mod_two_pow];by_cases a:i+1<32
 ·rw[show 32-1-i=(32-1-(i+1))+1 by omega,zLH]
  simp[a,show i<32 by omega];omega
 ·by_cases b:i=31
  ·subst b
   have:(r*2).testBit 0=false:=by rw[vK];simp
   simp[this]
  ·simp[a,show¬i<32 by omega]
theorem zQF (a b:Nat):xC (a^^^b) 32=xC a 32^^^xC b 32:=by
 apply Nat.eq_of_testBit_eq;intro i;rw[Nat.testBit_xor,zAc,zAc,zAc,Nat.testBit_xor];by_cases c:i<32 <;> simp[c]
theorem zQq:xC 79764919 32=3988292384:=by decide
theorem zNG (a b:Nat):(a^^^b)/2=a/2^^^b/2:=by
 apply Nat.eq_of_testBit_eq;intro i;rw[jJ,Nat.testBit_xor,Nat.testBit_xor,jJ,jJ]
theorem zQG (r:Nat):(xC r 32).testBit 0=r.testBit 31:=by rw[zAc];simp
theorem zJb (c j:Nat)(a:j<8):(xC c 8).testBit (7-j)=c.testBit j:=by
 rw[zAc,gG (by omega),show 8-1-(7-j)=j by omega];rfl
theorem zOy (r c:Nat)(j:Nat)(m:j<=8):zAb (xC r 32^^^c) j=xC (zB5 r (xC c 8) j) 32^^^c/2^j:=by
 induction j with
 |zero=>simp[zAb,zB5]
 |succ j e=>
  rw[zAb,e (by omega),zB5];generalize zB5 r (xC c 8) j=q;have b:(xC q 32^^^c/2^j)/2=xC (q*2%4294967296) 32^^^c/2^(j+1):=by
   rw[zNG,zPE,Nat.div_div_eq_div_mul,Nat.pow_succ]
  have f:(xC q 32^^^c/2^j).testBit 0=(q.testBit 31 ^^ c.testBit j):=by
   rw[Nat.testBit_xor,zQG]
   congr 1
   rw[vK,vK];simp
  have g:=zJb c j (by omega);have d:(xC q 32^^^c/2^j)%2=1↔¬(q/2147483648%2=xC c 8/2^(7-j)%2):=by
   rw[show ((xC q 32^^^c/2^j)%2=1)↔(xC q 32^^^c/2^j).testBit 0=true by rw[vK];simp,f,<-g,vK,vK];have o:q/2^31%2<2:=hU _ (by decide);have p:xC c 8/2^(7-j)%2<2:=hU _ (by decide);rw[show (2147483648:Nat)=2^31 by decide];generalize q/2^31%2=x at *;generalize xC c 8/2^(7-j)%2=y at *;have k:x=0\/x=1:=by omega
   have l:y=0\/y=1:=by omega
   rcases k with rfl|rfl <;> rcases l with rfl|rfl <;> simp
  unfold zBB zL2;by_cases a:q/2147483648%2=xC c 8/2^(7-j)%2
  ·rw[if_pos a,if_neg (λx=>(d.1 x) a),b]
  ·rw[if_neg a,if_pos (d.2 a),b,zQF,zQq,Nat.xor_assoc,Nat.xor_comm (c/2^(j+1)),<-Nat.xor_assoc]
theorem zKi (l:List UInt8):zAi l=xC (zPG l) 32:=by
 have b:∀(l:List UInt8) (r:Nat),l.foldl (λq c=>zAb (q^^^c.toNat) 8) (xC r 32)=xC (l.foldl (λr c=>zB5 r (xC c.toNat 8) 8) r) 32:=by
  intro l;induction l with
  |nil=>intro r;rfl
  |cons c l d=>
   intro r;rw[List.foldl_cons,List.foldl_cons,zOy r c.toNat 8 (by decide),<-d];have:c.toNat/2^8=0:=by have:=c.toNat_lt;omega
   rw[this,Nat.xor_zero]
 have a:=b l 4294967295;rw[show xC 4294967295 32=4294967295 by decide] at a;exact a
theorem zQe (l:List UInt8):4294967295-zAi l=zQx l:=by rw[zKi];rfl
theorem zOz (l:List UInt8):zAi l<4294967296:=by rw[zKi];exact zHX _ _ (by decide)
theorem zFe (n:Int)(a:0<=n)(b:n<4294967296):IntKind.u32.wrap n=n:=by rw[IntKind.wrap_u32];omega
theorem zJa (a b:Nat)(c:a<4294967296)(d:b<4294967296):bits .and .u32 (a:Int) (b:Int)=((a&&&b:Nat):Int):=
 (bits_nat .u32 32 (by decide) (λn e f=>zFe n e (by simpa using f)) a b (by simpa using c) (by simpa using d)).1
theorem zCB (a b:Nat)(e:a<4294967296)(f:b<4294967296):bits .xor .u32 (a:Int) (b:Int)=((a^^^b:Nat):Int):=by
 have g:a^^^b<2^32:=Nat.xor_lt_two_pow (by omega) (by omega);have c:(BitVec.ofInt 32 (a:Int)).toNat=a:=by
  rw[BitVec.ofInt_natCast,BitVec.toNat_ofNat];exact Nat.mod_eq_of_lt (by omega)
 have d:(BitVec.ofInt 32 (b:Int)).toNat=b:=by
  rw[BitVec.ofInt_natCast,BitVec.toNat_ofNat];exact Nat.mod_eq_of_lt (by omega)
 show IntKind.u32.wrap ((BitVec.ofInt 32 (a:Int)^^^BitVec.ofInt 32 (b:Int)).toNat:Int)=_;rw[BitVec.toNat_xor,c,d];exact zFe _ (by omega) (by omega)
theorem zI9 (a:Nat)(c:a<4294967296):bits .and .u32 (a:Int) 1=((a%2:Nat):Int):=by
 have b:=zJa a 1 c (by decide);rw[show ((1:Nat):Int)=1 from rfl] at b;rw[b,Nat.and_one_is_mod]
theorem zIw (q:Nat)(w:World)(c:q<4294967296):
  Calls prog 112 #[int .u32 q] w λe w'=>e=returned (int .u32 (zBB q:Nat))/\w'=w:=by
 have g:=zI9 q c;by_cases a:q%2=1
 ·have d:(((q%2:Nat):Int)==1)=true:=by rw[a];rfl
  have b:Hid (zBB q=q/2^^^3988292384):=if_pos a;have f:=zCB (q/2) 3988292384 (by omega) (by decide);rw[show ((3988292384:Nat):Int)=3988292384 from rfl,show((q/2:Nat):Int)=(q:Int)/2 by omega] at f;go_in;go_wp2;go_ret;exact⟨zAr (by rw[b.out]),rfl⟩
 ·have d:(((q%2:Nat):Int)==1)=false:=by rw[hX];omega
  have b:Hid (zBB q=q/2):=if_neg a;go_in;go_wp2;go_ret;exact⟨zAr (by rw[b.out];omega),rfl⟩
theorem zO9 (q:Nat)(d:q<4294967296):4294967295^^^q=4294967295-q:=by
 apply Nat.eq_of_testBit_eq;intro i;have a:=Nat.testBit_two_pow_sub_succ (n:=32) (x:=q) (by omega) i;have b:=Nat.testBit_two_pow_sub_one 32 i;rw[show (2:Nat)^32-(q+1)=4294967295-q by omega] at a;rw[show (2:Nat)^32-1=4294967295 by decide] at b;rw[a,Nat.testBit_xor,b];by_cases c:i<32
 ·simp[c]
 ·have:=Nat.testBit_lt_two_pow (lZ d (kG (n:=2) (by decide) (show 32<=i by omega)))
  simp[c,this]
def four (n:Nat):List UInt8:=[UInt8.ofNat (n/16777216%256),UInt8.ofNat (n/65536%256),UInt8.ofNat (n/256%256),UInt8.ofNat (n%256)]
theorem zOn (n:Nat)(a:n<4294967296):zKp (four n)=n:=by
 simp[zKp,four];omega
theorem zHL (w:World)(n:Nat):
  (convert 68 9 (slice (qX w.heap.size) 4 4)).run prog (w.alloc (.cells #[int .u8 ((n:Int)/16777216%256),int .u8 ((n:Int)/65536%256),int .u8 ((n:Int)/256%256),int .u8 ((n:Int)%256)] 5))=
   .ok (string ⟨(four n).toArray⟩) (w.alloc (.cells #[int .u8 ((n:Int)/16777216%256),int .u8 ((n:Int)/65536%256),int .u8 ((n:Int)/256%256),int .u8 ((n:Int)%256)] 5)):=by
 refine run_convert_bytes_back _ 68 9 5 ⟨w.heap.size,0,none⟩ 4 (four n) underlying68 underlying5 underlying9 ?_;intro j b;have a:=gZ w (.cells #[int .u8 ((n:Int)/16777216%256),int .u8 ((n:Int)/65536%256),int .u8 ((n:Int)/256%256),int .u8 ((n:Int)%256)] 5);generalize w.alloc (.cells #[int .u8 ((n:Int)/16777216%256),int .u8 ((n:Int)/65536%256),int .u8 ((n:Int)/256%256),int .u8 ((n:Int)%256)] 5)=w1 at a ⊢;have:j=0\/j=1\/j=2\/j=3:=by simp[four] at b;omega
 rcases this with rfl|rfl|rfl|rfl
 ·have e:(four n)[0].toNat=n/16777216%256:=by simp[four]
  rw[e];simp[Addr.add,cell?,a]
 ·have e:(four n)[1].toNat=n/65536%256:=by simp[four]
  rw[e];simp[Addr.add,cell?,a]
 ·have e:(four n)[2].toNat=n/256%256:=by simp[four]
  rw[e];simp[Addr.add,cell?,a]
 ·have e:(four n)[3].toNat=n%256:=by simp[four]
  rw[e];simp[Addr.add,cell?,a]
theorem zFi (s:ByteArray)(w:World)(u:s.size<=1048576):
  Calls prog 79 #[string s] w λe w'=>e=returned (string ⟨(four (4294967295-zAi s.data.toList)).toArray⟩)/\Below w.heap.size w w':=by
 go_in;go_wp2;go_loop [3,4] (λr i=>∃k:Nat,k<=s.size/\i=iX k/\r=int .u32 (zAi (s.data.toList.take k):Nat)) (λ_ i=>s.size-(intOf i).toNat)
 case atStart=>exact⟨0,lX,rfl,rfl⟩
 case round=>
  obtain⟨k,v,rfl,rfl⟩:=hrel;have a:=zOz (s.data.toList.take k);by_cases f:k<s.size
  ·have g:Hid (zAi (s.data.toList.take (k+1))=zAb (zAi (s.data.toList.take k)^^^s[k].toNat) 8):=by
    rw[zHs s k f];exact zLI _ _
   have x:=s[k].toNat_lt;have y:=zCB (zAi (s.data.toList.take k)) s[k].toNat a (by omega);have h:zAi (s.data.toList.take k)^^^s[k].toNat<4294967296:=Nat.xor_lt_two_pow (n:=32) (by omega) (by omega);go_wp2;generalize zAi (s.data.toList.take k)^^^s[k].toNat=q at *;go_loop [3,5] (λr i=>∃j:Nat,j<=8/\i=iX (j:Int)/\r=int .u32 (zAb q j:Nat)) (λ_ i=>8-(intOf i).toNat)
   case atStart=>exact⟨0,by omega,rfl,rfl⟩
   case round=>
    obtain⟨j,z,rfl,rfl⟩:=hrel;have l:=zLK q h j;by_cases A:j<8
    ·have m:Hid (zAb q (j+1)=zBB (zAb q j)):=rfl
     go_wp2_with fail;refine(zIw _ _ l).mono ?_;rintro e w' ⟨rfl,rfl⟩;go_wp2;refine⟨⟨j+1,by omega,by go_num,?_⟩,by simp[intOf];omega⟩;rw[m.out]
    ·have o:j=8:=by omega
     have p:=g.out;go_wp2;refine⟨⟨k+1,by omega,by go_num,?_⟩,by simp[intOf];omega⟩;rw[p,<-o]
  ·have t:Hid (s.data.toList.take k=s.data.toList):=List.take_of_length_le (by simp;omega)
   rw[t.out] at a ⊢;have c:Hid (∃n,n=4294967295-zAi s.data.toList):=⟨_,rfl⟩
   have ⟨n,b⟩:=c.out;have c:=vl b;generalize zAi s.data.toList=q at a b ⊢;have d:=zCB 4294967295 q (by decide) a;rw[zO9 q a,show((4294967295:Nat):Int)=IntKind.u32.max from rfl] at d;rw[<-b] at d;have B:=zHL w n;have C:n<4294967296:=by omega
   clear b;go_wp2_with fail;go_ret;exact⟨by rw[<-c.out];rfl,(Below.refl _ _).alloc lQ _⟩
theorem zOE (l:List UInt8)(g:l.length=4):four (zKp l)=l:=by
 match l,g with
 |[a,b,c,f],_=>
  have p:=a.toNat_lt;have q:=b.toNat_lt;have r:=c.toNat_lt;have s:=f.toNat_lt;have e:zKp [a,b,c,f]=16777216*a.toNat+65536*b.toNat+256*c.toNat+f.toNat:=by
   simp[zKp];omega
  rw[e];unfold four;have j:(16777216*a.toNat+65536*b.toNat+256*c.toNat+f.toNat)/16777216%256=a.toNat:=by omega
  have k:(16777216*a.toNat+65536*b.toNat+256*c.toNat+f.toNat)/65536%256=b.toNat:=by omega
  have m:(16777216*a.toNat+65536*b.toNat+256*c.toNat+f.toNat)/256%256=c.toNat:=by omega
  have o:(16777216*a.toNat+65536*b.toNat+256*c.toNat+f.toNat)%256=f.toNat:=by omega
  rw[j,k,m,o];simp
theorem zOo (l:List UInt8)(n:Nat)(a:l.length=4)(b:n<4294967296):(l==four n)=(n==zKp l):=by
 rw[Bool.eq_iff_iff];simp only[beq_iff_eq]
 constructor
 ·rintro rfl
  exact(zOn n b).symm
 ·rintro rfl
  exact(zOE l a).symm
theorem zF6 (s:ByteArray)(a:4<=s.size):((s.extract (s.size-4) s.size).toList==four (4294967295-zAi (List.take (s.size-4) s.data.toList)))=(zJi (s.extract 0 (s.size-4))==zHm (s.extract (s.size-4) s.size)):=by
 rw[ByteArray.toList_eq,zOo _ _ (by simp;omega) (by omega),zQe];have e:(s.extract 0 (s.size-4)).data.toList=List.take (s.size-4) s.data.toList:=by simp
 unfold zJi zHm;rw[e]
theorem zII (s:ByteArray)(w:World)(b:4<=s.size)(d:s.size<=1048576):
  Calls prog 82 #[string s] w λe w'=>e=returned (bool (zJi (s.extract 0 (s.size-4))==zHm (s.extract (s.size-4) s.size)))/\Grew w w':=by
 have f:(4:Int)<=(s.size:Int):=by omega
 have g:(s.size:Int)-4=((s.size-4:Nat):Int):=by omega
 have h:s.size-4<=s.size:=by omega
 go_in;go_wp2;go_region_with ((go_at_call 79;go_must ((refine (zFi (s.extract 0 (s.size-4)) _ (by simp;omega)).mono ?_;rintro e w1 ⟨rfl,a⟩))))
 all_goals
  go_wp2;go_ret;refine⟨vG (zF6 s b),?_⟩;exact⟨a.os,a.output,a.size,λk c _=>a.block k c⟩
def zNF:Tc:=⟨bool false,int i64 0,int i64 0,slice none 0 0,slice none 0 0,slice none 0 0,slice none 0 0,int i64 0,slice none 0 0,slice none 0 0,slice none 0 0,int i64 0,slice none 0 0⟩
theorem P1.mem {H a b:Nat}{s:ByteArray}{w:World}{c:Tc}{k:Bool}(e:P1 H a b s (zQ s) (zT s) (zE s) (zJ s) (xP s) w c 13 k)(f:H<=w.heap.size)
  (c0:c.stream=bool (decide (xF s=1))) (c1:c.ahead=iX (xK s:Nat)) (c2:c.hold=iX (vS s:Nat)) (g:c.count=iX (zJ s:Nat)) (j:c.rows=iX (xP s:Nat)) (l:c.live=nX):
  ∃d,MemB w H b d (vZ s)/\d.live=nX/\∃p,xN w a s p (k&&zEd s):=by
 obtain⟨A,m,B,C,o,q,D,r,E,rv,t,u,F,v,G,x,y,z⟩:=e;refine⟨_,⟨z,c0,c1,c2,g,j,m,o,q,r,⟨rv,t,u⟩,v,x,f⟩,l,_,y.to rfl ?_⟩;unfold zEd q6 q5 q4 q3 q2 nbit;simp only[Bool.and_assoc]
theorem Rt.still {H a b:Nat}{j w w':World}{s:ByteArray}{p:Nat}{k:Bool}{c:Tc}{l:List (Nat×Obj)}(d:Rt H a b j w s p k c l)(e:Grew w w'):Rt H a b j w' s p k c l:=by
 have f:∀k,k<w.heap.size->w'.heap[k]? =w.heap[k]? :=λk m=>e.block k m (by omega);have o:=d.HH;exact⟨d.rd.of_block (f _ d.rd.lt),d.tb.of_block (f _ d.tb.lt),λx g=>⟨(f _ (kQ.1 (d.own x g).1).1).trans (d.own x g).1,(d.own x g).2⟩,d.kept.trans ⟨e.os,e.output,e.size,λk m _ _=>f k (by omega)⟩,d.ab,d.aH,d.bH,lY d.HH e.size⟩
theorem Rt.anew {H a b:Nat}{e w:World}{s:ByteArray}{p:Nat}{k:Bool}{c:Tc}{f:List (Nat×Obj)}(d:Rt H a b e w s p k c f):Rt H a b w w s p k c []:=
 ⟨d.rd,d.tb,λx g=>absurd g (List.not_mem_nil),Kept.refl _ _ _ _,d.ab,d.aH,d.bH,d.HH⟩
theorem Kept.old {w w2 d:World}{H a b:Nat}(c:Kept H a b w2 d)(e:Grew w w2)(f:w.heap.size<=a)(g:w.heap.size<=b)(j:w.heap.size<=H):Grew w d:=
 e.trans ⟨c.os,c.output,c.size,λk l _=>c.block k (by omega) (by omega) (by omega)⟩
theorem zJe (s:ByteArray)(w:World)(E:s.size<=1048576):
  Calls prog 52 #[string s] w λe w'=>Grew w w'/\
   (jP s=false->e=returned (tuple #[pointer none,bool false]))/\
   (jP s=true->∃b H c n,e=returned (tuple #[pX b,bool true])/\w.heap.size<=b/\b<H/\Mem w' H b c ((vZ s).first.itr n)/\(((vZ s).first.itr n).spreadTo (zE s)).2=false):=by
 have r:=vl <| zB2 s;go_in;go_wp2_with fail;obtain⟨w2,ai,aj,ak⟩:∃w2,w2=(w.alloc (.cells #[string s,zX,tX] 150)).alloc (.cells #[fX,zX,zX,nX,nX,nX,nX,zX,nX,nX,nX,zX,nX] 90)/\
   Hid (Rt (w.heap.size+2) w.heap.size (w.heap.size+1) w2 w2 s 0 true zNF [])/\Hid (Grew w w2):=by
  refine⟨_,rfl,⟨?_,?_,λx al=>absurd al (List.not_mem_nil),Kept.refl _ _ _ _,by omega,by omega,by omega,by simp⟩,?_⟩
  ·exact(lG _ _ _ (by simp)).trans (gZ w _)
  ·have l:=gZ (w.alloc (.cells #[string s,zX,tX] 150)) (.cells #[fX,zX,zX,nX,nX,nX,nX,zX,nX,nX,nX,zX,nX] 90)
   rw[show (w.alloc (.cells #[string s,zX,tX] 150)).heap.size=w.heap.size+1 by simp] at l;exact l
  ·exact(kZ _ _ lQ).trans (kZ _ _ (by simp))
 rw[<-ai];refine(zLu w.heap.size (w.heap.size+1) (w.heap.size+2) w2 s zNF aj E).mono ?_;rintro e f ⟨rfl,t⟩;have m:=vl <| t.kept.old ak (by omega) (by omega) (by omega);have L:=vl t;have g:=t.rd.c2;have am:=t.rd.lt;have an:=t.tb.lt;cases j:yZ s with
 |false=>
  rw[j] at g;go_wp2;go_ret2
  refine⟨m.trans (kZ _ _ m.size),λ_=>rfl,λa=>?_⟩;rw[r.out] at a;simp[j] at a
 |true=>
  rw[j] at g;have M:=(zAE s).1 j;have N:zQ s<=3:=zY _ _ _ (by decide);have O:zT s<=8:=zY _ _ _ (by decide);have P:zE s<=200:=zY _ _ _ (by decide);have R:zJ s<=256:=zY _ _ _ (by decide);have S:xP s<=3000:=M.2.2.2.2.2.2.2.2.2.1;clear M;go_wp2_with fail;refine(zIz (zQ s) (zT s) (zE s) (zJ s) (xP s) _ N O P R S).mono ?_;rintro e F ⟨rfl,G⟩;have T:Hid (Rt (w.heap.size+2) w.heap.size (w.heap.size+1) w2 F s 13 (yZ s) _ [(f.heap.size,.cells #[iX (zQ s:Nat),iX (zT s:Nat),iX (zE s:Nat),iX (zJ s:Nat),iX (xP s:Nat)] 152)]):=(L.alloc _).below G;have u:Hid (Grew w F):=(m.trans (kZ _ _ m.size)).trans (Keep.below G (by have:=m.size;simp;omega));clear G g L m am an;by_cases B:s.size=yS (zQ s) (zT s) (zE s) (zJ s) (xP s)+4
  ·have U:((s.size:Int) != ((yS (zQ s) (zT s) (zE s) (zJ s) (xP s)+4:Nat):Int))=false:=by rw[bne_eq_false_iff_eq];omega
   have I:zOq s=true:=gG B;have ao:4<=s.size:=by omega
   clear B;generalize yS (zQ s) (zT s) (zE s) (zJ s) (xP s)+4=ap at *;go_wp2_with fail;refine(zII s F ao E).mono ?_;rintro e d ⟨rfl,o⟩;rw[show (zJi (s.extract 0 (s.size-4))==zHm (s.extract (s.size-4) s.size))=zHt s from rfl];have y:Hid (Rt (w.heap.size+2) w.heap.size (w.heap.size+1) w2 d s 13 (yZ s) _ [(f.heap.size,.cells #[iX (zQ s:Nat),iX (zT s:Nat),iX (zE s:Nat),iX (zJ s:Nat),iX (xP s:Nat)] 152)]):=T.still o;have J:Hid (Grew w d):=u.trans ⟨o.os,o.output,o.size,λk V _=>o.block k (by have:=u.size;omega) (by have:=u.size;omega)⟩;clear o T u U;cases W:zHt s with
   |false=>
    go_wp2_with fail;go_ret2
    refine⟨J,λ_=>rfl,λa=>?_⟩;rw[r.out] at a;simp[W] at a
   |true=>
    have p:d.heap[f.heap.size]? =some (.cells #[iX (zQ s:Nat),iX (zT s:Nat),iX (zE s:Nat),iX (zJ s:Nat),iX (xP s:Nat)] 152):=(y.own _ hJ).1;have aq:cX d f.heap.size 0=some (iX (zQ s:Nat)):=by simp[World.cell?,p]
    have ar:cX d f.heap.size 1=some (iX (zT s:Nat)):=by simp[World.cell?,p]
    have au:cX d f.heap.size 2=some (iX (zE s:Nat)):=by simp[World.cell?,p]
    have av:cX d f.heap.size 3=some (iX (zJ s:Nat)):=by simp[World.cell?,p]
    have aw:cX d f.heap.size 4=some (iX (xP s:Nat)):=by simp[World.cell?,p]
    clear p;go_wp2_with fail;refine(zLR w.heap.size (w.heap.size+1) (w.heap.size+2) d s 13 (yZ s) _ (zQ s) (zT s) (zE s) (zJ s) (xP s) y.anew E ⟨qL _ _ _,N⟩ ⟨qL _ _ _,O⟩ ⟨qL _ _ _,P⟩ ⟨qL _ _ _,R⟩ S rfl rfl rfl rfl rfl).mono ?_;rintro e C ⟨rfl,X,q⟩;have ax:w.heap.size+2<=C.heap.size:=lY y.HH q.size;have Y:Hid (Grew w C):=J.trans ⟨q.os,q.output,q.size,λk V _=>q.block k (by have:=y.HH;omega) (by omega) (by omega)⟩;have ⟨D,aa,ab,az,ac⟩:=X.mem ax rfl rfl rfl rfl rfl rfl;have g:=ac.c2;rw[j,Bool.true_and] at g;have ad:Hid (MemB C (w.heap.size+2) (w.heap.size+1) D (vZ s)/\D.live=nX):=⟨aa,ab⟩
    clear X q aa ab ac y J aq ar au av aw;cases z:zEd s with
    |false=>
     rw[z] at g;go_wp2_with fail;go_ret2
     refine⟨Y,λ_=>rfl,λa=>?_⟩;rw[r.out] at a;simp[z] at a
    |true=>
     rw[z] at g;have ae:yX s (q3 s) 256=zJ s:=by
      have l:=z;unfold zEd at l;simp only[Bool.and_eq_true,decide_eq_true_iff] at l;exact l.1.1.1.2.2
     have ay:=zL0 s j ae;clear ae;go_wp2_with fail;refine(zCV C (w.heap.size+2) (w.heap.size+1) D (vZ s) ad.1 ad.2 ay.n (qL _ _ _) (qL _ _ _)).mono ?_;rintro e af ⟨rfl,v,n,ag,ah,A⟩;have K:Hid (Mem af (w.heap.size+2) (w.heap.size+1) {D with live:=v} ((vZ s).first.itr n)/\(((vZ s).first.itr n).spreadTo (zE s)).2=false/\Grew w af):=⟨ag,ah,Y.trans ⟨A.os,A.output,A.size,λk V _=>A.block k (by omega) (by omega)⟩⟩
     clear ag ah A;go_wp2_with fail;go_ret2
     refine⟨K.2.2,λa=>?_,λ_=>⟨w.heap.size+1,w.heap.size+2,_,n,rfl,by omega,by omega,K.1,K.2.1⟩⟩;rw[r.out,j,I,W,z] at a;cases a
  ·have U:((s.size:Int) != ((yS (zQ s) (zT s) (zE s) (zJ s) (xP s)+4:Nat):Int))=true:=by rw[bne_iff_ne];omega
   have I:zOq s=false:=gJ B;clear B;generalize yS (zQ s) (zT s) (zE s) (zJ s) (xP s)+4=ap at *;go_wp2_with fail;go_ret2
   refine⟨u,λ_=>rfl,λa=>?_⟩;rw[r.out] at a;simp[I] at a
def Wt (H a:Nat)(w:World)(l:List Nat):Prop:=
 (∃v,w.heap[a]? =some (.cells #[v] 147)/\w.ownsRow H 5 1 v l.length (l.map λx=>int .u8 (x:Nat)))/\a<H/\H<=w.heap.size
theorem jO (H a:Nat)(w:World)(l:List Nat)(k:Wt H a w l)(n:Nat)(C:l.length<=1073741824)(D:n<4294967296):
  Calls prog 78 #[pX a,iX n] w λe w'=>e=rX/\Wt H a w' (l++[n%256])/\Keep H a w w':=by
 obtain⟨⟨v,f,m⟩,b,o⟩:=k;have ⟨p,q,r,s,t⟩:=info_parts zIE;have E:cX w a 0=some v:=by simp[World.cell?,f]
 have x:=vl f;have h:=vl m;generalize y:l.length=z at *;go_in;go_wp2_with (at_builtin;refine wpList_append_lies _ rfl _ _ 68 rfl H 5 p (int .u8 0) 1 1 underlying68 q r s t rfl (by decide) _ _ _ rfl (h.alloc _) ⟨w.heap.size,0,none⟩ 1 1 [int .u8 ((n:Int)%256)] rfl rfl (cell_one_new _ _ _) (by intro u j;simp at j;subst j;rfl) (by decide) (by unfold maxLen;omega) (by omega) (by simp;omega) _ rfl ?_;intro g cap w2 A B F G;have c:=xH h B o;have d:=(c.block a b).trans x;have I:cX w2 a 0=some v:=(by simp[World.cell?,d]);have q2:w2.frozen? ⟨a,0,none⟩=false:=(by simp[World.frozen?,d]))
 go_end0;refine⟨rfl,⟨⟨slice (qX g) (z+1) cap,?_,xX ?_ (λ_=>Keep.set _ _ _) b⟩,b,by have:=c.size;simp[World.setCell];omega⟩,(xE c).trans (Keep.set _ _ _)⟩
 ·simp[setCell,lU,d]
 ·rw[kX,List.map_append,y]
  exact A
def two (n:Nat):List Nat:=[n/256%256,n%256]
theorem zBF (H a:Nat)(w:World)(l:List Nat)(c:Wt H a w l)(n:Nat)(p:l.length<=1073741823)(d:n<4294967296):
  Calls prog 77 #[pX a,iX n] w λe w'=>e=rX/\Wt H a w' (l++two n)/\Keep H a w w':=by
 have f:=vl c;have g:Hid ((n:Int)/256=((n/256:Nat):Int)):=by show _=_;omega
 go_in;go_wp2_with fail;rw[g.out];refine(jO H a w l f (n/256) (by omega) (by omega)).mono ?_;rintro e w1 ⟨rfl,h,j⟩;have k:=vl h;go_wp2_with fail;refine(jO H a w1 _ k n (by simp;omega) d).mono ?_;rintro e w2 ⟨rfl,b,m⟩;have o:Hid (Wt H a w2 (l++two n)):=by
  show Wt H a w2 _;rw[gQ] at b;exact b
 go_wp2;go_end0;exact⟨rfl,o,j.trans m⟩
structure Wx (H a:Nat)(S:Nat->Prop)(b:Nat)(t:Tb)(w:World)(l:List Nat):Prop where
 wt:Wt H a w l
 tab:TabAt w S b t
 safe:∀k,S k->k<H/\k≠a
theorem Wx.next {H a:Nat}{S:Nat->Prop}{b:Nat}{t:Tb}{w w':World}{l d:List Nat}(c:Wx H a S b t w l)(f:Wt H a w' d)(g:Keep H a w w'):Wx H a S b t w' d:=
 ⟨f,c.tab.keep λk e=>g.block k (c.safe k e).1 (c.safe k e).2,c.safe⟩
def qJ (t:Tb):Nat:=if t.stream then 1 else 0
def Tb.headL (t:Tb):List Nat:=[76,88,qJ t,t.ahead%256,t.hold%256]++two t.nmode++two t.nrule++two t.nst++two t.count
theorem zI4 (H a b:Nat)(S:Nat->Prop)(t:Tb)(w:World)(aa:Wx H a S b t w [])(ok:t.Ok)(ab:t.nrule<=8)(ac:t.nmode<=3):
  Calls prog 76 #[pX a,pX b] w λe w'=>e=returned (tuple #[])/\Wx H a S b t w' t.headL/\Keep H a w w':=by
 have L:=vl aa;have ad:=ok.ahead;have b2:=ok.hold;have ae:=ok.nst;have af:=ok.count;cases r:t.stream with
 |true=>
  have M:Hid (qJ t=1):=by show _=_;unfold qJ;rw[r];rfl
  have N:=vl r;go_in;go_wp2_with fail;refine(jO H a w _ L.wt (76) (by simp[two]) (by omega)).mono ?_;rintro e w1 ⟨rfl,c,s⟩;have u:=vl <| L.next c s
  go_wp2_with fail;refine(jO H a w1 _ u.wt (88) (by simp[two]) (by omega)).mono ?_;rintro e w2 ⟨rfl,c,v⟩;have d:=vl <| u.next c v
  clear c;have O:cX w2 b 0=some (bool true):=by rw[<-N.out];exact d.tab.c0
  go_wp2_with fail;refine(jO H a w2 _ d.wt (1) (by simp[two]) (by omega)).mono ?_;rintro e f ⟨rfl,c,x⟩;have g:Hid (Wx H a S b t f _):=d.next c x
  clear c O;have P:cX f b 1=some (iX (t.ahead:Nat)):=g.tab.c1;go_wp2_with fail;refine(jO H a f _ g.wt (t.ahead) (by simp[two]) (by omega)).mono ?_;rintro e j ⟨rfl,c,y⟩;have k:Hid (Wx H a S b t j _):=g.next c y
  clear c P;have R:cX j b 2=some (iX (t.hold:Nat)):=k.tab.c2;go_wp2_with fail;refine(jO H a j _ k.wt (t.hold) (by simp[two]) (by omega)).mono ?_;rintro e z ⟨rfl,c,A⟩;have l:Hid (Wx H a S b t z _):=k.next c A
  clear c R;obtain⟨_,y3,B,C,D,_,rfl,_,_,_⟩:=l.tab.c3;go_wp2_with fail;refine(zBF H a z _ l.wt (t.nmode) (by simp[two]) (by omega)).mono ?_;rintro e E ⟨rfl,c,F⟩;have m:Hid (Wx H a S b t E _):=l.next c F
  clear c y3;obtain⟨_,T,B,C,D,_,rfl,_,_,_⟩:=m.tab.c4;go_wp2_with fail;refine(zBF H a E _ m.wt (t.nrule) (by simp[two]) (by omega)).mono ?_;rintro e G ⟨rfl,c,I⟩;have o:Hid (Wx H a S b t G _):=m.next c I
  clear c T;obtain⟨_,U,B,C,D,_,rfl,_,_,_⟩:=o.tab.c8;go_wp2_with fail;refine(zBF H a G _ o.wt (t.nst) (by simp[two]) (by omega)).mono ?_;rintro e p ⟨rfl,c,J⟩;have q:Hid (Wx H a S b t p _):=o.next c J
  clear c U;have V:cX p b 7=some (iX (t.count:Nat)):=q.tab.c7;go_wp2_with fail;refine(zBF H a p _ q.wt (t.count) (by simp[two]) (by omega)).mono ?_;rintro e W ⟨rfl,c,K⟩;have X:Hid (Wx H a S b t W _):=q.next c K
  clear c V;go_wp2_with fail;go_end0;refine⟨rfl,?_,((((((((s.trans v).trans x).trans y).trans A).trans F).trans I).trans J).trans K)⟩;have Y:=X.out;unfold Tb.headL;rw[M.out];simpa[gQ,two] using Y
 |false=>
  have M:Hid (qJ t=0):=by show _=_;unfold qJ;rw[r];rfl
  have N:Hid (t.stream=false):=r;clear r;go_enter func76,ntmps76
  go_wp2_with fail;refine(jO H a w _ L.wt (76) (by simp[two]) (by omega)).mono ?_;rintro e w1 ⟨rfl,c,s⟩;have u:Hid (Wx H a S b t w1 _):=L.next c s
  clear c;go_wp2_with fail;refine(jO H a w1 _ u.wt (88) (by simp[two]) (by omega)).mono ?_;rintro e w2 ⟨rfl,c,v⟩;have d:Hid (Wx H a S b t w2 _):=u.next c v
  clear c;have O:cX w2 b 0=some (bool false):=by rw[<-N.out];exact d.tab.c0
  go_wp2_with fail;refine(jO H a w2 _ d.wt (0) (by simp[two]) (by omega)).mono ?_;rintro e f ⟨rfl,c,x⟩;have g:Hid (Wx H a S b t f _):=d.next c x
  clear c O;have P:cX f b 1=some (iX (t.ahead:Nat)):=g.tab.c1;go_wp2_with fail;refine(jO H a f _ g.wt (t.ahead) (by simp[two]) (by omega)).mono ?_;rintro e j ⟨rfl,c,y⟩;have k:Hid (Wx H a S b t j _):=g.next c y
  clear c P;have R:cX j b 2=some (iX (t.hold:Nat)):=k.tab.c2;go_wp2_with fail;refine(jO H a j _ k.wt (t.hold) (by simp[two]) (by omega)).mono ?_;rintro e z ⟨rfl,c,A⟩;have l:Hid (Wx H a S b t z _):=k.next c A
  clear c R;obtain⟨_,y3,B,C,D,_,rfl,_,_,_⟩:=l.tab.c3;go_wp2_with fail;refine(zBF H a z _ l.wt (t.nmode) (by simp[two]) (by omega)).mono ?_;rintro e E ⟨rfl,c,F⟩;have m:Hid (Wx H a S b t E _):=l.next c F
  clear c y3;obtain⟨_,T,B,C,D,_,rfl,_,_,_⟩:=m.tab.c4;go_wp2_with fail;refine(zBF H a E _ m.wt (t.nrule) (by simp[two]) (by omega)).mono ?_;rintro e G ⟨rfl,c,I⟩;have o:Hid (Wx H a S b t G _):=m.next c I
  clear c T;obtain⟨_,U,B,C,D,_,rfl,_,_,_⟩:=o.tab.c8;go_wp2_with fail;refine(zBF H a G _ o.wt (t.nst) (by simp[two]) (by omega)).mono ?_;rintro e p ⟨rfl,c,J⟩;have q:Hid (Wx H a S b t p _):=o.next c J
  clear c U;have V:cX p b 7=some (iX (t.count:Nat)):=q.tab.c7;go_wp2_with fail;refine(zBF H a p _ q.wt (t.count) (by simp[two]) (by omega)).mono ?_;rintro e W ⟨rfl,c,K⟩;have X:Hid (Wx H a S b t W _):=q.next c K
  clear c V;go_wp2_with fail;go_end0;refine⟨rfl,?_,((((((((s.trans v).trans x).trans y).trans A).trans F).trans I).trans J).trans K)⟩;have Y:=X.out;unfold Tb.headL;rw[M.out];simpa[gQ,two] using Y
theorem zGW (b o j:Nat):(⟨b,o,none⟩:Addr).add j=⟨b,o+j,none⟩:=by unfold Addr.add;split <;> simp_all
def u8s (l:List Nat):List UInt8:=l.map UInt8.ofNat
theorem zNX {w:World}{H g n cap:Nat}{l:List Nat}(c:w.ownsRow H 5 1 (slice (qX g) n cap) n (l.map λx=>int .u8 (x:Nat)))(f:∀x∈l,x<256):
  (convert 68 9 (slice (qX g) n cap)).run prog w=.ok (string ⟨(u8s l).toArray⟩) w:=by
 have k:(u8s l).length=n:=by have:=c.1;simp[u8s] at *;omega
 rw[<-k];refine run_convert_bytes_back _ 68 9 5 ⟨g,0,none⟩ cap (u8s l) underlying68 underlying5 underlying9 ?_;intro j m;rcases c.2 with⟨a,_⟩|⟨t,u,o,a,v,p,y,z,A,q⟩
 ·cases a
 ·injection a with b _ r
  injection b with b;injection b with s;subst s r;have d:j<l.length:=by simpa[u8s] using m
  have e:(o.toList.take (n*1))[j]? =some (int .u8 ((u8s l)[j].toNat:Nat)):=by
   rw[q,gX,lV d];have B:=f l[j] (List.getElem_mem d);simp[u8s];omega
  rw[List.getElem?_take,if_pos (by omega)] at e;rw[zGW,Nat.zero_add];simp[World.cell?,p];simpa using e
def Tb.longL (t:Tb):List Nat:=(List.range t.nlong).map t.long
def sealed (l:List Nat):List UInt8:=u8s l++four (4294967295-zAi (u8s l))
theorem zQN (H a b:Nat)(S:Nat->Prop)(t:Tb)(w:World)(l:List Nat)(c:Wx H a S b t w l)(ok:t.Ok)(ci:l.length<=900000)(J:∀x∈l,x<256)(cj:1<=t.nst)(A:1<=t.count)(ck:1<=t.nlong)(cl:t.nlong<=75000)(cm:1<=t.nrule)(cn:t.nrule<=8)(co:t.nmode<=3)
  {L M N O P R T U V W aa ab ac ad ae af ah ai aj ak al am an ao ap aq ar au av aw ax ay az aA aB aC aD aE aF aG aH aI aJ aK aL aM aN aO aP aQ aR aS aT aU aV aW aX aY aZ a0 a1 a2 a3 a4 a5 a6 a7 a8 a9 ba bb bc bd be bf bg bh bi bj bk bl bm bn bo bp bq br bs bt bu bv bw bx bz bA bB bC bD bE bF bG bH bI bJ bK bL bM bN bO bP:Value}:
  Code.wp prog (xO 8 ((f51.body).getD .skip)) (bodyPost prog f51 λe w'=>
   (∃r:ByteArray,e=returned (string r)/\r.data.toList=sealed (l++t.longL))/\Keep H a w w')
   ⟨(pX b::L::M::pX a::N::O::P::R::T::U::V::W::aa::ab::ac::ad::ae::af::ah::ai::aj::ak::al::am::an::ao::ap::aq::ar::au::av::aw::ax::ay::az::aA::aB::aC::aD::aE::aF::aG::aH::aI::aJ::aK::aL::aM::aN::aO::aP::aQ::aR::aS::aT::aU::aV::aW::aX::aY::aZ::a0::a1::a2::a3::a4::a5::a6::a7::a8::a9::ba::bb::bc::bd::be::bf::bg::bh::bi::bj::bk::bl::bm::bn::bo::bp::bq::br::bs::bt::bu::bv::bw::bx::bz::bA::bB::bC::bD::bE::bF::bG::bH::bI::bJ::bK::bL::bM::bN::bO::bP::[]).toArray,[]⟩ w:=by
 conv=>arg 2;whnf
 have cp:=vl c;have bQ:=c.wt.2.1;have m:=c.wt.2.2;have ⟨⟨v,q,B⟩,_,_⟩:=c.wt;obtain⟨_,cq,C,D,bR,cr,rfl,ct,cu,bS⟩:=c.tab.c12;have ⟨bT,bU,bV,bW,bX⟩:=info_parts zIE;have bY:cX w a 0=some v:=by simp[World.cell?,q]
 have bZ:w.frozen? ⟨a,0,none⟩=false:=by simp[World.frozen?,q]
 have b0:=vl q;have E:=vl B;have b1:Hid (∀j u,(t.longL.map λx=>(int .u8 (x:Nat):Value))[j]? =some u->w.cell? ((⟨C,D,none⟩:Addr).add j)=some u):=by
  intro j u o;have F:j<t.nlong:=by have:=(List.getElem?_eq_some_iff.1 o).1;simpa[Tb.longL] using this
  rw[zGW];have e:=bS j F;rw[e,<-o];simp[Tb.longL,F]
 have b3:Hid (∀x∈l++t.longL,x<256):=by
  intro x b4;rcases kU.1 b4 with s|s
  ·exact J x s
  ·obtain⟨i,b5,rfl⟩:=List.mem_map.1 s
   exact ok.longB i (List.mem_range.1 b5)
 have cw:=lZ (c.safe _ c.tab.safe).1 m;have cx:=(c.safe _ c.tab.safe).2;have p:a<w.heap.size:=by omega
 have y:v.ownBlock≠some a:=λe=>by have:=(B.lt a e).1;omega
 apply wp_cut;intro cy b6;go_wp2;go_region_law
  ((refine step_append_lies _ (by rfl) (.tmp 98) (.tmp 102) 68 (by rfl) H 5 bT (int .u8 0) 1 1 underlying68 bU bV bW bX rfl (by omega) v l.length _ (by simp[Act.eval,Act.put]) E.drew ⟨C,D,none⟩ t.nlong bR (t.longL.map λx=>int .u8 (x:Nat)) (by simp[Act.eval,Act.put]) (by simp[Tb.longL]) b1 (by intro u o;obtain⟨x,_,rfl⟩:=List.mem_map.1 o;rfl) (by omega) (by unfold maxLen;omega) (by omega) (by simpa using m) _ rfl ?_;intro z cap w1 G f b7 b8;have A:=(f.cell_far ⟨a,0,none⟩ p (Ne.symm y)).trans bY;have b9:=(f.frozen_far ⟨a,0,none⟩ p (Ne.symm y)).trans bZ))
 all_goals
  apply b6.out;obtain⟨w2,I,g⟩:∃w2,w2=w1.setCell ⟨a,0,none⟩ (slice (qX z) (l.length+t.nlong) cap)/\Hid (w2.ownsRow H 5 1 (slice (qX z) (l.length+t.nlong) cap) (l.length+t.nlong) ((l++t.longL).map λx=>int .u8 (x:Nat))/\cX w2 a 0=some (slice (qX z) (l.length+t.nlong) cap)/\Keep H a w w2):=by
   have ca:=(f.block a p (Ne.symm y)).trans b0;refine⟨_,rfl,xX ?_ (λ_=>Keep.set _ _ _) bQ,?_,((Keep.drew _).trans (Keep.grown f m λk cb=>(E.lt k cb).1)).trans (Keep.set _ _ _)⟩
   ·rw[List.map_append];exact G
   ·simp[World.cell?,setCell,lU,ca]
  rw[<-I];have cz:=g.2.1;have cA:=zNX g.1 b3;have cB:=lZ p g.2.2.size;have cc:(l++t.longL).length<=1000000:=by simp[Tb.longL];omega
  clear I G f b7 b8 A b9;generalize cd:l++t.longL=d at *;have cC:=vl cd;go_wp2_with fail;refine(zFi ⟨(u8s d).toArray⟩ w2 (by simp[u8s,ByteArray.size];omega)).mono ?_;rintro e cD ⟨rfl,ce⟩;have cf:=vl <| g.2.2.trans (Keep.below ce (lY m g.2.2.size));have cE:(⟨(u8s d).toArray⟩:ByteArray).size<=1000000:=by simpa[u8s,ByteArray.size] using cc
  have cF:(⟨(four (4294967295-zAi (⟨(u8s d).toArray⟩:ByteArray).data.toList)).toArray⟩:ByteArray).size=4:=rfl;have cg:Hid ((⟨(u8s d).toArray⟩:ByteArray).data.toList++(⟨(four (4294967295-zAi (⟨(u8s d).toArray⟩:ByteArray).data.toList)).toArray⟩:ByteArray).data.toList=sealed d):=rfl;generalize (⟨(four (4294967295-zAi (⟨(u8s d).toArray⟩:ByteArray).data.toList)).toArray⟩:ByteArray)=ch at *;generalize (⟨(u8s d).toArray⟩:ByteArray)=X at *;go_wp2;go_ret;refine⟨⟨X++ch,rfl,?_⟩,cf⟩;rw[<-cg.out];simp
theorem qM {a:Type}(f:Nat->List a)(j:Nat):(List.range (j+1)).flatMap f=(List.range j).flatMap f++f j:=by rw[List.range_succ,List.flatMap_append];simp
theorem zB3 (n x:Nat)(a:x∈two n):x<256:=by
 simp[two] at a;rcases a with rfl|rfl <;> exact hU _ (by decide)
theorem zGF (f:Nat->Nat)(j x:Nat)(a:x∈(List.range j).flatMap λi=>two (f i)):x<256:=by
 have ⟨i,_,b⟩:=List.mem_flatMap.1 a;exact zB3 _ _ b
theorem zCh (f:Nat->Nat)(j:Nat):((List.range j).flatMap λi=>two (f i)).length=2*j:=by
 induction j with
 |zero=>rfl
 |succ j a=>rw[qM,kX,a];simp[two];omega
theorem zFO (f:Nat->Nat)(j x:Nat)(a:x∈(List.range j).map λi=>f i%256):x<256:=by
 obtain⟨i,_,rfl⟩:=List.mem_map.1 a;exact hU _ (by decide)
theorem qP {l k:List Nat}(b:∀x∈l,x<256)(c:∀x,x∈k->x<256):∀x∈l++k,x<256:=by
 intro x d;rcases kU.1 d with a|a
 ·exact b x a
 ·exact c x a
def Tb.endN (t:Tb)(i:Nat):Nat:=(t.ends i+1).toNat
def Tb.endsL (t:Tb)(j:Nat):List Nat:=(List.range j).map λi=>t.endN i%256
def Tb.rowL (t:Tb)(i j:Nat):List Nat:=(List.range j).flatMap λm=>two (t.next i m)
def Tb.nextL (t:Tb)(j:Nat):List Nat:=(List.range j).flatMap λi=>t.rowL i t.count
theorem zBP (t:Tb)(j:Nat):(t.nextL j).length=2*t.count*j:=by
 induction j with
 |zero=>rfl
 |succ j a=>
  unfold Tb.nextL at a ⊢;rw[qM,kX,a,Nat.mul_succ];unfold Tb.rowL;rw[zCh]
theorem zJW (t:Tb)(j x:Nat)(a:x∈t.nextL j):x<256:=by
 have ⟨i,_,b⟩:=List.mem_flatMap.1 a;exact zGF _ _ _ b
theorem zQO (H a b:Nat)(S:Nat->Prop)(t:Tb)(w:World)(l:List Nat)(d:Wx H a S b t w l)(ok:t.Ok)(bZ:l.length<=800000)(z:∀x∈l,x<256)(A:1<=t.nst)(B:1<=t.count)(C:1<=t.nlong)(D:t.nlong<=75000)(E:1<=t.nrule)(F:t.nrule<=8)(G:t.nmode<=3)
  {I J L M N O P R T U V W X Y aa ab ac ad ae af ag ah ai aj ak al am an ao ap aq ar au av aw ax ay az aA aB aC aD aE aF aG aH aI aJ aK aL aM aN aO aP aQ aR aS aT aU aV aW aX aY aZ a0 a1 a2 a3 a4 a5 a6 a7 a8 a9 ba bb bc bd be bf bg bh bi bj bk bl bm bn bo bp bq br bs bt bu bv bw bx bz bA bB bC bD bE bF bG bH bI bJ bK:Value}:
  Code.wp prog (xO 7 ((f51.body).getD .skip)) (bodyPost prog f51 λe w'=>
   (∃r:ByteArray,e=returned (string r)/\r.data.toList=sealed (l++t.endsL t.nst++t.longL))/\Keep H a w w')
   ⟨(pX b::I::J::pX a::L::M::N::O::P::R::T::U::V::W::X::Y::aa::ab::ac::ad::ae::af::ag::ah::ai::aj::ak::al::am::an::ao::ap::aq::ar::au::av::aw::ax::ay::az::aA::aB::aC::aD::aE::aF::aG::aH::aI::aJ::aK::aL::aM::aN::aO::aP::aQ::aR::aS::aT::aU::aV::aW::aX::aY::aZ::a0::a1::a2::a3::a4::a5::a6::a7::a8::a9::ba::bb::bc::bd::be::bf::bg::bh::bi::bj::bk::bl::bm::bn::bo::bp::bq::br::bs::bt::bu::bv::bw::bx::bz::bA::bB::bC::bD::bE::bF::bG::bH::bI::bJ::bK::[]).toArray,[]⟩ w:=by
 conv=>arg 2;whnf
 have bL:=vl d;have b0:=d.wt.2.1;have b1:=d.wt.2.2;obtain⟨_,b3,k,b4,b5,bM,rfl,b6,b7,bN⟩:=d.tab.c9;have bO:=vl bN;have m:=d.safe k bM;have bP:=vl ok.ends;have b8:=ok.nst;apply wp_cut;intro ca bQ;go_wp2;go_loopg [89] t.nst (λq i wr=>∃j:Nat,q=t.nst-j/\j<=t.nst/\i=iX (j:Int)/\Wx H a S b t wr (l++t.endsL j)/\Keep H a w wr)
 case atStart=>exact⟨0,rfl,lX,rfl,by simpa[Tb.endsL] using bL.out,Keep.refl _ _ _⟩
 case round=>
  obtain⟨j,bR,cb,rfl,bS,o⟩:=hrel;have c:Hid (gk=t.nst-j/\Wx H a S b t wr (l++t.endsL j)/\Keep H a w wr):=⟨bR,bS,o⟩
  by_cases p:j<t.nst
  ·have bT:(j:Int)<(t.nst:Int):=by omega
   have bU:=(gY (o.block k m.1 m.2)).trans (bO.out j p);have g:=bP.out j p;have s:Hid (t.ends j+1=(t.endN j:Nat)):=by show _=_;unfold Tb.endN;omega
   have cc:t.endN j<=8:=by unfold Tb.endN;omega
   have cd:(l++t.endsL j).length<=900000:=by simp[Tb.endsL];omega
   obtain⟨x,f⟩:∃x,x=t.ends j:=⟨_,rfl⟩
   rw[<-f] at bU g;have bV:Hid (x+1=(t.endN j:Nat)):=by show _=_;rw[f];exact s.out
   clear f s;go_wp2_with fail;rw[bV.out];refine(jO H a wr _ c.out.2.1.wt (t.endN j) (by omega) (by omega)).mono ?_;rintro e w1 ⟨rfl,bW,u⟩;have v:Hid (Wx H a S b t w1 (l++t.endsL (j+1))/\Keep H a w w1):=by
    refine⟨?_,c.out.2.2.trans u⟩;have y:=c.out.2.1.next bW u
    rw[gQ] at y;show Wx H a S b t w1 (l++(List.range (j+1)).map λi=>t.endN i%256);rw[xQ];exact y
   go_wp2;go_roundg (t.nst-(j+1))
   case measure=>rw[c.out.1];omega
   case rel=>exact⟨j+1,rfl,by omega,congrArg (Value.int IntKind.i64) (by omega),v.out.1,v.out.2⟩
  ·have bX:j=t.nst:=by omega
   have bT:(t.nst:Int)<=(j:Int):=by omega
   rw[bX] at c;go_wp2;refine bQ.out _ _ (qS (zQN H a b S t wr _ c.out.2.1 ok (by simp[Tb.endsL];omega) (qP z λx f=>zFO _ _ x f) A B C D E F G) ?_);rintro e w' ⟨g,bY⟩;exact⟨g,c.out.2.2.trans bY⟩
theorem zQP (H a b:Nat)(S:Nat->Prop)(t:Tb)(w:World)(l:List Nat)(d:Wx H a S b t w l)(ok:t.Ok)(co:l.length<=600000)(O:∀x∈l,x<256)(P:1<=t.nst)(R:1<=t.count)(T:1<=t.nlong)(U:t.nlong<=75000)(V:1<=t.nrule)(W:t.nrule<=8)(X:t.nmode<=3)
  {Y aa ab ac ad ae af ag ah ai aj ak al am an ao ap aq ar au av aw ax ay az aA aB aC aD aE aF aG aH aI aJ aK aL aM aN aO aP aQ aR aS aT aU aV aW aX aY aZ a0 a1 a2 a3 a4 a5 a6 a7 a8 a9 ba bb bc bd be bf bg bh bi bj bk bl bm bn bo bp bq bs bt bu bv bw bx bz bA bB bC bD bE bF bG bH bI bJ bK bL bM bN bO bP bQ bR bS bT bU bV bW bX bY:Value}:
  Code.wp prog (xO 6 ((f51.body).getD .skip)) (bodyPost prog f51 λe w'=>
   (∃r:ByteArray,e=returned (string r)/\r.data.toList=sealed (l++t.nextL t.nst++t.endsL t.nst++t.longL))/\Keep H a w w')
   ⟨(pX b::Y::aa::pX a::ab::ac::ad::ae::af::ag::ah::ai::aj::ak::al::am::an::ao::ap::aq::ar::au::av::aw::ax::ay::az::aA::aB::aC::aD::aE::aF::aG::aH::aI::aJ::aK::aL::aM::aN::aO::aP::aQ::aR::aS::aT::aU::aV::aW::aX::aY::aZ::a0::a1::a2::a3::a4::a5::a6::a7::a8::a9::ba::bb::bc::bd::be::bf::bg::bh::bi::bj::bk::bl::bm::bn::bo::bp::bq::bs::bt::bu::bv::bw::bx::bz::bA::bB::bC::bD::bE::bF::bG::bH::bI::bJ::bK::bL::bM::bN::bO::bP::bQ::bR::bS::bT::bU::bV::bW::bX::bY::[]).toArray,[]⟩ w:=by
 conv=>arg 2;whnf
 have bZ:=vl d;have cp:=d.wt.2.1;have cq:=d.wt.2.2;obtain⟨_,ct,s,b0,cu,b1,rfl,cw,cx,b3⟩:=d.tab.c8;have b4:=vl b3;have A:=d.safe s b1;have b5:=vl d.safe;have b6:=vl ok.next
 have b7:=ok.nst;have cy:=ok.count;apply wp_cut;intro cz b9;go_wp2;go_loopg [70] t.nst (λq i wr=>∃j:Nat,q=t.nst-j/\j<=t.nst/\i=iX (j:Int)/\Wx H a S b t wr (l++t.nextL j)/\Keep H a w wr)
 case atStart=>exact⟨0,rfl,lX,rfl,by simpa[Tb.nextL] using bZ.out,Keep.refl _ _ _⟩
 case round=>
  obtain⟨j,B,cA,rfl,C,g⟩:=hrel;have f:Hid (gk=t.nst-j/\Wx H a S b t wr (l++t.nextL j)/\Keep H a w wr):=⟨B,C,g⟩
  by_cases D:j<t.nst
  ·have ca:(j:Int)<(t.nst:Int):=by omega
   obtain⟨u,cb,v,or_,cc,cd,ce,cB,cC,cf⟩:=b4.out j D;have cD:cX wr s (b0+j)=some (slice (some ⟨v,or_,none⟩) t.count cc):=by rw[<-ce];exact(gY (g.block s A.1 A.2)).trans cb
   have cg:=vl cf;have E:=b5.out v cd;have ch:Hid (∀k,k<t.count->t.next j k<t.nst):=λk g=>b6.out j k D g;have y:=vl <| zBP t j;have ci:2*t.count*j<=102400:=lY (Nat.mul_le_mul (show 2*t.count<=512 by omega) (show j<=200 by omega)) (by decide);go_wp2;go_loopg [76] t.count (λq i F=>∃m:Nat,q=t.count-m/\m<=t.count/\i=iX (m:Int)/\Wx H a S b t F (l++t.nextL j++t.rowL j m)/\Keep H a w F)
   case atStart=>exact⟨0,rfl,lX,rfl,by simpa[Tb.rowL] using f.out.2.1,f.out.2.2⟩
   case round=>
    obtain⟨m,G,cE,rfl,I,z⟩:=hrel;have c:Hid (gk=t.count-m/\Wx H a S b t wr (l++t.nextL j++t.rowL j m)/\Keep H a w wr):=⟨G,I,z⟩
    by_cases J:m<t.count
    ·have cj:(m:Int)<(t.count:Int):=by omega
     have cF:=(gY (z.block v E.1 E.2)).trans (cg.out m J);have cG:=ch.out m J;have cH:(l++t.nextL j++t.rowL j m).length<=800000:=by
      rw[kX,kX,y.out];unfold Tb.rowL;rw[zCh];omega
     go_wp2_with fail;refine(zBF H a wr _ c.out.2.1.wt (t.next j m) (by omega) (by omega)).mono ?_;rintro e w1 ⟨rfl,ck,L⟩;have o:Hid (Wx H a S b t w1 (l++t.nextL j++t.rowL j (m+1))/\Keep H a w w1):=by
      refine⟨?_,c.out.2.2.trans L⟩;have p:=c.out.2.1.next ck L
      rw[gQ] at p;show Wx H a S b t w1 (l++t.nextL j++(List.range (m+1)).flatMap λi=>two (t.next j i));rw[qM];exact p
     go_wp2;go_roundg (t.count-(m+1))
     case measure=>rw[c.out.1];omega
     case rel=>exact⟨m+1,rfl,by omega,congrArg (Value.int IntKind.i64) (by omega),o.out.1,o.out.2⟩
    ·have M:m=t.count:=by omega
     have cj:(t.count:Int)<=(m:Int):=by omega
     rw[M] at c;clear G I z M;have o:Hid (Wx H a S b t wr (l++t.nextL (j+1))/\Keep H a w wr):=by
      refine⟨?_,c.out.2.2⟩;have p:=c.out.2.1;rw[gQ] at p;show Wx H a S b t wr (l++(List.range (j+1)).flatMap λi=>t.rowL i t.count);rw[qM];exact p
     go_wp2_with fail;go_roundg (t.nst-(j+1))
     case measure=>rw[f.out.1];omega
     case rel=>exact⟨j+1,rfl,by omega,congrArg (Value.int IntKind.i64) (by omega),o.out.1,o.out.2⟩
  ·have N:j=t.nst:=by omega
   have ca:(t.nst:Int)<=(j:Int):=by omega
   rw[N] at f;clear B C g N;have y:Hid ((t.nextL t.nst).length=2*t.count*t.nst):=zBP t t.nst;have ci:2*t.count*t.nst<=102400:=lY (Nat.mul_le_mul (show 2*t.count<=512 by omega) b7) (by decide);go_wp2_with fail;refine b9.out _ _ (qS (zQO H a b S t wr _ f.out.2.1 ok (by rw[kX,y.out];omega) (qP O λx cl=>zJW t _ x cl) P R T U V W X) ?_);rintro e w' ⟨cm,cn⟩;exact⟨cm,f.out.2.2.trans cn⟩
section
variable (H a b:Nat) (S:Nat->Prop) (t:Tb) (w:World) (l:List Nat) (d:Wx H a S b t w l) (ok:t.Ok)
def Tb.kindsL (t:Tb)(j:Nat):List Nat:=(List.range j).map λi=>t.kind i%256
def Tb.rulesL (t:Tb)(j:Nat):List Nat:=(List.range j).flatMap λi=>[t.act i%256,t.push i%256]
def Tb.startsL (t:Tb)(j:Nat):List Nat:=(List.range j).flatMap λi=>two (t.start i)
theorem zCa (j:Nat):(t.rulesL j).length=2*j:=by
 induction j with
 |zero=>rfl
 |succ j a=>
  unfold Tb.rulesL at a ⊢;rw[qM,kX,a];simp;omega
theorem zHx (j x:Nat)(b:x∈t.rulesL j):x<256:=by
 have ⟨i,_,a⟩:=List.mem_flatMap.1 b;simp at a;rcases a with rfl|rfl <;> exact hU _ (by decide)
theorem zBv (j:Nat):(t.startsL j).length=2*j:=zCh _ _
def Tb.bytesL (t:Tb):List Nat:=t.headL++t.startsL t.nmode++t.rulesL t.nrule++t.kindsL 256++t.nextL t.nst++t.endsL t.nst++t.longL
theorem zQQ (d:Wx H a S b t w l)(ok:t.Ok)(bX:l.length<=500000)(u:∀x∈l,x<256)(v:1<=t.nst)(y:1<=t.count)(z:1<=t.nlong)(A:t.nlong<=75000)(B:1<=t.nrule)(C:t.nrule<=8)(D:t.nmode<=3)
  {E F G I J L M N O P R T U V W X Y aa ab ac ad ae af ag ah ai aj ak al am an ao ap aq ar au av aw ax ay az aA aB aC aD aE aF aG aH aI aJ aK aL aM aN aO aP aQ aR aS aT aU aV aW aX aY aZ a0 a1 a2 a3 a4 a5 a6 a7 a8 a9 ba bb bc bd be bf bg bh bi bj bk bl bm bn bo bp bq br bt bu bv bw bx bz bA bB bC bD bE bF bG bH bI:Value}:
  Code.wp prog (xO 5 ((f51.body).getD .skip)) (bodyPost prog f51 λe w'=>
   (∃r:ByteArray,e=returned (string r)/\r.data.toList=sealed (l++t.kindsL 256++t.nextL t.nst++t.endsL t.nst++t.longL))/\Keep H a w w')
   ⟨(pX b::E::F::pX a::G::I::J::L::M::N::O::P::R::T::U::V::W::X::Y::aa::ab::ac::ad::ae::af::ag::ah::ai::aj::ak::al::am::an::ao::ap::aq::ar::au::av::aw::ax::ay::az::aA::aB::aC::aD::aE::aF::aG::aH::aI::aJ::aK::aL::aM::aN::aO::aP::aQ::aR::aS::aT::aU::aV::aW::aX::aY::aZ::a0::a1::a2::a3::a4::a5::a6::a7::a8::a9::ba::bb::bc::bd::be::bf::bg::bh::bi::bj::bk::bl::bm::bn::bo::bp::bq::br::bt::bu::bv::bw::bx::bz::bA::bB::bC::bD::bE::bF::bG::bH::bI::[]).toArray,[]⟩ w:=by
 conv=>arg 2;whnf
 have bJ:=vl d;have bY:=d.wt.2.1;have bZ:=d.wt.2.2;obtain⟨_,b0,bs,b1,cs,bK,rfl,b3,b4,bL⟩:=d.tab.c6;have bM:=vl bL;have f:=d.safe bs bK;have bN:=vl ok.kind;have b5:=ok.count;apply wp_cut;intro b6 bO;go_wp2;go_loopg [58] 256 (λq i wr=>∃j:Nat,q=256-j/\j<=256/\i=iX (j:Int)/\Wx H a S b t wr (l++t.kindsL j)/\Keep H a w wr)
 case atStart=>exact⟨0,rfl,lX,rfl,by simpa[Tb.kindsL] using bJ.out,Keep.refl _ _ _⟩
 case round=>
  obtain⟨j,bP,b7,rfl,bQ,g⟩:=hrel;have c:Hid (gk=256-j/\Wx H a S b t wr (l++t.kindsL j)/\Keep H a w wr):=⟨bP,bQ,g⟩
  by_cases k:j<256
  ·have bR:(j:Int)<(256:Int):=by omega
   have b8:=(gY (g.block bs f.1 f.2)).trans (bM.out j k);have m:(l++t.kindsL j).length<=600000:=by simp[Tb.kindsL];omega
   have b9:=bN.out j k;go_wp2_with fail;refine(jO H a wr _ c.out.2.1.wt (t.kind j) (by omega) (by omega)).mono ?_;rintro e w1 ⟨rfl,bS,o⟩;have p:Hid (Wx H a S b t w1 (l++t.kindsL (j+1))/\Keep H a w w1):=by
    refine⟨?_,c.out.2.2.trans o⟩;have s:=c.out.2.1.next bS o
    rw[gQ] at s;show Wx H a S b t w1 (l++(List.range (j+1)).map λi=>t.kind i%256);rw[xQ];exact s
   go_wp2;go_roundg (256-(j+1))
   case measure=>rw[c.out.1];omega
   case rel=>exact⟨j+1,rfl,by omega,congrArg (Value.int IntKind.i64) (by omega),p.out.1,p.out.2⟩
  ·have bT:j=256:=by omega
   have bR:(256:Int)<=(j:Int):=by omega
   rw[bT] at c;have m:(l++t.kindsL 256).length<=600000:=by simp[Tb.kindsL];omega
   go_wp2;refine bO.out _ _ (qS (zQP H a b S t wr _ c.out.2.1 ok m (qP u λx bU=>zFO _ _ x bU) v y z A B C D) ?_);rintro e w' ⟨bV,bW⟩;exact⟨bV,c.out.2.2.trans bW⟩
theorem zQR (c:Wx H a S b t w l)(ok:t.Ok)(cb:l.length<=400000)(C:∀x∈l,x<256)(D:1<=t.nst)(E:1<=t.count)(F:1<=t.nlong)(G:t.nlong<=75000)(I:1<=t.nrule)(J:t.nrule<=8)(L:t.nmode<=3)(M:∀i,i<t.nrule->t.act i<4)
  {N O P R T U V W X Y aa ab ac ad ae af ag ah ai aj ak al am an ao ap aq ar au av aw ax ay az aA aB aC aD aE aF aG aH aI aJ aK aL aM aN aO aP aQ aR aS aT aU aV aW aX aY aZ a0 a1 a2 a3 a4 a5 a6 a7 a8 a9 ba bb bc bd be bf bg bh bi bj bk bl bm bn bo bq br bt bu bv bw bx bz bA bB bC bD bE bF bG bH bI bJ bK bL bM bN bO bP bQ:Value}:
  Code.wp prog (xO 4 ((f51.body).getD .skip)) (bodyPost prog f51 λe w'=>
   (∃r:ByteArray,e=returned (string r)/\r.data.toList=sealed (l++t.rulesL t.nrule++t.kindsL 256++t.nextL t.nst++t.endsL t.nst++t.longL))/\Keep H a w w')
   ⟨(pX b::N::O::pX a::P::R::T::U::V::W::X::Y::aa::ab::ac::ad::ae::af::ag::ah::ai::aj::ak::al::am::an::ao::ap::aq::ar::au::av::aw::ax::ay::az::aA::aB::aC::aD::aE::aF::aG::aH::aI::aJ::aK::aL::aM::aN::aO::aP::aQ::aR::aS::aT::aU::aV::aW::aX::aY::aZ::a0::a1::a2::a3::a4::a5::a6::a7::a8::a9::ba::bb::bc::bd::be::bf::bg::bh::bi::bj::bk::bl::bm::bn::bo::bq::br::bt::bu::bv::bw::bx::bz::bA::bB::bC::bD::bE::bF::bG::bH::bI::bJ::bK::bL::bM::bN::bO::bP::bQ::[]).toArray,[]⟩ w:=by
 conv=>arg 2;whnf
 have bR:=vl c;have cc:=c.wt.2.1;have cd:=c.wt.2.2;obtain⟨_,ce,bs,cf,cs,bS,rfl,cg,ch,bT⟩:=c.tab.c4;have bU:=vl bT;have p:=c.safe bs bS;obtain⟨_,y5,s,ci,cj,bV,rfl,ck,cl,bW⟩:=c.tab.c5;have bX:=vl bW;have u:=c.safe s bV;have v:=c.safe b c.tab.safe;have bY:=vl M;have bZ:=vl ok.push;have b0:=vl y5;apply wp_cut;intro cm b1;go_wp2;go_loopg [37] t.nrule (λq i wr=>∃j:Nat,q=t.nrule-j/\j<=t.nrule/\i=iX (j:Int)/\Wx H a S b t wr (l++t.rulesL j)/\Keep H a w wr)
 case atStart=>exact⟨0,rfl,lX,rfl,by simpa[Tb.rulesL] using bR.out,Keep.refl _ _ _⟩
 case round=>
  obtain⟨j,b3,cn,rfl,b4,y⟩:=hrel;have d:Hid (gk=t.nrule-j/\Wx H a S b t wr (l++t.rulesL j)/\Keep H a w wr):=⟨b3,b4,y⟩
  by_cases g:j<t.nrule
  ·have b5:(j:Int)<(t.nrule:Int):=by omega
   have co:=(gY (y.block bs p.1 p.2)).trans (bU.out j g);have z:(l++t.rulesL j).length<=500000:=by rw[kX,zCa];omega
   have cq:=bY.out j g;have cr:=bZ.out j g;go_wp2_with fail;refine(jO H a wr _ d.out.2.1.wt (t.act j) (by omega) (by omega)).mono ?_;rintro e w1 ⟨rfl,k,f⟩;have b6:=d.out.2.1.next k f
   have m:=d.out.2.2.trans f;have y5:=(gY (m.block b v.1 v.2)).trans b0.out;have ct:=(gY (m.block s u.1 u.2)).trans (bX.out j g);have cu:(l++t.rulesL j++[t.act j%256]).length<=500001:=by rw[kX];simp only[hY,List.length_nil];omega
   have o:Hid (Wx H a S b t w1 (l++t.rulesL j++[t.act j%256])/\Keep H a w w1):=⟨b6,m⟩
   go_wp2_with fail;refine(jO H a w1 _ o.out.1.wt (t.push j) (by omega) (by omega)).mono ?_;rintro e w2 ⟨rfl,k,f⟩;have A:Hid (Wx H a S b t w2 (l++t.rulesL (j+1))/\Keep H a w w2):=by
    refine⟨?_,o.out.2.trans f⟩;have B:=o.out.1.next k f
    rw[gQ,gQ] at B;show Wx H a S b t w2 (l++(List.range (j+1)).flatMap λi=>[t.act i%256,t.push i%256]);rw[qM];exact B
   go_wp2;go_roundg (t.nrule-(j+1))
   case measure=>rw[d.out.1];omega
   case rel=>exact⟨j+1,rfl,by omega,congrArg (Value.int IntKind.i64) (by omega),A.out.1,A.out.2⟩
  ·have b7:j=t.nrule:=by omega
   have b5:(t.nrule:Int)<=(j:Int):=by omega
   rw[b7] at d;have z:(l++t.rulesL t.nrule).length<=500000:=by rw[kX,zCa];omega
   go_wp2;refine b1.out _ _ (qS (zQQ H a b S t wr _ d.out.2.1 ok z (qP C λx b8=>zHx t _ x b8) D E F G I J L) ?_);rintro e w' ⟨b9,ca⟩;exact⟨b9,d.out.2.2.trans ca⟩
theorem zQS (d:Wx H a S b t w l)(ok:t.Ok)(bY:l.length<=300000)(u:∀x∈l,x<256)(v:1<=t.nst)(y:1<=t.count)(z:1<=t.nlong)(A:t.nlong<=75000)(B:1<=t.nrule)(C:t.nrule<=8)(D:t.nmode<=3)(E:∀i,i<t.nrule->t.act i<4)
  {F G I J L M N O P R T U V W X Y aa ab ac ad ae af ag ah ai aj ak al am an ao ap aq ar au av aw ax ay az aA aB aC aD aE aF aG aH aI aJ aK aL aM aN aO aP aQ aR aS aT aU aV aW aX aY aZ a0 a1 a2 a3 a4 a5 a6 a7 a8 a9 ba bb bc bd be bf bg bh bi bj bk bl bm bn bo bp bq br bt bu bv bw bx bz bA bB bC bD bE bF bG bH bI bJ:Value}:
  Code.wp prog (xO 3 ((f51.body).getD .skip)) (bodyPost prog f51 λe w'=>
   (∃r:ByteArray,e=returned (string r)/\r.data.toList=sealed (l++t.startsL t.nmode++t.rulesL t.nrule++t.kindsL 256++t.nextL t.nst++t.endsL t.nst++t.longL))/\Keep H a w w')
   ⟨(pX b::F::G::pX a::I::J::L::M::N::O::P::R::T::U::V::W::X::Y::aa::ab::ac::ad::ae::af::ag::ah::ai::aj::ak::al::am::an::ao::ap::aq::ar::au::av::aw::ax::ay::az::aA::aB::aC::aD::aE::aF::aG::aH::aI::aJ::aK::aL::aM::aN::aO::aP::aQ::aR::aS::aT::aU::aV::aW::aX::aY::aZ::a0::a1::a2::a3::a4::a5::a6::a7::a8::a9::ba::bb::bc::bd::be::bf::bg::bh::bi::bj::bk::bl::bm::bn::bo::bp::bq::br::bt::bu::bv::bw::bx::bz::bA::bB::bC::bD::bE::bF::bG::bH::bI::bJ::[]).toArray,[]⟩ w:=by
 conv=>arg 2;whnf
 have bK:=vl d;have bZ:=d.wt.2.1;have b0:=d.wt.2.2;obtain⟨_,y3,bs,b1,cs,bL,rfl,b3,b4,bM⟩:=d.tab.c3;have bN:=vl bM;have f:=d.safe bs bL;have bO:=vl ok.start;have b5:=ok.nst;apply wp_cut;intro b6 bP;go_wp2;go_loopg [25] t.nmode (λq i wr=>∃j:Nat,q=t.nmode-j/\j<=t.nmode/\i=iX (j:Int)/\Wx H a S b t wr (l++t.startsL j)/\Keep H a w wr)
 case atStart=>exact⟨0,rfl,lX,rfl,by simpa[Tb.startsL] using bK.out,Keep.refl _ _ _⟩
 case round=>
  obtain⟨j,bQ,b7,rfl,bR,g⟩:=hrel;have c:Hid (gk=t.nmode-j/\Wx H a S b t wr (l++t.startsL j)/\Keep H a w wr):=⟨bQ,bR,g⟩
  by_cases k:j<t.nmode
  ·have bS:(j:Int)<(t.nmode:Int):=by omega
   have b8:=(gY (g.block bs f.1 f.2)).trans (bN.out j k);have m:(l++t.startsL j).length<=400000:=by rw[kX,zBv];omega
   have b9:=bO.out j k;go_wp2_with fail;refine(zBF H a wr _ c.out.2.1.wt (t.start j) (by omega) (by omega)).mono ?_;rintro e w1 ⟨rfl,bT,o⟩;have p:Hid (Wx H a S b t w1 (l++t.startsL (j+1))/\Keep H a w w1):=by
    refine⟨?_,c.out.2.2.trans o⟩;have s:=c.out.2.1.next bT o
    rw[gQ] at s;show Wx H a S b t w1 (l++(List.range (j+1)).flatMap λi=>two (t.start i));rw[qM];exact s
   go_wp2;go_roundg (t.nmode-(j+1))
   case measure=>rw[c.out.1];omega
   case rel=>exact⟨j+1,rfl,by omega,congrArg (Value.int IntKind.i64) (by omega),p.out.1,p.out.2⟩
  ·have bU:j=t.nmode:=by omega
   have bS:(t.nmode:Int)<=(j:Int):=by omega
   rw[bU] at c;have m:(l++t.startsL t.nmode).length<=400000:=by rw[kX,zBv];omega
   go_wp2;refine bP.out _ _ (qS (zQR H a b S t wr _ c.out.2.1 ok m (qP u λx bV=>zGF _ _ x bV) v y z A B C D E) ?_);rintro e w' ⟨bW,bX⟩;exact⟨bW,c.out.2.2.trans bX⟩
end
section
variable (s:ByteArray) (p n:Nat) (f:Nat->Nat)
theorem zHZ (b:Nat)(S:Nat->Prop)(t:Tb)(w:World)(q:TabAt w S b t)(s:∀k,S k->k<w.heap.size)(ok:t.Ok)(u:1<=t.nst)(v:1<=t.count)(y:1<=t.nlong)(z:t.nlong<=75000)(A:1<=t.nrule)(h:t.nrule<=8)(j:t.nmode<=3)(B:∀i,i<t.nrule->t.act i<4):
  Calls prog 51 #[pX b] w λe w'=>(∃r:ByteArray,e=returned (string r)/\r.data.toList=sealed t.bytesL)/\Grew w w':=by
 have C:=vl q;have l:=vl s;go_in;apply wp_cut;intro I D;go_wp2;apply D.out;apply wp_cut;intro J E;go_wp2;apply E.out;obtain⟨w1,m,o⟩:∃w1,w1=w.alloc (.cells #[nX] 147)/\Hid (Wx (w.heap.size+1) w.heap.size S b t w1 []/\Grew w w1):=
  ⟨_,rfl,⟨⟨⟨nX,gZ w _,ownsRow_nil _ _ _ _⟩,Nat.lt_succ_self _,by simp⟩,C.keep λk c=>lG _ _ _ (l k c),λk c=>by have:=l k c;omega⟩,kZ _ _ lQ⟩
 rw[<-m];clear m;apply wp_cut;intro K F;go_wp2_with fail;refine(zI4 (w.heap.size+1) w.heap.size b S t w1 o.1 ok h j).mono ?_;rintro e w2 ⟨rfl,G,d⟩;have p:Hid (Wx (w.heap.size+1) w.heap.size S b t w2 t.headL/\Grew w w2):=⟨G,o.2.trans ⟨d.os,d.output,d.size,λk c g=>d.block k (by omega) g⟩⟩
 go_wp2;refine F _ _ (qS (zQS (w.heap.size+1) w.heap.size b S t w2 _ p.1 ok (by simp[Tb.headL,two]) (λx a=>?_) u v y z A h j B) ?_)
 ·have L:qJ t<256:=by unfold qJ;split <;> omega
  have M:t.ahead%256<256:=hU _ (by decide);have N:t.hold%256<256:=hU _ (by decide);unfold Tb.headL at a;simp only[kU] at a;rcases a with(((a|a)|a)|a)|a
  ·simp at a
   rcases a with rfl|rfl|rfl|rfl|rfl <;> omega
  ·exact zB3 _ _ a
  ·exact zB3 _ _ a
  ·exact zB3 _ _ a
  ·exact zB3 _ _ a
 ·rintro e w' ⟨H,f⟩
  exact⟨H,p.2.trans ⟨f.os,f.output,f.size,λk c g=>f.block k (by omega) g⟩⟩
def seg (s:ByteArray)(p n:Nat):List Nat:=(List.range n).map λi=>byt s (p+i)
theorem yT (p n m:Nat):seg s p (n+m)=seg s p n++seg s (p+n) m:=by
 induction m with
 |zero=>simp[seg]
 |succ m a=>
  unfold seg at *;rw[<-Nat.add_assoc,xQ,a,xQ,gQ,Nat.add_assoc]
theorem zCC:two (xU s p)=seg s p 2:=by
 have c:=yQ s p;have d:=yQ s (p+1);have a:(256*byt s p+byt s (p+1))/256%256=byt s p:=by omega
 have b:(256*byt s p+byt s (p+1))%256=byt s (p+1):=by omega
 show[xU s p/256%256,xU s p%256]=[byt s (p+0),byt s (p+1)];unfold xU;rw[a,b];rfl
theorem zKa (a:∀i,i<n->f i=xU s (p+2*i)):(List.range n).flatMap (λi=>two (f i))=seg s p (2*n):=by
 induction n with
 |zero=>rfl
 |succ n b=>rw[qM,b λi c=>a i (by omega),a n (by omega),zCC,Nat.mul_succ,yT]
theorem zIu (a:∀i,i<n->f i=byt s (p+i)):(List.range n).map f=seg s p n:=List.map_congr_left λi b=>a i (List.mem_range.1 b)
theorem zLN (r:yZ s=true)(c:zEd s=true)(t:s.size=yS (zQ s) (zT s) (zE s) (zJ s) (xP s)+4):(vZ s).bytesL=seg s 0 (s.size-4):=by
 have j:=(zAE s).1 r;unfold zEd at c;simp only[Bool.and_eq_true,decide_eq_true_iff] at c;obtain⟨⟨⟨⟨⟨k,d⟩,l,Y⟩,o⟩,p⟩,q⟩:=c;rw[zFJ] at k;rw[zEN] at d;rw[zBi] at l;rw[zET] at o;rw[zGJ] at p;rw[zGQ] at q;have u:(vZ s).headL=seg s 0 13:=by
  have m1:zQ s=xU s 5:=zL (by omega);have m2:zT s=xU s 7:=zL (by omega);have v:zE s=xU s 9:=zL (by omega);have w:zJ s=xU s 11:=zL (by omega);have x:xK s=byt s 3:=zL (by have:=yQ s 3;omega);have y:xF s=byt s 2:=zL (by omega);have z:vS s=byt s 4:=zL (by omega);have A:qJ (vZ s)=byt s 2:=by
   show(if decide (xF s=1) then 1 else 0)=byt s 2;rw[y];by_cases e:byt s 2=1
   ·rw[gG e,e];rfl
   ·rw[gJ e];show 0=_;omega
  have B:=yQ s 3;have C:=yQ s 4;unfold Tb.headL;show[76,88,qJ (vZ s),xK s%256,vS s%256]++two (zQ s)++two (zT s)++two (zE s)++two (zJ s)=_;rw[A,m1,m2,v,w,x,z,zCC,zCC,zCC,zCC,Nat.mod_eq_of_lt B,Nat.mod_eq_of_lt C];rw[show (13:Nat)=5+2+2+2+2 from rfl,yT,yT,yT,yT];rw[show seg s 0 5=[76,88,byt s 2,byt s 3,byt s 4] from ?_];show[byt s (0+0),byt s (0+1),byt s (0+2),byt s (0+3),byt s (0+4)]=_;simp only[Nat.zero_add];rw[j.2.1,j.2.2.1]
 have D:(vZ s).startsL (vZ s).nmode=seg s 13 (2*zQ s):=zKa s 13 (zQ s) _ λi a=>zL ⟨lX,(k i a).2⟩;have E:(vZ s).rulesL (vZ s).nrule=seg s (q2 s) (2*zT s):=by
  show(List.range (zT s)).flatMap (λi=>[zC4 s (q2 s) i%256,zAA s (q2 s) (zQ s) i%256])=_;have f:∀n,n<=zT s->(List.range n).flatMap (λi=>[zC4 s (q2 s) i%256,zAA s (q2 s) (zQ s) i%256])=seg s (q2 s) (2*n):=by
   intro n;induction n with
   |zero=>intro _;rfl
   |succ n g=>
    intro F;have b:zC4 s (q2 s) n=byt s (q2 s+2*n):=zL ⟨lX,(d n (by omega)).2.1⟩;have G:zAA s (q2 s) (zQ s) n=byt s (q2 s+2*n+1):=zL ⟨lX,(d n (by omega)).2.2⟩;have H:=yQ s (q2 s+2*n);have I:=yQ s (q2 s+2*n+1);rw[qM,g (by omega),b,G,Nat.mod_eq_of_lt H,Nat.mod_eq_of_lt I,Nat.mul_succ,yT];rfl
  exact f _ lQ
 have J:(vZ s).kindsL 256=seg s (q3 s) 256:=by
  refine zIu s (q3 s) 256 _ λi a=>?_;have b:zBj s (q3 s) i=byt s (q3 s+i):=zL ⟨lX,(l i a).2⟩;show zBj s (q3 s) i%256=_;rw[b,Nat.mod_eq_of_lt (yQ _ _)]
 have K:(vZ s).nextL (vZ s).nst=seg s (q4 s) (2*zJ s*zE s):=by
  show(List.range (zE s)).flatMap (λi=>(vZ s).rowL i (zJ s))=_;have f:∀n,n<=zE s->(List.range n).flatMap (λi=>(vZ s).rowL i (zJ s))=seg s (q4 s) (2*zJ s*n):=by
   intro n;induction n with
   |zero=>intro _;rfl
   |succ n g=>
    intro F;rw[qM,g (by omega),Nat.mul_succ,yT]
    congr 1
    exact zKa s (q4 s+2*zJ s*n) (zJ s) _ λm L=>zL ⟨lX,(o n (by omega) m L).2⟩
  exact f _ lQ
 have M:(vZ s).endsL (vZ s).nst=seg s (q5 s) (zE s):=by
  refine zIu s (q5 s) (zE s) _ λi a=>?_;have b:zE9 s (q5 s) (zT s) i=byt s (q5 s+i):=zL ⟨lX,(p i a).2⟩;show(((zE9 s (q5 s) (zT s) i:Nat):Int)-1+1).toNat%256=_;rw[b];have:=yQ s (q5 s+i);omega
 have N:(vZ s).longL=seg s (q6 s) ((nbit s+7)/8):=zIu s (q6 s) _ _ λi a=>zL ⟨lX,(q i a).2⟩;unfold Tb.bytesL;rw[u,D,E,J,K,M,N];have O:s.size-4=13+2*zQ s+2*zT s+256+2*zJ s*zE s+zE s+(nbit s+7)/8:=by
  have P:2*zJ s*zE s=2*zE s*zJ s:=by rw[Nat.mul_assoc,Nat.mul_comm (zJ s),<-Nat.mul_assoc]
  have R:nbit s=xP s*zE s:=Nat.mul_comm _ _;rw[t,P,R];unfold yS;omega
 rw[O,yT,yT,yT,yT,yT,yT];have S:0+13=13:=rfl;have T:0+(13+2*zQ s)=q2 s:=by unfold q2;omega
 have U:0+(13+2*zQ s+2*zT s)=q3 s:=by unfold q3 q2;omega
 have V:0+(13+2*zQ s+2*zT s+256)=q4 s:=by unfold q4 q3 q2;omega
 have W:0+(13+2*zQ s+2*zT s+256+2*zJ s*zE s)=q5 s:=by unfold q5 q4 q3 q2;omega
 have X:0+(13+2*zQ s+2*zT s+256+2*zJ s*zE s+zE s)=q6 s:=by unfold q6 q5 q4 q3 q2;omega
 rw[X,W,V,U,T,S]
theorem zOT (c:n<=s.size):u8s (seg s 0 n)=s.data.toList.take n:=by
 apply List.ext_getElem?;intro i;unfold u8s seg;rw[List.getElem?_take];by_cases a:i<n
 ·rw[if_pos a]
  have b:i<s.data.size:=by show i<s.size;omega
  simp[a,byt];rw[Array.getElem?_eq_getElem b];simp
 ·rw[if_neg a]
  simp[a]
theorem zJu (a:jP s=true):sealed (vZ s).bytesL=s.data.toList:=by
 rw[zB2] at a;simp only[Bool.and_eq_true] at a;obtain⟨⟨⟨c,d⟩,f⟩,g⟩:=a;have h:s.size=yS (zQ s) (zT s) (zE s) (zJ s) (xP s)+4:=of_decide_eq_true d;have j:4<=s.size:=by omega
 unfold sealed;rw[zLN s c g h,zOT s _ (by omega)];have b:=zF6 s j;rw[show (zJi (s.extract 0 (s.size-4))==zHm (s.extract (s.size-4) s.size))=zHt s from rfl,f,beq_iff_eq,ByteArray.toList_eq] at b;rw[<-b];have e:(s.extract (s.size-4) s.size).data.toList=s.data.toList.drop (s.size-4):=by
  simp[List.take_of_length_le]
 rw[e,List.take_append_drop]
end
section
variable {w:World} {H b:Nat} {e:TypeId} {v:Value} {n:Nat}
def Mem.blocks (w:World)(H b:Nat)(k:Nat):Prop:=k=b\/(H<=k/\k<w.heap.size)
theorem Row.intsAt {f:Nat->Int}(a:Row w H e v n λi=>iX (f i))(c:0<n):IntsAt w (Mem.blocks w H b) v n f:=by
 have ⟨g,cap,d,j,k,l,m,o,_⟩:=a.get c;exact⟨g,0,cap,.inr ⟨j,k⟩,d,l,m,λi p=>by rw[Nat.zero_add];exact o i p⟩
theorem Row.boolsAt {f:Nat->Bool}(a:Row w H e v n λi=>bool (f i))(c:0<n):BoolsAt w (Mem.blocks w H b) v n f:=by
 have ⟨g,cap,d,j,k,l,m,o,_⟩:=a.get c;exact⟨g,0,cap,.inr ⟨j,k⟩,d,l,m,λi p=>by rw[Nat.zero_add];exact o i p⟩
theorem Row.bytesAt {f:Nat->Nat}(a:Row w H e v n λi=>int .u8 (f i:Nat))(c:0<n):BytesAt w (Mem.blocks w H b) v n f:=by
 have ⟨g,cap,d,j,k,l,m,o,_⟩:=a.get c;exact⟨g,0,cap,.inr ⟨j,k⟩,d,l,m,λi p=>by rw[Nat.zero_add];exact o i p⟩
theorem Mem.tabAt {c:Tc}{t:Tb}(d:Mem w H b c t)(l:1<=t.nmode)(f:1<=t.nrule)(e:1<=t.nst)(m:1<=t.count)(o:1<=t.nlong):TabAt w (Mem.blocks w H b) b t:=by
 have a:=d.tp;have ⟨rv,p,q⟩:=d.next
 have r:RowsAt w (Mem.blocks w H b) c.next t.nst t.count λi k=>t.next i k:=by
  have ⟨g,cap,s,u,v,x,y,z,_⟩:=p.get e;exact⟨g,0,cap,.inr ⟨u,v⟩,s,x,y,λi j=>⟨rv i,by rw[Nat.zero_add];exact z i j,(q i j).intsAt m⟩⟩
 refine⟨.inl rfl,?_,?_,?_,⟨_,?_,d.starts.intsAt l⟩,⟨_,?_,d.acts.intsAt f⟩,⟨_,?_,d.pushed.intsAt f⟩,⟨_,?_,d.kinds.intsAt (by decide)⟩,?_,⟨_,?_,r⟩,⟨_,?_,d.ends.intsAt e⟩,⟨_,?_,d.live.boolsAt e⟩,?_,⟨_,?_,d.longer.bytesAt o⟩⟩
 ·rw[a.get_stream,d.stream]
 ·rw[a.get_ahead,d.ahead]
 ·rw[a.get_hold,d.hold]
 ·unfold zW at a;simp[World.cell?,a]
 ·unfold zW at a;simp[World.cell?,a]
 ·unfold zW at a;simp[World.cell?,a]
 ·unfold zW at a;simp[World.cell?,a]
 ·unfold zW at a;simp[World.cell?,a,d.count]
 ·unfold zW at a;simp[World.cell?,a]
 ·unfold zW at a;simp[World.cell?,a]
 ·unfold zW at a;simp[World.cell?,a]
 ·unfold zW at a;simp[World.cell?,a,d.rows]
 ·unfold zW at a;simp[World.cell?,a]
def zD5 (s:ByteArray)(n:Nat):Tb:=(vZ s).first.itr n
theorem zF4 (s:ByteArray)(n:Nat):zD5 s n={vZ s with live:=(zD5 s n).live}:=by
 unfold zD5;rw[zBk];rfl
structure Tb.Fine (t:Tb):Prop where
 ok:t.Ok
 nst:1<=t.nst
 count:1<=t.count
 long1:1<=t.nlong
 long2:t.nlong<=75000
 rule1:1<=t.nrule
 rule2:t.nrule<=8
 mode2:t.nmode<=3
 act:∀i,i<t.nrule->t.act i<4
theorem zF5 (s:ByteArray)(n:Nat)(a:jP s=true):(zD5 s n).Fine:=by
 rw[zB2] at a;simp only[Bool.and_eq_true] at a;obtain⟨⟨⟨d,_⟩,_⟩,b⟩:=a;have e:yX s (q3 s) 256=zJ s:=by
  unfold zEd at b;simp only[Bool.and_eq_true,decide_eq_true_iff] at b;exact b.1.1.1.2.2
 have ok:=zL0 s d e;have c:1<=zE s:=qL _ _ _;have f:1<=zJ s:=qL _ _ _;have g:zE s<=200:=zY _ _ _ (by decide);have k:(vZ s).nlong=(nbit s+7)/8:=rfl;have h:=ok.rows0;have j:=ok.rows;have l:1<=nbit s:=Nat.mul_pos c h;have m:nbit s<=200*3000:=Nat.mul_le_mul g j;rw[zF4];exact⟨ok.withLive _,c,f,by show 1<=(vZ s).nlong;omega,by show(vZ s).nlong<=75000;omega,qL _ _ _,zY _ _ _ (by decide),zY _ _ _ (by decide),λi _=>zNK s i⟩
theorem zJh (s:ByteArray)(n:Nat):(zD5 s n).bytesL=(vZ s).bytesL:=by
 rw[zF4];rfl
structure LexAt (w:World)(S:Nat->Prop)(x p:Nat)(t:Tb):Prop where
 cell:w.cell? ⟨x,0,none⟩=some (pointer (some ⟨p,0,none⟩))
 lt:x<w.heap.size
 tab:TabAt w S p t
 safe:∀k,S k->k<w.heap.size
theorem LexAt.keep {w w':World}{S:Nat->Prop}{x p:Nat}{t:Tb}(a:LexAt w S x p t)(e:∀k,k<w.heap.size->w'.heap[k]? =w.heap[k]?)(c:w.heap.size<=w'.heap.size):LexAt w' S x p t:=
 ⟨(gY (e x a.lt)).trans a.cell,lZ a.lt c,a.tab.keep λk b=>e k (a.safe k b),λk b=>lZ (a.safe k b) c⟩
theorem LexAt.grown {w w':World}{S:Nat->Prop}{x p:Nat}{t:Tb}(a:LexAt w S x p t)(e:Grew w w'):LexAt w' S x p t:=a.keep (λk b=>e.block k b (by omega)) e.size
end
section
variable {w:World} {H p:Nat} {c:Tc} {t:Tb} (b:Mem w H p c t) (a:Nat)
theorem zCz (kinds:Nat):zG kinds 0=1:=rfl
theorem zFY (kinds k m:Nat)(a:k<=m)(b:zG kinds m<=3000):zG kinds k<=3000:=by
 by_cases e:3000<zG kinds k
 ·rw[zFd kinds k m e a] at b
  omega
 ·omega
theorem zMw (kinds k:Nat)(a:zG kinds k<=3000):zG kinds (k+1)=zG kinds k*(kinds+1):=by
 rw[zG];split
 ·rfl
 ·omega
def Tb.aheadF (t:Tb):Nat->Nat->Bool
 |0=>λ_=>false
 |i+1=>t.more (zG t.count i) (t.aheadF i)
theorem Mem.tabN {H b:Nat}{c:Tc}{t:Tb}(d:Mem w H b c t)(e:1<=t.nst)(j:1<=t.count):TabN w (Mem.blocks w H b) b t:=by
 have a:=d.tp;have ⟨rv,l,m⟩:=d.next
 have o:RowsAt w (Mem.blocks w H b) c.next t.nst t.count λi k=>t.next i k:=by
  have ⟨g,cap,p,q,r,s,u,v,_⟩:=l.get e;exact⟨g,0,cap,.inr ⟨q,r⟩,p,s,u,λi f=>⟨rv i,by rw[Nat.zero_add];exact v i f,(m i f).intsAt j⟩⟩
 refine⟨.inl rfl,?_,⟨_,?_,o⟩,⟨_,?_,d.ends.intsAt e⟩⟩
 ·unfold zW at a;simp[World.cell?,a,d.count]
 ·unfold zW at a;simp[World.cell?,a]
 ·unfold zW at a;simp[World.cell?,a]
theorem Row.put {H p i:Nat}{c:Tc}{x:Value}{e:TypeId}{v:Value}{n:Nat}{f:Nat->Value}(a:Row w H e v n f)(b:zW w p c)(d:e≠90:=by decide):Row (w.setCell ⟨p,i,none⟩ x) H e v n f:=a.blk λg _ _ j=>lJ _ _ _ _ (zH6 b a d j)
theorem Mem.putAhead (b:Mem w H p c t)(a:Nat):Mem (w.setCell ⟨p,1,none⟩ (iX a)) H p {c with ahead:=iX a} {t with ahead:=a}:=by
 have ⟨rv,e,f⟩:=b.next
 have d:=b.tp;exact⟨b.tp.set_ahead _,b.stream,rfl,b.hold,b.count,b.rows,b.starts.put d,b.acts.put d,b.pushed.put d,b.kinds.put d,⟨rv,e.put d,λi g=>(f i g).put d⟩,b.ends.put d,b.live.put d,b.longer.put d,by simp[World.setCell];exact b.HH⟩
theorem Mem.putRows (b:Mem w H p c t)(a:Nat):Mem (w.setCell ⟨p,11,none⟩ (iX a)) H p {c with rows:=iX a} {t with rows:=a}:=by
 have ⟨rv,e,f⟩:=b.next
 have d:=b.tp;exact⟨b.tp.set_rows _,b.stream,b.ahead,b.hold,b.count,rfl,b.starts.put d,b.acts.put d,b.pushed.put d,b.kinds.put d,⟨rv,e.put d,λi g=>(f i g).put d⟩,b.ends.put d,b.live.put d,b.longer.put d,by simp[World.setCell];exact b.HH⟩
theorem Mem.putLonger (a:Mem w H p c t)(v:Value)(n:Nat)(f:Nat->Nat)(d:Row w H 5 v n λi=>int .u8 (f i:Nat)):Mem (w.setCell ⟨p,12,none⟩ v) H p {c with longer:=v} {t with nlong:=n,long:=f}:=by
 have ⟨rv,e,g⟩:=a.next
 have b:=a.tp;exact⟨a.tp.set_longer _,a.stream,a.ahead,a.hold,a.count,a.rows,a.starts.put b,a.acts.put b,a.pushed.put b,a.kinds.put b,⟨rv,e.put b,λi j=>(g i j).put b⟩,a.ends.put b,a.live.put b,d.put b,by simp[World.setCell];exact a.HH⟩
theorem Mem.putStream (b:Mem w H p c t)(a:Bool):Mem (w.setCell ⟨p,0,none⟩ (bool a)) H p {c with stream:=bool a} {t with stream:=a}:=by
 have ⟨rv,e,f⟩:=b.next
 have d:=b.tp;exact⟨b.tp.set_stream _,rfl,b.ahead,b.hold,b.count,b.rows,b.starts.put d,b.acts.put d,b.pushed.put d,b.kinds.put d,⟨rv,e.put d,λi g=>(f i g).put d⟩,b.ends.put d,b.live.put d,b.longer.put d,by simp[World.setCell];exact b.HH⟩
theorem Mem.grown {w w':World}{H b:Nat}{c:Tc}{t:Tb}(a:Mem w H b c t)(d:Grew w w'):Mem w' H b c t:=by
 have f:=a.HH;have g:=a.tp.lt;exact a.keep (d.block b (by omega) (by omega)) (λk _ e=>d.block k e (by omega)) d.size
theorem TabN.mono {S d:Nat->Prop}{p:Nat}{t:Tb}(c:TabN w S p t)(e:∀b,S b->d b):TabN w d p t:=by
 have j:∀{v n f},IntsAt w S v n f->IntsAt w d v n f:=λ⟨b,o,cap,g,r⟩=>⟨b,o,cap,e b g,r⟩
 refine⟨e p c.safe,c.c7,?_,?_⟩
 ·have ⟨v,a,b,o,cap,g,l,m,q,s⟩:=c.c8
  exact⟨v,a,b,o,cap,e b g,l,m,q,λi x=>(s i x).imp λu k=>⟨k.1,j k.2⟩⟩
 ·have ⟨v,a,b⟩:=c.c9;exact⟨v,a,j b⟩
def Tb.looking (t:Tb)(a:Nat):Tb:={t with ahead:=a,rows:=zG t.count a,nlong:=(zG t.count a*t.nst+7)/8,long:=yC (t.aheadF a) (zG t.count a*t.nst)}
theorem zCG (w:World)(H p:Nat)(c:Tc)(t:Tb)(m:Mem w H p c t)(ok:t.OkN)(y:1<=t.nst)(aq:1<=t.count)(a:Nat)(ar:a<=255)(M:zG t.count a<=3000):
  Calls prog 66 #[pointer (some ⟨p,0,none⟩),int i64 a] w λe w'=>e=rX/\∃av,Mem w' H p av (t.looking a)/\Keep w.heap.size p w w':=by
 obtain⟨aw,ax,ay,az,aA⟩:=info_parts vR;have O:=vl m;have a5:=m.tp.lt;have a6:=m.HH;have R:=m.tp.get_ahead;have aB:=m.tp.fz 1;have D:cX w p 7=some (int i64 (t.count:Nat)):=by rw[<-m.count];exact m.tp.get_count
 have aC:=ok.count;have T:=ok.nst;rw[O.out.ahead] at R;go_in;apply wp_cut;intro a7 aD;go_wp2;apply aD.out;obtain⟨w1,U,f⟩:∃w1,w1=w.setCell ⟨p,1,none⟩ (int i64 (a:Nat))/\Hid (Mem w1 H p {c with ahead:=int i64 a} {t with ahead:=a}/\Keep w.heap.size p w w1):=⟨_,rfl,O.putAhead a,Keep.set _ _ _⟩
 rw[<-U];clear U R aB D;apply wp_cut;intro a8 aE;have D:cX w1 p 7=some (int i64 (t.count:Nat)):=by have b:=f.1.tp.get_count;rw[f.out.1.count] at b;exact b
 have aF:cX w1 p 11=some (int i64 (t.rows:Nat)):=by have b:=f.1.tp.get_rows;rw[f.out.1.rows] at b;exact b
 have aG:=f.1.tp.fz 11;go_wp2_with fail;refine(zDK t.count a _ aC ar).mono ?_;rintro e aH ⟨rfl,rfl⟩;go_wp2;apply aE.out;obtain⟨w2,V,d⟩:∃w2,w2=aH.setCell ⟨p,11,none⟩ (int i64 (zG t.count a:Nat))/\Hid (Mem w2 H p {c with ahead:=int i64 a,rows:=int i64 (zG t.count a:Nat)} {t with ahead:=a,rows:=zG t.count a}/\Keep w.heap.size p w w2):=⟨_,rfl,f.1.putRows _,f.2.trans (Keep.set _ _ _)⟩
 rw[<-V];clear V D aF aG f;refine wp_seq_k ?_;intro aI hK2;have W:Hid (∀a w,_->aI a w):=hK2;clear hK2;obtain⟨rv,X,_⟩:=d.1.next
 obtain⟨aJ,aK,Y,_⟩:=X.get y;have aL:cX w2 p 8=some (slice (some ⟨aJ,0,none⟩) t.nst aK):=by rw[<-show c.next=_ from Y];exact d.1.tp.get_next
 have a9:H<=w2.heap.size:=d.1.HH;obtain⟨aa,aM,ab,s⟩:=run_makeSlice_full (P:=prog) w2 w2.heap.size 28 4 aw _ 1 underlying28 ax ay az i64 i64 t.nst (by omega) (by rw[aA];omega) (by unfold maxLen;omega) lQ;have ac:Hid (OwnF aa w2.heap.size (slice (some ⟨w2.heap.size,0,none⟩) t.nst t.nst) (zG t.count 0*t.nst) (t.aheadF 0)/\Grew w2 aa):=by
  refine⟨?_,⟨s.os,s.output,s.size,λk o _=>s.block k o (by simp)⟩⟩;have b:=ab;rw[Nat.mul_one,zAO _ rfl] at b;rw[zCz,Nat.one_mul];exact b
 clear X Y ab s;go_wp2_with fail;apply W.out;clear W aM aL;refine wp_seq_k ?_;intro aN hK3;have ad:Hid (∀a w,_->aN a w):=hK3;clear hK3;have aO:Hid t.OkN:=ok;have ae:Hid (zG t.count a<=3000):=M;clear ok M;go_wp2_with fail;go_loopg [4,5] a (λq aP i wr=>∃j:Nat,q=a-j/\j<=a/\i=int i64 (j:Int)/\OwnF wr w2.heap.size aP (zG t.count j*t.nst) (t.aheadF j)/\Grew w2 wr)
 case atStart=>exact⟨0,rfl,lX,rfl,ac.1,ac.2⟩
 case round=>
  obtain⟨j,E,aQ,rfl,z,l⟩:=hrel;have v:Hid (gk=a-j/\OwnF wr w2.heap.size u4 (zG t.count j*t.nst) (t.aheadF j)/\Grew w2 wr):=⟨E,z,l⟩
  have af:=zFY t.count j a aQ ae;have ag:=zI6 t.count j;have ah:1<=zG t.count j*t.nst:=Nat.mul_pos ag y;have ba:zG t.count j*t.nst<=600000:=lY (Nat.mul_le_mul af T) (by decide);have F:TabN wr (λk=>k<wr.heap.size) p t:=by
   have b:=(d.1.grown l).tabN y aq;have bb:=l.size;refine TabN.mono (S:=Mem.blocks wr H p) ⟨b.safe,b.c7,b.c8,b.c9⟩ λk o=>?_;rcases o with o|o
   ·rw[o];exact(d.1.grown l).tp.lt
   ·exact o.2
  obtain⟨g,A,aR,bc,ai,aS,aT,B,aj⟩:=Row.get z ah;subst aR;by_cases aU:j<a
  ·have aV:(j:Int)<(a:Int):=by omega
   have ak:=zMw t.count j af;have aW:=zFY t.count (j+1) a aU ae;have G:(t.count+1)*(zG t.count j*t.nst)=zG t.count (j+1)*t.nst:=by
    rw[ak,<-Nat.mul_assoc,Nat.mul_comm (t.count+1)]
   have al:(t.count+1)*(zG t.count j*t.nst)<=800000:=by
    rw[G];exact lY (Nat.mul_le_mul aW T) (by decide)
   have I:=zD0 p wr (λk=>k<wr.heap.size) t F (λk b=>b) aO y (zG t.count j) ag (t.aheadF j) g 0 A ai (λi J=>by rw[Nat.zero_add];exact B i J) aS aT al;rw[G] at I;have aX:Hid (Ca 102 #[pointer (some ⟨p,0,none⟩),slice (some ⟨g,0,none⟩) (zG t.count j*t.nst) A] wr λe w'=>∃u,e=returned u/\OwnF w' wr.heap.size u (zG t.count (j+1)*t.nst) (t.aheadF (j+1))/\Grew wr w'):=I;clear I E z l B aj F ak G al;generalize aY:zG t.count j*t.nst=aZ at *;clear aY;go_wp2_with fail;refine aX.mono ?_;rintro e am ⟨u,rfl,an,ao⟩;have ap:Hid (OwnF am w2.heap.size u (zG t.count (j+1)*t.nst) (t.aheadF (j+1))/\Grew w2 am):=⟨yE an v.2.2.size,v.2.2.trans (ao.lower v.2.2.size v.2.2.size)⟩
   clear an ao;go_wp2_with fail;go_roundg (a-(j+1))
   case measure=>rw[v.out.1];omega
   case rel=>exact⟨j+1,rfl,by omega,by go_num,ap.1,ap.2⟩
  ·have a0:j=a:=by omega
   have aV:(a:Int)<=(j:Int):=by omega
   have a1:Hid (Ca 103 #[slice (some ⟨g,0,none⟩) (zG t.count j*t.nst) A] wr λe w'=>∃u,e=returned u/\Row w' wr.heap.size 5 u ((zG t.count a*t.nst+7)/8) (λk=>int .u8 (yC (t.aheadF a) (zG t.count a*t.nst) k:Nat))/\Grew wr w'):=by
    have b:=zIi wr g 0 A (zG t.count j*t.nst) (t.aheadF j) (λi J=>by rw[Nat.zero_add];exact B i J) ai ah (by omega);rw[a0] at b ⊢;exact b
   have r:Hid (Mem wr H p {c with ahead:=int i64 a,rows:=int i64 (zG t.count a:Nat)} {t with ahead:=a,rows:=zG t.count a}/\Keep w.heap.size p w wr):=⟨d.1.grown l,d.2.trans (l.lower d.2.size d.2.size)⟩
   clear E z l B aj F;generalize zG t.count j*t.nst=aZ at *;go_wp2_with fail;apply ad.out;clear ad;have a2:=r.1.tp.get_longer;have a3:=r.1.tp.fz 12;go_wp2_with fail;refine a1.mono ?_;rintro e C ⟨u,rfl,K,L⟩;obtain⟨bd,be,a4⟩:=zF K;have x:Hid (Mem C H p {c with ahead:=int i64 a,rows:=int i64 (zG t.count a:Nat)} {t with ahead:=a,rows:=zG t.count a}/\Keep w.heap.size p w C/\Row C H 5 u ((zG t.count a*t.nst+7)/8) (λk=>int .u8 (yC (t.aheadF a) (zG t.count a*t.nst) k:Nat))):=⟨r.1.grown L,r.2.trans (L.lower r.2.size r.2.size),K.mono r.1.HH⟩
   have bf:cX C p 12=some c.longer:=x.1.tp.get_longer;have bg:=x.1.tp.fz 12;subst a4;clear K L a2 a3;go_wp2_with fail;go_end0;exact⟨rfl,_,x.1.putLonger _ _ _ x.2.2,x.2.1.trans (Keep.set _ _ _)⟩
end
end Go.Proofs.YtbjcfkdnjaiclaaGreat
