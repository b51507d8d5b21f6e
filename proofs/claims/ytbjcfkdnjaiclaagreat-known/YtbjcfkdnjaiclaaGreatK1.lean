import Derived.Test.YtbjcfkdnjaiclaaGreatK0
/- Parts of the proof. -/
set_option linter.unusedVariables false
set_option linter.unusedSimpArgs false
set_option maxHeartbeats 4000000
set_option maxRecDepth 100000
namespace Go.Proofs.YtbjcfkdnjaiclaaGreat
open Go.RowKit Go.Proofs.Tryz Go.World
open Go.Value (int slice bool pointer string agg tuple)
open Go.IntKind (i64)
open Go.Ending (returned)
structure MemB (w:World)(H b:Nat)(c:Tc)(t:Tb):Prop where
 tp:xB w b c
 stream:c.stream=bool t.stream
 ahead:c.ahead=int i64 t.ahead
 hold:c.hold=int i64 t.hold
 count:c.count=int i64 t.count
 rows:c.rows=int i64 t.rows
 starts:Row w H 3 c.starts t.nmode λi=>int i64 (t.start i:Nat)
 acts:Row w H 3 c.acts t.nrule λi=>int i64 (t.act i:Nat)
 pushed:Row w H 3 c.pushed t.nrule λi=>int i64 (t.push i:Nat)
 kinds:Row w H 3 c.kinds 256 λi=>int i64 (t.kind i:Nat)
 next:∃rv,Row w H 45 c.next t.nst rv/\∀i,i<t.nst->Row w H 3 (rv i) t.count λk=>int i64 (t.next i k:Nat)
 ends:Row w H 3 c.ends t.nst λi=>int i64 (t.ends i)
 longer:Row w H 5 c.longer t.nlong λi=>int .u8 (t.long i:Nat)
 HH:H<=w.heap.size
theorem MemB.withLive {w w':World}{H b:Nat}{c:Tc}{t:Tb}{v:Value}(a:MemB w H b c t)(d:Keep w.heap.size b w w')(j:xB w' b {c with live:=v}):MemB w' H b {c with live:=v} t:=by
 have k:∀{e v n f},e≠90->Row w H e v n f->Row w' H e v n f:=λl r=>r.blk λg _ m o=>d.block g m (zGO a.tp r l o);obtain⟨rv,p,q⟩:=a.next
 exact⟨j,a.stream,a.ahead,a.hold,a.count,a.rows,k (by decide) a.starts,k (by decide) a.acts,k (by decide) a.pushed,k (by decide) a.kinds,⟨rv,k (by decide) p,λi s=>k (by decide) (q i s)⟩,k (by decide) a.ends,k (by decide) a.longer,lY a.HH d.size⟩
theorem MemB.mem {w:World}{H b:Nat}{c:Tc}{t:Tb}(a:MemB w H b c t)(f:Nat->Bool)(d:Row w H 4 c.live t.nst λi=>bool (f i)):Mem w H b c {t with live:=f}:=
 ⟨a.tp,a.stream,a.ahead,a.hold,a.count,a.rows,a.starts,a.acts,a.pushed,a.kinds,a.next,a.ends,d,a.longer,a.HH⟩
def zEa (live:Nat->Bool):Nat->Nat
 |0=>0
 |n+1=>zEa live n+if live n then 0 else 1
def Tb.deadTo (t:Tb)(n:Nat):Nat:=zEa t.live n
theorem zMz (live:Nat->Bool)(s:Nat)(b:live s=false)(n:Nat):zEa (λj=>if j=s then true else live j) n+(if s<n then 1 else 0)=zEa live n:=by
 induction n with
 |zero=>rfl
 |succ n c=>
  simp only[zEa];generalize zEa (λj=>if j=s then true else live j) n=d at *;generalize zEa live n=f at *;by_cases e:n=s
  ·subst e
   simp[b] at *;omega
  ·by_cases a:s<n
   ·simp[e,a,show s<n+1 by omega] at *
    omega
   ·simp[e,a,show¬s<n+1 by omega] at *
    omega
theorem zHJ (t:Tb)(s:Nat)(e:s<=t.nst):(t.spreadTo s).1.deadTo t.nst+(if (t.spreadTo s).2 then 1 else 0)<=t.deadTo t.nst:=by
 induction s with
 |zero=>exact lQ
 |succ s a=>
  have a:=a (by omega);cases b:(t.spreadTo s).1.live s with
  |true=>rw[zAi t s (.inl b)];exact a
  |false=>
   cases c:(t.spreadTo s).1.anyTo s t.count with
   |false=>rw[zAi t s (.inr c)];exact a
   |true=>
    rw[zBm t s b c];have d:=zMz (t.spreadTo s).1.live s b t.nst;rw[if_pos (by omega)] at d;show zEa (λj=>if j=s then true else(t.spreadTo s).1.live j) t.nst+(if true=true then 1 else 0)<=_;rw[if_pos rfl,d];exact lY (Nat.le_add_right _ _) a
theorem zHH (t:Tb)(s:Nat)(a:(t.spreadTo s).2=false):(t.spreadTo s).1=t:=by
 induction s with
 |zero=>rfl
 |succ s b=>
  cases c:(t.spreadTo s).1.live s with
  |true=>rw[zAi t s (.inl c)] at a ⊢;exact b a
  |false=>
   cases d:(t.spreadTo s).1.anyTo s t.count with
   |false=>rw[zAi t s (.inr d)] at a ⊢;exact b a
   |true=>rw[zBm t s c d] at a;cases a
def Tb.itr (t:Tb):Nat->Tb
 |0=>t
 |n+1=>((t.itr n).spreadTo t.nst).1
theorem zHx {t u:Tb}(a:u={t with live:=u.live})(f:Nat->Bool):({u with live:=f}:Tb)={t with live:=f}:=by rw[a]
theorem jP (t:Tb)(n:Nat):t.itr n={t with live:=(t.itr n).live}:=by
 induction n with
 |zero=>rfl
 |succ n a=>exact(zAe (t.itr n) t.nst).trans (zHx a _)
theorem zHa (t:Tb)(n:Nat):(t.itr n).nst=t.nst:=by rw[jP]
theorem zA9 (t:Tb)(n:Nat):(t.itr n).count=t.count:=by rw[jP]
theorem zJv {t:Tb}(ok:t.OkN)(n:Nat):(t.itr n).OkN:=by rw[jP];exact ok.withLive _
def Tb.first (t:Tb):Tb:={t with live:=λs=>t.ends s != -1}
theorem zFp (w:World)(H b:Nat)(c:Tc)(t:Tb)(f:MemB w H b c t)(ai:c.live=slice none 0 0)(ok:t.OkN)(L:1<=t.nst)(aj:1<=t.count):
  Calls prog 65 #[pX b] w λe w'=>e=returned (tuple #[])/\∃v n,Mem w' H b {c with live:=v} (t.first.itr n)/\((t.first.itr n).spreadTo t.nst).2=false/\Keep H b w w':=by
 obtain⟨ak,al,am,an,ao⟩:=info_parts qU;obtain⟨M,ap,N,aJ,aq,aK,aL,ar,aM⟩:=f.ends.get L;have aN:cX w b 9=some (slice (qX M) t.nst ap):=by rw[<-N];exact f.tp.get_ends
 have O:=vl f;have au:=vl ar;have aO:=vl ok.ends;have aP:=ok.nst;have aQ:=f.tp.lt;have av:=zGO f.tp f.ends (by decide) (by rw[N];rfl);have aw:=f.HH;generalize ax:t.nst=n at *;have y:=vl ax;go_in;apply wp_cut;intro aR P;go_wp2;go_loopg [9] n (λq i wr=>∃(j:Nat) (v:Value),q=n-j/\j<=n/\i=iX (j:Int)/\Row wr w.heap.size 4 v j (λs=>bool (t.ends s != -1))/\xB wr b {c with live:=v}/\Keep w.heap.size b w wr)
 case atStart=>exact⟨0,slice none 0 0,rfl,lX,rfl,ownsRow_nil _ _ _ _,(by rw[<-ai];exact O.tp),Keep.refl _ _ _⟩
 case round=>
  obtain⟨j,v,z,aS,rfl,l,g,a⟩:=hrel;have ay:=a.size;by_cases az:j<n
  ·have aA:(j:Int)<(n:Int):=by omega
   have aB:=(gW (a.block M aq av)).trans (au j az);have aT:=g.get_live;have Q:Hid (gk=n-j/\Keep w.heap.size b w wr):=⟨z,a⟩
   have R:=vl l;have A:=vl g;have B:Hid (∃x,x=t.ends j):=⟨_,rfl⟩
   obtain⟨x,C⟩:=B;have B:=vl C;rw[<-C] at aB;clear z l g a C;go_wp2_with (first|(at_builtin;refine wpList_append_lies _ rfl _ _ 28 rfl w.heap.size 4 ak (bool false) 1 1 underlying28 al am an ao rfl (by decide) _ _ _ rfl (R.alloc _) ⟨wr.heap.size,0,none⟩ 1 1 [bool (x != -1)] rfl rfl (cell_one_new _ _ _) (by intro u S;simp at S;subst S;rfl) (by decide) (by unfold maxLen;omega) (by omega) (by simp;omega) _ rfl ?_;intro aC cap w2 aD aE aU aV;have o:=xQ R aE ay;have aW:=(A.of_block (o.block b (by omega))).get_live;have q2:=(A.of_block (o.block b (by omega))).fz 10))
   have aF:=A.of_block (o.block b (by omega));have aG:w2.ownsRow w.heap.size 4 1 (slice (qX aC) (j+1) cap) (j+1) ((List.range (j+1)).map λs=>bool (t.ends s != -1)):=by
    rw[jV,<-B.out];exact aD
   go_roundg (n-(j+1))
   case measure=>rw[Q.out.1];omega
   case rel=>exact⟨j+1,_,rfl,by omega,congrArg (Value.int IntKind.i64) (by omega),zL2 aG (λ_=>Keep.set _ _ _) (by omega),aF.set_live _,(Q.2.trans (xP o)).trans (Keep.set _ _ _)⟩
  ·have T:j=n:=by omega
   have aA:(n:Int)<=(j:Int):=by omega
   have aH:Hid (Mem wr H b {c with live:=v} t.first):=by
    refine(O.withLive a g).mem _ ?_;show Row wr H 4 v t.nst _;rw[y.out,<-T];exact l.mono aw
   have p:=vl a;clear z l g a T;go_wp2_with fail;apply P.out;clear P;have U:=zJv (t:=t.first) (ok.withLive _);have V:=zHa t.first
   have W:=zA9 t.first
   go_wp2_with fail;go_loopg [] (t.first.deadTo n) (λq X=>∃m:Nat,q=(t.first.itr m).deadTo n/\Mem X H b {c with live:=v} (t.first.itr m)/\Keep H b w X)
   case atStart=>exact⟨0,rfl,aH,⟨p.os,p.output,p.size,λk a=>p.block k (by omega)⟩⟩
   case round=>
    obtain⟨m,Y,D,aa⟩:=hrel;have E:(t.first.itr m).nst=n:=by rw[V];exact y
    have F:=zDu wr H b _ (t.first.itr m) D (U m) (by rw[E];exact L) (by rw[W];exact aj);have G:=zHJ (t.first.itr m) (t.first.itr m).nst lQ;rw[E] at F G;have I:Hid (gk=(t.first.itr m).deadTo n/\Mem wr H b {c with live:=v} (t.first.itr m)/\Keep H b w wr):=⟨Y,D,aa⟩
    have ab:Hid (t.first.itr (m+1)=((t.first.itr m).spreadTo n).1):=by show _=_;rw[<-y.out];rfl
    have ac:Hid (((t.first.itr m).spreadTo n).1.deadTo n+(if ((t.first.itr m).spreadTo n).2 then 1 else 0)<=(t.first.itr m).deadTo n):=G;have ad:Hid (Calls _ _ _ _ _):=F;clear Y D aa F G E U V W;go_wp2_with fail;refine Calls.mono ad ?_;rintro e w2 ⟨rfl,ae,af⟩;have d:Hid (Mem w2 H b {c with live:=v} ((t.first.itr m).spreadTo n).1/\Below H wr w2):=⟨ae,af⟩
    clear ae af ad;cases r:((t.first.itr m).spreadTo n).2 with
    |true=>
     have J:=ac.out;rw[r,if_pos rfl,<-ab.out] at J;have aI:Hid ((t.first.itr (m+1)).deadTo n+1<=(t.first.itr m).deadTo n):=J;clear r ac J;go_wp2_with fail;go_roundg ((t.first.itr (m+1)).deadTo n)
     case measure=>rw[I.out.1];exact aI
     case rel=>exact⟨m+1,rfl,by rw[ab.out];exact d.1,I.2.2.trans ⟨d.2.os,d.2.output,d.2.size,λk a _=>d.2.block k a⟩⟩
    |false=>
     have ag:Hid (((t.first.itr m).spreadTo n).2=false):=r;clear r;go_wp2_with fail;go_end0;refine⟨rfl,v,m,?_,ag,I.2.2.trans ⟨d.2.os,d.2.output,d.2.size,λk a _=>d.2.block k a⟩⟩;have ah:=d.1;rw[zHH _ _ ag.out] at ah;exact ah
section
theorem Keep.lower {H b d c:Nat}{w w':World}(a:Keep H b w w')(e:d<=H)(f:d<=b):Keep d c w w':=⟨a.os,a.output,a.size,λk g _=>a.block k (by omega) (by omega)⟩
def Ints (w:World)(S:Nat->Prop)(v:Value)(l:List Int):Prop:=
 ∃ao cap,v=slice ao l.length cap/\l.length<=cap/\cap<=maxLen/\∀i,i<l.length->∃b o,ao=some ⟨b,o,none⟩/\S b/\w.cell? ⟨b,o+i,none⟩=some (int i64 (l.getD i 0))
def Bools (w:World)(S:Nat->Prop)(v:Value)(l:List Bool):Prop:=
 ∃ao cap,v=slice ao l.length cap/\l.length<=cap/\cap<=maxLen/\∀i,i<l.length->∃b o,ao=some ⟨b,o,none⟩/\S b/\w.cell? ⟨b,o+i,none⟩=some (bool (l.getD i false))
def IntRows (w:World)(S:Nat->Prop)(v:Value)(l:List (List Int)):Prop:=
 ∃ao cap,v=slice ao l.length cap/\l.length<=cap/\cap<=maxLen/\∀i,i<l.length->∃b o u,ao=some ⟨b,o,none⟩/\S b/\w.cell? ⟨b,o+i,none⟩=some u/\Ints w S u (l.getD i [])
section
variable {w w':World} {S S':Nat->Prop} {v:Value}
theorem Ints.keep {l:List Int}(c:Ints w S v l)(e:∀b,S b->w'.heap[b]? =w.heap[b]?):Ints w' S v l:=by
 obtain⟨ao,cap,d,f,g,j⟩:=c;refine⟨ao,cap,d,f,g,λi k=>?_⟩;obtain⟨b,o,m,a,p⟩:=j i k;exact⟨b,o,m,a,(gW (e b a)).trans p⟩
theorem Ints.mono {l:List Int}(a:Ints w S v l)(e:∀b,S b->S' b):Ints w S' v l:=by
 obtain⟨ao,cap,c,d,f,g⟩:=a;refine⟨ao,cap,c,d,f,λi j=>?_⟩;obtain⟨b,o,k,m,p⟩:=g i j;exact⟨b,o,k,e b m,p⟩
theorem Bools.keep {l:List Bool}(c:Bools w S v l)(e:∀b,S b->w'.heap[b]? =w.heap[b]?):Bools w' S v l:=by
 obtain⟨ao,cap,d,f,g,j⟩:=c;refine⟨ao,cap,d,f,g,λi k=>?_⟩;obtain⟨b,o,m,a,p⟩:=j i k;exact⟨b,o,m,a,(gW (e b a)).trans p⟩
theorem Bools.mono {l:List Bool}(a:Bools w S v l)(e:∀b,S b->S' b):Bools w S' v l:=by
 obtain⟨ao,cap,c,d,f,g⟩:=a;refine⟨ao,cap,c,d,f,λi j=>?_⟩;obtain⟨b,o,k,m,p⟩:=g i j;exact⟨b,o,k,e b m,p⟩
theorem IntRows.keep {l:List (List Int)}(c:IntRows w S v l)(e:∀b,S b->w'.heap[b]? =w.heap[b]?):IntRows w' S v l:=by
 obtain⟨ao,cap,d,f,g,j⟩:=c;refine⟨ao,cap,d,f,g,λi k=>?_⟩;obtain⟨b,o,u,m,a,p,q⟩:=j i k;exact⟨b,o,u,m,a,(gW (e b a)).trans p,q.keep e⟩
theorem IntRows.mono {l:List (List Int)}(a:IntRows w S v l)(e:∀b,S b->S' b):IntRows w S' v l:=by
 obtain⟨ao,cap,c,d,f,g⟩:=a;refine⟨ao,cap,c,d,f,λi j=>?_⟩;obtain⟨b,o,u,k,m,p,q⟩:=g i j;exact⟨b,o,u,k,e b m,p,q.mono e⟩
theorem zBP {H:Nat}{e:TypeId}{l:List Int}(c:w.ownsRow H e 1 v l.length (l.map λx=>iX x))(f:∀g,v.ownBlock=some g->S g):Ints w S v l:=by
 rcases c.2 with⟨a,j⟩|⟨g,cap,o,a,p,q,k,m,r,s⟩
 ·refine⟨none,0,by rw[a,j],by omega,by unfold maxLen;omega,λi b=>by omega⟩
 ·refine⟨some ⟨g,0,none⟩,cap,a,k,m,λi b=>⟨g,0,rfl,f g (by rw[a];rfl),?_⟩⟩
  have d:=c.cells (g:=g) (by rw[a];rfl) i (iX (l.getD i 0)) (by
   rw[gZ,lV b,lW,lV b];rfl)
  rw[Addr.add_lit] at d;exact d
theorem zGe {H:Nat}{e:TypeId}{l:List Bool}(c:w.ownsRow H e 1 v l.length (l.map λx=>bool x))(f:∀g,v.ownBlock=some g->S g):Bools w S v l:=by
 rcases c.2 with⟨a,j⟩|⟨g,cap,o,a,p,q,k,m,r,s⟩
 ·refine⟨none,0,by rw[a,j],by omega,by unfold maxLen;omega,λi b=>by omega⟩
 ·refine⟨some ⟨g,0,none⟩,cap,a,k,m,λi b=>⟨g,0,rfl,f g (by rw[a];rfl),?_⟩⟩
  have d:=c.cells (g:=g) (by rw[a];rfl) i (bool (l.getD i false)) (by
   rw[gZ,lV b,lW,lV b];rfl)
  rw[Addr.add_lit] at d;exact d
end
theorem Ints.block {w:World}{S:Nat->Prop}{v:Value}{l:List Int}(e:Ints w S v l)(f:0<l.length):∃b o cap,v=slice (some ⟨b,o,none⟩) l.length cap/\S b/\l.length<=cap/\cap<=maxLen/\∀i,i<l.length->w.cell? ⟨b,o+i,none⟩=some (iX (l.getD i 0)):=by
 obtain⟨ao,cap,g,j,k,c⟩:=e;obtain⟨b,o,d,m,_⟩:=c 0 f;refine⟨b,o,cap,by rw[g,d],m,j,k,λi p=>?_⟩;obtain⟨t,u,a,_,q⟩:=c i p;rw[d] at a;injection a with a;injection a with r s;subst r s;exact q
theorem IntRows.block {w:World}{S:Nat->Prop}{v:Value}{l:List (List Int)}(e:IntRows w S v l)(f:0<l.length):∃b o cap,v=slice (some ⟨b,o,none⟩) l.length cap/\S b/\l.length<=cap/\cap<=maxLen/\∀i,i<l.length->∃u,w.cell? ⟨b,o+i,none⟩=some u/\Ints w S u (l.getD i []):=by
 obtain⟨ao,cap,g,j,k,c⟩:=e;obtain⟨b,o,_,d,m,_⟩:=c 0 f;refine⟨b,o,cap,by rw[g,d],m,j,k,λi p=>?_⟩;obtain⟨t,x,u,a,_,q⟩:=c i p;rw[d] at a;injection a with a;injection a with r s;subst r s;exact⟨u,q⟩
structure Sm where
 next:List (List Int)
 rules:List Int
 start:Int
 empty:List Bool
def ModesAt (w:World)(S:Nat->Prop)(v:Value)(ms:List Sm):Prop:=
 ∃ao cap,v=slice ao ms.length cap/\ms.length<=cap/\cap<=maxLen/\∀i (hi:i<ms.length),∃b o u0 u1 u3,ao=some ⟨b,o,none⟩/\S b/\
  w.cell? ⟨b,o+i*4,none⟩=some u0/\w.cell? ⟨b,o+i*4+1,none⟩=some u1/\w.cell? ⟨b,o+i*4+2,none⟩=some (int i64 ms[i].start)/\w.cell? ⟨b,o+i*4+3,none⟩=some u3/\
  IntRows w S u0 ms[i].next/\Ints w S u1 ms[i].rules/\Bools w S u3 ms[i].empty
theorem ModesAt.keep {w w':World}{S:Nat->Prop}{v:Value}{ms:List Sm}(c:ModesAt w S v ms)(e:∀b,S b->w'.heap[b]? =w.heap[b]?):ModesAt w' S v ms:=by
 obtain⟨ao,cap,d,f,g,l⟩:=c;refine⟨ao,cap,d,f,g,λi m=>?_⟩;obtain⟨b,o,u0,u1,u3,p,a,c0,c1,c2,q,r,s,t⟩:=l i m;have k:∀j,cX w' b j=cX w b j:=λj=>gW (e b a);exact⟨b,o,u0,u1,u3,p,a,(k _).trans c0,(k _).trans c1,(k _).trans c2,(k _).trans q,r.keep e,s.keep e,t.keep e⟩
end
def vQ (a b:Nat)(row:List Int):Bool:=row.getD a 0==row.getD b 0
def jW (a b:Nat)(m:Sm):Bool:=m.next.all (vQ a b)
def zA7 (ms:List Sm)(a b:Nat):Bool:=ms.all (jW a b)
def Wide (ms:List Sm):Prop:=∀m∈ms,∀row∈m.next,row.length=256
theorem zEj (w:World)(S:Nat->Prop)(v:Value)(ms:List Sm)(M:ModesAt w S v ms)(r:∀k,S k->k<w.heap.size)(N:Wide ms)(aH:ms.length<=3)(O:∀m∈ms,m.next.length<=200)(a b:Nat)(aI:a<256)(aJ:b<256):
  Calls prog 137 #[v,iX a,iX b] w λe w'=>e=returned (bool (zA7 ms a b))/\Grew w w':=by
 obtain⟨ao,cap,rfl,aK,aL,P⟩:=M;have Q:=vl P;go_in;go_wp2;go_loopg [13] ms.length (λq i wr=>∃j:Nat,q=ms.length-j/\j<=ms.length/\i=iX (j:Int)/\(ms.take j).all (jW a b)=true/\Grew w wr)
 case atStart=>exact⟨0,rfl,lX,rfl,rfl,Keep.refl _ _ _⟩
 case round=>
  obtain⟨j,y,aM,rfl,z,A⟩:=hrel;have s:Hid (gk=ms.length-j/\(ms.take j).all (jW a b)=true/\Grew w wr):=⟨y,z,A⟩
  by_cases t:j<ms.length
  ·have R:(j:Int)<(ms.length:Int):=by omega
   obtain⟨h,o,u0,u1,u3,rfl,G,c0,c1,c2,T,U,V,W⟩:=Q j t;have d:∀i,wr.cell? ⟨h,i,none⟩=w.cell? ⟨h,i,none⟩:=λi=>gW (A.block h (r h G) (by have:=r h G;omega));have X:=(d _).trans c0;have Y:=(d _).trans c1;have aa:=(d _).trans c2;have aN:=(d _).trans T;have H:=vl A;obtain⟨ab,ac,ad,aO,m0,ae⟩:=U;obtain⟨af,ag,ah,_⟩:=V;obtain⟨ai,aj,ak,_⟩:=W;subst ad ah ak;have al:=vl ae;have aP:=O _ (List.getElem_mem t);have am:=vl <| N _ (List.getElem_mem t);have I:Hid ((ms.take (j+1)).all (jW a b)=((ms.take j).all (jW a b)&&ms[j].next.all (vQ a b))):=by
    show _=_;rw[List.take_succ_eq_append_getElem t,List.all_append];simp[jW]
   generalize aQ:ms[j].next=rows at *
   generalize ms[j].start=an at *;generalize ms[j].rules=ap at *;generalize ms[j].empty=aq at *;go_wp2;obtain⟨w1,ar,au⟩:∃w1,w1=wr.alloc (.cells #[slice ab rows.length ac,slice af ap.length ag,iX an,slice ai aq.length aj] 134)/\Hid (Grew w w1):=⟨_,rfl,H.trans (kZ _ _ H.size)⟩
   rw[<-ar];go_loopg [21] rows.length (λq i av=>∃k:Nat,q=rows.length-k/\k<=rows.length/\i=iX (k:Int)/\(rows.take k).all (vQ a b)=true/\Grew w av)
   case atStart=>exact⟨0,rfl,lX,rfl,rfl,au⟩
   case round=>
    obtain⟨k,y,aR,rfl,z,J⟩:=hrel;have g:Hid (gk=rows.length-k/\(rows.take k).all (vQ a b)=true/\Grew w wr):=⟨y,z,J⟩
    by_cases f:k<rows.length
    ·have aw:(k:Int)<(rows.length:Int):=by omega
     obtain⟨ax,ay,u,rfl,az,aA,aB⟩:=al k f;have aC:(rows.getD k []).length=256:=by
      rw[lW,lV f];exact am _ (List.getElem_mem f)
     obtain⟨B,C,aD,rfl,K,_,_,L⟩:=aB.block (by omega);have d:∀x i,S x->wr.cell? ⟨x,i,none⟩=w.cell? ⟨x,i,none⟩:=λx i c=>gW (J.block x (r x c) (by have:=r x c;omega));have X:wr.cell? ⟨ax,ay+k,none⟩=some (slice (some ⟨B,C,none⟩) 256 aD):=by rw[d _ _ az,aA,aC]
     have Y:wr.cell? ⟨B,C+a,none⟩=some (iX ((rows.getD k []).getD a 0)):=by rw[d _ _ K,L a (by omega)]
     have aa:wr.cell? ⟨B,C+b,none⟩=some (iX ((rows.getD k []).getD b 0)):=by rw[d _ _ K,L b (by omega)]
     have aE:Hid ((rows.take (k+1)).all (vQ a b)=((rows.take k).all (vQ a b)&&((rows.getD k []).getD a 0==(rows.getD k []).getD b 0))):=by
      show _=_;rw[List.take_succ_eq_append_getElem f,List.all_append,lW (l:=rows),lV f];simp[vQ]
     have aF:Hid (((rows.getD k []).getD a 0==(rows.getD k []).getD b 0)=false->rows.all (vQ a b)=false):=by
      intro c;rw[List.all_eq_false];refine⟨rows[k],List.getElem_mem f,?_⟩;rw[lW (l:=rows),lV f] at c;simpa[vQ] using c
     have aS:(a:Int)<256:=by omega
     have aT:(b:Int)<256:=by omega
     generalize (rows.getD k []).getD a 0=D at *;generalize (rows.getD k []).getD b 0=E at *;by_cases c:D=E
     ·have aG:(D != E)=false:=by simp[c]
      have p:Hid ((rows.take (k+1)).all (vQ a b)=true):=by show _=_;rw[aE.out,g.out.2.1,c];simp
      go_wp2;go_quiet (fail);go_wp2;go_roundg (rows.length-(k+1))
      case measure=>rw[g.out.1];omega
      case rel=>exact⟨k+1,rfl,by omega,by go_num,p,g.2.2.trans (Keep.alike (w':=wr.drewN nq) ⟨rfl,rfl,rfl⟩)⟩
     ·have aG:(D != E)=true:=by simpa using c
      have p:=vl <| aF (by simpa using c);have F:Hid (zA7 ms a b=false):=by
       show _=_;unfold zA7;rw[<-List.take_append_drop (j+1) ms,List.all_append,I.out,p.out];simp
      go_wp2;go_quiet (fail);go_wp2;go_ret;exact⟨qT F.symm,g.2.2.trans (Keep.alike (w':=wr.drewN nq) ⟨rfl,rfl,rfl⟩)⟩
    ·have aw:(rows.length:Int)<=(k:Int):=by omega
     have p:Hid ((ms.take (j+1)).all (jW a b)=true):=by
      show _=_;rw[I.out,s.out.2.1,<-List.take_of_length_le (l:=rows) (i:=k) (by omega),g.out.2.1];rfl
     go_wp2;go_roundg (ms.length-(j+1))
     case measure=>rw[s.out.1];omega
     case rel=>exact⟨j+1,rfl,by omega,by go_num,p,g.2.2⟩
  ·have R:(ms.length:Int)<=(j:Int):=by omega
   have F:Hid (zA7 ms a b=true):=by
    show _=_;unfold zA7;rw[<-List.take_of_length_le (l:=ms) (i:=j) (by omega)];exact s.2.1
   go_wp2;go_ret;exact⟨qT F.symm,s.2.2⟩
def OwnI (w:World)(H:Nat)(v:Value)(l:List Int):Prop:=w.ownsRow H 3 1 v l.length (l.map λx=>int i64 x)
theorem OwnI.snoc {w:World}{H g cap:Nat}{l:List Int}{x:Int}(a:w.ownsRow H 3 1 (slice (qX g) (l.length+1) cap) (l.length+1) (l.map (λx=>iX x)++[iX x])):OwnI w H (slice (qX g) (l.length+1) cap) (l++[x]):=by
 unfold OwnI;rw[kX,List.map_append];exact a
theorem OwnI.raw {w:World}{H:Nat}{v:Value}{l:List Int}(a:OwnI w H v l):w.ownsRow H 3 1 v l.length (l.map λx=>iX x):=a
theorem OwnI.nil (w:World)(H:Nat):OwnI w H (slice none 0 0) []:=ownsRow_nil _ _ _ _
theorem OwnI.form {w:World}{H:Nat}{v:Value}{l:List Int}(a:OwnI w H v l):∃ao cap,v=slice ao l.length cap:=zI a
theorem zL {w w':World}{H e a n:Nat}{v:Value}{xs:List Value}(b:w.ownsRow H e a v n xs)(d:Grew w w'):w'.ownsRow H e a v n xs:=by
 refine⟨b.1,b.2.imp id ?_⟩;rintro⟨g,cap,f,i,j,c,k⟩;have l:=(kQ.1 c).1;exact⟨g,cap,f,i,j,(d.block g l (by omega)).trans c,k⟩
theorem OwnI.cell {w:World}{H g cap n:Nat}{l:List Int}(c:OwnI w H (slice (qX g) n cap) l)(i:Nat)(a:i<l.length):w.cell? ⟨g,i,none⟩=some (iX (l.getD i 0)):=by
 have b:=World.ownsRow.cells c (g:=g) rfl i (iX (l.getD i 0)) (by
  rw[gZ,lV a,lW,lV a];rfl)
 rw[Addr.add_lit,Nat.zero_add] at b;exact b
def yX (ms:List Sm)(b:Nat):Nat:=(List.range b).findIdx λa=>zA7 ms a b
theorem zGs (ms:List Sm)(b:Nat):yX ms b<=b:=by
 have c:=List.findIdx_le_length (xs:=List.range b) (p:=λa=>zA7 ms a b);rw[List.length_range] at c;exact c
theorem zDO (w:World)(S:Nat->Prop)(v:Value)(ms:List Sm)(t:ModesAt w S v ms)(g:∀k,S k->k<w.heap.size)(u:Wide ms)(x:ms.length<=3)(y:∀m∈ms,m.next.length<=200)(b:Nat)(z:b<256):
  Calls prog 98 #[v,iX b] w λe w'=>e=returned (iX (yX ms b:Nat))/\Grew w w':=by
 have A:=vl t;go_in;go_wp2;go_loopg [5] b (λq i wr=>∃j:Nat,q=b-j/\j<=b/\i=iX (j:Int)/\(∀a,a<j->zA7 ms a b=false)/\Grew w wr)
 case atStart=>exact⟨0,rfl,lX,rfl,λa f=>by omega,Keep.refl _ _ _⟩
 case round=>
  obtain⟨j,B,H,rfl,C,d⟩:=hrel;have c:Hid (gk=b-j/\(∀a,a<j->zA7 ms a b=false)/\Grew w wr):=⟨B,C,d⟩
  by_cases D:j<b
  ·have E:(j:Int)<(b:Int):=by omega
   go_wp2_with fail;refine(zEj wr S v ms (A.keep λk d=>c.2.2.block k (g k d) (by have:=g k d;omega)) (λk d=>lZ (g k d) c.2.2.size) u x y j b (by omega) z).mono ?_;rintro e w1 ⟨rfl,F⟩;have o:=vl <| c.2.2.trans (F.lower c.2.2.size c.2.2.size);cases r:zA7 ms j b with
   |true=>
    have l:Hid (yX ms b=j):=by
     show _=_;unfold yX;rw[List.findIdx_eq (by simpa using D)];refine⟨by simpa using r,λa f=>by simpa using c.2.1 a (by simpa using f)⟩
    go_wp2;go_ret;exact⟨zAR (by rw[l.out]),o⟩
   |false=>
    have G:=vl r;go_wp2;go_roundg (b-(j+1))
    case measure=>rw[c.out.1];omega
    case rel=>exact⟨j+1,rfl,by omega,by go_num,λa f=>by(by_cases e:a=j;exact e ▸ G;exact c.2.1 a (by omega)),o⟩
  ·have E:(b:Int)<=(j:Int):=by omega
   have l:Hid (yX ms b=b):=by
    show _=_;unfold yX;have s:=List.findIdx_eq_length (xs:=List.range b) (p:=λa=>zA7 ms a b);rw[List.length_range] at s;refine s.2 λa f=>?_;simpa using c.2.1 a (by have:=List.mem_range.1 f;omega)
   go_wp2;go_ret;exact⟨zAR (by rw[l.out]),c.2.2⟩
def zB (ms:List Sm):Nat->List Int×Nat
 |0=>([],0)
 |b+1=>if yX ms b<b then((zB ms b).1++[(zB ms b).1.getD (yX ms b) 0],(zB ms b).2) else((zB ms b).1++[((zB ms b).2:Int)],(zB ms b).2+1)
theorem qI (ms:List Sm)(b:Nat):(zB ms b).1.length=b/\(zB ms b).2<=b:=by
 induction b with
 |zero=>exact⟨rfl,lQ⟩
 |succ b a=>
  rw[zB];split
  ·exact⟨by simp[a.1],by show(zB ms b).2<=b+1;omega⟩
  ·exact⟨by simp[a.1],by show(zB ms b).2+1<=b+1;omega⟩
theorem zFV (w:World)(S:Nat->Prop)(v:Value)(ms:List Sm)(P:ModesAt w S v ms)(t:∀k,S k->k<w.heap.size)(Q:Wide ms)(R:ms.length<=3)(T:∀m∈ms,m.next.length<=200):
  Calls prog 63 #[v] w λe w'=>∃u,e=returned (tuple #[u,iX ((zB ms 256).2:Nat)])/\OwnI w' w.heap.size u (zB ms 256).1/\Grew w w':=by
 obtain⟨D,E,F,G,H⟩:=info_parts yL;have U:=vl P;go_in;go_wp2;go_loopg [4,5,6] 256 (λq V cnt i wr=>∃j:Nat,q=256-j/\j<=256/\i=iX (j:Int)/\cnt=iX ((zB ms j).2:Nat)/\OwnI wr w.heap.size V (zB ms j).1/\Grew w wr)
 case atStart=>exact⟨0,rfl,lX,rfl,rfl,OwnI.nil _ _,Keep.refl _ _ _⟩
 case round=>
  obtain⟨j,W,ai,rfl,rfl,I,c⟩:=hrel;have b:Hid (gk=256-j/\OwnI wr w.heap.size u4 (zB ms j).1/\Grew w wr):=⟨W,I,c⟩
  have X:=qI ms j;obtain⟨ao,cap,Y⟩:=I.form;subst Y;by_cases aa:j<256
  ·have ab:(j:Int)<256:=by omega
   go_wp2_with fail;refine(zDO wr S v ms (U.keep λk c=>b.2.2.block k (t k c) (by have:=t k c;omega)) (λk c=>lZ (t k c) b.2.2.size) Q R T j aa).mono ?_;rintro e w1 ⟨rfl,J⟩;have y:=vl <| b.2.2.trans (J.lower b.2.2.size b.2.2.size);have r:Hid (OwnI w1 w.heap.size (slice ao (zB ms j).1.length cap) (zB ms j).1):=zL b.2.1 J;have K:=y.size;have L:Hid (zB ms (j+1)=if yX ms j<j then((zB ms j).1++[(zB ms j).1.getD (yX ms j) 0],(zB ms j).2) else((zB ms j).1++[((zB ms j).2:Int)],(zB ms j).2+1)):=rfl;have aj:=zGs ms j;generalize yX ms j=f at *;generalize (zB ms j).1=l at *;generalize (zB ms j).2=cnt at *;obtain⟨ac,ak⟩:=X;have al:l.length<=j:=by omega
   have am:j<=l.length:=by omega
   clear ac;have s:=vl r;by_cases M:f<j
   ·have ad:(f:Int)<(j:Int):=by omega
    have d:Hid (zB ms (j+1)=(l++[l.getD f 0],cnt)):=by show _=_;rw[L.out,if_pos M]
    have ae:ao≠none:=by
     intro e;rcases r.out.2 with⟨a,N⟩|⟨g,_,_,a,_⟩
     ·have an:=N
      omega
     ·rw[e] at a;cases a
    obtain⟨g,rfl⟩:∃g,ao=some ⟨g,0,none⟩:=by
     rcases r.out.2 with⟨a,N⟩|⟨g,_,_,a,_⟩
     ·injection a with a _ _
      exact absurd a ae
     ·injection a with a _ _
      exact⟨g,a⟩
    have ap:=r.cell f (by show f<l.length;omega);have aq:(f:Int)<(l.length:Int):=by omega
    generalize l.getD f 0=x at *;go_wp2_with (first|(at_builtin;refine wpList_append_lies _ rfl _ _ 45 rfl (w.heap.size) 3 D (iX 0) 1 8 underlying45 E F G H rfl (by decide) _ _ _ rfl (s.alloc _) ⟨w1.heap.size,0,none⟩ 1 1 [iX x] rfl rfl (cell_one_new _ _ _) (by intro u o;simp at o;subst o;rfl) (by decide) (by unfold maxLen;omega) (by omega) (by simp;omega) _ rfl ?_;intro z cap w2 A B af ag;have C:=xQ s B K))
    have p:Hid (OwnI w2 w.heap.size (slice (qX z) (l.length+1) cap) (l++[x])/\Grew w w2):=⟨OwnI.snoc A,y.trans (xP C)⟩
    go_wp2;go_roundg (256-(j+1))
    case measure=>rw[b.out.1];omega
    case rel=>exact⟨j+1,rfl,by omega,by go_num,by rw[d.out],by rw[d.out];exact p.1,p.2⟩
   ·have ad:(j:Int)<=(f:Int):=by omega
    have d:Hid (zB ms (j+1)=(l++[(cnt:Int)],cnt+1)):=by show _=_;rw[L.out,if_neg M]
    go_wp2_with (first|(at_builtin;refine wpList_append_lies _ rfl _ _ 45 rfl (w.heap.size) 3 D (iX 0) 1 8 underlying45 E F G H rfl (by decide) _ _ _ rfl (s.alloc _) ⟨w1.heap.size,0,none⟩ 1 1 [iX (cnt:Int)] rfl rfl (cell_one_new _ _ _) (by intro u o;simp at o;subst o;rfl) (by decide) (by unfold maxLen;omega) (by omega) (by simp;omega) _ rfl ?_;intro z cap w2 A B af ag;have C:=xQ s B K))
    have p:Hid (OwnI w2 w.heap.size (slice (qX z) (l.length+1) cap) (l++[(cnt:Int)])/\Grew w w2):=⟨OwnI.snoc A,y.trans (xP C)⟩
    go_wp2;go_roundg (256-(j+1))
    case measure=>rw[b.out.1];omega
    case rel=>exact⟨j+1,rfl,by omega,by go_num,by rw[d.out];go_num,by rw[d.out];exact p.1,p.2⟩
  ·have ah:j=256:=by omega
   have ab:(256:Int)<=(j:Int):=by omega
   have O:Hid (zB ms j=zB ms 256):=by show _=_;rw[ah]
   go_wp2;go_ret2
   refine⟨slice ao (zB ms j).1.length cap,congrArg (λn:Nat=>Ending.returned (tuple #[slice ao (zB ms j).1.length cap,iX (n:Int)])) (congrArg Prod.snd O),?_,b.2.2⟩;rw[<-O.out];exact b.2.1
def zR (kinds row:List Int)(first:Int):Nat->List Int
 |0=>[]
 |b+1=>if kinds.getD b 0=((zR kinds row first b).length:Int) then zR kinds row first b++[first+row.getD b 0] else zR kinds row first b
theorem zIB (kinds row:List Int)(first:Int)(b:Nat):(zR kinds row first b).length<=b:=by
 induction b with
 |zero=>exact lQ
 |succ b a=>
  rw[zR];split
  ·simp;omega
  ·omega
theorem zHn (w:World)(S:Nat->Prop)(p:Nat)(m rv:Value)(kinds row:List Int)(first:Nat)(o:w.cell? ⟨p,6,none⟩=some m)(D:p<w.heap.size)(r:∀k,S k->k<w.heap.size)(E:Ints w S m kinds)(F:Ints w S rv row)(G:kinds.length=256)(H:row.length=256)(aj:first<=200)(I:∀i,i<256->0<=row.getD i 0/\row.getD i 0<=200):
  Calls prog 99 #[pX p,rv,iX first] w λe w'=>∃u,e=returned u/\OwnI w' w.heap.size u (zR kinds row first 256)/\Grew w w':=by
 obtain⟨J,K,L,M,N⟩:=info_parts yL;obtain⟨s,ok,ak,rfl,O,_,_,t⟩:=E.block (by omega);obtain⟨v,al,am,rfl,P,_,_,y⟩:=F.block (by omega);rw[G] at o t;rw[H] at y ⊢;have Q:=vl t;have R:=vl y;have T:=r s O;have U:=r v P;have V:=vl I;go_in;go_wp2;go_loopg [7,12] 256 (λq W i wr=>∃j:Nat,q=256-j/\j<=256/\i=iX (j:Int)/\OwnI wr w.heap.size W (zR kinds row first j)/\Grew w wr)
 case atStart=>exact⟨0,rfl,lX,rfl,OwnI.nil _ _,Keep.refl _ _ _⟩
 case round=>
  obtain⟨j,X,an,rfl,z,a⟩:=hrel;have b:Hid (gk=256-j/\Grew w wr):=⟨X,a⟩
  have ap:=zIB kinds row first j
  obtain⟨ao,cap,Y⟩:=z.form;subst Y;have aa:=a.size;have c:=vl z;by_cases f:j<256
  ·have ab:(j:Int)<256:=by omega
   have aq:=(gW (a.block p D (by omega))).trans o;have ar:=(gW (a.block s T (by omega))).trans (Q j f);have au:=(gW (a.block v U (by omega))).trans (R j f);obtain⟨av,aw⟩:=V j f;have A:Hid (zR kinds row first (j+1)=if kinds.getD j 0=((zR kinds row first j).length:Int) then zR kinds row first j++[first+row.getD j 0] else zR kinds row first j):=rfl;generalize zR kinds row first j=l at *
   generalize kinds.getD j 0=g at *;generalize row.getD j 0=x at *;by_cases d:g=(l.length:Int)
   ·have ac:(g==(l.length:Int))=true:=by simpa using d
    have h:Hid (zR kinds row first (j+1)=l++[first+x]):=by show _=_;rw[A.out,if_pos d]
    go_wp2_with (first|(at_builtin;refine wpList_append_lies _ rfl _ _ 45 rfl (w.heap.size) 3 J (iX 0) 1 8 underlying45 K L M N rfl (by decide) _ _ _ rfl (c.alloc _) ⟨wr.heap.size,0,none⟩ 1 1 [iX ((first:Int)+x)] rfl rfl (cell_one_new _ _ _) (by intro u B;simp at B;subst B;rfl) (by decide) (by unfold maxLen;omega) (by omega) (by simp;omega) _ rfl ?_;intro ad cap w2 ae af ax ay;have ag:=xQ c af aa))
    have C:Hid (OwnI w2 w.heap.size (slice (qX ad) (l.length+1) cap) (l++[(first:Int)+x])/\Grew w w2):=⟨OwnI.snoc ae,b.2.trans (xP ag)⟩
    go_wp2;go_roundg (256-(j+1))
    case measure=>rw[b.out.1];omega
    case rel=>exact⟨j+1,rfl,by omega,by go_num,by rw[h.out];exact C.1,C.2⟩
   ·have ac:(g==(l.length:Int))=false:=by simpa using d
    have h:Hid (zR kinds row first (j+1)=l):=by show _=_;rw[A.out,if_neg d]
    go_wp2;go_roundg (256-(j+1))
    case measure=>rw[b.out.1];omega
    case rel=>exact⟨j+1,rfl,by omega,by go_num,by rw[h.out];exact c,b.2⟩
  ·have ah:j=256:=by omega
   have ab:(256:Int)<=(j:Int):=by omega
   have ai:Hid (zR kinds row first j=zR kinds row first 256):=by show _=_;rw[ah]
   generalize zR kinds row first j=l at *
   go_wp2;go_ret;exact⟨_,rfl,by rw[<-ai.out];exact c,b.2⟩
def Rest (w:World)(p:Nat)(c:Tc)(k:Nat):Prop:=k<w.heap.size/\k≠p/\some k≠c.starts.ownBlock/\some k≠c.next.ownBlock/\some k≠c.ends.ownBlock
def Fin (w:World)(S:Nat->Prop)(H:Nat)(v:Value)(l:List Int):Prop:=OwnI w H v l/\∀g,v.ownBlock=some g->S g
theorem Fin.keep {w w':World}{S c:Nat->Prop}{H:Nat}{v:Value}{l:List Int}(a:Fin w S H v l)(e:∀k,H<=k->S k->w'.heap[k]? =w.heap[k]? /\c k):Fin w' c H v l:=
 ⟨zF a.1 λg d _ b=>(e g d (a.2 g b)).1,λg b=>(e g (a.1.lt g b).1 (a.2 g b)).2⟩
theorem Fin.ints {w:World}{S:Nat->Prop}{H:Nat}{v:Value}{l:List Int}(a:Fin w S H v l):Ints w S v l:=zBP a.1 a.2
structure Gt (w:World)(H p:Nat)(c:Tc)(kinds acts pushed starts ends:List Int)(next:List (List Int)):Prop where
 tp:xB w p c
 starts:OwnI w H c.starts starts
 ends:OwnI w H c.ends ends
 next:∃rv:Nat->Value,w.ownsRow H 45 1 c.next next.length ((List.range next.length).map rv)/\∀i,i<next.length->Fin w (Rest w p c) H (rv i) (next.getD i [])
 kinds:Fin w (Rest w p c) H c.kinds kinds
 acts:Fin w (Rest w p c) H c.acts acts
 pushed:Fin w (Rest w p c) H c.pushed pushed
 HH:H<=w.heap.size
 sep:∀g,c.starts.ownBlock=some g->c.ends.ownBlock≠some g
theorem Gt.grown {w w':World}{H p:Nat}{c:Tc}{kinds acts pushed starts ends:List Int}{next:List (List Int)}(a:Gt w H p c kinds acts pushed starts ends next)(f:Grew w w'):Gt w' H p c kinds acts pushed starts ends next:=by
 have j:=a.HH;have l:=a.tp.lt;have b:∀k,k<w.heap.size->w'.heap[k]? =w.heap[k]? :=λk m=>f.block k m (by omega);have e:∀k,H<=k->Rest w p c k->w'.heap[k]? =w.heap[k]? /\Rest w' p c k:=λk _ g=>⟨b k g.1,lZ g.1 f.size,g.2⟩
 obtain⟨rv,o,q⟩:=a.next
 exact⟨a.tp.of_block (b p l),zF a.starts λk _ d _=>b k d,zF a.ends λk _ d _=>b k d,⟨rv,zF o λk _ d _=>b k d,λi r=>(q i r).keep e⟩,a.kinds.keep e,a.acts.keep e,a.pushed.keep e,lY j f.size,a.sep⟩
structure Turn (H p:Nat)(w:World)(c:Tc)(w':World)(c':Tc):Prop where
 rest:∀k,H<=k->Rest w p c k->w'.heap[k]? =w.heap[k]? /\Rest w' p c' k
 keep:Keep H p w w'
 same:c'={c with starts:=c'.starts,next:=c'.next,ends:=c'.ends}
theorem Turn.refl (H p:Nat)(w:World)(c:Tc):Turn H p w c w c:=⟨λ_ _ a=>⟨rfl,a⟩,Keep.refl _ _ _,rfl⟩
theorem Turn.trans {H p:Nat}{w w' e:World}{c f g:Tc}(a:Turn H p w c w' f)(k:Turn H p w' f e g):Turn H p w c e g:=
 ⟨λi b d=>⟨((k.rest i b (a.rest i b d).2).1).trans (a.rest i b d).1,(k.rest i b (a.rest i b d).2).2⟩,a.keep.trans k.keep,k.same.trans (by rw[a.same])⟩
theorem Turn.grown {H p:Nat}{w w':World}{c:Tc}(b:Grew w w')(d:H<=w.heap.size):Turn H p w c w' c:=
 ⟨λk _ a=>⟨b.block k a.1 (by have:=a.1;omega),lZ a.1 b.size,a.2⟩,b.lower d d,rfl⟩
theorem xO {w:World}{H e a b c n m:Nat}{v u:Value}{xs d:List Value}(f:w.ownsRow H e b v n xs)(i:w.ownsRow H a c u m d)(j:e≠a){g:Nat}(k:v.ownBlock=some g):some g≠u.ownBlock:=λl=>zGd f i j k l.symm
theorem vO {w:World}{H b e g n:Nat}{c:Tc}{v:Value}{xs:List Value}(a:xB w b c)(i:w.ownsRow H e g v n xs)(j:e≠90):some b≠v.ownBlock:=by
 intro d;rcases i.2 with⟨f,_⟩|⟨k,_,p,f,_,l,_⟩
 ·rw[f] at d;cases d
 ·rw[f] at d
  have m:b=k:=by simpa[Value.ownBlock] using d
  subst m;unfold xB at a;rw[l] at a;injection a with a;injection a with _ o _;exact j o
theorem zC (w:World)(a:Addr)(v:Value):(w.setCell a v).heap.size=w.heap.size:=by simp[World.setCell]
theorem Gt.starts_app {w w2:World}{H p g cap:Nat}{c:Tc}{kinds acts pushed starts ends:List Int}{next:List (List Int)}{x:Int}(a:Gt w H p c kinds acts pushed starts ends next)
  (G:OwnI w2 H (slice (qX g) (starts.length+1) cap) (starts++[x])) (m:∀k,k<w.heap.size->some k≠c.starts.ownBlock->w2.heap[k]? =w.heap[k]?) (I:w.heap.size<=w2.heap.size) (s:w2.os=w.os/\w2.output=w.output) (t:c.starts.ownBlock=some g\/w.heap.size<=g):
  Gt (w2.setCell ⟨p,3,none⟩ (slice (qX g) (starts.length+1) cap)) H p {c with starts:=slice (qX g) (starts.length+1) cap} kinds acts pushed (starts++[x]) ends next/\Turn H p w c (w2.setCell ⟨p,3,none⟩ (slice (qX g) (starts.length+1) cap)) {c with starts:=slice (qX g) (starts.length+1) cap}:=by
 have J:=a.tp.lt;have S:=a.HH;obtain⟨K,u,L⟩:=a.next
 have y:=G.raw;have A:=m p J (vO a.tp a.starts.raw (by decide));have M:g≠p:=λe=>by
  subst e;exact vO (a.tp.of_block A) y (by decide) rfl
 have o:∀k,k≠p->(w2.setCell ⟨p,3,none⟩ (slice (qX g) (starts.length+1) cap)).heap[k]? =w2.heap[k]? :=λk b=>lJ _ _ _ _ b;have f:∀k,H<=k->Rest w p c k->(w2.setCell ⟨p,3,none⟩ (slice (qX g) (starts.length+1) cap)).heap[k]? =w.heap[k]? /\Rest (w2.setCell ⟨p,3,none⟩ (slice (qX g) (starts.length+1) cap)) p {c with starts:=slice (qX g) (starts.length+1) cap} k:=by
  rintro k b ⟨B,C,d,N,O⟩;refine⟨(o k C).trans (m k B d),by rw[zC];omega,C,?_,N,O⟩;intro e;have j:k=g:=by simpa[Value.ownBlock] using e
  subst j;rcases t with l|l
  ·exact d l.symm
  ·omega
 have D:∀{e E n v xs},w.ownsRow H e E v n xs->e≠90->(∀k,v.ownBlock=some k->some k≠c.starts.ownBlock)->(w2.setCell ⟨p,3,none⟩ (slice (qX g) (starts.length+1) cap)).ownsRow H e E v n xs:=λF q P=>zF F λk _ d b=>(o k (λr=>vO a.tp F q (by rw[b,r]))).trans (m k d (P k b));have Q:=zF (w':=(w2.setCell ⟨p,3,none⟩ (slice (qX g) (starts.length+1) cap))) y λk _ _ b=>o k (λr=>M (by have j:g=k:=(by simpa[Value.ownBlock] using b);rw[j,r]));refine⟨?_,f,⟨s.1,s.2,by rw[zC];exact I,λk B d=>(o k d).trans (m k (by omega) λe=>by have:=(a.starts.raw.lt k e.symm).1;omega)⟩,rfl⟩;refine⟨(a.tp.of_block A).set_starts _,?_,D a.ends (by decide) λk b e=>a.sep k e.symm b,⟨K,D u (by decide) λk b=>xO u a.starts.raw (by decide) b,λi R=>(L i R).keep f⟩,a.kinds.keep f,a.acts.keep f,a.pushed.keep f,by rw[zC];omega,?_⟩
 ·exact Q
 intro k b;have j:g=k:=by simpa[Value.ownBlock] using b
 subst j;intro q;rcases t with l|l
 ·exact a.sep g l q
 ·have:=(a.ends.lt g q).2
  omega
theorem Gt.ends_app {w w2:World}{H p g cap:Nat}{c:Tc}{kinds acts pushed starts ends:List Int}{next:List (List Int)}{x:Int}(a:Gt w H p c kinds acts pushed starts ends next)
  (I:OwnI w2 H (slice (qX g) (ends.length+1) cap) (ends++[x])) (m:∀k,k<w.heap.size->some k≠c.ends.ownBlock->w2.heap[k]? =w.heap[k]?) (J:w.heap.size<=w2.heap.size) (s:w2.os=w.os/\w2.output=w.output) (t:c.ends.ownBlock=some g\/w.heap.size<=g):
  Gt (w2.setCell ⟨p,9,none⟩ (slice (qX g) (ends.length+1) cap)) H p {c with ends:=slice (qX g) (ends.length+1) cap} kinds acts pushed starts (ends++[x]) next/\Turn H p w c (w2.setCell ⟨p,9,none⟩ (slice (qX g) (ends.length+1) cap)) {c with ends:=slice (qX g) (ends.length+1) cap}:=by
 have K:=a.tp.lt;have S:=a.HH;obtain⟨L,u,M⟩:=a.next
 have y:=I.raw;have A:=m p K (vO a.tp a.ends.raw (by decide));have N:g≠p:=λe=>by
  subst e;exact vO (a.tp.of_block A) y (by decide) rfl
 have o:∀k,k≠p->(w2.setCell ⟨p,9,none⟩ (slice (qX g) (ends.length+1) cap)).heap[k]? =w2.heap[k]? :=λk b=>lJ _ _ _ _ b;have d:∀k,H<=k->Rest w p c k->(w2.setCell ⟨p,9,none⟩ (slice (qX g) (ends.length+1) cap)).heap[k]? =w.heap[k]? /\Rest (w2.setCell ⟨p,9,none⟩ (slice (qX g) (ends.length+1) cap)) p {c with ends:=slice (qX g) (ends.length+1) cap} k:=by
  rintro k b ⟨B,C,f,O,D⟩;refine⟨(o k C).trans (m k B D),by rw[zC];omega,C,f,O,?_⟩;intro e;have j:k=g:=by simpa[Value.ownBlock] using e
  subst j;rcases t with l|l
  ·exact D l.symm
  ·omega
 have E:∀{e F n v xs},w.ownsRow H e F v n xs->e≠90->(∀k,v.ownBlock=some k->some k≠c.ends.ownBlock)->(w2.setCell ⟨p,9,none⟩ (slice (qX g) (ends.length+1) cap)).ownsRow H e F v n xs:=λG q P=>zF G λk _ f b=>(o k (λr=>vO a.tp G q (by rw[b,r]))).trans (m k f (P k b));have Q:=zF (w':=(w2.setCell ⟨p,9,none⟩ (slice (qX g) (ends.length+1) cap))) y λk _ _ b=>o k (λr=>N (by have j:g=k:=(by simpa[Value.ownBlock] using b);rw[j,r]));refine⟨?_,d,⟨s.1,s.2,by rw[zC];exact J,λk B f=>(o k f).trans (m k (by omega) λe=>by have:=(a.ends.raw.lt k e.symm).1;omega)⟩,rfl⟩;refine⟨(a.tp.of_block A).set_ends _,E a.starts (by decide) λk b e=>a.sep k b e.symm,?_,⟨L,E u (by decide) λk b=>xO u a.ends.raw (by decide) b,λi R=>(M i R).keep d⟩,a.kinds.keep d,a.acts.keep d,a.pushed.keep d,by rw[zC];omega,?_⟩
 ·exact Q
 intro k b q;have j:g=k:=by simpa[Value.ownBlock] using q
 subst j;rcases t with l|l
 ·exact a.sep g b l
 ·have:=(a.starts.lt g b).2
  omega
theorem Gt.next_app {w w2:World}{H p g cap:Nat}{c:Tc}{kinds acts pushed starts ends:List Int}{next:List (List Int)}{u:Value}{l:List Int}(a:Gt w H p c kinds acts pushed starts ends next)
  (rv:Nat->Value) (J:∀i,i<next.length->Fin w (Rest w p c) H (rv i) (next.getD i [])) (K:Fin w (Rest w p c) H u l) (L:w2.ownsRow H 45 1 (slice (qX g) (next.length+1) cap) (next.length+1) ((List.range next.length).map rv++[u])) (j:∀k,k<w.heap.size->some k≠c.next.ownBlock->w2.heap[k]? =w.heap[k]?) (M:w.heap.size<=w2.heap.size) (x:w2.os=w.os/\w2.output=w.output) (N:c.next.ownBlock=some g\/w.heap.size<=g):
  Gt (w2.setCell ⟨p,8,none⟩ (slice (qX g) (next.length+1) cap)) H p {c with next:=slice (qX g) (next.length+1) cap} kinds acts pushed starts ends (next++[l])/\Turn H p w c (w2.setCell ⟨p,8,none⟩ (slice (qX g) (next.length+1) cap)) {c with next:=slice (qX g) (next.length+1) cap}:=by
 have O:=a.tp.lt;have U:=a.HH;obtain⟨V,m,W⟩:=a.next
 have y:=L;have A:=j p O (vO a.tp m (by decide));have P:g≠p:=λe=>by
  subst e;exact vO (a.tp.of_block A) y (by decide) rfl
 have o:∀k,k≠p->(w2.setCell ⟨p,8,none⟩ (slice (qX g) (next.length+1) cap)).heap[k]? =w2.heap[k]? :=λk b=>lJ _ _ _ _ b;have d:∀k,H<=k->Rest w p c k->(w2.setCell ⟨p,8,none⟩ (slice (qX g) (next.length+1) cap)).heap[k]? =w.heap[k]? /\Rest (w2.setCell ⟨p,8,none⟩ (slice (qX g) (next.length+1) cap)) p {c with next:=slice (qX g) (next.length+1) cap} k:=by
  rintro k b ⟨B,C,f,D,Q⟩;refine⟨(o k C).trans (j k B D),by rw[zC];omega,C,f,?_,Q⟩;intro e;have q:k=g:=by simpa[Value.ownBlock] using e
  subst q;rcases N with E|E
  ·exact D E.symm
  ·omega
 have F:∀{e G n v xs},w.ownsRow H e G v n xs->e≠90->(∀k,v.ownBlock=some k->some k≠c.next.ownBlock)->(w2.setCell ⟨p,8,none⟩ (slice (qX g) (next.length+1) cap)).ownsRow H e G v n xs:=λI R S=>zF I λk _ f b=>(o k (λr=>vO a.tp I R (by rw[b,r]))).trans (j k f (S k b));have T:=zF y λk _ _ b=>o k (λr=>P (by have q:g=k:=(by simpa[Value.ownBlock] using b);rw[q,r]));refine⟨?_,d,⟨x.1,x.2,by rw[zC];exact M,λk B f=>(o k f).trans (j k (by omega) λe=>by have:=(m.lt k e.symm).1;omega)⟩,rfl⟩;refine⟨(a.tp.of_block A).set_next _,F a.starts.raw (by decide) λk b=>xO a.starts.raw m (by decide) b,F a.ends.raw (by decide) λk b=>xO a.ends.raw m (by decide) b,⟨λi=>if i=next.length then u else rv i,?_,?_⟩,a.kinds.keep d,a.acts.keep d,a.pushed.keep d,by rw[zC];omega,a.sep⟩
 ·have e:(List.range (next++[l]).length).map (λi=>if i=next.length then u else rv i)=(List.range next.length).map rv++[u]:=by
   rw[kX,List.length_singleton,jV,if_pos rfl]
   congr 1
   exact List.map_congr_left λi s=>if_neg (by have:=List.mem_range.1 s;omega)
  rw[e,kX];exact T
 ·intro i s
  rw[kX,List.length_singleton] at s;by_cases e:i=next.length
  ·subst e
   simp only[if_true];have t:(next++[l]).getD next.length []=l:=by simp
   rw[t];exact K.keep d
  ·show Fin _ _ _ (if i=next.length then u else rv i) _
   rw[if_neg e];have t:(next++[l]).getD i []=next.getD i []:=by
    rw[lW,kW (by omega),<-lW]
   rw[t];exact(J i (by omega)).keep d
end Go.Proofs.YtbjcfkdnjaiclaaGreat
