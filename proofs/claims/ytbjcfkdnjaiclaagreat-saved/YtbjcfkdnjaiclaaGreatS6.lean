import Derived.Test.YtbjcfkdnjaiclaaGreatS0
import Derived.Test.YtbjcfkdnjaiclaaGreatS3
import Derived.Test.YtbjcfkdnjaiclaaGreatS5
/- Parts of the proof. -/
set_option linter.unusedVariables false
set_option linter.unusedSimpArgs false
set_option maxHeartbeats 4000000
set_option maxRecDepth 100000
namespace Go.Proofs.YtbjcfkdnjaiclaaGreat
open Go.RowKit Go.Proofs.Tryz Go.World
open Go.Value (int slice bool pointer string agg tuple)
open Go.IntKind (i64)
open Go.Ending (returned)
structure Laid where
 starts:List Int
 ends:List Int
 next:List (List Int)
 rules:Nat
def zZ (kinds:List Int)(ms:List Sm):Nat->Laid
 |0=>⟨[],[],[],0⟩
 |j+1=>⟨(zZ kinds ms j).starts++[((zZ kinds ms j).next.length:Int)+(ms.getD j ⟨[],[],0,[]⟩).start],(zZ kinds ms j).ends++(ms.getD j ⟨[],[],0,[]⟩).rules.map (qF (zZ kinds ms j).rules),(zZ kinds ms j).next++(ms.getD j ⟨[],[],0,[]⟩).next.map (λrow=>xA kinds row (zZ kinds ms j).next.length 256),(zZ kinds ms j).rules+(ms.getD j ⟨[],[],0,[]⟩).empty.length⟩
def zN (ms:List Sm):Nat->Nat
 |0=>0
 |j+1=>zN ms j+(ms.getD j ⟨[],[],0,[]⟩).next.length
def zU (ms:List Sm):Nat->Nat
 |0=>0
 |j+1=>zU ms j+(ms.getD j ⟨[],[],0,[]⟩).empty.length
theorem vI (ms:List Sm)(i j:Nat)(b:i<=j):zN ms i<=zN ms j:=by
 induction j with
 |zero=>rw[show i=0 by omega];exact lQ
 |succ j a=>
  by_cases e:i=j+1
  ·rw[e];exact lQ
  ·have:=a (by omega)
   rw[zN];omega
theorem zB2 (ms:List Sm)(i j:Nat)(b:i<=j):zU ms i<=zU ms j:=by
 induction j with
 |zero=>rw[show i=0 by omega];exact lQ
 |succ j a=>
  by_cases e:i=j+1
  ·rw[e];exact lQ
  ·have:=a (by omega)
   rw[zU];omega
structure ModesOk (ms:List Sm):Prop where
 one:1<=ms.length
 three:ms.length<=3
 states1:∀i (hi:i<ms.length),1<=ms[i].next.length
 wide:∀i (hi:i<ms.length),∀row∈ms[i].next,row.length=256/\∀b,b<256->0<=row.getD b 0/\row.getD b 0<ms[i].next.length
 rules:∀i (hi:i<ms.length),ms[i].rules.length=ms[i].next.length/\∀r∈ms[i].rules,-1<=r/\r<ms[i].empty.length
 start:∀i (hi:i<ms.length),0<=ms[i].start/\ms[i].start<ms[i].next.length
 states:zN ms ms.length<=200
 rules1:1<=zU ms ms.length
 rules8:zU ms ms.length<=8
theorem zBd (kinds:List Int)(ms:List Sm)(g:ModesOk ms)(j:Nat)(l:j<=ms.length):(zZ kinds ms j).starts.length=j/\(zZ kinds ms j).next.length=zN ms j/\(zZ kinds ms j).ends.length=zN ms j/\(zZ kinds ms j).rules=zU ms j:=by
 induction j with
 |zero=>exact⟨rfl,rfl,rfl,rfl⟩
 |succ j i=>
  obtain⟨a,b,c,k⟩:=i (by omega);have f:j<ms.length:=by omega
  have e:ms.getD j ⟨[],[],0,[]⟩=ms[j]:=by rw[lW,lV f];rfl
  rw[zZ,zN,zU,e];refine⟨by simp[a],by simp[b],?_,by simp[k]⟩;simp[c,(g.rules j f).1]
theorem zDo (ms:List Sm)(b n i:Nat)(c:b<=n)(d:i<b):(zB ms n).1.getD i 0=(zB ms b).1.getD i 0:=by
 induction n with
 |zero=>omega
 |succ n a=>
  by_cases e:b=n+1
  ·rw[e]
  ·rw[<-a (by omega)]
   have f:=(jE ms n).1;rw[zB];split <;> (rw [lW,kW (by omega),<-lW])
theorem zC7 (ms:List Sm)(b i:Nat)(f:i<b):0<=(zB ms b).1.getD i 0/\(zB ms b).1.getD i 0<(zB ms b).2:=by
 induction b generalizing i with
 |zero=>omega
 |succ b a=>
  have c:=(jE ms b).1;have g:=zHy ms b;rw[zB];split
  ·rename_i d
   by_cases e:i=b
   ·subst e
    rw[lW,hZ (by omega),c];simp only[Nat.sub_self,List.getElem?_cons_zero,Option.getD_some];exact a _ d
   ·rw[lW,kW (by omega),<-lW]
    exact a i (by omega)
  ·by_cases e:i=b
   ·subst e
    rw[lW,hZ (by omega),c];simp only[Nat.sub_self,List.getElem?_cons_zero,Option.getD_some];omega
   ·rw[lW,kW (by omega),<-lW]
    have:=a i (by omega);show _/\_<(((zB ms b).2+1:Nat):Int);omega
theorem zEK (ms:List Sm)(b n:Nat)(d:b<n):((zB ms n).1.getD b 0=((zB ms b).2:Int)↔¬jR ms b<b)/\(zB ms (b+1)).2=if jR ms b<b then(zB ms b).2 else(zB ms b).2+1:=by
 rw[zDo ms (b+1) n b d (by omega)];have c:=(jE ms b).1;rw[zB];split
 ·rename_i a
  refine⟨?_,rfl⟩;rw[lW,hZ (by omega),c];simp only[Nat.sub_self,List.getElem?_cons_zero,Option.getD_some];have:=zC7 ms b (jR ms b) a
  constructor
  ·intro e;omega
  ·intro e;exact absurd a e
 ·rename_i a
  refine⟨?_,rfl⟩;rw[lW,hZ (by omega),c];simp only[Nat.sub_self,List.getElem?_cons_zero,Option.getD_some];exact⟨λ_=>a,λ_=>trivial⟩
theorem zG5 (ms:List Sm)(row:List Int)(first:Int)(n b:Nat)(g:b<=n):(xA (zB ms n).1 row first b).length=(zB ms b).2:=by
 induction b with
 |zero=>rfl
 |succ b a=>
  obtain⟨d,f⟩:=zEK ms b n (by omega);have a:=a (by omega);rw[xA,f];by_cases c:jR ms b<b
  ·rw[if_neg (by rw[a];intro e;exact(d.1 e) c),if_pos c,a]
  ·rw[if_pos (by rw[a];exact d.2 c),if_neg c,kX,a]
   rfl
theorem zKd (kinds row:List Int)(first:Int)(P:Int->Prop)(b:Nat)(c:∀i,i<b->P (first+row.getD i 0)):∀x∈xA kinds row first b,P x:=by
 induction b with
 |zero=>intro x a;simp[xA] at a
 |succ b d=>
  intro x a;rw[xA] at a;split at a
  ·rcases kU.1 a with a|a
   ·exact d (λi e=>c i (by omega)) x a
   ·rw[kY.1 a];exact c b (by omega)
  ·exact d (λi e=>c i (by omega)) x a
theorem zDD (ms:List Sm)(b:Nat)(c:1<=b):1<=(zB ms b).2:=by
 induction b with
 |zero=>omega
 |succ b a=>
  rw[(zEK ms b (b+1) (by omega)).2];by_cases e:b=0
  ·subst e;simp
  ·have:=a (by omega)
   split <;> omega
theorem zCF (ms:List Sm)(g:ModesOk ms)(j:Nat)(s:j<=ms.length):
  (∀x∈(zZ (zB ms 256).1 ms j).starts,0<=x/\x<zN ms j)/\
  (∀x∈(zZ (zB ms 256).1 ms j).ends,-1<=x/\x<zU ms j)/\
  (∀r∈(zZ (zB ms 256).1 ms j).next,r.length=(zB ms 256).2/\∀x∈r,0<=x/\x<zN ms j):=by
 induction j with
 |zero=>exact⟨λx d=>by simp[zZ] at d,λx d=>by simp[zZ] at d,λx d=>by simp[zZ] at d⟩
 |succ j l=>
  obtain⟨a,b,c⟩:=l (by omega);obtain⟨s1,s2,t,m⟩:=zBd (zB ms 256).1 ms g j (by omega);have k:j<ms.length:=by omega
  have e:ms.getD j ⟨[],[],0,[]⟩=ms[j]:=by rw[lW,lV k];rfl
  have u:=g.start j k;rw[zZ,zN,zU,e];refine⟨λx d=>?_,λx d=>?_,λr f=>?_⟩
  ·rcases kU.1 d with d|d
   ·have:=a x d;omega
   ·rw[kY.1 d,s2];omega
  ·rcases kU.1 d with d|d
   ·have:=b x d;omega
   ·obtain⟨y,o,rfl⟩:=List.mem_map.1 d
    have:=(g.rules j k).2 y o;unfold qF;rw[m];split <;> omega
  ·rcases kU.1 f with f|f
   ·refine⟨(c r f).1,λx d=>?_⟩
    have:=(c r f).2 x d;omega
   ·obtain⟨row,p,rfl⟩:=List.mem_map.1 f
    obtain⟨w1,w2⟩:=g.wide j k row p;refine⟨zG5 ms row _ 256 256 lQ,zKd _ _ _ _ 256 λi q=>?_⟩;have:=w2 i q;rw[s2];omega
def zS (ms:List Sm)(acts pushed:List Int)(hold:Nat):Tb where
 stream:=false
 ahead:=0
 hold:=hold
 count:=(zB ms 256).2
 rows:=0
 nst:=zN ms ms.length
 nmode:=ms.length
 nrule:=acts.length
 nlong:=0
 start:=λi=>((zZ (zB ms 256).1 ms ms.length).starts.getD i 0).toNat
 act:=λi=>(acts.getD i 0).toNat
 push:=λi=>(pushed.getD i 0).toNat
 kind:=λb=>((zB ms 256).1.getD b 0).toNat
 next:=λs k=>(((zZ (zB ms 256).1 ms ms.length).next.getD s []).getD k 0).toNat
 ends:=λs=>(zZ (zB ms 256).1 ms ms.length).ends.getD s 0
 live:=λ_=>false
 long:=λ_=>0
theorem zY {a:Type}(l:List a)(i:Nat)(c:a)(b:i<l.length):l.getD i c∈l:=by
 rw[lW,lV b];exact List.getElem_mem b
theorem zDx (ms:List Sm)(acts pushed:List Int)(hold:Nat)(a:ModesOk ms)(d:acts.length=zU ms ms.length):(zS ms acts pushed hold).OkN:=by
 obtain⟨s1,s2,j,l⟩:=zBd (zB ms 256).1 ms a ms.length lQ;obtain⟨m,b2,e⟩:=zCF ms a ms.length lQ;refine⟨(jE ms 256).2,a.states,λs k b f=>?_,λs b=>?_⟩
 ·have g:s<zN ms ms.length:=b
  have o:k<(zB ms 256).2:=f;have i:=e _ (zY _ s [] (by omega));have c:=i.2 _ (zY _ k 0 (by omega));show(((zZ (zB ms 256).1 ms ms.length).next.getD s []).getD k 0).toNat<zN ms ms.length;omega
 ·have g:s<zN ms ms.length:=b
  have c:=b2 _ (zY _ s 0 (by omega));show -1<=(zZ (zB ms 256).1 ms ms.length).ends.getD s 0/\(zZ (zB ms 256).1 ms ms.length).ends.getD s 0<(acts.length:Int);rw[d];exact c
theorem OwnI.row {w:World}{H:Nat}{v:Value}{l:List Int}(b:OwnI w H v l)(n:Nat)(c:l.length=n)(f:Nat->Int)(d:∀i,i<n->l.getD i 0=f i):Row w H 3 v n λi=>iX (f i):=by
 unfold Row;subst c;have e:(List.range l.length).map (λi=>iX (f i))=l.map λx=>iX x:=by
  apply List.ext_getElem?;intro i;rw[gQ,gQ];by_cases a:i<l.length
  ·rw[List.getElem?_range a,lV a]
   simp only[Option.map_some];rw[<-d i a,lW,lV a];rfl
  ·rw[List.getElem?_eq_none (by simpa using a),List.getElem?_eq_none (by omega)]
   rfl
 rw[e];exact b
theorem Gt.memB {w:World}{H p:Nat}{c:Tc}{ms:List Sm}{acts pushed:List Int}{hold:Nat}(a:Gt w H p c (zB ms 256).1 acts pushed (zZ (zB ms 256).1 ms ms.length).starts (zZ (zB ms 256).1 ms ms.length).ends (zZ (zB ms 256).1 ms ms.length).next)(d:ModesOk ms)
  (f:∀i,i<acts.length->0<=acts.getD i 0) (g:pushed.length=acts.length) (j:∀i,i<pushed.length->0<=pushed.getD i 0)
  (c0:c.stream=bool false) (c1:c.ahead=iX (0:Nat)) (c2:c.hold=iX (hold:Nat)) (l:c.count=iX ((zB ms 256).2:Nat)) (m:c.rows=iX (0:Nat)) (o:c.longer=slice none 0 0):MemB w H p c (zS ms acts pushed hold):=by
 obtain⟨s1,s2,q,y⟩:=zBd (zB ms 256).1 ms d ms.length lQ;obtain⟨r,b2,e⟩:=zCF ms d ms.length lQ;obtain⟨rv,s,t⟩:=a.next
 refine⟨a.tp,c0,c1,c2,l,m,a.starts.row _ s1 _ λi b=>?_,a.acts.1.row _ rfl _ λi b=>?_,a.pushed.1.row _ g _ λi b=>?_,a.kinds.1.row _ (jE ms 256).1 _ λi b=>?_,⟨rv,?_,λi b=>(t i (by rw[s2];exact b)).1.row _ ?_ _ λk u=>?_⟩,a.ends.row _ q _ λi b=>rfl,?_,a.HH⟩
 ·have:=r _ (zY _ i 0 (by omega))
  show _=(((zZ (zB ms 256).1 ms ms.length).starts.getD i 0).toNat:Int);omega
 ·have:=f i b
  show _=((acts.getD i 0).toNat:Int);omega
 ·have v:i<acts.length:=b
  have:=j i (by omega);show _=((pushed.getD i 0).toNat:Int);omega
 ·have:=zC7 ms 256 i b
  show _=(((zB ms 256).1.getD i 0).toNat:Int);omega
 ·have a:=s
  rw[s2] at a;exact a
 ·exact(e _ (zY _ i [] (by rw[s2];exact b))).1
 ·have v:i<zN ms ms.length:=b
  have x:=e _ (zY _ i [] (by omega));have z:k<(zB ms 256).2:=u;have A:=x.2 _ (zY _ k 0 (by omega));show _=((((zZ (zB ms 256).1 ms ms.length).next.getD i []).getD k 0).toNat:Int);omega
 ·rw[o]
  exact ownsRow_nil _ _ _ _
def zAm (ms:List Sm)(acts pushed:List Int)(hold n:Nat):Tb:=(((zS ms acts pushed hold).first.itr n)).looking 0
theorem ModesOk.fit {ms:List Sm}(c:ModesOk ms)(i:Nat)(a:i<ms.length):ms[i].Fit/\ms[i].next.length<=200:=by
 have f:=vI ms (i+1) ms.length a;have m:=c.states;have e:ms.getD i ⟨[],[],0,[]⟩=ms[i]:=by rw[lW,lV a];rfl
 rw[zN,e] at f;have g:=zB2 ms (i+1) ms.length a;have o:=c.rules8;rw[zU,e] at g;have k:=c.start i a;refine⟨⟨λj d=>?_,λj d=>?_,k.1,by omega⟩,by omega⟩
 ·obtain⟨w1,w2⟩:=c.wide i a _ (zY ms[i].next j [] d)
  exact⟨w1,λb l=>by have:=w2 b l;omega⟩
 ·have:=(c.rules i a).2 _ (zY ms[i].rules j 0 d)
  omega
def Made (w w':World)(e:Ending)(ms:List Sm)(acts pushed:List Int)(hold:Nat):Prop:=
 ∃p H c n,e=returned (pointer (some ⟨p,0,none⟩))/\w.heap.size<=p/\w.heap.size<=H/\Mem w' H p c (zAm ms acts pushed hold n)/\(((zS ms acts pushed hold).first.itr n).spreadTo (zN ms ms.length)).2=false/\Grew w w'
theorem zQC (w0 w:World)(p:Nat)(c:Tc)(ms:List Sm)(acts pushed:List Int)(hold:Nat)(hG:Gt w w0.heap.size p c (zB ms 256).1 acts pushed (zZ (zB ms 256).1 ms ms.length).starts (zZ (zB ms 256).1 ms ms.length).ends (zZ (zB ms 256).1 ms ms.length).next)(hok:ModesOk ms)(hp0:w0.heap.size<=p)
  (hal:acts.length=zU ms ms.length) (ha:∀i,i<acts.length->0<=acts.getD i 0) (hpl:pushed.length=acts.length) (hp:∀i,i<pushed.length->0<=pushed.getD i 0)
  (c0:c.stream=bool false) (c1:c.ahead=iX (0:Nat)) (c2:c.hold=iX (hold:Nat)) (c7:c.count=iX ((zB ms 256).2:Nat)) (c10:c.live=slice none 0 0) (c11:c.rows=iX (0:Nat)) (c12:c.longer=slice none 0 0) (hK:Keep w0.heap.size p w0 w)
  {u0 u1 u2 u3 u4 u5 u6 u7 u8 u9 u10 u12 u13 u14 u15 u16 u17 u18 u19 u20 u21 u22 u23 u24 u25 u26 u27 u28 u29 u30 u31 u32 u33 u34 u35 u36 u37 u38 u39 u40 u41 u42 u43 u44 u45 u46 u47 u48 u49 u50 u51 u52 u53 u54 u55 u56 u57 u58 u59 u60 u61 u62 u63 u64:Value}:
  Code.wp prog (xO 7 ((f45.body).getD .skip)) (bodyPost prog f45 λe w'=>Made w0 w' e ms acts pushed hold)
   ⟨(u0::u1::u2::u3::u4::u5::u6::u7::u8::u9::u10::pX p::u12::u13::u14::u15::u16::u17::u18::u19::u20::u21::u22::u23::u24::u25::u26::u27::u28::u29::u30::u31::u32::u33::u34::u35::u36::u37::u38::u39::u40::u41::u42::u43::u44::u45::u46::u47::u48::u49::u50::u51::u52::u53::u54::u55::u56::u57::u58::u59::u60::u61::u62::u63::u64::[]).toArray,[]⟩ w:=by
 conv=>arg 2;whnf
 have hokN:=zDx ms acts pushed hold hok hal;have hn1:1<=(zS ms acts pushed hold).nst:=by
  have h1:=vI ms 1 ms.length hok.one;have h2:=hok.states1 0 hok.one;have e:ms.getD 0 ⟨[],[],0,[]⟩=ms[0]'hok.one:=by rw[lW,lV hok.one];rfl
  have h3:zN ms 1=0+(ms.getD 0 ⟨[],[],0,[]⟩).next.length:=rfl
  rw[e] at h3;show 1<=zN ms ms.length;omega
 have hc1:1<=(zS ms acts pushed hold).count:=zDD ms 256 (by decide);have HF:Hid (Ca 65 #[pX p] w λe w'=>e=returned (tuple #[])/\∃v n,Mem w' w0.heap.size p {c with live:=v} ((zS ms acts pushed hold).first.itr n)/\(((zS ms acts pushed hold).first.itr n).spreadTo (zS ms acts pushed hold).nst).2=false/\Keep w0.heap.size p w w'):=
  zCI w w0.heap.size p c (zS ms acts pushed hold) (hG.memB hok ha hpl hp c0 c1 c2 c7 c11 c12) c10 hokN hn1 hc1
 have HKP:Hid (Keep w0.heap.size p w0 w):=hK;have HOK:Hid ((zS ms acts pushed hold).OkN):=hokN;clear hG hok hal ha hpl hp c0 c1 c2 c7 c10 c11 c12 hK hokN;go_wp2_with fail;refine HF.mono ?_;rintro e w1 ⟨rfl,v,n,hM1,hsp,hk1⟩;have A1:Hid (Mem w1 w0.heap.size p {c with live:=v} ((zS ms acts pushed hold).first.itr n)/\(((zS ms acts pushed hold).first.itr n).spreadTo (zS ms acts pushed hold).nst).2=false/\Keep w0.heap.size p w0 w1):=⟨hM1,hsp,HKP.trans hk1⟩
 clear hM1 hsp hk1 HF;have HS:Hid (Ca 66 #[pX p,iX (0:Nat)] w1 λe w'=>e=returned (tuple #[])/\∃c',Mem w' w0.heap.size p c' (((zS ms acts pushed hold).first.itr n).looking 0)/\Keep w0.heap.size p w1 w'):=
  (zCv w1 w0.heap.size p _ _ A1.1 (zLh (t:=(zS ms acts pushed hold).first) (HOK.withLive _) n) (by rw[zIo];exact hn1) (by rw[vF];exact hc1) 0 (by decide) (by rw[zCp];decide)).mono (by
   rintro e w' ⟨h1,c',h2,h3⟩;exact⟨h1,c',h2,⟨h3.os,h3.output,h3.size,λk k1 k2=>h3.block k (lZ k1 A1.1.HH) k2⟩⟩)
 go_wp2_with fail;refine HS.mono ?_;rintro e w2 ⟨rfl,c',hM2,hk2⟩;have A2:Hid (Mem w2 w0.heap.size p c' (((zS ms acts pushed hold).first.itr n).looking 0)/\Keep w0.heap.size p w0 w2):=⟨hM2,A1.2.2.trans hk2⟩
 clear hM2 hk2 HS;go_wp2_with fail;go_ret;exact⟨p,w0.heap.size,c',n,rfl,hp0,lQ,A2.1,A1.2.1,A2.2.lower lQ hp0⟩
theorem zQD (d w:World)(S:Nat->Prop)(p:Nat)(c:Tc)(ms:List Sm)(acts pushed:List Int)(hold:Nat)(K:Value)(aw:ModesAt d S K ms)(y:∀k,S k->k<d.heap.size)(L:Gt w d.heap.size p c (zB ms 256).1 acts pushed [] [] [])(C:ModesOk ms)(ax:d.heap.size<=p)
  (M:acts.length=zU ms ms.length) (N:∀i,i<acts.length->0<=acts.getD i 0) (O:pushed.length=acts.length) (P:∀i,i<pushed.length->0<=pushed.getD i 0)
  (c0:c.stream=bool false) (c1:c.ahead=iX (0:Nat)) (c2:c.hold=iX (hold:Nat)) (Q:c.count=iX ((zB ms 256).2:Nat)) (R:c.live=slice none 0 0) (T:c.rows=iX (0:Nat)) (U:c.longer=slice none 0 0) (V:Keep d.heap.size p d w)
  {u1 u2 u3 u4 u5 u6 u7 u8 u9 u10 u12 u13 u14 u15 u16 u17 u18 u19 u20 u21 u22 u23 u24 u25 u26 u27 u28 u29 u30 u31 u32 u33 u34 u35 u36 u37 u38 u39 u40 u41 u42 u43 u44 u45 u46 u47 u48 u49 u50 u51 u52 u53 u54 u55 u56 u57 u58 u59 u60 u61 u62 u63 u64:Value}:
  Code.wp prog (xO 5 ((f45.body).getD .skip)) (bodyPost prog f45 λe w'=>Made d w' e ms acts pushed hold)
   ⟨(K::u1::u2::u3::u4::u5::u6::u7::u8::u9::u10::pX p::u12::u13::u14::u15::u16::u17::u18::u19::u20::u21::u22::u23::u24::u25::u26::u27::u28::u29::u30::u31::u32::u33::u34::u35::u36::u37::u38::u39::u40::u41::u42::u43::u44::u45::u46::u47::u48::u49::u50::u51::u52::u53::u54::u55::u56::u57::u58::u59::u60::u61::u62::u63::u64::[]).toArray,[]⟩ w:=by
 conv=>arg 2;whnf
 obtain⟨ay,aZ,rfl,a2,a4,W⟩:=aw;have az:Hid (∀i (a5:i<ms.length),∃b o u0 u1 u3,ay=some ⟨b,o,none⟩/\S b/\d.cell? ⟨b,o+i*4,none⟩=some u0/\d.cell? ⟨b,o+i*4+1,none⟩=some u1/\d.cell? ⟨b,o+i*4+2,none⟩=some (iX ms[i].start)/\d.cell? ⟨b,o+i*4+3,none⟩=some u3/\IntRows d S u0 ms[i].next/\Ints d S u1 ms[i].rules/\Bools d S u3 ms[i].empty):=W;have E:Hid (Gt w d.heap.size p c (zB ms 256).1 acts pushed [] [] []/\Keep d.heap.size p d w):=⟨L,V⟩
 have aA:Hid (∀(f:Tc) (w':World),Gt w' d.heap.size p f (zB ms 256).1 acts pushed (zZ (zB ms 256).1 ms ms.length).starts (zZ (zB ms 256).1 ms ms.length).ends (zZ (zB ms 256).1 ms ms.length).next->Keep d.heap.size p d w'->f={c with starts:=f.starts,next:=f.next,ends:=f.ends}->∀{u0 u1 u2 u3 u4 u5 u6 u7 u8 u9 u10 u12 u13 u14 u15 u16 u17 u18 u19 u20 u21 u22 u23 u24 u25 u26 u27 u28 u29 u30 u31 u32 u33 u34 u35 u36 u37 u38 u39 u40 u41 u42 u43 u44 u45 u46 u47 u48 u49 u50 u51 u52 u53 u54 u55 u56 u57 u58 u59 u60 u61 u62 u63 u64:Value},Code.wp prog (xO 7 ((f45.body).getD .skip)) (bodyPost prog f45 λe w'=>Made d w' e ms acts pushed hold) ⟨(u0::u1::u2::u3::u4::u5::u6::u7::u8::u9::u10::pX p::u12::u13::u14::u15::u16::u17::u18::u19::u20::u21::u22::u23::u24::u25::u26::u27::u28::u29::u30::u31::u32::u33::u34::u35::u36::u37::u38::u39::u40::u41::u42::u43::u44::u45::u46::u47::u48::u49::u50::u51::u52::u53::u54::u55::u56::u57::u58::u59::u60::u61::u62::u63::u64::[]).toArray,[]⟩ w'):=by
  intro f w' aB D m;intros
  exact zQC d w' p f ms acts pushed hold aB C ax M N O P (by rw[m];exact c0) (by rw[m];exact c1) (by rw[m];exact c2) (by rw[m];exact Q) (by rw[m];exact R) (by rw[m];exact T) (by rw[m];exact U) D
 have t:Hid (ModesOk ms):=C;have a6:=C.three;clear W L V C M N O P c0 c1 c2 Q R T U;refine wp_seq_k ?_;intro aC hK0;have X:Hid (∀a w,_->aC a w):=hK0;clear hK0;go_wp2_with fail;apply X.out;clear X;refine wp_seq_k ?_;intro aD hK1;have aE:Hid (∀a w,_->aD a w):=hK1;clear hK1;go_wp2_with fail;go_loopg [12,45] ms.length (λq aF i wr=>∃(j:Nat) (l:Tc),q=ms.length-j/\j<=ms.length/\i=iX (j:Int)/\aF=iX ((zU ms j:Nat):Int)/\Gt wr d.heap.size p l (zB ms 256).1 acts pushed (zZ (zB ms 256).1 ms j).starts (zZ (zB ms 256).1 ms j).ends (zZ (zB ms 256).1 ms j).next/\Turn d.heap.size p w c wr l)
 case atStart=>exact⟨0,c,rfl,lX,rfl,rfl,E.1,Turn.refl _ _ _ _⟩
 case round=>
  obtain⟨j,l,F,Y,rfl,rfl,g,u⟩:=hrel;have aa:Hid (gk=ms.length-j/\Gt wr d.heap.size p l (zB ms 256).1 acts pushed (zZ (zB ms 256).1 ms j).starts (zZ (zB ms 256).1 ms j).ends (zZ (zB ms 256).1 ms j).next/\Turn d.heap.size p w c wr l):=⟨F,g,u⟩
  have aG:zU ms j<=8:=lY (zB2 ms j ms.length Y) t.rules8;by_cases v:j<ms.length
  ·have aH:(j:Int)<(ms.length:Int):=by omega
   obtain⟨r,o,v0,v1,aI,rfl,aJ,ab,ac,ad,ae,af,ag,aK⟩:=az j v;have kb:∀x,S x->wr.heap[x]? =d.heap[x]? :=λx z=>by
    have:=y x z;exact(u.keep.block x this (by omega)).trans (E.2.block x this (by omega))
   have A:∀i,wr.cell? ⟨r,i,none⟩=d.cell? ⟨r,i,none⟩:=λi=>gZ (kb r aJ);have aL:wr.cell? ⟨r,o+j*4,none⟩=some v0:=(A _).trans ab;have aM:wr.cell? ⟨r,o+j*4+1,none⟩=some v1:=(A _).trans ac;have aN:wr.cell? ⟨r,o+j*4+2,none⟩=some (iX ms[j].start):=(A _).trans ad;have aO:wr.cell? ⟨r,o+j*4+3,none⟩=some aI:=(A _).trans ae;obtain⟨s1,s2,ah,ai⟩:=zBd (zB ms 256).1 ms t j Y;have aj:=vI ms (j+1) ms.length v;have aP:=t.states;have B:ms.getD j ⟨[],[],0,[]⟩=ms[j]:=by rw[lW,lV v];rfl
   have ak:zN ms j+ms[j].next.length<=200:=by
    rw[zN,B] at aj;omega
   have al:=(t.rules j v).1;have a7:zU ms j+ms[j].empty.length<=8:=by
    have G:=zB2 ms (j+1) ms.length v;have am:=t.rules8;rw[zU,B] at G;omega
   have an:Hid (∀s,Grew wr s->Ca 64 #[pX p,agg #[v0,v1,iX ms[j].start],iX ((zU ms j:Nat):Int)] s λe w'=>e=returned (tuple #[])/\∃f,Gt w' d.heap.size p f (zB ms 256).1 acts pushed (zZ (zB ms 256).1 ms (j+1)).starts (zZ (zB ms 256).1 ms (j+1)).ends (zZ (zB ms 256).1 ms (j+1)).next/\Turn d.heap.size p wr l w' f/\∀k,wr.heap.size<=k->k<s.heap.size->w'.heap[k]? =s.heap[k]?):=by
    intro s H;have ao:∀x,S x->s.heap[x]? =d.heap[x]? :=λx z=>(H.block x (lZ (y x z) g.HH) (by have:=y x z;have:=g.HH;omega)).trans (kb x z);have aQ:=zG9 s d.heap.size p l (zB ms 256).1 acts pushed _ _ _ (g.grown H) ms[j] v0 v1 S (af.keep ao) (ag.keep ao) (λk D=>⟨y k D,by have:=y k D;omega⟩) (zU ms j) (t.fit j v).1 aG (jE ms 256).1 (by rw[s2];exact ak) (by rw[ah,al];exact ak) (by rw[s1];omega);refine aQ.mono ?_;rintro e w' ⟨aR,f,aS,ap⟩;refine⟨aR,f,?_,(Turn.grown H g.HH).trans ap,λk G am=>(ap.rest k (lY g.HH G) ⟨am,λe=>by have:=g.tp.lt;omega,λe=>by have:=(g.starts.lt k e.symm).2;omega,λe=>?_,λe=>by have:=(g.ends.lt k e.symm).2;omega⟩).1⟩
    ·rw[zZ,B,ai]
     exact aS
    ·obtain⟨_,aT,_⟩:=g.next
     have:=(aT.lt k e.symm).2;omega
   have aU:Hid (zU ms (j+1)=zU ms j+ms[j].empty.length):=by show _=_;rw[zU,B]
   have a8:d.heap.size<=wr.heap.size:=g.HH;obtain⟨a9,ba,aV,_⟩:=af;obtain⟨bc,bd,aW,_⟩:=ag;obtain⟨aX,q3,aY,_⟩:=aK;subst aV aW aY;clear F g u kb A ab ac ad ae s1 s2 ah ai aj aP B al;generalize ms[j].next.length=be at *
   generalize ms[j].rules.length=bf at *;generalize ms[j].empty.length=le at *;generalize ms[j].start=bg at *;generalize zU ms j=bh at *;go_wp2_with fail;refine(an _ (kZ _ _ lQ)).mono ?_;rintro e w2 ⟨rfl,f,aq,ar,au⟩;have bi:w2.cell? ⟨wr.heap.size,3,none⟩=some (slice aX le q3):=by
    rw[World.cell?_of_block (au wr.heap.size lQ (by simp))];unfold cell?;rw[gX wr _];rfl
   have av:Hid (Gt w2 d.heap.size p f (zB ms 256).1 acts pushed (zZ (zB ms 256).1 ms (j+1)).starts (zZ (zB ms 256).1 ms (j+1)).ends (zZ (zB ms 256).1 ms (j+1)).next/\Turn d.heap.size p w c w2 f):=⟨aq,aa.2.2.trans ar⟩
   clear aq ar au an aL aM aN aO;go_wp2_with fail;go_roundg (ms.length-(j+1))
   case measure=>rw[aa.out.1];omega
   case rel=>exact⟨j+1,f,rfl,by omega,by go_num,by rw[aU.out];go_num,av.1,av.2⟩
  ·have I:j=ms.length:=by omega
   have aH:(ms.length:Int)<=(j:Int):=by omega
   have J:Hid (Gt wr d.heap.size p l (zB ms 256).1 acts pushed (zZ (zB ms 256).1 ms ms.length).starts (zZ (zB ms 256).1 ms ms.length).ends (zZ (zB ms 256).1 ms ms.length).next/\Keep d.heap.size p d wr/\l={c with starts:=l.starts,next:=l.next,ends:=l.ends}):=by
    rw[<-I];refine⟨?_,E.2.trans u.keep,u.same⟩;rw[I] at g ⊢;exact g
   clear F g u I;go_wp2_with fail;apply aE.out;exact aA l wr J.1 J.2.1 J.2.2
theorem zK9 (w:World)(S:Nat->Prop)(G V W:Value)(ms:List Sm)(acts pushed:List Int)(hold:Nat)(X:ModesAt w S G ms)(Y:Ints w S V acts)(aa:Ints w S W pushed)(O:∀k,S k->k<w.heap.size)(o:ModesOk ms)(A:acts.length=zU ms ms.length)(ab:pushed.length=acts.length)(aR:∀i,i<acts.length->0<=acts.getD i 0)(aS:∀i,i<pushed.length->0<=pushed.getD i 0):
  Calls prog 45 #[G,V,W,iX hold] w λe w'=>Made w w' e ms acts pushed hold:=by
 have aT:Hid (ModesAt w S G ms/\Ints w S V acts/\Ints w S W pushed):=⟨X,Y,aa⟩
 have an:Wide ms:=λm ac row aU=>by
  obtain⟨i,B,rfl⟩:=List.getElem_of_mem ac;exact(o.wide i B row aU).1
 have ao:∀m∈ms,m.next.length<=200:=λm ac=>by
  obtain⟨i,B,rfl⟩:=List.getElem_of_mem ac;have aV:=vI ms (i+1) ms.length B;have bj:=o.states;have e:ms.getD i ⟨[],[],0,[]⟩=ms[i]:=by rw[lW,lV B];rfl
  rw[zN,e] at aV;omega
 have ap:=zG0 w S G ms X O an o.three ao;have H:Hid (Ca 63 #[G] w λe w'=>∃u,e=returned (tuple #[u,iX ((zB ms 256).2:Nat)])/\OwnI w' w.heap.size u (zB ms 256).1/\Grew w w'):=ap;obtain⟨bk,bl,rfl,_⟩:=X;obtain⟨I,ad,aW,rfl,aX,_,_,aq⟩:=Y.block (by rw[A];exact o.rules1);obtain⟨J,ae,aY,rfl,aZ,_,_,ar⟩:=aa.block (by rw[ab,A];exact o.rules1);have bm:acts.length<=8:=by rw[A];exact o.rules8
 have bn:1<=acts.length:=by rw[A];exact o.rules1
 have bo:pushed.length<=8:=by omega
 have bq:1<=pushed.length:=by omega
 obtain⟨aw,ax,ay,az,aA⟩:=info_parts yF;have a0:Hid (∀j u,(acts.map λx=>iX x)[j]? =some u->w.cell? ((⟨I,ad,none⟩:Addr).add j)=some u):=by
  intro j u b;rw[gQ] at b;obtain⟨x,K,rfl⟩:=Option.map_eq_some_iff.1 b;have af:=(List.getElem?_eq_some_iff.1 K).1;rw[Addr.add_lit,aq j af,lW,K];rfl
 have a1:Hid (∀j u,(pushed.map λx=>iX x)[j]? =some u->w.cell? ((⟨J,ae,none⟩:Addr).add j)=some u):=by
  intro j u b;rw[gQ] at b;obtain⟨x,K,rfl⟩:=Option.map_eq_some_iff.1 b;have af:=(List.getElem?_eq_some_iff.1 K).1;rw[Addr.add_lit,ar j af,lW,K];rfl
 have a2:=O I aX;have a3:=O J aZ;clear aq ar;have aB:Hid (acts.length=zU ms ms.length/\pushed.length=acts.length):=⟨A,ab⟩
 have a4:Hid (ModesOk ms):=o;clear ap A ab Y aa o an ao;go_enter func45,ntmps45
 refine wp_seq_k ?_;intro a5 hK0;have aC:Hid (∀a w,_->a5 a w):=hK0;clear hK0;go_wp2_with fail;apply aC.out;clear aC;refine wp_seq_k ?_;intro a6 hK1;have aD:Hid (∀a w,_->a6 a w):=hK1;clear hK1;go_wp2_with fail;refine H.mono ?_;rintro e w1 ⟨u,rfl,ag,aE⟩;obtain⟨r,s,b⟩:=ag.form;subst b;have P:Hid (OwnI w1 w.heap.size (slice r (zB ms 256).1.length s) (zB ms 256).1/\Grew w w1):=⟨ag,aE⟩
 clear ag aE H;go_wp2_with fail;apply aD.out;clear aD;refine wp_seq_k ?_;intro a7 hK2;have H:Hid (∀a w,_->a7 a w):=hK2;clear hK2;go_wp2_with fail;apply H.out;clear H;obtain⟨w2,ah,z⟩:∃w2,w2=w1.alloc (.cells #[bool false,iX 0,iX hold,slice none 0 0,slice none 0 0,slice none 0 0,slice r (zB ms 256).1.length s,iX ((zB ms 256).2:Nat),slice none 0 0,slice none 0 0,slice none 0 0,iX 0,slice none 0 0] 90)/\
   Hid (zV w2 w1.heap.size ⟨bool false,iX 0,iX hold,slice none 0 0,slice none 0 0,slice none 0 0,slice r (zB ms 256).1.length s,iX ((zB ms 256).2:Nat),slice none 0 0,slice none 0 0,slice none 0 0,iX 0,slice none 0 0⟩/\OwnI w2 w.heap.size (slice r (zB ms 256).1.length s) (zB ms 256).1/\Keep w.heap.size w1.heap.size w w2):=
  ⟨_,rfl,gX w1 _,zK P.1 (kZ _ _ lQ),P.2.lower lQ lQ |>.trans (kZ _ _ P.2.size)⟩
 rw[<-ah];have aF:w1.heap.size<w2.heap.size:=by rw[ah];simp
 have a8:=P.2.size;clear ah;refine wp_seq_k ?_;intro a9 hK3;have aG:Hid (∀a w,_->a9 a w):=hK3;clear hK3;have aH:=z.1.get_acts;have aI:=z.1.fz 4;have bb:w.heap.size<=w2.heap.size:=by omega
 have aJ:Hid (∀j u,(acts.map λx=>iX x)[j]? =some u->w2.cell? ((⟨I,ad,none⟩:Addr).add j)=some u):=λj u b=>by
  have f:=a0 j u b;rw[Addr.add_lit] at f ⊢;exact(gZ (z.2.2.block I a2 (by omega))).trans f
 go_wp2_with (first|(at_builtin;refine wpList_append_lies _ rfl _ _ 45 rfl w.heap.size 3 aw (iX 0) 1 8 underlying45 ax ay az aA rfl (by decide) (slice none 0 0) 0 [] rfl (ownsRow_nil _ _ _ _) ⟨I,ad,none⟩ acts.length aW (acts.map λx=>iX x) rfl (by simp) aJ (by intro u b;obtain⟨x,_,rfl⟩:=List.mem_map.1 b;rfl) (by omega) (by unfold maxLen;omega) (by omega) bb w2.heap.size rfl ?_;intro C D L M c ai br;have p:=c.block w1.heap.size aF (by simp[Value.ownBlock]);have bc:cX L w1.heap.size 4=some (slice none 0 0):=(gZ p).trans aH;have bd:L.frozen? ⟨w1.heap.size,4,none⟩=false:=(gY p).trans aI))
 obtain⟨d,aj,t⟩:∃d,d=L.setCell ⟨w1.heap.size,4,none⟩ (slice (qX C) acts.length D)/\
   Hid (zV d w1.heap.size ⟨bool false,iX 0,iX hold,slice none 0 0,slice (qX C) acts.length D,slice none 0 0,slice r (zB ms 256).1.length s,iX ((zB ms 256).2:Nat),slice none 0 0,slice none 0 0,slice none 0 0,iX 0,slice none 0 0⟩/\OwnI d w.heap.size (slice r (zB ms 256).1.length s) (zB ms 256).1/\OwnI d w.heap.size (slice (qX C) acts.length D) acts/\Keep w.heap.size w1.heap.size w d):=by
  have ak:=z.1.of_block p;have Q:OwnI L w.heap.size (slice (qX C) acts.length D) acts:=by
   have f:=M;rw[Nat.zero_add,List.nil_append] at f;exact f
  have aK:Grew w2 L:=⟨c.os,c.output,c.size,λk q _=>c.block k q (by simp[Value.ownBlock])⟩
  have R:=zK z.2.1 aK;refine⟨_,rfl,ak.set_acts _,zD R λk _ _ q=>lJ _ _ _ _ (λe=>jQ ak R (by decide) (by rw[q];exact congrArg some e.symm)),zD Q λk _ _ q=>lJ _ _ _ _ (λe=>jQ ak Q (by decide) (by rw[q];exact congrArg some e.symm)),(z.2.2.trans (aK.lower (by omega) (by omega))).trans (Keep.set _ _ _)⟩
 rw[<-aj];have be:w1.heap.size<d.heap.size:=by rw[aj,zC];exact lZ aF c.size
 clear aj M c ai p bc bd aH aI z aJ;apply aG.out;clear aG;refine wp_seq_k ?_;intro bf hK4;have aL:Hid (∀a w,_->bf a w):=hK4;clear hK4;have y5:=t.1.get_pushed;have aM:=t.1.fz 5;have aN:w.heap.size<=d.heap.size:=by omega
 have aO:Hid (∀j u,(pushed.map λx=>iX x)[j]? =some u->d.cell? ((⟨J,ae,none⟩:Addr).add j)=some u):=λj u b=>by
  have f:=a1 j u b;rw[Addr.add_lit] at f ⊢;exact(gZ (t.2.2.2.block J a3 (by omega))).trans f
 go_wp2_with (first|(at_builtin;refine wpList_append_lies _ rfl _ _ 45 rfl w.heap.size 3 aw (iX 0) 1 8 underlying45 ax ay az aA rfl (by decide) (slice none 0 0) 0 [] rfl (ownsRow_nil _ _ _ _) ⟨J,ae,none⟩ pushed.length aY (pushed.map λx=>iX x) rfl (by simp) aO (by intro u b;obtain⟨x,_,rfl⟩:=List.mem_map.1 b;rfl) (by omega) (by unfold maxLen;omega) (by omega) aN d.heap.size rfl ?_;intro E F y M c ai bs;have p:=c.block w1.heap.size be (by simp[Value.ownBlock]);have bg:cX y w1.heap.size 5=some (slice none 0 0):=(gZ p).trans y5;have bh:y.frozen? ⟨w1.heap.size,5,none⟩=false:=(gY p).trans aM))
 obtain⟨N,aP,aQ⟩:∃N,N=y.setCell ⟨w1.heap.size,5,none⟩ (slice (qX E) pushed.length F)/\
   Hid (Gt N w.heap.size w1.heap.size ⟨bool false,iX 0,iX hold,slice none 0 0,slice (qX C) acts.length D,slice (qX E) pushed.length F,slice r (zB ms 256).1.length s,iX ((zB ms 256).2:Nat),slice none 0 0,slice none 0 0,slice none 0 0,iX 0,slice none 0 0⟩ (zB ms 256).1 acts pushed [] [] []/\Keep w.heap.size w1.heap.size w N):=by
  have al:=t.1.of_block p;have bi:OwnI y w.heap.size (slice (qX E) pushed.length F) pushed:=by
   have f:=M;rw[Nat.zero_add,List.nil_append] at f;exact f
  have am:Grew d y:=⟨c.os,c.output,c.size,λk q _=>c.block k q (by simp[Value.ownBlock])⟩
  have R:=zK t.2.1 am;have Q:=zK t.2.2.1 am;have fin:∀{v l},OwnI y w.heap.size v l->Fin (y.setCell ⟨w1.heap.size,5,none⟩ (slice (qX E) pushed.length F)) (Rest (y.setCell ⟨w1.heap.size,5,none⟩ (slice (qX E) pushed.length F)) w1.heap.size ⟨bool false,iX 0,iX hold,slice none 0 0,slice (qX C) acts.length D,slice (qX E) pushed.length F,slice r (zB ms 256).1.length s,iX ((zB ms 256).2:Nat),slice none 0 0,slice none 0 0,slice none 0 0,iX 0,slice none 0 0⟩) w.heap.size v l:=λT=>
   ⟨zD T λk _ _ q=>lJ _ _ _ _ (λe=>jQ al T (by decide) (by rw[q];exact congrArg some e.symm)),λg U=>⟨by rw[zC];exact(World.ownsRow.lt T g U).2,λe=>jQ al T (by decide) (by rw[U,e]),by simp[Value.ownBlock],by simp[Value.ownBlock],by simp[Value.ownBlock]⟩⟩
  refine⟨_,rfl,⟨al.set_pushed _,OwnI.nil _ _,OwnI.nil _ _,⟨λ_=>slice none 0 0,ownsRow_nil _ _ _ _,λi B=>by simp at B⟩,fin R,fin Q,fin bi,by rw[zC];exact lY aN c.size,λg U=>by simp[Value.ownBlock] at U⟩,(t.2.2.2.trans (am.lower (by omega) (by omega))).trans (Keep.set _ _ _)⟩
 rw[<-aP];clear aP M c ai p bg bh y5 aM t aO;apply aL.out;clear aL;exact zQD w N S w1.heap.size _ ms acts pushed hold _ aT.1 O aQ.1 a4 a8 aB.1 aR aB.2 aS rfl rfl rfl rfl rfl rfl rfl aQ.2
def In (w:World)(k:Nat):Prop:=k<w.heap.size
theorem Ints.grown {w w':World}{v:Value}{l:List Int}(d:Ints w (In w) v l)(c:Grew w w'):Ints w' (In w') v l:=
 (d.keep λb a=>c.block b a (kJ a)).mono λ_ a=>lZ a c.size
theorem Bools.grown {w w':World}{v:Value}{l:List Bool}(d:Bools w (In w) v l)(c:Grew w w'):Bools w' (In w') v l:=
 (d.keep λb a=>c.block b a (kJ a)).mono λ_ a=>lZ a c.size
theorem IntRows.grown {w w':World}{v:Value}{l:List (List Int)}(d:IntRows w (In w) v l)(c:Grew w w'):IntRows w' (In w') v l:=
 (d.keep λb a=>c.block b a (kJ a)).mono λ_ a=>lZ a c.size
theorem BoolsAt.grown {w w':World}{v:Value}{n:Nat}{f:Nat->Bool}(d:BoolsAt w (In w) v n f)(c:Grew w w'):BoolsAt w' (In w') v n f:=by
 obtain⟨b,o,cap,a,r⟩:=d.keep λb a=>c.block b a (kJ a);exact⟨b,o,cap,lZ a c.size,r⟩
theorem OwnF.at {w:World}{H n:Nat}{v:Value}{f:Nat->Bool}(a:OwnF w H v n f)(b:0<n):BoolsAt w (In w) v n f:=by
 obtain⟨g,cap,c,m,d,e,j,k,_⟩:=Row.get a b;exact⟨g,0,cap,d,c,e,j,λi l=>by rw[Nat.zero_add];exact k i l⟩
theorem zA {w w':World}{b i:Nat}{x:Value}(a:w.cell? ⟨b,i,none⟩=some x)(c:b<w.heap.size)(d:Grew w w'):w'.cell? ⟨b,i,none⟩=some x:=(gZ (d.block b c (by omega))).trans a
structure TblAt (w:World)(nv rv:Value)(m:Sm):Prop where
 next:IntRows w (In w) nv m.next
 rules:Ints w (In w) rv m.rules
theorem TblAt.grown {w w':World}{a rv:Value}{m:Sm}(b:TblAt w a rv m)(c:Grew w w'):TblAt w' a rv m:=⟨b.next.grown c,b.rules.grown c⟩
structure Sm.Tbl (m:Sm):Prop where
 one:1<=m.next.length
 most:m.next.length<=200
 rules:m.rules.length=m.next.length
 rows:∀i,i<m.next.length->(m.next.getD i []).length=256
 to:∀i b,i<m.next.length->b<256->0<=(m.next.getD i []).getD b 0/\(m.next.getD i []).getD b 0<m.next.length
def zDd (m:Sm)(s:Nat):Bool:=m.rules.getD s 0 != -1
def zCB (s:Nat):Bool:=(s:Int) != 0
def zCA (one:Nat)(s:Nat):Bool:=(s:Int)==(one:Int)
def vX (a b:Nat->Bool)(s:Nat):Bool:=a s&& !b s
theorem zDQ (w:World)(g rv:Value)(m:Sm)(c:TblAt w g rv m)(h:m.Tbl):
  Calls prog 140 #[agg #[g,rv,iX m.start]] w λe w'=>∃u,e=returned u/\OwnF w' w.heap.size u (m.rules.length) (zDd m)/\Grew w w':=by
 obtain⟨r,s,t,v,y⟩:=info_parts vO;have S:=vl c;obtain⟨T,U,rfl,V,W,X⟩:=c.next
 obtain⟨Y,aa,rfl,ab,ac,z⟩:=c.rules;have A:=vl z;have B:=vl h.rules;have ad:m.rules.length<=200:=by rw[B.out];exact h.most
 go_in;go_wp2;go_loopg [3,9] (m.rules.length) (λq C i wr=>∃j:Nat,q=m.rules.length-j/\j<=m.rules.length/\i=iX (j:Int)/\OwnF wr w.heap.size C j (zDd m)/\Grew w wr)
 case atStart=>exact⟨0,rfl,lX,rfl,OwnF.nil _ _ _,kZ _ _ lQ⟩
 case round=>
  obtain⟨j,D,ae,rfl,a,d⟩:=hrel;have f:Hid (gk=m.rules.length-j/\Grew w wr):=⟨D,d⟩
  obtain⟨ao,cap,E⟩:=a.form;subst E;have F:=d.size;have k:=vl a;by_cases G:j<m.rules.length
  ·have H:(j:Int)<((m.rules.length:Nat):Int):=by omega
   obtain⟨b,o,rfl,I,J⟩:=A j G;have af:=zA J I d;have K:Hid (zDd m j=(m.rules.getD j 0 != -1)):=rfl;generalize m.rules.getD j 0=x at *;go_wp2_with (first|(at_builtin;refine wpList_append_lies _ rfl _ _ 28 rfl (w.heap.size) 4 r (bool false) 1 1 underlying28 s t v y rfl (by decide) _ _ _ rfl (k.alloc _) ⟨wr.heap.size,0,none⟩ 1 1 [bool (x != -1)] rfl rfl (cell_one_new _ _ _) (by intro u l;simp at l;subst l;rfl) (by decide) (by unfold maxLen;omega) (by omega) (by simp;omega) _ rfl ?_;intro L M w2 N O ag ah;have P:=xF k O F))
   have p:Hid (OwnF w2 w.heap.size (slice (qX L) (j+1) M) (j+1) (zDd m)/\Grew w w2):=⟨OwnF.snoc N K,f.2.trans (xD P)⟩
   go_wp2;go_roundg (m.rules.length-(j+1))
   case measure=>rw[f.out.1];omega
   case rel=>exact⟨j+1,rfl,by omega,by go_num,p.1,p.2⟩
  ·have Q:j=m.rules.length:=by omega
   have H:((m.rules.length:Nat):Int)<=(j:Int):=by omega
   have R:Hid (OwnF wr w.heap.size (slice ao j cap) (m.rules.length) (zDd m)):=by rw[Q] at a ⊢;exact a
   go_wp2;go_ret;exact⟨_,rfl,R,f.2⟩
theorem zIi (w:World)(d rv:Value)(m:Sm)(b:TblAt w d rv m)(l:m.Tbl):
  Calls prog 144 #[agg #[d,rv,iX m.start]] w λe w'=>∃u,e=returned u/\OwnF w' w.heap.size u (m.next.length) (zCB)/\Grew w w':=by
 obtain⟨o,p,r,s,t⟩:=info_parts vO;have J:=vl b;obtain⟨K,L,rfl,M,N,O⟩:=b.next
 obtain⟨P,Q,rfl,R,S,T⟩:=b.rules;have U:=l.most;go_in;go_wp2;go_loopg [3,8] (m.next.length) (λq v i wr=>∃j:Nat,q=m.next.length-j/\j<=m.next.length/\i=iX (j:Int)/\OwnF wr w.heap.size v j (zCB)/\Grew w wr)
 case atStart=>exact⟨0,rfl,lX,rfl,OwnF.nil _ _ _,kZ _ _ lQ⟩
 case round=>
  obtain⟨j,x,V,rfl,a,f⟩:=hrel;have c:Hid (gk=m.next.length-j/\Grew w wr):=⟨x,f⟩
  obtain⟨ao,cap,y⟩:=a.form;subst y;have z:=f.size;have g:=vl a;by_cases W:j<m.next.length
  ·have A:(j:Int)<((m.next.length:Nat):Int):=by omega
   have B:Hid (zCB j=((j:Int) != 0)):=rfl;go_wp2_with (first|(at_builtin;refine wpList_append_lies _ rfl _ _ 28 rfl (w.heap.size) 4 o (bool false) 1 1 underlying28 p r s t rfl (by decide) _ _ _ rfl (g.alloc _) ⟨wr.heap.size,0,none⟩ 1 1 [bool ((j:Int) != 0)] rfl rfl (cell_one_new _ _ _) (by intro u h;simp at h;subst h;rfl) (by decide) (by unfold maxLen;omega) (by omega) (by simp;omega) _ rfl ?_;intro C D w2 E F X Y;have G:=xF g F z))
   have k:Hid (OwnF w2 w.heap.size (slice (qX C) (j+1) D) (j+1) (zCB)/\Grew w w2):=⟨OwnF.snoc E B,c.2.trans (xD G)⟩
   go_wp2;go_roundg (m.next.length-(j+1))
   case measure=>rw[c.out.1];omega
   case rel=>exact⟨j+1,rfl,by omega,by go_num,k.1,k.2⟩
  ·have H:j=m.next.length:=by omega
   have A:((m.next.length:Nat):Int)<=(j:Int):=by omega
   have I:Hid (OwnF wr w.heap.size (slice ao j cap) (m.next.length) (zCB)):=by rw[H] at a ⊢;exact a
   go_wp2;go_ret;exact⟨_,rfl,I,c.2⟩
theorem zK0 (w:World)(d rv:Value)(m:Sm)(b:TblAt w d rv m)(l:m.Tbl)(one:Nat):
  Calls prog 148 #[agg #[d,rv,iX m.start],iX one] w λe w'=>∃u,e=returned u/\OwnF w' w.heap.size u (m.next.length) (zCA one)/\Grew w w':=by
 obtain⟨o,p,r,s,t⟩:=info_parts vO;have J:=vl b;obtain⟨K,L,rfl,M,N,O⟩:=b.next
 obtain⟨P,Q,rfl,R,S,T⟩:=b.rules;have U:=l.most;go_in;go_wp2;go_loopg [5,10] (m.next.length) (λq v i wr=>∃j:Nat,q=m.next.length-j/\j<=m.next.length/\i=iX (j:Int)/\OwnF wr w.heap.size v j (zCA one)/\Grew w wr)
 case atStart=>exact⟨0,rfl,lX,rfl,OwnF.nil _ _ _,kZ _ _ lQ⟩
 case round=>
  obtain⟨j,x,V,rfl,a,f⟩:=hrel;have c:Hid (gk=m.next.length-j/\Grew w wr):=⟨x,f⟩
  obtain⟨ao,cap,y⟩:=a.form;subst y;have z:=f.size;have g:=vl a;by_cases W:j<m.next.length
  ·have A:(j:Int)<((m.next.length:Nat):Int):=by omega
   have B:Hid (zCA one j=((j:Int)==(one:Int))):=rfl;go_wp2_with (first|(at_builtin;refine wpList_append_lies _ rfl _ _ 28 rfl (w.heap.size) 4 o (bool false) 1 1 underlying28 p r s t rfl (by decide) _ _ _ rfl (g.alloc _) ⟨wr.heap.size,0,none⟩ 1 1 [bool ((j:Int)==(one:Int))] rfl rfl (cell_one_new _ _ _) (by intro u h;simp at h;subst h;rfl) (by decide) (by unfold maxLen;omega) (by omega) (by simp;omega) _ rfl ?_;intro C D w2 E F X Y;have G:=xF g F z))
   have k:Hid (OwnF w2 w.heap.size (slice (qX C) (j+1) D) (j+1) (zCA one)/\Grew w w2):=⟨OwnF.snoc E B,c.2.trans (xD G)⟩
   go_wp2;go_roundg (m.next.length-(j+1))
   case measure=>rw[c.out.1];omega
   case rel=>exact⟨j+1,rfl,by omega,by go_num,k.1,k.2⟩
  ·have H:j=m.next.length:=by omega
   have A:((m.next.length:Nat):Int)<=(j:Int):=by omega
   have I:Hid (OwnF wr w.heap.size (slice ao j cap) (m.next.length) (zCA one)):=by rw[H] at a ⊢;exact a
   go_wp2;go_ret;exact⟨_,rfl,I,c.2⟩
theorem zDf (w:World)(va vb:Value)(n:Nat)(fa fb:Nat->Bool)(hA:BoolsAt w (In w) va n fa)(hB:BoolsAt w (In w) vb n fb)(hn:n<=200):
  Calls prog 143 #[va,vb] w λe w'=>∃u,e=returned u/\OwnF w' w.heap.size u (n) (vX fa fb)/\Grew w w':=by
 obtain⟨i0,hi0,hz0,hz1,hz2⟩:=info_parts vO;obtain⟨ba,oa,ca,hba,rfl,_,_,hca⟩:=hA;obtain⟨bb,ob,cb,hbb,rfl,_,_,hcb⟩:=hB;have HCA:=vl hca;have HCB:=vl hcb;go_in;go_wp2;go_loopg [5,10] (n) (λq lst i wr=>∃j:Nat,q=n-j/\j<=n/\i=iX (j:Int)/\OwnF wr w.heap.size lst j (vX fa fb)/\Grew w wr)
 case atStart=>exact⟨0,rfl,lX,rfl,OwnF.nil _ _ _,Keep.refl _ _ _⟩
 case round=>
  obtain⟨j,hgk,hj,rfl,ho,hkp⟩:=hrel;have HA:Hid (gk=n-j/\Grew w wr):=⟨hgk,hkp⟩
  obtain⟨ao,cap,hv⟩:=ho.form;subst hv;have hszr:=hkp.size;have OR:=vl ho;by_cases hj2:j<n
  ·have i1:(j:Int)<((n:Nat):Int):=by omega
   have ya:=zA (HCA j hj2) hba hkp;have yb:=zA (HCB j hj2) hbb hkp;have HV:Hid (vX fa fb j=(fa j&& !fb j)):=rfl;generalize fa j=xa at *;generalize fb j=xb at *;cases xa with
   |true=>
    go_wp2_with (first|(at_builtin;refine wpList_append_lies _ rfl _ _ 28 rfl (w.heap.size) 4 i0 (bool false) 1 1 underlying28 hi0 hz0 hz1 hz2 rfl (by decide) _ _ _ rfl (OR.alloc _) ⟨wr.heap.size,0,none⟩ 1 1 [bool (!xb)] rfl rfl (cell_one_new _ _ _) (by intro u hu;simp at hu;subst hu;rfl) (by decide) (by unfold maxLen;omega) (by omega) (by simp;omega) _ rfl ?_;intro gg cap2 w2 hown hgrow hat hlt2;have hB:=xF OR hgrow hszr))
    have O2:Hid (OwnF w2 w.heap.size (slice (qX gg) (j+1) cap2) (j+1) (vX fa fb)/\Grew w w2):=⟨OwnF.snoc hown HV,HA.2.trans (xD hB)⟩
    go_wp2;go_roundg (n-(j+1))
    case measure=>rw[HA.out.1];omega
    case rel=>exact⟨j+1,rfl,by omega,by go_num,O2.1,O2.2⟩
   |false=>
    go_wp2_with (first|(at_builtin;refine wpList_append_lies _ rfl _ _ 28 rfl (w.heap.size) 4 i0 (bool false) 1 1 underlying28 hi0 hz0 hz1 hz2 rfl (by decide) _ _ _ rfl (OR.alloc _) ⟨wr.heap.size,0,none⟩ 1 1 [bool (false)] rfl rfl (cell_one_new _ _ _) (by intro u hu;simp at hu;subst hu;rfl) (by decide) (by unfold maxLen;omega) (by omega) (by simp;omega) _ rfl ?_;intro gg cap2 w2 hown hgrow hat hlt2;have hB:=xF OR hgrow hszr))
    have O2:Hid (OwnF w2 w.heap.size (slice (qX gg) (j+1) cap2) (j+1) (vX fa fb)/\Grew w w2):=⟨OwnF.snoc hown HV,HA.2.trans (xD hB)⟩
    go_wp2;go_roundg (n-(j+1))
    case measure=>rw[HA.out.1];omega
    case rel=>exact⟨j+1,rfl,by omega,by go_num,O2.1,O2.2⟩
  ·have hje:j=n:=by omega
   have i1:((n:Nat):Int)<=(j:Int):=by omega
   have HZ:Hid (OwnF wr w.heap.size (slice ao j cap) (n) (vX fa fb)):=by rw[hje] at ho ⊢;exact ho
   go_wp2;go_ret;exact⟨_,rfl,HZ,HA.2⟩
def zBi (n:Nat)(f:Nat->Bool):Int:=if(List.range n).findIdx f<n then((List.range n).findIdx f:Int) else -1
theorem zFd (w:World)(v:Value)(n:Nat)(f:Nat->Bool)(m:BoolsAt w (In w) v n f)(t:n<=200):
  Calls prog 142 #[v] w λe w'=>e=returned (iX (zBi n f))/\w'=w:=by
 obtain⟨u,x,z,A,rfl,_,_,o⟩:=m;have q:=vl o;go_in;go_wp2;go_loop [7] (λi=>∃j:Nat,j<=n/\i=iX j/\∀a,a<j->f a=false) (λi=>n-(intOf i).toNat)
 case atStart=>exact⟨0,lX,rfl,λa b=>by omega⟩
 case round=>
  obtain⟨j,B,rfl,r⟩:=hrel;have g:=vl r;by_cases k:j<n
  ·have s:(j:Int)<(n:Int):=by omega
   have y:=q j k;cases d:f j with
   |true=>
    rw[d] at y;have c:Hid (zBi n f=(j:Int)):=by
     have e:(List.range n).findIdx f=j:=by
      rw[List.findIdx_eq (by simpa using k)];exact⟨by simpa using d,λa b=>by simpa using g a (by simpa using b)⟩
     show _=_;unfold zBi;rw[e,if_pos k]
    go_wp2;go_ret;exact⟨zAr c.symm,rfl⟩
   |false=>
    rw[d] at y;have c:=vl d;go_wp2;exact⟨⟨j+1,by omega,by go_num,λa b=>by(by_cases e:a=j;exact e ▸ c;exact g a (by omega))⟩,by simp[intOf];omega⟩
  ·have s:(n:Int)<=(j:Int):=by omega
   have c:Hid (zBi n f=-1):=by
    have l:=List.findIdx_eq_length (xs:=List.range n) (p:=f);rw[List.length_range] at l;have e:=l.2 λa b=>g a (by have:=List.mem_range.1 b;omega);show _=_;unfold zBi;rw[e,if_neg (Nat.lt_irrefl _)]
   go_wp2;go_ret;exact⟨zAr c.symm,rfl⟩
def hasRuleB (m:Sm)(rule:Int):Bool:=m.rules.any (·==rule)
theorem zG3 (w:World)(g rv:Value)(m:Sm)(k:TblAt w g rv m)(p:m.Tbl)(rule:Nat):
  Calls prog 69 #[agg #[g,rv,iX m.start],iX rule] w λe w'=>e=returned (bool (hasRuleB m rule))/\Grew w w':=by
 obtain⟨F,G,rfl,H,I,J⟩:=k.next
 obtain⟨K,L,rfl,M,N,y⟩:=k.rules;have z:=vl y;have A:=vl p.rules;have O:m.rules.length<=200:=by rw[A.out];exact p.most
 go_in;go_wp2;go_loopg [10] m.rules.length (λq i wr=>∃j:Nat,q=m.rules.length-j/\j<=m.rules.length/\i=iX (j:Int)/\(m.rules.take j).any (·==(rule:Int))=false/\Grew w wr)
 case atStart=>exact⟨0,rfl,lX,rfl,rfl,kZ _ _ lQ⟩
 case round=>
  obtain⟨j,r,P,rfl,s,f⟩:=hrel;have a:Hid (gk=m.rules.length-j/\(m.rules.take j).any (·==(rule:Int))=false/\Grew w wr):=⟨r,s,f⟩
  by_cases c:j<m.rules.length
  ·have B:(j:Int)<(m.rules.length:Int):=by omega
   obtain⟨b,o,rfl,C,t⟩:=z j c;have Q:=zA t C f;have D:Hid ((m.rules.take (j+1)).any (·==(rule:Int))=((m.rules.take j).any (·==(rule:Int))||(m.rules.getD j 0==(rule:Int)))):=by
    show _=_;rw[List.take_succ_eq_append_getElem c,List.any_append,lW,lV c];simp
   have E:Hid ((m.rules.getD j 0==(rule:Int))=true->hasRuleB m rule=true):=by
    intro u;unfold hasRuleB;rw[List.any_eq_true];rw[lW,lV c] at u;exact⟨m.rules[j],List.getElem_mem c,u⟩
   clear r s f t;generalize m.rules.getD j 0=x at *;cases v:(x==(rule:Int)) with
   |true=>
    have d:=vl <| E v;go_wp2;go_ret;exact⟨vC d.symm,a.2.2⟩
   |false=>
    have d:Hid ((m.rules.take (j+1)).any (·==(rule:Int))=false):=by show _=_;rw[D.out,a.out.2.1,v];rfl
    go_wp2;go_roundg (m.rules.length-(j+1))
    case measure=>rw[a.out.1];omega
    case rel=>exact⟨j+1,rfl,by omega,by go_num,d,a.2.2⟩
  ·have B:(m.rules.length:Int)<=(j:Int):=by omega
   have d:Hid (hasRuleB m rule=false):=by
    show _=_;unfold hasRuleB;rw[<-List.take_of_length_le (l:=m.rules) (i:=j) (by omega)];exact a.2.1
   go_wp2;go_ret;exact⟨vC d.symm,a.2.2⟩
def qU (a b:Int):Int:=if a<0\/b<0 then -1 else if a>b then a else b
theorem zIu (w:World)(a b:Int):
  Calls prog 68 #[iX a,iX b] w λe w'=>e=returned (iX (qU a b))/\w'=w:=by
 by_cases f:a<0
 ·have c:Hid (qU a b=-1):=if_pos (.inl f)
  go_in;go_wp2;go_ret;exact⟨zAr c.symm,rfl⟩
 ·have h:0<=a:=by omega
  by_cases g:b<0
  ·have c:Hid (qU a b=-1):=if_pos (.inr g)
   go_in;go_wp2;go_ret;exact⟨zAr c.symm,rfl⟩
  ·have i:0<=b:=by omega
   by_cases d:a>b
   ·have c:Hid (qU a b=a):=by show _=_;unfold qU;rw[if_neg (by omega),if_pos d]
    go_in;go_wp2;go_ret;exact⟨zAr c.symm,rfl⟩
   ·have j:a<=b:=by omega
    have c:Hid (qU a b=b):=by show _=_;unfold qU;rw[if_neg (by omega),if_neg d]
    go_in;go_wp2;go_ret;exact⟨zAr c.symm,rfl⟩
def yG (ahead:Int)(kinds:Nat):Bool:=decide (0<=ahead)&&decide (zF kinds ahead.toNat<=3000)
theorem zGp (w:World)(ahead:Int)(kinds:Nat)(d:kinds<=256)(f:ahead<=255):
  Calls prog 70 #[iX ahead,iX kinds] w λe w'=>e=returned (bool (yG ahead kinds))/\w'=w:=by
 by_cases b:0<=ahead
 ·obtain⟨n,rfl⟩:∃n:Nat,ahead=(n:Int):=⟨ahead.toNat,by omega⟩
  have a:Hid (yG n kinds=decide (zF kinds n<=3000)):=by
   show _=_;unfold yG;rw[gJ b,Int.toNat_natCast];rfl
  go_in;go_wp2_with fail;refine(zDz kinds n w d (by omega)).mono ?_;rintro e w1 ⟨rfl,rfl⟩;go_wp2;go_ret;refine⟨vC ?_,rfl⟩;rw[a.out];by_cases c:zF kinds n<=3000
  ·simp[c];omega
  ·simp[c];omega
 ·have a:Hid (yG ahead kinds=false):=by
   show _=_;unfold yG;rw[gU b];rfl
  have g:ahead<0:=by omega
  go_in;go_wp2;go_ret;exact⟨vC a.symm,rfl⟩
end Go.Proofs.YtbjcfkdnjaiclaaGreat
