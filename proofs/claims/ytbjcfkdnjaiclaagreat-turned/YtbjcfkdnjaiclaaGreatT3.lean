import Derived.Deep.RegionHeld3
import Derived.Deep.RegionWith
import Derived.Test.YtbjcfkdnjaiclaaGreatT0
import Derived.Test.YtbjcfkdnjaiclaaGreatT2
/- Parts of the proof. -/
set_option linter.unusedVariables false
set_option linter.unusedSimpArgs false
set_option maxHeartbeats 4000000
set_option maxRecDepth 100000
namespace Go.Proofs.YtbjcfkdnjaiclaaGreat
open Go.RowKit Go.Proofs.Tryz Go.World
open Go.Value (int slice bool pointer string agg tuple)
open Go.IntKind (i64)
open Go.Ending (returned)
section
variable (ms:List Sm) (b n i:Nat)
structure Laid where
 starts:List Int
 ends:List Int
 next:List (List Int)
 rules:Nat
def xA (kinds:List Int)(ms:List Sm):Nat->Laid
 |0=>⟨[],[],[],0⟩
 |j+1=>⟨(xA kinds ms j).starts++[((xA kinds ms j).next.length:Int)+(ms.getD j ⟨[],[],0,[]⟩).start],(xA kinds ms j).ends++(ms.getD j ⟨[],[],0,[]⟩).rules.map (qK (xA kinds ms j).rules),(xA kinds ms j).next++(ms.getD j ⟨[],[],0,[]⟩).next.map (λrow=>xB kinds row (xA kinds ms j).next.length 256),(xA kinds ms j).rules+(ms.getD j ⟨[],[],0,[]⟩).empty.length⟩
def zS (ms:List Sm):Nat->Nat
 |0=>0
 |j+1=>zS ms j+(ms.getD j ⟨[],[],0,[]⟩).next.length
def zV (ms:List Sm):Nat->Nat
 |0=>0
 |j+1=>zV ms j+(ms.getD j ⟨[],[],0,[]⟩).empty.length
theorem vL (i j:Nat)(b:i<=j):zS ms i<=zS ms j:=by
 induction j with
 |zero=>rw[show i=0 by omega];exact lQ
 |succ j a=>
  by_cases e:i=j+1
  ·rw[e];exact lQ
  ·have:=a (by omega)
   rw[zS];omega
theorem zB9 (i j:Nat)(b:i<=j):zV ms i<=zV ms j:=by
 induction j with
 |zero=>rw[show i=0 by omega];exact lQ
 |succ j a=>
  by_cases e:i=j+1
  ·rw[e];exact lQ
  ·have:=a (by omega)
   rw[zV];omega
structure ModesOk (ms:List Sm):Prop where
 one:1<=ms.length
 three:ms.length<=3
 states1:∀i (hi:i<ms.length),1<=ms[i].next.length
 wide:∀i (hi:i<ms.length),∀row∈ms[i].next,row.length=256/\∀b,b<256->0<=row.getD b 0/\row.getD b 0<ms[i].next.length
 rules:∀i (hi:i<ms.length),ms[i].rules.length=ms[i].next.length/\∀r∈ms[i].rules,-1<=r/\r<ms[i].empty.length
 start:∀i (hi:i<ms.length),0<=ms[i].start/\ms[i].start<ms[i].next.length
 states:zS ms ms.length<=200
 rules1:1<=zV ms ms.length
 rules8:zV ms ms.length<=8
theorem zBh (kinds:List Int)(ms:List Sm)(g:ModesOk ms)(j:Nat)(m:j<=ms.length):(xA kinds ms j).starts.length=j/\(xA kinds ms j).next.length=zS ms j/\(xA kinds ms j).ends.length=zS ms j/\(xA kinds ms j).rules=zV ms j:=by
 induction j with
 |zero=>exact⟨rfl,rfl,rfl,rfl⟩
 |succ j k=>
  have ⟨a,b,c,l⟩:=k (by omega);have f:j<ms.length:=by omega
  have e:ms.getD j ⟨[],[],0,[]⟩=ms[j]:=by rw[lW,lV f];rfl
  rw[xA,zS,zV,e];refine⟨by simp[a],by simp[b],?_,by simp[l]⟩;simp[c,(g.rules j f).1]
theorem zDz (c:b<=n)(d:i<b):(zB ms n).1.getD i 0=(zB ms b).1.getD i 0:=by
 induction n with
 |zero=>omega
 |succ n a=>
  by_cases e:b=n+1
  ·rw[e]
  ·rw[<-a (by omega)]
   have f:=(jG ms n).1;rw[zB];split <;> (rw [lW,kW (by omega),<-lW])
theorem zDj (f:i<b):0<=(zB ms b).1.getD i 0/\(zB ms b).1.getD i 0<(zB ms b).2:=by
 induction b generalizing i with
 |zero=>omega
 |succ b a=>
  have c:=(jG ms b).1;have g:=zHM ms b;rw[zB];split
  ·rename_i d
   by_cases e:i=b
   ·subst e
    rw[lW,hZ (by omega),c];simp only[Nat.sub_self,List.getElem?_cons_zero,Option.getD_some];exact a _ d
   ·rw[lW,kW (by omega),<-lW]
    exact a i (by omega)
  ·by_cases e:i=b
   ·subst e
    rw[lW,hZ (by omega),c];simp only[Nat.sub_self,List.getElem?_cons_zero,Option.getD_some];omega
   ·rw[lW,kW (by omega),<-lW]
    have:=a i (by omega);show _/\_<(((zB ms b).2+1:Nat):Int);omega
theorem zE1 (d:b<n):((zB ms n).1.getD b 0=((zB ms b).2:Int)↔¬jS ms b<b)/\(zB ms (b+1)).2=if jS ms b<b then(zB ms b).2 else(zB ms b).2+1:=by
 rw[zDz ms (b+1) n b d (by omega)];have c:=(jG ms b).1;rw[zB];split
 ·rename_i a
  refine⟨?_,rfl⟩;rw[lW,hZ (by omega),c];simp only[Nat.sub_self,List.getElem?_cons_zero,Option.getD_some];have:=zDj ms b (jS ms b) a
  constructor
  ·intro e;omega
  ·intro e;exact absurd a e
 ·rename_i a
  refine⟨?_,rfl⟩;rw[lW,hZ (by omega),c];simp only[Nat.sub_self,List.getElem?_cons_zero,Option.getD_some];exact⟨λ_=>a,λ_=>trivial⟩
theorem zHk (row:List Int)(first:Int)(n b:Nat)(g:b<=n):(xB (zB ms n).1 row first b).length=(zB ms b).2:=by
 induction b with
 |zero=>rfl
 |succ b a=>
  have ⟨d,f⟩:=zE1 ms b n (by omega);have a:=a (by omega);rw[xB,f];by_cases c:jS ms b<b
  ·rw[if_neg (by rw[a];intro e;exact(d.1 e) c),if_pos c,a]
  ·rw[if_pos (by rw[a];exact d.2 c),if_neg c,kX,a]
   rfl
theorem zKn (kinds row:List Int)(first:Int)(P:Int->Prop)(b:Nat)(c:∀i,i<b->P (first+row.getD i 0)):∀x∈xB kinds row first b,P x:=by
 induction b with
 |zero=>intro x a;simp[xB] at a
 |succ b d=>
  intro x a;rw[xB] at a;split at a
  ·rcases kU.1 a with a|a
   ·exact d (λi e=>c i (by omega)) x a
   ·rw[kY.1 a];exact c b (by omega)
  ·exact d (λi e=>c i (by omega)) x a
theorem zDO (c:1<=b):1<=(zB ms b).2:=by
 induction b with
 |zero=>omega
 |succ b a=>
  rw[(zE1 ms b (b+1) (by omega)).2];by_cases e:b=0
  ·subst e;simp
  ·have:=a (by omega)
   split <;> omega
theorem zCS (g:ModesOk ms)(j:Nat)(s:j<=ms.length):
  (∀x∈(xA (zB ms 256).1 ms j).starts,0<=x/\x<zS ms j)/\
  (∀x∈(xA (zB ms 256).1 ms j).ends,-1<=x/\x<zV ms j)/\
  (∀r∈(xA (zB ms 256).1 ms j).next,r.length=(zB ms 256).2/\∀x∈r,0<=x/\x<zS ms j):=by
 induction j with
 |zero=>exact⟨λx d=>by simp[xA] at d,λx d=>by simp[xA] at d,λx d=>by simp[xA] at d⟩
 |succ j l=>
  have ⟨a,b,c⟩:=l (by omega);have ⟨s1,s2,t,m⟩:=zBh (zB ms 256).1 ms g j (by omega);have k:j<ms.length:=by omega
  have e:ms.getD j ⟨[],[],0,[]⟩=ms[j]:=by rw[lW,lV k];rfl
  have u:=g.start j k;rw[xA,zS,zV,e];refine⟨λx d=>?_,λx d=>?_,λr f=>?_⟩
  ·rcases kU.1 d with d|d
   ·have:=a x d;omega
   ·rw[kY.1 d,s2];omega
  ·rcases kU.1 d with d|d
   ·have:=b x d;omega
   ·obtain⟨y,o,rfl⟩:=List.mem_map.1 d
    have:=(g.rules j k).2 y o;unfold qK;rw[m];split <;> omega
  ·rcases kU.1 f with f|f
   ·refine⟨(c r f).1,λx d=>?_⟩
    have:=(c r f).2 x d;omega
   ·obtain⟨row,p,rfl⟩:=List.mem_map.1 f
    have ⟨w1,w2⟩:=g.wide j k row p;refine⟨zHk ms row _ 256 256 lQ,zKn _ _ _ _ 256 λi q=>?_⟩;have:=w2 i q;rw[s2];omega
def yB (ms:List Sm)(acts pushed:List Int)(hold:Nat):Tb where
 stream:=false
 ahead:=0
 hold:=hold
 count:=(zB ms 256).2
 rows:=0
 nst:=zS ms ms.length
 nmode:=ms.length
 nrule:=acts.length
 nlong:=0
 start:=λi=>((xA (zB ms 256).1 ms ms.length).starts.getD i 0).toNat
 act:=λi=>(acts.getD i 0).toNat
 push:=λi=>(pushed.getD i 0).toNat
 kind:=λb=>((zB ms 256).1.getD b 0).toNat
 next:=λs k=>(((xA (zB ms 256).1 ms ms.length).next.getD s []).getD k 0).toNat
 ends:=λs=>(xA (zB ms 256).1 ms ms.length).ends.getD s 0
 live:=λ_=>false
 long:=λ_=>0
theorem zZ {a:Type}(l:List a)(i:Nat)(c:a)(b:i<l.length):l.getD i c∈l:=by
 rw[lW,lV b];exact List.getElem_mem b
theorem zDI (acts pushed:List Int)(hold:Nat)(a:ModesOk ms)(d:acts.length=zV ms ms.length):(yB ms acts pushed hold).OkN:=by
 have ⟨s1,s2,l,m⟩:=zBh (zB ms 256).1 ms a ms.length lQ;have ⟨o,b2,e⟩:=zCS ms a ms.length lQ;refine⟨(jG ms 256).2,a.states,λs k b f=>?_,λs b=>?_⟩
 ·have g:s<zS ms ms.length:=b
  have p:k<(zB ms 256).2:=f;have j:=e _ (zZ _ s [] (by omega));have c:=j.2 _ (zZ _ k 0 (by omega));show(((xA (zB ms 256).1 ms ms.length).next.getD s []).getD k 0).toNat<zS ms ms.length;omega
 ·have g:s<zS ms ms.length:=b
  have c:=b2 _ (zZ _ s 0 (by omega));show -1<=(xA (zB ms 256).1 ms ms.length).ends.getD s 0/\(xA (zB ms 256).1 ms ms.length).ends.getD s 0<(acts.length:Int);rw[d];exact c
end
theorem OwnI.row {w:World}{H:Nat}{v:Value}{l:List Int}(b:OwnI w H v l)(n:Nat)(c:l.length=n)(f:Nat->Int)(d:∀i,i<n->l.getD i 0=f i):Row w H 3 v n λi=>iX (f i):=by
 unfold Row;subst c;have e:(List.range l.length).map (λi=>iX (f i))=l.map λx=>iX x:=by
  apply List.ext_getElem?;intro i;rw[gX,gX];by_cases a:i<l.length
  ·rw[List.getElem?_range a,lV a]
   simp only[Option.map_some];rw[<-d i a,lW,lV a];rfl
  ·rw[List.getElem?_eq_none (by simpa using a),List.getElem?_eq_none (by omega)]
   rfl
 rw[e];exact b
theorem Gt.memB {w:World}{H p:Nat}{c:Tc}{ms:List Sm}{acts pushed:List Int}{hold:Nat}(a:Gt w H p c (zB ms 256).1 acts pushed (xA (zB ms 256).1 ms ms.length).starts (xA (zB ms 256).1 ms ms.length).ends (xA (zB ms 256).1 ms ms.length).next)(d:ModesOk ms)
  (f:∀i,i<acts.length->0<=acts.getD i 0) (g:pushed.length=acts.length) (j:∀i,i<pushed.length->0<=pushed.getD i 0)
  (c0:c.stream=bool false) (c1:c.ahead=iX (0:Nat)) (c2:c.hold=iX (hold:Nat)) (l:c.count=iX ((zB ms 256).2:Nat)) (m:c.rows=iX (0:Nat)) (o:c.longer=nX):MemB w H p c (yB ms acts pushed hold):=by
 have ⟨s1,s2,q,y⟩:=zBh (zB ms 256).1 ms d ms.length lQ;have ⟨r,b2,e⟩:=zCS ms d ms.length lQ;have ⟨rv,s,t⟩:=a.next
 refine⟨a.tp,c0,c1,c2,l,m,a.starts.row _ s1 _ λi b=>?_,a.acts.1.row _ rfl _ λi b=>?_,a.pushed.1.row _ g _ λi b=>?_,a.kinds.1.row _ (jG ms 256).1 _ λi b=>?_,⟨rv,?_,λi b=>(t i (by rw[s2];exact b)).1.row _ ?_ _ λk u=>?_⟩,a.ends.row _ q _ λi b=>rfl,?_,a.HH⟩
 ·have:=r _ (zZ _ i 0 (by omega))
  show _=(((xA (zB ms 256).1 ms ms.length).starts.getD i 0).toNat:Int);omega
 ·have:=f i b
  show _=((acts.getD i 0).toNat:Int);omega
 ·have v:i<acts.length:=b
  have:=j i (by omega);show _=((pushed.getD i 0).toNat:Int);omega
 ·have:=zDj ms 256 i b
  show _=(((zB ms 256).1.getD i 0).toNat:Int);omega
 ·have a:=s
  rw[s2] at a;exact a
 ·exact(e _ (zZ _ i [] (by rw[s2];exact b))).1
 ·have v:i<zS ms ms.length:=b
  have x:=e _ (zZ _ i [] (by omega));have z:k<(zB ms 256).2:=u;have A:=x.2 _ (zZ _ k 0 (by omega));show _=((((xA (zB ms 256).1 ms ms.length).next.getD i []).getD k 0).toNat:Int);omega
 ·rw[o]
  exact ownsRow_nil _ _ _ _
def zAU (ms:List Sm)(acts pushed:List Int)(hold n:Nat):Tb:=(((yB ms acts pushed hold).first.itr n)).looking 0
theorem ModesOk.fit {ms:List Sm}(c:ModesOk ms)(i:Nat)(a:i<ms.length):ms[i].Fit/\ms[i].next.length<=200:=by
 have f:=vL ms (i+1) ms.length a;have m:=c.states;have e:ms.getD i ⟨[],[],0,[]⟩=ms[i]:=by rw[lW,lV a];rfl
 rw[zS,e] at f;have g:=zB9 ms (i+1) ms.length a;have o:=c.rules8;rw[zV,e] at g;have k:=c.start i a;refine⟨⟨λj d=>?_,λj d=>?_,k.1,by omega⟩,by omega⟩
 ·have ⟨w1,w2⟩:=c.wide i a _ (zZ ms[i].next j [] d)
  exact⟨w1,λb l=>by have:=w2 b l;omega⟩
 ·have:=(c.rules i a).2 _ (zZ ms[i].rules j 0 d)
  omega
def Made (w w':World)(e:Ending)(ms:List Sm)(acts pushed:List Int)(hold:Nat):Prop:=
 ∃p H c n,e=returned (pointer (some ⟨p,0,none⟩))/\w.heap.size<=p/\w.heap.size<=H/\Mem w' H p c (zAU ms acts pushed hold n)/\(((yB ms acts pushed hold).first.itr n).spreadTo (zS ms ms.length)).2=false/\Grew w w'
theorem zQJ (w0 w:World)(p:Nat)(c:Tc)(ms:List Sm)(acts pushed:List Int)(hold:Nat)(hG:Gt w w0.heap.size p c (zB ms 256).1 acts pushed (xA (zB ms 256).1 ms ms.length).starts (xA (zB ms 256).1 ms ms.length).ends (xA (zB ms 256).1 ms ms.length).next)(hok:ModesOk ms)(hp0:w0.heap.size<=p)
  (hal:acts.length=zV ms ms.length) (ha:∀i,i<acts.length->0<=acts.getD i 0) (hpl:pushed.length=acts.length) (hp:∀i,i<pushed.length->0<=pushed.getD i 0)
  (c0:c.stream=bool false) (c1:c.ahead=iX (0:Nat)) (c2:c.hold=iX (hold:Nat)) (c7:c.count=iX ((zB ms 256).2:Nat)) (c10:c.live=nX) (c11:c.rows=iX (0:Nat)) (c12:c.longer=nX) (hK:Keep w0.heap.size p w0 w)
  {u0 u1 u2 u3 u4 u5 u6 u7 u8 u9 u10 u12 u13 u14 u15 u16 u17 u18 u19 u20 u21 u22 u23 u24 u25 u26 u27 u28 u29 u30 u31 u32 u33 u34 u35 u36 u37 u38 u39 u40 u41 u42 u43 u44 u45 u46 u47 u48 u49 u50 u51 u52 u53 u54 u55 u56 u57 u58 u59 u60 u61 u62 u63 u64:Value}:
  Code.wp prog (xO 7 ((f45.body).getD .skip)) (bodyPost prog f45 λe w'=>Made w0 w' e ms acts pushed hold)
   ⟨(u0::u1::u2::u3::u4::u5::u6::u7::u8::u9::u10::pX p::u12::u13::u14::u15::u16::u17::u18::u19::u20::u21::u22::u23::u24::u25::u26::u27::u28::u29::u30::u31::u32::u33::u34::u35::u36::u37::u38::u39::u40::u41::u42::u43::u44::u45::u46::u47::u48::u49::u50::u51::u52::u53::u54::u55::u56::u57::u58::u59::u60::u61::u62::u63::u64::[]).toArray,[]⟩ w:=by
 conv=>arg 2;whnf
 have hokN:=zDI ms acts pushed hold hok hal;have hn1:1<=(yB ms acts pushed hold).nst:=by
  have h1:=vL ms 1 ms.length hok.one;have h2:=hok.states1 0 hok.one;have e:ms.getD 0 ⟨[],[],0,[]⟩=ms[0]'hok.one:=by rw[lW,lV hok.one];rfl
  have h3:zS ms 1=0+(ms.getD 0 ⟨[],[],0,[]⟩).next.length:=rfl
  rw[e] at h3;show 1<=zS ms ms.length;omega
 have hc1:1<=(yB ms acts pushed hold).count:=zDO ms 256 (by decide);have HF:Hid (Ca 65 #[pX p] w λe w'=>e=rX/\∃v n,Mem w' w0.heap.size p {c with live:=v} ((yB ms acts pushed hold).first.itr n)/\(((yB ms acts pushed hold).first.itr n).spreadTo (yB ms acts pushed hold).nst).2=false/\Keep w0.heap.size p w w'):=
  zCV w w0.heap.size p c (yB ms acts pushed hold) (hG.memB hok ha hpl hp c0 c1 c2 c7 c11 c12) c10 hokN hn1 hc1
 have HKP:Hid (Keep w0.heap.size p w0 w):=hK;have HOK:Hid ((yB ms acts pushed hold).OkN):=hokN;clear hG hok hal ha hpl hp c0 c1 c2 c7 c10 c11 c12 hK hokN;go_wp2_with fail;refine HF.mono ?_;rintro e w1 ⟨rfl,v,n,hM1,hsp,hk1⟩;have A1:Hid (Mem w1 w0.heap.size p {c with live:=v} ((yB ms acts pushed hold).first.itr n)/\(((yB ms acts pushed hold).first.itr n).spreadTo (yB ms acts pushed hold).nst).2=false/\Keep w0.heap.size p w0 w1):=⟨hM1,hsp,HKP.trans hk1⟩
 clear hM1 hsp hk1 HF;have HS:Hid (Ca 66 #[pX p,iX (0:Nat)] w1 λe w'=>e=rX/\∃c',Mem w' w0.heap.size p c' (((yB ms acts pushed hold).first.itr n).looking 0)/\Keep w0.heap.size p w1 w'):=
  (zCG w1 w0.heap.size p _ _ A1.1 (zLp (t:=(yB ms acts pushed hold).first) (HOK.withLive _) n) (by rw[zID];exact hn1) (by rw[zBR];exact hc1) 0 (by decide) (by rw[zCz];decide)).mono (by
   rintro e w' ⟨h1,c',h2,h3⟩;exact⟨h1,c',h2,⟨h3.os,h3.output,h3.size,λk k1 k2=>h3.block k (lZ k1 A1.1.HH) k2⟩⟩)
 go_wp2_with fail;refine HS.mono ?_;rintro e w2 ⟨rfl,c',hM2,hk2⟩;have A2:Hid (Mem w2 w0.heap.size p c' (((yB ms acts pushed hold).first.itr n).looking 0)/\Keep w0.heap.size p w0 w2):=⟨hM2,A1.2.2.trans hk2⟩
 clear hM2 hk2 HS;go_wp2_with fail;go_ret;exact⟨p,w0.heap.size,c',n,rfl,hp0,lQ,A2.1,A1.2.1,A2.2.lower lQ hp0⟩
theorem zQK (d w:World)(S:Nat->Prop)(p:Nat)(c:Tc)(ms:List Sm)(acts pushed:List Int)(hold:Nat)(K:Value)(ax:ModesAt d S K ms)(y:∀k,S k->k<d.heap.size)(L:Gt w d.heap.size p c (zB ms 256).1 acts pushed [] [] [])(C:ModesOk ms)(ay:d.heap.size<=p)
  (M:acts.length=zV ms ms.length) (N:∀i,i<acts.length->0<=acts.getD i 0) (O:pushed.length=acts.length) (P:∀i,i<pushed.length->0<=pushed.getD i 0)
  (c0:c.stream=bool false) (c1:c.ahead=iX (0:Nat)) (c2:c.hold=iX (hold:Nat)) (R:c.count=iX ((zB ms 256).2:Nat)) (T:c.live=nX) (U:c.rows=iX (0:Nat)) (V:c.longer=nX) (W:Keep d.heap.size p d w)
  {u1 u2 u3 u4 u5 u6 u7 u8 u9 u10 u12 u13 u14 u15 u16 u17 u18 u19 u20 u21 u22 u23 u24 u25 u26 u27 u28 u29 u30 u31 u32 u33 u34 u35 u36 u37 u38 u39 u40 u41 u42 u43 u44 u45 u46 u47 u48 u49 u50 u51 u52 u53 u54 u55 u56 u57 u58 u59 u60 u61 u62 u63 u64:Value}:
  Code.wp prog (xO 5 ((f45.body).getD .skip)) (bodyPost prog f45 λe w'=>Made d w' e ms acts pushed hold)
   ⟨(K::u1::u2::u3::u4::u5::u6::u7::u8::u9::u10::pX p::u12::u13::u14::u15::u16::u17::u18::u19::u20::u21::u22::u23::u24::u25::u26::u27::u28::u29::u30::u31::u32::u33::u34::u35::u36::u37::u38::u39::u40::u41::u42::u43::u44::u45::u46::u47::u48::u49::u50::u51::u52::u53::u54::u55::u56::u57::u58::u59::u60::u61::u62::u63::u64::[]).toArray,[]⟩ w:=by
 conv=>arg 2;whnf
 obtain⟨az,a2,rfl,a4,a5,X⟩:=ax;have aA:Hid (∀i (a6:i<ms.length),∃b o u0 u1 u3,az=some ⟨b,o,none⟩/\S b/\d.cell? ⟨b,o+i*4,none⟩=some u0/\d.cell? ⟨b,o+i*4+1,none⟩=some u1/\d.cell? ⟨b,o+i*4+2,none⟩=some (iX ms[i].start)/\d.cell? ⟨b,o+i*4+3,none⟩=some u3/\IntRows d S u0 ms[i].next/\Ints d S u1 ms[i].rules/\Bools d S u3 ms[i].empty):=X;have E:Hid (Gt w d.heap.size p c (zB ms 256).1 acts pushed [] [] []/\Keep d.heap.size p d w):=⟨L,W⟩
 have aB:Hid (∀(f:Tc) (w':World),Gt w' d.heap.size p f (zB ms 256).1 acts pushed (xA (zB ms 256).1 ms ms.length).starts (xA (zB ms 256).1 ms ms.length).ends (xA (zB ms 256).1 ms ms.length).next->Keep d.heap.size p d w'->f={c with starts:=f.starts,next:=f.next,ends:=f.ends}->∀{u0 u1 u2 u3 u4 u5 u6 u7 u8 u9 u10 u12 u13 u14 u15 u16 u17 u18 u19 u20 u21 u22 u23 u24 u25 u26 u27 u28 u29 u30 u31 u32 u33 u34 u35 u36 u37 u38 u39 u40 u41 u42 u43 u44 u45 u46 u47 u48 u49 u50 u51 u52 u53 u54 u55 u56 u57 u58 u59 u60 u61 u62 u63 u64:Value},Code.wp prog (xO 7 ((f45.body).getD .skip)) (bodyPost prog f45 λe w'=>Made d w' e ms acts pushed hold) ⟨(u0::u1::u2::u3::u4::u5::u6::u7::u8::u9::u10::pX p::u12::u13::u14::u15::u16::u17::u18::u19::u20::u21::u22::u23::u24::u25::u26::u27::u28::u29::u30::u31::u32::u33::u34::u35::u36::u37::u38::u39::u40::u41::u42::u43::u44::u45::u46::u47::u48::u49::u50::u51::u52::u53::u54::u55::u56::u57::u58::u59::u60::u61::u62::u63::u64::[]).toArray,[]⟩ w'):=by
  intro f w' aC D m;intros
  exact zQJ d w' p f ms acts pushed hold aC C ay M N O P (by rw[m];exact c0) (by rw[m];exact c1) (by rw[m];exact c2) (by rw[m];exact R) (by rw[m];exact T) (by rw[m];exact U) (by rw[m];exact V) D
 have t:Hid (ModesOk ms):=C;have a7:=C.three;clear X L W C M N O P c0 c1 c2 R T U V;refine wp_seq_k ?_;intro aD hK0;have Y:Hid (∀a w,_->aD a w):=hK0;clear hK0;go_wp2_with fail;apply Y.out;clear Y;refine wp_seq_k ?_;intro aE hK1;have aF:Hid (∀a w,_->aE a w):=hK1;clear hK1;go_wp2_with fail;go_loopg [12,45] ms.length (λq aG i wr=>∃(j:Nat) (l:Tc),q=ms.length-j/\j<=ms.length/\i=iX (j:Int)/\aG=iX ((zV ms j:Nat):Int)/\Gt wr d.heap.size p l (zB ms 256).1 acts pushed (xA (zB ms 256).1 ms j).starts (xA (zB ms 256).1 ms j).ends (xA (zB ms 256).1 ms j).next/\Turn d.heap.size p w c wr l)
 case atStart=>exact⟨0,c,rfl,lX,rfl,rfl,E.1,Turn.refl _ _ _ _⟩
 case round=>
  obtain⟨j,l,F,aa,rfl,rfl,g,u⟩:=hrel;have ab:Hid (gk=ms.length-j/\Gt wr d.heap.size p l (zB ms 256).1 acts pushed (xA (zB ms 256).1 ms j).starts (xA (zB ms 256).1 ms j).ends (xA (zB ms 256).1 ms j).next/\Turn d.heap.size p w c wr l):=⟨F,g,u⟩
  have aH:zV ms j<=8:=lY (zB9 ms j ms.length aa) t.rules8;by_cases v:j<ms.length
  ·have aI:(j:Int)<(ms.length:Int):=by omega
   obtain⟨r,o,v0,v1,aJ,rfl,aK,ac,ad,ae,af,ag,ah,aL⟩:=aA j v;have kb:∀x,S x->wr.heap[x]? =d.heap[x]? :=λx z=>by
    have:=y x z;exact(u.keep.block x this (by omega)).trans (E.2.block x this (by omega))
   have A:∀i,wr.cell? ⟨r,i,none⟩=d.cell? ⟨r,i,none⟩:=λi=>gY (kb r aK);have aM:wr.cell? ⟨r,o+j*4,none⟩=some v0:=(A _).trans ac;have aN:wr.cell? ⟨r,o+j*4+1,none⟩=some v1:=(A _).trans ad;have aO:wr.cell? ⟨r,o+j*4+2,none⟩=some (iX ms[j].start):=(A _).trans ae;have aP:wr.cell? ⟨r,o+j*4+3,none⟩=some aJ:=(A _).trans af;have ⟨s1,s2,ai,aj⟩:=zBh (zB ms 256).1 ms t j aa;have ak:=vL ms (j+1) ms.length v;have aQ:=t.states;have B:ms.getD j ⟨[],[],0,[]⟩=ms[j]:=by rw[lW,lV v];rfl
   have al:zS ms j+ms[j].next.length<=200:=by
    rw[zS,B] at ak;omega
   have am:=(t.rules j v).1;have a8:zV ms j+ms[j].empty.length<=8:=by
    have G:=zB9 ms (j+1) ms.length v;have an:=t.rules8;rw[zV,B] at G;omega
   have ao:Hid (∀s,Grew wr s->Ca 64 #[pX p,agg #[v0,v1,iX ms[j].start],iX ((zV ms j:Nat):Int)] s λe w'=>e=rX/\∃f,Gt w' d.heap.size p f (zB ms 256).1 acts pushed (xA (zB ms 256).1 ms (j+1)).starts (xA (zB ms 256).1 ms (j+1)).ends (xA (zB ms 256).1 ms (j+1)).next/\Turn d.heap.size p wr l w' f/\∀k,wr.heap.size<=k->k<s.heap.size->w'.heap[k]? =s.heap[k]?):=by
    intro s H;have ap:∀x,S x->s.heap[x]? =d.heap[x]? :=λx z=>(H.block x (lZ (y x z) g.HH) (by have:=y x z;have:=g.HH;omega)).trans (kb x z);have aR:=zHp s d.heap.size p l (zB ms 256).1 acts pushed _ _ _ (g.grown H) ms[j] v0 v1 S (ag.keep ap) (ah.keep ap) (λk D=>⟨y k D,by have:=y k D;omega⟩) (zV ms j) (t.fit j v).1 aH (jG ms 256).1 (by rw[s2];exact al) (by rw[ai,am];exact al) (by rw[s1];omega);refine aR.mono ?_;rintro e w' ⟨aS,f,aT,aq⟩;refine⟨aS,f,?_,(Turn.grown H g.HH).trans aq,λk G an=>(aq.rest k (lY g.HH G) ⟨an,λe=>by have:=g.tp.lt;omega,λe=>by have:=(g.starts.lt k e.symm).2;omega,λe=>?_,λe=>by have:=(g.ends.lt k e.symm).2;omega⟩).1⟩
    ·rw[xA,B,aj]
     exact aT
    ·have ⟨_,aU,_⟩:=g.next
     have:=(aU.lt k e.symm).2;omega
   have aV:Hid (zV ms (j+1)=zV ms j+ms[j].empty.length):=by show _=_;rw[zV,B]
   have a9:d.heap.size<=wr.heap.size:=g.HH;obtain⟨ba,bc,aW,_⟩:=ag;obtain⟨bd,be,aX,_⟩:=ah;obtain⟨aY,q3,aZ,_⟩:=aL;subst aW aX aZ;clear F g u kb A ac ad ae af s1 s2 ai aj ak aQ B am;generalize ms[j].next.length=bf at *
   generalize ms[j].rules.length=bg at *;generalize ms[j].empty.length=le at *;generalize ms[j].start=bh at *;generalize zV ms j=bi at *;go_wp2_with fail;refine(ao _ (kZ _ _ lQ)).mono ?_;rintro e w2 ⟨rfl,f,ar,au,av⟩;have bj:w2.cell? ⟨wr.heap.size,3,none⟩=some (slice aY le q3):=by
    rw[World.cell?_of_block (av wr.heap.size lQ (by simp))];unfold cell?;rw[gZ wr _];rfl
   have aw:Hid (Gt w2 d.heap.size p f (zB ms 256).1 acts pushed (xA (zB ms 256).1 ms (j+1)).starts (xA (zB ms 256).1 ms (j+1)).ends (xA (zB ms 256).1 ms (j+1)).next/\Turn d.heap.size p w c w2 f):=⟨ar,ab.2.2.trans au⟩
   clear ar au av ao aM aN aO aP;go_wp2_with fail;go_roundg (ms.length-(j+1))
   case measure=>rw[ab.out.1];omega
   case rel=>exact⟨j+1,f,rfl,by omega,by go_num,by rw[aV.out];go_num,aw.1,aw.2⟩
  ·have I:j=ms.length:=by omega
   have aI:(ms.length:Int)<=(j:Int):=by omega
   have J:Hid (Gt wr d.heap.size p l (zB ms 256).1 acts pushed (xA (zB ms 256).1 ms ms.length).starts (xA (zB ms 256).1 ms ms.length).ends (xA (zB ms 256).1 ms ms.length).next/\Keep d.heap.size p d wr/\l={c with starts:=l.starts,next:=l.next,ends:=l.ends}):=by
    rw[<-I];refine⟨?_,E.2.trans u.keep,u.same⟩;rw[I] at g ⊢;exact g
   clear F g u I;go_wp2_with fail;apply aF.out;exact aB l wr J.1 J.2.1 J.2.2
theorem zLh (w:World)(S:Nat->Prop)(G W X:Value)(ms:List Sm)(acts pushed:List Int)(hold:Nat)(Y:ModesAt w S G ms)(aa:Ints w S W acts)(ab:Ints w S X pushed)(O:∀k,S k->k<w.heap.size)(o:ModesOk ms)(A:acts.length=zV ms ms.length)(ac:pushed.length=acts.length)(aS:∀i,i<acts.length->0<=acts.getD i 0)(aT:∀i,i<pushed.length->0<=pushed.getD i 0):
  Calls prog 45 #[G,W,X,iX hold] w λe w'=>Made w w' e ms acts pushed hold:=by
 have aU:Hid (ModesAt w S G ms/\Ints w S W acts/\Ints w S X pushed):=⟨Y,aa,ab⟩
 have ao:Wide ms:=λm ad row aV=>by
  obtain⟨i,B,rfl⟩:=List.getElem_of_mem ad;exact(o.wide i B row aV).1
 have ap:∀m∈ms,m.next.length<=200:=λm ad=>by
  obtain⟨i,B,rfl⟩:=List.getElem_of_mem ad;have aW:=vL ms (i+1) ms.length B;have bk:=o.states;have e:ms.getD i ⟨[],[],0,[]⟩=ms[i]:=by rw[lW,lV B];rfl
  rw[zS,e] at aW;omega
 have aq:=zHd w S G ms Y O ao o.three ap;have H:Hid (Ca 63 #[G] w λe w'=>∃u,e=returned (tuple #[u,iX ((zB ms 256).2:Nat)])/\OwnI w' w.heap.size u (zB ms 256).1/\Grew w w'):=aq;obtain⟨bl,bm,rfl,_⟩:=Y;obtain⟨I,ae,aX,rfl,aY,_,_,ar⟩:=aa.block (by rw[A];exact o.rules1);obtain⟨J,af,aZ,rfl,a0,_,_,aw⟩:=ab.block (by rw[ac,A];exact o.rules1);have bn:acts.length<=8:=by rw[A];exact o.rules8
 have bo:1<=acts.length:=by rw[A];exact o.rules1
 have bq:pushed.length<=8:=by omega
 have br:1<=pushed.length:=by omega
 have ⟨ax,ay,az,aA,aB⟩:=info_parts yG;have a1:Hid (∀j u,(acts.map λx=>iX x)[j]? =some u->w.cell? ((⟨I,ae,none⟩:Addr).add j)=some u):=by
  intro j u b;rw[gX] at b;obtain⟨x,K,rfl⟩:=Option.map_eq_some_iff.1 b;have ag:=(List.getElem?_eq_some_iff.1 K).1;rw[Addr.add_lit,ar j ag,lW,K];rfl
 have a2:Hid (∀j u,(pushed.map λx=>iX x)[j]? =some u->w.cell? ((⟨J,af,none⟩:Addr).add j)=some u):=by
  intro j u b;rw[gX] at b;obtain⟨x,K,rfl⟩:=Option.map_eq_some_iff.1 b;have ag:=(List.getElem?_eq_some_iff.1 K).1;rw[Addr.add_lit,aw j ag,lW,K];rfl
 have a3:=O I aY;have a4:=O J a0;clear ar aw;have aC:Hid (acts.length=zV ms ms.length/\pushed.length=acts.length):=⟨A,ac⟩
 have a5:Hid (ModesOk ms):=o;clear aq A ac aa ab o ao ap;go_enter func45,ntmps45
 refine wp_seq_k ?_;intro a6 hK0;have aD:Hid (∀a w,_->a6 a w):=hK0;clear hK0;go_wp2_with fail;apply aD.out;clear aD;refine wp_seq_k ?_;intro a7 hK1;have aE:Hid (∀a w,_->a7 a w):=hK1;clear hK1;go_wp2_with fail;refine H.mono ?_;rintro e w1 ⟨u,rfl,ah,aF⟩;have ⟨r,s,b⟩:=ah.form;subst b;have P:Hid (OwnI w1 w.heap.size (slice r (zB ms 256).1.length s) (zB ms 256).1/\Grew w w1):=⟨ah,aF⟩
 clear ah aF H;go_wp2_with fail;apply aE.out;clear aE;refine wp_seq_k ?_;intro a8 hK2;have H:Hid (∀a w,_->a8 a w):=hK2;clear hK2;go_wp2_with fail;apply H.out;clear H;obtain⟨w2,ai,z⟩:∃w2,w2=w1.alloc (.cells #[fX,zX,iX hold,nX,nX,nX,slice r (zB ms 256).1.length s,iX ((zB ms 256).2:Nat),nX,nX,nX,zX,nX] 90)/\
   Hid (zW w2 w1.heap.size ⟨fX,zX,iX hold,nX,nX,nX,slice r (zB ms 256).1.length s,iX ((zB ms 256).2:Nat),nX,nX,nX,zX,nX⟩/\OwnI w2 w.heap.size (slice r (zB ms 256).1.length s) (zB ms 256).1/\Keep w.heap.size w1.heap.size w w2):=
  ⟨_,rfl,gZ w1 _,zM P.1 (kZ _ _ lQ),P.2.lower lQ lQ |>.trans (kZ _ _ P.2.size)⟩
 rw[<-ai];have aG:w1.heap.size<w2.heap.size:=by rw[ai];simp
 have a9:=P.2.size;clear ai;refine wp_seq_k ?_;intro bb hK3;have aH:Hid (∀a w,_->bb a w):=hK3;clear hK3;have aI:=z.1.get_acts;have aJ:=z.1.fz 4;have bc:w.heap.size<=w2.heap.size:=by omega
 have aK:Hid (∀j u,(acts.map λx=>iX x)[j]? =some u->w2.cell? ((⟨I,ae,none⟩:Addr).add j)=some u):=λj u b=>by
  have f:=a1 j u b;rw[Addr.add_lit] at f ⊢;exact(gY (z.2.2.block I a3 (by omega))).trans f
 go_wp2_with (at_builtin;refine wpList_append_lies _ rfl _ _ 45 rfl w.heap.size 3 ax zX 1 8 underlying45 ay az aA aB rfl (by decide) nX 0 [] rfl (ownsRow_nil _ _ _ _) ⟨I,ae,none⟩ acts.length aX (acts.map λx=>iX x) rfl (by simp) aK (by intro u b;obtain⟨x,_,rfl⟩:=List.mem_map.1 b;rfl) (by omega) (by unfold maxLen;omega) (by omega) bc w2.heap.size rfl ?_;intro C D L M c aj bs;have p:=c.block w1.heap.size aG (by simp[Value.ownBlock]);have bd:cX L w1.heap.size 4=some nX:=(gY p).trans aI;have be:L.frozen? ⟨w1.heap.size,4,none⟩=false:=(gW p).trans aJ)
 obtain⟨d,ak,t⟩:∃d,d=L.setCell ⟨w1.heap.size,4,none⟩ (slice (qX C) acts.length D)/\
   Hid (zW d w1.heap.size ⟨fX,zX,iX hold,nX,slice (qX C) acts.length D,nX,slice r (zB ms 256).1.length s,iX ((zB ms 256).2:Nat),nX,nX,nX,zX,nX⟩/\OwnI d w.heap.size (slice r (zB ms 256).1.length s) (zB ms 256).1/\OwnI d w.heap.size (slice (qX C) acts.length D) acts/\Keep w.heap.size w1.heap.size w d):=by
  have al:=z.1.of_block p;have R:OwnI L w.heap.size (slice (qX C) acts.length D) acts:=by
   have f:=M;rw[Nat.zero_add,List.nil_append] at f;exact f
  have aL:Grew w2 L:=⟨c.os,c.output,c.size,λk q _=>c.block k q (by simp[Value.ownBlock])⟩
  have T:=zM z.2.1 aL;refine⟨_,rfl,al.set_acts _,zD T λk _ _ q=>lJ _ _ _ _ (λe=>jR al T (by decide) (by rw[q];exact congrArg some e.symm)),zD R λk _ _ q=>lJ _ _ _ _ (λe=>jR al R (by decide) (by rw[q];exact congrArg some e.symm)),(z.2.2.trans (aL.lower (by omega) (by omega))).trans (Keep.set _ _ _)⟩
 rw[<-ak];have bf:w1.heap.size<d.heap.size:=by rw[ak,zC];exact lZ aG c.size
 clear ak M c aj p bd be aI aJ z aK;apply aH.out;clear aH;refine wp_seq_k ?_;intro bg hK4;have aM:Hid (∀a w,_->bg a w):=hK4;clear hK4;have y5:=t.1.get_pushed;have aN:=t.1.fz 5;have aO:w.heap.size<=d.heap.size:=by omega
 have aP:Hid (∀j u,(pushed.map λx=>iX x)[j]? =some u->d.cell? ((⟨J,af,none⟩:Addr).add j)=some u):=λj u b=>by
  have f:=a2 j u b;rw[Addr.add_lit] at f ⊢;exact(gY (t.2.2.2.block J a4 (by omega))).trans f
 go_wp2_with (at_builtin;refine wpList_append_lies _ rfl _ _ 45 rfl w.heap.size 3 ax zX 1 8 underlying45 ay az aA aB rfl (by decide) nX 0 [] rfl (ownsRow_nil _ _ _ _) ⟨J,af,none⟩ pushed.length aZ (pushed.map λx=>iX x) rfl (by simp) aP (by intro u b;obtain⟨x,_,rfl⟩:=List.mem_map.1 b;rfl) (by omega) (by unfold maxLen;omega) (by omega) aO d.heap.size rfl ?_;intro E F y M c aj bt;have p:=c.block w1.heap.size bf (by simp[Value.ownBlock]);have bh:cX y w1.heap.size 5=some nX:=(gY p).trans y5;have bi:y.frozen? ⟨w1.heap.size,5,none⟩=false:=(gW p).trans aN)
 obtain⟨N,aQ,aR⟩:∃N,N=y.setCell ⟨w1.heap.size,5,none⟩ (slice (qX E) pushed.length F)/\
   Hid (Gt N w.heap.size w1.heap.size ⟨fX,zX,iX hold,nX,slice (qX C) acts.length D,slice (qX E) pushed.length F,slice r (zB ms 256).1.length s,iX ((zB ms 256).2:Nat),nX,nX,nX,zX,nX⟩ (zB ms 256).1 acts pushed [] [] []/\Keep w.heap.size w1.heap.size w N):=by
  have am:=t.1.of_block p;have bj:OwnI y w.heap.size (slice (qX E) pushed.length F) pushed:=by
   have f:=M;rw[Nat.zero_add,List.nil_append] at f;exact f
  have an:Grew d y:=⟨c.os,c.output,c.size,λk q _=>c.block k q (by simp[Value.ownBlock])⟩
  have T:=zM t.2.1 an;have R:=zM t.2.2.1 an;have fin:∀{v l},OwnI y w.heap.size v l->Fin (y.setCell ⟨w1.heap.size,5,none⟩ (slice (qX E) pushed.length F)) (Rest (y.setCell ⟨w1.heap.size,5,none⟩ (slice (qX E) pushed.length F)) w1.heap.size ⟨fX,zX,iX hold,nX,slice (qX C) acts.length D,slice (qX E) pushed.length F,slice r (zB ms 256).1.length s,iX ((zB ms 256).2:Nat),nX,nX,nX,zX,nX⟩) w.heap.size v l:=λU=>
   ⟨zD U λk _ _ q=>lJ _ _ _ _ (λe=>jR am U (by decide) (by rw[q];exact congrArg some e.symm)),λg V=>⟨by rw[zC];exact(World.ownsRow.lt U g V).2,λe=>jR am U (by decide) (by rw[V,e]),by simp[Value.ownBlock],by simp[Value.ownBlock],by simp[Value.ownBlock]⟩⟩
  refine⟨_,rfl,⟨am.set_pushed _,OwnI.nil _ _,OwnI.nil _ _,⟨λ_=>nX,ownsRow_nil _ _ _ _,λi B=>by simp at B⟩,fin T,fin R,fin bj,by rw[zC];exact lY aO c.size,λg V=>by simp[Value.ownBlock] at V⟩,(t.2.2.2.trans (an.lower (by omega) (by omega))).trans (Keep.set _ _ _)⟩
 rw[<-aQ];clear aQ M c aj p bh bi y5 aN t aP;apply aM.out;clear aM;exact zQK w N S w1.heap.size _ ms acts pushed hold _ aU.1 O aR.1 a5 a9 aC.1 aS aC.2 aT rfl rfl rfl rfl rfl rfl rfl aR.2
section
variable {w w':World} {v:Value}
def In (w:World)(k:Nat):Prop:=k<w.heap.size
theorem Ints.grown {l:List Int}(d:Ints w (In w) v l)(c:Grew w w'):Ints w' (In w') v l:=
 (d.keep λb a=>c.block b a (kJ a)).mono λ_ a=>lZ a c.size
theorem Bools.grown {l:List Bool}(d:Bools w (In w) v l)(c:Grew w w'):Bools w' (In w') v l:=
 (d.keep λb a=>c.block b a (kJ a)).mono λ_ a=>lZ a c.size
theorem IntRows.grown {l:List (List Int)}(d:IntRows w (In w) v l)(c:Grew w w'):IntRows w' (In w') v l:=
 (d.keep λb a=>c.block b a (kJ a)).mono λ_ a=>lZ a c.size
theorem BoolsAt.grown {n:Nat}{f:Nat->Bool}(d:BoolsAt w (In w) v n f)(c:Grew w w'):BoolsAt w' (In w') v n f:=by
 have ⟨b,o,cap,a,r⟩:=d.keep λb a=>c.block b a (kJ a);exact⟨b,o,cap,lZ a c.size,r⟩
theorem OwnF.at {H n:Nat}{v:Value}{f:Nat->Bool}(a:OwnF w H v n f)(b:0<n):BoolsAt w (In w) v n f:=by
 have ⟨g,cap,c,m,d,e,j,k,_⟩:=Row.get a b;exact⟨g,0,cap,d,c,e,j,λi l=>by rw[Nat.zero_add];exact k i l⟩
theorem zA {b i:Nat}{x:Value}(a:w.cell? ⟨b,i,none⟩=some x)(c:b<w.heap.size)(d:Grew w w'):w'.cell? ⟨b,i,none⟩=some x:=(gY (d.block b c (by omega))).trans a
structure TblAt (w:World)(nv rv:Value)(m:Sm):Prop where
 next:IntRows w (In w) nv m.next
 rules:Ints w (In w) rv m.rules
theorem TblAt.grown {a rv:Value}{m:Sm}(b:TblAt w a rv m)(c:Grew w w'):TblAt w' a rv m:=⟨b.next.grown c,b.rules.grown c⟩
structure Sm.Tbl (m:Sm):Prop where
 one:1<=m.next.length
 most:m.next.length<=200
 rules:m.rules.length=m.next.length
 rows:∀i,i<m.next.length->(m.next.getD i []).length=256
 to:∀i b,i<m.next.length->b<256->0<=(m.next.getD i []).getD b 0/\(m.next.getD i []).getD b 0<m.next.length
def zDp (m:Sm)(s:Nat):Bool:=m.rules.getD s 0 != -1
def zCN (s:Nat):Bool:=(s:Int) != 0
def zCM (one:Nat)(s:Nat):Bool:=(s:Int)==(one:Int)
def vY (a b:Nat->Bool)(s:Nat):Bool:=a s&& !b s
theorem zD3 (w:World)(g rv:Value)(m:Sm)(c:TblAt w g rv m)(h:m.Tbl):
  Calls prog 140 #[agg #[g,rv,iX m.start]] w λe w'=>∃u,e=returned u/\OwnF w' w.heap.size u (m.rules.length) (zDp m)/\Grew w w':=by
 have ⟨r,s,t,v,y⟩:=info_parts vR;have T:=vl c;obtain⟨U,V,rfl,W,X,Y⟩:=c.next
 obtain⟨aa,ab,rfl,ac,ad,z⟩:=c.rules;have A:=vl z;have B:=vl h.rules;have ae:m.rules.length<=200:=by rw[B.out];exact h.most
 go_in;go_wp2;go_loopg [3,9] (m.rules.length) (λq C i wr=>∃j:Nat,q=m.rules.length-j/\j<=m.rules.length/\i=iX (j:Int)/\OwnF wr w.heap.size C j (zDp m)/\Grew w wr)
 case atStart=>exact⟨0,rfl,lX,rfl,OwnF.nil _ _ _,kZ _ _ lQ⟩
 case round=>
  obtain⟨j,D,af,rfl,a,d⟩:=hrel;have f:Hid (gk=m.rules.length-j/\Grew w wr):=⟨D,d⟩
  have ⟨ao,cap,E⟩:=a.form;subst E;have F:=d.size;have k:=vl a;by_cases G:j<m.rules.length
  ·have H:(j:Int)<((m.rules.length:Nat):Int):=by omega
   obtain⟨b,o,rfl,I,J⟩:=A j G;have ag:=zA J I d;have K:Hid (zDp m j=(m.rules.getD j 0 != -1)):=rfl;generalize m.rules.getD j 0=x at *;go_wp2_with (at_builtin;refine wpList_append_lies _ rfl _ _ 28 rfl (w.heap.size) 4 r fX 1 1 underlying28 s t v y rfl (by decide) _ _ _ rfl (k.alloc _) ⟨wr.heap.size,0,none⟩ 1 1 [bool (x != -1)] rfl rfl (cell_one_new _ _ _) (by intro u l;simp at l;subst l;rfl) (by decide) (by unfold maxLen;omega) (by omega) (by simp;omega) _ rfl ?_;intro L M w2 N O ah ai;have P:=xH k O F)
   have p:Hid (OwnF w2 w.heap.size (slice (qX L) (j+1) M) (j+1) (zDp m)/\Grew w w2):=⟨OwnF.snoc N K,f.2.trans (xE P)⟩
   go_wp2;go_roundg (m.rules.length-(j+1))
   case measure=>rw[f.out.1];omega
   case rel=>exact⟨j+1,rfl,by omega,by go_num,p.1,p.2⟩
  ·have R:j=m.rules.length:=by omega
   have H:((m.rules.length:Nat):Int)<=(j:Int):=by omega
   have S:Hid (OwnF wr w.heap.size (slice ao j cap) (m.rules.length) (zDp m)):=by rw[R] at a ⊢;exact a
   go_wp2;go_ret;exact⟨_,rfl,S,f.2⟩
theorem zIx (w:World)(d rv:Value)(m:Sm)(b:TblAt w d rv m)(l:m.Tbl):
  Calls prog 144 #[agg #[d,rv,iX m.start]] w λe w'=>∃u,e=returned u/\OwnF w' w.heap.size u (m.next.length) (zCN)/\Grew w w':=by
 have ⟨o,p,r,s,t⟩:=info_parts vR;have J:=vl b;obtain⟨K,L,rfl,M,N,O⟩:=b.next
 obtain⟨P,R,rfl,S,T,U⟩:=b.rules;have V:=l.most;go_in;go_wp2;go_loopg [3,8] (m.next.length) (λq v i wr=>∃j:Nat,q=m.next.length-j/\j<=m.next.length/\i=iX (j:Int)/\OwnF wr w.heap.size v j (zCN)/\Grew w wr)
 case atStart=>exact⟨0,rfl,lX,rfl,OwnF.nil _ _ _,kZ _ _ lQ⟩
 case round=>
  obtain⟨j,x,W,rfl,a,f⟩:=hrel;have c:Hid (gk=m.next.length-j/\Grew w wr):=⟨x,f⟩
  have ⟨ao,cap,y⟩:=a.form;subst y;have z:=f.size;have g:=vl a;by_cases X:j<m.next.length
  ·have A:(j:Int)<((m.next.length:Nat):Int):=by omega
   have B:Hid (zCN j=((j:Int) != 0)):=rfl;go_wp2_with (at_builtin;refine wpList_append_lies _ rfl _ _ 28 rfl (w.heap.size) 4 o fX 1 1 underlying28 p r s t rfl (by decide) _ _ _ rfl (g.alloc _) ⟨wr.heap.size,0,none⟩ 1 1 [bool ((j:Int) != 0)] rfl rfl (cell_one_new _ _ _) (by intro u h;simp at h;subst h;rfl) (by decide) (by unfold maxLen;omega) (by omega) (by simp;omega) _ rfl ?_;intro C D w2 E F Y aa;have G:=xH g F z)
   have k:Hid (OwnF w2 w.heap.size (slice (qX C) (j+1) D) (j+1) (zCN)/\Grew w w2):=⟨OwnF.snoc E B,c.2.trans (xE G)⟩
   go_wp2;go_roundg (m.next.length-(j+1))
   case measure=>rw[c.out.1];omega
   case rel=>exact⟨j+1,rfl,by omega,by go_num,k.1,k.2⟩
  ·have H:j=m.next.length:=by omega
   have A:((m.next.length:Nat):Int)<=(j:Int):=by omega
   have I:Hid (OwnF wr w.heap.size (slice ao j cap) (m.next.length) (zCN)):=by rw[H] at a ⊢;exact a
   go_wp2;go_ret;exact⟨_,rfl,I,c.2⟩
theorem zK6 (w:World)(d rv:Value)(m:Sm)(b:TblAt w d rv m)(l:m.Tbl)(one:Nat):
  Calls prog 148 #[agg #[d,rv,iX m.start],iX one] w λe w'=>∃u,e=returned u/\OwnF w' w.heap.size u (m.next.length) (zCM one)/\Grew w w':=by
 have ⟨o,p,r,s,t⟩:=info_parts vR;have J:=vl b;obtain⟨K,L,rfl,M,N,O⟩:=b.next
 obtain⟨P,R,rfl,S,T,U⟩:=b.rules;have V:=l.most;go_in;go_wp2;go_loopg [5,10] (m.next.length) (λq v i wr=>∃j:Nat,q=m.next.length-j/\j<=m.next.length/\i=iX (j:Int)/\OwnF wr w.heap.size v j (zCM one)/\Grew w wr)
 case atStart=>exact⟨0,rfl,lX,rfl,OwnF.nil _ _ _,kZ _ _ lQ⟩
 case round=>
  obtain⟨j,x,W,rfl,a,f⟩:=hrel;have c:Hid (gk=m.next.length-j/\Grew w wr):=⟨x,f⟩
  have ⟨ao,cap,y⟩:=a.form;subst y;have z:=f.size;have g:=vl a;by_cases X:j<m.next.length
  ·have A:(j:Int)<((m.next.length:Nat):Int):=by omega
   have B:Hid (zCM one j=((j:Int)==(one:Int))):=rfl;go_wp2_with (at_builtin;refine wpList_append_lies _ rfl _ _ 28 rfl (w.heap.size) 4 o fX 1 1 underlying28 p r s t rfl (by decide) _ _ _ rfl (g.alloc _) ⟨wr.heap.size,0,none⟩ 1 1 [bool ((j:Int)==(one:Int))] rfl rfl (cell_one_new _ _ _) (by intro u h;simp at h;subst h;rfl) (by decide) (by unfold maxLen;omega) (by omega) (by simp;omega) _ rfl ?_;intro C D w2 E F Y aa;have G:=xH g F z)
   have k:Hid (OwnF w2 w.heap.size (slice (qX C) (j+1) D) (j+1) (zCM one)/\Grew w w2):=⟨OwnF.snoc E B,c.2.trans (xE G)⟩
   go_wp2;go_roundg (m.next.length-(j+1))
   case measure=>rw[c.out.1];omega
   case rel=>exact⟨j+1,rfl,by omega,by go_num,k.1,k.2⟩
  ·have H:j=m.next.length:=by omega
   have A:((m.next.length:Nat):Int)<=(j:Int):=by omega
   have I:Hid (OwnF wr w.heap.size (slice ao j cap) (m.next.length) (zCM one)):=by rw[H] at a ⊢;exact a
   go_wp2;go_ret;exact⟨_,rfl,I,c.2⟩
theorem zDq (w:World)(va vb:Value)(n:Nat)(fa fb:Nat->Bool)(hA:BoolsAt w (In w) va n fa)(hB:BoolsAt w (In w) vb n fb)(hn:n<=200):
  Calls prog 143 #[va,vb] w λe w'=>∃u,e=returned u/\OwnF w' w.heap.size u (n) (vY fa fb)/\Grew w w':=by
 obtain⟨i0,hi0,hz0,hz1,hz2⟩:=info_parts vR;obtain⟨ba,oa,ca,hba,rfl,_,_,hca⟩:=hA;obtain⟨bb,ob,cb,hbb,rfl,_,_,hcb⟩:=hB;have HCA:=vl hca;have HCB:=vl hcb;go_in;go_wp2;go_loopg [5,10] (n) (λq lst i wr=>∃j:Nat,q=n-j/\j<=n/\i=iX (j:Int)/\OwnF wr w.heap.size lst j (vY fa fb)/\Grew w wr)
 case atStart=>exact⟨0,rfl,lX,rfl,OwnF.nil _ _ _,Keep.refl _ _ _⟩
 case round=>
  obtain⟨j,hgk,hj,rfl,ho,hkp⟩:=hrel;have HA:Hid (gk=n-j/\Grew w wr):=⟨hgk,hkp⟩
  obtain⟨ao,cap,hv⟩:=ho.form;subst hv;have hszr:=hkp.size;have OR:=vl ho;by_cases hj2:j<n
  ·have i1:(j:Int)<((n:Nat):Int):=by omega
   have ya:=zA (HCA j hj2) hba hkp;have yb:=zA (HCB j hj2) hbb hkp;have HV:Hid (vY fa fb j=(fa j&& !fb j)):=rfl;generalize fa j=xa at *;generalize fb j=xb at *;cases xa with
   |true=>
    go_wp2_with (first|(at_builtin;refine wpList_append_lies _ rfl _ _ 28 rfl (w.heap.size) 4 i0 fX 1 1 underlying28 hi0 hz0 hz1 hz2 rfl (by decide) _ _ _ rfl (OR.alloc _) ⟨wr.heap.size,0,none⟩ 1 1 [bool (!xb)] rfl rfl (cell_one_new _ _ _) (by intro u hu;simp at hu;subst hu;rfl) (by decide) (by unfold maxLen;omega) (by omega) (by simp;omega) _ rfl ?_;intro gg cap2 w2 hown hgrow hat hlt2;have hB:=xH OR hgrow hszr))
    have O2:Hid (OwnF w2 w.heap.size (slice (qX gg) (j+1) cap2) (j+1) (vY fa fb)/\Grew w w2):=⟨OwnF.snoc hown HV,HA.2.trans (xE hB)⟩
    go_wp2;go_roundg (n-(j+1))
    case measure=>rw[HA.out.1];omega
    case rel=>exact⟨j+1,rfl,by omega,by go_num,O2.1,O2.2⟩
   |false=>
    go_wp2_with (first|(at_builtin;refine wpList_append_lies _ rfl _ _ 28 rfl (w.heap.size) 4 i0 fX 1 1 underlying28 hi0 hz0 hz1 hz2 rfl (by decide) _ _ _ rfl (OR.alloc _) ⟨wr.heap.size,0,none⟩ 1 1 [bool (false)] rfl rfl (cell_one_new _ _ _) (by intro u hu;simp at hu;subst hu;rfl) (by decide) (by unfold maxLen;omega) (by omega) (by simp;omega) _ rfl ?_;intro gg cap2 w2 hown hgrow hat hlt2;have hB:=xH OR hgrow hszr))
    have O2:Hid (OwnF w2 w.heap.size (slice (qX gg) (j+1) cap2) (j+1) (vY fa fb)/\Grew w w2):=⟨OwnF.snoc hown HV,HA.2.trans (xE hB)⟩
    go_wp2;go_roundg (n-(j+1))
    case measure=>rw[HA.out.1];omega
    case rel=>exact⟨j+1,rfl,by omega,by go_num,O2.1,O2.2⟩
  ·have hje:j=n:=by omega
   have i1:((n:Nat):Int)<=(j:Int):=by omega
   have HZ:Hid (OwnF wr w.heap.size (slice ao j cap) (n) (vY fa fb)):=by rw[hje] at ho ⊢;exact ho
   go_wp2;go_ret;exact⟨_,rfl,HZ,HA.2⟩
end
def zBn (n:Nat)(f:Nat->Bool):Int:=if(List.range n).findIdx f<n then((List.range n).findIdx f:Int) else -1
theorem zFu (w:World)(v:Value)(n:Nat)(f:Nat->Bool)(m:BoolsAt w (In w) v n f)(t:n<=200):
  Calls prog 142 #[v] w λe w'=>e=returned (iX (zBn n f))/\w'=w:=by
 obtain⟨u,x,z,A,rfl,_,_,o⟩:=m;have q:=vl o;go_in;go_wp2;go_loop [7] (λi=>∃j:Nat,j<=n/\i=iX j/\∀a,a<j->f a=false) (λi=>n-(intOf i).toNat)
 case atStart=>exact⟨0,lX,rfl,λa b=>by omega⟩
 case round=>
  obtain⟨j,B,rfl,r⟩:=hrel;have g:=vl r;by_cases k:j<n
  ·have s:(j:Int)<(n:Int):=by omega
   have y:=q j k;cases d:f j with
   |true=>
    rw[d] at y;have c:Hid (zBn n f=(j:Int)):=by
     have e:(List.range n).findIdx f=j:=by
      rw[List.findIdx_eq (by simpa using k)];exact⟨by simpa using d,λa b=>by simpa using g a (by simpa using b)⟩
     show _=_;unfold zBn;rw[e,if_pos k]
    go_wp2;go_ret;exact⟨zAr c.symm,rfl⟩
   |false=>
    rw[d] at y;have c:=vl d;go_wp2;exact⟨⟨j+1,by omega,by go_num,λa b=>by(by_cases e:a=j;exact e ▸ c;exact g a (by omega))⟩,by simp[intOf];omega⟩
  ·have s:(n:Int)<=(j:Int):=by omega
   have c:Hid (zBn n f=-1):=by
    have l:=List.findIdx_eq_length (xs:=List.range n) (p:=f);rw[List.length_range] at l;have e:=l.2 λa b=>g a (by have:=List.mem_range.1 b;omega);show _=_;unfold zBn;rw[e,if_neg (Nat.lt_irrefl _)]
   go_wp2;go_ret;exact⟨zAr c.symm,rfl⟩
def hasRuleB (m:Sm)(rule:Int):Bool:=m.rules.any (·==rule)
theorem zHi (w:World)(g rv:Value)(m:Sm)(k:TblAt w g rv m)(p:m.Tbl)(rule:Nat):
  Calls prog 69 #[agg #[g,rv,iX m.start],iX rule] w λe w'=>e=returned (bool (hasRuleB m rule))/\Grew w w':=by
 obtain⟨F,G,rfl,H,I,J⟩:=k.next
 obtain⟨K,L,rfl,M,N,y⟩:=k.rules;have z:=vl y;have A:=vl p.rules;have O:m.rules.length<=200:=by rw[A.out];exact p.most
 go_in;go_wp2;go_loopg [10] m.rules.length (λq i wr=>∃j:Nat,q=m.rules.length-j/\j<=m.rules.length/\i=iX (j:Int)/\(m.rules.take j).any (·==(rule:Int))=false/\Grew w wr)
 case atStart=>exact⟨0,rfl,lX,rfl,rfl,kZ _ _ lQ⟩
 case round=>
  obtain⟨j,r,P,rfl,s,f⟩:=hrel;have a:Hid (gk=m.rules.length-j/\(m.rules.take j).any (·==(rule:Int))=false/\Grew w wr):=⟨r,s,f⟩
  by_cases c:j<m.rules.length
  ·have B:(j:Int)<(m.rules.length:Int):=by omega
   obtain⟨b,o,rfl,C,t⟩:=z j c;have R:=zA t C f;have D:Hid ((m.rules.take (j+1)).any (·==(rule:Int))=((m.rules.take j).any (·==(rule:Int))||(m.rules.getD j 0==(rule:Int)))):=by
    show _=_;rw[List.take_succ_eq_append_getElem c,List.any_append,lW,lV c];simp
   have E:Hid ((m.rules.getD j 0==(rule:Int))=true->hasRuleB m rule=true):=by
    intro u;unfold hasRuleB;rw[List.any_eq_true];rw[lW,lV c] at u;exact⟨m.rules[j],List.getElem_mem c,u⟩
   clear r s f t;generalize m.rules.getD j 0=x at *;cases v:(x==(rule:Int)) with
   |true=>
    have d:=vl <| E v;go_wp2;go_ret;exact⟨vG d.symm,a.2.2⟩
   |false=>
    have d:Hid ((m.rules.take (j+1)).any (·==(rule:Int))=false):=by show _=_;rw[D.out,a.out.2.1,v];rfl
    go_wp2;go_roundg (m.rules.length-(j+1))
    case measure=>rw[a.out.1];omega
    case rel=>exact⟨j+1,rfl,by omega,by go_num,d,a.2.2⟩
  ·have B:(m.rules.length:Int)<=(j:Int):=by omega
   have d:Hid (hasRuleB m rule=false):=by
    show _=_;unfold hasRuleB;rw[<-List.take_of_length_le (l:=m.rules) (i:=j) (by omega)];exact a.2.1
   go_wp2;go_ret;exact⟨vG d.symm,a.2.2⟩
def qZ (a b:Int):Int:=if a<0\/b<0 then -1 else if a>b then a else b
theorem zIJ (w:World)(a b:Int):
  Calls prog 68 #[iX a,iX b] w λe w'=>e=returned (iX (qZ a b))/\w'=w:=by
 by_cases f:a<0
 ·have c:Hid (qZ a b=-1):=if_pos (.inl f)
  go_in;go_wp2;go_ret;exact⟨zAr c.symm,rfl⟩
 ·have h:0<=a:=by omega
  by_cases g:b<0
  ·have c:Hid (qZ a b=-1):=if_pos (.inr g)
   go_in;go_wp2;go_ret;exact⟨zAr c.symm,rfl⟩
  ·have j:0<=b:=by omega
   by_cases d:a>b
   ·have c:Hid (qZ a b=a):=by show _=_;unfold qZ;rw[if_neg (by omega),if_pos d]
    go_in;go_wp2;go_ret;exact⟨zAr c.symm,rfl⟩
   ·have k:a<=b:=by omega
    have c:Hid (qZ a b=b):=by show _=_;unfold qZ;rw[if_neg (by omega),if_neg d]
    go_in;go_wp2;go_ret;exact⟨zAr c.symm,rfl⟩
def yH (ahead:Int)(kinds:Nat):Bool:=decide (0<=ahead)&&decide (zG kinds ahead.toNat<=3000)
theorem zGy (w:World)(ahead:Int)(kinds:Nat)(d:kinds<=256)(f:ahead<=255):
  Calls prog 70 #[iX ahead,iX kinds] w λe w'=>e=returned (bool (yH ahead kinds))/\w'=w:=by
 by_cases b:0<=ahead
 ·obtain⟨n,rfl⟩:∃n:Nat,ahead=(n:Int):=⟨ahead.toNat,by omega⟩
  have a:Hid (yH n kinds=decide (zG kinds n<=3000)):=by
   show _=_;unfold yH;rw[gG b,Int.toNat_natCast];rfl
  go_in;go_wp2_with fail;refine(zDK kinds n w d (by omega)).mono ?_;rintro e w1 ⟨rfl,rfl⟩;go_wp2;go_ret;refine⟨vG ?_,rfl⟩;rw[a.out];by_cases c:zG kinds n<=3000
  ·simp[c];omega
  ·simp[c];omega
 ·have a:Hid (yH ahead kinds=false):=by
   show _=_;unfold yH;rw[gJ b];rfl
  have g:ahead<0:=by omega
  go_in;go_wp2;go_ret;exact⟨vG a.symm,rfl⟩
section
variable (m:Sm) (f:Nat->Bool) (s k t:Nat)
def yU (m:Sm)(from_:Nat->Bool)(s t:Nat):Bool:=((t:Int) != 0)&&(List.range s).any λi=>from_ i&&(m.next.getD i []).any (·==(t:Int))
def jQ (m:Sm)(from_:Nat->Bool)(t:Nat):Bool:=yU m from_ m.next.length t
def vF (m:Sm)(from_:Nat->Bool)(s k t:Nat):Bool:=((t:Int) != 0)&&(((List.range s).any λi=>from_ i&&(m.next.getD i []).any (·==(t:Int)))||((m.next.getD s []).take k).any (·==(t:Int)))
theorem zId:vF m f s 0 t=yU m f s t:=by simp[vF,yU]
theorem zJD (a:f s=true)(b:(m.next.getD s []).length<=k):vF m f s k t=yU m f (s+1) t:=by
 unfold vF yU;rw[List.take_of_length_le b,List.range_succ,List.any_append];simp[a]
theorem zK0 (a:f s=false):yU m f (s+1) t=yU m f s t:=by
 unfold yU;rw[List.range_succ,List.any_append];simp[a]
theorem zIe (s k t x:Nat)(a:k<(m.next.getD s []).length)(c:(m.next.getD s []).getD k 0=(x:Int)):vF m f s (k+1) t=if t=x then((x:Int) != 0) else vF m f s k t:=by
 unfold vF;rw[List.take_succ_eq_append_getElem a,List.any_append];have e:(m.next.getD s [])[k]=(x:Int):=by rw[<-c,lW (l:=m.next.getD s []),lV a];rfl
 rw[e];by_cases b:t=x
 ·subst b
  simp
 ·have d:((x:Int)==(t:Int))=false:=by rw[hX];omega
  rw[if_neg b];simp[d]
theorem zDt (w:World)(R rv S:Value)(m:Sm)(T:TblAt w R rv m)(F:m.Tbl)(f:Nat->Bool)(al:BoolsAt w (In w) S m.next.length f):
  Calls prog 141 #[agg #[R,rv,iX m.start],S] w λe w'=>∃u,e=returned u/\OwnF w' w.heap.size u m.next.length (jQ m f)/\Grew w w':=by
 have ⟨am,ao,ap,aq,au⟩:=info_parts vR;obtain⟨G,H,rfl,a4,a5,av⟩:=T.next
 obtain⟨U,V,rfl,a6,a7,a8⟩:=T.rules;obtain⟨aw,of_,a9,ax,rfl,_,_,ay⟩:=al;have az:=vl av;have aA:=vl ay;have W:Hid m.Tbl:=F;have ba:=F.most;have bb:=F.one;have aB:Hid (∀t,jQ m f t=yU m f m.next.length t):=λt=>rfl;have aC:Hid (∀t,yU m f 0 t=false):=λt=>by simp[yU]
 generalize aD:m.next.length=n at *
 have I:=vl aD;have aE:Grew w (w.alloc (.cells #[slice G n H,slice U m.rules.length V,iX m.start] 127)):=kZ _ _ lQ;obtain⟨w1,X,Y,aF⟩:∃w1,w1=w.alloc (.cells #[slice G n H,slice U m.rules.length V,iX m.start] 127)/\Hid (Grew w w1/\w1.cell? ⟨w.heap.size,0,none⟩=some (slice G n H))/\w.heap.size<w1.heap.size:=by
  refine⟨_,rfl,⟨aE,?_⟩,by simp⟩;unfold cell?;rw[gZ w _];rfl
 have ⟨w2,aG,aH,r⟩:=run_makeSlice_full (P:=prog) w1 w.heap.size 28 4 am _ 1 underlying28 ao ap aq i64 i64 n (by omega) (by rw[au];omega) (by unfold maxLen;omega) (by omega);have aa:Hid (Row w2 w.heap.size 4 (slice (qX w1.heap.size) n n) n (λt=>bool (yU m f 0 t))/\Grew w w2):=by
  have v:Grew w1 w2:=⟨r.os,r.output,r.size,λk C _=>r.block k C (by simp)⟩
  refine⟨?_,Y.1.trans (v.lower (by omega) (by omega))⟩;have j:=aH;rw[Nat.mul_one,zAO _ rfl] at j;exact Row.congr j λi _=>by rw[aC.out i]
 have ab:=Y.2;have aI:=(gY (r.block w.heap.size aF (by simp))).trans ab;go_in;apply wp_cut;intro bc ac;go_wp2_with fail;apply ac.out;clear ac;rw[<-X];clear X;go_wp2_with fail;clear aG ab aI;go_loopg [17] n (λq i wr=>∃s:Nat,q=n-s/\s<=n/\i=iX (s:Int)/\Row wr w.heap.size 4 (slice (qX w1.heap.size) n n) n (λt=>bool (yU m f s t))/\Grew w wr)
 case atStart=>exact⟨0,rfl,lX,rfl,aa.1,aa.2⟩
 case round=>
  obtain⟨s,l,bd,rfl,a,c⟩:=hrel;have p:Hid (gk=n-s/\Row wr w.heap.size 4 (slice (qX w1.heap.size) n n) n (λt=>bool (yU m f s t))/\Grew w wr):=⟨l,a,c⟩
  by_cases D:s<n
  ·have aJ:(s:Int)<(n:Int):=by omega
   obtain⟨b,o,u,rfl,J,ad,ae⟩:=az s D;have y:=W.rows s (by rw[I.out];exact D);obtain⟨K,L,aK,rfl,aL,_,_,af⟩:=ae.block (by omega);have aM:wr.cell? ⟨b,o+s,none⟩=some (slice (some ⟨K,L,none⟩) 256 aK):=by rw[<-y];exact zA ad J c
   have M:wr.cell? ⟨aw,of_+s,none⟩=some (bool (f s)):=zA (aA s D) ax c;have aN:Hid (∀i,i<256->w.cell? ⟨K,L+i,none⟩=some (iX ((m.next.getD s []).getD i 0))):=by
    intro i aO;exact af i (by rw[y];exact aO)
   have aP:Hid (∀b,b<256->0<=(m.next.getD s []).getD b 0/\(m.next.getD s []).getD b 0<n):=λb J=>by
    have j:=W.to s b (by rw[I.out];exact D) J;rw[I.out] at j;exact j
   have aQ:Hid (∀k t x,k<256->(m.next.getD s []).getD k 0=((x:Nat):Int)->vF m f s (k+1) t=if t=x then((x:Int) != 0) else vF m f s k t):=λk t x C z=>zIe m f s k t x (by rw[y];exact C) z;have aR:Hid (f s=true->∀t,vF m f s 256 t=yU m f (s+1) t):=λd t=>zJD m f s 256 t d (by rw[y];exact lQ);have aS:Hid (f s=false->∀t,yU m f (s+1) t=yU m f s t):=λd t=>zK0 m f s t d;clear l a c ad ae af y;cases d:f s with
   |false=>
    rw[d] at M;have A:=aS d;have N:Hid (∀t,yU m f (s+1) t=yU m f s t):=A;clear d A;go_wp2_with fail;go_roundg (n-(s+1))
    case measure=>rw[p.out.1];omega
    case rel=>exact⟨s+1,rfl,by omega,by go_num,p.2.1.congr λt _=>by rw[N.out t],p.2.2⟩
   |true=>
    rw[d] at M;have A:=aR d;have N:Hid (∀t,vF m f s 256 t=yU m f (s+1) t):=A;clear d A;go_wp2_with fail;clear aM M;go_loopg [29] 256 (λq i wr=>∃k:Nat,q=256-k/\k<=256/\i=iX (k:Int)/\Row wr w.heap.size 4 (slice (qX w1.heap.size) n n) n (λt=>bool (vF m f s k t))/\Grew w wr)
    case atStart=>exact⟨0,rfl,lX,rfl,p.2.1.congr λt _=>by rw[zId],p.2.2⟩
    case round=>
     obtain⟨k,l,C,rfl,a,c⟩:=hrel;have E:Hid (gk=256-k/\Row wr w.heap.size 4 (slice (qX w1.heap.size) n n) n (λt=>bool (vF m f s k t))/\Grew w wr):=⟨l,a,c⟩
     by_cases v:k<256
     ·have aT:(k:Int)<256:=by omega
      have aU:wr.cell? ⟨K,L+k,none⟩=some (iX ((m.next.getD s []).getD k 0)):=zA (aN k v) aL c;have ⟨aV,aW⟩:=aP k v;obtain⟨x,z⟩:∃x:Nat,(m.next.getD s []).getD k 0=(x:Int):=⟨((m.next.getD s []).getD k 0).toNat,by omega⟩
      have aX:Hid (∀t,vF m f s (k+1) t=if t=x then((x:Int) != 0) else vF m f s k t):=λt=>aQ k t x v z;rw[z] at aU aV aW;have aY:x<n:=by omega
      have ⟨g,be,ag,aZ,a0,a1,a2,ah,ai⟩:=a.get (by omega);have a3:g=w1.heap.size:=by injection ag with B _ _;injection B with B;injection B with B;exact B.symm
      subst a3;have bg:wr.cell? ⟨w1.heap.size,x,none⟩=some (bool (vF m f s k x)):=ah x aY;have zl:=ai x;clear l a c ag aZ a0 a1 a2 ah ai z;go_wp2_with fail;go_roundg (256-(k+1))
      case measure=>rw[E.out.1];omega
      case rel=>
       refine⟨k+1,rfl,by omega,by go_num,?_,E.2.2.trans (zP _ _ _ _ (by omega))⟩;have j:=E.2.1.set x (bool ((x:Int) != 0));refine Row.congr j λt _=>?_;rw[aX.out t];by_cases e:t=x
       ·subst e;simp
       ·simp[e]
     ·have aj:k=256:=by omega
      have aT:(256:Int)<=(k:Int):=by omega
      have O:Hid (Row wr w.heap.size 4 (slice (qX w1.heap.size) n n) n (λt=>bool (yU m f (s+1) t))):=by
       refine Row.congr a λt _=>?_;rw[aj,N.out t]
      clear l a c aj;go_wp2_with fail;go_roundg (n-(s+1))
      case measure=>rw[p.out.1];omega
      case rel=>exact⟨s+1,rfl,by omega,by go_num,O,E.2.2⟩
  ·have ak:s=n:=by omega
   have aJ:(n:Int)<=(s:Int):=by omega
   have O:Hid (OwnF wr w.heap.size (slice (qX w1.heap.size) n n) n (jQ m f)):=by
    refine Row.congr a λt _=>?_;rw[aB.out t,ak]
   clear l a c ak;go_wp2_with fail;go_ret;exact⟨_,rfl,O,p.2.2⟩
end
def qG (m:Sm):Nat->Nat->Bool
 |0=>zDp m
 |i+1=>vY (jQ m (qG m i)) (zDp m)
def zCD (m:Sm)(i:Nat):Bool:=decide (zBn m.next.length (jQ m (qG m i))<0)
def vJ (m:Sm):Int:=if(List.range (m.next.length+1)).findIdx (zCD m)<m.next.length+1 then((List.range (m.next.length+1)).findIdx (zCD m):Int) else -1
theorem zPx (m:Sm)(j:Nat)(f:j<=m.next.length)(b:zCD m j=true)(c:∀a,a<j->zCD m a=false):vJ m=(j:Int):=by
 have e:(List.range (m.next.length+1)).findIdx (zCD m)=j:=by
  rw[List.findIdx_eq (by simp;omega)];exact⟨by simpa using b,λa d=>by simpa using c a (by simpa using d)⟩
 unfold vJ;rw[e,if_pos (by omega)]
theorem zNm (m:Sm)(c:∀a,a<=m.next.length->zCD m a=false):vJ m=-1:=by
 have b:=List.findIdx_eq_length (xs:=List.range (m.next.length+1)) (p:=zCD m);rw[List.length_range] at b;have e:=b.2 λa d=>c a (by have:=List.mem_range.1 d;omega);unfold vJ;rw[e,if_neg (Nat.lt_irrefl _)]
theorem zPw (m:Sm):-1<=vJ m/\vJ m<=m.next.length:=by
 unfold vJ;split <;> omega
theorem zM5:(prog.info? 28).map (λi=>(i.zero,i.size,i.bytes))=some (some nX,1,24):=by kernel_rfl
def FrontsAt (w:World)(H:Nat)(v:Value)(d:Nat)(m:Sm):Prop:=∃rv:Nat->Value,w.ownsRow H 28 1 v d ((List.range d).map rv)/\∀i,i<d->OwnF w H (rv i) m.next.length (qG m i)
theorem FrontsAt.grown {w w':World}{H a:Nat}{v:Value}{m:Sm}(c:FrontsAt w H v a m)(b:Grew w w'):FrontsAt w' H v a m:=by
 obtain⟨rv,e,f⟩:=c;exact⟨rv,zM e b,λi g=>zM (f i g) b⟩
theorem FrontsAt.nil (w:World)(H:Nat)(m:Sm):FrontsAt w H nX 0 m:=⟨λ_=>nX,ownsRow_nil _ _ _ _,λi a=>by omega⟩
theorem FrontsAt.snoc {w w1 w2:World}{H g cap a:Nat}{v u:Value}{m:Sm}{o:Obj}(z:FrontsAt w1 H v a m)(l:OwnF w1 H u m.next.length (qG m a))(A:w=w1)(rv:Nat->Value)(p:∀i,i<a->OwnF w1 H (rv i) m.next.length (qG m i))(q:w1.ownsRow H 28 1 v a ((List.range a).map rv))
  (r:w2.ownsRow H 28 1 (slice (qX g) (a+1) cap) (a+1) ((List.range a).map rv++[u])) (s:(w1.alloc o).grownBy w2 v.ownBlock):FrontsAt w2 H (slice (qX g) (a+1) cap) (a+1) m:=by
 have b:∀{x f},OwnF w1 H x m.next.length f->OwnF w2 H x m.next.length f:=λ{x f} c=>zD c λk B t y=>(s.block k (by simp;omega) (yD c q (by decide) y)).trans (lG _ _ _ t)
 refine⟨λi=>if i=a then u else rv i,?_,λi j=>?_⟩
 ·rw[xQ,if_pos rfl]
  have e:(List.range a).map (λi=>if i=a then u else rv i)=(List.range a).map rv:=List.map_congr_left λi j=>if_neg (by have:=List.mem_range.1 j;omega);rw[e];exact r
 ·by_cases e:i=a
  ·subst e
   simp only[if_true];exact b l
  ·show OwnF w2 H (if i=a then u else rv i) _ _
   rw[if_neg e];exact b (p i (by omega))
theorem zGE (w:World)(W rv:Value)(m:Sm)(X:TblAt w W rv m)(J:m.Tbl):
  Calls prog 104 #[agg #[W,rv,iX m.start]] w λe w'=>Grew w w'/\
   ((vJ m=-1/\e=returned (tuple #[nX,bool false]))\/(∃Y v,vJ m=((Y:Nat):Int)/\Y<=m.next.length/\e=returned (tuple #[v,bool true])/\FrontsAt w' w.heap.size v Y m)):=by
 have ⟨a0,a1,a2,a6,a7⟩:=info_parts zM5;have K:Hid (TblAt w W rv m/\m.Tbl):=⟨X,J⟩
 obtain⟨c,g,rfl,bE,bF,bG⟩:=X.next
 obtain⟨l,o,rfl,bH,bI,bJ⟩:=X.rules;have av:=J.most;have E:=J.one;have a8:=vl J.rules;obtain⟨w1,aw,L,a9⟩:∃w1,w1=w.alloc (.cells #[slice c m.next.length g,slice l m.rules.length o,iX m.start] 127)/\Hid (Grew w w1/\w1.heap[w.heap.size]? =some (.cells #[slice c m.next.length g,slice l m.rules.length o,iX m.start] 127))/\w.heap.size<w1.heap.size:=
  ⟨_,rfl,⟨kZ _ _ lQ,gZ w _⟩,by simp⟩
 go_in;apply wp_cut;intro bK ba;go_wp2;apply ba.out;rw[<-aw];clear aw;have aa:w1.cell? ⟨w.heap.size,0,none⟩=some (slice c m.next.length g)/\w1.cell? ⟨w.heap.size,1,none⟩=some (slice l m.rules.length o)/\w1.cell? ⟨w.heap.size,2,none⟩=some (iX m.start):=by
  refine⟨?_,?_,?_⟩ <;> (unfold cell?;rw[L.out.2];rfl)
 obtain⟨ab,ac,ad⟩:=aa;go_wp2_with fail;have ax:Hid (∀y,Grew w y->Ca 140 #[agg #[slice c m.next.length g,slice l m.rules.length o,iX m.start]] y λe w'=>∃u,e=returned u/\OwnF w' y.heap.size u m.next.length (zDp m)/\Grew y w'):=λy bb=>by
  have ay:=zD3 y _ _ m (K.1.grown bb) K.2;rw[a8.out] at ay ⊢;exact ay
 refine(ax w1 L.1).mono ?_;rintro e w2 ⟨u,rfl,az,aA⟩;have ⟨bc,bd,M⟩:=az.form;subst M;have ae:Hid (OwnF w2 w.heap.size (slice bc m.next.length bd) m.next.length (qG m 0)/\Grew w w2/\w2.heap[w.heap.size]? =some (.cells #[slice c m.next.length g,slice l m.rules.length o,iX m.start] 127)):=⟨yE az (by omega),L.1.trans (aA.lower (by omega) (by omega)),(aA.block _ a9 (by omega)).trans L.2⟩
 go_wp2;go_loopg [4,5,6] (m.next.length+1) (λq fr be i wr=>∃j:Nat,q=m.next.length+1-j/\j<=m.next.length+1/\i=iX (j:Int)/\FrontsAt wr w.heap.size fr j m/\OwnF wr w.heap.size be m.next.length (qG m j)/\(∀a,a<j->zCD m a=false)/\Grew w wr/\wr.heap[w.heap.size]? =some (.cells #[slice c m.next.length g,slice l m.rules.length o,iX m.start] 127))
 case atStart=>exact⟨0,rfl,lX,rfl,FrontsAt.nil _ _ _,ae.1,λa aB=>by omega,ae.2.1,ae.2.2⟩
 case round=>
  obtain⟨j,aC,bL,rfl,aD,z,aE,af,N⟩:=hrel;have p:Hid (gk=m.next.length+1-j/\FrontsAt wr w.heap.size u4 j m/\OwnF wr w.heap.size u5 m.next.length (qG m j)/\(∀a,a<j->zCD m a=false)/\Grew w wr/\wr.heap[w.heap.size]? =some (.cells #[slice c m.next.length g,slice l m.rules.length o,iX m.start] 127)):=⟨aC,aD,z,aE,af,N⟩
  have aa:wr.cell? ⟨w.heap.size,0,none⟩=some (slice c m.next.length g)/\wr.cell? ⟨w.heap.size,1,none⟩=some (slice l m.rules.length o)/\wr.cell? ⟨w.heap.size,2,none⟩=some (iX m.start):=by
   refine⟨?_,?_,?_⟩ <;> (unfold cell?;rw[N];rfl)
  obtain⟨ab,ac,ad⟩:=aa;have A:=(kQ.1 N).1;have ⟨ag,ah,bf⟩:=z.form;subst bf;obtain⟨bM,aF,bg⟩:=aD;have ⟨O,P,bh⟩:=zF aF;subst bh;by_cases aG:j<=m.next.length
  ·have bi:(j:Int)<=(m.next.length:Int):=by omega
   have aH:=vl <| zDt wr _ _ _ m (K.1.grown af) K.2 (qG m j) (z.at E);have aI:Hid (zCD m j=decide (zBn m.next.length (jQ m (qG m j))<0)):=rfl;have bN:Hid (∀s,qG m (j+1) s=vY (jQ m (qG m j)) (zDp m) s):=λ_=>rfl;go_wp2_with fail;refine aH.mono ?_;rintro e B ⟨u3,rfl,ai,C⟩;have ⟨aJ,aK,bj⟩:=ai.form;subst bj;have r:Hid (OwnF B wr.heap.size (slice aJ m.next.length aK) m.next.length (jQ m (qG m j))/\Grew wr B/\Grew w B):=⟨ai,C,p.2.2.2.2.1.trans (C.lower (by omega) (by omega))⟩
   have aL:B.cell? ⟨w.heap.size,0,none⟩=some (slice c m.next.length g):=zA ab A C;have aM:B.cell? ⟨w.heap.size,1,none⟩=some (slice l m.rules.length o):=zA ac A C;have aN:B.cell? ⟨w.heap.size,2,none⟩=some (iX m.start):=zA ad A C;clear ai C aH ab ac ad;go_wp2_with fail;refine(zFu B _ m.next.length _ (r.1.at E) av).mono ?_;rintro e t ⟨rfl,rfl⟩;by_cases aj:zBn m.next.length (jQ m (qG m j))<0
   ·have ak:Hid (vJ m=(j:Int)):=zPx m j aG (by rw[aI.out];exact gG aj) p.2.2.2.1
    have bk:Hid (FrontsAt t w.heap.size (slice O j P) j m):=p.2.1.grown r.2.1;generalize zBn m.next.length (jQ m (qG m j))=bl at *
    go_wp2_with fail;go_ret2
    exact⟨r.2.2,.inr ⟨j,_,ak,aG,rfl,bk⟩⟩
   ·have bO:0<=zBn m.next.length (jQ m (qG m j)):=by omega
    have bm:Hid (zCD m j=false):=by show _=_;rw[aI.out];exact gJ aj
    generalize zBn m.next.length (jQ m (qG m j))=bl at *
    have ⟨R,al,aO⟩:=p.2.1.grown r.2.1;have F:Hid (t.ownsRow w.heap.size 28 1 (slice O j P) j ((List.range j).map R)):=al;have aP:Hid (∀i,i<j->OwnF t w.heap.size (R i) m.next.length (qG m i)):=aO;have bn:Hid (OwnF t w.heap.size (slice ag m.next.length ah) m.next.length (qG m j)):=zM p.2.2.1 r.2.1;have bo:w.heap.size<=t.heap.size:=r.2.2.size;have bp:w.heap.size<t.heap.size:=lZ A r.2.1.size;have bq:Hid (some w.heap.size≠Value.ownBlock (slice O j P)):=by
     intro e;rcases al.2 with⟨am,_⟩|⟨br,_,bP,am,_,bs,_⟩
     ·rw[am] at e;cases e
     ·rw[am] at e
      have bt:w.heap.size=br:=by simpa[Value.ownBlock] using e
      have D:=(r.2.1.block w.heap.size A (by omega)).trans p.2.2.2.2.2;rw[bt,bs] at D;injection D with D;injection D with _ D _;exact absurd D (by decide)
    clear al aO aj;go_wp2_with (at_builtin;refine wpList_append_lies _ rfl _ _ 188 rfl (w.heap.size) 28 a0 nX 1 24 underlying188 a1 a2 a6 a7 rfl (by decide) _ _ _ rfl (F.alloc _) ⟨t.heap.size,0,none⟩ 1 1 [slice ag m.next.length ah] rfl rfl (cell_one_new _ _ _) (by intro u M;simp at M;subst M;rfl) (by decide) (by unfold maxLen;omega) (by omega) (by simp;omega) _ rfl ?_;intro aQ cap b aR aS bu bQ;have G:(t.alloc (.cells #[slice ag m.next.length ah] 28)).grownBy b (Value.ownBlock (slice O j P)):=aS;have H:b.heap[w.heap.size]? =t.heap[w.heap.size]? :=(G.block w.heap.size (by simp;omega) bq).trans (lG _ _ _ bp);have bv:b.cell? ⟨w.heap.size,0,none⟩=some (slice c m.next.length g):=(gY H).trans aL;have bw:b.cell? ⟨w.heap.size,1,none⟩=some (slice l m.rules.length o):=(gY H).trans aM;have bx:b.cell? ⟨w.heap.size,2,none⟩=some (iX m.start):=(gY H).trans aN)
    have aT:Below w.heap.size t b:=xH F G bo;have aU:∀{x f},OwnF t w.heap.size x m.next.length f->OwnF b w.heap.size x m.next.length f:=λ{x f} z=>zD z λk E bz bA=>(G.block k (by simp;omega) (yD z F (by decide) bA)).trans (lG _ _ _ bz)
    have S:Hid (FrontsAt b w.heap.size (slice (qX aQ) (j+1) cap) (j+1) m/\OwnF b w.heap.size (slice aJ m.next.length aK) m.next.length (jQ m (qG m j))/\Grew w b):=⟨FrontsAt.snoc ⟨R,F,aP⟩ bn rfl R aP F aR G,aU (yE r.1 (Nat.le_of_lt A)),r.2.2.trans (xE aT)⟩
    have aV:Hid (b.heap[w.heap.size]? =some (.cells #[slice c m.next.length g,slice l m.rules.length o,iX m.start] 127)):=H.trans ((r.2.1.block w.heap.size A (by omega)).trans p.2.2.2.2.2);clear aR G aS bu aT H aU aL aM aN;refine(ax b S.2.2).mono ?_;rintro e ao ⟨bR,rfl,ap,aW⟩;have ⟨bB,bC,bD⟩:=ap.form;subst bD;have T:Hid (OwnF ao b.heap.size (slice bB m.next.length bC) m.next.length (zDp m)/\Grew b ao):=⟨ap,aW⟩
    clear ap aW bv bw bx;go_wp2_with fail;refine(zDq ao _ _ m.next.length (jQ m (qG m j)) (zDp m) (OwnF.at (zM S.2.1 T.2) E) (T.1.at E) av).mono ?_;rintro e I ⟨u6,rfl,aX,aY⟩;have U:Grew b I:=T.2.th aY;have aZ:w.heap.size<b.heap.size:=(kQ.1 aV).1;have V:Hid (FrontsAt I w.heap.size (slice (qX aQ) (j+1) cap) (j+1) m/\OwnF I w.heap.size u6 m.next.length (qG m (j+1))/\Grew w I/\I.heap[w.heap.size]? =some (.cells #[slice c m.next.length g,slice l m.rules.length o,iX m.start] 127)):=
     ⟨S.1.grown U,yE aX (Nat.le_of_lt (lZ aZ T.2.size)),S.2.2.trans (U.lower (by omega) (by omega)),(U.block w.heap.size aZ (by omega)).trans aV⟩
    clear aX aY U;go_wp2_with fail;go_roundg (m.next.length+1-(j+1))
    case measure=>rw[p.out.1];omega
    case rel=>exact⟨j+1,rfl,by omega,by go_num,V.1,V.2.1,λa aB=>by(by_cases e:a=j;exact e ▸ bm;exact p.2.2.2.1 a (by omega)),V.2.2.1,V.2.2.2⟩
  ·have bi:(m.next.length:Int)<(j:Int):=by omega
   have ak:Hid (vJ m=-1):=zNm m λa aB=>p.2.2.2.1 a (by omega);clear aC z aE af N aF bg;go_wp2_with fail;go_ret2
   exact⟨p.2.2.2.2.1,.inl ⟨ak,rfl⟩⟩
theorem zMK (w:World)(b:Nat)(d:b<256):
  (convert 68 9 (slice (qX w.heap.size) 1 1)).run prog (w.alloc (.cells #[int .u8 (b:Int)] 5))=
   .ok (string ⟨#[UInt8.ofNat b]⟩) (w.alloc (.cells #[int .u8 (b:Int)] 5)):=by
 refine run_convert_bytes_back _ 68 9 5 ⟨w.heap.size,0,none⟩ 1 [UInt8.ofNat b] underlying68 underlying5 underlying9 ?_;intro j c;have a:=gZ w (.cells #[int .u8 (b:Int)] 5);generalize w.alloc (.cells #[int .u8 (b:Int)] 5)=w1 at a ⊢;have:j=0:=by simp at c;omega
 subst this;have e:([UInt8.ofNat b]:List UInt8)[0].toNat=b:=by simp;omega
 rw[e];simp[Addr.add,cell?,a]
theorem zDJ (w:World)(b:Nat)(a:b<256):
  Calls prog 150 #[iX b] w λe w'=>e=returned (string ⟨#[UInt8.ofNat b]⟩)/\Grew w w':=by
 have c:=zMK w b a;go_in;go_wp2;go_ret;exact⟨rfl,kZ _ _ lQ⟩
theorem zHb (w:World)(l rv p:Value)(m:Sm)(r:TblAt w l rv m)(g:m.Tbl)(f:Nat->Bool)(C:BoolsAt w (In w) p m.next.length f)(to:Int):
  Calls prog 149 #[agg #[l,rv,iX m.start],p,iX to] w λe w'=>∃s b:Nat,s<m.next.length/\b<256/\e=returned (tuple #[iX s,iX b])/\Grew w w':=by
 obtain⟨W,X,rfl,Y,aa,D⟩:=r.next
 obtain⟨ab,ac,rfl,ad,ae,af⟩:=r.rules;obtain⟨ag,of_,ah,E,rfl,_,_,F⟩:=C;have G:=vl D;have H:=vl F;have I:Hid m.Tbl:=g;have ai:=g.most;have aj:=g.one;generalize J:m.next.length=n at *
 have K:=vl J;go_in;go_wp2;go_loopg [15] n (λq i wr=>∃s:Nat,q=n-s/\s<=n/\i=iX (s:Int)/\Grew w wr)
 case atStart=>exact⟨0,rfl,lX,rfl,kZ _ _ lQ⟩
 case round=>
  obtain⟨s,h,ak,rfl,a⟩:=hrel;have j:Hid (gk=n-s/\Grew w wr):=⟨h,a⟩
  by_cases d:s<n
  ·have L:(s:Int)<(n:Int):=by omega
   obtain⟨b,o,u,rfl,M,N,O⟩:=G s d;have t:=I.rows s (by rw[K.out];exact d);obtain⟨v,y,P,rfl,R,_,_,S⟩:=O.block (by omega);have al:cX wr b (o+s)=some (slice (some ⟨v,y,none⟩) 256 P):=by rw[<-t];exact zA N M a
   have T:Hid (∀i,i<256->cX w v (y+i)=some (iX ((m.next.getD s []).getD i 0))):=by
    intro i U;exact S i (by rw[t];exact U)
   go_wp2;go_loopg [22] 256 (λq i wr=>∃k:Nat,q=256-k/\k<=256/\i=iX (k:Int)/\Grew w wr)
   case atStart=>exact⟨0,rfl,lX,rfl,j.2⟩
   case round=>
    obtain⟨k,h,am,rfl,a⟩:=hrel;have c:Hid (gk=256-k/\Grew w wr):=⟨h,a⟩
    by_cases z:k<256
    ·have V:(k:Int)<256:=by omega
     have ao:=zA (T k z) R a;have A:=zA (H s d) E a;generalize (m.next.getD s []).getD k 0=x at *;cases B:f s with
     |false=>
      rw[B] at A;go_wp2;go_roundg (256-(k+1))
      case measure=>rw[c.out.1];omega
      case rel=>exact⟨k+1,rfl,by omega,by go_num,c.2⟩
     |true=>
      rw[B] at A;cases ap:(x==to) with
      |true=>
       go_wp2;go_ret2
       exact⟨s,k,d,z,rfl,c.2⟩
      |false=>
       go_wp2;go_roundg (256-(k+1))
       case measure=>rw[c.out.1];omega
       case rel=>exact⟨k+1,rfl,by omega,by go_num,c.2⟩
    ·have V:(256:Int)<=(k:Int):=by omega
     go_wp2;go_roundg (n-(s+1))
     case measure=>rw[j.out.1];omega
     case rel=>exact⟨s+1,rfl,by omega,by go_num,c.2⟩
  ·have L:(n:Int)<=(s:Int):=by omega
   go_wp2;go_ret2
   exact⟨0,0,by omega,by omega,rfl,j.2⟩
theorem zMh:(prog.info? 9).map (λi=>(i.zero,i.size,i.bytes))=some (some (string ⟨#[]⟩),1,16):=by kernel_rfl
theorem zNp (f:Nat->Bool)(t n:Nat)(h:t<n)(a:f t=false):(List.range n).countP (λi=>if i=t then true else f i)=(List.range n).countP f+1:=by
 induction n with
 |zero=>omega
 |succ n b=>
  rw[List.range_succ,List.countP_append,List.countP_append];by_cases e:t=n
  ·subst e
   have c:(List.range t).countP (λi=>if i=t then true else f i)=(List.range t).countP f:=by
    apply List.countP_congr;intro i d;rw[if_neg (by have:=List.mem_range.1 d;omega)]
   rw[c];simp[a]
  ·rw[b (by omega)]
   have g:[n].countP (λi=>if i=t then true else f i)=[n].countP f:=by simp[Ne.symm e]
   rw[g];omega
theorem zOA (f:Nat->Bool)(n:Nat):(List.range n).countP f<=n:=by
 have a:=List.countP_le_length (p:=f) (l:=List.range n);rw[List.length_range] at a;exact a
structure Wy (w:World)(H gs gw n:Nat)(sf:Nat->Bool)(wf:Nat->ByteArray)(lv:Value)(l:List Int):Prop where
 seen:Row w H 4 (slice (some ⟨gs,0,none⟩) n n) n λi=>bool (sf i)
 words:Row w H 9 (slice (some ⟨gw,0,none⟩) n n) n λi=>string (wf i)
 list:OwnI w H lv l
 all:∀x∈l,0<=x/\x<(n:Int)
 len:l.length=1+(List.range n).countP sf
 size:∀i,(wf i).size<=l.length
theorem Wy.most {w:World}{H b c n:Nat}{a:Nat->Bool}{d:Nat->ByteArray}{lv:Value}{l:List Int}(e:Wy w H b c n a d lv l):l.length<=n+1:=by
 have:=zOA a n;have:=e.len;omega
theorem Row.at {w:World}{H g n c:Nat}{e:TypeId}{f:Nat->Value}(b:Row w H e (slice (qX g) n c) n f)(d:0<n):H<=g/\g<w.heap.size/\(∀i,i<n->w.cell? ⟨g,i,none⟩=some (f i))/\∀i,w.frozen? ⟨g,i,none⟩=false:=by
 have ⟨j,r,k,l,m,s,t,o,p⟩:=b.get d;have q:j=g:=by injection k with a _ _;injection a with a;injection a with a;exact a.symm
 subst q;exact⟨l,m,o,p⟩
theorem Keep.undrew {a b:Nat}{w w':World}(c:Keep a b w.drew w'):Keep a b w w':=⟨c.os,c.output,c.size,c.block⟩
theorem zIK {w w':World}{b i:Nat}(a:w.frozen? ⟨b,i,none⟩=false)(c:b<w.heap.size)(d:Grew w w'):w'.frozen? ⟨b,i,none⟩=false:=(gW (d.block b c (by omega))).trans a
theorem zO {w:World}{H b:Nat}{e g:TypeId}{j:Nat}{v:Value}{n:Nat}{xs:List Value}{c:Array Value}(k:w.ownsRow H e j v n xs)(l:w.heap[b]? =some (.cells c g))(m:e≠g):some b≠v.ownBlock:=by
 intro d;rcases k.2 with⟨f,_⟩|⟨o,_,q,f,_,a,_⟩
 ·rw[f] at d;cases d
 ·rw[f] at d
  have p:o=b:=by simpa[Value.ownBlock] using d.symm
  subst p;rw[l] at a;injection a with a;injection a with _ a;exact m a.symm
theorem Wy.mark {w d:World}{H a b n:Nat}{o:Nat->Bool}{j:Nat->ByteArray}{lv:Value}{l:List Int}(c:Wy w H a b n o j lv l)(x:Nat)(f:ByteArray)(k:Keep (w.setCell ⟨a,x,none⟩ (bool true)).heap.size (w.setCell ⟨a,x,none⟩ (bool true)).heap.size (w.setCell ⟨a,x,none⟩ (bool true)) d):
  Row (d.setCell ⟨b,x,none⟩ (string f)) H 4 (slice (qX a) n n) n (λi=>bool (if i=x then true else o i))/\
  Row (d.setCell ⟨b,x,none⟩ (string f)) H 9 (slice (qX b) n n) n (λi=>string (if i=x then f else j i))/\
  OwnI (d.setCell ⟨b,x,none⟩ (string f)) H lv l:=by
 have q:=c.seen.set x tX;have r:Row (w.setCell ⟨a,x,none⟩ tX) H 9 (slice (qX b) n n) n λi=>string (j i):=c.words.setOther c.seen (by decide);have s:OwnI (w.setCell ⟨a,x,none⟩ tX) H lv l:=zD c.list λg _ _ m=>lJ _ _ _ _ λe=>yD (g:=g) c.list c.seen (by decide) m (by rw[e];rfl);have t:=zM q k;have b2:Row d H 9 (slice (qX b) n n) n λi=>string (j i):=zM r k;have p:=zM s k;refine⟨?_,?_,?_⟩
 ·refine Row.congr (Row.setOther (H:=H) t b2 (by decide)) λi _=>?_
  by_cases e:i=x <;> simp[e]
 ·refine Row.congr (b2.set x (string f)) λi _=>?_
  by_cases e:i=x <;> simp[e]
 ·exact zD p λg _ _ m=>lJ _ _ _ _ λe=>yD (g:=g) p b2 (by decide) m (by rw[e];rfl)
theorem Wy.more {c h:World}{o:Obj}{H m p n q cap:Nat}{a:Nat->Bool}{d:Nat->ByteArray}{r:Option Addr}{s:Nat}{l:List Int}(x:Nat)(f:ByteArray)
  (A:∀x∈l,0<=x/\x<(n:Int)) (B:l.length=1+(List.range n).countP a) (C:∀i,(d i).size<=l.length) (D:x<n) (E:a x=false) (F:f.size<=l.length+1)
  (t:Row c H 4 (slice (qX m) n n) n (λi=>bool (if i=x then true else a i)))
  (u:Row c H 9 (slice (qX p) n n) n (λi=>string (if i=x then f else d i)))
  (v:OwnI c H (slice r l.length s) l)
  (G:h.ownsRow H 3 1 (slice (qX q) (l.length+1) cap) (l.length+1) ((l.map λx=>iX x)++[iX (x:Int)]))
  (w:(c.alloc o).grownBy h (Value.ownBlock (slice r l.length s))):
  Wy h H m p n (λi=>if i=x then true else a i) (λi=>if i=x then f else d i) (slice (qX q) (l.length+1) cap) (l++[(x:Int)]):=by
 refine⟨?_,?_,OwnI.snoc G,?_,?_,?_⟩
 ·exact t.blk λg _ j k=>(w.block g (by simp;omega) (yD t v.raw (by decide) k)).trans (lG _ _ _ j)
 ·exact u.blk λg _ j k=>(w.block g (by simp;omega) (yD u v.raw (by decide) k)).trans (lG _ _ _ j)
 ·intro y b
  rcases kU.1 b with b|b
  ·exact A y b
  ·rw[kY.1 b];omega
 ·rw[kX,zNp a x n D E,B]
  simp;omega
 ·intro i
  rw[kX];show(if i=x then f else d i).size<=l.length+1;by_cases e:i=x
  ·rw[if_pos e];exact F
  ·rw[if_neg e];have:=C i;omega
theorem zMy (w:World)(aN rv aO gv:Value)(m:Sm)(aP:TblAt w aN rv m)(am:m.Tbl)(from_:Nat)(ct:from_<m.next.length)(ao ap:Nat->Bool)(bh:BoolsAt w (In w) aO m.next.length ao)(bi:BoolsAt w (In w) gv m.next.length ap):
  Calls prog 146 #[agg #[aN,rv,iX m.start],iX from_,aO,gv] w λe w'=>∃(aQ:ByteArray) (a:Int),e=returned (tuple #[string aQ,iX a])/\aQ.size<=300/\ -1<=a/\a<m.next.length/\Grew w w':=by
 have ⟨bj,bk,bl,bm,bn⟩:=info_parts yG;have ⟨bp,bq,bs,bt,bu⟩:=info_parts vR;have ⟨is,bv,bw,bx,bz⟩:=info_parts zMh;obtain⟨H,y,rfl,cu,cw,bA⟩:=aP.next
 obtain⟨C,D,rfl,cx,cy,cz⟩:=aP.rules;obtain⟨bB,bC,cA,bD,rfl,_,_,bE⟩:=bh;obtain⟨bF,bG,cB,bH,rfl,_,_,bI⟩:=bi;have bJ:=vl bA;have bK:=vl bE;have bL:=vl bI;have aR:Hid m.Tbl:=am;have cC:=am.most;have cD:=am.one;generalize bM:m.next.length=n at *
 have aq:=vl bM;obtain⟨w1,aS,X,au⟩:∃w1,w1=w.alloc (.cells #[slice H n y,slice C m.rules.length D,iX m.start] 127)/\Hid (Grew w w1/\w1.heap[w.heap.size]? =some (.cells #[slice H n y,slice C m.rules.length D,iX m.start] 127))/\w.heap.size<w1.heap.size:=
  ⟨_,rfl,⟨kZ _ _ lQ,gZ w _⟩,by simp⟩
 have ⟨w2,bN,bO,Y⟩:=run_makeSlice_full (P:=prog) w1 w.heap.size 28 4 bp _ 1 underlying28 bq bs bt i64 i64 n (by omega) (by rw[bu];omega) (by unfold maxLen;omega) (by omega);have F:Grew w1 w2:=⟨Y.os,Y.output,Y.size,λk aa _=>Y.block k aa (by simp)⟩
 have aT:=lZ au F.size;have ⟨v,bP,bQ,ab⟩:=run_makeSlice_full (P:=prog) w2 w.heap.size 108 9 is _ 1 underlying108 bv bw bx i64 i64 n (by omega) (by rw[bz];omega) (by unfold maxLen;omega) (by omega);have ac:Grew w2 v:=⟨ab.os,ab.output,ab.size,λk aa _=>ab.block k aa (by simp)⟩
 have bR:=lZ aT ac.size;have M:Hid (Row v w.heap.size 4 (slice (qX w1.heap.size) n n) n (λ_=>fX)/\Row v w.heap.size 9 (slice (qX w2.heap.size) n n) n (λ_=>string ⟨#[]⟩)/\Grew w v/\v.heap[w.heap.size]? =some (.cells #[slice H n y,slice C m.rules.length D,iX m.start] 127)):=by
  have aU:=bO;rw[Nat.mul_one,zAO _ rfl] at aU;have aV:=bQ;rw[Nat.mul_one,zAO _ rfl] at aV;exact⟨zM aU ac,aV,(X.1.trans (F.lower (by omega) (by omega))).trans (ac.lower (by omega) (by omega)),(ac.block _ aT (by omega)).trans ((F.block _ au (by omega)).trans X.2)⟩
 have aW:w1.cell? ⟨w.heap.size,0,none⟩=some (slice H n y):=by unfold cell?;rw[X.out.2];rfl
 have bS:=zA aW au F;go_in;apply wp_cut;intro cE bT;go_wp2;apply bT.out;rw[<-aS];clear aS;go_wp2_with fail;clear bN bP aW bS;obtain⟨N,aX,av⟩:∃N,N=v.alloc (.cells #[iX (from_:Int)] 3)/\Hid (Wy N w.heap.size w1.heap.size w2.heap.size n (λ_=>false) (λ_=>⟨#[]⟩) (slice (qX v.heap.size) 1 1) [(from_:Int)]/\Grew w N/\N.heap[w.heap.size]? =some (.cells #[slice H n y,slice C m.rules.length D,iX m.start] 127)):=by
  have ad:Grew v (v.alloc (.cells #[iX (from_:Int)] 3)):=kZ _ _ lQ;refine⟨_,rfl,⟨zM M.1 ad,zM M.2.1 ad,?_,?_,?_,λi=>lX⟩,M.2.2.1.trans (ad.lower (by omega) (by omega)),(ad.block _ bR (by omega)).trans M.2.2.2⟩
  ·exact⟨rfl,.inr ⟨v.heap.size,1,#[iX (from_:Int)],rfl,by omega,gZ v _,lQ,by unfold maxLen;omega,rfl,rfl⟩⟩
  ·intro x ae
   rw[kY.1 ae];omega
  ·have e:(List.range n).countP (λ_=>false)=0:=by simp
   rw[e];rfl
 rw[<-aX];clear aX M X;have aw:w1.heap.size≠w2.heap.size->True:=λ_=>trivial;clear aw;go_loopg [12,13] (n+1) (λq ax i wr=>∃(j:Nat) (f:Nat->Bool) (d:Nat->ByteArray) (l:List Int),q=n+1-j/\j<=l.length/\i=iX (j:Int)/\Wy wr w.heap.size w1.heap.size w2.heap.size n f d ax l/\Grew w wr/\wr.heap[w.heap.size]? =some (.cells #[slice H n y,slice C m.rules.length D,iX m.start] 127))
 case atStart=>exact⟨0,_,_,_,rfl,lX,rfl,av.1,av.2.1,av.2.2⟩
 case round=>
  obtain⟨j,f,d,l,I,cF,rfl,p,A,r⟩:=hrel;have O:Hid (gk=n+1-j/\Wy wr w.heap.size w1.heap.size w2.heap.size n f d u12 l/\Grew w wr/\wr.heap[w.heap.size]? =some (.cells #[slice H n y,slice C m.rules.length D,iX m.start] 127)):=⟨I,p,A,r⟩
  have bU:=p.most;have ⟨af,ay,az⟩:=p.list.form;subst az;by_cases aA:j<l.length
  ·have bV:(j:Int)<(l.length:Int):=by omega
   obtain⟨gl,rfl⟩:∃gl,af=some ⟨gl,0,none⟩:=by
    rcases p.list.2 with⟨J,cG⟩|⟨g,_,_,J,_⟩
    ·omega
    ·injection J with J _ _
     exact⟨g,J⟩
   have aY:wr.cell? ⟨gl,j,none⟩=some (iX (l.getD j 0)):=p.list.cell j aA;have ⟨bW,bX⟩:=p.all _ (zZ l j 0 aA);obtain⟨s,aZ⟩:∃s:Nat,l.getD j 0=(s:Int):=⟨(l.getD j 0).toNat,by omega⟩
   rw[aZ] at aY bX;have ag:s<n:=by omega
   have cH:(s:Int)<(n:Int):=by omega
   have bY:wr.cell? ⟨w.heap.size,0,none⟩=some (slice H n y):=by unfold cell?;rw[r];rfl
   obtain⟨b,o,u,rfl,K,a0,a1⟩:=bJ s ag;have aB:=aR.rows s (by rw[aq.out];exact ag);obtain⟨aC,aD,bZ,rfl,b0,_,_,a2⟩:=a1.block (by omega);have b1:wr.cell? ⟨b,o+s,none⟩=some (slice (some ⟨aC,aD,none⟩) 256 bZ):=by rw[<-aB];exact zA a0 K A
   have b3:Hid (∀i,i<256->w.cell? ⟨aC,aD+i,none⟩=some (iX ((m.next.getD s []).getD i 0))):=by
    intro i b4;exact a2 i (by rw[aB];exact b4)
   have b5:Hid (∀b,b<256->0<=(m.next.getD s []).getD b 0/\(m.next.getD s []).getD b 0<n):=λb K=>by
    have J:=aR.to s b (by rw[aq.out];exact ag) K;rw[aq.out] at J;exact J
   clear I p A r a0 a1 a2 aB aZ bW;go_wp2_with fail;clear aY bY b1;go_loopg [12,43] 256 (λq ax i wr=>∃(k:Nat) (f:Nat->Bool) (d:Nat->ByteArray) (l:List Int),q=256-k/\k<=256/\i=iX (k:Int)/\j<l.length/\Wy wr w.heap.size w1.heap.size w2.heap.size n f d ax l/\Grew w wr/\wr.heap[w.heap.size]? =some (.cells #[slice (some ⟨b,o,none⟩) n y,slice C m.rules.length D,iX m.start] 127))
   case atStart=>exact⟨0,f,d,l,rfl,lX,rfl,aA,O.2.1,O.2.2.1,O.2.2.2⟩
   case round=>
    obtain⟨k,f,d,l,I,aa,rfl,R,p,A,r⟩:=hrel;have c:Hid (gk=256-k/\Wy wr w.heap.size w1.heap.size w2.heap.size n f d u12 l/\Grew w wr/\wr.heap[w.heap.size]? =some (.cells #[slice (some ⟨b,o,none⟩) n y,slice C m.rules.length D,iX m.start] 127)):=⟨I,p,A,r⟩
    have bU:=p.most;have ⟨af,ay,az⟩:=p.list.form;subst az;by_cases F:k<256
    ·have b6:(k:Int)<256:=by omega
     have a3:wr.cell? ⟨aC,aD+k,none⟩=some (iX ((m.next.getD s []).getD k 0)):=zA (b3 k F) b0 A;have ⟨b7,b8⟩:=b5 k F;obtain⟨x,ae⟩:∃x:Nat,(m.next.getD s []).getD k 0=(x:Int):=⟨((m.next.getD s []).getD k 0).toNat,by omega⟩
     rw[ae] at a3 b7 b8;have S:x<n:=by omega
     have aE:wr.cell? ⟨bF,bG+x,none⟩=some (bool (ap x)):=zA (bL x S) bH A;have aF:wr.cell? ⟨bB,bC+x,none⟩=some (bool (ao x)):=zA (bK x S) bD A;have ⟨s1,s2,a4,a5⟩:=p.seen.at (by omega)
     have ⟨v1,v2,aG,a6⟩:=p.words.at (by omega)
     have T:wr.cell? ⟨w1.heap.size,x,none⟩=some (bool (f x)):=a4 x S;have b9:=a5 x;have aH:wr.cell? ⟨w2.heap.size,s,none⟩=some (string (d s)):=aG s ag;have a7:wr.cell? ⟨w2.heap.size,x,none⟩=some (string (d x)):=aG x S;have a8:=a6 x;have cI:=p.size s;have a9:w.heap.size<=wr.heap.size:=Nat.le_of_lt (Nat.lt_of_le_of_lt s1 s2);have aw:w1.heap.size≠w2.heap.size:=λe=>yD (g:=w1.heap.size) p.seen p.words (by decide) rfl (by rw[e];rfl);have ca:Hid (f x=f x):=rfl;clear I A r ae ca a4 a5 aG a6;cases ah:ap x with
     |true=>
      rw[ah] at aE;clear ah;go_wp2_with fail;have G:Hid (w2.heap.size<wr.heap.size/\wr.cell? ⟨w2.heap.size,s,none⟩=some (string (d s))):=⟨v2,aH⟩
      go_region_with ((go_at_call 150;go_must ((refine (zDJ _ k F).mono ?_;rintro e cb ⟨rfl,ba⟩;have q5:cb.cell? ⟨w2.heap.size,s,none⟩=some (string (d s)):=zA (w:=wr.drew) G.2 G.1 ba))))
      all_goals first
       |omega
       |(go_wp2_with fail;go_ret2;refine⟨_,_,rfl,?_,by omega,by omega,c.2.2.1.trans ((Keep.undrew ba).lower a9 a9)⟩;rw[ByteArray.size_append];show _+1<=300;omega)
     |false=>
      rw[ah] at aE;clear ah;cases ai:ao x with
      |false=>
       rw[ai] at aF;clear ai;cases E:f x with
       |true=>
        rw[E] at T;clear E;go_wp2_with fail;go_roundg (256-(k+1))
        case measure=>rw[c.out.1];omega
        case rel=>exact⟨k+1,f,d,l,rfl,by omega,by go_num,R,c.2.1,c.2.2.1,c.2.2.2⟩
       |false=>
        rw[E] at T;clear E;go_wp2_with fail;go_roundg (256-(k+1))
        case measure=>rw[c.out.1];omega
        case rel=>exact⟨k+1,f,d,l,rfl,by omega,by go_num,R,c.2.1,c.2.2.1,c.2.2.2⟩
      |true=>
       rw[ai] at aF;clear ai;cases E:f x with
       |true=>
        rw[E] at T;clear E;go_wp2_with fail;go_roundg (256-(k+1))
        case measure=>rw[c.out.1];omega
        case rel=>exact⟨k+1,f,d,l,rfl,by omega,by go_num,R,c.2.1,c.2.2.1,c.2.2.2⟩
       |false=>
        rw[E] at T;have cc:Hid (f x=false):=E;clear E;by_cases aI:x=from_
        ·have cd:((x:Int) != (from_:Int))=false:=by simp[aI]
         clear aI;go_wp2_with fail;go_roundg (256-(k+1))
         case measure=>rw[c.out.1];omega
         case rel=>exact⟨k+1,f,d,l,rfl,by omega,by go_num,R,c.2.1,c.2.2.1,c.2.2.2⟩
        ·have cd:((x:Int) != (from_:Int))=true:=by simp;omega
         clear aI;go_wp2_with fail;obtain⟨t,aJ,ce,q2,q3,q4⟩:∃t,t=wr.setCell ⟨w1.heap.size,x,none⟩ tX/\t.cell? ⟨w2.heap.size,s,none⟩=some (string (d s))/\t.cell? ⟨w2.heap.size,x,none⟩=some (string (d x))/\t.frozen? ⟨w2.heap.size,x,none⟩=false/\w2.heap.size<t.heap.size:=by
          have K:(wr.setCell ⟨w1.heap.size,x,none⟩ tX).heap[w2.heap.size]? =wr.heap[w2.heap.size]? :=lJ _ _ _ _ aw.symm;exact⟨_,rfl,(gY K).trans aH,(gY K).trans a7,(gW K).trans a8,by simpa[World.setCell] using v2⟩
         rw[<-aJ];have cf:Hid (t=wr.setCell ⟨w1.heap.size,x,none⟩ tX):=aJ;clear aJ aH a7 a8 T b9 aF aE a3;have G:Hid (w2.heap.size<t.heap.size/\t.cell? ⟨w2.heap.size,s,none⟩=some (string (d s))/\t.cell? ⟨w2.heap.size,x,none⟩=some (string (d x))/\t.frozen? ⟨w2.heap.size,x,none⟩=false):=⟨q4,ce,q2,q3⟩
         have cJ:((⟨#[UInt8.ofNat k]⟩:ByteArray)).size=1:=rfl;go_region_with ((go_at_call 150;go_must ((refine (zDJ _ k F).mono ?_;rintro e U ⟨rfl,V⟩;have q5:U.cell? ⟨w2.heap.size,s,none⟩=some (string (d s)):=zA (w:=t.drew) G.2.1 G.1 V;have q6:U.cell? ⟨w2.heap.size,x,none⟩=some (string (d x)):=zA (w:=t.drew) G.2.2.1 G.1 V;have ch:U.frozen? ⟨w2.heap.size,x,none⟩=false:=zIK (w:=t.drew) G.2.2.2 G.1 V))))
         all_goals
          obtain⟨B,bb,L,bc⟩:∃B,B=U.setCell ⟨w2.heap.size,x,none⟩ (string (d s++⟨#[UInt8.ofNat k]⟩))/\Hid ((Row B w.heap.size 4 (slice (qX w1.heap.size) n n) n (λi=>bool (if i=x then true else f i))/\Row B w.heap.size 9 (slice (qX w2.heap.size) n n) n (λi=>string (if i=x then d s++⟨#[UInt8.ofNat k]⟩ else d i))/\OwnI B w.heap.size (slice af l.length ay) l)/\Grew w B/\B.heap[w.heap.size]? =some (.cells #[slice (some ⟨b,o,none⟩) n y,slice C m.rules.length D,iX m.start] 127))/\w.heap.size<B.heap.size:=by
           have ci:=cf.out;subst ci;have r:=c.2.2.2;have aj:Keep (wr.setCell ⟨w1.heap.size,x,none⟩ tX).heap.size (wr.setCell ⟨w1.heap.size,x,none⟩ tX).heap.size (wr.setCell ⟨w1.heap.size,x,none⟩ tX) U:=Keep.undrew V;have W:(wr.setCell ⟨w1.heap.size,x,none⟩ tX).heap.size=wr.heap.size:=by simp[World.setCell]
           have cj:w.heap.size≠w1.heap.size:=λe=>zO c.2.1.seen r (by decide) (by rw[e];rfl);have ck:w.heap.size≠w2.heap.size:=λe=>zO c.2.1.words r (by decide) (by rw[e];rfl);refine⟨_,rfl,⟨c.2.1.mark x _ aj,?_,?_⟩,?_⟩
           ·exact((c.2.2.1.trans (zP _ _ _ _ (by omega))).trans (aj.lower (by rw[W];omega) (by rw[W];omega))).trans (zP _ _ _ _ (by omega))
           ·refine(lJ _ _ _ _ ck).trans ((aj.block _ (by rw[W];omega) (by rw[W];omega)).trans ((lJ _ _ _ _ cj).trans r))
           ·have:=aj.size
            rw[W] at this;simp[World.setCell];omega
          rw[<-bb];clear bb q5 q6 ch V;have aK:Hid (B.ownsRow w.heap.size 3 1 (slice af l.length ay) l.length (l.map λx=>iX x)):=L.1.2.2;have cm:w.heap.size<=B.heap.size:=Nat.le_of_lt bc;go_wp2_with (at_builtin;refine wpList_append_lies _ rfl _ _ 45 rfl (w.heap.size) 3 bj zX 1 8 underlying45 bk bl bm bn rfl (by decide) _ _ _ rfl (aK.alloc _) ⟨B.heap.size,0,none⟩ 1 1 [iX (x:Int)] rfl rfl (cell_one_new _ _ _) (by intro u bd;simp at bd;subst bd;rfl) (by decide) (by unfold maxLen;omega) (by omega) (by simp;omega) _ rfl ?_;intro cp cap aL be ak cq cK;have bf:=xH aK ak cm)
          have aM:Hid (Wy aL w.heap.size w1.heap.size w2.heap.size n (λi=>if i=x then true else f i) (λi=>if i=x then d s++⟨#[UInt8.ofNat k]⟩ else d i) (slice (qX cp) (l.length+1) cap) (l++[(x:Int)])/\Grew w aL/\aL.heap[w.heap.size]? =some (.cells #[slice (some ⟨b,o,none⟩) n y,slice C m.rules.length D,iX m.start] 127)):=by
           have r:=L.2.2;refine⟨Wy.more x _ c.2.1.all c.2.1.len c.2.1.size S cc ?_ L.1.1 L.1.2.1 L.1.2.2 be ak,L.2.1.trans (xE bf),(ak.block _ (by simp;omega) (zO aK r (by decide))).trans ((lG _ _ _ bc).trans r)⟩;rw[ByteArray.size_append];show _+1<=_;omega
          clear be ak bf cq;go_wp2_with fail;go_roundg (256-(k+1))
          case measure=>rw[c.out.1];omega
          case rel=>exact⟨k+1,_,_,_,rfl,by omega,by go_num,by rw[kX];omega,aM.1,aM.2.1,aM.2.2⟩
    ·have b6:(256:Int)<=(k:Int):=by omega
     clear I A r;go_wp2_with fail;go_roundg (n+1-(j+1))
     case measure=>rw[O.out.1];omega
     case rel=>exact⟨j+1,f,d,l,rfl,R,by go_num,c.2.1,c.2.2.1,c.2.2.2⟩
  ·have bV:(l.length:Int)<=(j:Int):=by omega
   clear I A r;go_wp2_with fail;go_ret2
   exact⟨⟨#[]⟩,-1,rfl,lX,by omega,by omega,O.2.2.1⟩
section
variable {w w':World} {a rv:Value} {m:Sm} (j:TblAt w a rv m) (d:m.Tbl) (one b:Nat)
structure Boxed (w w':World)(b:Nat)(nv rv:Value)(m:Sm):Prop where
 c0:w'.cell? ⟨b,0,none⟩=some nv
 c1:w'.cell? ⟨b,1,none⟩=some rv
 c2:w'.cell? ⟨b,2,none⟩=some (int i64 m.start)
 keep:Grew w w'
 lt:b<w'.heap.size
theorem Boxed.made (w:World)(a rv:Value)(m:Sm):Boxed w (w.alloc (.cells #[a,rv,iX m.start] 127)) w.heap.size a rv m:=by
 have b:=gZ w (.cells #[a,rv,iX m.start] 127);refine⟨?_,?_,?_,kZ _ _ lQ,by simp⟩ <;> ·unfold cell?;rw[b];rfl
theorem Boxed.grown {w w' w2:World}{b:Nat}{d rv:Value}{m:Sm}(a:Boxed w w' b d rv m)(c:Grew w' w2):Boxed w w2 b d rv m:=
 ⟨zA a.c0 a.lt c,zA a.c1 a.lt c,zA a.c2 a.lt c,a.keep.th c,lZ a.lt c.size⟩
theorem Boxed.drew {b:Nat}{c rv:Value}{m:Sm}(a:Boxed w w' b c rv m):Boxed w w'.drew b c rv m:=⟨a.c0,a.c1,a.c2,a.keep.trans (Keep.drew _),a.lt⟩
theorem Boxed.living (j:TblAt w a rv m)(d:m.Tbl)(b:Nat)(f:Boxed w w' b a rv m):
  Calls prog 144 #[agg #[a,rv,iX m.start]] w' λe c=>∃u,e=returned u/\BoolsAt c (In c) u m.next.length zCN/\Boxed w c b a rv m/\Grew w' c:=by
 refine(zIx w' a rv m (j.grown f.keep) d).mono ?_;rintro e w2 ⟨u,rfl,k,g⟩;exact⟨u,rfl,k.at d.one,f.grown g,g⟩
theorem Boxed.only (j:TblAt w a rv m)(d:m.Tbl)(one b:Nat)(f:Boxed w w' b a rv m):
  Calls prog 148 #[agg #[a,rv,iX m.start],iX one] w' λe c=>∃u,e=returned u/\BoolsAt c (In c) u m.next.length (zCM one)/\Boxed w c b a rv m/\Grew w' c:=by
 refine(zK6 w' a rv m (j.grown f.keep) d one).mono ?_;rintro e w2 ⟨u,rfl,k,g⟩;exact⟨u,rfl,k.at d.one,f.grown g,g⟩
theorem Boxed.tokens (k:TblAt w a rv m)(d:m.Tbl)(b:Nat)(f:Boxed w w' b a rv m):
  Calls prog 140 #[agg #[a,rv,iX m.start]] w' λe c=>∃u,e=returned u/\BoolsAt c (In c) u m.next.length (zDp m)/\Boxed w c b a rv m/\Grew w' c:=by
 refine(zD3 w' a rv m (k.grown f.keep) d).mono ?_;rintro e w2 ⟨u,rfl,g,j⟩;rw[d.rules] at g;exact⟨u,rfl,g.at d.one,f.grown j,j⟩
theorem Boxed.way {c rv f gv:Value}{m:Sm}(p:TblAt w c rv m)(q:m.Tbl)(b from_:Nat)(r:from_<m.next.length)(g j:Nat->Bool)(k:Boxed w w' b c rv m)(s:BoolsAt w' (In w') f m.next.length g)(t:BoolsAt w' (In w') gv m.next.length j):
  Calls prog 146 #[agg #[c,rv,iX m.start],iX from_,f,gv] w' λe l=>∃(d:ByteArray) (a:Int),e=returned (tuple #[string d,iX a])/\d.size<=300/\ -1<=a/\a<m.next.length/\Boxed w l b c rv m/\Grew w' l:=by
 refine(zMy w' c rv f gv m (p.grown k.keep) q from_ r g j s t).mono ?_;rintro e w2 ⟨d,a,rfl,u,v,x,o⟩;exact⟨d,a,rfl,u,v,x,k.grown o,o⟩
theorem zFG (w:World)(b rv g:Value)(m:Sm)(j:TblAt w b rv m)(k:m.Tbl)(s:Nat)(o:s<m.next.length)(l:Nat->Bool)(p:BoolsAt w (In w) g m.next.length l):
  Calls prog 180 #[agg #[b,rv,iX m.start],iX s,g] w λe w'=>∃x:Bool,e=returned (bool x)/\Grew w w':=by
 have c:=Boxed.made w b rv m;have q:Hid (∀w',Boxed w w' w.heap.size b rv m->_):=λw' d=>Boxed.only (w':=w') j k s w.heap.size d;have r:Hid (∀w' gv,Boxed w w' w.heap.size b rv m->BoolsAt w' (In w') gv m.next.length (zCM s)->_):=λw' gv d t=>Boxed.way (w':=w') (gv:=gv) j k w.heap.size s o l (zCM s) d (p.grown d.keep) t;go_in;apply wp_cut;intro C v;go_wp2;apply v.out;generalize w.alloc (.cells #[b,rv,iX m.start] 127)=w1 at *;have D:=c.c0;have E:=c.c1;have F:=c.c2;have y:=vl c;go_wp2;go_region_with ((first|(go_at_call 148;go_must ((refine (q _ y.drew).mono ?_;rintro e G ⟨u,rfl,A,f,-⟩;have H:=f.c0;have I:=f.c1;have J:=f.c2)))|(go_at_call 146;go_must ((refine (r _ _ f A).mono ?_;rintro e K ⟨L,a,rfl,M,N,O,B,-⟩)))))
 all_goals
  go_wp2;go_ret;exact⟨_,rfl,B.keep⟩
end
theorem zDZ (w:World)(b rv:Value)(m:Sm)(o:TblAt w b rv m)(p:m.Tbl)(q:Nat)(r:m.start=(q:Int))(F:q<m.next.length)(s:Nat):
  Calls prog 147 #[agg #[b,rv,iX m.start],iX s] w λe w'=>∃f:ByteArray,e=returned (string f)/\f.size<=300/\Grew w w':=by
 have k:=Boxed.made w b rv m;have G:Hid (∀w',Boxed w w' w.heap.size b rv m->_):=λw' c=>Boxed.only (w':=w') o p s w.heap.size c;have H:Hid (∀w',Boxed w w' w.heap.size b rv m->_):=λw' c=>Boxed.living (w':=w') o p w.heap.size c;have t:Hid (∀w' d gv,Boxed w w' w.heap.size b rv m->BoolsAt w' (In w') d m.next.length zCN->BoolsAt w' (In w') gv m.next.length (zCM s)->_):=λw' d gv c u v=>Boxed.way (w':=w') (gv:=gv) o p w.heap.size q F zCN (zCM s) c u v;have M:=vl r;have t:Hid (∀w' d gv,Boxed w w' w.heap.size b rv m->BoolsAt w' (In w') d m.next.length zCN->BoolsAt w' (In w') gv m.next.length (zCM s)->Ca 146 #[agg #[b,rv,iX m.start],iX m.start,d,gv] w' λe B=>∃(f:ByteArray) (a:Int),e=returned (tuple #[string f,iX a])/\f.size<=300/\ -1<=a/\a<m.next.length/\Boxed w B w.heap.size b rv m/\Grew w' B):=by
  intro w' d gv c u v;have c:=t w' d gv c u v;rw[<-r] at c;exact c
 clear r;go_in;apply wp_cut;intro N I;go_wp2;apply I.out;generalize w.alloc (.cells #[b,rv,iX m.start] 127)=w1 at *;have O:=k.c0;have P:=k.c1;have R:=k.c2;have C:=vl k;go_wp2;go_region_held3 (λw'=>cX w' w.heap.size 0=some b/\cX w' w.heap.size 1=some rv/\cX w' w.heap.size 2=some (iX m.start)) (first|exact⟨x,y,A⟩|go_keep) (first|(go_at_call 144;go_must ((refine (H _ (by first|exact g|exact C.drew)).mono ?_;rintro e S ⟨T,rfl,D,j,J⟩;have x:=j.c0;have y:=j.c1;have A:=j.c2)))|(go_at_call 148;go_must ((refine (G _ (by first|exact j|exact C.drew)).mono ?_;rintro e U ⟨V,rfl,E,g,K⟩;have x:=g.c0;have y:=g.c1;have A:=g.c2)))|(go_at_call 146;go_must ((refine (t _ _ _ (by first|exact g|exact j) (by first|exact D|exact D.grown K) (by first|exact E|exact E.grown J)).mono ?_;rintro e W ⟨f,a,rfl,L,X,Y,l,-⟩;have x:=l.c0;have y:=l.c1;have A:=l.c2))))
 all_goals
  go_wp2;go_ret;exact⟨_,rfl,L,l.keep⟩
theorem OwnF.more {w:World}{H g cap n:Nat}{f:Nat->Bool}{x:Bool}(a:w.ownsRow H 4 1 (slice (qX g) (n+1) cap) (n+1) ((List.range n).map (λi=>bool (f i))++[bool x])):OwnF w H (slice (qX g) (n+1) cap) (n+1) (λi=>if i=n then x else f i):=by
 refine OwnF.snoc ?_ (if_pos rfl);have e:(List.range n).map (λi=>Value.bool (if i=n then x else f i))=(List.range n).map (λi=>Value.bool (f i)):=by
  apply List.map_congr_left;intro i b;have:=List.mem_range.1 b;rw[if_neg (by omega)]
 rw[e];exact a
theorem Boxed.below {w w' w2:World}{b:Nat}{d rv:Value}{m:Sm}(c:Boxed w w' b d rv m)(f:w.heap.size<=b)(a:Below (b+1) w' w2):Boxed w w2 b d rv m:=by
 have e:=a.block b (Nat.lt_succ_self b);exact⟨(gY e).trans c.c0,(gY e).trans c.c1,(gY e).trans c.c2,c.keep.trans ⟨a.os,a.output,a.size,λk g _=>a.block k (by omega)⟩,lZ c.lt a.size⟩
theorem zGf (w:World)(a rv k:Value)(m:Sm)(N:TblAt w a rv m)(l:m.Tbl)(o:Nat->Bool)(A:BoolsAt w (In w) k m.next.length o):
  Calls prog 145 #[agg #[a,rv,iX m.start],k] w λe w'=>∃u f,e=returned u/\OwnF w' w.heap.size u m.next.length f/\Grew w w':=by
 have ⟨B,C,D,E,F⟩:=info_parts vR;have O:=Boxed.made w a rv m;have ⟨aj,ak,al,P,R,_,_,S⟩:=id A;have T:Hid (∀w' s,Boxed w w' w.heap.size a rv m->s<m.next.length->Ca 180 #[agg #[a,rv,iX m.start],iX s,k] w' λe w2=>∃x:Bool,e=returned (bool x)/\Boxed w w2 w.heap.size a rv m/\Grew w' w2):=by
  intro w' s p G;refine(zFG w' a rv k m (N.grown p.keep) l s G o (A.grown p.keep)).mono ?_;rintro e w2 ⟨x,rfl,H⟩;exact⟨x,rfl,p.grown H,H⟩
 have U:=vl S;have am:=l.most;have an:=l.one;subst R;generalize m.next.length=n at *
 go_in;apply wp_cut;intro ap V;go_wp2;apply V.out;generalize w.alloc (.cells #[a,rv,iX m.start] 127)=w1 at *;have W:=vl O;go_wp2;go_loopg [5,10] n (λq X i wr=>∃(s:Nat) (f:Nat->Bool),q=n-s/\s<=n/\i=iX (s:Int)/\OwnF wr (w.heap.size+1) X s f/\Boxed w wr w.heap.size a rv m)
 case atStart=>exact⟨0,λ_=>false,rfl,lX,rfl,ownsRow_nil _ _ _ _,W⟩
 case round=>
  obtain⟨s,f,Y,G,rfl,I,c⟩:=hrel;have b:Hid (gk=n-s/\OwnF wr (w.heap.size+1) u5 s f/\Boxed w wr w.heap.size a rv m):=⟨Y,I,c⟩
  have ⟨ao,cap,aa⟩:=I.form;subst aa;by_cases J:s<n
  ·have ab:(s:Int)<(n:Int):=by omega
   have K:=zA (U s J) P c.keep;have aq:=c.c0;have ar:=c.c1;have au:=c.c2;have ac:=c.lt;cases L:o s with
   |false=>
    rw[L] at K;have d:=vl b.2.1;go_wp2_with (at_builtin;refine wpList_append_lies _ rfl _ _ 28 rfl (w.heap.size+1) 4 B fX 1 1 underlying28 C D E F rfl (by decide) _ _ _ rfl (d.alloc _) ⟨wr.heap.size,0,none⟩ 1 1 [fX] rfl rfl (cell_one_new _ _ _) (by intro u g;simp at g;subst g;rfl) (by decide) (by unfold maxLen;omega) (by omega) (by simp;omega) _ rfl ?_;intro r t w2 v y ad ae;have z:=xH d y ac)
    have j:Hid (OwnF w2 (w.heap.size+1) (slice (qX r) (s+1) t) (s+1) (λi=>if i=s then false else f i)/\Boxed w w2 w.heap.size a rv m):=⟨OwnF.more v,b.2.2.below lQ z⟩
    go_wp2;go_roundg (n-(s+1))
    case measure=>rw[b.out.1];omega
    case rel=>exact⟨s+1,_,rfl,by omega,by go_num,j.1,j.2⟩
   |true=>
    rw[L] at K;go_wp2_with (first|(go_at_call 180;refine(T _ s b.2.2 J).mono ?_;rintro e af ⟨x,rfl,M,ag⟩;have d:=vl <| zM b.2.1 ag;have ah:=M.lt)|(at_builtin;refine wpList_append_lies _ rfl _ _ 28 rfl (w.heap.size+1) 4 B fX 1 1 underlying28 C D E F rfl (by decide) _ _ _ rfl (d.alloc _) ⟨af.heap.size,0,none⟩ 1 1 [bool x] rfl rfl (cell_one_new _ _ _) (by intro u g;simp at g;subst g;rfl) (by decide) (by unfold maxLen;omega) (by omega) (by simp;omega) _ rfl ?_;intro r t w2 v y ad ae;have z:=xH d y ah))
    have j:Hid (OwnF w2 (w.heap.size+1) (slice (qX r) (s+1) t) (s+1) (λi=>if i=s then x else f i)/\Boxed w w2 w.heap.size a rv m):=⟨OwnF.more v,M.below lQ z⟩
    go_wp2;go_roundg (n-(s+1))
    case measure=>rw[b.out.1];omega
    case rel=>exact⟨s+1,_,rfl,by omega,by go_num,j.1,j.2⟩
  ·have ai:s=n:=by omega
   have ab:(n:Int)<=(s:Int):=by omega
   subst ai;go_wp2;go_ret;exact⟨_,_,rfl,Row.mono b.2.1 (Nat.le_succ _),b.2.2.keep⟩
theorem zEc {b:Func}{t u v x:Tmp}(c:b.results=#[.tmp t,.tmp u,.tmp v,.tmp x])(a:Array Value)(P:Program)(w:World):
  (results b a).run P w=.ok (tuple #[a.getD t undef,a.getD u undef,a.getD v undef,a.getD x undef]) w:=by
 simp[results,c]
structure Ra (w w':World)(nv rv ev ov kv:Value)(m:Sm)(n:Nat)(fe fo fk:Nat->Bool):Prop where
 box:Boxed w w' w.heap.size nv rv m
 ends:BoolsAt w' (In w') ev n fe
 open_:BoolsAt w' (In w') ov n fo
 rounds:BoolsAt w' (In w') kv n fk
theorem Ra.grown {w w' w2:World}{c rv d e f:Value}{m:Sm}{n:Nat}{g j k:Nat->Bool}(a:Ra w w' c rv d e f m n g j k)(b:Grew w' w2):Ra w w2 c rv d e f m n g j k:=⟨a.box.grown b,a.ends.grown b,a.open_.grown b,a.rounds.grown b⟩
theorem Ra.drew {w w':World}{b rv c d e:Value}{m:Sm}{n:Nat}{f g j:Nat->Bool}(a:Ra w w' b rv c d e m n f g j):Ra w w'.drew b rv c d e m n f g j:=⟨a.box.drew,a.ends,a.open_,a.rounds⟩
theorem zEO (w:World)(b rv:Value)(m:Sm)(o:TblAt w b rv m)(g:m.Tbl)(ac:Nat)(ar:m.start=(ac:Int))(E:ac<m.next.length):
  Calls prog 105 #[agg #[b,rv,iX m.start]] w λe w'=>∃a x y r:ByteArray,e=returned (tuple #[string a,string x,string y,string r])/\(a.size<=300/\x.size<=300/\y.size<=300/\r.size<=300)/\Grew w w':=by
 have F:=Boxed.made w b rv m;have bd:=g.most;have au:=g.one;have aQ:Hid (∀w',Boxed w w' w.heap.size b rv m->_):=λw' j=>Boxed.tokens (w':=w') o g w.heap.size j;have aR:Hid (∀w',Boxed w w' w.heap.size b rv m->_):=λw' j=>Boxed.living (w':=w') o g w.heap.size j;have aS:Hid (∀(w':World) O P R S,BoolsAt w' (In w') O m.next.length R->BoolsAt w' (In w') P m.next.length S->Ca 143 #[O,P] w' λe w2=>∃u,e=returned u/\BoolsAt w2 (In w2) u m.next.length (vY R S)/\Grew w' w2):=by
  intro w' O P R S au ad;refine(zDq w' O P m.next.length R S au ad g.most).mono ?_;rintro e w2 ⟨u,rfl,ae,T⟩;exact⟨u,rfl,ae.at g.one,T⟩
 have aT:Hid (∀w' d k,Boxed w w' w.heap.size b rv m->BoolsAt w' (In w') d m.next.length k->Ca 145 #[agg #[b,rv,iX m.start],d] w' λe w2=>∃u f,e=returned u/\BoolsAt w2 (In w2) u m.next.length f/\Boxed w w2 w.heap.size b rv m/\Grew w' w2):=by
  intro w' d k j ad;refine(zGf w' b rv d m (o.grown j.keep) g k ad).mono ?_;rintro e w2 ⟨u,f,rfl,ae,T⟩;exact⟨u,f,rfl,ae.at g.one,j.grown T,T⟩
 have af:Hid (∀w' s d gv k ag,s<m.next.length->Boxed w w' w.heap.size b rv m->BoolsAt w' (In w') d m.next.length k->BoolsAt w' (In w') gv m.next.length ag->_):=λw' s d gv k ag av j aU aV=>Boxed.way (w':=w') (gv:=gv) o g w.heap.size s av k ag j aU aV;have aW:Hid (∀w' s,Boxed w w' w.heap.size b rv m->Ca 147 #[agg #[b,rv,iX m.start],iX ((s:Nat):Int)] w' λe w2=>∃r:ByteArray,e=returned (string r)/\r.size<=300/\Grew w' w2):=λw' s j=>zDZ w' b rv m (o.grown j.keep) g ac ar E s;have aX:Hid (∀w' s,Boxed w w' w.heap.size b rv m->_):=λw' s j=>Boxed.only (w':=w') o g s w.heap.size j;clear o g ar E;generalize aw:m.next.length=n at *
 have bf:Hid (m.next.length=n):=aw;clear aw;go_enter func105,ntmps105
 refine wp_seq_k ?_;intro aY hK0;have ax:Hid (∀a w,_->aY a w):=hK0;clear hK0;go_wp2_with fail;apply ax.out;clear ax;generalize w.alloc (.cells #[b,rv,iX m.start] 127)=w1 at *;have ah:=F.c0;have ai:=F.c1;have aj:=F.c2;have aZ:Hid (Boxed w w1 w.heap.size b rv m):=F;clear F;go_wp2_with (first|(go_at_call 140;refine(aQ _ aZ).mono ?_;rintro e w2 ⟨bg,rfl,U,G,-⟩;obtain⟨t,v,H,a0,rfl,-⟩:=id U;have A:=G.c0;have B:=G.c1;have C:=G.c2)|(go_at_call 144;refine(aR _ G).mono ?_;rintro e bh ⟨lv,rfl,ay,az,ak⟩)|(go_at_call 143;refine(aS _ _ _ _ _ ay (U.grown ak)).mono ?_;rintro e bi ⟨d,rfl,al,am⟩;have I:=az.grown am;have aA:=I.c0;have aB:=I.c1;have aC:=I.c2)|(go_at_call 145;refine(aT _ _ _ I al).mono ?_;rintro e a1 ⟨J,K,rfl,aD,aE,an⟩))
 have a2:Hid (Ra w a1 b rv (slice (some ⟨t,v,none⟩) n H) d J m n (zDp m) (vY zCN (zDp m)) K):=⟨aE,((U.grown ak).grown am).grown an,al.grown an,aD⟩
 clear A B C aA aB aC ah ai aj G az I aE ak am an ay al aD U a0;generalize vY zCN (zDp m)=k at *;generalize zDp m=D at *;go_loopg [29] n (λq i wr=>∃s:Nat,q=n-s/\s<=n/\i=iX (s:Int)/\Ra w wr b rv (slice (some ⟨t,v,none⟩) n H) d J m n D k K)
 case atStart=>exact⟨0,rfl,lX,rfl,a2⟩
 case round=>
  obtain⟨s,ao,av,rfl,p⟩:=hrel;have l:Hid (gk=n-s/\Ra w wr b rv (slice (some ⟨t,v,none⟩) n H) d J m n D k K):=⟨ao,p⟩
  by_cases E:s<n
  ·have a3:(s:Int)<(n:Int):=by omega
   have ap:cX wr t (v+s)=some (bool (D s)):=by
    have ⟨bj,bk,bl,_,a4,_,_,a5⟩:=p.ends;injection a4 with L _ _;injection L with L;injection L with L a6;rw[L,a6];exact a5 s E
   have ah:=p.box.c0;have ai:=p.box.c1;have aj:=p.box.c2;clear ao p;cases V:D s with
   |false=>
    rw[V] at ap;clear V;go_wp2_with fail;go_roundg (n-(s+1))
    case measure=>rw[l.out.1];omega
    case rel=>exact⟨s+1,rfl,by omega,by go_num,l.2⟩
   |true=>
    rw[V] at ap;clear V;go_wp2_with (first|(go_at_call 146;refine(af _ s _ _ _ _ E l.2.box l.2.open_ l.2.rounds).mono ?_;rintro e bm ⟨x,at_,rfl,aF,a7,a8,M,aG⟩;have A:=M.c0;have B:=M.c1;have C:=M.c2;have aq:=l.2.grown aG)|(go_at_call 147;refine(aW _ s M).mono ?_;rintro e ba ⟨a,rfl,W,aH⟩))
    ·go_roundg (n-(s+1))
     case measure=>rw[l.out.1];omega
     case rel=>exact⟨s+1,rfl,by omega,by go_num,aq⟩
    ·have bn:0<=at_:=by omega
     obtain⟨c,rfl⟩:∃c:Nat,at_=(c:Int):=⟨at_.toNat,by omega⟩
     have aI:c<n:=by omega
     have N:=aq.grown aH;have aJ:Hid (Ra w ba b rv (slice (some ⟨t,v,none⟩) n H) d J m n D k K):=N;have aA:=N.box.c0;have aB:=N.box.c1;have aC:=N.box.c2;have aK:Hid (a.size<=300/\x.size<=300):=⟨W,aF⟩
     clear A B C aG aH M aq N ap ah ai aj W aF a7 a8;go_region_held3 (λw'=>cX w' w.heap.size 0=some b/\cX w' w.heap.size 1=some rv/\cX w' w.heap.size 2=some (iX m.start)) (first|exact⟨A,B,C⟩|go_keep) (first|(go_at_call 148;refine(aX _ c aJ.drew.box).mono ?_;rintro e bo ⟨bp,rfl,aL,X,aM⟩;have Y:=aJ.drew.grown aM;have A:=X.c0;have B:=X.c1;have C:=X.c2)|(go_at_call 146;refine(af _ c _ _ _ _ aI Y.box Y.open_ aL).mono ?_;rintro e bb ⟨y,bq,rfl,aN,-,-,aa,aO⟩;have A:=aa.c0;have B:=aa.c1;have C:=aa.c2))
     all_goals
      have aP:=Y.grown aO;have ab:Hid (Ra w bb b rv (slice (some ⟨t,v,none⟩) n H) d J m n D k K/\y.size<=300):=⟨aP,aN⟩
      clear X aM aa aO aL Y aP aN;go_wp2_with (go_at_call 146;refine(af _ c _ _ _ _ aI ab.1.box ab.1.open_ ab.1.ends).mono ?_;rintro e br ⟨r,bs,rfl,W,-,-,bc,-⟩)
      (try simp only[Exit.inBlock,Exit.then])
      refine gU (zEc rfl _ _ _) rfl ?_;exact⟨_,_,_,_,rfl,⟨aK.1,aK.2,ab.2,W⟩,bc.keep⟩
  ·have a3:(n:Int)<=(s:Int):=by omega
   clear ao p;go_wp2_with fail
   (try simp only[Exit.inBlock,Exit.then])
   refine gU (zEc rfl _ _ _) rfl ?_;exact⟨_,_,_,_,rfl,⟨lX,lX,lX,lX⟩,l.2.box.keep⟩
theorem FrontsAt.open_ {w:World}{H a:Nat}{v:Value}{m:Sm}(f:FrontsAt w H v a m)(j:0<a)(k:1<=m.next.length):∃g c,v=slice (qX g) a c/\g<w.heap.size/\∀i,i<a->∃u,w.cell? ⟨g,i,none⟩=some u/\BoolsAt w (In w) u m.next.length (qG m i):=by
 obtain⟨rv,b,l⟩:=f;have b:Row w H 28 v a rv:=b;have ⟨g,cap,o,r,p,s,t,q,x⟩:=b.get j;exact⟨g,cap,o,p,λi e=>⟨rv i,q i e,(l i e).at k⟩⟩
theorem zK5 (w:World)(o rv L:Value)(m:Sm)(F:TblAt w o rv m)(y:m.Tbl)(M:Nat)(W:m.start=(M:Int))(X:M<m.next.length)(ai l:Nat)(Y:FrontsAt w ai L l m)(aO:l<=m.next.length):
  Calls prog 106 #[agg #[o,rv,iX m.start],L] w λe w'=>∃a x:ByteArray,e=returned (tuple #[string a,string x])/\(a.size<=300/\x.size<=600)/\Grew w w':=by
 have B:=Boxed.made w o rv m;have aP:=y.most;have aj:=y.one;have ak:Hid (∀w' v f,Boxed w w' w.heap.size o rv m->BoolsAt w' (In w') v m.next.length f->Ca 141 #[agg #[o,rv,iX m.start],v] w' λe w2=>∃u,e=returned u/\BoolsAt w2 (In w2) u m.next.length (jQ m f)/\Boxed w w2 w.heap.size o rv m/\Grew w' w2):=by
  intro w' v f p N;refine(zDt w' o rv v m (F.grown p.keep) y f N).mono ?_;rintro e w2 ⟨u,rfl,O,A⟩;exact⟨u,rfl,O.at y.one,p.grown A,A⟩
 have al:Hid (∀w' v f,BoolsAt w' (In w') v m.next.length f->_):=λw' v f p=>zFu w' v m.next.length f p y.most
 have am:Hid (∀w' v f to,Boxed w w' w.heap.size o rv m->BoolsAt w' (In w') v m.next.length f->Ca 149 #[agg #[o,rv,iX m.start],v,iX to] w' λe w2=>∃s b:Nat,s<m.next.length/\b<256/\e=returned (tuple #[iX s,iX b])/\Boxed w w2 w.heap.size o rv m/\Grew w' w2):=by
  intro w' v f to p N;refine(zHb w' o rv v m (F.grown p.keep) y f N to).mono ?_;rintro e w2 ⟨s,b,H,E,rfl,A⟩;exact⟨s,b,H,E,rfl,p.grown A,A⟩
 have an:Hid (∀w' b,b<256->Boxed w w' w.heap.size o rv m->Ca 150 #[iX ((b:Nat):Int)] w' λe w2=>e=returned (string ⟨#[UInt8.ofNat b]⟩)/\Boxed w w2 w.heap.size o rv m/\Grew w' w2):=by
  intro w' b E p;refine(zDJ w' b E).mono ?_;rintro e w2 ⟨rfl,A⟩;exact⟨rfl,p.grown A,A⟩
 have ap:Hid (∀w' s,Boxed w w' w.heap.size o rv m->Ca 147 #[agg #[o,rv,iX m.start],iX ((s:Nat):Int)] w' λe w2=>∃C:ByteArray,e=returned (string C)/\C.size<=300/\Grew w' w2):=λw' s p=>zDZ w' o rv m (F.grown p.keep) y M W X s;clear F y W X;have aQ:(l:Int)<=200:=by omega
 by_cases aa:0<l
 ·obtain⟨g,c,rfl,I,ab⟩:=Y.open_ aa aj
  have aq:=vl ab;have aR:¬(l:Int)=0:=by omega
  have ⟨ac,ar,au⟩:=ab (l-1) (by omega);have aS:IntKind.i64.wrap ((l:Int)-1)=((l-1:Nat):Int):=by rw[zBt _ (by omega) (by omega)];omega
  have aT:((l-1:Nat):Int)<(l:Int):=by omega
  go_in;apply wp_cut;intro aU av;go_wp2;apply av.out;generalize w.alloc (.cells #[o,rv,iX m.start] 127)=w1 at *;have ad:=B.c0;have ae:=B.c1;have af:=B.c2;have aw:=zA ar I B.keep;have P:Hid (Boxed w w1 w.heap.size o rv m/\BoolsAt w1 (In w1) ac m.next.length (qG m (l-1))):=⟨B,au.grown B.keep⟩
  go_wp2;go_region_held3 (λw'=>cX w' w.heap.size 0=some o/\cX w' w.heap.size 1=some rv/\cX w' w.heap.size 2=some (iX m.start)/\cX w' g (l-1)=some ac) (first|exact⟨R,S,T,U⟩|go_keep) (first|(go_at_call 141;refine(ak _ _ _ P.1.drew P.2).mono ?_;rintro e w2 ⟨u,rfl,O,J,ax⟩;have R:=J.c0;have S:=J.c1;have T:=J.c2;have U:=zA (w:=w1.drew) aw (lZ I P.1.keep.size) ax));have ag:Hid (Boxed w w2 w.heap.size o rv m/\BoolsAt w2 (In w2) u m.next.length (jQ m (qG m (l-1)))):=⟨J,O⟩
  go_wp2_with (go_at_call 142;refine(al _ _ _ ag.2).mono ?_;rintro e aV ⟨rfl,rfl⟩)
  go_loopg [7,8,9] l (λq at_ ay i wr=>∃(j:Nat) (x:Int) (C:ByteArray),q=j/\j<=l/\i=iX ((j:Int)-1)/\at_=iX x/\(j<l->∃s:Nat,x=(s:Int))/\ay=string C/\C.size+j<=l/\Boxed w wr w.heap.size o rv m)
  case atStart=>exact⟨l,_,_,rfl,lQ,(by congr 1;omega),rfl,λp=>absurd p (Nat.lt_irrefl _),rfl,by show 0+l<=l;omega,ag.1⟩
  case round=>
   obtain⟨j,x,C,az,aW,rfl,rfl,ah,rfl,aX,t⟩:=hrel;have K:Hid (gk=j/\(j<l->∃s:Nat,x=(s:Int))/\Boxed w wr w.heap.size o rv m):=⟨az,ah,t⟩
   cases j with
   |zero=>
    have ⟨s,H⟩:=ah aa;subst H;have ad:=t.c0;have ae:=t.c1;have af:=t.c2;go_wp2_with (go_at_call 147;refine(ap _ s K.2.2).mono ?_;rintro e aA ⟨a,rfl,aB,V⟩;have D:=K.2.2.grown V)
    go_ret2
    exact⟨_,_,rfl,⟨aB,by rw[ByteArray.size_append];omega⟩,D.keep⟩
   |succ k=>
    have aC:k<l:=by omega
    have aY:(k:Int)<(l:Int):=by omega
    have aZ:(0:Int)<=(k:Int):=by omega
    have ⟨aD,aE,aF⟩:=aq k aC;have aG:=zA aE I t.keep;have aH:=vl <| aF.grown t.keep;have ad:=t.c0;have ae:=t.c1;have af:=t.c2;have aI:=lZ I t.keep.size;have aJ:(((k+1:Nat):Int)-1)=(k:Int):=by omega
    rw[aJ];go_wp2;go_region_held3 (λw'=>cX w' w.heap.size 0=some o/\cX w' w.heap.size 1=some rv/\cX w' w.heap.size 2=some (iX m.start)/\cX w' g k=some aD) (first|exact⟨R,S,T,U⟩|go_keep) (first|(go_at_call 149;refine(am _ _ _ _ K.2.2.drew aH).mono ?_;rintro e aA ⟨s,b,H,E,rfl,D,V⟩;have R:=D.c0;have S:=D.c1;have T:=D.c2;have U:=zA (w:=wr.drew) aG aI V))
    all_goals
     have aK:=vl D;go_wp2_with (go_at_call 150;refine(an _ b E aK).mono ?_;rintro e a0 ⟨rfl,aL,-⟩;have a1:(⟨#[UInt8.ofNat b]⟩:ByteArray).size=1:=rfl)
     go_roundg k
     case measure=>rw[K.out.1];omega
     case rel=>exact⟨k,_,_,rfl,by omega,rfl,rfl,λ_=>⟨s,rfl⟩,rfl,by rw[ByteArray.size_append];omega,aL⟩
 ·have aM:l=0:=by omega
  subst aM;obtain⟨ao,cap,rfl⟩:∃ao cap,L=slice ao 0 cap:=by
   obtain⟨r,aN,_⟩:=Y;exact zF aN
  go_in;go_wp2;go_ret2
  exact⟨_,_,rfl,⟨lX,lX⟩,B.keep⟩
structure Zm (w:World)(r:Nat):Prop where
 lt:r<w.heap.size
 block:w.heap[r]? =some (.cells #[int i64 0,int i64 0,string ⟨#[]⟩,string ⟨#[]⟩,string ⟨#[]⟩,string ⟨#[]⟩,string ⟨#[]⟩] 139)
theorem Zm.grown {w w':World}{r:Nat}(a:Zm w r)(b:Grew w w'):Zm w' r:=⟨lZ a.lt b.size,(b.block r a.lt (kJ a.lt)).trans a.block⟩
theorem Zm.cells {w:World}{r:Nat}(a:Zm w r):(w.cell? ⟨r,0,none⟩=some zX/\w.cell? ⟨r,1,none⟩=some zX/\w.cell? ⟨r,2,none⟩=some (string ⟨#[]⟩)/\w.cell? ⟨r,3,none⟩=some (string ⟨#[]⟩)/\w.cell? ⟨r,4,none⟩=some (string ⟨#[]⟩)/\w.cell? ⟨r,5,none⟩=some (string ⟨#[]⟩)/\w.cell? ⟨r,6,none⟩=some (string ⟨#[]⟩))/\(w.frozen? ⟨r,0,none⟩=false/\w.frozen? ⟨r,1,none⟩=false/\w.frozen? ⟨r,2,none⟩=false/\w.frozen? ⟨r,3,none⟩=false/\w.frozen? ⟨r,4,none⟩=false/\w.frozen? ⟨r,5,none⟩=false/\w.frozen? ⟨r,6,none⟩=false):=by
 refine⟨⟨?_,?_,?_,?_,?_,?_,?_⟩,?_,?_,?_,?_,?_,?_,?_⟩
 all_goals first|(unfold cell?;rw[a.block];rfl)|(unfold frozen?;rw[a.block];rfl)
theorem zF2 (w:World)(L rv:Value)(m:Sm)(q:TblAt w L rv m)(s:m.Tbl)(u:Nat)(D:m.start=(u:Int))(E:u<m.next.length):
  Calls prog 67 #[agg #[L,rv,iX m.start]] w λe w'=>∃a b x y A:ByteArray,e=returned (agg #[iX m.next.length,iX (vJ m),string a,string b,string x,string y,string A])/\Grew w w':=by
 have ap:=s.most;obtain⟨g,j,rfl,_⟩:=id q.next
 obtain⟨w1,M,l⟩:∃w1,w1=(w.alloc (.cells #[slice g m.next.length j,rv,iX m.start] 127)).alloc (.cells #[zX,zX,string ⟨#[]⟩,string ⟨#[]⟩,string ⟨#[]⟩,string ⟨#[]⟩,string ⟨#[]⟩] 139)/\Hid (Boxed w w1 w.heap.size (slice g m.next.length j) rv m/\Zm w1 (w.heap.size+1)):=by
  have S:=Boxed.made w (slice g m.next.length j) rv m;refine⟨_,rfl,S.grown (kZ _ _ lQ),⟨by simp,?_⟩⟩;have o:=gZ (w.alloc (.cells #[slice g m.next.length j,rv,iX m.start] 127)) (.cells #[zX,zX,string ⟨#[]⟩,string ⟨#[]⟩,string ⟨#[]⟩,string ⟨#[]⟩,string ⟨#[]⟩] 139);simpa using o
 have T:Hid (∀w',Boxed w w' w.heap.size (slice g m.next.length j) rv m->_):=λw' o=>zGE w' _ rv m (q.grown o.keep) s;have U:Hid (∀w',Boxed w w' w.heap.size (slice g m.next.length j) rv m->_):=λw' o=>zEO w' _ rv m (q.grown o.keep) s u D E;have V:Hid (∀w' F H f,Boxed w w' w.heap.size (slice g m.next.length j) rv m->FrontsAt w' H F f m->f<=m.next.length->_):=λw' F H f o B t=>zK5 w' _ rv F m (q.grown o.keep) s u D E H f B t;clear q s D E;go_in;apply wp_cut;intro aq W;go_wp2;apply W.out;rw[<-M];clear M;have N:=l.1.c0;have O:=l.1.c1;have P:=l.1.c2;apply wp_cut;intro ar R;go_wp2_with (go_at_call 104;refine(T _ l.1).mono ?_;rintro e w2 ⟨C,X⟩;rcases X with⟨t,rfl⟩|⟨f,v,t,Y,rfl,B⟩)
 ·apply R.out
  have k:=l.1.grown C;have I:=l.2.grown C;have N:=k.c0;have O:=k.c1;have P:=k.c2;have c:Hid (Boxed w w2 w.heap.size (slice g m.next.length j) rv m/\Zm w2 (w.heap.size+1)/\vJ m=-1):=⟨k,I,t⟩
  go_wp2_with (go_at_call 105;refine(U _ c.1).mono ?_;rintro e aa ⟨a,x,y,A,rfl,-,p⟩;have ⟨⟨c0,c1,c2,ab,ac,ad,ae⟩,af,ag,ah,ai,aj,ak,al⟩:=(c.2.1.grown p).cells;have am:=(c.1.grown p).c0;have J:=vl <| (c.1.grown p).keep)
  refine gU (v:=agg #[iX m.next.length,iX (-1),string a,string ⟨#[]⟩,string x,string y,string A]) (by simp[results,results67,go_sem, *]) rfl ⟨a,⟨#[]⟩,x,y,A,by rw[c.out.2.2],?_⟩;refine J.trans ?_
  iterate 6 refine Keep.trans ?_ (zP _ _ _ _ (by omega))
  exact zP _ _ _ _ (by omega)
 ·apply R.out
  have k:=l.1.grown C;have I:=l.2.grown C;have N:=k.c0;have O:=k.c1;have P:=k.c2;obtain⟨K,cv,rfl⟩:∃K cv,v=slice K f cv:=by
   obtain⟨r,ao,_⟩:=B;exact zF ao
  have c:Hid (Boxed w w2 w.heap.size (slice g m.next.length j) rv m/\Zm w2 (w.heap.size+1)/\vJ m=(f:Int)/\FrontsAt w2 w1.heap.size (slice K f cv) f m):=⟨k,I,t,B⟩
  go_wp2_with (go_at_call 106;refine(V _ _ _ f c.1 c.2.2.2 Y).mono ?_;rintro e aa ⟨a,x,rfl,-,p⟩;have ⟨⟨c0,c1,c2,ab,ac,ad,ae⟩,af,ag,ah,ai,aj,ak,al⟩:=(c.2.1.grown p).cells;have am:=(c.1.grown p).c0;have J:=vl <| (c.1.grown p).keep)
  refine gU (v:=agg #[iX m.next.length,iX (f:Int),string a,string x,string ⟨#[]⟩,string ⟨#[]⟩,string ⟨#[]⟩]) (by simp[results,results67,go_sem, *]) rfl ⟨a,x,⟨#[]⟩,⟨#[]⟩,⟨#[]⟩,by rw[c.out.2.2.1],?_⟩;refine J.trans ?_
  iterate 6 refine Keep.trans ?_ (zP _ _ _ _ (by omega))
  exact zP _ _ _ _ (by omega)
section
def OwnB (w:World)(H:Nat)(v:Value)(l:List Bool):Prop:=w.ownsRow H 4 1 v l.length (l.map λx=>bool x)
theorem OwnB.form {w:World}{H:Nat}{v:Value}{l:List Bool}(b:OwnB w H v l):∃ao cap,v=slice ao l.length cap:=zF b
theorem OwnB.snoc {w:World}{H g cap:Nat}{l:List Bool}{x:Bool}(b:w.ownsRow H 4 1 (slice (qX g) (l.length+1) cap) (l.length+1) ((l.map λx=>bool x)++[bool x])):OwnB w H (slice (qX g) (l.length+1) cap) (l++[x]):=by
 unfold OwnB;rw[kX,List.map_append];exact b
theorem zU {w1 w2:World}{o:Obj}{H e b m:Nat}{u v:Value}{c:List Value}(d:(w1.alloc o).grownBy w2 v.ownBlock)(f:w1.ownsRow H e b u m c)(j:∀g,u.ownBlock=some g->some g≠v.ownBlock):w2.ownsRow H e b u m c:=
 zD f λk _ l p=>(d.block k (by simp;omega) (j k p)).trans (lG _ _ _ l)
theorem xI {w:World}{H e b m p i:Nat}{u x:Value}{c:List Value}(d:w.ownsRow H e b u m c)(f:p<H):(w.setCell ⟨p,i,none⟩ x).ownsRow H e b u m c:=
 zD d λk g _ _=>lJ _ _ _ _ (by show k≠p;omega)
structure Rp (w wr:World)(mv sv ev:Value)(k:Nat)(xs:List Value)(sl el:List Bool)(a:Int):Prop where
 res:wr.heap[w.heap.size]? =some (.cells #[slice none 0 0,slice none 0 0,slice none 0 0,int i64 0,bool false,int i64 0] 30)
 blk:wr.heap[w.heap.size+1]? =some (.cells #[mv,sv,ev,int i64 a,bool false,int i64 0] 30)
 modes:wr.ownsRow (w.heap.size+2) 139 7 mv k xs
 shad:OwnB wr (w.heap.size+2) sv sl
 emp:OwnB wr (w.heap.size+2) ev el
 ne:∀g,sv.ownBlock=some g->some g≠ev.ownBlock
 keep:Grew w wr
 lt:w.heap.size+2<=wr.heap.size
section
variable {w wr w2:World} {mv sv ev:Value} {k:Nat} {xs:List Value} {sl el:List Bool} {a:Int}
theorem Rp.grown (b:Rp w wr mv sv ev k xs sl el a)(c:Grew wr w2):Rp w w2 mv sv ev k xs sl el a:=by
 have:=b.lt;exact⟨(c.block _ (by omega) (by omega)).trans b.res,(c.block _ (by omega) (by omega)).trans b.blk,zM b.modes c,zM b.shad c,zM b.emp c,b.ne,b.keep.trans (c.lower (by omega) (by omega)),lY b.lt c.size⟩
theorem Rp.drew (b:Rp w wr mv sv ev k xs sl el a):Rp w wr.drew mv sv ev k xs sl el a:=b.grown (Keep.drew _)
theorem Rp.cells (b:Rp w wr mv sv ev k xs sl el a):(wr.cell? ⟨w.heap.size+1,0,none⟩=some mv/\wr.cell? ⟨w.heap.size+1,1,none⟩=some sv/\wr.cell? ⟨w.heap.size+1,2,none⟩=some ev/\wr.cell? ⟨w.heap.size+1,3,none⟩=some (iX a)/\wr.cell? ⟨w.heap.size+1,4,none⟩=some (bool false)/\wr.cell? ⟨w.heap.size+1,5,none⟩=some zX)/\(∀i,wr.frozen? ⟨w.heap.size+1,i,none⟩=false):=by
 refine⟨⟨?_,?_,?_,?_,?_,?_⟩,λi=>?_⟩
 all_goals first|(unfold cell?;rw[b.blk];rfl)|(unfold frozen?;rw[b.blk];simp[World.frozen?])
theorem Rp.modes_app {o:Obj}{g cap:Nat}{f:List Value}(b:Rp w wr mv sv ev k xs sl el a)(l:w2.ownsRow (w.heap.size+2) 139 7 (slice (qX g) (k+1) cap) (k+1) (xs++f))(c:(wr.alloc o).grownBy w2 mv.ownBlock):
  Rp w (w2.setCell ⟨w.heap.size+1,0,none⟩ (slice (qX g) (k+1) cap)) (slice (qX g) (k+1) cap) sv ev (k+1) (xs++f) sl el a:=by
 have m:=b.lt;have d:∀j,j<w.heap.size+2->w2.heap[j]? =wr.heap[j]? :=λj p=>(c.block j (by simp;omega) λe=>by have:=(b.modes.lt j e.symm).1;omega).trans (lG _ _ _ (by omega));have q:=(d (w.heap.size+1) (by omega)).trans b.blk;refine⟨(lJ _ _ _ _ (by show w.heap.size≠w.heap.size+1;omega)).trans ((d _ (by omega)).trans b.res),?_,xI l (by omega),xI (zU c b.shad λg c=>yD b.shad b.modes (by decide) c) (by omega),xI (zU c b.emp λg c=>yD b.emp b.modes (by decide) c) (by omega),b.ne,?_,?_⟩
 ·simp[setCell,lU,q]
 ·exact(b.keep.trans ⟨c.os,c.output,lY (by simp) c.size,λj p _=>d j (by omega)⟩).trans (zP _ _ _ _ (by omega))
 ·rw[zC];exact lY m (lY (by simp) c.size)
theorem Rp.shad_app {o:Obj}{g cap:Nat}{x:Bool}(b:Rp w wr mv sv ev k xs sl el a)(l:w2.ownsRow (w.heap.size+2) 4 1 (slice (qX g) (sl.length+1) cap) (sl.length+1) ((sl.map λx=>bool x)++[bool x]))(c:(wr.alloc o).grownBy w2 sv.ownBlock)(m:sv.ownBlock=some g\/wr.heap.size<=g):
  Rp w (w2.setCell ⟨w.heap.size+1,1,none⟩ (slice (qX g) (sl.length+1) cap)) mv (slice (qX g) (sl.length+1) cap) ev k xs (sl++[x]) el a:=by
 have p:=b.lt;have d:∀j,j<w.heap.size+2->w2.heap[j]? =wr.heap[j]? :=λj q=>(c.block j (by simp;omega) λe=>by have:=(b.shad.lt j e.symm).1;omega).trans (lG _ _ _ (by omega));have r:=(d (w.heap.size+1) (by omega)).trans b.blk;refine⟨(lJ _ _ _ _ (by show w.heap.size≠w.heap.size+1;omega)).trans ((d _ (by omega)).trans b.res),?_,xI (zU c b.modes λg c=>yD b.modes b.shad (by decide) c) (by omega),?_,xI (zU c b.emp λg c e=>b.ne g e.symm c.symm) (by omega),?_,?_,?_⟩
 ·simp[setCell,lU,r]
 ·exact xI (OwnB.snoc l) (by omega)
 ·intro s t e
  have u:g=s:=by simpa[Value.ownBlock] using t
  subst u;rcases m with f|f
  ·exact b.ne g f e
  ·have:=(b.emp.lt g e.symm).2
   omega
 ·exact(b.keep.trans ⟨c.os,c.output,lY (by simp) c.size,λj q _=>d j (by omega)⟩).trans (zP _ _ _ _ (by omega))
 ·rw[zC];exact lY p (lY (by simp) c.size)
theorem Rp.emp_app {o:Obj}{g cap:Nat}{x:Bool}(b:Rp w wr mv sv ev k xs sl el a)(p:w2.ownsRow (w.heap.size+2) 4 1 (slice (qX g) (el.length+1) cap) (el.length+1) ((el.map λx=>bool x)++[bool x]))(c:(wr.alloc o).grownBy w2 ev.ownBlock)(q:ev.ownBlock=some g\/wr.heap.size<=g):
  Rp w (w2.setCell ⟨w.heap.size+1,2,none⟩ (slice (qX g) (el.length+1) cap)) mv sv (slice (qX g) (el.length+1) cap) k xs sl (el++[x]) a:=by
 have r:=b.lt;have d:∀j,j<w.heap.size+2->w2.heap[j]? =wr.heap[j]? :=λj s=>(c.block j (by simp;omega) λe=>by have:=(b.emp.lt j e.symm).1;omega).trans (lG _ _ _ (by omega));have t:=(d (w.heap.size+1) (by omega)).trans b.blk;refine⟨(lJ _ _ _ _ (by show w.heap.size≠w.heap.size+1;omega)).trans ((d _ (by omega)).trans b.res),?_,xI (zU c b.modes λg c=>yD b.modes b.emp (by decide) c) (by omega),xI (zU c b.shad λg c=>b.ne g c) (by omega),?_,?_,?_,?_⟩
 ·simp[setCell,lU,t]
 ·exact xI (OwnB.snoc p) (by omega)
 ·intro f l e
  have u:f=g:=by simpa[Value.ownBlock] using e
  subst u;rcases q with m|m
  ·exact b.ne f l m.symm
  ·have:=(b.shad.lt f l).2
   omega
 ·exact(b.keep.trans ⟨c.os,c.output,lY (by simp) c.size,λj s _=>d j (by omega)⟩).trans (zP _ _ _ _ (by omega))
 ·rw[zC];exact lY r (lY (by simp) c.size)
theorem Rp.ahead (b:Rp w wr mv sv ev k xs sl el a)(c:Int):Rp w (wr.setCell ⟨w.heap.size+1,3,none⟩ (iX c)) mv sv ev k xs sl el c:=by
 have d:=b.blk;have:=b.lt;exact⟨(lJ _ _ _ _ (by show w.heap.size≠w.heap.size+1;omega)).trans b.res,by simp[setCell,lU,d],xI b.modes (by omega),xI b.shad (by omega),xI b.emp (by omega),b.ne,b.keep.trans (zP _ _ _ _ (by omega)),by rw[zC];omega⟩
end
end
def zAV (m:Sm)(k:Nat):List Bool:=(List.range k).map λr=>!hasRuleB m ((r:Nat):Int)
def vB (ms:List Sm):Nat->List Bool
 |0=>[]
 |j+1=>vB ms j++zAV (ms.getD j ⟨[],[],0,[]⟩) (ms.getD j ⟨[],[],0,[]⟩).empty.length
def jX (ms:List Sm):Nat->List Bool
 |0=>[]
 |j+1=>jX ms j++(ms.getD j ⟨[],[],0,[]⟩).empty
def aheadTo (ms:List Sm):Nat->Int
 |0=>0
 |j+1=>qZ (aheadTo ms j) (vJ (ms.getD j ⟨[],[],0,[]⟩))
theorem zKT (ms:List Sm)(j:Nat):(vB ms j).length=zV ms j:=by
 induction j with
 |zero=>rfl
 |succ j a=>simp[vB,zV,a,zAV]
theorem zNk (ms:List Sm)(j:Nat):(jX ms j).length=zV ms j:=by
 induction j with
 |zero=>rfl
 |succ j a=>simp[jX,zV,a]
theorem zLx (a b n:Int)(c:-1<=a/\a<=n)(d:-1<=b/\b<=n)(e:-1<=n):-1<=qZ a b/\qZ a b<=n:=by
 unfold qZ;split
 ·omega
 ·split <;> omega
theorem zGV (ms:List Sm)(a:ModesOk ms)(j:Nat)(b:j<=ms.length):-1<=aheadTo ms j/\aheadTo ms j<=200:=by
 induction j with
 |zero=>exact⟨by show(-1:Int)<=0;omega,by show(0:Int)<=200;omega⟩
 |succ j c=>
  have e:=vL ms (j+1) ms.length b;have f:=a.states;have g:(ms.getD j ⟨[],[],0,[]⟩).next.length<=200:=by
   have:zS ms (j+1)=zS ms j+(ms.getD j ⟨[],[],0,[]⟩).next.length:=rfl
   omega
  have d:=zPw (ms.getD j ⟨[],[],0,[]⟩);exact zLx _ _ 200 (c (by omega)) ⟨d.1,by omega⟩ (by omega)
theorem ModesOk.tbl {ms:List Sm}(c:ModesOk ms)(j:Nat)(a:j<ms.length):(ms[j]).Tbl:=by
 have g:=vL ms (j+1) ms.length a;have k:=c.states;have e:ms.getD j ⟨[],[],0,[]⟩=ms[j]:=by rw[lW,lV a];rfl
 have l:zS ms (j+1)=zS ms j+ms[j].next.length:=by rw[<-e];rfl
 refine⟨c.states1 j a,by omega,(c.rules j a).1,λi d=>?_,λi b d f=>?_⟩
 ·exact(c.wide j a _ (zZ _ i [] d)).1
 ·exact(c.wide j a _ (zZ _ i [] d)).2 b f
section
attribute [local go_sem ↓] Go.wp_at_zero Go.wp_at_succ
theorem zOf:(prog.info? 139).map (λi=>(i.zero,i.size,i.bytes))=some (some (agg #[zX,zX,string ⟨#[]⟩,string ⟨#[]⟩,string ⟨#[]⟩,string ⟨#[]⟩,string ⟨#[]⟩]),7,96):=by kernel_rfl
theorem zNS (w:World):Rp w ((w.alloc (.cells #[nX,nX,nX,zX,bool false,zX] 30)).alloc (.cells #[nX,nX,nX,zX,bool false,zX] 30)) nX nX nX 0 [] [] [] 0:=by
 have a:=gZ w (.cells #[nX,nX,nX,zX,fX,zX] 30);refine⟨?_,?_,ownsRow_nil _ _ _ _,ownsRow_nil _ _ _ _,ownsRow_nil _ _ _ _,λg b=>by simp[Value.ownBlock] at b,(kZ _ _ lQ).trans (kZ _ _ (by simp)),by simp⟩
 ·exact(lG _ _ _ (by simp)).trans a
 ·have c:=gZ (w.alloc (.cells #[nX,nX,nX,zX,fX,zX] 30)) (.cells #[nX,nX,nX,zX,fX,zX] 30)
  simpa using c
theorem zBY (w:World)(l:List Value)(t:TypeId)(g:Nat)(a:w.heap.size=g):∀j u,l[j]? =some u->(w.alloc (.cells l.toArray t)).cell? ((⟨g,0,none⟩:Addr).add j)=some u:=by
 intro j u b;subst a;rw[Addr.add_lit];unfold cell?;rw[gZ];simpa using b
structure Mx (w:World)(q:Nat)(u0 u1 u3:Value)(m:Sm):Prop where
 blk:w.heap[q]? =some (.cells #[u0,u1,int i64 m.start,u3] 134)
 lt:q<w.heap.size
theorem Mx.cells {w:World}{q:Nat}{a b c:Value}{m:Sm}(d:Mx w q a b c m):w.cell? ⟨q,0,none⟩=some a/\w.cell? ⟨q,1,none⟩=some b/\w.cell? ⟨q,2,none⟩=some (iX m.start)/\w.cell? ⟨q,3,none⟩=some c:=by
 refine⟨?_,?_,?_,?_⟩ <;> ·unfold cell?;rw[d.blk];rfl
theorem Mx.grown {w w':World}{q:Nat}{b c d:Value}{m:Sm}(a:Mx w q b c d m)(e:Grew w w'):Mx w' q b c d m:=⟨(e.block q a.lt (kJ a.lt)).trans a.blk,lZ a.lt e.size⟩
theorem Mx.app {w w2:World}{o:Obj}{H e g n q i p:Nat}{v x b c d:Value}{m:Sm}{xs:List Value}(a:Mx w q b c d m)(j:w.ownsRow H e g v n xs)(k:e≠134)(f:(w.alloc o).grownBy w2 v.ownBlock)(l:q≠p):Mx (w2.setCell ⟨p,i,none⟩ x) q b c d m:=by
 have r:=a.lt;refine⟨(lJ _ _ _ _ l).trans ((f.block q (by simp;omega) (zO j a.blk k)).trans ((lG _ _ _ a.lt).trans a.blk)),?_⟩;rw[zC];exact lZ r (lY (by simp) f.size)
theorem zH8 (w:World)(mv:Value)(ms:List Sm)(hM:ModesAt w (In w) mv ms)(hms:ModesOk ms)(kinds:Nat)(hk:kinds<=256)(force:Bool):
  Calls prog 46 #[mv,iX kinds,bool force] w λe w'=>∃mo sh em,e=returned (agg #[mo,sh,em,iX (aheadTo ms ms.length),bool (!force&&yH (aheadTo ms ms.length) kinds),zX])/\OwnB w' w.heap.size sh (vB ms ms.length)/\OwnB w' w.heap.size em (jX ms ms.length)/\Grew w w'/\∃a n c,mo=slice a n c:=by
 obtain⟨i0,hi0,hz0,hz1,hz2⟩:=info_parts zOf;obtain⟨ib,hib,hb0,hb1,hb2⟩:=info_parts vR;obtain⟨am,cm,rfl,hcm,hmm,hmc⟩:=hM;have h3:=hms.three;have HMC:Hid (∀i (hi:i<ms.length),∃b o u0 u1 u3,am=some ⟨b,o,none⟩/\In w b/\w.cell? ⟨b,o+i*4,none⟩=some u0/\w.cell? ⟨b,o+i*4+1,none⟩=some u1/\w.cell? ⟨b,o+i*4+2,none⟩=some (iX ms[i].start)/\w.cell? ⟨b,o+i*4+3,none⟩=some u3/\IntRows w (In w) u0 ms[i].next/\Ints w (In w) u1 ms[i].rules/\Bools w (In w) u3 ms[i].empty):=hmc;have HOK:Hid (ModesOk ms):=hms;have h0:=zNS w;clear hmc hms;go_enter func46,ntmps46
 refine wp_seq_k ?_;intro K0 hK0;have HK0:Hid (∀a w,_->K0 a w):=hK0;clear hK0;go_wp2_with fail;apply HK0.out;clear HK0;refine wp_seq_k ?_;intro K0 hK0;have HK0:Hid (∀a w,_->K0 a w):=hK0;clear hK0;go_wp2_with fail;apply HK0.out;clear HK0;generalize (w.alloc (.cells #[nX,nX,nX,zX,fX,zX] 30)).alloc (.cells #[nX,nX,nX,zX,fX,zX] 30)=w1 at *;have H0:Hid (Rp w w1 nX nX nX 0 [] [] [] 0):=h0;clear h0;go_wp2_with fail;go_loopg [16] ms.length (λq i wr=>∃(j:Nat) (mv sv ev:Value) (xs:List Value),q=ms.length-j/\j<=ms.length/\i=iX (j:Int)/\Rp w wr mv sv ev j xs (vB ms j) (jX ms j) (aheadTo ms j))
 case atStart=>exact⟨0,_,_,_,_,rfl,lX,rfl,H0⟩
 case round=>
  obtain⟨j,mv,sv,ev,xs,hgk,hj,rfl,hR⟩:=hrel;have HA:Hid (gk=ms.length-j/\Rp w wr mv sv ev j xs (vB ms j) (jX ms j) (aheadTo ms j)):=⟨hgk,hR⟩
  by_cases hj2:j<ms.length
  ·have i1:(j:Int)<(ms.length:Int):=by omega
   obtain⟨b,o,u0,u1,u3,rfl,hb,c0,c1,c2,c3,d0,d1,d3⟩:=HMC j hj2;obtain⟨an,cn,rfl,-⟩:=id d0;obtain⟨ar,cr,rfl,-⟩:=id d1;have y0:=zA c0 hb hR.keep;have y1:=zA c1 hb hR.keep;have y2:=zA c2 hb hR.keep;have y3:=zA c3 hb hR.keep;obtain⟨m,hm⟩:∃m,m=ms[j]:=⟨_,rfl⟩
   rw[<-hm] at y0 y1 y2 d0 d1 d3;have HT:Hid (TblAt w (slice an m.next.length cn) (slice ar m.rules.length cr) m/\m.Tbl/\Bools w (In w) u3 m.empty/\0<=m.start/\m.start<m.next.length/\m=ms[j]/\ms.getD j ⟨[],[],0,[]⟩=m):=⟨⟨d0,d1⟩,by rw[hm];exact HOK.tbl j hj2,d3,by rw[hm];exact(HOK.start j hj2).1,by rw[hm];exact(HOK.start j hj2).2,hm,by rw[hm,lW,lV hj2];rfl⟩
   clear c0 c1 c2 c3 d0 d1 d3 hm hgk hR;refine wp_seq_k ?_;intro K0 hK0;have HK0:Hid (∀a w,_->K0 a w):=hK0;clear hK0;go_wp2_with fail;apply HK0.out;clear HK0;obtain⟨st,hst⟩:∃st:Nat,m.start=(st:Int):=⟨m.start.toNat,by have:=HT.2.2.2.1;omega⟩
   have HS:Hid (m.start=(st:Int)/\st<m.next.length):=⟨hst,by have:=HT.2.2.2.2.1;omega⟩
   clear hst;obtain⟨ae,ce,rfl,he1,he2,he3⟩:=HT.2.2.1;have HE:Hid (∀i,i<m.empty.length->∃b o,ae=some ⟨b,o,none⟩/\In w b/\w.cell? ⟨b,o+i,none⟩=some (bool (m.empty.getD i false))):=he3;clear he3;have HTM:Hid (∀w',Grew w w'->Ca 67 #[agg #[slice an m.next.length cn,slice ar m.rules.length cr,iX m.start]] w' λe w2=>∃a b x y z:ByteArray,e=returned (agg #[iX m.next.length,iX (vJ m),string a,string b,string x,string y,string z])/\Grew w' w2):=λw' hk=>zF2 w' _ _ m (HT.1.grown hk) HT.2.1 st HS.1 HS.2;obtain⟨amv,cmv,hmv⟩:=zF HA.2.modes;subst hmv;have hlr:=HA.2.lt;have HNM:Hid (∀w5:World,Keep (wr.alloc (.cells #[slice an m.next.length cn,slice ar m.rules.length cr,iX m.start,slice ae m.empty.length ce] 134)).heap.size (wr.alloc (.cells #[slice an m.next.length cn,slice ar m.rules.length cr,iX m.start,slice ae m.empty.length ce] 134)).heap.size (wr.alloc (.cells #[slice an m.next.length cn,slice ar m.rules.length cr,iX m.start,slice ae m.empty.length ce] 134)) w5->some w5.heap.size≠Value.ownBlock (slice amv j cmv)):=λw5 h e=>by
    have h1:=(HA.2.modes.lt _ e.symm).2;have h2:=h.size;simp at h2;omega
   go_wp2_with (first|(go_at_call 67;refine(HTM _ (HA.2.keep.trans (kZ _ _ (by omega)))).mono ?_;rintro e w5 ⟨a,b',x,y,z,rfl,hk5⟩;have R5:Rp w (w5.alloc (.cells #[iX m.next.length,iX (vJ m),string a,string b',string x,string y,string z] 139)) (slice amv j cmv) sv ev j xs (vB ms j) (jX ms j) (aheadTo ms j):=((HA.2.grown (kZ _ _ lQ)).grown hk5).grown (kZ _ _ lQ);obtain⟨⟨r0,r1,r2,r3,r4,r5⟩,rf⟩:=R5.cells;clear r1 r2 r3 r4 r5 rf;have hl5:w.heap.size+2<=w5.heap.size:=lY (by simp;omega) hk5.size;have M5:Mx w5 wr.heap.size (slice an m.next.length cn) (slice ar m.rules.length cr) (slice ae m.empty.length ce) m:=Mx.grown ⟨gZ wr _,by simp⟩ hk5)|(at_builtin;refine wpList_append_lies _ rfl _ _ 27 rfl (w.heap.size+2) 139 i0 (agg #[zX,zX,string ⟨#[]⟩,string ⟨#[]⟩,string ⟨#[]⟩,string ⟨#[]⟩,string ⟨#[]⟩]) 7 96 underlying27 hi0 hz0 hz1 hz2 rfl (by decide) _ _ _ rfl (R5.modes.alloc _) ⟨w5.heap.size+1,0,none⟩ 1 1 [iX m.next.length,iX (vJ m),string a,string b',string x,string y,string z] rfl rfl (zBY _ [iX m.next.length,iX (vJ m),string a,string b',string x,string y,string z] _ _ (by simp)) (by intro u hu;simp at hu;rcases hu with rfl|rfl|rfl|rfl|rfl|rfl|rfl <;> rfl) (by decide) (by unfold maxLen;omega) (by omega) (by simp;omega) _ rfl ?_;intro gg cap w7 hown hgrow hat hlt2;have hbR:w7.heap[w.heap.size+1]? =(w5.alloc (.cells #[iX m.next.length,iX (vJ m),string a,string b',string x,string y,string z] 139)).heap[w.heap.size+1]? :=(hgrow.block _ (by simp;omega) (λe=>by have:=(R5.modes.lt _ e.symm).1;omega)).trans (lG _ _ _ (by simp;omega));have s0:w7.cell? ⟨w.heap.size+1,0,none⟩=some (slice amv j cmv):=(gY hbR).trans r0;have f0:w7.frozen? ⟨w.heap.size+1,0,none⟩=false:=(gW hbR).trans (R5.cells.2 0);have R8:=Rp.modes_app R5 hown hgrow;have M8:=Mx.app (p:=w.heap.size+1) (i:=0) (x:=slice (qX gg) (j+1) cap) (M5.grown (kZ _ (.cells #[iX m.next.length,iX (vJ m),string a,string b',string x,string y,string z] 139) lQ)) R5.modes (by decide) hgrow (by omega);have t3:(w7.setCell ⟨w.heap.size+1,0,none⟩ (slice (qX gg) (j+1) cap)).cell? ⟨w.heap.size+1,3,none⟩=some (iX (aheadTo ms j)):=R8.cells.1.2.2.2.1;have f3:(w7.setCell ⟨w.heap.size+1,0,none⟩ (slice (qX gg) (j+1) cap)).frozen? ⟨w.heap.size+1,3,none⟩=false:=R8.cells.2 3;have hbM:(w7.setCell ⟨w.heap.size+1,0,none⟩ (slice (qX gg) (j+1) cap)).heap[w5.heap.size]? =(w5.alloc (.cells #[iX m.next.length,iX (vJ m),string a,string b',string x,string y,string z] 139)).heap[w5.heap.size]? :=(lJ _ _ _ _ (by show w5.heap.size≠w.heap.size+1;omega)).trans ((hgrow.block _ (by simp;omega) (HNM w5 hk5)).trans (lG _ _ _ (by simp)));have t1:(w7.setCell ⟨w.heap.size+1,0,none⟩ (slice (qX gg) (j+1) cap)).cell? ⟨w5.heap.size,1,none⟩=some (iX (vJ m)):=(gY hbM).trans (by unfold cell?;rw[gZ];rfl);have M9:((w7.setCell ⟨w.heap.size+1,0,none⟩ (slice (qX gg) (j+1) cap)).setCell ⟨w.heap.size+1,3,none⟩ (iX (qZ (aheadTo ms j) (vJ m)))).cell? ⟨wr.heap.size,3,none⟩=some (slice ae m.empty.length ce):=(gY (lJ _ _ _ _ (by show wr.heap.size≠w.heap.size+1;omega))).trans M8.cells.2.2.2)|(go_at_call 68;refine(zIJ _ (aheadTo ms j) (vJ m)).mono ?_;rintro e w9 ⟨rfl,rfl⟩))
   have A9:∃mv2 xs2 w9,w9=((w7.setCell ⟨w.heap.size+1,0,none⟩ (slice (qX gg) (j+1) cap)).setCell ⟨w.heap.size+1,3,none⟩ (iX (qZ (aheadTo ms j) (vJ m))))/\Hid (Rp w w9 mv2 sv ev (j+1) xs2 (vB ms j) (jX ms j) (aheadTo ms (j+1))/\Mx w9 wr.heap.size (slice an m.next.length cn) (slice ar m.rules.length cr) (slice ae m.empty.length ce) m):=by
    have e:aheadTo ms (j+1)=qZ (aheadTo ms j) (vJ m):=by rw[<-HT.out.2.2.2.2.2.2];rfl
    rw[e];exact⟨_,_,_,rfl,R8.ahead _,⟨(lJ _ _ _ _ (by show wr.heap.size≠w.heap.size+1;omega)).trans M8.blk,by rw[zC];exact M8.lt⟩⟩
   obtain⟨mv2,xs2,w9,hw9,A9⟩:=A9;rw[<-hw9];clear hw9 M9 t1 hbM f3 t3 M8 R8 f0 s0 hbR hown hgrow hat M5 R5 r0 y0 y1 y2 y3;have hrl:zV ms (j+1)=zV ms j+m.empty.length:=by rw[<-HT.out.2.2.2.2.2.2];rfl
   have hr8:zV ms j+m.empty.length<=8:=by
    have h1:=zB9 ms (j+1) ms.length hj2;have h2:=HOK.rules8;omega
   have HSL:Hid ((vB ms j).length=zV ms j/\(jX ms j).length=zV ms j):=⟨zKT ms j,zNk ms j⟩
   clear hrl HNM HTM hk5 hl5;have hq1:w.heap.size+1≠wr.heap.size:=by omega
   generalize hqb:wr.heap.size=qb at *;clear hqb;go_loopg [38] m.empty.length (λq i wt=>∃(k:Nat) (sv ev:Value),q=m.empty.length-k/\k<=m.empty.length/\i=iX (k:Int)/\Rp w wt mv2 sv ev (j+1) xs2 (vB ms j++zAV m k) (jX ms j++m.empty.take k) (aheadTo ms (j+1))/\Mx wt qb (slice an m.next.length cn) (slice ar m.rules.length cr) (slice ae m.empty.length ce) m)
   case atStart=>exact⟨0,sv,ev,rfl,lX,rfl,by rw[zAV,List.take_zero];simpa using A9.1,A9.2⟩
   case round=>
    obtain⟨k,sv,ev,hgk,hk2,rfl,hR,hM⟩:=hrel;have HB:Hid (gk=m.empty.length-k/\Rp w wr mv2 sv ev (j+1) xs2 (vB ms j++zAV m k) (jX ms j++m.empty.take k) (aheadTo ms (j+1))/\Mx wr qb (slice an m.next.length cn) (slice ar m.rules.length cr) (slice ae m.empty.length ce) m):=⟨hgk,hR,hM⟩
    by_cases hk3:k<m.empty.length
    ·have i2:(k:Int)<(m.empty.length:Int):=by omega
     obtain⟨be,oe,rfl,hbe,hce⟩:=HE k hk3;have ye:wr.cell? ⟨be,oe+k,none⟩=some (bool (m.empty.getD k false)):=zA hce hbe hR.keep;obtain⟨ek,hek⟩:∃ek,m.empty.getD k false=ek:=⟨_,rfl⟩
     rw[hek] at ye;have HEK:Hid (m.empty.getD k false=ek):=hek;clear hek;obtain⟨q0,q1,q2,q3⟩:=hM.cells;obtain⟨⟨r0,r1,r2,r3,r4,r5⟩,rf⟩:=hR.cells;obtain⟨as_,cs,hsv⟩:=hR.shad.form;obtain⟨ae2,ce2,hev⟩:=hR.emp.form;have hls:(vB ms j++zAV m k).length=zV ms j+k:=by rw[kX,HSL.out.1];simp[zAV]
     have hle:(jX ms j++m.empty.take k).length=zV ms j+k:=by rw[kX,HSL.out.2,List.length_take];omega
     rw[hls] at hsv;rw[hle] at hev;subst hsv hev;generalize hns:zV ms j+k=ns at *;have hn8:ns<=8:=by omega
     generalize hsl:vB ms j++zAV m k=sl at *;generalize hel:jX ms j++m.empty.take k=el at *;have HLL:Hid (sl.length=ns/\el.length=ns/\vB ms j++zAV m k=sl/\jX ms j++m.empty.take k=el):=⟨hls,hle,hsl,hel⟩
     clear hsl hel hls hle hns;have HHR:Hid (∀w',Grew w w'->Ca 69 #[agg #[slice an m.next.length cn,slice ar m.rules.length cr,iX m.start],iX ((k:Nat):Int)] w' λe w2=>e=returned (bool (hasRuleB m k))/\Grew w' w2):=λw' hk=>zHi w' _ _ m (HT.1.grown hk) HT.2.1 k;have f1:=rf 1;have hlr:=hR.lt;clear r0 r3 r4 r5 r2 q3 rf hgk hce;clear hR hM;have HB2:Hid (∀w5,Grew wr.drew w5->Rp w w5 mv2 (slice as_ ns cs) (slice ae2 ns ce2) (j+1) xs2 sl el (aheadTo ms (j+1))/\Mx w5 qb (slice an m.next.length cn) (slice ar m.rules.length cr) (slice (some ⟨be,oe,none⟩) m.empty.length ce) m/\w5.ownsRow (w.heap.size+2) 4 1 (slice as_ ns cs) ns (sl.map λx=>bool x)/\wr.heap.size<=w5.heap.size):=by
      intro w5 h;have h':=HB.2.1.drew.grown h;refine⟨h',(HB.2.2.grown (Keep.drew _)).grown h,?_,h.size⟩;have h2:=h'.shad;unfold OwnB at h2;rw[HLL.out.1] at h2;exact h2
     go_wp2_with fail;go_region_law ((first
      |(refine step_append_lies _ (by rfl) (.tmp 44) (.tmp 50) 28 (by rfl) (w.heap.size+2) 4 ib _ 1 1 underlying28 hib hb0 hb1 hb2 rfl (by decide) (slice as_ ns cs) ns (sl.map λx=>bool x) (by simp[Act.eval,Act.put]) (O5.alloc _) ⟨w5.heap.size,0,none⟩ 1 1 [bool (!hasRuleB m k)] (by simp[Act.eval,Act.put]) (by rfl) (news_of_block (cs:=#[bool (!hasRuleB m k)]) (t:=4) (fr:=(0,0)) (gZ w5 _)) (by simp[Value.oneCell']) (by decide) (by unfold maxLen;omega) (by omega) (by simp;omega) (w5.heap.size+1) (by simp) ?_;intro gg cap2 w6 hown hgrow hat hlt;have hPB:w6.heap[w.heap.size+1]? =w5.heap[w.heap.size+1]? :=(hgrow.block _ (by simp;omega) (λe=>by have:=(O5.lt _ e.symm).1;omega)).trans (lG _ _ _ (by omega));have t1:w6.cell? ⟨w.heap.size+1,1,none⟩=some (slice as_ ns cs):=(gY hPB).trans R5.cells.1.2.1;have t2:w6.frozen? ⟨w.heap.size+1,1,none⟩=false:=(gW hPB).trans (R5.cells.2 1))
      |(go_simp;go_at_call 69;refine(HHR _ (HB.2.1.keep.trans (Keep.drew _))).mono ?_;rintro e w5 ⟨rfl,hk5⟩;obtain⟨R5,M5,O5,hs5⟩:=HB2 w5 hk5;have p1:w5.cell? ⟨w.heap.size+1,1,none⟩=some (slice as_ ns cs):=R5.cells.1.2.1;have hl5:w.heap.size+2<=w5.heap.size:=R5.lt;have p2:(w5.alloc (.cells #[bool (!hasRuleB m k)] 4)).cell? ⟨w.heap.size+1,1,none⟩=some (slice as_ ns cs):=(gV _ _ _ (by show w.heap.size+1<w5.heap.size;omega)).trans p1)))
     all_goals
      obtain⟨sv3,w7,hw7,hsv3,A7⟩:∃sv3 w7,w7=w6.setCell ⟨w.heap.size+1,1,none⟩ (slice (qX gg) (ns+1) cap2)/\sv3=slice (qX gg) (ns+1) cap2/\Hid (Rp w w7 mv2 sv3 (slice ae2 ns ce2) (j+1) xs2 (sl++[!hasRuleB m k]) el (aheadTo ms (j+1))/\Mx w7 qb (slice an m.next.length cn) (slice ar m.rules.length cr) (slice (some ⟨be,oe,none⟩) m.empty.length ce) m):=by
       refine⟨_,_,rfl,rfl,?_,Mx.app M5 O5 (by decide) hgrow (Ne.symm hq1)⟩;have hown2:=hown;rw[<-HLL.out.1] at hown2;have h:=Rp.shad_app R5 hown2 hgrow (by
        rcases hat with ha|ha
        ·exact .inl ha
        ·right;rw[ha];omega)
       rw[HLL.out.1] at h;exact h
      rw[<-hw7];clear hw7 hown hgrow hat hPB t1 t2 p1 p2 O5 M5 R5 hk5 r1 q0 q1 q2 f1 ye;have hl7:=A7.1.lt;have s2:w7.cell? ⟨w.heap.size+1,2,none⟩=some (slice ae2 ns ce2):=A7.1.cells.1.2.2.1;have O7:w7.ownsRow (w.heap.size+2) 4 1 (slice ae2 ns ce2) ns (el.map λx=>bool x):=by
       have h:=A7.1.emp;unfold OwnB at h;rw[HLL.out.2.1] at h;exact h
      go_wp2_with (first|(at_builtin;refine wpList_append_lies _ rfl _ _ 28 rfl (w.heap.size+2) 4 ib fX 1 1 underlying28 hib hb0 hb1 hb2 rfl (by decide) _ _ _ rfl (O7.alloc _) ⟨w7.heap.size,0,none⟩ 1 1 [bool ek] rfl rfl (cell_one_new _ _ _) (by intro u hu;simp at hu;subst hu;rfl) (by decide) (by unfold maxLen;omega) (by omega) (by simp;omega) _ rfl ?_;intro g2 cap3 w8 hown hgrow hat hlt2;have hPB:w8.heap[w.heap.size+1]? =w7.heap[w.heap.size+1]? :=(hgrow.block _ (by simp;omega) (λe=>by have:=(O7.lt _ e.symm).1;omega)).trans (lG _ _ _ (by omega));have t1:w8.cell? ⟨w.heap.size+1,2,none⟩=some (slice ae2 ns ce2):=(gY hPB).trans A7.1.cells.1.2.2.1;have t2:w8.frozen? ⟨w.heap.size+1,2,none⟩=false:=(gW hPB).trans (A7.1.cells.2 2)))
      obtain⟨ev3,w9,hw9,A9⟩:∃ev3 w9,w9=w8.setCell ⟨w.heap.size+1,2,none⟩ (slice (qX g2) (ns+1) cap3)/\Hid (Rp w w9 mv2 sv3 ev3 (j+1) xs2 (sl++[!hasRuleB m k]) (el++[ek]) (aheadTo ms (j+1))/\Mx w9 qb (slice an m.next.length cn) (slice ar m.rules.length cr) (slice (some ⟨be,oe,none⟩) m.empty.length ce) m):=by
       refine⟨slice (qX g2) (ns+1) cap3,_,rfl,?_,Mx.app A7.2 O7 (by decide) hgrow (Ne.symm hq1)⟩;have hown2:=hown;rw[<-HLL.out.2.1] at hown2;have h:=Rp.emp_app A7.1 hown2 hgrow (by
        rcases hat with ha|ha
        ·exact .inl ha
        ·right;rw[ha];simp)
       rw[HLL.out.2.1] at h;exact h
      rw[<-hw9];clear hw9 hown hgrow hat hPB t1 t2 O7 s2;go_roundg (m.empty.length-(k+1))
      case measure=>rw[HB.out.1];omega
      case rel=>
       refine⟨k+1,sv3,ev3,rfl,by omega,by go_num,?_,A9.2⟩;have e1:vB ms j++zAV m (k+1)=sl++[!hasRuleB m k]:=by
        rw[<-HLL.out.2.2.1];simp[zAV,List.range_succ]
       have e2:jX ms j++m.empty.take (k+1)=el++[ek]:=by
        rw[<-HLL.out.2.2.2,<-HEK.out,gQ,List.take_add_one,lW,lV hk3];rfl
       rw[e1,e2];exact A9.1
    ·have hke:k=m.empty.length:=by omega
     have i2:(m.empty.length:Int)<=(k:Int):=by omega
     have HZ:Hid (Rp w wr mv2 sv ev (j+1) xs2 (vB ms (j+1)) (jX ms (j+1)) (aheadTo ms (j+1))):=by
      have h:=hR;rw[hke,List.take_length] at h;have e1:vB ms (j+1)=vB ms j++zAV m m.empty.length:=by rw[<-HT.out.2.2.2.2.2.2];rfl
      have e2:jX ms (j+1)=jX ms j++m.empty:=by rw[<-HT.out.2.2.2.2.2.2];rfl
      show Rp _ _ _ _ _ _ _ _ _ _;rw[e1,e2];exact h
     clear hgk hR hM hke;go_wp2_with fail;go_roundg (ms.length-(j+1))
     case measure=>rw[HA.out.1];omega
     case rel=>exact⟨j+1,_,_,_,_,rfl,by omega,by go_num,HZ⟩
  ·have hje:j=ms.length:=by omega
   have i1:(ms.length:Int)<=(j:Int):=by omega
   have HZ:Hid (Rp w wr mv sv ev j xs (vB ms ms.length) (jX ms ms.length) (aheadTo ms ms.length)):=by
    have h:=hR;show Rp _ _ _ _ _ _ _ _ _ _;rw[<-hje];exact h
   have hal:=zGV ms HOK ms.length lQ;have HIS:Hid (∀w',Ca 70 #[iX (aheadTo ms ms.length),iX ((kinds:Nat):Int)] w' λe w2=>e=returned (bool (yH (aheadTo ms ms.length) kinds))/\w2=w'):=λw'=>zGy w' _ kinds hk (by omega);obtain⟨⟨r0,r1,r2,r3,r4,r5⟩,rf⟩:=HZ.cells;have f4:=rf 4;obtain⟨a0,k0,rfl⟩:=zF HZ.modes;obtain⟨a1,k1,rfl⟩:=HZ.shad.form;obtain⟨a2,k2,rfl⟩:=HZ.emp.form;have hres:=HZ.res;have x0:wr.cell? ⟨w.heap.size,0,none⟩=some nX:=by unfold cell?;rw[hres];rfl
   have x1:wr.cell? ⟨w.heap.size,1,none⟩=some nX:=by unfold cell?;rw[hres];rfl
   have x2:wr.cell? ⟨w.heap.size,2,none⟩=some nX:=by unfold cell?;rw[hres];rfl
   have x3:wr.cell? ⟨w.heap.size,3,none⟩=some zX:=by unfold cell?;rw[hres];rfl
   have x4:wr.cell? ⟨w.heap.size,4,none⟩=some fX:=by unfold cell?;rw[hres];rfl
   have x5:wr.cell? ⟨w.heap.size,5,none⟩=some zX:=by unfold cell?;rw[hres];rfl
   have xf:∀i,wr.frozen? ⟨w.heap.size,i,none⟩=false:=λi=>by unfold frozen?;rw[hres];simp
   have xf0:=xf 0;have xf1:=xf 1;have xf2:=xf 2;have xf3:=xf 3;have xf4:=xf 4;have xf5:=xf 5;clear hgk hR hje rf xf hres;obtain⟨A,hA⟩:∃A,aheadTo ms ms.length=A:=⟨_,rfl⟩
   rw[hA] at r3 HIS HZ hal;have HAe:Hid (aheadTo ms ms.length=A):=hA;clear hA;cases force with
   |true=>
    go_wp2_with fail;refine gU (v:=agg #[slice a0 j k0,slice a1 (vB ms ms.length).length k1,slice a2 (jX ms ms.length).length k2,iX A,fX,zX]) (by simp[results,results46,go_sem, *]) rfl ⟨_,_,_,by rw[HAe.out];rfl,?_,?_,?_,⟨_,_,_,rfl⟩⟩
    ·refine yE (H:=w.heap.size+2) ?_ (by omega)
     iterate 7 refine xI ?_ (by omega)
     exact HZ.shad
    ·refine yE (H:=w.heap.size+2) ?_ (by omega)
     iterate 7 refine xI ?_ (by omega)
     exact HZ.emp
    ·refine HZ.keep.trans ?_
     iterate 6 refine Keep.trans ?_ (zP _ _ _ _ (by omega))
     exact zP _ _ _ _ (by omega)
   |false=>
    go_wp2_with (first|(go_at_call 70;refine(HIS _).mono ?_;rintro e w9 ⟨rfl,rfl⟩))
    refine gU (v:=agg #[slice a0 j k0,slice a1 (vB ms ms.length).length k1,slice a2 (jX ms ms.length).length k2,iX A,bool (yH A kinds),zX]) (by simp[results,results46,go_sem, *]) rfl ⟨_,_,_,by rw[HAe.out];rfl,?_,?_,?_,⟨_,_,_,rfl⟩⟩
    ·refine yE (H:=w.heap.size+2) ?_ (by omega)
     iterate 7 refine xI ?_ (by omega)
     exact HZ.shad
    ·refine yE (H:=w.heap.size+2) ?_ (by omega)
     iterate 7 refine xI ?_ (by omega)
     exact HZ.emp
    ·refine HZ.keep.trans ?_
     iterate 6 refine Keep.trans ?_ (zP _ _ _ _ (by omega))
     exact zP _ _ _ _ (by omega)
end
theorem zEY (w:World)(H p:Nat)(c:Tc)(t:Tb)(b:Mem w H p c t)(ok:t.OkN)(g:1<=t.nst)(h:1<=t.count)(a:Nat)(j:a<=255)(k:zG t.count a<=3000):
  Calls prog 47 #[pX p,iX a] w λe w'=>e=rX/\∃d,Mem w' H p d ({t with stream:=true}.looking a)/\Keep w.heap.size p w w':=by
 have q:=b.tp.get_stream;have r:=b.tp.fz 0;have l:Hid (Mem (w.setCell ⟨p,0,none⟩ tX) H p {c with stream:=tX} {t with stream:=true}):=b.putStream true;have m:=zCG _ H p _ _ l ⟨ok.1,ok.2,ok.3,ok.4⟩ g h a j k;clear b;go_enter func47,ntmps47
 go_wp2_with (go_at_call 66;refine m.mono ?_;rintro e w2 ⟨rfl,d,o,f⟩)
 go_end0;exact⟨rfl,d,o,(Keep.set _ _ _).trans (by rw[zC] at f;exact f)⟩
def zE3 (n:Int):Bool:=decide (0<=n/\n<55296\/57343<n/\n<=1114111)
structure Cs where
 ranges:List (Int×Int)
 others:Bool
def Cs.lists (s:Cs)(c:Int):Bool:=s.ranges.any λr=>decide (r.1<=c)&&decide (c<=r.2)
def Cs.has (s:Cs)(c:Int):Bool:=zE3 c&&(s.lists c != s.others)
def RangesAt (w:World)(v:Value)(l:List (Int×Int)):Prop:=
 ∃ao cap,v=slice ao l.length cap/\l.length<=cap/\cap<=maxLen/\∀i,i<l.length->∃b o,ao=some ⟨b,o,none⟩/\In w b/\w.cell? ⟨b,o+i*2,none⟩=some (int i64 (l.getD i (0,0)).1)/\w.cell? ⟨b,o+i*2+1,none⟩=some (int i64 (l.getD i (0,0)).2)
theorem RangesAt.grown {w w':World}{v:Value}{l:List (Int×Int)}(d:RangesAt w v l)(a:Grew w w'):RangesAt w' v l:=by
 obtain⟨ao,cap,e,f,g,j⟩:=d;refine⟨ao,cap,e,f,g,λi k=>?_⟩;have ⟨b,o,m,c,c0,c1⟩:=j i k;exact⟨b,o,m,lZ c a.size,zA c0 c a,zA c1 c a⟩
def SetsAt (w:World)(v:Value)(l:List Cs):Prop:=
 ∃ao cap,v=slice ao l.length cap/\l.length<=cap/\cap<=maxLen/\∀i,i<l.length->∃b o u,ao=some ⟨b,o,none⟩/\In w b/\w.cell? ⟨b,o+i*2,none⟩=some u/\w.cell? ⟨b,o+i*2+1,none⟩=some (bool (l.getD i ⟨[],false⟩).others)/\RangesAt w u (l.getD i ⟨[],false⟩).ranges
theorem SetsAt.grown {w w':World}{v:Value}{l:List Cs}(d:SetsAt w v l)(a:Grew w w'):SetsAt w' v l:=by
 obtain⟨ao,cap,e,f,g,j⟩:=d;refine⟨ao,cap,e,f,g,λi k=>?_⟩;have ⟨b,o,u,m,c,c0,c1,p⟩:=j i k;exact⟨b,o,u,m,lZ c a.size,zA c0 c a,zA c1 c a,p.grown a⟩
theorem zGx (w:World)(n:Int):
  Calls prog 191 #[iX n] w λe w'=>e=returned (bool (zE3 n))/\w'=w:=by
 by_cases b:0<=n
 ·by_cases d:n<55296
  ·have a:Hid (zE3 n=true):=by show _=_;unfold zE3;exact gG (by omega)
   go_in;go_wp2;go_ret;exact⟨by rw[a.out];simp[b,d],rfl⟩
  ·by_cases c:57343<n
   ·have a:Hid (zE3 n=decide (n<=1114111)):=by show _=_;unfold zE3;congr 1;exact propext (by omega)
    go_in;go_wp2;go_ret;exact⟨by rw[a.out];simp[b,d,c],rfl⟩
   ·have a:Hid (zE3 n=false):=by show _=_;unfold zE3;exact gJ (by omega)
    go_in;go_wp2;go_ret;exact⟨by rw[a.out];simp[b,d,c],rfl⟩
 ·have c:¬57343<n:=by omega
  have a:Hid (zE3 n=false):=by show _=_;unfold zE3;exact gJ (by omega)
  go_in;go_wp2;go_ret;exact⟨by rw[a.out];simp[b,c],rfl⟩
theorem zOI {a:Type}(l:List a)(p:a->Bool)(b:a)(i:Nat)(c:i<l.length)(e:p (l.getD i b)=true):l.any p=true:=by
 rw[List.any_eq_true];exact⟨_,zZ l i b c,e⟩
theorem zKw {a:Type}(l:List a)(p:a->Bool)(c:a)(e:∀i,i<l.length->p (l.getD i c)=false):l.any p=false:=by
 rw[List.any_eq_false];intro x f;obtain⟨i,b,rfl⟩:=List.getElem_of_mem f;have:=e i b;rw[lW,lV b] at this;simpa using this
theorem zJ4 (w:World)(rv:Value)(s:Cs)(B:RangesAt w rv s.ranges)(J:s.ranges.length<=1000000000000)(c:Int):
  Calls prog 192 #[agg #[rv,bool s.others],iX c] w λe w'=>e=returned (bool (s.lists c))/\Grew w w':=by
 obtain⟨ao,cap,rfl,_,_,C⟩:=B;have D:=vl C;have E:Hid (∀i,i<s.ranges.length->(s.ranges.getD i (0,0)).1<=c->c<=(s.ranges.getD i (0,0)).2->s.lists c=true):=λi a l m=>zOI _ _ (0,0) i a (by show(decide _&&decide _)=true;rw[gG l,gG m];rfl);have F:Hid ((∀i,i<s.ranges.length->¬((s.ranges.getD i (0,0)).1<=c/\c<=(s.ranges.getD i (0,0)).2))->s.lists c=false):=λf=>zKw _ _ (0,0) λi a=>by
  have:=f i a;simpa using this
 go_in;go_wp2;go_loopg [10] s.ranges.length (λq i wr=>∃j:Nat,q=s.ranges.length-j/\j<=s.ranges.length/\i=iX (j:Int)/\(∀i,i<j->¬((s.ranges.getD i (0,0)).1<=c/\c<=(s.ranges.getD i (0,0)).2))/\Grew w wr)
 case atStart=>exact⟨0,rfl,lX,rfl,λi a=>by omega,kZ _ _ lQ⟩
 case round=>
  obtain⟨j,r,K,rfl,p,g⟩:=hrel;have d:Hid (gk=s.ranges.length-j/\(∀i,i<j->¬((s.ranges.getD i (0,0)).1<=c/\c<=(s.ranges.getD i (0,0)).2))/\Grew w wr):=⟨r,p,g⟩
  by_cases u:j<s.ranges.length
  ·have G:(j:Int)<(s.ranges.length:Int):=by omega
   obtain⟨b,o,rfl,v,c0,c1⟩:=D j u;have L:cX wr b (o+j*2)=some (iX (s.ranges.getD j (0,0)).1):=zA c0 v g;have M:cX wr b (o+j*2+1)=some (iX (s.ranges.getD j (0,0)).2):=zA c1 v g;have H:=vl <| E j u;have z:Hid (¬((s.ranges.getD j (0,0)).1<=c/\c<=(s.ranges.getD j (0,0)).2)->∀i,i<j+1->¬((s.ranges.getD i (0,0)).1<=c/\c<=(s.ranges.getD i (0,0)).2)):=λf i a=>by
    by_cases e:i=j
    ·rw[e];exact f
    ·exact d.2.1 i (by omega)
   clear c0 c1 r p g;generalize (s.ranges.getD j (0,0)).1=x at *;generalize (s.ranges.getD j (0,0)).2=y at *;have A:Grew w (wr.alloc (.cells #[iX x,iX y] 255)):=d.2.2.trans (kZ _ _ d.2.2.size);have t:=vl A;clear A;by_cases l:x<=c
   ·by_cases m:c<=y
    ·have k:=vl <| H l m
     go_wp2;go_ret;exact⟨by rw[k.out];rfl,t⟩
    ·have k:=vl m
     go_wp2;go_roundg (s.ranges.length-(j+1))
     case measure=>rw[d.out.1];omega
     case rel=>exact⟨j+1,rfl,by omega,by go_num,z (λf=>by have:=k.out;omega),t⟩
   ·have k:=vl l
    go_wp2;go_roundg (s.ranges.length-(j+1))
    case measure=>rw[d.out.1];omega
    case rel=>exact⟨j+1,rfl,by omega,by go_num,z (λf=>by have:=k.out;omega),t⟩
  ·have G:(s.ranges.length:Int)<=(j:Int):=by omega
   have I:=vl <| F λi a=>p i (by omega);clear r p g;go_wp2;go_ret;exact⟨by rw[I.out];rfl,d.2.2⟩
theorem zM8 (w:World)(rv:Value)(s:Cs)(l:RangesAt w rv s.ranges)(t:s.ranges.length<=1000000000000)(c:Int):
  Calls prog 184 #[agg #[rv,bool s.others],iX c] w λe w'=>e=returned (bool (s.has c))/\Grew w w':=by
 have ⟨ao,cap,m,_⟩:=id l;have z:=vl m;clear m;obtain⟨w1,d,a,o,p⟩:∃w1,w1=w.alloc (.cells #[rv,bool s.others] 161)/\Hid (Grew w w1/\w.heap.size<w1.heap.size)/\w1.cell? ⟨w.heap.size,0,none⟩=some rv/\w1.cell? ⟨w.heap.size,1,none⟩=some (bool s.others):=by
  have u:=gZ w (.cells #[rv,bool s.others] 161);refine⟨_,rfl,⟨kZ _ _ lQ,by simp⟩,?_,?_⟩ <;> ·unfold cell?;rw[u];rfl
 have v:Hid (Ca 192 #[agg #[rv,bool s.others],iX c] w1.drew λe w'=>e=returned (bool (s.lists c))/\w'.cell? ⟨w.heap.size,1,none⟩=some (bool s.others)/\w'.cell? ⟨w.heap.size,0,none⟩=some rv/\Grew w w'):=by
  refine(zJ4 w1.drew rv s ((l.grown a.1).grown (Keep.drew _)) t c).mono ?_;rintro e w2 ⟨rfl,g⟩;exact⟨rfl,zA (w:=w1.drew) p a.2 g,zA (w:=w1.drew) o a.2 g,a.1.trans ((Keep.undrew g).lower a.1.size a.1.size)⟩
 cases b:zE3 c with
 |false=>
  have j:Hid (s.has c=false):=by show _=_;unfold Cs.has;rw[b];rfl
  have k:Hid (∀w,Ca 191 #[iX c] w λe w'=>e=returned (bool false)/\w'=w):=λw=>by rw[<-b];exact zGx w c
  go_in;apply wp_cut;intro x f;go_wp2;apply f.out;rw[<-d];clear d;go_wp2;go_quiet ((go_at_call 191;exact Calls.quiet_of_same (k _)));go_wp2;go_ret;exact⟨by rw[j.out];rfl,a.1.trans ⟨rfl,rfl,lQ,λ_ _ _=>rfl⟩⟩
 |true=>
  have j:Hid (s.has c=(s.lists c != s.others)):=by show _=_;unfold Cs.has;rw[b];rfl
  have k:Hid (∀w,Ca 191 #[iX c] w λe w'=>e=returned (bool true)/\w'=w):=λw=>by rw[<-b];exact zGx w c
  clear b;go_in;apply wp_cut;intro x f;go_wp2;apply f.out;clear f;rw[<-d];clear d;go_wp2;go_region_held3 (λw'=>w'.cell? ⟨w.heap.size,0,none⟩=some rv/\w'.cell? ⟨w.heap.size,1,none⟩=some (bool s.others)) (first|exact⟨q,r⟩|go_keep) (first|(go_at_call 191;refine(k _).mono ?_;rintro e A ⟨rfl,rfl⟩;have q:=o;have r:=p)|(go_at_call 192;refine v.mono ?_;rintro e B ⟨rfl,r,q,y⟩))
  all_goals
   go_wp2;go_ret;exact⟨by rw[j.out];rfl,y⟩
theorem qF (a b:Nat)(c:a<9223372036854775808)(d:b<9223372036854775808):bits .or i64 (a:Int) (b:Int)=((a|||b:Nat):Int):=
 (bits_nat i64 63 (by decide) (λn e f=>zBz n e (by simpa using f)) a b (by simpa using c) (by simpa using d)).2
theorem zGl (j:Nat)(a:j<63):wrap64 (2^j)=((2^j:Nat):Int):=by
 have b:2^j<2^63:=Nat.pow_lt_pow_right (by omega) a;have e:((2:Int)^j)=((2^j:Nat):Int):=by simp
 rw[e];generalize 2^j=x at b;exact w64 _ (by omega) (by omega)
theorem zNY (a j:Nat)(b:j<63)(c:a<9223372036854775808):bits .or i64 (a:Int) (wrap64 (2^j))=((a|||2^j:Nat):Int):=by
 have d:2^j<2^63:=Nat.pow_lt_pow_right (by omega) b;rw[zGl j b];exact qF _ _ c (by omega)
def vP (f:Nat->Bool):Nat->Nat
 |0=>0
 |k+1=>if f k then vP f k|||2^k else vP f k
theorem zBZ (f:Nat->Bool)(k:Nat):vP f k<2^k:=by
 induction k with
 |zero=>simp[vP]
 |succ k b=>
  have a:2^k<2^(k+1):=Nat.pow_lt_pow_right (by omega) (by omega);unfold vP;split
  ·exact Nat.or_lt_two_pow (by omega) a
  ·omega
def zBm (sets:List Cs)(c:Int)(i:Nat):Bool:=(sets.getD i ⟨[],false⟩).has c
def vM (sets:List Cs)(c:Int):Nat:=vP (zBm sets c) sets.length
theorem zH4 (w:World)(v:Value)(sets:List Cs)(z:SetsAt w v sets)(T:sets.length<=24)(A:∀s∈sets,s.ranges.length<=1000000000000)(c:Int):
  Calls prog 169 #[v,iX c] w λe w'=>e=returned (iX (vM sets c))/\Grew w w':=by
 obtain⟨ao,cap,rfl,_,_,B⟩:=z;have C:=vl B;have D:Hid (∀i,i<sets.length->(sets.getD i ⟨[],false⟩).ranges.length<=1000000000000):=λi E=>A _ (zZ _ i _ E);have F:Hid (vM sets c=vP (zBm sets c) sets.length):=rfl;generalize U:sets.length=n at *;go_in;go_wp2;go_loopg [5,10] n (λq x i wr=>∃j:Nat,q=n-j/\j<=n/\x=iX (vP (zBm sets c) j:Nat)/\i=iX (j:Int)/\Grew w wr)
 case atStart=>exact⟨0,rfl,lX,rfl,rfl,⟨rfl,rfl,lQ,λ_ _ _=>rfl⟩⟩
 case round=>
  obtain⟨j,G,V,rfl,rfl,g⟩:=hrel;have a:Hid (gk=n-j/\Grew w wr):=⟨G,g⟩
  by_cases p:j<n
  ·have H:(j:Int)<(n:Int):=by omega
   obtain⟨b,o,u,rfl,r,c0,c1,t⟩:=C j p;obtain⟨I,J,rfl,-⟩:=id t;have W:=zA c0 r g;have X:=zA c1 r g;have d:Hid (∀w',Grew w w'->Ca 184 #[agg #[slice I (sets.getD j ⟨[],false⟩).ranges.length J,bool (sets.getD j ⟨[],false⟩).others],iX c] w' λe w2=>e=returned (bool (zBm sets c j))/\Grew w w2):=by
    intro w' y;refine(zM8 w' _ _ (t.grown y) (D j p) c).mono ?_;rintro e w2 ⟨rfl,K⟩;exact⟨rfl,y.th K⟩
   have Y:=zBZ (zBm sets c) j;have aa:2^j<=2^24:=kG (by omega) (by omega);have L:Hid (zBm sets c j=true->vP (zBm sets c) (j+1)=vP (zBm sets c) j|||2^j):=λk=>by show(if _ then _ else _)=_;rw[k];rfl
   have M:Hid (zBm sets c j=false->vP (zBm sets c) (j+1)=vP (zBm sets c) j):=λk=>by show(if _ then _ else _)=_;rw[k];rfl
   generalize (sets.getD j ⟨[],false⟩).ranges.length=ab at *;generalize (sets.getD j ⟨[],false⟩).others=ac at *;generalize vP (zBm sets c) j=N at *;have O:=vl <| zNY N j (by omega) (by omega);cases f:zBm sets c j with
   |true=>
    rw[f] at d;have l:=vl <| L f;go_wp2_with (go_at_call 184;refine(d _ (a.2.trans (kZ _ _ a.2.size))).mono ?_;rintro e P ⟨rfl,m⟩)
    go_roundg (n-(j+1))
    case measure=>rw[a.out.1];omega
    case rel=>exact⟨j+1,rfl,by omega,by rw[O.out,l.out],by go_num,m⟩
   |false=>
    rw[f] at d;have l:=vl <| M f;go_wp2_with (go_at_call 184;refine(d _ (a.2.trans (kZ _ _ a.2.size))).mono ?_;rintro e P ⟨rfl,m⟩)
    go_roundg (n-(j+1))
    case measure=>rw[a.out.1];omega
    case rel=>exact⟨j+1,rfl,by omega,by rw[l.out],by go_num,m⟩
  ·have R:j=n:=by omega
   have H:(n:Int)<=(j:Int):=by omega
   have S:Hid (vM sets c=vP (zBm sets c) j):=by show _=_;rw[F.out,R]
   go_wp2;go_ret;exact⟨by rw[S.out];rfl,a.2⟩
structure Ar where
 lows:List Int
 letters:List Int
 sets:List Int
def zAj (lows:List Int)(n:Int):Nat->Nat->Nat->Nat
 |0,low,_=>low
 |f+1,low,high=>if high-low>1 then(if lows.getD ((low+high)/2) 0<=n then zAj lows n f ((low+high)/2) high else zAj lows n f low ((low+high)/2)) else low
def Ar.area (a:Ar)(n:Int):Nat:=zAj a.lows n a.lows.length 0 a.lows.length
theorem zLW (lows:List Int)(n:Int)(f low a:Nat)(b:¬a-low>1):zAj lows n f low a=low:=by
 cases f with
 |zero=>rfl
 |succ f=>rw[zAj,if_neg b]
theorem zKv (lows:List Int)(n:Int)(f low a:Nat)(b:low<a):zAj lows n f low a<a:=by
 induction f generalizing low a with
 |zero=>exact b
 |succ f c=>
  rw[zAj];split
  ·split
   ·exact c _ _ (by omega)
   ·exact lZ (c _ _ (by omega)) (by omega)
  ·exact b
theorem Ar.area_lt (a:Ar)(n:Int)(b:0<a.lows.length):a.area n<a.lows.length:=zKv _ _ _ _ _ b
structure ArAt (w:World)(lv tv sv:Value)(a:Ar):Prop where
 lows:Ints w (In w) lv a.lows
 letters:Ints w (In w) tv a.letters
 sets:Ints w (In w) sv a.sets
theorem ArAt.grown {w w':World}{lv tv sv:Value}{a:Ar}(b:ArAt w lv tv sv a)(c:Grew w w'):ArAt w' lv tv sv a:=⟨b.lows.grown c,b.letters.grown c,b.sets.grown c⟩
theorem zGT (w:World)(lv tv sv:Value)(a:Ar)(p:ArAt w lv tv sv a)(M:a.lows.length<=1000000000000)(n:Int):
  Calls prog 185 #[agg #[lv,tv,sv],iX n] w λe w'=>e=returned (iX (a.area n))/\Grew w w':=by
 obtain⟨r,s,rfl,_,_,u⟩:=p.lows;obtain⟨at_,v,rfl,-⟩:=p.letters;obtain⟨as_,cs,rfl,-⟩:=p.sets;have F:=vl u;clear u p;obtain⟨w1,z,A,N⟩:∃w1,w1=w.alloc (.cells #[slice r a.lows.length s,slice at_ a.letters.length v,slice as_ a.sets.length cs] 172)/\Hid (Grew w w1)/\w1.cell? ⟨w.heap.size,0,none⟩=some (slice r a.lows.length s):=by
  have G:=gZ w (.cells #[slice r a.lows.length s,slice at_ a.letters.length v,slice as_ a.sets.length cs] 172);refine⟨_,rfl,kZ _ _ lQ,?_⟩;unfold cell?;rw[G];rfl
 have H:Hid (a.area n=zAj a.lows n a.lows.length 0 a.lows.length):=rfl;generalize a.lows.length=m at *;go_in;apply wp_cut;intro I g;go_wp2;apply g.out;clear g;rw[<-z];clear z;go_wp2;go_loopg [5,6] m (λq x y wr=>∃low c f:Nat,q=c-low/\x=iX (low:Int)/\y=iX (c:Int)/\low<=c/\c<=m/\c-low<=f+1/\a.area n=zAj a.lows n f low c/\wr=w1)
 case atStart=>exact⟨0,m,m,rfl,rfl,rfl,lX,lQ,by omega,H,rfl⟩
 case round=>
  obtain⟨low,c,f,B,rfl,rfl,O,P,R,C,rfl⟩:=hrel;have j:Hid (gk=c-low/\a.area n=zAj a.lows n f low c):=⟨B,C⟩
  clear B C;by_cases t:c-low>1
  ·obtain⟨f,rfl⟩:∃J,f=J+1:=⟨f-1,by omega⟩
   have S:low<(low+c)/2:=by omega
   have T:(low+c)/2<c:=by omega
   have D:Hid (zAj a.lows n (f+1) low c=if a.lows.getD ((low+c)/2) 0<=n then zAj a.lows n f ((low+c)/2) c else zAj a.lows n f low ((low+c)/2)):=by show _=_;rw[zAj,if_pos t]
   obtain⟨b,o,rfl,K,k⟩:=F ((low+c)/2) (by omega);have U:wr.cell? ⟨b,o+(low+c)/2,none⟩=some (iX (a.lows.getD ((low+c)/2) 0)):=zA k K A;have V:(((low:Int)+(c:Int)).tdiv 2)=(((low+c)/2:Nat):Int):=by
    rw[Int.tdiv_eq_ediv_of_nonneg (by omega)];omega
   clear k;have L:(1:Int)<(c:Int)-(low:Int):=by omega
   have W:(((low+c)/2:Nat):Int)<(m:Int):=by omega
   apply wp_cut;intro I g;go_wp2;apply g.out;clear g;generalize E:(low+c)/2=d at *;have X:=vl E;clear E;generalize a.lows.getD d 0=x at *;by_cases k:x<=n
   ·have l:Hid (zAj a.lows n (f+1) low c=zAj a.lows n f d c):=by show _=_;rw[D.out,if_pos k]
    go_wp2;go_roundg (c-d)
    case measure=>rw[j.out.1];omega
    case rel=>exact⟨d,c,f,rfl,rfl,rfl,by omega,by omega,by omega,by rw[j.out.2,l.out],rfl⟩
   ·have l:Hid (zAj a.lows n (f+1) low c=zAj a.lows n f low d):=by show _=_;rw[D.out,if_neg k]
    go_wp2;go_roundg (d-low)
    case measure=>rw[j.out.1];omega
    case rel=>exact⟨low,d,f,rfl,rfl,rfl,by omega,by omega,by omega,by rw[j.out.2,l.out],rfl⟩
  ·have L:(c:Int)-(low:Int)<=1:=by omega
   have l:Hid (zAj a.lows n f low c=low):=zLW _ _ _ _ _ t;clear t;go_wp2;go_ret;exact⟨by rw[j.out.2,l.out];rfl,A⟩
def Ar.letter (a:Ar)(n:Int):Int:=a.letters.getD (a.area n) 0
def Ar.alike (a:Ar)(m n:Int):Bool:=(a.area m:Int)==(a.area n:Int)
theorem zIy (w:World)(lv tv sv:Value)(a:Ar)(d:ArAt w lv tv sv a)(t:a.lows.length<=1000000000000)(p:0<a.lows.length)(u:a.letters.length=a.lows.length)(n:Int):
  Calls prog 175 #[agg #[lv,tv,sv],iX n] w λe w'=>e=returned (iX (a.letter n))/\Grew w w':=by
 obtain⟨j,l,rfl,-⟩:=id d.lows;obtain⟨b,c,g,rfl,v,_,_,q⟩:=d.letters.block (by omega);obtain⟨as_,cs,rfl,-⟩:=id d.sets;obtain⟨w1,r,f,E,y,F⟩:∃w1,w1=w.alloc (.cells #[slice j a.lows.length l,slice (some ⟨b,c,none⟩) a.letters.length g,slice as_ a.sets.length cs] 172)/\Hid (Grew w w1/\w.heap.size<w1.heap.size)/\w1.cell? ⟨w.heap.size,0,none⟩=some (slice j a.lows.length l)/\w1.cell? ⟨w.heap.size,1,none⟩=some (slice (some ⟨b,c,none⟩) a.letters.length g)/\w1.cell? ⟨w.heap.size,2,none⟩=some (slice as_ a.sets.length cs):=by
  have z:=gZ w (.cells #[slice j a.lows.length l,slice (some ⟨b,c,none⟩) a.letters.length g,slice as_ a.sets.length cs] 172);refine⟨_,rfl,⟨kZ _ _ lQ,by simp⟩,?_,?_,?_⟩ <;> ·unfold cell?;rw[z];rfl
 have A:=zGT w1 _ _ _ a (d.grown f.1) t n;have B:a.area n<a.letters.length:=by have:=a.area_lt n p;omega
 have s:w.cell? ⟨b,c+a.area n,none⟩=some (iX (a.letters.getD (a.area n) 0)):=q _ B;have C:Hid (a.letter n=a.letters.getD (a.area n) 0):=rfl;have m:Hid (In w b/\w.cell? ⟨b,c+a.area n,none⟩=some (iX (a.letters.getD (a.area n) 0))):=⟨v,s⟩
 clear q d s p u;generalize a.letters.getD (a.area n) 0=x at *;generalize a.area n=k at *;have G:(k:Int)<(a.letters.length:Int):=by omega
 go_in;apply wp_cut;intro H D;go_wp2;apply D.out;rw[<-r];clear r;go_wp2_with (go_at_call 185;refine A.mono ?_;rintro e w2 ⟨rfl,o⟩;have I:w2.cell? ⟨w.heap.size,1,none⟩=some (slice (some ⟨b,c,none⟩) a.letters.length g):=zA y f.2 o;have J:w2.cell? ⟨b,c+k,none⟩=some (iX x):=zA (zA m.2 m.1 f.1) (lZ m.1 f.1.size) o)
 go_ret;exact⟨by rw[C.out];rfl,f.1.th o⟩
theorem zKy (w:World)(lv tv sv:Value)(a:Ar)(d:ArAt w lv tv sv a)(t:a.lows.length<=1000000000000)(m n:Int):
  Calls prog 177 #[agg #[lv,tv,sv],iX m,iX n] w λe w'=>e=returned (bool (a.alike m n))/\Grew w w':=by
 obtain⟨f,g,rfl,-⟩:=id d.lows;obtain⟨at_,j,rfl,-⟩:=id d.letters;obtain⟨as_,cs,rfl,-⟩:=id d.sets;obtain⟨w1,l,b,o,p,q⟩:∃w1,w1=w.alloc (.cells #[slice f a.lows.length g,slice at_ a.letters.length j,slice as_ a.sets.length cs] 172)/\Hid (Grew w w1/\w.heap.size<w1.heap.size)/\w1.cell? ⟨w.heap.size,0,none⟩=some (slice f a.lows.length g)/\w1.cell? ⟨w.heap.size,1,none⟩=some (slice at_ a.letters.length j)/\w1.cell? ⟨w.heap.size,2,none⟩=some (slice as_ a.sets.length cs):=by
  have u:=gZ w (.cells #[slice f a.lows.length g,slice at_ a.letters.length j,slice as_ a.sets.length cs] 172);refine⟨_,rfl,⟨kZ _ _ lQ,by simp⟩,?_,?_,?_⟩ <;> ·unfold cell?;rw[u];rfl
 have r:Hid (∀w' x,Grew w w'->Ca 185 #[agg #[slice f a.lows.length g,slice at_ a.letters.length j,slice as_ a.sets.length cs],iX x] w' λe w2=>e=returned (iX (a.area x))/\Grew w' w2):=λw' x v=>zGT w' _ _ _ a (d.grown v) t x;have y:Hid (a.alike m n=((a.area m:Int)==(a.area n:Int))):=rfl;go_in;apply wp_cut;intro z k;go_wp2;apply k.out;rw[<-l];clear l;apply wp_cut;intro z k;go_wp2_with (go_at_call 185;refine(r _ m b.1).mono ?_;rintro e w2 ⟨rfl,c⟩;have B:=zA o b.2 c;have C:=zA p b.2 c;have D:=zA q b.2 c)
 apply k.out;clear k o p q;have s:=vl <| b.1.th c;clear c;go_wp2_with (go_at_call 185;refine(r _ n s).mono ?_;rintro e E ⟨rfl,A⟩)
 go_ret;exact⟨by rw[y.out];rfl,s.th A⟩
def zDL (l:List Int)(n:Int):Nat->Nat
 |0=>0
 |i+1=>if l.getD i 0>n then zDL l n i else i+1
theorem zO2 (l:List Int)(n:Int)(i:Nat):zDL l n i<=i:=by
 induction i with
 |zero=>exact lQ
 |succ i a=>unfold zDL;split <;> omega
def zDv (l:List Int)(n:Int)(i:Nat):List Int:=l.take i++n::l.drop i
def zHg (l:List Int)(n:Int):List Int:=zDv l n (zDL l n l.length)
theorem zHA (l:List Int)(n:Int)(i:Nat):(zDv l n i).length=l.length+1:=by
 simp[zDv];omega
theorem zEQ (l:List Int)(n:Int)(i j:Nat)(c:i<=l.length):(zDv l n i).getD j 0=if j<i then l.getD j 0 else if j=i then n else l.getD (j-1) 0:=by
 unfold zDv;rw[lW,List.getElem?_append,List.length_take];by_cases a:j<i
 ·rw[if_pos (by omega),if_pos a,List.getElem?_take,if_pos a,lW]
 ·rw[if_neg (by omega),if_neg a]
  by_cases b:j=i
  ·subst b
   rw[if_pos rfl,show j-min j l.length=0 by omega];rfl
  ·rw[if_neg b,show j-min i l.length=(j-1-i)+1 by omega,List.getElem?_cons_succ,List.getElem?_drop,show i+(j-1-i)=j-1 by omega,lW]
structure BdAt (w:World)(H p:Nat)(v:Value)(l:List Int):Prop where
 blk:w.heap[p]? =some (.cells #[v] 239)
 own:OwnI w H v l
 pH:H<=p
 lt:p<w.heap.size
def zQv (w:World)(H p:Nat)(l:List Int):Prop:=∃v,BdAt w H p v l
theorem BdAt.cell {w:World}{H p:Nat}{v:Value}{l:List Int}(a:BdAt w H p v l):w.cell? ⟨p,0,none⟩=some v/\w.frozen? ⟨p,0,none⟩=false:=by
 constructor
 ·unfold cell?;rw[a.blk];rfl
 ·unfold frozen?;rw[a.blk];rfl
theorem OwnI.rowOf {w:World}{H:Nat}{v:Value}{l:List Int}(a:OwnI w H v l):Row w H 3 v l.length λi=>iX (l.getD i 0):=a.row l.length rfl (λi=>l.getD i 0) λ_ _=>rfl
theorem Row.ownI {w:World}{H:Nat}{v:Value}{l:List Int}(b:Row w H 3 v l.length λi=>iX (l.getD i 0)):OwnI w H v l:=by
 have e:(List.range l.length).map (λi=>iX (l.getD i 0))=l.map λx=>iX x:=by
  apply List.ext_getElem
  ·simp
  ·intro i a c
   simp at a;simp[a]
 unfold OwnI;rw[<-e];exact b
def Stay (w w':World):Prop:=∀(k:Nat) (c:Array Value) (t:TypeId),w.heap[k]? =some (Obj.cells c t)->t≠3->t≠239->w'.heap[k]? =some (Obj.cells c t)
structure Bz (w0 w:World)(H p g cap:Nat)(l:List Int)(n:Int)(i:Nat):Prop where
 blk:w.heap[p]? =some (.cells #[slice (some ⟨g,0,none⟩) (l.length+1) cap] 239)
 row:Row w H 3 (slice (some ⟨g,0,none⟩) (l.length+1) cap) (l.length+1) λj=>int i64 ((zDv l n i).getD j 0)
 lt:p<w.heap.size
 keep:Keep H H w0 w
 stay:Stay w0 w
theorem Bz.step {f w:World}{H p g cap:Nat}{l:List Int}{n:Int}{i:Nat}(a:Bz f w H p g cap l n (i+1))(v:i+1<=l.length):Bz f ((w.setCell ⟨g,i+1,none⟩ (iX (l.getD i 0))).setCell ⟨g,i,none⟩ (iX n)) H p g cap l n i:=by
 have m:p≠g:=λe=>zO a.row a.blk (by decide) (by rw[e];rfl);have o:=(a.row.at (by omega)).1;refine⟨(lJ _ _ _ _ m).trans ((lJ _ _ _ _ m).trans a.blk),?_,by rw[zC,zC];exact a.lt,(a.keep.trans (zP _ _ _ _ o)).trans (zP _ _ _ _ o),?_⟩;rotate_left
 ·intro k c t x q y
  have r:=a.stay k c t x q y;have s:k≠g:=λe=>zO a.row r (Ne.symm q) (by rw[e];rfl);exact(lJ _ _ _ _ s).trans ((lJ _ _ _ _ s).trans r)
 refine Row.congr ((a.row.set (i+1) (iX (l.getD i 0))).set i (iX n)) λj z=>?_;rw[zEQ l n i j (by omega)];by_cases b:j=i
 ·rw[if_pos b,if_neg (by omega),if_pos b]
 ·rw[if_neg b]
  by_cases d:j=i+1
  ·rw[if_pos d,if_neg (by omega),if_neg b,show j-1=i by omega]
  ·rw[if_neg d,zEQ l n (i+1) j v]
   by_cases u:j<i
   ·rw[if_pos (by omega),if_pos u]
   ·rw[if_neg (by omega),if_neg d,if_neg u,if_neg b]
theorem Bz.drewed {c X:World}{a:Addr}{u:Value}{H p g cap:Nat}{l:List Int}{n:Int}{i:Nat}(b:Bz c (X.setCell a u) H p g cap l n i):Bz c (X.drew.setCell a u) H p g cap l n i:=⟨b.1,b.2,b.3,⟨b.keep.os,b.keep.output,b.keep.size,b.keep.block⟩,b.stay⟩
theorem zLV (w:World)(H p:Nat)(v:Value)(l:List Int)(m:BdAt w H p v l)(aE:l.length<=1000000000000)(n:Int):
  Calls prog 183 #[pX p,iX n] w λe w'=>e=rX/\zQv w' H p (zHg l n)/\Keep H H w w'/\Stay w w':=by
 have ⟨ae,af,ag,ah,ai⟩:=info_parts yG;obtain⟨ao,cap,rfl⟩:=m.own.form;have ⟨M,N⟩:=m.cell;have B:=vl m;have C:=vl m.own;have O:=m.pH;have P:=m.lt;have aj:=vl <| zO m.own m.blk (by decide);have ak:H<=w.heap.size:=by omega
 go_in;apply wp_cut;intro aF al;go_wp2_with (at_builtin;refine wpList_append_lies _ rfl _ _ 45 rfl (H) 3 ae zX 1 8 underlying45 af ag ah ai rfl (by decide) _ _ _ rfl (C.alloc _) ⟨w.heap.size,0,none⟩ 1 1 [iX n] rfl rfl (cell_one_new _ _ _) (by intro u R;simp at R;subst R;rfl) (by decide) (by unfold maxLen;omega) (by omega) (by simp;omega) _ rfl ?_;intro a f w2 D r am aG;have s:w2.heap[p]? =w.heap[p]? :=(r.block p (by simp;omega) aj).trans (lG _ _ _ P);have t0:w2.cell? ⟨p,0,none⟩=some (slice ao l.length cap):=(gY s).trans M;have an:w2.frozen? ⟨p,0,none⟩=false:=(gW s).trans N)
 apply al.out;obtain⟨z,S,T⟩:∃z,z=w2.setCell ⟨p,0,none⟩ (slice (qX a) (l.length+1) f)/\Hid (Bz w z H p a f l n l.length):=by
  refine⟨_,rfl,?_,?_,?_,?_,?_⟩
  ·have E:=s.trans B.blk
   simp[setCell,lU,E]
  ·have ap:=OwnI.snoc D
   have F:a≠p:=λe=>zO D (s.trans B.blk) (by decide) (by rw[<-e];rfl);have y:Row w2 H 3 (slice (qX a) (l.length+1) f) (l.length+1) λj=>iX ((zDv l n l.length).getD j 0):=by
    refine ap.row (l.length+1) (by simp) _ λj aH=>?_;simp[zDv]
   exact y.blk λg _ _ aq=>lJ _ _ _ _ λe=>F (by have ar:a=g:=(by simpa[Value.ownBlock] using aq);rw[ar,e])
  ·rw[zC];exact lZ P (lY (by simp) r.size)
  ·exact(xE (xH C r ak)).trans (zP _ _ _ _ O)
  ·intro k c t d au av
   have aw:k<w.heap.size:=by
    rcases Nat.lt_or_ge k w.heap.size with G|G
    ·exact G
    ·rw[Array.getElem?_eq_none G] at d;cases d
   have ax:k≠p:=λe=>by
    rw[e,B.out.blk] at d;injection d with d;injection d with _ d;exact av d.symm
   exact(lJ _ _ _ _ ax).trans ((r.block k (by simp;omega) (zO C d (Ne.symm au))).trans ((lG _ _ _ aw).trans d))
 rw[<-S];clear S s t0 an D r am M N;have y3:z.cell? ⟨p,0,none⟩=some (slice (qX a) (l.length+1) f):=by unfold cell?;rw[T.out.blk];rfl
 go_wp2;clear y3;go_loopg [4] l.length (λq x wr=>∃i:Nat,q=i/\i<=l.length/\x=iX (i:Int)/\Bz w wr H p a f l n i/\zDL l n l.length=zDL l n i)
 case atStart=>exact⟨l.length,rfl,lQ,(by first|rfl|(congr 1;omega)),T,rfl⟩
 case round=>
  obtain⟨i,I,U,rfl,b,A⟩:=hrel;have V:Hid (gk=i/\Bz w wr H p a f l n i/\zDL l n l.length=zDL l n i):=⟨I,b,A⟩
  have y3:wr.cell? ⟨p,0,none⟩=some (slice (qX a) (l.length+1) f):=by unfold cell?;rw[b.blk];rfl
  have fin:zDL l n i=i->zQv wr H p (zHg l n)/\Keep H H w wr/\Stay w wr:=λe=>by
   refine⟨⟨_,b.blk,?_,O,b.lt⟩,b.keep,b.stay⟩;have y:=b.row;rw[show i=zDL l n l.length by rw[A,e]] at y;have ay:l.length+1=(zHg l n).length:=(zHA _ _ _).symm;rw[ay] at y ⊢;exact Row.ownI y
  have W:=vl fin;clear fin;cases i with
  |zero=>
   clear I b A;go_wp2;go_end0;exact⟨rfl,W rfl⟩
  |succ i=>
   have ⟨az,aA,J,K⟩:=b.row.at (by omega)
   have X:(zDv l n (i+1)).getD i 0=l.getD i 0:=by rw[zEQ l n (i+1) i U,if_pos (by omega)]
   have Y:wr.cell? ⟨a,i,none⟩=some (iX (l.getD i 0)):=by rw[<-X];exact J i (by omega)
   have y5:=J (i+1) (by omega);have aa:=K i;have aB:=K (i+1);have ab:Hid (zDL l n (i+1)=if l.getD i 0>n then zDL l n i else i+1):=rfl;have F:a≠p:=λe=>zO b.row b.blk (by decide) (by rw[<-e];rfl);have aI:=zO2 l n i;have aJ:(0:Int)<((i+1:Nat):Int):=by omega
   have aK:(i:Int)<((l.length+1:Nat):Int):=by omega
   have aL:((i+1:Nat):Int)<((l.length+1:Nat):Int):=by omega
   have aM:IntKind.i64.wrap (((i+1:Nat):Int)-1)=(i:Int):=by rw[zBt _ (by omega) (by omega)];omega
   have aC:=vl <| b.step U;clear I b A X az aA J K;generalize l.getD i 0=x at *;generalize (zDv l n (i+1)).getD (i+1) 0=aN at *;by_cases ac:x>n
   ·have L:Hid (zDL l n (i+1)=zDL l n i):=by show _=_;rw[ab.out,if_pos ac]
    go_wp2;go_region;obtain⟨o,ad,aD,q3,q4,q5⟩:∃o,o=(wr.setCell ⟨a,i+1,none⟩ (iX x)).drew/\Hid (Bz w (o.setCell ⟨a,i,none⟩ (iX n)) H p a f l n i)/\o.cell? ⟨p,0,none⟩=some (slice (qX a) (l.length+1) f)/\o.cell? ⟨a,i,none⟩=some (iX x)/\o.frozen? ⟨a,i,none⟩=false:=by
     have E:(wr.setCell ⟨a,i+1,none⟩ (iX x)).heap[p]? =wr.heap[p]? :=lJ _ _ _ _ (Ne.symm F);refine⟨_,rfl,aC.drewed,(gY E).trans y3,?_,?_⟩
     ·show(wr.setCell ⟨a,i+1,none⟩ (iX x)).cell? ⟨a,i,none⟩=_
      rw[World.cell?_setCell_other]
      ·exact Y
      ·intro e
       injection e with _ e _;omega
     ·show(wr.setCell ⟨a,i+1,none⟩ (iX x)).frozen? ⟨a,i,none⟩=_
      simpa using aa
    rw[<-ad];clear ad y3 Y y5 aa aB;go_wp2;go_roundg i
    case measure=>rw[V.out.1];omega
    case rel=>exact⟨i,rfl,by omega,by go_num,aD,by rw[V.out.2.2,L.out]⟩
   ·have L:Hid (zDL l n (i+1)=i+1):=by show _=_;rw[ab.out,if_neg ac]
    go_wp2;go_end0;exact⟨rfl,W L⟩
def zOK (l:List Int)(r:Int×Int):List Int:=zHg (zHg l r.1) (r.2+1)
def inR (l:List Int)(rs:List (Int×Int)):List Int:=rs.foldl zOK l
def xY (sets:List Cs):List Int:=sets.foldl (λl s=>inR l s.ranges) [0,55296,57344,1114112]
theorem zDQ {a c:Type}(f:c->a->c)(b:c)(l:List a)(e:a)(k:Nat)(g:k<l.length):(l.take (k+1)).foldl f b=f ((l.take k).foldl f b) (l.getD k e):=by
 rw[List.take_add_one,List.foldl_append,lW,lV g];rfl
theorem zGA (l:List Int)(n:Int):(zHg l n).length=l.length+1:=zHA _ _ _
theorem zMj (l:List Int)(a:List (Int×Int)):(inR l a).length=l.length+2*a.length:=by
 unfold inR;induction a generalizing l with
 |nil=>simp
 |cons r a b=>
  rw[List.foldl_cons,b];unfold zOK;rw[zGA,zGA,hY];omega
def yV:List Cs->Nat
 |[]=>0
 |s::l=>s.ranges.length+yV l
theorem zGP (sets:List Cs)(l:List Int):(sets.foldl (λl s=>inR l s.ranges) l).length=l.length+2*yV sets:=by
 induction sets generalizing l with
 |nil=>simp[yV]
 |cons s sets a=>
  rw[List.foldl_cons,a,zMj];simp only[yV];omega
theorem zFo (sets:List Cs)(j:Nat)(a:j<sets.length):yV (sets.take j)+(sets.getD j ⟨[],false⟩).ranges.length<=yV sets:=by
 induction sets generalizing j with
 |nil=>simp at a
 |cons s sets b=>
  cases j with
  |zero=>simp[yV]
  |succ j=>
   have:=b j (by simpa using a);simp only[List.take_succ_cons,yV,List.getD_cons_succ];omega
structure Bo (w wr:World)(l:List Int):Prop where
 bd:zQv wr (w.heap.size+1) (w.heap.size+2) l
 res:wr.heap[w.heap.size]? =some (.cells #[slice none 0 0] 239)
 keep:Grew w wr
theorem Bo.grown {w wr w2:World}{l:List Int}(c:Bo w wr l)(a:Grew wr w2):Bo w w2 l:=by
 have ⟨v,b⟩:=c.bd;have d:=b.lt;exact⟨⟨v,(a.block _ d (kJ d)).trans b.blk,zM b.own a,b.pH,lZ d a.size⟩,(a.block _ (by omega) (by omega)).trans c.res,c.keep.trans (a.lower (by omega) (by omega))⟩
theorem Bo.add {w wr:World}{l:List Int}(a:Bo w wr l)(c:l.length<=1000000000000)(n:Int):
  Calls prog 183 #[pointer (some ⟨w.heap.size+2,0,none⟩),iX n] wr λe w'=>e=rX/\Bo w w' (zHg l n)/\wr.heap.size<=w'.heap.size/\Stay wr w':=by
 have ⟨v,d⟩:=a.bd;refine(zLV wr _ _ v l d c n).mono ?_;rintro e w2 ⟨rfl,f,b,g⟩;exact⟨rfl,⟨f,(b.block _ (by omega) (by omega)).trans a.res,a.keep.trans (b.lower (by omega) (by omega))⟩,b.size,g⟩
theorem Bo.start (w:World):Bo w (((w.alloc (.cells #[nX] 239)).alloc (.cells #[zX,iX 55296,iX 57344,iX 1114112] 3)).alloc (.cells #[slice (some ⟨w.heap.size+1,0,none⟩) 4 4] 239)) [0,55296,57344,1114112]:=by
 obtain⟨w1,b⟩:∃w1,w1=w.alloc (.cells #[nX] 239):=⟨_,rfl⟩
 have g:w1.heap[w.heap.size]? =some (.cells #[nX] 239):=by rw[b];exact gZ w _
 have h:Grew w w1:=by rw[b];exact kZ _ _ lQ
 have s1:w1.heap.size=w.heap.size+1:=by rw[b];simp
 rw[<-b];obtain⟨w2,c⟩:∃w2,w2=w1.alloc (.cells #[zX,iX 55296,iX 57344,iX 1114112] 3):=⟨_,rfl⟩
 have j:w2.heap[w.heap.size+1]? =some (.cells #[zX,iX 55296,iX 57344,iX 1114112] 3):=by rw[c,<-s1];exact gZ w1 _
 have f:Grew w1 w2:=by rw[c];exact kZ _ _ lQ
 have s2:w2.heap.size=w.heap.size+2:=by rw[c];simp[s1]
 rw[<-c];obtain⟨a,d⟩:∃a,a=w2.alloc (.cells #[slice (some ⟨w.heap.size+1,0,none⟩) 4 4] 239):=⟨_,rfl⟩
 have k:a.heap[w.heap.size+2]? =some (.cells #[slice (some ⟨w.heap.size+1,0,none⟩) 4 4] 239):=by rw[d,<-s2];exact gZ w2 _
 have e:Grew w2 a:=by rw[d];exact kZ _ _ lQ
 have l:a.heap.size=w.heap.size+3:=by rw[d];simp[s2]
 rw[<-d];refine⟨⟨_,k,zM ⟨rfl,.inr ⟨w.heap.size+1,4,#[zX,iX 55296,iX 57344,iX 1114112],rfl,by omega,j,lQ,by unfold maxLen;omega,rfl,rfl⟩⟩ e,by omega,by omega⟩,?_,(h.trans (f.lower (by omega) (by omega))).trans (e.lower (by omega) (by omega))⟩;exact(e.block _ (by omega) (by omega)).trans ((f.block _ (by omega) (by omega)).trans g)
end Go.Proofs.YtbjcfkdnjaiclaaGreat
