import Derived.Test.YtbjcfkdnjaiclaaGreatK0
import Derived.Test.YtbjcfkdnjaiclaaGreatK13
import Derived.Test.YtbjcfkdnjaiclaaGreatK22
/- Parts of the proof. -/
set_option linter.unusedVariables false
set_option linter.unusedSimpArgs false
set_option maxHeartbeats 4000000
set_option maxRecDepth 100000
namespace Go.Proofs.YtbjcfkdnjaiclaaGreat
open Go.RowKit Go.Proofs.Tryz Go.World
open Go.Value (int slice bool pointer string agg tuple)
open Go.IntKind (i64)
open Go.Ending (returned)
theorem zHX {s:ByteArray}{D:Nat}{defs:List (ByteArray×Tr)}{t:Tr}(d:s.size<=1048576)(f:zA4 D defs)(a:vN s defs=some t):TrOk (D+2+4*s.size) t:=by
 unfold vN at a;cases b:zBu s defs 8 0 false with
 |none=>rw[b] at a;cases a
 |some g=>
  obtain⟨u,q⟩:=g;rw[b] at a;have c:(if q=s.size then some u else none)=some t:=a;split at c
  ·rename_i e
   have i:=hQ c;obtain⟨-,-,j⟩:=zAa d f 8 false 0 u q b;rw[<-i,<-e];exact j
  ·cases c
theorem ShOk.deep {sh:Sh}{D b:Nat}(a:ShOk sh D)(c:D<=b):ShOk sh b:=⟨a.modes,a.defs,a.acts,a.same,a.names,λe f=>(a.trees e f).deep c,λi g t j=>(a.rules i g t j).deep c⟩
theorem zJj {s:ByteArray}(a:xI s=true):s.size<=6:=by
 unfold xI at a;rw[Bool.and_eq_true,Bool.and_eq_true] at a;exact of_decide_eq_true a.2.1
theorem zHW {sh d:Sh}{b:ByteArray}{D:Nat}(a:yK sh b=some d)(ok:ShOk sh D)(few:vU sh):ShOk d D/\vU d:=by
 unfold yK at a;split at a
 ·cases a
 split at a
 ·cases a
 split at a
 ·rename_i g _ _
  have e:=hQ a;subst e;have j:=jG sh b;refine⟨⟨by omega,ok.defs,ok.acts,ok.same,ok.names,ok.trees,λi f t c=>?_⟩,λi f=>?_⟩
  ·by_cases e:i=sh.modes.length
   ·subst e;rw[zAo] at c;cases c
   ·rw[zAn sh b i (by omega)] at c;exact ok.rules i (by omega) t c
  ·by_cases e:i=sh.modes.length
   ·subst e;rw[zAo];exact lX
   ·rw[zAn sh b i (by omega)];exact few i (by omega)
 ·cases a
theorem zI9 {sh c:Sh}{s:ByteArray}{D:Nat}(a:vR sh s=some c)(p:s.size<=1000)(ok:ShOk sh D)(few:vU sh):ShOk c (D+2+4*s.size)/\vU c:=by
 have q:=jE s 32;unfold vR at a;split at a
 ·split at a
  ·cases a
  split at a
  ·cases a
  split at a
  ·rename_i r _ j
   cases f:vN (qK s 32) sh.defs with
   |none=>rw[f] at a;cases a
   |some t=>
    rw[f] at a;have e:=hQ a;subst e;have u:=zCR sh (yP s 32) t;have k:=(zHX (by omega) ok.trees f).deep (show _<=D+2+4*s.size by omega);have b:=ok.deep (show D<=D+2+4*s.size by omega);refine⟨⟨b.modes,by omega,b.acts,b.same,λi v=>?_,λl m=>?_,b.rules⟩,few⟩
    ·by_cases e:i=sh.defs.length
     ·subst e;rw[zCQ];exact zJj j
     ·rw[zCP sh _ t i (by omega)];exact ok.names i (by omega)
    ·have o:=m
     rcases kU.1 o with g|g
     ·exact b.trees l g
     ·rw[kY.1 g];exact k
  ·cases a
 ·cases a
theorem zHV {sh f:Sh}{m s:ByteArray}{D:Nat}(a:qW sh m s=some f)(r:s.size<=1000)(ok:ShOk sh D)(few:vU sh):ShOk f (D+2+4*s.size)/\vU f:=by
 have v:=jE s 32;unfold qW at a;split at a
 ·split at a
  ·cases a
  split at a
  ·cases a
  split at a
  ·split at a
   ·rename_i w x _ _
    cases g:vN (qK s 32) sh.defs with
    |none=>rw[g] at a;cases a
    |some t=>
     rw[g] at a;have e:=hQ a;subst e;have o:=(zHX (by omega) ok.trees g).deep (show _<=D+2+4*s.size by omega);have c:=ok.deep (show D<=D+2+4*s.size by omega);generalize (zA3 (yP s 32))=b at *;have j:sh.modes.length-1<sh.modes.length:=by omega
     have y:=zEe ((sh.addAct b.act).addPush b.name) (sh.modes.length-1) t;have z:((sh.addAct b.act).addPush b.name).modes.length=sh.modes.length:=rfl;have p:(((sh.addAct b.act).addPush b.name).addRule (sh.modes.length-1) t).acts.length=sh.acts.length+1:=by show(sh.acts++[b.act]).length=_;rw[kX];rfl
     have A:(((sh.addAct b.act).addPush b.name).addRule (sh.modes.length-1) t).pushed.length=sh.pushed.length+1:=by show(sh.pushed++[b.name]).length=_;rw[kX];rfl
     have l:=zAY ((sh.addAct b.act).addPush b.name) (sh.modes.length-1) t j;refine⟨⟨by have:=ok.modes;omega,c.defs,by omega,by have:=ok.same;omega,c.names,c.trees,λi q u d=>?_⟩,λi q=>?_⟩
     ·by_cases e:i=sh.modes.length-1
      ·rw[e,l] at d
       rcases kU.1 d with k|k
       ·exact c.rules _ j u k
       ·rw[kY.1 k];exact o
      ·rw[zAm _ _ t i e] at d
       exact c.rules i (by omega) u d
     ·rw[p]
      by_cases e:i=sh.modes.length-1
      ·rw[e,l]
       show((sh.mode (sh.modes.length-1)).2++[t]).length<=_;rw[kX];have:=few _ j;show(sh.mode (sh.modes.length-1)).2.length+1<=_;omega
      ·rw[zAm _ _ t i e]
       have:=few i (by omega);show(sh.mode i).2.length<=_;omega
   ·cases a
  ·cases a
 ·cases a
theorem zHY {sh d:Sh}{s:ByteArray}{D:Nat}(c:xX sh s=some d)(e:s.size<=1000)(ok:ShOk sh D)(few:vU sh):ShOk d (D+2+4*s.size)/\vU d:=by
 have f:=jE s 32;unfold xX at c;split at c
 ·split at c
  ·obtain⟨a,b⟩:=zHW c ok few
   exact⟨a.deep (by omega),b⟩
  split at c
  ·obtain⟨a,b⟩:=zI9 c (by omega) ok few
   exact⟨a.deep (by omega),b⟩
  ·obtain⟨a,b⟩:=zHV c (by omega) ok few
   exact⟨a.deep (by omega),b⟩
 ·cases c
theorem zLo {s:ByteArray}{c:Nat}(a:zAb s c=true):(qK s c).size+(yP s c).size+1=s.size:=by
 have b:zHk s c<s.size:=by unfold zAb at a;exact of_decide_eq_true a
 unfold yP qK;rw[if_pos a,if_pos a,ByteArray.size_extract,ByteArray.size_extract];omega
def jN:Nat->Sh->Nat->ByteArray->Sh ⊕ Nat
 |0,sh,_,_=>.inl sh
 |f+1,sh,n,s=>if s.size=0 then .inl sh else if zAb s 10 then(match xX sh (yP s 10) with
  |none=>.inr n
  |some sh'=>jN f sh' (n+1) (qK s 10)) else .inr n
def zNL (w:World)(S D:Nat)(G:Sh ⊕ Nat)(e:Ending)(w':World):Prop:=
 Keep S S w w'/\match G with
 | .inl sh=>e=returned (int i64 0)/\SwIs w' S D sh/\ShOk sh D/\vU sh
 | .inr n=>e=returned (int i64 (n:Int))
theorem zEh (w:World)(S D:Nat)(sh:Sh)(N:SwIs w S D sh)(ok:ShOk sh D)(few:vU sh)(s:ByteArray)(ak:s.size<=1000):
  Calls prog 56 #[pX S,string s] w (zNL w S (D+6*s.size) (jN (s.size+1) sh 1 s)):=by
 obtain⟨l,H⟩:∃l,l=jN (s.size+1) sh 1 s:=⟨_,rfl⟩
 have O:=vl H.symm;rw[<-H];have q:Hid (SwIs w S D sh/\ShOk sh D/\vU sh):=⟨N,ok,few⟩
 go_in;go_wp2;go_loopg [5,6] (s.size+1) (λn P Q wr=>∃f sh d a,n=f/\P=iX (d:Nat)/\Q=string a/\a.size<=s.size/\a.size+1<=f/\d+a.size<=s.size+1/\jN f sh d a=l/\SwIs wr S (D+6*(s.size-a.size)) sh/\ShOk sh (D+6*(s.size-a.size))/\vU sh/\Keep S S w wr)
 case atStart=>exact⟨s.size+1,sh,1,s,rfl,rfl,rfl,lQ,lQ,by omega,O,by rw[Nat.sub_self];exact q.1,by rw[Nat.sub_self];exact q.2.1,q.2.2,Keep.refl _ _ _⟩
 case round=>
  obtain⟨f,g,d,a,R,rfl,rfl,al,am,an,T,U,V,W,Y⟩:=hrel;cases f with
  |zero=>omega
  |succ f=>
  have I:=zAx a;have i:(if a.size=0 then .inl g else if zAb a 10 then(match xX g (yP a 10) with|none=>.inr d|some k=>jN f k (d+1) (qK a 10)) else .inr d)=l:=T;obtain⟨X,r,dv,t,u,rv,v,x,aa⟩:=U;have b:Hid (Sw wr X S (D+6*(s.size-a.size)) g r dv t u rv v x/\ShOk g (D+6*(s.size-a.size))/\vU g/\Keep S S w wr/\gk=f+1):=⟨aa,V,W,Y,R⟩
  by_cases m:a.size=0
  ·rw[if_pos m] at i
   have j:=vl i.symm;rw[dQ m] at I;have ab:=vl m;go_wp2;go_ret;refine⟨b.2.2.2.1,?_⟩;rw[j.out];have J:D+6*(s.size-a.size)=D+6*s.size:=by rw[ab.out];rfl
   refine⟨rfl,⟨X,r,dv,t,u,rv,v,x,?_⟩,?_,b.2.2.1⟩
   ·rw[<-J];exact b.1
   ·rw[<-J];exact b.2.1
  rw[if_neg m] at i;rw[gG m] at I;have y:=vl <| zCl wr a (by omega) 10;have ac:zAb a 10=true->(qK a 10).size+(yP a 10).size+1=a.size:=zLo;have ad:Hid ((yP a 10).size<=1000->∀w1,Grew wr w1->Ca 87 #[pX S,string (yP a 10)] w1 (LnAns wr S (D+6*(s.size-a.size)+2+4*(yP a 10).size) (xX g (yP a 10)))):=λz w1 c=>(zEY w1 X S _ g r dv t u rv v x (b.1.grown c) b.2.1 b.2.2.1 (yP a 10) z).mono λe w2 ae=>ae.from (c.lower (Nat.le_of_lt b.1.lt) (Nat.le_of_lt b.1.lt))
  have af:Hid (∀k,xX g (yP a 10)=some k->(yP a 10).size<=1000->ShOk k (D+6*(s.size-a.size)+2+4*(yP a 10).size)/\vU k):=λk e z=>zHY e z b.2.1 b.2.2.1;have ag:Hid (∀w1,Grew wr w1->Keep S S wr w1):=λw1 c=>c.lower (Nat.le_of_lt b.1.lt) (Nat.le_of_lt b.1.lt);generalize yP a 10=L at *;generalize qK a 10=M at *;generalize zAb a 10=ah at *;cases ah with
  |false=>
   have j:=vl i.symm;go_wp2_with (first|(go_at_call 86;refine y.mono ?_;rintro e w1 ⟨rfl,c⟩))
   go_ret;refine⟨b.2.2.2.1.trans (ag w1 c),?_⟩;rw[j.out];rfl
  |true=>
   have ao:=ac rfl;have p:=ad (by omega);rw[if_pos rfl] at i;cases C:xX g L with
   |none=>
    rw[C] at i p;have E:=vl p;have j:=vl i.symm;go_wp2_with (first|(go_at_call 86;refine y.mono ?_;rintro e w1 ⟨rfl,c⟩)|(go_at_call 87;refine(E w1 c).mono ?_;rintro e w2 ⟨F,rfl⟩))
    go_ret;refine⟨b.2.2.2.1.trans F,?_⟩;rw[j.out];rfl
   |some o=>
    have ai:=af o C (by omega);rw[C] at i p;have E:=vl p;have j:Hid (jN f o (d+1) M=l/\ShOk o (D+6*(s.size-a.size)+2+4*L.size)/\vU o):=⟨i,ai⟩
    go_wp2_with (first|(go_at_call 86;refine y.mono ?_;rintro e w1 ⟨rfl,c⟩)|(go_at_call 87;refine(E w1 c).mono ?_;rintro e w2 ⟨F,rfl,aj⟩))
    go_roundg f
    case measure=>rw[b.out.2.2.2.2];omega
    case rel=>exact⟨f,o,d+1,M,rfl,by go_num,rfl,by omega,by omega,by omega,j.1,aj.deep (by omega),j.2.1.deep (by omega),j.2.2,b.2.2.2.1.trans F⟩
def Sh.pushI (sh:Sh)(nm:ByteArray):Int:=if nm.size=0 then 0 else sh.modeI nm
def Sh.push (sh:Sh)(i:Nat):ByteArray:=sh.pushed.getD i ⟨#[]⟩
def Sh.there (sh:Sh):Bool:=decide (∀i,i<sh.pushed.length->0<=sh.pushI (sh.push i))
def Sh.pushesTo (sh:Sh)(j:Nat):List Int:=(List.range j).map λi=>sh.pushI (sh.push i)
theorem yS (sh:Sh)(j:Nat):(sh.pushesTo j).length=j:=by unfold Sh.pushesTo;rw[kV,List.length_range]
theorem zFQ (sh:Sh)(j:Nat):sh.pushesTo (j+1)=sh.pushesTo j++[sh.pushI (sh.push j)]:=by unfold Sh.pushesTo;rw[List.range_succ,List.map_append];rfl
theorem zC4 (w:World)(X:Nat->Prop)(S D:Nat)(sh:Sh)(U dv V ax:Value)(rv:Nat->Value)(W:Nat->List Nat)(Y:Nat->Nat)(g:Sw w X S D sh U dv V ax rv W Y)(aK:sh.modes.length<=3)(aL:sh.pushed.length<=8):
  Calls prog 57 #[pX S] w λe w'=>∃v,e=returned (tuple #[v,bool sh.there])/\(∃a n c,v=slice a n c)/\(sh.there=true->OwnI w' w.heap.size v (sh.pushesTo sh.pushed.length))/\Grew w w':=by
 obtain⟨aa,ab,ac,ad,ae⟩:=info_parts yL;obtain⟨aM,aN,ay⟩:=zI g.pOwn;subst ay;obtain⟨-,-,-,aO,-⟩:=g.cells;have af:=vl g;have ag:Hid (sh.there=decide (∀i,i<sh.pushed.length->0<=sh.pushI (sh.push i))):=rfl;generalize sh.there=ah at *;go_in;go_wp2;go_loopg [4,13] sh.pushed.length (λq az i wr=>∃j:Nat,q=sh.pushed.length-j/\j<=sh.pushed.length/\i=iX (j:Int)/\(∀k,k<j->0<=sh.pushI (sh.push k))/\OwnI wr w.heap.size az (sh.pushesTo j)/\Grew w wr)
 case atStart=>exact⟨0,rfl,lX,rfl,λk d=>by omega,OwnI.nil _ _,Keep.refl _ _ _⟩
 case round=>
  obtain⟨j,H,aP,rfl,A,B,d⟩:=hrel;obtain⟨ao,I,ai⟩:=OwnI.form B;rw[yS] at ai;subst ai;have b:Hid (gk=sh.pushed.length-j/\(∀k,k<j->0<=sh.pushI (sh.push k))/\OwnI wr w.heap.size (slice ao j I) (sh.pushesTo j)/\Grew w wr/\w.heap.size<=wr.heap.size):=⟨H,A,B,d,d.size⟩
  by_cases J:j<sh.pushed.length
  ·have aA:(j:Int)<(sh.pushed.length:Int):=by omega
   obtain⟨aQ,aR,aB,-,aj,-,-,ak,-⟩:=qY af.pOwn (by omega);injection aB with aC aD aE;subst aC aE;clear aD;have al:(sh.pushed.map λx=>Value.string x)[j]? =some (string (sh.push j)):=by
    unfold Sh.push;rw[gZ,lV J,lW,lV J];rfl
   have aS:=zA (ak _ _ al) aj d;have am:=zAx (sh.push j);have K:=vl <| zC9 wr X S D sh U dv V _ rv W Y (af.grown d) (by omega) (sh.push j);have an:Hid (sh.pushI (sh.push j)=if(sh.push j).size=0 then 0 else sh.modeI (sh.push j)):=rfl;have aq:Hid (0<=sh.pushI (sh.push j)->∀k,k<j+1->0<=sh.pushI (sh.push k)):=λar k d=>by
    by_cases e:k=j
    ·rw[e];exact ar
    ·exact b.2.1 k (by omega)
   have aF:Hid (sh.pushI (sh.push j)<0->ah=false):=λar=>by
    rw[ag.out];exact gG λaG=>by have:=aG j J;omega
   have au:=vl <| zFQ sh j;have C:=vl <| yS sh j;have E:=zD5 sh (sh.push j);clear H A B d al ak aj;generalize sh.push j=M at *;generalize sh.modeI M=N at *;generalize sh.pushI M=aw at *;generalize aH:sh.pushesTo j=F at *;clear aH;by_cases l:M.size=0
   ·rw[dQ l] at am
    have m:Hid (aw=0):=by show _=_;rw[an.out,if_pos l]
    have f:Hid (wr.ownsRow w.heap.size 3 1 (slice ao j I) j (F.map λx=>iX x)):=by have:=b.2.2.1;unfold OwnI at this;rw[C.out] at this;exact this
    have O:w.heap.size<=wr.heap.size:=b.2.2.2.2;clear l K;go_wp2_with (first|(at_builtin;refine wpList_append_lies _ rfl _ _ 45 rfl (w.heap.size) 3 aa (iX 0) 1 8 underlying45 ab ac ad ae rfl (by decide) _ _ _ rfl (f.alloc _) ⟨wr.heap.size,0,none⟩ 1 1 [iX 0] rfl rfl (cell_one_new _ _ _) (by intro u o;simp at o;subst o;rfl) (by decide) (by unfold maxLen;omega) (by omega) (by simp;omega) _ rfl ?_;intro P cap w2 p r Q R;have s:=xQ f r O;have t:Hid (OwnI w2 w.heap.size (slice (qX P) (j+1) cap) (F++[0])/\Grew w w2):=⟨by unfold OwnI;rw[kX,C.out,List.map_append];exact p,b.2.2.2.1.trans (xP s)⟩;clear p r s Q R))
    go_roundg (sh.pushed.length-(j+1))
    case measure=>rw[b.out.1];omega
    case rel=>exact⟨j+1,rfl,by omega,by go_num,aq (by rw[m.out];omega),by rw[au.out,m.out];exact t.1,t.2⟩
   ·rw[gG l] at am
    have m:Hid (aw=N):=by show _=_;rw[an.out,if_neg l]
    clear l;rcases E with E|⟨E,-⟩
    ·subst E
     have G:=vl <| aF (by rw[m.out];omega);go_wp2_with (first|(go_at_call 88;refine K.mono ?_;rintro e w1 ⟨rfl,y⟩))
     refine gJ (results_tmp2 rfl _ _ _) rfl ?_;exact⟨_,by rw[G.out];rfl,⟨none,0,0,rfl⟩,λg=>(by rw[G.out] at g;cases g),b.2.2.2.1.trans (y.lower b.2.2.2.2 b.2.2.2.2)⟩
    ·apply wp_cut
     intro aI z;go_wp2;apply z.out;clear z;apply wp_cut;intro aI z;go_wp2;apply z.out;clear z;go_wp2_with (first|(go_at_call 88;refine K.mono ?_;rintro e w1 ⟨rfl,y⟩;have f:Hid (w1.ownsRow w.heap.size 3 1 (slice ao j I) j (F.map λx=>iX x)/\Grew w w1):=⟨by have:=zL b.2.2.1 y;unfold OwnI at this;rw[C.out] at this;exact this,b.2.2.2.1.trans (y.lower b.2.2.2.2 b.2.2.2.2)⟩;have O:w.heap.size<=w1.heap.size:=f.2.size;clear y)|(at_builtin;refine wpList_append_lies _ rfl _ _ 45 rfl (w.heap.size) 3 aa (iX 0) 1 8 underlying45 ab ac ad ae rfl (by decide) _ _ _ rfl (f.1.alloc _) ⟨w1.heap.size,0,none⟩ 1 1 [iX N] rfl rfl (cell_one_new _ _ _) (by intro u o;simp at o;subst o;rfl) (by decide) (by unfold maxLen;omega) (by omega) (by simp;omega) _ rfl ?_;intro P cap w2 p r Q R;have s:=xQ f.1 r O;have t:Hid (OwnI w2 w.heap.size (slice (qX P) (j+1) cap) (F++[N])/\Grew w w2):=⟨by unfold OwnI;rw[kX,C.out,List.map_append];exact p,f.2.trans (xP s)⟩;clear p r s Q R))
     go_roundg (sh.pushed.length-(j+1))
     case measure=>rw[b.out.1];omega
     case rel=>exact⟨j+1,rfl,by omega,by go_num,aq (by rw[m.out];omega),by rw[au.out,m.out];exact t.1,t.2⟩
  ·have aA:(sh.pushed.length:Int)<=(j:Int):=by omega
   have e:j=sh.pushed.length:=by omega
   have G:Hid (ah=true):=by
    show _=_;rw[ag.out];exact dQ λi aT=>A i (by omega)
   have aJ:=vl e;clear H A B d e;go_wp2;refine gJ (results_tmp2 rfl _ _ _) rfl ?_;refine⟨_,by rw[G.out];rfl,⟨_,_,_,rfl⟩,λ_=>?_,b.2.2.2.1⟩;rw[<-aJ.out];exact b.2.2.1
def Sh.haveB (sh:Sh):Bool:=decide (0<sh.modes.length/\∀i,i<sh.modes.length->0<(sh.mode i).2.length)
def yM (l:List Tr):Nat->Nat
 |0=>0
 |j+1=>yM l j+(l.getD j Tr.none).chars
def Sh.fitB (sh:Sh):Bool:=decide (∀i,i<sh.modes.length->yM (sh.mode i).2 (sh.mode i).2.length<=24)
theorem zCG {w:World}{X:Nat->Prop}{S D:Nat}{sh:Sh}{dv o p:Value}{rv:Nat->Value}{q:Nat->List Nat}{r:Nat->Nat}{ao:Option Addr}{s j:Nat}(d:Sw w X S D sh (slice ao sh.modes.length s) dv o p rv q r)(e:j<sh.modes.length){wr:World}(f:Grew w wr):
  ∃a b c,ao=some ⟨a,0,none⟩/\rv j=slice b (sh.mode j).2.length c/\wr.cell? ⟨a,j*2,none⟩=some (string (sh.mode j).1)/\wr.cell? ⟨a,j*2+1,none⟩=some (slice b (sh.mode j).2.length c):=by
 obtain⟨a,x,t,-,g,-,-,k,-⟩:=qY d.mOwn (by omega);injection t with u y z;obtain⟨b,c,l⟩:=zI (d.rOwn j e);obtain⟨v,m⟩:=zA6 (λi=>string (sh.mode i).1) rv sh.modes.length j e;rw[l] at m;exact⟨a,b,c,u,l,zA (k _ _ v) g f,zA (k _ _ m) g f⟩
theorem zEl (w:World)(X:Nat->Prop)(S D:Nat)(sh:Sh)(F dv G H:Value)(rv:Nat->Value)(I:Nat->List Nat)(J:Nat->Nat)(d:Sw w X S D sh F dv G H rv I J)(ac:sh.modes.length<=3):
  Calls prog 58 #[pX S] w λe w'=>e=returned (bool sh.haveB)/\Grew w w':=by
 obtain⟨ao,K,L⟩:=zI d.mOwn;subst L;obtain⟨c0,-,-,-,-⟩:=d.cells;have M:=vl d;have v:Hid (sh.haveB=decide (0<sh.modes.length/\∀i,i<sh.modes.length->0<(sh.mode i).2.length)):=rfl;generalize sh.haveB=f at *;have N:S<w.heap.size:=d.lt;have O:Hid (∀wr,Grew w wr->wr.cell? ⟨S,0,none⟩=some (slice ao sh.modes.length K)):=λwr a=>zA c0 N a;go_in;go_wp2;go_loopg [10] sh.modes.length (λq i wr=>∃j:Nat,q=sh.modes.length-j/\j<=sh.modes.length/\i=iX (j:Int)/\(∀k,k<j->0<(sh.mode k).2.length)/\Grew w wr)
 case atStart=>exact⟨0,rfl,lX,rfl,λk a=>by omega,Keep.refl _ _ _⟩
 case round=>
  obtain⟨j,x,ad,rfl,o,a⟩:=hrel;have b:Hid (gk=sh.modes.length-j/\(∀k,k<j->0<(sh.mode k).2.length)/\Grew w wr/\w.heap.size<=wr.heap.size):=⟨x,o,a,a.size⟩
  by_cases y:j<sh.modes.length
  ·have P:(j:Int)<(sh.modes.length:Int):=by omega
   obtain⟨ae,p,r,rfl,-,Q,R⟩:=zCG M y a;obtain⟨g,z,af,A⟩:∃g,g=wr.alloc (.cells #[string (sh.mode j).1,slice p (sh.mode j).2.length r] 120)/\g.cell? ⟨wr.heap.size,1,none⟩=some (slice p (sh.mode j).2.length r)/\Hid (Grew w g):=by
    have U:=gY wr (.cells #[string (sh.mode j).1,slice p (sh.mode j).2.length r] 120);refine⟨_,rfl,?_,b.2.2.1.trans (kZ _ _ b.2.2.2)⟩;unfold cell?;rw[U];rfl
   have V:Hid (0<(sh.mode j).2.length->∀k,k<j+1->0<(sh.mode k).2.length):=λB k a=>by
    by_cases e:k=j
    ·rw[e];exact B
    ·exact b.2.1 k (by omega)
   have W:Hid ((sh.mode j).2.length=0->f=false):=λB=>by
    rw[v.out];exact gG λs=>by have:=s.2 j y;omega
   generalize (sh.mode j).2.length=t at *;apply wp_cut;intro C c;go_wp2;apply c.out;apply wp_cut;intro C c;go_wp2;apply c.out;apply wp_cut;intro ag E;refine wp_block ?_;apply wp_cut;intro C c;go_wp2;apply c.out;rw[<-z];clear z Q R;by_cases l:t=0
   ·have m:=vl <| W l
    have Y:((t:Int)==0)=true:=by rw[l];rfl
    clear l;go_wp2;go_ret;exact⟨by rw[m.out];rfl,A⟩
   ·have aa:=V (by omega)
    have Y:((t:Int)==0)=false:=by rw[hZ];omega
    clear l;go_wp2;apply E.out;clear E;go_wp2;go_roundg (sh.modes.length-(j+1))
    case measure=>rw[b.out.1];omega
    case rel=>exact⟨j+1,rfl,by omega,by go_num,aa,A⟩
  ·have P:(sh.modes.length:Int)<=(j:Int):=by omega
   have c0:=O wr a;have m:Hid (f=decide (0<sh.modes.length)):=by
    show _=_;rw[v.out];by_cases e:0<sh.modes.length
    ·rw[dQ e];exact dQ ⟨e,λi ah=>o i (by omega)⟩
    ·rw[gG e];exact gG λs=>e s.1
   clear x o a;by_cases e:0<sh.modes.length
   ·have ab:(0:Int)<(sh.modes.length:Int):=by omega
    have u:Hid (f=true):=by show _=_;rw[m.out];exact dQ e
    clear e;go_wp2;go_ret;exact⟨by rw[u.out];first|rfl|(simp;done)|(simp;omega),b.2.2.1⟩
   ·have ab:(sh.modes.length:Int)<=0:=by omega
    have u:Hid (f=false):=by show _=_;rw[m.out];exact gG e
    clear e;go_wp2;go_ret;exact⟨by rw[u.out];first|rfl|(simp;done)|(simp;omega)|(simp;exact List.length_eq_zero_iff.1 (by omega)),b.2.2.1⟩
theorem zJN (l:List Tr)(a:∀t∈l,t.chars<=25)(j:Nat)(d:j<=l.length):yM l j<=25*j:=by
 induction j with
 |zero=>exact lQ
 |succ j b=>
  have e:=b (by omega);have c:l.getD j Tr.none∈l:=by
   rw[lW,lV (by omega:j<l.length)];exact List.getElem_mem _
  have f:=a _ c;show yM l j+(l.getD j Tr.none).chars<=_;omega
theorem zFw (w:World)(X:Nat->Prop)(S D:Nat)(sh:Sh)(W dv H I:Value)(rv:Nat->Value)(b:Nat->List Nat)(J:Nat->Nat)(z:Sw w X S D sh W dv H I rv b J)(ok:ShOk sh D)(few:vU sh):
  Calls prog 59 #[pX S] w λe w'=>e=returned (bool sh.fitB)/\Grew w w':=by
 obtain⟨ao,Y,aa⟩:=zI z.mOwn;subst aa;obtain⟨c0,-,-,-,-⟩:=z.cells;have f:Hid (Sw w X S D sh (slice ao sh.modes.length Y) dv H I rv b J/\ShOk sh D/\vU sh):=⟨z,ok,few⟩
 have aC:=ok.modes;have K:Hid (sh.fitB=decide (∀i,i<sh.modes.length->yM (sh.mode i).2 (sh.mode i).2.length<=24)):=rfl;generalize sh.fitB=M at *;go_in;go_wp2;go_loopg [13] sh.modes.length (λq i wr=>∃j:Nat,q=sh.modes.length-j/\j<=sh.modes.length/\i=iX (j:Int)/\(∀k,k<j->yM (sh.mode k).2 (sh.mode k).2.length<=24)/\Grew w wr)
 case atStart=>exact⟨0,rfl,lX,rfl,λk m=>by omega,Keep.refl _ _ _⟩
 case round=>
  obtain⟨j,N,aD,rfl,A,m⟩:=hrel;have r:Hid (gk=sh.modes.length-j/\(∀k,k<j->yM (sh.mode k).2 (sh.mode k).2.length<=24)/\Grew w wr/\w.heap.size<=wr.heap.size):=⟨N,A,m,m.size⟩
  by_cases g:j<sh.modes.length
  ·have ab:(j:Int)<(sh.modes.length:Int):=by omega
   obtain⟨aE,v,B,rfl,ac,ad,ae⟩:=zCG f.1 g m;obtain⟨o,O,af,x⟩:∃o,o=wr.alloc (.cells #[string (sh.mode j).1,slice v (sh.mode j).2.length B] 120)/\o.cell? ⟨wr.heap.size,1,none⟩=some (slice v (sh.mode j).2.length B)/\Hid (Grew w o):=by
    have ag:=gY wr (.cells #[string (sh.mode j).1,slice v (sh.mode j).2.length B] 120);refine⟨_,rfl,?_,r.2.2.1.trans (kZ _ _ r.2.2.2)⟩;unfold cell?;rw[ag];rfl
   have ah:Hid (yM (sh.mode j).2 (sh.mode j).2.length<=24->∀k,k<j+1->yM (sh.mode k).2 (sh.mode k).2.length<=24):=λP k m=>by
    by_cases e:k=j
    ·rw[e];exact P
    ·exact r.2.1 k (by omega)
   have ai:Hid (24<yM (sh.mode j).2 (sh.mode j).2.length->M=false):=λP=>by
    rw[K.out];exact gG λaj=>by have:=aj j g;omega
   have ak:Hid (∀i,i<(sh.mode j).2.length->∃s p,v=some ⟨s,0,none⟩/\o.cell? ⟨s,i,none⟩=some (pX p)/\o.cell? ⟨p,7,none⟩=some (iX (((sh.mode j).2.getD i Tr.none).chars:Int))/\((sh.mode j).2.getD i Tr.none).chars<=25):=λi C=>by
    obtain⟨s,aF,Q,-,al,-,-,am,-⟩:=qY (f.1.rOwn j g) (by omega);rw[ac] at Q;injection Q with an aG aH;have aI:(b j).length=(sh.mode j).2.length:=by
     have:=(f.1.rOwn j g).1;unfold xU at this;rw[kV] at this;omega
    have ap:(xU (b j))[i]? =some (pointer (some ⟨(b j).getD i 0,0,none⟩)):=by
     unfold xU;rw[gZ,lV (by omega:i<(b j).length),lW,lV (by omega:i<(b j).length)];rfl
    have u:=f.1.rTree j g i C;have aq:In w ((b j).getD i 0):=by
     cases D with
     |zero=>exact False.elim u.at
     |succ aJ=>exact u.at.1
    have ar:(sh.mode j).2.getD i Tr.none∈(sh.mode j).2:=by
     rw[lW,lV C];exact List.getElem_mem _
    exact⟨s,_,an,zA (am _ _ ap) al x,zA u.chars aq x,(f.2.1.rules j g _ ar).few⟩
   have aK:(sh.mode j).2.length<=8:=lY (f.2.2 j g) f.2.1.acts;have R:=vl <| zJN _ λt u=>(f.2.1.rules j g t u).few;generalize (sh.mode j).2=a at *;apply wp_cut;intro U l;go_wp2;apply l.out;clear l;apply wp_cut;intro U l;go_wp2;apply l.out;clear l;apply wp_cut;intro aL V;refine wp_block ?_;apply wp_cut;intro U l;go_wp2;apply l.out;clear l;rw[<-O];clear O ad ae;go_wp2;clear af;go_loopg [5,20] a.length (λq c i w2=>∃k:Nat,q=a.length-k/\k<=a.length/\c=iX (yM a k:Nat)/\i=iX (k:Int)/\w2=o)
   case atStart=>exact⟨0,rfl,lX,rfl,rfl,rfl⟩
   case round=>
    obtain⟨k,E,m,rfl,rfl,rfl⟩:=hrel;have au:=vl E;by_cases aw:k<a.length
    ·have ax:(k:Int)<(a.length:Int):=by omega
     obtain⟨s,p,rfl,aM,aN,aO⟩:=ak k aw;have ay:=R k (by omega);have az:Hid (yM a (k+1)=yM a k+(a.getD k Tr.none).chars):=rfl;clear E;generalize (a.getD k Tr.none).chars=aP at *;generalize yM a k=y at *;go_wp2;go_roundg (a.length-(k+1))
     case measure=>rw[au.out];omega
     case rel=>exact⟨k+1,rfl,by omega,by rw[az.out];go_num,by go_num,rfl⟩
    ·have ax:(a.length:Int)<=(k:Int):=by omega
     have e:k=a.length:=by omega
     subst e;have ay:=R a.length lQ;clear E;generalize yM a a.length=y at *;by_cases F:24<y
     ·have G:=vl <| ai F
      have aA:(24:Int)<(y:Int):=by omega
      clear F;go_wp2;go_ret;exact⟨by rw[G.out];rfl,x⟩
     ·have aB:=vl <| ah (by omega)
      have aA:(y:Int)<=24:=by omega
      clear F;go_wp2;apply V.out;clear V;go_wp2;go_roundg (sh.modes.length-(j+1))
      case measure=>rw[r.out.1];omega
      case rel=>exact⟨j+1,rfl,by omega,by go_num,aB,x⟩
  ·have ab:(sh.modes.length:Int)<=(j:Int):=by omega
   have G:Hid (M=true):=by
    show _=_;rw[K.out];exact dQ λi C=>A i (by omega)
   clear N A m;go_wp2;go_ret;exact⟨by rw[G.out];rfl,r.2.2.1⟩
def jL (s:ByteArray):Sh ⊕ (Nat×Nat):=
 if 400<s.size then .inr (0,1) else
 match jN (s.size+1) Sh.none 1 s with
 | .inr n=>.inr (n,2)
 | .inl sh=>if sh.there&&sh.haveB then(if sh.fitB then .inl sh else .inr (0,4)) else .inr (0,3)
theorem zGj:∀f sh n s m,jN f sh n s=.inr m->n<=m
 |0,_,_,_,_,b=>by cases b
 |f+1,sh,n,s,m,b=>by
  have a:(if s.size=0 then .inl sh else if zAb s 10 then(match xX sh (yP s 10) with|none=>.inr n|some c=>jN f c (n+1) (qK s 10)) else .inr n)=(.inr m:Sh ⊕ Nat):=b;split at a
  ·cases a
  split at a
  ·cases d:xX sh (yP s 10) with
   |none=>rw[d] at a;cases a;exact lQ
   |some c=>
    rw[d] at a;exact Nat.le_of_succ_le (zGj f c (n+1) _ m a)
  ·cases a;exact lQ
theorem Sw.low {w w2:World}{X:Nat->Prop}{S D:Nat}{sh:Sh}{m dv o p:Value}{rv:Nat->Value}{q:Nat->List Nat}{r:Nat->Nat}(a:Sw w X S D sh m dv o p rv q r)(f:w2.os=w.os)(u:w2.output=w.output)(j:w.heap.size<=w2.heap.size)(l:∀k,S<=k->k<w.heap.size->w2.heap[k]? =w.heap[k]?):Sw w2 X S D sh m dv o p rv q r:=by
 have c:∀{e s n v xs},w.ownsRow (S+1) e s v n xs->w2.ownsRow (S+1) e s v n xs:=λf=>zF f λg A d _=>l g (by omega) d;have t:Agree X w w2:=⟨f,u,j,λi b x=>l i (Nat.le_of_lt (a.xlt i x).1) b⟩
 exact⟨(l S lQ a.lt).trans a.blk,c a.mOwn,c a.dOwn,c a.aOwn,c a.pOwn,λi b=>c (a.rOwn i b),a.rApart,λi b k y=>(a.rTree i b k y).go t,λi b=>(a.dTree i b).go t,λg d=>⟨(a.xlt g d).1,lZ (a.xlt g d).2 j⟩,a.xm,a.xr,lZ a.lt j⟩
structure SpecIs (w:World)(D:Nat)(mv av pv:Value)(sh:Sh):Prop where
 sheet:∃X S dv qv rv ps dp,Sw w X S D sh mv dv av qv rv ps dp
 pushes:Ints w (In w) pv (sh.pushesTo sh.pushed.length)
 ok:ShOk sh D
 few:vU sh
 there:sh.there=true
 have_:sh.haveB=true
 fit:sh.fitB=true
def zEz (w:World)(D:Nat)(G:Sh ⊕ (Nat×Nat))(e:Ending)(w':World):Prop:=
 Grew w w'/\match G with
 | .inr (n,k)=>e=returned (tuple #[agg #[slice none 0 0,slice none 0 0,slice none 0 0],int i64 (n:Int),int i64 (k:Int)])
 | .inl sh=>∃mv av pv,e=returned (tuple #[agg #[mv,av,pv],int i64 0,int i64 0])/\SpecIs w' D mv av pv sh
def zOr (w w2:World):Prop:=Hid (w2.heap[w.heap.size]? =some (.cells #[slice none 0 0,slice none 0 0,slice none 0 0] 79)/\Grew w w2)/\w2.cell? ⟨w.heap.size,0,none⟩=some (slice none 0 0)/\w2.cell? ⟨w.heap.size,1,none⟩=some (slice none 0 0)/\w2.cell? ⟨w.heap.size,2,none⟩=some (slice none 0 0)/\w2.frozen? ⟨w.heap.size,0,none⟩=false/\w2.frozen? ⟨w.heap.size,1,none⟩=false/\w2.frozen? ⟨w.heap.size,2,none⟩=false
theorem zBk (w w2:World)(u v q:Value)(b:Hid (w2.heap[w.heap.size]? =some (.cells #[slice none 0 0,slice none 0 0,slice none 0 0] 79)/\Grew w w2)):
  ∃a,a=((w2.setCell ⟨w.heap.size,0,none⟩ u).setCell ⟨w.heap.size,1,none⟩ v).setCell ⟨w.heap.size,2,none⟩ q/\a.cell? ⟨w.heap.size,0,none⟩=some u/\a.cell? ⟨w.heap.size,1,none⟩=some v/\a.cell? ⟨w.heap.size,2,none⟩=some q/\Hid (Grew w a/\a.heap.size=w2.heap.size/\a.os=w2.os/\a.output=w2.output/\∀k,k≠w.heap.size->a.heap[k]? =w2.heap[k]?):=by
 obtain⟨b,d⟩:=b;have e:(((w2.setCell ⟨w.heap.size,0,none⟩ u).setCell ⟨w.heap.size,1,none⟩ v).setCell ⟨w.heap.size,2,none⟩ q).heap[w.heap.size]? =some (.cells #[u,v,q] 79):=by
  simp[setCell,lU,b]
 have c:∀i,i≠w.heap.size->(((w2.setCell ⟨w.heap.size,0,none⟩ u).setCell ⟨w.heap.size,1,none⟩ v).setCell ⟨w.heap.size,2,none⟩ q).heap[i]? =w2.heap[i]? :=λi f=>by
  simp[setCell,lU,Ne.symm f]
 refine⟨_,rfl,?_,?_,?_,d.trans ⟨rfl,rfl,by simp[World.setCell],λk g _=>c k (by omega)⟩,by simp[World.setCell],rfl,rfl,c⟩
 all_goals (unfold cell?;rw[e];rfl)
theorem zHL {w w2:World}(a:Keep (w.heap.size+1) (w.heap.size+1) (w.alloc (.cells #[slice none 0 0,slice none 0 0,slice none 0 0] 79)) w2):zOr w w2:=by
 have d:=gY w (.cells #[slice none 0 0,slice none 0 0,slice none 0 0] 79);have c:=(a.block w.heap.size (by omega) (by omega)).trans d;refine⟨⟨c,(kZ (H:=w.heap.size) (b:=w.heap.size) _ _ lQ).trans ⟨a.os,a.output,a.size,λk d c=>a.block k (by omega) (by omega)⟩⟩,?_,?_,?_,?_,?_,?_⟩
 all_goals first|(unfold cell?;rw[c];rfl)|(unfold frozen?;rw[c];simp)
theorem zKM (w:World):SwIs (w.alloc (.cells #[slice none 0 0,slice none 0 0,slice none 0 0,slice none 0 0] 114)) w.heap.size 1 Sh.none:=by
 refine⟨λ_=>False,_,_,_,_,λ_=>slice none 0 0,λ_=>[],λ_=>0,gY _ _,ownsRow_nil _ _ _ _,ownsRow_nil _ _ _ _,ownsRow_nil _ _ _ _,ownsRow_nil _ _ _ _,λi a=>absurd a (Nat.not_lt_zero _),λi j g a=>absurd a (Nat.not_lt_zero _),λi a=>absurd a (Nat.not_lt_zero _),λi a=>absurd a (Nat.not_lt_zero _),λg b=>b.elim,λg b=>b.elim,λg i b=>b.elim,by simp⟩
theorem zKX (D:Nat):ShOk Sh.none D:=⟨by show 0<=3;omega,by show 0<=4;omega,by show 0<=8;omega,rfl,λi a=>absurd a (Nat.not_lt_zero _),λc b=>(by cases b),λi a=>absurd a (Nat.not_lt_zero _)⟩
theorem zJh:vU Sh.none:=λi a=>absurd a (Nat.not_lt_zero _)
theorem zI4 (w:World)(s:ByteArray):∃w1 w2,w1=w.alloc (.cells #[slice none 0 0,slice none 0 0,slice none 0 0] 79)/\w2=w1.alloc (.cells #[slice none 0 0,slice none 0 0,slice none 0 0,slice none 0 0] 114)/\Hid (∀v,Keep (w.heap.size+1) (w.heap.size+1) w2 v->zOr w v)/\Hid (w1.heap.size=w.heap.size+1)/\Hid (zOr w w1)/\(s.size<=400->Hid (Calls prog 56 #[pointer (some ⟨w.heap.size+1,0,none⟩),string s] w2 (zNL w2 (w.heap.size+1) (1+6*s.size) (jN (s.size+1) Sh.none 1 s)))):=by
 have a:(w.alloc (.cells #[slice none 0 0,slice none 0 0,slice none 0 0] 79)).heap.size=w.heap.size+1:=by simp
 refine⟨_,_,rfl,rfl,λv b=>zHL ((kZ _ _ (by rw[a];omega)).trans b),a,zHL (Keep.refl _ _ _),λc=>?_⟩;have:=zKM (w.alloc (.cells #[slice none 0 0,slice none 0 0,slice none 0 0] 79));rw[a] at this;exact zEh _ _ 1 Sh.none this (zKX 1) zJh s (by omega)
theorem SwIs.grew {w2 v b:World}{S D:Nat}{sh:Sh}(a:SwIs v S D sh)(d:Keep S S w2 v)(c:Grew v b):SwIs b S D sh/\Keep S S w2 b/\S<v.heap.size:=by
 obtain⟨X,e,dv,f,g,rv,i,j,a⟩:=a;exact⟨⟨X,e,dv,f,g,rv,i,j,a.grown c⟩,d.trans (c.lower (Nat.le_of_lt a.lt) (Nat.le_of_lt a.lt)),a.lt⟩
theorem zN1 {v:World}{S D:Nat}{sh:Sh}(b:SwIs v S D sh)(ok:ShOk sh D):Calls prog 57 #[pX S] v λe w'=>∃u,e=returned (tuple #[u,bool sh.there])/\(∃a n c,u=slice a n c)/\(sh.there=true->OwnI w' v.heap.size u (sh.pushesTo sh.pushed.length))/\Grew v w':=by
 obtain⟨X,d,dv,f,g,rv,i,j,b⟩:=b;exact zC4 v X _ _ sh d dv f g rv i j b ok.modes (by rw[ok.same];exact ok.acts)
theorem zOb {v:World}{S D:Nat}{sh:Sh}(a:SwIs v S D sh)(ok:ShOk sh D):Calls prog 58 #[pX S] v λe w'=>e=returned (bool sh.haveB)/\Grew v w':=by
 obtain⟨X,b,dv,c,d,rv,f,g,a⟩:=a;exact zEl v X _ _ sh b dv c d rv f g a ok.modes
theorem zOj {v:World}{S D:Nat}{sh:Sh}(a:SwIs v S D sh)(ok:ShOk sh D)(few:vU sh):Calls prog 59 #[pX S] v λe w'=>e=returned (bool sh.fitB)/\Grew v w':=by
 obtain⟨X,b,dv,c,d,rv,f,g,a⟩:=a;exact zFw v X _ _ sh b dv c d rv f g a ok few
theorem zAD (w:World)(s:ByteArray)(aY:s.size<=1048576):Calls prog 43 #[string s] w (zEz w (1+6*s.size) (jL s)):=by
 obtain⟨w1,w2,O,ap,P,aZ,aq,ar⟩:=zI4 w s;obtain⟨A,au⟩:∃A,A=jL s:=⟨_,rfl⟩
 have Q:=vl au;rw[<-au];go_in;apply wp_cut;intro c a;go_wp2;apply a.out;rcases Nat.lt_or_ge 400 s.size with ae|ae
 ·have b:A=.inr (0,1):=by rw[Q.out];unfold jL;rw[if_pos ae]
  rw[b,<-O];clear O;have aD:(400:Int)<(s.size:Int):=by omega
  obtain⟨m,c0,c1,c2,R,T,U⟩:=aq;go_wp2;obtain⟨B,o,d,f,i,p⟩:=zBk w w1 (slice none 0 0) (slice none 0 0) (slice none 0 0) m;rw[<-o];refine gJ (v:=tuple #[agg #[slice none 0 0,slice none 0 0,slice none 0 0],iX 0,iX 1]) (by simp[results,results43,go_sem,d,f,i]) rfl ?_;exact⟨p.1,rfl⟩
 have aD:(s.size:Int)<=400:=by omega
 have u:=ar ae;clear ar;apply wp_cut;intro c a;go_wp2;apply a.out;clear a;apply wp_cut;intro c a;go_wp2;apply a.out;rw[<-O,<-ap];clear O ap a aq;rcases r:jN (s.size+1) Sh.none 1 s with sh|n;rotate_left
 ·rw[r] at u
  have b:A=.inr (n,2):=by rw[Q.out];unfold jL;rw[if_neg (by omega),r]
  rw[b];have a0:(0:Int)<(n:Int):=by have:=zGj _ _ _ _ _ r;omega
  clear r;go_wp2_with (first|(go_at_call 56;refine u.mono ?_;rintro e v ⟨j,rfl⟩;obtain⟨m,c0,c1,c2,R,T,U⟩:=P v j))
  obtain⟨B,o,d,f,i,p⟩:=zBk w v (slice none 0 0) (slice none 0 0) (slice none 0 0) m;rw[<-o];refine gJ (v:=tuple #[agg #[slice none 0 0,slice none 0 0,slice none 0 0],iX (n:Int),iX 2]) (by simp[results,results43,go_sem,d,f,i]) rfl ?_;exact⟨p.1,rfl⟩
 rw[r] at u;have b:Hid (A=if sh.there&&sh.haveB then(if sh.fitB then .inl sh else .inr (0,4)) else .inr (0,3)):=by show _=_;rw[Q.out];unfold jL;rw[if_neg (by omega),r]
 clear r Q;have C:=vl λv E ok=>zN1 (v:=v) (S:=w.heap.size+1) (D:=1+6*s.size) (sh:=sh) E ok;have F:=vl λv E ok=>zOb (v:=v) (S:=w.heap.size+1) (D:=1+6*s.size) (sh:=sh) E ok;have I:=vl λv E ok few=>zOj (v:=v) (S:=w.heap.size+1) (D:=1+6*s.size) (sh:=sh) E ok few;rcases x:sh.there with _|_;rotate_left;rcases y:sh.haveB with _|_;rotate_left;rcases z:sh.fitB with _|_;rotate_left
 ·rw[x] at C
  rw[y] at F;rw[z] at I;rw[x,y,z] at b;have af:=vl (And.intro x (And.intro y z));clear x y z;apply wp_cut;intro c a;go_wp2_with (first|(go_at_call 56;refine u.mono ?_;rintro e aw ⟨ax,rfl,ag,J,ah⟩))
  apply a.out;clear a;apply wp_cut;intro c a;go_wp2;apply a.out;clear a;apply wp_cut;intro c a;go_wp2_with (first|(go_at_call 57;refine(C aw ag J).mono ?_;rintro e aE ⟨aF,rfl,⟨K,L,M,rfl⟩,ay,q⟩;obtain⟨ai,hK4,az⟩:=ag.grew ax q))
  apply a.out;clear a;apply wp_cut;intro c a;go_wp2_with (first|(go_at_call 58;refine(F aE ai J).mono ?_;rintro e aG ⟨rfl,aj⟩;obtain⟨ak,hK5,-⟩:=ai.grew hK4 aj))
  apply a.out;clear a;apply wp_cut;intro c a;go_wp2_with (first|(go_at_call 59;refine(I aG ak J ah).mono ?_;rintro e al ⟨rfl,an⟩;obtain⟨aH,hK6,-⟩:=ak.grew hK5 an))
  apply a.out;clear a;obtain⟨X,a1,dv,a2,aI,rv,aJ,aK,N⟩:=aH;obtain⟨V,W,aL⟩:=zI N.mOwn;obtain⟨Y,ab,aM⟩:=zI N.aOwn;subst aL aM;obtain⟨aN,-,aO,-,-⟩:=N.cells;obtain⟨m,c0,c1,c2,R,T,U⟩:=P al hK6;obtain⟨B,o,d,f,i,p⟩:=zBk w al (slice V sh.modes.length W) (slice Y sh.acts.length ab) (slice K L M) m;have aP:=vl (zL (zL (ay trivial) aj) an);have ac:=vl (And.intro N (And.intro J (And.intro ah az)));clear m N ay q aj an ag J ah ax ai ak hK4 hK5 hK6 az u C F I P;apply wp_cut;intro c a;go_region
  all_goals
   rw[<-o];obtain⟨t,aA,aQ,aR,aS,aB⟩:∃t,t=B.drew/\cX t w.heap.size 0=some (slice V sh.modes.length W)/\cX t w.heap.size 1=some (slice Y sh.acts.length ab)/\cX t w.heap.size 2=some (slice K L M)/\Hid (Grew w t/\SpecIs t (1+6*s.size) (slice V sh.modes.length W) (slice Y sh.acts.length ab) (slice K L M) sh):=by
    obtain⟨ad,aT,aU,aV,aC⟩:=p;have a3:B.drew.heap.size=al.heap.size:=aT;refine⟨_,rfl,d,f,i,⟨ad.os,ad.output,ad.size,ad.block⟩,⟨⟨X,_,dv,aI,rv,aJ,aK,ac.1.low aU aV (by omega) λk aW _=>aC k (by omega)⟩,zAH (H:=aw.heap.size) (zF aP λg aW _ _=>aC g (by have:=ac.2.2.2;omega)),ac.2.1,ac.2.2.1,af.1,af.2.1,af.2.2⟩⟩
   rw[<-aA];show c _ _;apply a.out;clear a;clear o aA d f i aN aO c0 c1 c2 R T U;go_wp2;refine gJ (v:=tuple #[agg #[slice V sh.modes.length W,slice Y sh.acts.length ab,slice K L M],iX 0,iX 0]) (by simp[results,results43,go_sem,aQ,aR,aS]) rfl ?_;rw[b.out];exact⟨aB.1,_,_,_,rfl,aB.2⟩
 all_goals
  rw[x] at C b
  try rw[y] at F b
  try rw[z] at I b
  clear x
  try clear y
  try clear z
  go_wp2_with ((first|(go_at_call 56;refine u.mono ?_;rintro e v ⟨j,rfl,l,ao,aX⟩)|(go_at_call 57;refine(C v l ao).mono ?_;rintro e v ⟨aF,rfl,⟨K,L,M,rfl⟩,-,q⟩;obtain⟨l,j,-⟩:=l.grew j q)|(go_at_call 58;refine(F v l ao).mono ?_;rintro e v ⟨rfl,q⟩;obtain⟨l,j,-⟩:=l.grew j q)|(go_at_call 59;refine(I v l ao aX).mono ?_;rintro e v ⟨rfl,q⟩;obtain⟨l,j,-⟩:=l.grew j q));obtain⟨m,c0,c1,c2,R,T,U⟩:=P v j)
  obtain⟨B,o,d,f,i,p⟩:=zBk w v (slice none 0 0) (slice none 0 0) (slice none 0 0) m;rw[<-o]
  first
  |(refine gJ (v:=tuple #[agg #[slice none 0 0,slice none 0 0,slice none 0 0],iX 0,iX 3]) (by simp[results,results43,go_sem,d,f,i];done) rfl ?_;rw[b.out];exact⟨p.1,rfl⟩)
  |(refine gJ (v:=tuple #[agg #[slice none 0 0,slice none 0 0,slice none 0 0],iX 0,iX 4]) (by simp[results,results43,go_sem,d,f,i];done) rfl ?_;rw[b.out];exact⟨p.1,rfl⟩)
section
structure Mk.Tab (m:Mk)(nr:Int):Prop where
 one:1<=m.next.length
 wide:∀row∈m.next,row.length=256/\∀x∈row,0<=x/\x<(m.next.length:Int)
 rules:∀r∈m.rules,-1<=r/\r<nr
 of:∀x∈m.of,0<=x/\x<(m.next.length:Int)
def Mk.Inr (m:Mk)(x:Int):Prop:=0<=x/\x<(m.next.length:Int)
theorem Mk.Inr.grow {m a:Mk}{x:Int}(b:m.Inr x)(c:m.next.length<=a.next.length):a.Inr x:=⟨b.1,by have:=b.2;omega⟩
theorem zHu (x:Int)(a:x∈zeros):x=0:=List.eq_of_mem_replicate a
section
variable {m:Mk} {nr:Int} {most:Nat}
theorem zKr (c:m.Tab nr){r:Int}(f:-1<=r/\r<nr):(m.add most r).Tab nr:=by
 unfold Mk.add;split
 ·exact⟨c.one,c.wide,c.rules,c.of⟩
 ·have j:(m.next++[zeros]).length=m.next.length+1:=by simp
  refine⟨by show 1<=(m.next++[zeros]).length;omega,λrow g=>?_,λq i=>?_,λx e=>?_⟩
  ·show _/\∀x∈row,0<=x/\x<((m.next++[zeros]).length:Int)
   rcases kU.1 g with d|d
   ·obtain⟨a,b⟩:=c.wide row d
    exact⟨a,λx e=>by have:=b x e;omega⟩
   ·rw[kY.1 d]
    exact⟨by unfold zeros;exact List.length_replicate,λx e=>by rw[zHu x e];omega⟩
  ·rcases kU.1 i with d|d
   ·exact c.rules q d
   ·rw[kY.1 d];exact f
  ·show 0<=x/\x<((m.next++[zeros]).length:Int)
   have:=c.of x e;omega
theorem zHs (a:m.Tab nr)(r:Int):(m.add most r).Inr (m.addN most:Int):=by
 have:=a.one;unfold Mk.add Mk.addN Mk.Inr;split
 ·show(0:Int)<=((0:Nat):Int)/\((0:Nat):Int)<(m.next.length:Int)
  omega
 ·show(0:Int)<=(m.next.length:Int)/\(m.next.length:Int)<((m.next++[zeros]).length:Int)
  have b:(m.next++[zeros]).length=m.next.length+1:=by simp
  omega
theorem zJ3 (d:m.Tab nr)(s b:Nat){x:Int}(k:m.Inr x):(m.put s b x).Tab nr:=by
 have e:=zC3 m s b x;refine⟨by rw[e];exact d.one,λrow l=>?_,d.rules,λy f=>by rw[e];exact d.of y f⟩;rw[e];have g:row∈m.next.set s ((m.next.getD s []).set b x):=l
 rcases List.mem_or_eq_of_mem_set g with i|i
 ·exact d.wide row i
 ·by_cases o:s<m.next.length
  ·have p:m.next.getD s []∈m.next:=by
    rw[lW,lV o];exact List.getElem_mem _
   obtain⟨a,c⟩:=d.wide _ p;rw[i];refine⟨by rw[List.length_set];exact a,λy f=>?_⟩;rcases List.mem_or_eq_of_mem_set f with j|j
   ·exact c y j
   ·rw[j];exact k
  ·rw[List.set_eq_of_length_le (by omega)] at g
   exact d.wide row g
theorem zJG (a:m.Tab nr)(s:Nat){f:Nat->Int}(b:∀i,i<64->m.Inr (f i))(j:Nat)(d:j<=64):(m.fillTo s f j).Tab nr:=by
 induction j with
 |zero=>exact a
 |succ j c=>
  rw[Mk.fillTo];exact zJ3 (c (by omega)) _ _ ((b j (by omega)).grow (by rw[zBs];omega))
theorem zHw (a:m.Tab nr)(e:0<=nr){f:Nat->Int}(c:∀i,i<64->m.Inr (f i)):(m.withM most f).Tab nr/\(m.withM most f).Inr (m.withN most f:Int):=by
 have g:=a.one;unfold Mk.withM Mk.withN;split
 ·exact⟨a,by unfold Mk.Inr;omega⟩
 split
 ·exact⟨a,by unfold Mk.Inr;omega⟩
 have b:(m.add most (-1)).Tab nr:=zKr a ⟨by omega,by omega⟩;split
 ·exact⟨b,zHs a (-1)⟩
 ·exact⟨zJG b _ (λi d=>(c i d).grow (zDS m most (-1))) 64 lQ,(zHs a (-1)).grow (by rw[zBs];omega)⟩
end
def zFH (nr:Int)(sub:Mk->Nat->Int×Mk):Prop:=∀m c,m.Tab nr->(sub m c).2.Tab nr/\(sub m c).2.Inr (sub m c).1
theorem zMv (most:Nat)(nr:Int)(g:0<=nr)(c:Nat):∀(m:Mk) (to:Int),m.Tab nr->m.Inr to->(Mk.even most c m to).2.Tab nr/\(Mk.even most c m to).2.Inr (Mk.even most c m to).1:=by
 induction c with
 |zero=>exact λm to d e=>⟨d,e⟩
 |succ c i=>
  intro m to d e;obtain⟨a,b⟩:=zHw (most:=most) d g (f:=λ_=>to) λ_ _=>e;exact i (m.withM most λ_=>to) ((m.withN most λ_=>to:Nat):Int) a b
theorem zJ5 {m:Mk}{nr:Int}(a:m.Tab nr)(i:Nat):m.Inr (m.of.getD i 0):=by
 rw[lW];by_cases b:i<m.of.length
 ·rw[lV b]
  exact a.of _ (List.getElem_mem _)
 ·rw[List.getElem?_eq_none (by omega)]
  have:=a.one;exact⟨Int.le_refl _,by show(0:Int)<_;omega⟩
theorem zM0 {nr:Int}{e:Mk->Nat->Int×Mk}(k:zFH nr e)(g:Grows e)(step low:Nat){m:Mk}(f:m.Tab nr)(j:Nat):(yV e step low m j).2.Tab nr/\∀i,(yV e step low m j).2.Inr ((yV e step low m j).1 i):=by
 induction j with
 |zero=>
  have:=f.one;exact⟨f,λi=>⟨Int.le_refl _,by show(0:Int)<_;show(0:Int)<(m.next.length:Int);omega⟩⟩
 |succ j l=>
  obtain⟨a,b⟩:=l;have p:=a.one;unfold yV;split
  ·refine⟨a,λi=>?_⟩
   show Mk.Inr _ (if i=j then 0 else _);split
   ·exact⟨Int.le_refl _,by show(0:Int)<((yV e step low m j).2.next.length:Int);omega⟩
   ·exact b i
  ·obtain⟨c,o⟩:=k (yV e step low m j).2 (low+j*step) a
   refine⟨c,λi=>?_⟩;show Mk.Inr _ (if i=j then _ else _);split
   ·exact o
   ·exact(b i).grow (g _ _)
theorem zD7 (k:Kd)(a:Ar)(most kind cnt step:Nat){nr:Int}(f:0<=nr){d:Mk->Nat->Int×Mk}(j:zFH nr d)(g:Grows d):zFH nr (jQ k a most kind cnt step d):=λm low e=>by
 unfold jQ;split
 ·exact zMv most nr f cnt m _ e (by unfold Mk.behind;exact zJ5 e _)
 ·obtain⟨b,c⟩:=zM0 j g step low e 64
  exact zHw b f λi _=>c i
theorem zCI (k:Kd)(a:Ar)(most kind:Nat){nr:Int}(b:0<=nr)(l:Nat):zFH nr (yG k a most kind l):=by
 induction l with
 |zero=>exact zD7 k a most kind 1 1 b (λm c d=>⟨d,by unfold Mk.behind;exact zJ5 d _⟩) λm c=>lQ
 |succ l e=>exact zD7 k a most kind (l+2) (qZ (l+2)) b e (zAz k a most kind l)
theorem zCk {nr:Int}{c:Mk->Nat->Int×Mk}(e:zFH nr c)(s d:Nat){m:Mk}(f:m.Tab nr)(j:Nat):(qV c s d m j).Tab nr:=by
 induction j with
 |zero=>exact f
 |succ j g=>
  obtain⟨a,b⟩:=e (qV c s d m j) (d+j) g;unfold qV;exact zJ3 a _ _ b
theorem zLh (k:Kd)(a:Ar)(most kind s:Nat){nr:Int}(d:0<=nr){m:Mk}(b:m.Tab nr):(zBd k a most kind s m).Tab nr:=by
 unfold zBd;refine zCk (λm c b=>?_) _ _ ?_ _
 ·unfold zCW;exact zCI k a most kind d 2 m _ b
 unfold zDf;refine zCk (λm c b=>?_) _ _ ?_ _
 ·unfold zCX;exact zCI k a most kind d 1 m _ b
 unfold zDg;refine zCk (λm c b=>?_) _ _ ?_ _
 ·unfold zCY;exact zCI k a most kind d 0 m _ b
 unfold zDh;exact zCk (λm c b=>⟨b,by unfold zEf Mk.behind;exact zJ5 b _⟩) _ _ b _
theorem zKt (k:Kd)(most:Nat)(o:1<=most){nr:Int}(p:0<=nr)(f:∀r∈k.rules,-1<=r/\r<nr)(j:Nat)(q:j<=k.rules.length):(zV k most j).Tab nr:=by
 induction j with
 |zero=>
  have e:zV k most 0=⟨[zeros],[-1],[],false⟩:=by
   show Mk.blank.add most (-1)=_;unfold Mk.add Mk.blank;rw[if_neg (by show¬most<=0;omega)];rfl
  rw[e];refine⟨lQ,λrow h=>?_,λr f=>?_,λx c=>by cases c⟩
  ·rw[kY.1 h]
   exact⟨by unfold zeros;exact List.length_replicate,λx c=>by rw[zHu x c];exact⟨Int.le_refl _,by show(0:Int)<1;omega⟩⟩
  ·rw[kY.1 f];omega
 |succ j a=>
  have a:=a (by omega);have s:=a.one;unfold zV;split
  ·refine⟨a.one,a.wide,a.rules,λx c=>?_⟩
   have g:=c;rcases kU.1 g with b|b
   ·exact a.of x b
   ·rw[kY.1 b];exact⟨Int.le_refl _,by show(0:Int)<((zV k most j).next.length:Int);omega⟩
  ·have i:-1<=k.rules.getD j 0/\k.rules.getD j 0<nr:=by
    rw[lW,lV (by omega:j<k.rules.length)];exact f _ (List.getElem_mem _)
   have d:((zV k most j).add most (k.rules.getD j 0)).Tab nr:=zKr a i;have l:((zV k most j).add most (k.rules.getD j 0)).Inr ((zV k most j).addN most:Int):=zHs a _;refine⟨d.one,d.wide,d.rules,λx c=>?_⟩;have g:=c;rcases kU.1 g with b|b
   ·rw[<-zCO (zV k most j) most (k.rules.getD j 0)] at b
    exact d.of x b
   ·rw[kY.1 b];exact l
theorem zMb (k:Kd)(a:Ar)(most:Nat)(d:1<=most){nr:Int}(b:0<=nr)(e:∀r∈k.rules,-1<=r/\r<nr)(f:k.rules.length=k.rows.length)(j:Nat):(qO k a most j).Tab nr:=by
 induction j with
 |zero=>exact zKt k most d b e k.rows.length (by omega)
 |succ j c=>
  unfold qO;split
  ·exact zLh k a most _ _ b c
  ·exact c
theorem zGh (k:Kd)(a:Ar)(most:Nat){nr:Int}(c:0<=nr)(d:∀r∈k.rules,-1<=r/\r<nr)(e:k.rules.length=k.rows.length)(f:(yC k a most).full=false):(yC k a most).Tab nr/\(yC k a most).Fit most:=by
 have g:=(zIh k a most k.rows.length f).1.one;have b:=(zCe k a most k.rows.length).1;have h:=b.few;exact⟨zMb k a most (by omega) c d e _,b⟩
end
end Go.Proofs.YtbjcfkdnjaiclaaGreat
