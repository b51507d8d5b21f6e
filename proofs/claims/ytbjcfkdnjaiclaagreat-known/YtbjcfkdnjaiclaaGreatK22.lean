import Derived.Deep.DrawnRows
import Derived.Deep.RegionLaw
import Derived.Test.YtbjcfkdnjaiclaaGreatK0
import Derived.Test.YtbjcfkdnjaiclaaGreatK21
/- Parts of the proof. -/
set_option linter.unusedVariables false
set_option linter.unusedSimpArgs false
set_option maxHeartbeats 4000000
set_option maxRecDepth 100000
namespace Go.Proofs.YtbjcfkdnjaiclaaGreat
open Go.RowKit Go.Proofs.Tryz Go.World
open Go.Value (int slice bool pointer string agg tuple)
open Go.IntKind (i64)
open Go.Ending (returned)
theorem qY {w:World}{H e c n:Nat}{v:Value}{xs:List Value}(a:w.ownsRow H e c v n xs)(o:0<n):∃g cap,v=slice (qX g) n cap/\H<=g/\g<w.heap.size/\n<=cap/\cap<=maxLen/\(∀j u,xs[j]? =some u->w.cell? ⟨g,j,none⟩=some u)/\∀j,w.frozen? ⟨g,j,none⟩=false:=by
 rcases a.2 with⟨-,p⟩|⟨g,cap,q,b,d,f,i,k,-⟩
 ·omega
 ·have l:=a.lt g (by rw[b];rfl)
  refine⟨g,cap,b,d,l.2,i,k,λj u m=>?_,λj=>?_⟩
  ·have:=a.cells (g:=g) (by rw[b];rfl) j u m
   rw[Addr.add_lit,Nat.zero_add] at this;exact this
  ·unfold frozen?;rw[f];simp
theorem zC6 {w:World}{H e b n:Nat}{v:Value}{xs:List Value}(c:w.ownsRow H e b v n xs):∃ao cap,v=slice ao n cap/\n<=cap/\cap<=maxLen:=by
 rcases c.2 with⟨a,d⟩|⟨g,cap,j,a,k,l,f,i,-⟩
 ·exact⟨none,0,by rw[a,d],by omega,by unfold maxLen;omega⟩
 ·exact⟨_,cap,a,f,i⟩
theorem zGt {a:Type}(l:List a)(p:a->Bool)(b:a)(j:Nat)(c:j<l.length)(g:p (l.getD j b)=true)(m:∀i,i<j->p (l.getD i b)=false):l.findIdx p=j:=by
 have e:∀i (f:i<l.length),l.getD i b=l[i]:=λi f=>by rw[lW,lV f];rfl
 rw[List.findIdx_eq c];refine⟨by rw[<-e j c];exact g,λk o=>?_⟩;rw[<-e k (by omega)];exact m k o
theorem zIr {a:Type}(l:List a)(p:a->Bool)(c:a)(f:∀i,i<l.length->p (l.getD i c)=false):l.findIdx p=l.length:=by
 apply List.findIdx_eq_length_of_false;intro x g;obtain⟨i,b,e⟩:=List.getElem_of_mem g;have:=f i b;rw[lW,lV b] at this;rw[<-e];exact this
def Sh.modeIx (sh:Sh)(nm:ByteArray):Nat:=sh.modes.findIdx λm=>eqS m.1 nm
def Sh.modeI (sh:Sh)(nm:ByteArray):Int:=if sh.modeIx nm<sh.modes.length then(sh.modeIx nm:Int) else -1
def Sh.hasDefB (sh:Sh)(nm:ByteArray):Bool:=decide ((sh.defs.findIdx λm=>eqS m.1 nm)<sh.defs.length)
theorem zC9 (w:World)(X:Nat->Prop)(S D:Nat)(sh:Sh)(L dv M N:Value)(rv:Nat->Value)(O:Nat->List Nat)(P:Nat->Nat)(m:Sw w X S D sh L dv M N rv O P)(ai:sh.modes.length<=1000000)(a:ByteArray):
  Calls prog 88 #[pX S,string a] w λe w'=>e=returned (iX (sh.modeI a))/\Grew w w':=by
 have Q:Hid (∀j,j<sh.modes.length->eqS (sh.mode j).1 a=true->(∀i,i<j->eqS (sh.mode i).1 a=false)->sh.modeI a=(j:Int)):=λj o g p=>by
  have e:sh.modeIx a=j:=zGt sh.modes _ (⟨#[]⟩,[]) j o g p;unfold Sh.modeI;rw[e,if_pos o]
 have R:Hid ((∀i,i<sh.modes.length->eqS (sh.mode i).1 a=false)->sh.modeI a=-1):=λp=>by
  have e:sh.modeIx a=sh.modes.length:=zIr sh.modes _ (⟨#[]⟩,[]) p;unfold Sh.modeI;rw[e,if_neg (by omega)]
 generalize sh.modeI a=T at *;obtain⟨ao,aj,x⟩:=zI m.mOwn;obtain⟨c0,-,-,-,-⟩:=m.cells;have y:=vl m;have U:=vl x;rw[x] at c0;go_in;go_wp2;go_loopg [12] sh.modes.length (λq i wr=>∃j:Nat,q=sh.modes.length-j/\j<=sh.modes.length/\i=iX (j:Int)/\(∀k,k<j->eqS (sh.mode k).1 a=false)/\Grew w wr)
 case atStart=>exact⟨0,rfl,lX,rfl,λk b=>by omega,Keep.refl _ _ _⟩
 case round=>
  obtain⟨j,z,o,rfl,r,b⟩:=hrel;have c:Hid (gk=sh.modes.length-j/\(∀k,k<j->eqS (sh.mode k).1 a=false)/\Grew w wr/\w.heap.size<=wr.heap.size):=⟨z,r,b,b.size⟩
  by_cases s:j<sh.modes.length
  ·have W:(j:Int)<(sh.modes.length:Int):=by omega
   obtain⟨ak,al,A,-,B,-,-,C,-⟩:=qY y.mOwn (by omega);rw[U.out] at A;injection A with Y am aa;subst Y aa;obtain⟨ab,ac⟩:=zA6 (λi=>string (sh.mode i).1) rv sh.modes.length j s;have ad:=zA (C _ _ ab) B b;have E:=zA (C _ _ ac) B b;obtain⟨F,G,ae⟩:=zI (y.rOwn j s);rw[ae] at E;obtain⟨l,H,an,I⟩:∃l,l=wr.alloc (.cells #[string (sh.mode j).1,(slice F (sh.mode j).2.length G)] 120)/\l.cell? ⟨wr.heap.size,0,none⟩=some (string (sh.mode j).1)/\Hid (Grew w l):=by
    have af:=gY wr (.cells #[string (sh.mode j).1,(slice F (sh.mode j).2.length G)] 120);refine⟨_,rfl,?_,c.2.2.1.trans (kZ _ _ c.2.2.2)⟩;unfold cell?;rw[af];rfl
   have t:Hid (eqS (sh.mode j).1 a=true->T=(j:Int)):=λg=>Q j s g c.2.1;have u:Hid (eqS (sh.mode j).1 a=false->∀k,k<j+1->eqS (sh.mode k).1 a=false):=λg k b=>by
    by_cases e:k=j
    ·rw[e];exact g
    ·exact c.2.1 k (by omega)
   apply wp_cut;intro J d;go_wp2;apply d.out;apply wp_cut;intro J d;go_wp2;apply d.out;apply wp_cut;intro ap K;refine wp_block ?_;apply wp_cut;intro J d;go_wp2;apply d.out;clear d;rw[<-H];clear H ad E;cases f:eqS (sh.mode j).1 a with
   |true=>
    have v:=vl <| t f;have ag:((sh.mode j).1.toList==a.toList)=true:=f;clear t u f;go_wp2;go_ret;exact⟨by rw[v.out];rfl,I⟩
   |false=>
    have ah:=u f;have ag:((sh.mode j).1.toList==a.toList)=false:=f;clear t u f;go_wp2;apply K.out;clear K;go_wp2;go_roundg (sh.modes.length-(j+1))
    case measure=>rw[c.out.1];omega
    case rel=>exact⟨j+1,rfl,by omega,by go_num,ah,I⟩
  ·have W:(sh.modes.length:Int)<=(j:Int):=by omega
   have v:=vl <| R λk b=>r k (by omega);clear z r b;go_wp2;go_ret;exact⟨by rw[v.out];rfl,c.2.2.1⟩
theorem zDd (w:World)(X:Nat->Prop)(S D:Nat)(sh:Sh)(J dv K L:Value)(rv:Nat->Value)(M:Nat->List Nat)(l:Nat->Nat)(p:Sw w X S D sh J dv K L rv M l)(ag:sh.defs.length<=1000000)(a:ByteArray):
  Calls prog 161 #[pX S,string a] w λe w'=>e=returned (bool (sh.hasDefB a))/\Grew w w':=by
 have N:Hid (∀j,j<sh.defs.length->eqS (sh.defn j).1 a=true->(∀i,i<j->eqS (sh.defn i).1 a=false)->sh.hasDefB a=true):=λj r g s=>by
  have e:(sh.defs.findIdx λm=>eqS m.1 a)=j:=zGt sh.defs _ (⟨#[]⟩,Tr.none) j r g s;unfold Sh.hasDefB;rw[e];exact dQ r
 have O:Hid ((∀i,i<sh.defs.length->eqS (sh.defn i).1 a=false)->sh.hasDefB a=false):=λs=>by
  have e:(sh.defs.findIdx λm=>eqS m.1 a)=sh.defs.length:=zIr sh.defs _ (⟨#[]⟩,Tr.none) s;unfold Sh.hasDefB;rw[e];exact gG (by omega)
 generalize sh.hasDefB a=P at *;obtain⟨ao,ah,y⟩:=zI p.dOwn;obtain⟨-,c0,-,-,-⟩:=p.cells;have Q:=vl p;have R:=vl y;rw[y] at c0;go_in;go_wp2;go_loopg [12] sh.defs.length (λq i wr=>∃j:Nat,q=sh.defs.length-j/\j<=sh.defs.length/\i=iX (j:Int)/\(∀k,k<j->eqS (sh.defn k).1 a=false)/\Grew w wr)
 case atStart=>exact⟨0,rfl,lX,rfl,λk b=>by omega,Keep.refl _ _ _⟩
 case round=>
  obtain⟨j,z,r,rfl,t,b⟩:=hrel;have c:Hid (gk=sh.defs.length-j/\(∀k,k<j->eqS (sh.defn k).1 a=false)/\Grew w wr/\w.heap.size<=wr.heap.size):=⟨z,t,b,b.size⟩
  by_cases A:j<sh.defs.length
  ·have T:(j:Int)<(sh.defs.length:Int):=by omega
   obtain⟨ai,aj,B,-,C,-,-,E,-⟩:=qY Q.dOwn (by omega);rw[R.out] at B;injection B with U ak W;subst U W;obtain⟨Y,aa⟩:=zA6 (λi=>string (sh.defn i).1) (λi=>pointer (some ⟨l i,0,none⟩)) sh.defs.length j A;have ab:=zA (E _ _ Y) C b;have ac:=zA (E _ _ aa) C b;obtain⟨o,F,al,G⟩:∃o,o=wr.alloc (.cells #[string (sh.defn j).1,(pointer (some ⟨l j,0,none⟩))] 233)/\o.cell? ⟨wr.heap.size,0,none⟩=some (string (sh.defn j).1)/\Hid (Grew w o):=by
    have ad:=gY wr (.cells #[string (sh.defn j).1,(pointer (some ⟨l j,0,none⟩))] 233);refine⟨_,rfl,?_,c.2.2.1.trans (kZ _ _ c.2.2.2)⟩;unfold cell?;rw[ad];rfl
   have u:Hid (eqS (sh.defn j).1 a=true->P=true):=λg=>N j A g c.2.1;have v:Hid (eqS (sh.defn j).1 a=false->∀k,k<j+1->eqS (sh.defn k).1 a=false):=λg k b=>by
    by_cases e:k=j
    ·rw[e];exact g
    ·exact c.2.1 k (by omega)
   apply wp_cut;intro H d;go_wp2;apply d.out;apply wp_cut;intro H d;go_wp2;apply d.out;apply wp_cut;intro am I;refine wp_block ?_;apply wp_cut;intro H d;go_wp2;apply d.out;clear d;rw[<-F];clear F ab ac;cases f:eqS (sh.defn j).1 a with
   |true=>
    have x:=vl <| u f;have ae:((sh.defn j).1.toList==a.toList)=true:=f;clear u v f;go_wp2;go_ret;exact⟨by rw[x.out];rfl,G⟩
   |false=>
    have af:=v f;have ae:((sh.defn j).1.toList==a.toList)=false:=f;clear u v f;go_wp2;apply I.out;clear I;go_wp2;go_roundg (sh.defs.length-(j+1))
    case measure=>rw[c.out.1];omega
    case rel=>exact⟨j+1,rfl,by omega,by go_num,af,G⟩
  ·have T:(sh.defs.length:Int)<=(j:Int):=by omega
   have x:=vl <| O λk b=>t k (by omega);clear z t b;go_wp2;go_ret;exact⟨by rw[x.out];rfl,c.2.2.1⟩
theorem zJx:(prog.info? 120).map (λi=>(i.zero,i.size,i.bytes))=some (some (agg #[string ⟨#[]⟩,slice none 0 0]),2,40):=by kernel_rfl
def yK (sh:Sh)(nm:ByteArray):Option Sh:=if 3<=sh.modes.length then none else if 0<=sh.modeI nm then none else if xI nm then some (sh.addMode nm) else none
def LnAns (w:World)(S D:Nat)(a:Option Sh)(e:Ending)(w':World):Prop:=
 Keep S S w w'/\match a with
 |none=>e=returned (bool false)
 |some sh=>e=returned (bool true)/\SwIs w' S D sh
theorem zD5 (sh:Sh)(a:ByteArray):sh.modeI a=-1\/(0<=sh.modeI a/\sh.modeI a<sh.modes.length):=by
 unfold Sh.modeI;split
 ·right;omega
 ·left;rfl
theorem zEX (w:World)(X:Nat->Prop)(S D:Nat)(sh:Sh)(K dv j k:Value)(rv:Nat->Value)(u:Nat->List Nat)(l:Nat->Nat)(f:Sw w X S D sh K dv j k rv u l)(L:sh.modes.length<=1000000)(a:ByteArray)(M:a.size<=1048576):
  Calls prog 120 #[pX S,string a] w (LnAns w S D (yK sh a)):=by
 obtain⟨N,O,P,Q,R⟩:=info_parts zJx;obtain⟨ao,T,U⟩:=zI f.mOwn;subst U;obtain⟨c0,-,-,-,-⟩:=f.cells;have v:=vl <| zC9 w X S D sh _ dv j k rv u l f L a;have m:Hid (∀w,Ca 160 #[string a] w λe w'=>e=returned (bool (xI a))/\w'=w):=λw=>vL w a M;have V:=vl f;have C:=f.lt;have x:Hid (∀w1,Grew w w1->Keep S S w w1):=λw1 W=>W.lower (Nat.le_of_lt C) (Nat.le_of_lt C);have o:Hid (yK sh a=if 3<=sh.modes.length then none else if 0<=sh.modeI a then none else if xI a then some (sh.addMode a) else none):=rfl;by_cases p:3<=sh.modes.length
 ·have b:Hid (yK sh a=none):=by show _=_;rw[o.out,if_pos p]
  have Y:(3:Int)<=(sh.modes.length:Int):=by omega
  rw[b.out];go_in;go_wp2;go_ret;exact⟨Keep.refl _ _ _,rfl⟩
 have Y:(sh.modes.length:Int)<3:=by omega
 rcases zD5 sh a with g|⟨g,-⟩
 ·rw[g] at v
  have E:=vl v;cases q:xI a with
  |false=>
   rw[q] at m;have y:=vl m;have b:Hid (yK sh a=none):=by show _=_;rw[o.out,if_neg p,if_neg (by rw[g];decide),q];rfl
   rw[b.out];go_in;go_wp2_with (first|(go_at_call 88;refine E.mono ?_;rintro e w1 ⟨rfl,c⟩)|(go_at_call 160;refine(y _).mono ?_;rintro e aa ⟨rfl,z⟩;have A:=z.symm;subst A))
   go_ret;exact⟨x _ c,rfl⟩
  |true=>
   rw[q] at m;have y:=vl m;have b:Hid (yK sh a=some (sh.addMode a)):=by show _=_;rw[o.out,if_neg p,if_neg (by rw[g];decide),q];rfl
   rw[b.out];go_in;apply wp_cut;intro F i;go_wp2;apply i.out;apply wp_cut;intro F i;go_wp2_with (first|(go_at_call 88;refine E.mono ?_;rintro e w1 ⟨rfl,c⟩)|(go_at_call 160;refine(y _).mono ?_;rintro e aa ⟨rfl,z⟩;have A:=z.symm;subst A))
   apply i.out;have d:=V.grown c;have r:Hid (Sw w1 X S D sh (slice ao sh.modes.length T) dv j k rv u l/\Keep S S w w1):=⟨d,x _ c⟩
   obtain⟨ab,-,-,-,ac⟩:=d.cells;have ad:=ac 0;have ae:=d.mOwn;have G:=d.lt;have af:=vl <| zN d.mOwn d.blk (by decide);apply wp_cut;intro F i;go_wp2_with (first|(at_builtin;refine wpList_append_lies _ rfl _ _ 77 rfl (S+1) 120 N (agg #[string ⟨#[]⟩,slice none 0 0]) 2 40 underlying77 O P Q R rfl (by decide) _ _ _ rfl (ae.alloc _) ⟨w1.heap.size,0,none⟩ 1 1 [string a,slice none 0 0] rfl rfl (news_of_block (cs:=#[string a,slice none 0 0]) (t:=120) (fr:=(0,0)) (gY w1 _)) (by simp[Value.oneCell']) (by decide) (by unfold maxLen;omega) (by omega) (by simp;omega) _ rfl ?_;intro ag cap w2 ah H ai al;have I:=H.block S (by simp;omega) af;have am:=(gW I).trans ((gU _ _ _ G).trans ab);have an:=(gV I).trans ((frozen?_alloc_past _ _ _ G).trans ad)))
   apply i.out;obtain⟨s,aj,J⟩:∃s,s=w2.setCell ⟨S,0,none⟩ (slice (qX ag) (sh.modes.length+1) cap)/\Hid (SwIs s S D (sh.addMode a)/\Keep S S w s):=by
    obtain⟨ak,q2⟩:=r.1.appMode ah H (by rcases ai with B|B;exact .inl B;right;rw[B];simp);exact⟨_,rfl,⟨X,_,dv,j,k,_,_,l,ak⟩,r.2.trans ((q2.keep r.1.mOwn r.1.lt).lower (Nat.le_succ S) (Nat.le_refl S))⟩
   rw[<-aj];go_wp2;go_ret;exact⟨J.2,rfl,J.1⟩
 ·have b:Hid (yK sh a=none):=by show _=_;rw[o.out,if_neg p,if_pos g]
  rw[b.out];generalize sh.modeI a=ap at *;go_in;go_wp2_with (first|(go_at_call 88;refine v.mono ?_;rintro e w1 ⟨rfl,c⟩))
  go_ret;exact⟨x _ c,rfl⟩
theorem zNj:(prog.info? 233).map (λi=>(i.zero,i.size,i.bytes))=some (some (agg #[string ⟨#[]⟩,pointer none]),2,24):=by kernel_rfl
structure ShOk (sh:Sh)(D:Nat):Prop where
 modes:sh.modes.length<=3
 defs:sh.defs.length<=4
 acts:sh.acts.length<=8
 same:sh.pushed.length=sh.acts.length
 names:∀i,i<sh.defs.length->(sh.defn i).1.size<=6
 trees:zA4 D sh.defs
 rules:∀i,i<sh.modes.length->∀t∈(sh.mode i).2,TrOk D t
theorem Sw.defsIn {w:World}{X:Nat->Prop}{S D:Nat}{sh:Sh}{k dv l m:Value}{rv:Nat->Value}{o:Nat->List Nat}{a:Nat->Nat}(b:Sw w X S D sh k dv l m rv o a)(p:∀i,i<sh.defs.length->(sh.defn i).1.size<=6):DefsIn w.heap.size X w D dv sh.defs:=by
 obtain⟨ao,cap,d,q,r⟩:=zC6 b.dOwn;refine⟨ao,cap,d,q,r,λi c=>?_⟩;obtain⟨g,v,e,-,f,-,-,j,-⟩:=qY b.dOwn (by omega);rw[d] at e;injection e with s x y;obtain⟨t,u⟩:=zA6 (λi=>string (sh.defn i).1) (λi=>pointer (some ⟨a i,0,none⟩)) sh.defs.length i c;refine⟨g,0,a i,s,f,f,?_,?_,b.dTree i c,lY (p i c) (by omega)⟩
 ·rw[Nat.zero_add];exact j _ _ t
 ·rw[Nat.zero_add];exact j _ _ u
theorem zBr {w w1 w2:World}(a:Grew w w1)(b:Grew w1 w2):Grew w w2:=a.trans (b.lower a.size a.size)
def vR (sh:Sh)(s:ByteArray):Option Sh:=
 if zAb s 32 then if 4<=sh.defs.length then none else if sh.hasDefB (yP s 32) then none else if xI (yP s 32) then(match vN (qK s 32) sh.defs with
  |none=>none
  |some t=>some (sh.addDef (yP s 32) t)) else none else none
theorem zDQ (s:ByteArray)(c:Nat):(yP s c).size<=s.size:=by
 unfold yP;split
 ·rw[ByteArray.size_extract];omega
 ·exact lQ
theorem jE (s:ByteArray)(c:Nat):(qK s c).size<=s.size:=by
 unfold qK;split
 ·rw[ByteArray.size_extract];omega
 ·exact lX
theorem zMf (w:World)(X:Nat->Prop)(S D:Nat)(sh:Sh)(u dv j k:Value)(rv:Nat->Value)(l:Nat->List Nat)(m:Nat->Nat)(o:Sw w X S D sh u dv j k rv l m)(ok:ShOk sh D)(s:ByteArray)(R:s.size<=1000)(a c:ByteArray)(p:Bool)(T:a.size<=1000)(U:c.size<=1000)(hcut:∀w,Calls prog 86 #[string s,int .u8 32] w λe w'=>e=returned (tuple #[string a,string c,bool p])/\Grew w w')(I:¬(p=true/\¬4<=sh.defs.length/\sh.hasDefB a=false/\xI a=true/\∃t,vN c sh.defs=some t)):
  Calls prog 121 #[pX S,string s] w (LnAns w S (D+2+4*s.size) (none)):=by
 obtain⟨ao,v,J⟩:=zI o.dOwn;subst J;have x:=o.lt;have q:Hid (∀w1,Grew w w1->Keep S S w w1):=λw1 b=>b.lower (Nat.le_of_lt x) (Nat.le_of_lt x);have d:Hid (∀w1,Grew w w1->Sw w1 X S D sh u (slice ao sh.defs.length v) j k rv l m):=λw1 b=>o.grown b;have y:=vl λw1 w2=>zBr (w:=w) (w1:=w1) (w2:=w2);have L:=vl (hcut w);have f:=vl ok;have r:=Nat.lt_or_ge sh.defs.length 4;have z:=vl λ(w1:World) (b:Grew w w1)=>zDd w1 X S D sh _ _ j k rv l m (d w1 b) (by have:=f.defs;omega) a;have C:=vl λw=>vL w a (by omega);have E:=vl λ(w2:World) (b:Grew w w2)=>jR w2 X c (slice ao sh.defs.length v) (by omega) D sh.defs ((d w2 b).defsIn f.names) (by have:=f.defs;omega) f.trees;go_in;rcases p with _|_;rotate_left;rcases r with r|r;rcases F:sh.hasDefB a with _|_;rcases G:xI a with _|_;rotate_left;rcases H:vN c sh.defs with _|t;rotate_left
 ·exact absurd ⟨rfl,by omega,F,G,t,H⟩ I
 all_goals
  try rw[F] at z
  try rw[G] at C
  try rw[H] at E
  try have M:(sh.defs.length:Int)<4:=by omega
  try have M:(4:Int)<=(sh.defs.length:Int):=by omega
  go_wp2_with (first|(go_at_call 86;refine L.mono ?_;rintro e w1 ⟨rfl,g⟩;have V:=(d w1 g).cells.2.1)|(go_at_call 161;refine(z w1 g).mono ?_;rintro e w2 ⟨rfl,N⟩;have i:=vl (y _ _ g N);have W:=(d w2 i).cells.2.1)|(go_at_call 160;refine(C _).mono ?_;rintro e Y ⟨rfl,O⟩;have P:=O.symm;subst P)|(go_at_call 162;refine(E w2 i).mono ?_;rintro e aa ⟨Q,rfl⟩))
  go_ret
  first|exact⟨q _ (y _ _ i Q),rfl⟩|exact⟨q _ i,rfl⟩|exact⟨q _ g,rfl⟩
theorem zOC (w:World)(X:Nat->Prop)(S D:Nat)(sh:Sh)(r dv g j:Value)(rv:Nat->Value)(k:Nat->List Nat)(u:Nat->Nat)(C:Sw w X S D sh r dv g j rv k u)(ok:ShOk sh D)(s:ByteArray)(aD:s.size<=1000)(a d:ByteArray)(H:Bool)(aE:a.size<=1000)(aF:d.size<=1000)(hcut:∀w,Calls prog 86 #[string s,int .u8 32] w λe w'=>e=returned (tuple #[string a,string d,bool H])/\Grew w w')(aG:d.size<=s.size)(Q:H=true)(aH:¬4<=sh.defs.length)(R:sh.hasDefB a=false)(T:xI a=true)(t:Tr)(U:vN d sh.defs=some t):
  Calls prog 121 #[pX S,string s] w (LnAns w S (D+2+4*s.size) (some (sh.addDef a t))):=by
 obtain⟨ao,E,V⟩:=zI C.dOwn;subst V;have I:=C.lt;have W:Hid (∀w1,Grew w w1->Keep S S w w1):=λw1 f=>f.lower (Nat.le_of_lt I) (Nat.le_of_lt I);have l:Hid (∀w1,Grew w w1->Sw w1 X S D sh r (slice ao sh.defs.length E) g j rv k u):=λw1 f=>C.grown f;have J:=vl λw1 w2=>zBr (w:=w) (w1:=w1) (w2:=w2);have aa:=vl (hcut w);have v:=vl ok;subst Q;obtain⟨ab,ac,ad,ae,af⟩:=info_parts zNj;have aI:(sh.defs.length:Int)<4:=by omega
 have ag:Hid (∀w1,Grew w w1->Ca 161 #[pX S,string a] w1 λe w'=>e=returned (bool false)/\Grew w1 w'):=λw1 f=>by have:=zDd w1 X S D sh _ _ g j rv k u (l w1 f) (by have:=v.defs;omega) a;rw[R] at this;exact this
 have ah:Hid (∀w,Ca 160 #[string a] w λe w'=>e=returned (bool true)/\w'=w):=λw=>by have:=vL w a (by omega);rw[T] at this;exact this
 have ai:Hid (∀w2,Grew w w2->Ca 162 #[string d,slice ao sh.defs.length E] w2 (zHt w2 X (D+2+4*d.size) (some t))):=λw2 f=>by have:=jR w2 X d _ (by omega) D sh.defs ((l w2 f).defsIn v.names) (by have:=v.defs;omega) v.trees;rw[U] at this;exact this
 go_in;apply wp_cut;intro m b;go_wp2;apply b.out;apply wp_cut;intro m b;go_wp2_with (first|(go_at_call 86;refine aa.mono ?_;rintro e w1 ⟨rfl,F⟩;have aJ:=(l w1 F).cells.2.1))
 apply b.out;apply wp_cut;intro m b;go_wp2_with (first|(go_at_call 161;refine(ag w1 F).mono ?_;rintro e w2 ⟨rfl,aj⟩)|(go_at_call 160;refine(ah _).mono ?_;rintro e aK ⟨rfl,ak⟩;have al:=ak.symm;subst al))
 apply b.out;have x:=vl <| J _ _ F aj;have aL:=(l w2 x).cells.2.1;apply wp_cut;intro m b;go_wp2_with (first|(go_at_call 162;refine(ai w2 x).mono ?_;rintro e o ⟨L,p,rfl,am⟩))
 apply b.out;apply wp_cut;intro m b;go_wp2;apply b.out;obtain⟨y,c⟩:∃y,Hid (Sw o y S (D+2+4*s.size) sh r (slice ao sh.defs.length E) g j rv k u/\TreeIn y o (D+2+4*s.size) p t/\Keep S S w o):=by
  refine⟨_,((l w2 x).more L).deep (by omega),(TreeIn.deep am (by omega)).mono λi an q=>?_,W _ (J _ _ x L)⟩;rcases q with q|q
  ·exact .inl q.1
  ·exact .inr ⟨q,an⟩
 obtain⟨-,ap,-,-,aq⟩:=c.1.cells;have ar:=aq 1;have au:=c.1.dOwn;have M:=c.1.lt;have aw:=vl <| zN c.1.dOwn c.1.blk (by decide);apply wp_cut;intro m b;go_wp2_with (first|(at_builtin;refine wpList_append_lies _ rfl _ _ 112 rfl (S+1) 233 ab (agg #[string ⟨#[]⟩,pointer none]) 2 24 underlying112 ac ad ae af rfl (by decide) _ _ _ rfl (au.alloc _) ⟨o.heap.size,0,none⟩ 1 1 [string a,pX p] rfl rfl (news_of_block (cs:=#[string a,pX p]) (t:=233) (fr:=(0,0)) (gY o _)) (by simp[Value.oneCell']) (by decide) (by unfold maxLen;omega) (by omega) (by simp;omega) _ rfl ?_;intro ax cap ay az N aA aM;have O:=N.block S (by simp;omega) aw;have aN:=(gW O).trans ((gU _ _ _ M).trans ap);have aO:=(gV O).trans ((frozen?_alloc_past _ _ _ M).trans ar)))
 apply b.out;obtain⟨z,aB,P⟩:∃z,z=ay.setCell ⟨S,1,none⟩ (slice (qX ax) (sh.defs.length+1) cap)/\Hid (SwIs z S (D+2+4*s.size) (sh.addDef a t)/\Keep S S w z):=by
  obtain⟨aC,q2⟩:=c.1.appDef c.2.1 az N (by rcases aA with G|G;exact .inl G;right;rw[G];simp);exact⟨_,rfl,⟨y,r,_,g,j,rv,k,_,aC⟩,c.2.2.trans ((q2.keep c.1.dOwn c.1.lt).lower (Nat.le_succ S) (Nat.le_refl S))⟩
 rw[<-aB];go_wp2;go_ret;exact⟨P.2,rfl,P.1⟩
theorem zFP (w:World)(X:Nat->Prop)(S D:Nat)(sh:Sh)(c dv d f:Value)(rv:Nat->Value)(i:Nat->List Nat)(j:Nat->Nat)(k:Sw w X S D sh c dv d f rv i j)(ok:ShOk sh D)(s:ByteArray)(a:s.size<=1000):
  Calls prog 121 #[pX S,string s] w (LnAns w S (D+2+4*s.size) (vR sh s)):=by
 have l:=lY (zDQ s 32) a;have m:=lY (jE s 32) a;have hcut:∀w,Calls prog 86 #[string s,int .u8 32] w λe w'=>e=returned (tuple #[string (yP s 32),string (qK s 32),bool (zAb s 32)])/\Grew w w':=λw=>zCl w s (by omega) 32;have no:=zMf w X S D sh c dv d f rv i j k ok s a _ _ _ l m hcut;unfold vR;cases o:zAb s 32 with
 |false=>exact no λg=>by rw[o] at g;exact Bool.noConfusion g.1
 |true=>
 rw[if_pos rfl];by_cases b:4<=sh.defs.length
 ·rw[if_pos b]
  exact no λg=>g.2.1 b
 rw[if_neg b];cases p:sh.hasDefB (yP s 32) with
 |true=>exact no λg=>by rw[p] at g;exact Bool.noConfusion g.2.2.1
 |false=>
 rw[if_neg (by decide)];cases q:xI (yP s 32) with
 |false=>exact no λg=>by rw[q] at g;exact Bool.noConfusion g.2.2.2.1
 |true=>
 rw[if_pos rfl];cases r:vN (qK s 32) sh.defs with
 |none=>exact no λg=>by obtain⟨t,u⟩:=g.2.2.2.2;rw[r] at u;cases u
 |some t=>exact zOC w X S D sh c dv d f rv i j k ok s a _ _ _ l m hcut (jE s 32) o b p q t r
def qW (sh:Sh)(nm s:ByteArray):Option Sh:=
 if zAb s 32 then if sh.modes.length=0 then none else if 8<=sh.acts.length then none else if xI nm then(if (zA3 (yP s 32)).ok then(match vN (qK s 32) sh.defs with
  |none=>none
  |some t=>some (((sh.addAct (zA3 (yP s 32)).act).addPush (zA3 (yP s 32)).name).addRule (sh.modes.length-1) t)) else none) else none else none
theorem zH1 (w:World)(X:Nat->Prop)(S D:Nat)(sh:Sh)(L dv M N:Value)(rv:Nat->Value)(r:Nat->List Nat)(u:Nat->Nat)(a:Sw w X S D sh L dv M N rv r u)(ok:ShOk sh D)(c s:ByteArray)(ao:s.size<=1000)(aq:c.size<=1000)(d b:ByteArray)(j:Bool)(ar:d.size<=1000)(au:b.size<=1000)(hcut:∀w,Calls prog 86 #[string s,int .u8 32] w λe w'=>e=returned (tuple #[string d,string b,bool j])/\Grew w w')(O:¬(j=true/\¬sh.modes.length=0/\¬8<=sh.acts.length/\xI c=true/\(zA3 d).ok=true/\∃t,vN b sh.defs=some t)):
  Calls prog 122 #[pX S,string c,string s] w (LnAns w S (D+2+4*s.size) (none)):=by
 obtain⟨P,Q,R⟩:=zI a.mOwn;obtain⟨v,x,T⟩:=zI a.dOwn;obtain⟨U,V,W⟩:=zI a.aOwn;obtain⟨Y,ab,ae⟩:=zI a.pOwn;subst R T W ae;have y:=a.lt;have z:Hid (∀w1,Grew w w1->Keep S S w w1):=λw1 f=>f.lower (Nat.le_of_lt y) (Nat.le_of_lt y);have g:Hid (∀w1,Grew w w1->Sw w1 X S D sh (slice P sh.modes.length Q) (slice v sh.defs.length x) (slice U sh.acts.length V) (slice Y sh.pushed.length ab) rv r u):=λw1 f=>a.grown f;have C:=vl λw1 w2=>zBr (w:=w) (w1:=w1) (w2:=w2);have af:=vl (hcut w);have k:=vl ok;have aw:=ok.modes;have ax:=ok.acts;have l:=Nat.eq_zero_or_pos sh.modes.length;have m:=Nat.lt_or_ge sh.acts.length 8;have E:=vl λw=>vL w c (by omega);have F:=vl λw=>zCo w d (by omega);have G:=vl λ(w2:World) (f:Grew w w2)=>jR w2 X b (slice v sh.defs.length x) (by omega) D sh.defs ((g w2 f).defsIn k.names) (by have:=k.defs;omega) k.trees;generalize zA3 d=ag at *;go_in;rcases j with _|_;rotate_left;rcases l with l|l;rotate_left;rcases m with m|m;rcases H:xI c with _|_;rotate_left;rcases I:ag.ok with _|_;rcases o:vN b sh.defs with _|t;rotate_left 2;rcases o:vN b sh.defs with _|t;rotate_left
 ·exact absurd ⟨rfl,by omega,by omega,H,I,t,o⟩ O
 all_goals
  try rw[H] at E
  try rw[I] at F
  try rw[o] at G
  try have ah:((sh.modes.length:Int)-1)<0:=by omega
  try have ah:¬((sh.modes.length:Int)-1)<0:=by omega
  try have ai:(sh.acts.length:Int)<8:=by omega
  try have ai:(8:Int)<=(sh.acts.length:Int):=by omega
  go_wp2_with (first|(go_at_call 86;refine af.mono ?_;rintro e w1 ⟨rfl,i⟩;have ay:=(g w1 i).cells.1;have az:=(g w1 i).cells.2.2.1)|(go_at_call 160;refine(E _).mono ?_;rintro e aA ⟨rfl,aj⟩;have ak:=aj.symm;subst ak)|(go_at_call 163;refine(F w1).mono ?_;rintro e w2 ⟨rfl,al⟩;have q:=vl <| C _ _ i al;have aB:=(g w2 q).cells.2.1)|(go_at_call 162;refine(G w2 q).mono ?_;first|rintro e an ⟨J,rfl⟩|rintro e an ⟨J,p,rfl,aC⟩))
  go_ret
  first|exact⟨z _ (C _ _ q J),rfl⟩|exact⟨z _ i,rfl⟩
section
attribute [local go_sem ↓] Go.wp_at_zero Go.wp_at_succ
theorem zN0 (w:World)(X:Nat->Prop)(S D:Nat)(sh:Sh)(bc dv bd be:Value)(rv:Nat->Value)(H:Nat->List Nat)(T:Nat->Nat)(N:Sw w X S D sh bc dv bd be rv H T)(ok:ShOk sh D)(ae s:ByteArray)(bV:s.size<=1000)(bW:ae.size<=1000)(af O:ByteArray)(aT:Bool)(bX:af.size<=1000)(bY:O.size<=1000)(hcut:∀w,Calls prog 86 #[string s,int .u8 32] w λe w'=>e=returned (tuple #[string af,string O,bool aT])/\Grew w w')(bZ:O.size<=s.size)(bf:aT=true)(k:Nat)(P:sh.modes.length=k+1)(bg:(sh.mode k).2.length<=1000000)(bh:¬8<=sh.acts.length)(aU:xI ae=true)(b:Ac)(aV:zA3 af=b)(aW:b.ok=true)(t:Tr)(aX:vN O sh.defs=some t):
  Calls prog 122 #[pX S,string ae,string s] w (LnAns w S (D+2+4*s.size) (some (((sh.addAct b.act).addPush b.name).addRule k t))):=by
 obtain⟨ag,U,bi⟩:=zI N.mOwn;obtain⟨V,W,bj⟩:=zI N.dOwn;obtain⟨ah,ai,bk⟩:=zI N.aOwn;obtain⟨aj,ak,bl⟩:=zI N.pOwn;subst bi bj bk bl;have aM:S<w.heap.size:=N.lt;have bm:Hid (∀w1,Grew w w1->Keep S S w w1):=λw1 P=>P.lower (Nat.le_of_lt aM) (Nat.le_of_lt aM);have al:Hid (∀w1,Grew w w1->Sw w1 X S D sh (slice ag sh.modes.length U) (slice V sh.defs.length W) (slice ah sh.acts.length ai) (slice aj sh.pushed.length ak) rv H T):=λw1 P=>N.grown P;have aY:=vl λw1 w2=>zBr (w:=w) (w1:=w1) (w2:=w2);have bn:=vl (hcut w);have aC:=vl ok;have b0:=ok.modes;have b1:=ok.acts;subst bf;have b3:¬((k:Int))<0:=by omega
 have bo:Hid (((sh.modes.length:Int)-1)=(k:Int)):=by show _=_;omega
 have an:k<sh.modes.length:=by omega
 have b4:(k:Int)<(sh.modes.length:Int):=by omega
 have bp:Hid (0<sh.modes.length):=by show 0<_;omega
 clear P;obtain⟨aN,aD,aE,aF,aG⟩:=info_parts yL;have b5:(sh.acts.length:Int)<8:=by omega
 clear bh;have bq:Hid (∀w,Ca 160 #[string ae] w λe w'=>e=returned (bool true)/\w'=w):=λw=>by have:=vL w ae (by omega);rw[aU] at this;exact this
 have br:Hid (∀w,Ca 163 #[string af] w λe w'=>e=returned (tuple #[iX (b.act:Int),string b.name,bool true])/\Grew w w'):=λw=>by have:=zCo w af (by omega);rw[aV,aW] at this;exact this
 have bs:Hid (∀w2,Grew w w2->Ca 162 #[string O,slice V sh.defs.length W] w2 (zHt w2 X (D+2+4*O.size) (some t))):=λw2 P=>by have:=jR w2 X O _ (by omega) D sh.defs ((al w2 P).defsIn aC.names) (by have:=aC.defs;omega) aC.trees;rw[aX] at this;exact this
 clear aU aV aW aX;clear N aM hcut ok;go_in;apply wp_cut;intro C a;go_wp2;apply a.out;clear a;apply wp_cut;intro C a;go_wp2_with (first|(go_at_call 86;refine bn.mono ?_;rintro e w1 ⟨rfl,aH⟩;have bt:cX w1 S 0=some (slice ag sh.modes.length U):=(al w1 aH).cells.1;have bu:cX w1 S 2=some (slice ah sh.acts.length ai):=(al w1 aH).cells.2.2.1))
 apply a.out;clear a;apply wp_cut;intro C a;go_wp2;apply a.out;clear a;rw[bo.out];apply wp_cut;intro C a;go_wp2_with (first|(go_at_call 160;refine(bq _).mono ?_;rintro e ao ⟨rfl,aI⟩;have bv:=aI.symm;subst bv))
 apply a.out;clear a;apply wp_cut;intro C a;go_wp2_with (first|(go_at_call 163;refine(br w1).mono ?_;rintro e w2 ⟨rfl,aZ⟩;have aJ:=vl <| aY _ _ aH aZ;have bw:cX w2 S 1=some (slice V sh.defs.length W):=(al w2 aJ).cells.2.1))
 apply a.out;clear a;clear bt bu aH aZ;apply wp_cut;intro C a;go_wp2_with (first|(go_at_call 162;refine(bs w2 aJ).mono ?_;rintro e ab ⟨aO,p,rfl,a0⟩))
 apply a.out;clear a;apply wp_cut;intro C a;go_wp2;apply a.out;clear a;obtain⟨I,f⟩:∃I,Hid (Sw ab I S (D+2+4*s.size) sh (slice ag sh.modes.length U) (slice V sh.defs.length W) (slice ah sh.acts.length ai) (slice aj sh.pushed.length ak) rv H T/\TreeIn I ab (D+2+4*s.size) p t/\Keep S S w ab):=by
  refine⟨_,((al w2 aJ).more aO).deep (by omega),(TreeIn.deep a0 (by omega)).mono λi bx aq=>?_,bm _ (aY _ _ aJ aO)⟩;rcases aq with aq|aq
  ·exact .inl aq.1
  ·exact .inr ⟨aq,bx⟩
 clear bw aO a0;obtain⟨-,-,ar,-,au⟩:=f.1.cells;have aw:=au 2;have E:ab.ownsRow (S+1) 3 1 (slice ah sh.acts.length ai) sh.acts.length (sh.acts.map λx:Nat=>iX (x:Int)):=f.1.aOwn;have Q:S<ab.heap.size:=f.1.lt;have ax:=vl <| zN f.1.aOwn f.1.blk (by decide);clear au;apply wp_cut;intro C a;go_wp2_with (first|(at_builtin;refine wpList_append_lies _ rfl _ _ 45 rfl (S+1) 3 aN (iX 0) 1 8 underlying45 aD aE aF aG rfl (by decide) _ _ _ rfl (E.alloc _) ⟨ab.heap.size,0,none⟩ 1 1 [iX (b.act:Int)] rfl rfl (cell_one_new _ _ _) (by intro u ay;simp at ay;subst ay;rfl) (by decide) (by unfold maxLen;omega) (by omega) (by simp;omega) _ rfl ?_;intro d cap R J m L az;have r:=m.block S (by simp;omega) ax;have aP:cX R S 2=some (slice ah sh.acts.length ai):=(gW r).trans ((gU _ _ _ Q).trans ar);have aQ:R.frozen? ⟨S,2,none⟩=false:=(gV r).trans ((frozen?_alloc_past _ _ _ Q).trans aw)))
 apply a.out;clear a;obtain⟨M,a1,aK,g⟩:∃M,M=R.setCell ⟨S,2,none⟩ (slice (qX d) (sh.acts.length+1) cap)/\∃aK,Hid (Sw M I S (D+2+4*s.size) (sh.addAct b.act) (slice ag sh.modes.length U) (slice V sh.defs.length W) aK (slice aj sh.pushed.length ak) rv H T/\TreeIn I M (D+2+4*s.size) p t/\Keep S S w M):=by
  obtain⟨aA,q2⟩:=f.1.appAct (x:=b.act) J m (by rcases L with l|l;exact .inl l;right;rw[l];simp);exact⟨_,rfl,_,aA,vX q2 f.2.1 (λq aB=>⟨Nat.ne_of_gt (f.1.xlt q aB).1,(f.1.xm q aB).2.2.1⟩),f.2.2.trans ((q2.keep f.1.aOwn f.1.lt).lower (Nat.le_succ S) (Nat.le_refl S))⟩
 rw[<-a1];clear a1 J m L az r aP aQ E ax Q ar aw f;obtain⟨-,-,-,ar,au⟩:=g.1.cells;have aw:=au 3;have E:M.ownsRow (S+1) 9 1 (slice aj sh.pushed.length ak) sh.pushed.length (sh.pushed.map λx=>string x):=g.1.pOwn;have Q:S<M.heap.size:=g.1.lt;have ax:=vl <| zN g.1.pOwn g.1.blk (by decide);have b6:sh.pushed.length<=8:=by have:=aC.same;omega
 clear au;obtain⟨aN,aD,aE,aF,aG⟩:=info_parts zKe;apply wp_cut;intro C a;go_wp2_with (first|(at_builtin;refine wpList_append_lies _ rfl _ _ 108 rfl (S+1) 9 aN (string ⟨#[]⟩) 1 16 underlying108 aD aE aF aG rfl (by decide) _ _ _ rfl (E.alloc _) ⟨M.heap.size,0,none⟩ 1 1 [string b.name] rfl rfl (cell_one_new _ _ _) (by intro u ay;simp at ay;subst ay;rfl) (by decide) (by unfold maxLen;omega) (by omega) (by simp;omega) _ rfl ?_;intro d cap R J m L az;have r:=m.block S (by simp;omega) ax;have aP:cX R S 3=some (slice aj sh.pushed.length ak):=(gW r).trans ((gU _ _ _ Q).trans ar);have aQ:R.frozen? ⟨S,3,none⟩=false:=(gV r).trans ((frozen?_alloc_past _ _ _ Q).trans aw)))
 apply a.out;clear a;obtain⟨c,a2,aR,v⟩:∃c,c=R.setCell ⟨S,3,none⟩ (slice (qX d) (sh.pushed.length+1) cap)/\∃aR,Hid (Sw c I S (D+2+4*s.size) ((sh.addAct b.act).addPush b.name) (slice ag sh.modes.length U) (slice V sh.defs.length W) aK aR rv H T/\TreeIn I c (D+2+4*s.size) p t/\Keep S S w c):=by
  obtain⟨aA,q2⟩:=g.1.appPush (x:=b.name) J m (by rcases L with l|l;exact .inl l;right;rw[l];simp);exact⟨_,rfl,_,aA,vX q2 g.2.1 (λq aB=>⟨Nat.ne_of_gt (g.1.xlt q aB).1,(g.1.xm q aB).2.2.2⟩),g.2.2.trans ((q2.keep g.1.pOwn g.1.lt).lower (Nat.le_succ S) (Nat.le_refl S))⟩
 rw[<-a2];clear a2 J m L az r aP aQ E ax Q ar aw g aD aE aF aG;obtain⟨bz,bA,bB,bC,bD⟩:=info_parts zDK;obtain⟨y,b7,bE,-,a3,-,-,a4,a5⟩:=qY v.1.mOwn (show 0<((sh.addAct b.act).addPush b.name).modes.length from bp);injection bE with bF bG bH;subst bF bH;clear bG;obtain⟨F,G,aL⟩:=zI (v.1.rOwn k an);have bI:cX c y (k*2+1)=some (slice F (sh.mode k).2.length G):=by
  have a6:=(zA6 (λi=>string (((sh.addAct b.act).addPush b.name).mode i).1) rv sh.modes.length k an).2;rw[aL] at a6;exact a4 _ _ a6
 have bJ:=a5 (k*2+1);obtain⟨bK,-,-,-,-⟩:=v.1.cells;have aS:=v.1.rOwn k an;rw[aL] at aS;have E:c.ownsRow (S+1) 158 1 (slice F (sh.mode k).2.length G) (sh.mode k).2.length (xU (H k)):=aS;have bL:=vl <| xA v.1.mOwn E (by decide) y rfl;have bM:Hid (rv k=slice F (sh.mode k).2.length G):=aL;have b8:(sh.mode k).2.length<=1000000:=bg;have a7:y<c.heap.size:=a3;have b9:S+1<=c.heap.size:=v.1.lt;clear a4 a5 aL aS a3;generalize bN:(sh.mode k).2.length=o at *;have a8:some S≠(Value.slice F o G).ownBlock:=λe=>by have:=(E.lt S e.symm).1;omega
 have bO:Hid (some S≠(Value.slice F o G).ownBlock):=a8;have bP:S<c.heap.size:=by omega
 clear a8;have bQ:Hid (∀d cap z,z.ownsRow (S+1) 158 1 (slice (qX d) (o+1) cap) (o+1) (xU (H k)++[pX p])->(c.drew.alloc (Obj.cells #[pX p] 158)).grownBy z (Value.slice F o G).ownBlock->((Value.slice F o G).ownBlock=some d\/c.heap.size<=d)->SwIs (z.setCell ⟨y,k*2+1,none⟩ (slice (qX d) (o+1) cap)) S (D+2+4*s.size) (((sh.addAct b.act).addPush b.name).addRule k t)/\Keep S S w (z.setCell ⟨y,k*2+1,none⟩ (slice (qX d) (o+1) cap))):=λd cap z bR a9 l=>by
  subst bN;rw[<-bM.out] at a9 l;have cb:=(v.1.mOwn.lt y rfl).1;obtain⟨aA,q2⟩:=Sw.appRule (w:=c.drew) (sh:=(sh.addAct b.act).addPush b.name) (v.1.grown (Keep.drew _)) an (v.2.1.go ⟨rfl,rfl,lQ,λ_ _ _=>rfl⟩) bR a9 l;refine⟨⟨I,_,_,aK,aR,_,_,T,aA⟩,v.2.2.trans ⟨q2.os,q2.output,q2.size,λj cc _=>?_⟩⟩;exact(q2.block j (by show j<c.heap.size;omega) (by omega) λe=>by have:=((v.1.rOwn k an).lt j e.symm).1;omega).1
 apply wp_cut;intro C a;go_region_law ((refine step_append_lies _ (by rfl) (.tmp 100) (.tmp 102) 118 (by rfl) (S+1) 158 bz _ 1 8 underlying118 bA bB bC bD rfl (by decide) (slice F o G) o (xU (H k)) (by simp[Act.eval,Act.put]) ((E.alloc _).drew) ⟨c.heap.size,0,none⟩ 1 1 [pX p] (by simp[Act.eval,Act.put]) (by rfl) (news_of_block (cs:=#[pX p]) (t:=158) (fr:=(0,0)) (gY c _)) (by simp[Value.oneCell']) (by decide) (by unfold maxLen;omega) (by omega) (by simp;omega) (c.heap.size+1) (by simp) ?_;intro d cap z J m L az;have r:=m.block y (by simp;omega) bL;have bS:cX z y (k*2+1)=some (slice F o G):=(gW r).trans ((gU _ _ _ a7).trans bI);have bT:z.frozen? ⟨y,k*2+1,none⟩=false:=(gV r).trans ((frozen?_alloc_past _ _ _ a7).trans bJ);have ba:=m.block S (by simp;omega) bO;have bU:cX z S 0=some (slice (qX y) sh.modes.length U):=(gW ba).trans ((gU _ _ _ bP).trans bK)))
 all_goals
  obtain⟨ao,aI,bb⟩:∃ao,ao=z.setCell ⟨y,k*2+1,none⟩ (slice (qX d) (o+1) cap)/\Hid (SwIs ao S (D+2+4*s.size) (((sh.addAct b.act).addPush b.name).addRule k t)/\Keep S S w ao):=⟨_,rfl,bQ d cap z J m (by rcases L with l|l;exact .inl l;right;show c.heap.size<=d;omega)⟩
  rw[<-aI];clear aI J m L az r bS bT ba bU;show C _ _;apply a.out;clear a;go_wp2;go_ret;exact⟨bb.2,rfl,bb.1⟩
theorem zEW (w:World)(X:Nat->Prop)(S D:Nat)(sh:Sh)(d dv f i:Value)(rv:Nat->Value)(j:Nat->List Nat)(l:Nat->Nat)(o:Sw w X S D sh d dv f i rv j l)(ok:ShOk sh D)(A:∀k,k<sh.modes.length->(sh.mode k).2.length<=1000000)(a s:ByteArray)(b:s.size<=1000)(p:a.size<=1000):
  Calls prog 122 #[pX S,string a,string s] w (LnAns w S (D+2+4*s.size) (qW sh a s)):=by
 have q:=lY (zDQ s 32) b;have r:=lY (jE s 32) b;have hcut:∀w,Calls prog 86 #[string s,int .u8 32] w λe w'=>e=returned (tuple #[string (yP s 32),string (qK s 32),bool (zAb s 32)])/\Grew w w':=λw=>zCl w s (by omega) 32;have no:=zH1 w X S D sh d dv f i rv j l o ok a s b p _ _ _ q r hcut;unfold qW;cases u:zAb s 32 with
 |false=>exact no λg=>by rw[u] at g;exact Bool.noConfusion g.1
 |true=>
 rw[if_pos rfl];by_cases m:sh.modes.length=0
 ·rw[if_pos m]
  exact no λg=>g.2.1 m
 rw[if_neg m];by_cases c:8<=sh.acts.length
 ·rw[if_pos c]
  exact no λg=>g.2.2.1 c
 rw[if_neg c];cases v:xI a with
 |false=>exact no λg=>by rw[v] at g;exact Bool.noConfusion g.2.2.2.1
 |true=>
 rw[if_pos rfl];cases x:(zA3 (yP s 32)).ok with
 |false=>exact no λg=>by rw[x] at g;exact Bool.noConfusion g.2.2.2.2.1
 |true=>
  rw[if_pos rfl];cases y:vN (qK s 32) sh.defs with
  |none=>exact no λg=>by obtain⟨t,z⟩:=g.2.2.2.2.2;rw[y] at z;cases z
  |some t=>exact zN0 w X S D sh d dv f i rv j l o ok a s b p _ _ _ q r hcut (jE s 32) u (sh.modes.length-1) (by omega) (A _ (by omega)) c v _ rfl x t y
end
def xX (sh:Sh)(s:ByteArray):Option Sh:=if zAb s 32 then(if eqS (yP s 32) ⟨#[109,111,100,101]⟩ then yK sh (qK s 32) else if eqS (yP s 32) ⟨#[108,101,116]⟩ then vR sh (qK s 32) else qW sh (yP s 32) (qK s 32)) else none
def vU (sh:Sh):Prop:=∀i,i<sh.modes.length->(sh.mode i).2.length<=sh.acts.length
theorem SwIs.deep {w:World}{S D b:Nat}{sh:Sh}(a:SwIs w S D sh)(c:D<=b):SwIs w S b sh:=by
 obtain⟨X,d,dv,e,f,rv,g,i,a⟩:=a;exact⟨X,d,dv,e,f,rv,g,i,a.deep c⟩
theorem LnAns.deep {w w':World}{S D c:Nat}{a:Option Sh}{e:Ending}(b:LnAns w S D a e w')(d:D<=c):LnAns w S c a e w':=by
 refine⟨b.1,?_⟩;cases a with
 |none=>exact b.2
 |some sh=>exact⟨b.2.1,b.2.2.deep d⟩
theorem LnAns.from {w w1 w':World}{S D:Nat}{a:Option Sh}{e:Ending}(b:LnAns w1 S D a e w')(c:Keep S S w w1):LnAns w S D a e w':=⟨c.trans b.1,b.2⟩
theorem zEY (w:World)(X:Nat->Prop)(S D:Nat)(sh:Sh)(F dv G H:Value)(rv:Nat->Value)(l:Nat->List Nat)(m:Nat->Nat)(o:Sw w X S D sh F dv G H rv l m)(ok:ShOk sh D)(few:vU sh)(s:ByteArray)(v:s.size<=1000):
  Calls prog 87 #[pX S,string s] w (LnAns w S (D+2+4*s.size) (xX sh s)):=by
 have I:=lY (zDQ s 32) v;have J:=jE s 32;have y:=lY J v;have p:=vl <| zCl w s (by omega) 32;have c:Hid (xX sh s=if zAb s 32 then(if eqS (yP s 32) ⟨#[109,111,100,101]⟩ then yK sh (qK s 32) else if eqS (yP s 32) ⟨#[108,101,116]⟩ then vR sh (qK s 32) else qW sh (yP s 32) (qK s 32)) else none):=rfl;have z:=o.lt;have q:Hid (∀w1,Grew w w1->Keep S S w w1):=λw1 b=>b.lower (Nat.le_of_lt z) (Nat.le_of_lt z);generalize xX sh s=U at *;generalize zAb s 32=L at *;have M:Hid (∀w1,Grew w w1->Ca 120 #[pX S,string (qK s 32)] w1 (LnAns w S (D+2+4*s.size) (yK sh (qK s 32)))):=λw1 b=>(zEX w1 X S D sh _ _ _ _ rv l m (o.grown b) (by have:=ok.modes;omega) (qK s 32) (by omega)).mono λe w2 a=>(a.from (q w1 b)).deep (by omega);have N:Hid (∀w1,Grew w w1->Ca 121 #[pX S,string (qK s 32)] w1 (LnAns w S (D+2+4*s.size) (vR sh (qK s 32)))):=λw1 b=>(zFP w1 X S D sh _ _ _ _ rv l m (o.grown b) ok (qK s 32) y).mono λe w2 a=>(a.from (q w1 b)).deep (by omega);have O:Hid (∀w1,Grew w w1->Ca 122 #[pX S,string (yP s 32),string (qK s 32)] w1 (LnAns w S (D+2+4*s.size) (qW sh (yP s 32) (qK s 32)))):=λw1 b=>(zEW w1 X S D sh _ _ _ _ rv l m (o.grown b) ok (λk P=>by have:=few k P;have:=ok.acts;omega) (yP s 32) (qK s 32) y I).mono λe w2 a=>(a.from (q w1 b)).deep (by omega);generalize yP s 32=d at *;generalize qK s 32=u at *;have C:(⟨#[109,111,100,101]⟩:ByteArray).toList=[109,111,100,101]:=by rw[ByteArray.toList_eq]
 have E:(⟨#[108,101,116]⟩:ByteArray).toList=[108,101,116]:=by rw[ByteArray.toList_eq]
 cases L with
 |false=>
  have f:=vl c;rw[f.out];go_in;go_wp2_with (first|(go_at_call 86;refine p.mono ?_;rintro e w1 ⟨rfl,g⟩))
  go_ret;exact⟨q _ g,rfl⟩
 |true=>
 cases r:eqS d ⟨#[109,111,100,101]⟩ with
 |true=>
  rw[r] at c;have f:=vl c;have Q:(d.toList==[109,111,100,101])=true:=by rw[<-C];exact r
  rw[f.out];generalize yK sh u=i at *;go_in;go_wp2_with (first|(go_at_call 86;refine p.mono ?_;rintro e w1 ⟨rfl,g⟩)|(go_at_call 120;refine(M w1 g).mono ?_;intro e w2 a;obtain⟨v2,j⟩:∃v2,e=returned (bool v2):=(by have:=a.2;cases i with|none=>exact⟨false,this⟩|some x=>exact⟨true,this.1⟩);subst j))
  go_ret;exact a
 |false=>
 have Q:(d.toList==[109,111,100,101])=false:=by rw[<-C];exact r
 rw[r] at c;cases t:eqS d ⟨#[108,101,116]⟩ with
 |true=>
  rw[t] at c;have f:=vl c;have T:(d.toList==[108,101,116])=true:=by rw[<-E];exact t
  rw[f.out];generalize vR sh u=i at *;go_in;go_wp2_with (first|(go_at_call 86;refine p.mono ?_;rintro e w1 ⟨rfl,g⟩)|(go_at_call 121;refine(N w1 g).mono ?_;intro e w2 a;obtain⟨v2,j⟩:∃v2,e=returned (bool v2):=(by have:=a.2;cases i with|none=>exact⟨false,this⟩|some x=>exact⟨true,this.1⟩);subst j))
  go_ret;exact a
 |false=>
  rw[t] at c;have f:=vl c;have T:(d.toList==[108,101,116])=false:=by rw[<-E];exact t
  rw[f.out];generalize qW sh d u=i at *;go_in;go_wp2_with (first|(go_at_call 86;refine p.mono ?_;rintro e w1 ⟨rfl,g⟩)|(go_at_call 122;refine(O w1 g).mono ?_;intro e w2 a;obtain⟨v2,j⟩:∃v2,e=returned (bool v2):=(by have:=a.2;cases i with|none=>exact⟨false,this⟩|some x=>exact⟨true,this.1⟩);subst j))
  go_ret;exact a
end Go.Proofs.YtbjcfkdnjaiclaaGreat
