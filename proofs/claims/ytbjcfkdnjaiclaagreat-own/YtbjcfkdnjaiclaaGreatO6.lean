import Derived.Deep.DrawnRows
import Derived.Deep.RegionHeld3
import Derived.Deep.RegionLaw
import Derived.Laws.AppendOwnNone
import Derived.ProofKit
import Derived.Test.YtbjcfkdnjaiclaaGreatRows
import Derived.Test.YtbjcfkdnjaiclaaGreatO0
import Derived.Test.YtbjcfkdnjaiclaaGreatO1
import Derived.Test.YtbjcfkdnjaiclaaGreatO2
import Derived.Test.YtbjcfkdnjaiclaaGreatO4
import Derived.Test.YtbjcfkdnjaiclaaGreatO5
/- Parts of the proof. -/
set_option linter.unusedVariables false
set_option linter.unusedSimpArgs false
set_option maxHeartbeats 4000000
set_option maxRecDepth 100000
namespace Go.Proofs.YtbjcfkdnjaiclaaGreat
open Go.RowKit Go.Proofs.Tryz Go.World
open Go.Value (int slice bool pointer string agg tuple)
open Go.IntKind (i64)
open Go.Ending (returned)
def Sh.addRule (sh:Sh)(k:Nat)(t:Tr):Sh:={sh with modes:=sh.modes.set k ((sh.mode k).1,(sh.mode k).2++[t])}
theorem zES (sh:Sh)(k:Nat)(t:Tr):(sh.addRule k t).modes.length=sh.modes.length:=by unfold Sh.addRule;simp
theorem zAD (sh:Sh)(k:Nat)(t:Tr)(i:Nat)(a:i≠k):(sh.addRule k t).mode i=sh.mode i:=by
 unfold Sh.addRule
 conv=>lhs;unfold Sh.mode
 conv=>rhs;unfold Sh.mode
 rw[lW,lW];show((sh.modes.set k _)[i]?).getD _=_;rw[List.getElem?_set_ne (Ne.symm a),lW]
theorem zBi (sh:Sh)(k:Nat)(t:Tr)(a:k<sh.modes.length):(sh.addRule k t).mode k=((sh.mode k).1,(sh.mode k).2++[t]):=by
 unfold Sh.addRule
 conv=>lhs;unfold Sh.mode
 rw[lW];show((sh.modes.set k _)[k]?).getD _=_;rw[List.getElem?_set_self a];rfl
theorem zIr (sh:Sh)(k:Nat)(t:Tr)(a:k<sh.modes.length)(i:Nat):((sh.addRule k t).mode i).1=(sh.mode i).1:=by
 by_cases e:i=k
 ·subst e;rw[zBi sh i t a]
 ·rw[zAD sh k t i e]
theorem Sw.appRule {w w2:World}{X:Nat->Prop}{S D:Nat}{sh:Sh}{dv O P:Value}{rv:Nat->Value}{p:Nat->List Nat}{R:Nat->Nat}{o:Obj}{g cap m T k x:Nat}{t:Tr}(a:Sw w X S D sh (slice (qX m) sh.modes.length T) dv O P rv p R)(r:k<sh.modes.length)(G:TreeIn X w D x t)(ad:w2.ownsRow (S+1) 158 1 (slice (qX g) ((sh.mode k).2.length+1) cap) ((sh.mode k).2.length+1) (yI (p k)++[pX x]))(B:(w.alloc o).grownBy w2 (rv k).ownBlock)(U:(rv k).ownBlock=some g\/w.heap.size<=g):
  Sw (w2.setCell ⟨m,k*2+1,none⟩ (slice (qX g) ((sh.mode k).2.length+1) cap)) X S D (sh.addRule k t) (slice (qX m) sh.modes.length T) dv O P (λi=>if i=k then slice (qX g) ((sh.mode k).2.length+1) cap else rv i) (λi=>if i=k then p k++[x] else p i) R/\KeepO m (rv k) (slice (qX g) ((sh.mode k).2.length+1) cap) w (w2.setCell ⟨m,k*2+1,none⟩ (slice (qX g) ((sh.mode k).2.length+1) cap)):=by
 have V:=a.lt;have aq:=a.mOwn.lt m rfl;have W:=xF a.mOwn (a.rOwn k r) (by decide) m rfl;have ae:w.heap.size<=w2.heap.size:=lY (by simp) B.size;have af:g≠m:=λe=>by
  rcases U with y|y
  ·exact W (by rw[y,e])
  ·omega
 have Y:∀j,j<w.heap.size->some j≠(rv k).ownBlock->w2.heap[j]? =w.heap[j]? :=λj s ag=>(B.block j (by simp;omega) ag).trans (lG _ _ _ s);have u:KeepO m (rv k) (slice (qX g) ((sh.mode k).2.length+1) cap) w (w2.setCell ⟨m,k*2+1,none⟩ (slice (qX g) ((sh.mode k).2.length+1) cap)):=⟨B.os,B.output,by rw[zD];exact ae,λj H C aa=>⟨(lJ _ _ _ _ C).trans (Y j H aa),λe=>by
  have l:j=g:=by simpa[Value.ownBlock] using e
  rcases U with y|y
  ·exact aa (by rw[y,l])
  ·omega⟩⟩
 have E:∀{e ah n v xs},w.ownsRow (S+1) e ah v n xs->e≠120->∀q,v.ownBlock=some q->q≠m:=λai aj q c l=>xF ai a.mOwn aj q c (by rw[l];rfl);have ak:=zCB u a.dOwn (E a.dOwn (by decide)) (xF a.dOwn (a.rOwn k r) (by decide));have al:=zCB u a.aOwn (E a.aOwn (by decide)) (xF a.aOwn (a.rOwn k r) (by decide));have am:=zCB u a.pOwn (E a.pOwn (by decide)) (xF a.pOwn (a.rOwn k r) (by decide));have I:=λi (f:i<sh.modes.length) (hik:i≠k)=>zCB u (a.rOwn i f) (E (a.rOwn i f) (by decide)) (λq c=>a.rApart i k q f r hik c);have J:∀q,X q->q≠m/\some q≠(rv k).ownBlock:=λq c=>⟨λe=>(a.xm q c).1 (by rw[e];rfl),a.xr q k c r⟩
 have F:∀K b t,TreeIn X w K b t->TreeIn X (w2.setCell ⟨m,k*2+1,none⟩ (slice (qX g) ((sh.mode k).2.length+1) cap)) K b t:=λK b t G=>jT u G J;have A:=zES sh k t;refine⟨⟨?_,?_,ak.1,al.1,am.1,λi f=>?_,λi j q f s ab c=>?_,λi f j s=>?_,λi f=>F _ _ _ (a.dTree i f),λq c=>⟨(a.xlt q c).1,lZ (a.xlt q c).2 u.size⟩,a.xm,λq i c f=>?_,lZ V u.size⟩,u⟩
 ·exact(u.block S V (by omega) λe=>by have:=((a.rOwn k r).lt S e.symm).1;omega).1.trans a.blk
 ·have H:=zE a.mOwn λq _ c L=>Y q c (by
   have e:m=q:=by simpa[Value.ownBlock] using L
   rw[<-e];exact W)
  have C:=H.stored (k*2+1) (slice (qX g) ((sh.mode k).2.length+1) cap);rw[zMs _ _ _ _ _ r] at C;rw[A,zBd (λi=>string ((sh.addRule k t).mode i).1) _ (λi=>string (sh.mode i).1) (λi=>if i=k then slice (qX g) ((sh.mode k).2.length+1) cap else rv i) _ λi _=>⟨by rw[zIr sh k t r],rfl⟩];exact C.1
 ·rw[A] at f
  by_cases e:i=k
  ·subst e
   rw[zBi sh i t r];simp only[if_pos];have l:((sh.mode i).2++[t]).length=(sh.mode i).2.length+1:=by simp
   have M:yI (p i++[x])=yI (p i)++[pX x]:=by simp[yI]
   show World.ownsRow _ _ _ _ _ ((sh.mode i).2++[t]).length _;rw[l,M];exact zE ad λq _ _ L=>lJ _ _ _ _ (by
    have an:g=q:=by simpa[Value.ownBlock] using L
    rw[<-an];exact af)
  ·rw[zAD sh k t i e]
   simp only[if_neg e];exact(I i f e).1
 ·rw[A] at f s
  by_cases e:i=k
  ·simp only[if_pos e] at c
   have l:j≠k:=λl=>ab (by rw[e,l]);simp only[if_neg l];exact λM=>(I j s l).2 q M.symm (c.symm)
  ·simp only[if_neg e] at c
   by_cases l:j=k
   ·simp only[if_pos l]
    exact(I i f e).2 q c
   ·simp only[if_neg l]
    exact a.rApart i j q f s ab c
 ·rw[A] at f
  by_cases e:i=k
  ·subst e
   rw[zBi sh i t r] at s ⊢;simp only[if_pos];have ao:(p i).length=(sh.mode i).2.length:=by
    have:=(a.rOwn i f).1;unfold yI at this;rw[kV] at this;omega
   have ar:j<(sh.mode i).2.length+1:=by simpa using s
   show TreeIn X _ D ((p i++[x]).getD j 0) (((sh.mode i).2++[t]).getD j Tr.none);by_cases ac:j<(sh.mode i).2.length
   ·have N:(p i++[x]).getD j 0=(p i).getD j 0:=by rw[lW,lW,kW (by omega)]
    have l:((sh.mode i).2++[t]).getD j Tr.none=(sh.mode i).2.getD j Tr.none:=by rw[lW,lW,kW ac]
    rw[N,l];exact F _ _ _ (a.rTree i f j ac)
   ·have ap:j=(sh.mode i).2.length:=by omega
    subst ap;have N:(p i++[x]).getD (sh.mode i).2.length 0=x:=by rw[<-ao];simp
    have l:((sh.mode i).2++[t]).getD (sh.mode i).2.length Tr.none=t:=by simp
    rw[N,l];exact F _ _ _ G
  ·rw[zAD sh k t i e] at s ⊢
   simp only[if_neg e];exact F _ _ _ (a.rTree i f j s)
 ·rw[A] at f
  by_cases e:i=k
  ·simp only[if_pos e]
   exact(u.block q (a.xlt q c).2 (J q c).1 (J q c).2).2
  ·simp only[if_neg e]
   exact a.xr q i c f
theorem qH {w:World}{H e c n:Nat}{v:Value}{xs:List Value}(a:w.ownsRow H e c v n xs)(p:0<n):∃g cap,v=slice (qX g) n cap/\H<=g/\g<w.heap.size/\n<=cap/\cap<=maxLen/\(∀j u,xs[j]? =some u->w.cell? ⟨g,j,none⟩=some u)/\∀j,w.frozen? ⟨g,j,none⟩=false:=by
 rcases a.2 with⟨-,q⟩|⟨g,cap,r,b,d,f,k,l,-⟩
 ·omega
 ·have m:=a.lt g (by rw[b];rfl)
  refine⟨g,cap,b,d,m.2,k,l,λj u o=>?_,λj=>?_⟩
  ·have:=a.cells (g:=g) (by rw[b];rfl) j u o
   rw[Addr.add_lit,Nat.zero_add] at this;exact this
  ·unfold frozen?;rw[f];simp
theorem zCb {w:World}{H e b n:Nat}{v:Value}{xs:List Value}(c:w.ownsRow H e b v n xs):∃ao cap,v=slice ao n cap/\n<=cap/\cap<=maxLen:=by
 rcases c.2 with⟨a,d⟩|⟨g,cap,k,a,l,m,f,j,-⟩
 ·exact⟨none,0,by rw[a,d],by omega,by unfold maxLen;omega⟩
 ·exact⟨_,cap,a,f,j⟩
theorem zHq {a:Type}(l:List a)(p:a->Bool)(b:a)(j:Nat)(c:j<l.length)(g:p (l.getD j b)=true)(m:∀i,i<j->p (l.getD i b)=false):l.findIdx p=j:=by
 have e:∀i (f:i<l.length),l.getD i b=l[i]:=λi f=>by rw[lW,lV f];rfl
 rw[List.findIdx_eq c];refine⟨by rw[<-e j c];exact g,λk o=>?_⟩;rw[<-e k (by omega)];exact m k o
theorem zJz {a:Type}(l:List a)(p:a->Bool)(c:a)(f:∀i,i<l.length->p (l.getD i c)=false):l.findIdx p=l.length:=by
 apply List.findIdx_eq_length_of_false;intro x g;have ⟨i,b,e⟩:=List.getElem_of_mem g;have:=f i b;rw[lW,lV b] at this;rw[<-e];exact this
def Sh.modeIx (sh:Sh)(nm:ByteArray):Nat:=sh.modes.findIdx λm=>eqS m.1 nm
def Sh.modeI (sh:Sh)(nm:ByteArray):Int:=if sh.modeIx nm<sh.modes.length then(sh.modeIx nm:Int) else -1
def Sh.hasDefB (sh:Sh)(nm:ByteArray):Bool:=decide ((sh.defs.findIdx λm=>eqS m.1 nm)<sh.defs.length)
theorem zDF (w:World)(X:Nat->Prop)(S D:Nat)(sh:Sh)(L dv M N:Value)(rv:Nat->Value)(O:Nat->List Nat)(P:Nat->Nat)(m:Sw w X S D sh L dv M N rv O P)(aj:sh.modes.length<=1000000)(a:ByteArray):
  Calls prog 88 #[pX S,string a] w λe w'=>e=returned (iX (sh.modeI a))/\Grew w w':=by
 have R:Hid (∀j,j<sh.modes.length->eqS (sh.mode j).1 a=true->(∀i,i<j->eqS (sh.mode i).1 a=false)->sh.modeI a=(j:Int)):=λj o g p=>by
  have e:sh.modeIx a=j:=zHq sh.modes _ (⟨#[]⟩,[]) j o g p;unfold Sh.modeI;rw[e,if_pos o]
 have T:Hid ((∀i,i<sh.modes.length->eqS (sh.mode i).1 a=false)->sh.modeI a=-1):=λp=>by
  have e:sh.modeIx a=sh.modes.length:=zJz sh.modes _ (⟨#[]⟩,[]) p;unfold Sh.modeI;rw[e,if_neg (by omega)]
 generalize sh.modeI a=U at *;have ⟨ao,ak,x⟩:=zF m.mOwn;obtain⟨c0,-,-,-,-⟩:=m.cells;have y:=vl m;have W:=vl x;rw[x] at c0;go_in;go_wp2;go_loopg [12] sh.modes.length (λq i wr=>∃j:Nat,q=sh.modes.length-j/\j<=sh.modes.length/\i=iX (j:Int)/\(∀k,k<j->eqS (sh.mode k).1 a=false)/\Grew w wr)
 case atStart=>exact⟨0,rfl,lX,rfl,λk b=>by omega,Keep.refl _ _ _⟩
 case round=>
  obtain⟨j,z,o,rfl,r,b⟩:=hrel;have c:Hid (gk=sh.modes.length-j/\(∀k,k<j->eqS (sh.mode k).1 a=false)/\Grew w wr/\w.heap.size<=wr.heap.size):=⟨z,r,b,b.size⟩
  by_cases s:j<sh.modes.length
  ·have Y:(j:Int)<(sh.modes.length:Int):=by omega
   obtain⟨al,am,A,-,B,-,-,C,-⟩:=qH y.mOwn (by omega);rw[W.out] at A;injection A with aa an ab;subst aa ab;have ⟨ac,ad⟩:=zBp (λi=>string (sh.mode i).1) rv sh.modes.length j s;have ae:=zA (C _ _ ac) B b;have E:=zA (C _ _ ad) B b;have ⟨F,G,af⟩:=zF (y.rOwn j s);rw[af] at E;obtain⟨l,H,ap,I⟩:∃l,l=wr.alloc (.cells #[string (sh.mode j).1,(slice F (sh.mode j).2.length G)] 120)/\l.cell? ⟨wr.heap.size,0,none⟩=some (string (sh.mode j).1)/\Hid (Grew w l):=by
    have ag:=gY wr (.cells #[string (sh.mode j).1,(slice F (sh.mode j).2.length G)] 120);refine⟨_,rfl,?_,c.2.2.1.trans (kZ _ _ c.2.2.2)⟩;unfold cell?;rw[ag];rfl
   have t:Hid (eqS (sh.mode j).1 a=true->U=(j:Int)):=λg=>R j s g c.2.1;have u:Hid (eqS (sh.mode j).1 a=false->∀k,k<j+1->eqS (sh.mode k).1 a=false):=λg k b=>by
    by_cases e:k=j
    ·rw[e];exact g
    ·exact c.2.1 k (by omega)
   apply wp_cut;intro J d;go_wp2;apply d.out;apply wp_cut;intro J d;go_wp2;apply d.out;apply wp_cut;intro aq K;refine wp_block ?_;apply wp_cut;intro J d;go_wp2;apply d.out;clear d;rw[<-H];clear H ae E;cases f:eqS (sh.mode j).1 a with
   |true=>
    have v:=vl <| t f;have ah:((sh.mode j).1.toList==a.toList)=true:=f;clear t u f;go_wp2;go_ret;exact⟨by rw[v.out];rfl,I⟩
   |false=>
    have ai:=u f;have ah:((sh.mode j).1.toList==a.toList)=false:=f;clear t u f;go_wp2;apply K.out;clear K;go_wp2;go_roundg (sh.modes.length-(j+1))
    case measure=>rw[c.out.1];omega
    case rel=>exact⟨j+1,rfl,by omega,by go_num,ai,I⟩
  ·have Y:(sh.modes.length:Int)<=(j:Int):=by omega
   have v:=vl <| T λk b=>r k (by omega);clear z r b;go_wp2;go_ret;exact⟨by rw[v.out];rfl,c.2.2.1⟩
theorem zDL (w:World)(X:Nat->Prop)(S D:Nat)(sh:Sh)(J dv K L:Value)(rv:Nat->Value)(M:Nat->List Nat)(l:Nat->Nat)(p:Sw w X S D sh J dv K L rv M l)(ah:sh.defs.length<=1000000)(a:ByteArray):
  Calls prog 161 #[pX S,string a] w λe w'=>e=returned (bool (sh.hasDefB a))/\Grew w w':=by
 have N:Hid (∀j,j<sh.defs.length->eqS (sh.defn j).1 a=true->(∀i,i<j->eqS (sh.defn i).1 a=false)->sh.hasDefB a=true):=λj r g s=>by
  have e:(sh.defs.findIdx λm=>eqS m.1 a)=j:=zHq sh.defs _ (⟨#[]⟩,Tr.none) j r g s;unfold Sh.hasDefB;rw[e];exact dQ r
 have O:Hid ((∀i,i<sh.defs.length->eqS (sh.defn i).1 a=false)->sh.hasDefB a=false):=λs=>by
  have e:(sh.defs.findIdx λm=>eqS m.1 a)=sh.defs.length:=zJz sh.defs _ (⟨#[]⟩,Tr.none) s;unfold Sh.hasDefB;rw[e];exact gG (by omega)
 generalize sh.hasDefB a=P at *;have ⟨ao,ai,y⟩:=zF p.dOwn;obtain⟨-,c0,-,-,-⟩:=p.cells;have R:=vl p;have T:=vl y;rw[y] at c0;go_in;go_wp2;go_loopg [12] sh.defs.length (λq i wr=>∃j:Nat,q=sh.defs.length-j/\j<=sh.defs.length/\i=iX (j:Int)/\(∀k,k<j->eqS (sh.defn k).1 a=false)/\Grew w wr)
 case atStart=>exact⟨0,rfl,lX,rfl,λk b=>by omega,Keep.refl _ _ _⟩
 case round=>
  obtain⟨j,z,r,rfl,t,b⟩:=hrel;have c:Hid (gk=sh.defs.length-j/\(∀k,k<j->eqS (sh.defn k).1 a=false)/\Grew w wr/\w.heap.size<=wr.heap.size):=⟨z,t,b,b.size⟩
  by_cases A:j<sh.defs.length
  ·have U:(j:Int)<(sh.defs.length:Int):=by omega
   obtain⟨aj,ak,B,-,C,-,-,E,-⟩:=qH R.dOwn (by omega);rw[T.out] at B;injection B with W al Y;subst W Y;have ⟨aa,ab⟩:=zBp (λi=>string (sh.defn i).1) (λi=>pointer (some ⟨l i,0,none⟩)) sh.defs.length j A;have ac:=zA (E _ _ aa) C b;have ad:=zA (E _ _ ab) C b;obtain⟨o,F,am,G⟩:∃o,o=wr.alloc (.cells #[string (sh.defn j).1,(pointer (some ⟨l j,0,none⟩))] 233)/\o.cell? ⟨wr.heap.size,0,none⟩=some (string (sh.defn j).1)/\Hid (Grew w o):=by
    have ae:=gY wr (.cells #[string (sh.defn j).1,(pointer (some ⟨l j,0,none⟩))] 233);refine⟨_,rfl,?_,c.2.2.1.trans (kZ _ _ c.2.2.2)⟩;unfold cell?;rw[ae];rfl
   have u:Hid (eqS (sh.defn j).1 a=true->P=true):=λg=>N j A g c.2.1;have v:Hid (eqS (sh.defn j).1 a=false->∀k,k<j+1->eqS (sh.defn k).1 a=false):=λg k b=>by
    by_cases e:k=j
    ·rw[e];exact g
    ·exact c.2.1 k (by omega)
   apply wp_cut;intro H d;go_wp2;apply d.out;apply wp_cut;intro H d;go_wp2;apply d.out;apply wp_cut;intro an I;refine wp_block ?_;apply wp_cut;intro H d;go_wp2;apply d.out;clear d;rw[<-F];clear F ac ad;cases f:eqS (sh.defn j).1 a with
   |true=>
    have x:=vl <| u f;have af:((sh.defn j).1.toList==a.toList)=true:=f;clear u v f;go_wp2;go_ret;exact⟨by rw[x.out];rfl,G⟩
   |false=>
    have ag:=v f;have af:((sh.defn j).1.toList==a.toList)=false:=f;clear u v f;go_wp2;apply I.out;clear I;go_wp2;go_roundg (sh.defs.length-(j+1))
    case measure=>rw[c.out.1];omega
    case rel=>exact⟨j+1,rfl,by omega,by go_num,ag,G⟩
  ·have U:(sh.defs.length:Int)<=(j:Int):=by omega
   have x:=vl <| O λk b=>t k (by omega);clear z t b;go_wp2;go_ret;exact⟨by rw[x.out];rfl,c.2.2.1⟩
theorem zKR:(prog.info? 120).map (λi=>(i.zero,i.size,i.bytes))=some (some (agg #[string ⟨#[]⟩,nX]),2,40):=by kernel_rfl
def yG (sh:Sh)(nm:ByteArray):Option Sh:=if 3<=sh.modes.length then none else if 0<=sh.modeI nm then none else if xM nm then some (sh.addMode nm) else none
def LnAns (w:World)(S D:Nat)(a:Option Sh)(e:Ending)(w':World):Prop:=
 Keep S S w w'/\match a with
 |none=>e=returned (bool false)
 |some sh=>e=returned (bool true)/\SwIs w' S D sh
theorem zEJ (sh:Sh)(a:ByteArray):sh.modeI a=-1\/(0<=sh.modeI a/\sh.modeI a<sh.modes.length):=by
 unfold Sh.modeI;split
 ·right;omega
 ·left;rfl
theorem zFF (w:World)(X:Nat->Prop)(S D:Nat)(sh:Sh)(L dv k l:Value)(rv:Nat->Value)(v:Nat->List Nat)(m:Nat->Nat)(f:Sw w X S D sh L dv k l rv v m)(M:sh.modes.length<=1000000)(a:ByteArray)(N:a.size<=1048576):
  Calls prog 120 #[pX S,string a] w (LnAns w S D (yG sh a)):=by
 obtain⟨O,P,R,T,U⟩:=info_parts zKR;obtain⟨ao,V,W⟩:=zF f.mOwn;subst W;obtain⟨c0,-,-,-,-⟩:=f.cells;have x:=vl <| zDF w X S D sh _ dv k l rv v m f M a;have o:Hid (∀w,Ca 160 #[string a] w λe w'=>e=returned (bool (xM a))/\w'=w):=λw=>jG w a N;have Y:=vl f;have E:=f.lt;have y:Hid (∀w1,Grew w w1->Keep S S w w1):=λw1 aa=>aa.lower (Nat.le_of_lt E) (Nat.le_of_lt E);have p:Hid (yG sh a=if 3<=sh.modes.length then none else if 0<=sh.modeI a then none else if xM a then some (sh.addMode a) else none):=rfl;by_cases q:3<=sh.modes.length
 ·have b:Hid (yG sh a=none):=by show _=_;rw[p.out,if_pos q]
  have ab:(3:Int)<=(sh.modes.length:Int):=by omega
  rw[b.out];go_in;go_wp2;go_ret;exact⟨Keep.refl _ _ _,rfl⟩
 have ab:(sh.modes.length:Int)<3:=by omega
 rcases zEJ sh a with g|⟨g,-⟩
 ·rw[g] at x
  have F:=vl x;cases r:xM a with
  |false=>
   rw[r] at o;have z:=vl o;have b:Hid (yG sh a=none):=by show _=_;rw[p.out,if_neg q,if_neg (by rw[g];decide),r];rfl
   rw[b.out];go_in;go_wp2_with (first|(go_at_call 88;refine F.mono ?_;rintro e w1 ⟨rfl,c⟩)|(go_at_call 160;refine(z _).mono ?_;rintro e ac ⟨rfl,A⟩;have B:=A.symm;subst B))
   go_ret;exact⟨y _ c,rfl⟩
  |true=>
   rw[r] at o;have z:=vl o;have b:Hid (yG sh a=some (sh.addMode a)):=by show _=_;rw[p.out,if_neg q,if_neg (by rw[g];decide),r];rfl
   rw[b.out];go_in;apply wp_cut;intro G j;go_wp2;apply j.out;apply wp_cut;intro G j;go_wp2_with (first|(go_at_call 88;refine F.mono ?_;rintro e w1 ⟨rfl,c⟩)|(go_at_call 160;refine(z _).mono ?_;rintro e ac ⟨rfl,A⟩;have B:=A.symm;subst B))
   apply j.out;have d:=Y.grown c;have s:Hid (Sw w1 X S D sh (slice ao sh.modes.length V) dv k l rv v m/\Keep S S w w1):=⟨d,y _ c⟩
   obtain⟨ad,-,-,-,ae⟩:=d.cells;have af:=ae 0;have ag:=d.mOwn;have H:=d.lt;have ah:=vl <| zO d.mOwn d.blk (by decide);apply wp_cut;intro G j;go_wp2_with (at_builtin;refine wpList_append_lies _ rfl _ _ 77 rfl (S+1) 120 O (agg #[string ⟨#[]⟩,nX]) 2 40 underlying77 P R T U rfl (by decide) _ _ _ rfl (ag.alloc _) ⟨w1.heap.size,0,none⟩ 1 1 [string a,nX] rfl rfl (news_of_block (cs:=#[string a,nX]) (t:=120) (fr:=(0,0)) (gY w1 _)) (by simp[Value.oneCell']) (by decide) (by unfold maxLen;omega) (by omega) (by simp;omega) _ rfl ?_;intro ai cap w2 aj I ak an;have J:=I.block S (by simp;omega) ah;have ap:=(gW J).trans ((gU _ _ _ H).trans ad);have aq:=(gV J).trans ((frozen?_alloc_past _ _ _ H).trans af))
   apply j.out;obtain⟨u,al,K⟩:∃u,u=w2.setCell ⟨S,0,none⟩ (slice (qX ai) (sh.modes.length+1) cap)/\Hid (SwIs u S D (sh.addMode a)/\Keep S S w u):=by
    obtain⟨am,q2⟩:=s.1.appMode aj I (by rcases ak with C|C;exact .inl C;right;rw[C];simp);exact⟨_,rfl,⟨X,_,dv,k,l,_,_,m,am⟩,s.2.trans ((q2.keep s.1.mOwn s.1.lt).lower (Nat.le_succ S) (Nat.le_refl S))⟩
   rw[<-al];go_wp2;go_ret;exact⟨K.2,rfl,K.1⟩
 ·have b:Hid (yG sh a=none):=by show _=_;rw[p.out,if_neg q,if_pos g]
  rw[b.out];generalize sh.modeI a=ar at *;go_in;go_wp2_with (go_at_call 88;refine x.mono ?_;rintro e w1 ⟨rfl,c⟩)
  go_ret;exact⟨y _ c,rfl⟩
theorem zPn:(prog.info? 233).map (λi=>(i.zero,i.size,i.bytes))=some (some (agg #[string ⟨#[]⟩,pointer none]),2,24):=by kernel_rfl
structure ShOk (sh:Sh)(D:Nat):Prop where
 modes:sh.modes.length<=3
 defs:sh.defs.length<=4
 acts:sh.acts.length<=8
 same:sh.pushed.length=sh.acts.length
 names:∀i,i<sh.defs.length->(sh.defn i).1.size<=6
 trees:zBn D sh.defs
 rules:∀i,i<sh.modes.length->∀t∈(sh.mode i).2,TrOk D t
theorem Sw.defsIn {w:World}{X:Nat->Prop}{S D:Nat}{sh:Sh}{k dv l m:Value}{rv:Nat->Value}{o:Nat->List Nat}{a:Nat->Nat}(b:Sw w X S D sh k dv l m rv o a)(p:∀i,i<sh.defs.length->(sh.defn i).1.size<=6):DefsIn w.heap.size X w D dv sh.defs:=by
 have ⟨ao,cap,d,q,r⟩:=zCb b.dOwn;refine⟨ao,cap,d,q,r,λi c=>?_⟩;obtain⟨g,v,e,-,f,-,-,j,-⟩:=qH b.dOwn (by omega);rw[d] at e;injection e with s x y;have ⟨t,u⟩:=zBp (λi=>string (sh.defn i).1) (λi=>pointer (some ⟨a i,0,none⟩)) sh.defs.length i c;refine⟨g,0,a i,s,f,f,?_,?_,b.dTree i c,lY (p i c) (by omega)⟩
 ·rw[Nat.zero_add];exact j _ _ t
 ·rw[Nat.zero_add];exact j _ _ u
theorem zBK {w w1 w2:World}(a:Grew w w1)(b:Grew w1 w2):Grew w w2:=a.th b
def qO (sh:Sh)(s:ByteArray):Option Sh:=
 if vM s 32 then if 4<=sh.defs.length then none else if sh.hasDefB (yA s 32) then none else if xM (yA s 32) then(match vQ (yH s 32) sh.defs with
  |none=>none
  |some t=>some (sh.addDef (yA s 32) t)) else none else none
theorem zEp (s:ByteArray)(c:Nat):(yA s c).size<=s.size:=by
 unfold yA;split
 ·rw[ByteArray.size_extract];omega
 ·exact lQ
theorem jX (s:ByteArray)(c:Nat):(yH s c).size<=s.size:=by
 unfold yH;split
 ·rw[ByteArray.size_extract];omega
 ·exact lX
theorem zN2 (w:World)(X:Nat->Prop)(S D:Nat)(sh:Sh)(u dv j k:Value)(rv:Nat->Value)(l:Nat->List Nat)(m:Nat->Nat)(o:Sw w X S D sh u dv j k rv l m)(ok:ShOk sh D)(s:ByteArray)(T:s.size<=1000)(a B:ByteArray)(p:Bool)(U:a.size<=1000)(V:B.size<=1000)(hcut:∀w,Calls prog 86 #[string s,int .u8 32] w λe w'=>e=returned (tuple #[string a,string B,bool p])/\Grew w w')(I:¬(p=true/\¬4<=sh.defs.length/\sh.hasDefB a=false/\xM a=true/\∃t,vQ B sh.defs=some t)):
  Calls prog 121 #[pX S,string s] w (LnAns w S (D+2+4*s.size) (none)):=by
 have ⟨ao,v,J⟩:=zF o.dOwn;subst J;have x:=o.lt;have q:Hid (∀w1,Grew w w1->Keep S S w w1):=λw1 b=>b.lower (Nat.le_of_lt x) (Nat.le_of_lt x);have c:Hid (∀w1,Grew w w1->Sw w1 X S D sh u (slice ao sh.defs.length v) j k rv l m):=λw1 b=>o.grown b;have y:=vl λw1 w2=>zBK (w:=w) (w1:=w1) (w2:=w2);have L:=vl (hcut w);have d:=vl ok;have r:=Nat.lt_or_ge sh.defs.length 4;have z:=vl λ(w1:World) (b:Grew w w1)=>zDL w1 X S D sh _ _ j k rv l m (c w1 b) (by have:=d.defs;omega) a;have C:=vl λw=>jG w a (by omega);have E:=vl λ(w2:World) (b:Grew w w2)=>zAg w2 X B (slice ao sh.defs.length v) (by omega) D sh.defs ((c w2 b).defsIn d.names) (by have:=d.defs;omega) d.trees;go_in;rcases p with _|_;rotate_left;rcases r with r|r;rcases F:sh.hasDefB a with _|_;rcases G:xM a with _|_;rotate_left;rcases H:vQ B sh.defs with _|t;rotate_left
 ·exact absurd ⟨rfl,by omega,F,G,t,H⟩ I
 all_goals
  try rw[F] at z
  try rw[G] at C
  try rw[H] at E
  try have M:(sh.defs.length:Int)<4:=by omega
  try have M:(4:Int)<=(sh.defs.length:Int):=by omega
  go_wp2_with (first|(go_at_call 86;refine L.mono ?_;rintro e w1 ⟨rfl,f⟩;have W:=(c w1 f).cells.2.1)|(go_at_call 161;refine(z w1 f).mono ?_;rintro e w2 ⟨rfl,N⟩;have g:=vl (y _ _ f N);have Y:=(c w2 g).cells.2.1)|(go_at_call 160;refine(C _).mono ?_;rintro e aa ⟨rfl,O⟩;have P:=O.symm;subst P)|(go_at_call 162;refine(E w2 g).mono ?_;rintro e ab ⟨R,rfl⟩))
  go_ret
  first|exact⟨q _ (y _ _ g R),rfl⟩|exact⟨q _ g,rfl⟩|exact⟨q _ f,rfl⟩
theorem zQM (w:World)(X:Nat->Prop)(S D:Nat)(sh:Sh)(q dv f g:Value)(rv:Nat->Value)(j:Nat->List Nat)(r:Nat->Nat)(z:Sw w X S D sh q dv f g rv j r)(ok:ShOk sh D)(s:ByteArray)(aD:s.size<=1000)(a B:ByteArray)(G:Bool)(aE:a.size<=1000)(aF:B.size<=1000)(hcut:∀w,Calls prog 86 #[string s,int .u8 32] w λe w'=>e=returned (tuple #[string a,string B,bool G])/\Grew w w')(aG:B.size<=s.size)(P:G=true)(aH:¬4<=sh.defs.length)(R:sh.hasDefB a=false)(T:xM a=true)(t:Tr)(U:vQ B sh.defs=some t):
  Calls prog 121 #[pX S,string s] w (LnAns w S (D+2+4*s.size) (some (sh.addDef a t))):=by
 obtain⟨ao,C,V⟩:=zF z.dOwn;subst V;have H:=z.lt;have W:Hid (∀w1,Grew w w1->Keep S S w w1):=λw1 d=>d.lower (Nat.le_of_lt H) (Nat.le_of_lt H);have k:Hid (∀w1,Grew w w1->Sw w1 X S D sh q (slice ao sh.defs.length C) f g rv j r):=λw1 d=>z.grown d;have I:=vl λw1 w2=>zBK (w:=w) (w1:=w1) (w2:=w2);have aa:=vl (hcut w);have u:=vl ok;subst P;obtain⟨ab,ac,ad,ae,af⟩:=info_parts zPn;have aI:(sh.defs.length:Int)<4:=by omega
 have ag:Hid (∀w1,Grew w w1->Ca 161 #[pX S,string a] w1 λe w'=>e=returned fX/\Grew w1 w'):=λw1 d=>by have:=zDL w1 X S D sh _ _ f g rv j r (k w1 d) (by have:=u.defs;omega) a;rw[R] at this;exact this
 have ah:Hid (∀w,Ca 160 #[string a] w λe w'=>e=returned tX/\w'=w):=λw=>by have:=jG w a (by omega);rw[T] at this;exact this
 have ai:Hid (∀w2,Grew w w2->Ca 162 #[string B,slice ao sh.defs.length C] w2 (zIt w2 X (D+2+4*B.size) (some t))):=λw2 d=>by have:=zAg w2 X B _ (by omega) D sh.defs ((k w2 d).defsIn u.names) (by have:=u.defs;omega) u.trees;rw[U] at this;exact this
 go_in;apply wp_cut;intro l b;go_wp2;apply b.out;apply wp_cut;intro l b;go_wp2_with (go_at_call 86;refine aa.mono ?_;rintro e w1 ⟨rfl,E⟩;have aJ:=(k w1 E).cells.2.1)
 apply b.out;apply wp_cut;intro l b;go_wp2_with (first|(go_at_call 161;refine(ag w1 E).mono ?_;rintro e w2 ⟨rfl,aj⟩)|(go_at_call 160;refine(ah _).mono ?_;rintro e aK ⟨rfl,ak⟩;have al:=ak.symm;subst al))
 apply b.out;have v:=vl <| I _ _ E aj;have aL:=(k w2 v).cells.2.1;apply wp_cut;intro l b;go_wp2_with (go_at_call 162;refine(ai w2 v).mono ?_;rintro e m ⟨J,p,rfl,am⟩)
 apply b.out;apply wp_cut;intro l b;go_wp2;apply b.out;obtain⟨x,c⟩:∃x,Hid (Sw m x S (D+2+4*s.size) sh q (slice ao sh.defs.length C) f g rv j r/\TreeIn x m (D+2+4*s.size) p t/\Keep S S w m):=by
  refine⟨_,((k w2 v).more J).deep (by omega),(TreeIn.deep am (by omega)).mono λi an o=>?_,W _ (I _ _ v J)⟩;rcases o with o|o
  ·exact .inl o.1
  ·exact .inr ⟨o,an⟩
 obtain⟨-,ap,-,-,aq⟩:=c.1.cells;have ar:=aq 1;have au:=c.1.dOwn;have L:=c.1.lt;have aw:=vl <| zO c.1.dOwn c.1.blk (by decide);apply wp_cut;intro l b;go_wp2_with (at_builtin;refine wpList_append_lies _ rfl _ _ 112 rfl (S+1) 233 ab (agg #[string ⟨#[]⟩,pointer none]) 2 24 underlying112 ac ad ae af rfl (by decide) _ _ _ rfl (au.alloc _) ⟨m.heap.size,0,none⟩ 1 1 [string a,pX p] rfl rfl (news_of_block (cs:=#[string a,pX p]) (t:=233) (fr:=(0,0)) (gY m _)) (by simp[Value.oneCell']) (by decide) (by unfold maxLen;omega) (by omega) (by simp;omega) _ rfl ?_;intro ax cap ay az M aA aM;have N:=M.block S (by simp;omega) aw;have aN:=(gW N).trans ((gU _ _ _ L).trans ap);have aO:=(gV N).trans ((frozen?_alloc_past _ _ _ L).trans ar))
 apply b.out;obtain⟨y,aB,O⟩:∃y,y=ay.setCell ⟨S,1,none⟩ (slice (qX ax) (sh.defs.length+1) cap)/\Hid (SwIs y S (D+2+4*s.size) (sh.addDef a t)/\Keep S S w y):=by
  obtain⟨aC,q2⟩:=c.1.appDef c.2.1 az M (by rcases aA with F|F;exact .inl F;right;rw[F];simp);exact⟨_,rfl,⟨x,q,_,f,g,rv,j,_,aC⟩,c.2.2.trans ((q2.keep c.1.dOwn c.1.lt).lower (Nat.le_succ S) (Nat.le_refl S))⟩
 rw[<-aB];go_wp2;go_ret;exact⟨O.2,rfl,O.1⟩
theorem zGD (w:World)(X:Nat->Prop)(S D:Nat)(sh:Sh)(c dv d f:Value)(rv:Nat->Value)(j:Nat->List Nat)(k:Nat->Nat)(l:Sw w X S D sh c dv d f rv j k)(ok:ShOk sh D)(s:ByteArray)(a:s.size<=1000):
  Calls prog 121 #[pX S,string s] w (LnAns w S (D+2+4*s.size) (qO sh s)):=by
 have m:=lY (zEp s 32) a;have o:=lY (jX s 32) a;have hcut:∀w,Calls prog 86 #[string s,int .u8 32] w λe w'=>e=returned (tuple #[string (yA s 32),string (yH s 32),bool (vM s 32)])/\Grew w w':=λw=>zCK w s (by omega) 32;have no:=zN2 w X S D sh c dv d f rv j k l ok s a _ _ _ m o hcut;unfold qO;cases p:vM s 32 with
 |false=>exact no λg=>by rw[p] at g;exact Bool.noConfusion g.1
 |true=>
 rw[if_pos rfl];by_cases b:4<=sh.defs.length
 ·rw[if_pos b]
  exact no λg=>g.2.1 b
 rw[if_neg b];cases q:sh.hasDefB (yA s 32) with
 |true=>exact no λg=>by rw[q] at g;exact Bool.noConfusion g.2.2.1
 |false=>
 rw[if_neg (by decide)];cases r:xM (yA s 32) with
 |false=>exact no λg=>by rw[r] at g;exact Bool.noConfusion g.2.2.2.1
 |true=>
 rw[if_pos rfl];cases u:vQ (yH s 32) sh.defs with
 |none=>exact no λg=>by have ⟨t,v⟩:=g.2.2.2.2;rw[u] at v;cases v
 |some t=>exact zQM w X S D sh c dv d f rv j k l ok s a _ _ _ m o hcut (jX s 32) p b q r t u
def yV (sh:Sh)(nm s:ByteArray):Option Sh:=
 if vM s 32 then if sh.modes.length=0 then none else if 8<=sh.acts.length then none else if xM nm then(if (zAG (yA s 32)).ok then(match vQ (yH s 32) sh.defs with
  |none=>none
  |some t=>some (((sh.addAct (zAG (yA s 32)).act).addPush (zAG (yA s 32)).name).addRule (sh.modes.length-1) t)) else none) else none else none
theorem zI6 (w:World)(X:Nat->Prop)(S D:Nat)(sh:Sh)(L dv M N:Value)(rv:Nat->Value)(r:Nat->List Nat)(u:Nat->Nat)(a:Sw w X S D sh L dv M N rv r u)(ok:ShOk sh D)(b s:ByteArray)(aq:s.size<=1000)(ar:b.size<=1000)(c B:ByteArray)(j:Bool)(au:c.size<=1000)(aw:B.size<=1000)(hcut:∀w,Calls prog 86 #[string s,int .u8 32] w λe w'=>e=returned (tuple #[string c,string B,bool j])/\Grew w w')(O:¬(j=true/\¬sh.modes.length=0/\¬8<=sh.acts.length/\xM b=true/\(zAG c).ok=true/\∃t,vQ B sh.defs=some t)):
  Calls prog 122 #[pX S,string b,string s] w (LnAns w S (D+2+4*s.size) (none)):=by
 have ⟨P,R,T⟩:=zF a.mOwn;have ⟨v,x,U⟩:=zF a.dOwn;have ⟨V,W,Y⟩:=zF a.aOwn;have ⟨ab,ae,af⟩:=zF a.pOwn;subst T U Y af;have y:=a.lt;have z:Hid (∀w1,Grew w w1->Keep S S w w1):=λw1 d=>d.lower (Nat.le_of_lt y) (Nat.le_of_lt y);have f:Hid (∀w1,Grew w w1->Sw w1 X S D sh (slice P sh.modes.length R) (slice v sh.defs.length x) (slice V sh.acts.length W) (slice ab sh.pushed.length ae) rv r u):=λw1 d=>a.grown d;have C:=vl λw1 w2=>zBK (w:=w) (w1:=w1) (w2:=w2);have ag:=vl (hcut w);have k:=vl ok;have ax:=ok.modes;have ay:=ok.acts;have l:=Nat.eq_zero_or_pos sh.modes.length;have m:=Nat.lt_or_ge sh.acts.length 8;have E:=vl λw=>jG w b (by omega);have F:=vl λw=>zCU w c (by omega);have G:=vl λ(w2:World) (d:Grew w w2)=>zAg w2 X B (slice v sh.defs.length x) (by omega) D sh.defs ((f w2 d).defsIn k.names) (by have:=k.defs;omega) k.trees;generalize zAG c=ah at *;go_in;rcases j with _|_;rotate_left;rcases l with l|l;rotate_left;rcases m with m|m;rcases H:xM b with _|_;rotate_left;rcases I:ah.ok with _|_;rcases o:vQ B sh.defs with _|t;rotate_left 2;rcases o:vQ B sh.defs with _|t;rotate_left
 ·exact absurd ⟨rfl,by omega,by omega,H,I,t,o⟩ O
 all_goals
  try rw[H] at E
  try rw[I] at F
  try rw[o] at G
  try have ai:((sh.modes.length:Int)-1)<0:=by omega
  try have ai:¬((sh.modes.length:Int)-1)<0:=by omega
  try have aj:(sh.acts.length:Int)<8:=by omega
  try have aj:(8:Int)<=(sh.acts.length:Int):=by omega
  go_wp2_with (first|(go_at_call 86;refine ag.mono ?_;rintro e w1 ⟨rfl,g⟩;have az:=(f w1 g).cells.1;have aA:=(f w1 g).cells.2.2.1)|(go_at_call 160;refine(E _).mono ?_;rintro e aB ⟨rfl,ak⟩;have al:=ak.symm;subst al)|(go_at_call 163;refine(F w1).mono ?_;rintro e w2 ⟨rfl,an⟩;have q:=vl <| C _ _ g an;have aC:=(f w2 q).cells.2.1)|(go_at_call 162;refine(G w2 q).mono ?_;first|rintro e ao ⟨J,rfl⟩|rintro e ao ⟨J,p,rfl,aD⟩))
  go_ret
  first|exact⟨z _ (C _ _ q J),rfl⟩|exact⟨z _ g,rfl⟩
section
attribute [local go_sem ↓] Go.wp_at_zero Go.wp_at_succ
theorem zP7 (w:World)(X:Nat->Prop)(S D:Nat)(sh:Sh)(bb dv bc bd:Value)(rv:Nat->Value)(G:Nat->List Nat)(R:Nat->Nat)(M:Sw w X S D sh bb dv bc bd rv G R)(ok:ShOk sh D)(ab s:ByteArray)(bU:s.size<=1000)(bV:ab.size<=1000)(ae B:ByteArray)(aS:Bool)(bW:ae.size<=1000)(bX:B.size<=1000)(hcut:∀w,Calls prog 86 #[string s,int .u8 32] w λe w'=>e=returned (tuple #[string ae,string B,bool aS])/\Grew w w')(bY:B.size<=s.size)(be:aS=true)(k:Nat)(N:sh.modes.length=k+1)(bf:(sh.mode k).2.length<=1000000)(bg:¬8<=sh.acts.length)(aT:xM ab=true)(b:Ac)(aU:zAG ae=b)(aV:b.ok=true)(t:Tr)(aW:vQ B sh.defs=some t):
  Calls prog 122 #[pX S,string ab,string s] w (LnAns w S (D+2+4*s.size) (some (((sh.addAct b.act).addPush b.name).addRule k t))):=by
 obtain⟨af,T,bh⟩:=zF M.mOwn;obtain⟨U,V,bi⟩:=zF M.dOwn;obtain⟨ag,ah,bj⟩:=zF M.aOwn;obtain⟨ai,aj,bk⟩:=zF M.pOwn;subst bh bi bj bk;have aL:S<w.heap.size:=M.lt;have bl:Hid (∀w1,Grew w w1->Keep S S w w1):=λw1 N=>N.lower (Nat.le_of_lt aL) (Nat.le_of_lt aL);have ak:Hid (∀w1,Grew w w1->Sw w1 X S D sh (slice af sh.modes.length T) (slice U sh.defs.length V) (slice ag sh.acts.length ah) (slice ai sh.pushed.length aj) rv G R):=λw1 N=>M.grown N;have aX:=vl λw1 w2=>zBK (w:=w) (w1:=w1) (w2:=w2);have bm:=vl (hcut w);have aB:=vl ok;have bZ:=ok.modes;have b0:=ok.acts;subst be;have b1:¬((k:Int))<0:=by omega
 have bn:Hid (((sh.modes.length:Int)-1)=(k:Int)):=by show _=_;omega
 have al:k<sh.modes.length:=by omega
 have b3:(k:Int)<(sh.modes.length:Int):=by omega
 have bo:Hid (0<sh.modes.length):=by show 0<_;omega
 clear N;obtain⟨aM,aC,aD,aE,aF⟩:=info_parts yW;have b4:(sh.acts.length:Int)<8:=by omega
 clear bg;have bp:Hid (∀w,Ca 160 #[string ab] w λe w'=>e=returned tX/\w'=w):=λw=>by have:=jG w ab (by omega);rw[aT] at this;exact this
 have bq:Hid (∀w,Ca 163 #[string ae] w λe w'=>e=returned (tuple #[iX (b.act:Int),string b.name,tX])/\Grew w w'):=λw=>by have:=zCU w ae (by omega);rw[aU,aV] at this;exact this
 have br:Hid (∀w2,Grew w w2->Ca 162 #[string B,slice U sh.defs.length V] w2 (zIt w2 X (D+2+4*B.size) (some t))):=λw2 N=>by have:=zAg w2 X B _ (by omega) D sh.defs ((ak w2 N).defsIn aB.names) (by have:=aB.defs;omega) aB.trees;rw[aW] at this;exact this
 clear aT aU aV aW;clear M aL hcut ok;go_in;apply wp_cut;intro z a;go_wp2;apply a.out;clear a;apply wp_cut;intro z a;go_wp2_with (go_at_call 86;refine bm.mono ?_;rintro e w1 ⟨rfl,aG⟩;have bs:cX w1 S 0=some (slice af sh.modes.length T):=(ak w1 aG).cells.1;have bt:cX w1 S 2=some (slice ag sh.acts.length ah):=(ak w1 aG).cells.2.2.1)
 apply a.out;clear a;apply wp_cut;intro z a;go_wp2;apply a.out;clear a;rw[bn.out];apply wp_cut;intro z a;go_wp2_with (go_at_call 160;refine(bp _).mono ?_;rintro e an ⟨rfl,aH⟩;have bu:=aH.symm;subst bu)
 apply a.out;clear a;apply wp_cut;intro z a;go_wp2_with (go_at_call 163;refine(bq w1).mono ?_;rintro e w2 ⟨rfl,aY⟩;have aI:=vl <| aX _ _ aG aY;have bv:cX w2 S 1=some (slice U sh.defs.length V):=(ak w2 aI).cells.2.1)
 apply a.out;clear a;clear bs bt aG aY;apply wp_cut;intro z a;go_wp2_with (go_at_call 162;refine(br w2 aI).mono ?_;rintro e W ⟨aN,p,rfl,aZ⟩)
 apply a.out;clear a;apply wp_cut;intro z a;go_wp2;apply a.out;clear a;obtain⟨H,f⟩:∃H,Hid (Sw W H S (D+2+4*s.size) sh (slice af sh.modes.length T) (slice U sh.defs.length V) (slice ag sh.acts.length ah) (slice ai sh.pushed.length aj) rv G R/\TreeIn H W (D+2+4*s.size) p t/\Keep S S w W):=by
  refine⟨_,((ak w2 aI).more aN).deep (by omega),(TreeIn.deep aZ (by omega)).mono λi bw ao=>?_,bl _ (aX _ _ aI aN)⟩;rcases ao with ao|ao
  ·exact .inl ao.1
  ·exact .inr ⟨ao,bw⟩
 clear bv aN aZ;obtain⟨-,-,aq,-,ar⟩:=f.1.cells;have au:=ar 2;have C:W.ownsRow (S+1) 3 1 (slice ag sh.acts.length ah) sh.acts.length (sh.acts.map λx:Nat=>iX (x:Int)):=f.1.aOwn;have O:S<W.heap.size:=f.1.lt;have aw:=vl <| zO f.1.aOwn f.1.blk (by decide);clear ar;apply wp_cut;intro z a;go_wp2_with (at_builtin;refine wpList_append_lies _ rfl _ _ 45 rfl (S+1) 3 aM zX 1 8 underlying45 aC aD aE aF rfl (by decide) _ _ _ rfl (C.alloc _) ⟨W.heap.size,0,none⟩ 1 1 [iX (b.act:Int)] rfl rfl (cell_one_new _ _ _) (by intro u ax;simp at ax;subst ax;rfl) (by decide) (by unfold maxLen;omega) (by omega) (by simp;omega) _ rfl ?_;intro d cap P I m J ay;have o:=m.block S (by simp;omega) aw;have aO:cX P S 2=some (slice ag sh.acts.length ah):=(gW o).trans ((gU _ _ _ O).trans aq);have aP:P.frozen? ⟨S,2,none⟩=false:=(gV o).trans ((frozen?_alloc_past _ _ _ O).trans au))
 apply a.out;clear a;obtain⟨L,a0,aJ,g⟩:∃L,L=P.setCell ⟨S,2,none⟩ (slice (qX d) (sh.acts.length+1) cap)/\∃aJ,Hid (Sw L H S (D+2+4*s.size) (sh.addAct b.act) (slice af sh.modes.length T) (slice U sh.defs.length V) aJ (slice ai sh.pushed.length aj) rv G R/\TreeIn H L (D+2+4*s.size) p t/\Keep S S w L):=by
  obtain⟨az,q2⟩:=f.1.appAct (x:=b.act) I m (by rcases J with l|l;exact .inl l;right;rw[l];simp);exact⟨_,rfl,_,az,jT q2 f.2.1 (λq aA=>⟨Nat.ne_of_gt (f.1.xlt q aA).1,(f.1.xm q aA).2.2.1⟩),f.2.2.trans ((q2.keep f.1.aOwn f.1.lt).lower (Nat.le_succ S) (Nat.le_refl S))⟩
 rw[<-a0];clear a0 I m J ay o aO aP C aw O aq au f;obtain⟨-,-,-,aq,ar⟩:=g.1.cells;have au:=ar 3;have C:L.ownsRow (S+1) 9 1 (slice ai sh.pushed.length aj) sh.pushed.length (sh.pushed.map λx=>string x):=g.1.pOwn;have O:S<L.heap.size:=g.1.lt;have aw:=vl <| zO g.1.pOwn g.1.blk (by decide);have b5:sh.pushed.length<=8:=by have:=aB.same;omega
 clear ar;obtain⟨aM,aC,aD,aE,aF⟩:=info_parts zId;apply wp_cut;intro z a;go_wp2_with (at_builtin;refine wpList_append_lies _ rfl _ _ 108 rfl (S+1) 9 aM (string ⟨#[]⟩) 1 16 underlying108 aC aD aE aF rfl (by decide) _ _ _ rfl (C.alloc _) ⟨L.heap.size,0,none⟩ 1 1 [string b.name] rfl rfl (cell_one_new _ _ _) (by intro u ax;simp at ax;subst ax;rfl) (by decide) (by unfold maxLen;omega) (by omega) (by simp;omega) _ rfl ?_;intro d cap P I m J ay;have o:=m.block S (by simp;omega) aw;have aO:cX P S 3=some (slice ai sh.pushed.length aj):=(gW o).trans ((gU _ _ _ O).trans aq);have aP:P.frozen? ⟨S,3,none⟩=false:=(gV o).trans ((frozen?_alloc_past _ _ _ O).trans au))
 apply a.out;clear a;obtain⟨c,a1,aQ,r⟩:∃c,c=P.setCell ⟨S,3,none⟩ (slice (qX d) (sh.pushed.length+1) cap)/\∃aQ,Hid (Sw c H S (D+2+4*s.size) ((sh.addAct b.act).addPush b.name) (slice af sh.modes.length T) (slice U sh.defs.length V) aJ aQ rv G R/\TreeIn H c (D+2+4*s.size) p t/\Keep S S w c):=by
  obtain⟨az,q2⟩:=g.1.appPush (x:=b.name) I m (by rcases J with l|l;exact .inl l;right;rw[l];simp);exact⟨_,rfl,_,az,jT q2 g.2.1 (λq aA=>⟨Nat.ne_of_gt (g.1.xlt q aA).1,(g.1.xm q aA).2.2.2⟩),g.2.2.trans ((q2.keep g.1.pOwn g.1.lt).lower (Nat.le_succ S) (Nat.le_refl S))⟩
 rw[<-a1];clear a1 I m J ay o aO aP C aw O aq au g aC aD aE aF;obtain⟨bx,bz,bA,bB,bC⟩:=info_parts zEg;obtain⟨v,b6,bD,-,a2,-,-,a3,a4⟩:=qH r.1.mOwn (show 0<((sh.addAct b.act).addPush b.name).modes.length from bo);injection bD with bE bF bG;subst bE bG;clear bF;obtain⟨E,F,aK⟩:=zF (r.1.rOwn k al);have bH:cX c v (k*2+1)=some (slice E (sh.mode k).2.length F):=by
  have a5:=(zBp (λi=>string (((sh.addAct b.act).addPush b.name).mode i).1) rv sh.modes.length k al).2;rw[aK] at a5;exact a3 _ _ a5
 have bI:=a4 (k*2+1);obtain⟨bJ,-,-,-,-⟩:=r.1.cells;have aR:=r.1.rOwn k al;rw[aK] at aR;have C:c.ownsRow (S+1) 158 1 (slice E (sh.mode k).2.length F) (sh.mode k).2.length (yI (G k)):=aR;have bK:=vl <| xF r.1.mOwn C (by decide) v rfl;have bL:Hid (rv k=slice E (sh.mode k).2.length F):=aK;have b7:(sh.mode k).2.length<=1000000:=bf;have a6:v<c.heap.size:=a2;have b8:S+1<=c.heap.size:=r.1.lt;clear a3 a4 aK aR a2;generalize bM:(sh.mode k).2.length=rl at *;have a7:some S≠(Value.slice E rl F).ownBlock:=λe=>by have:=(C.lt S e.symm).1;omega
 have bN:Hid (some S≠(Value.slice E rl F).ownBlock):=a7;have bO:S<c.heap.size:=by omega
 clear a7;have bP:Hid (∀d cap y,y.ownsRow (S+1) 158 1 (slice (qX d) (rl+1) cap) (rl+1) (yI (G k)++[pX p])->(c.drew.alloc (Obj.cells #[pX p] 158)).grownBy y (Value.slice E rl F).ownBlock->((Value.slice E rl F).ownBlock=some d\/c.heap.size<=d)->SwIs (y.setCell ⟨v,k*2+1,none⟩ (slice (qX d) (rl+1) cap)) S (D+2+4*s.size) (((sh.addAct b.act).addPush b.name).addRule k t)/\Keep S S w (y.setCell ⟨v,k*2+1,none⟩ (slice (qX d) (rl+1) cap))):=λd cap y bQ a8 l=>by
  subst bM;rw[<-bL.out] at a8 l;have b9:=(r.1.mOwn.lt v rfl).1;obtain⟨az,q2⟩:=Sw.appRule (w:=c.drew) (sh:=(sh.addAct b.act).addPush b.name) (r.1.grown (Keep.drew _)) al (r.2.1.go ⟨rfl,rfl,lQ,λ_ _ _=>rfl⟩) bQ a8 l;refine⟨⟨H,_,_,aJ,aQ,_,_,R,az⟩,r.2.2.trans ⟨q2.os,q2.output,q2.size,λj cb _=>?_⟩⟩;exact(q2.block j (by show j<c.heap.size;omega) (by omega) λe=>by have:=((r.1.rOwn k al).lt j e.symm).1;omega).1
 apply wp_cut;intro z a;go_region_law ((refine step_append_lies _ (by rfl) (.tmp 100) (.tmp 102) 118 (by rfl) (S+1) 158 bx _ 1 8 underlying118 bz bA bB bC rfl (by decide) (slice E rl F) rl (yI (G k)) (by simp[Act.eval,Act.put]) ((C.alloc _).drew) ⟨c.heap.size,0,none⟩ 1 1 [pX p] (by simp[Act.eval,Act.put]) (by rfl) (news_of_block (cs:=#[pX p]) (t:=158) (fr:=(0,0)) (gY c _)) (by simp[Value.oneCell']) (by decide) (by unfold maxLen;omega) (by omega) (by simp;omega) (c.heap.size+1) (by simp) ?_;intro d cap y I m J ay;have o:=m.block v (by simp;omega) bK;have bR:cX y v (k*2+1)=some (slice E rl F):=(gW o).trans ((gU _ _ _ a6).trans bH);have bS:y.frozen? ⟨v,k*2+1,none⟩=false:=(gV o).trans ((frozen?_alloc_past _ _ _ a6).trans bI);have a9:=m.block S (by simp;omega) bN;have bT:cX y S 0=some (slice (qX v) sh.modes.length T):=(gW a9).trans ((gU _ _ _ bO).trans bJ)))
 all_goals
  obtain⟨an,aH,ba⟩:∃an,an=y.setCell ⟨v,k*2+1,none⟩ (slice (qX d) (rl+1) cap)/\Hid (SwIs an S (D+2+4*s.size) (((sh.addAct b.act).addPush b.name).addRule k t)/\Keep S S w an):=⟨_,rfl,bP d cap y I m (by rcases J with l|l;exact .inl l;right;show c.heap.size<=d;omega)⟩
  rw[<-aH];clear aH I m J ay o bR bS a9 bT;show z _ _;apply a.out;clear a;go_wp2;go_ret;exact⟨ba.2,rfl,ba.1⟩
theorem zFE (w:World)(X:Nat->Prop)(S D:Nat)(sh:Sh)(d dv f j:Value)(rv:Nat->Value)(l:Nat->List Nat)(m:Nat->Nat)(p:Sw w X S D sh d dv f j rv l m)(ok:ShOk sh D)(B:∀k,k<sh.modes.length->(sh.mode k).2.length<=1000000)(a s:ByteArray)(b:s.size<=1000)(q:a.size<=1000):
  Calls prog 122 #[pX S,string a,string s] w (LnAns w S (D+2+4*s.size) (yV sh a s)):=by
 have r:=lY (zEp s 32) b;have u:=lY (jX s 32) b;have hcut:∀w,Calls prog 86 #[string s,int .u8 32] w λe w'=>e=returned (tuple #[string (yA s 32),string (yH s 32),bool (vM s 32)])/\Grew w w':=λw=>zCK w s (by omega) 32;have no:=zI6 w X S D sh d dv f j rv l m p ok a s b q _ _ _ r u hcut;unfold yV;cases v:vM s 32 with
 |false=>exact no λg=>by rw[v] at g;exact Bool.noConfusion g.1
 |true=>
 rw[if_pos rfl];by_cases o:sh.modes.length=0
 ·rw[if_pos o]
  exact no λg=>g.2.1 o
 rw[if_neg o];by_cases c:8<=sh.acts.length
 ·rw[if_pos c]
  exact no λg=>g.2.2.1 c
 rw[if_neg c];cases x:xM a with
 |false=>exact no λg=>by rw[x] at g;exact Bool.noConfusion g.2.2.2.1
 |true=>
 rw[if_pos rfl];cases y:(zAG (yA s 32)).ok with
 |false=>exact no λg=>by rw[y] at g;exact Bool.noConfusion g.2.2.2.2.1
 |true=>
  rw[if_pos rfl];cases z:vQ (yH s 32) sh.defs with
  |none=>exact no λg=>by have ⟨t,A⟩:=g.2.2.2.2.2;rw[z] at A;cases A
  |some t=>exact zP7 w X S D sh d dv f j rv l m p ok a s b q _ _ _ r u hcut (jX s 32) v (sh.modes.length-1) (by omega) (B _ (by omega)) c x _ rfl y t z
end
def xC (sh:Sh)(s:ByteArray):Option Sh:=if vM s 32 then(if eqS (yA s 32) ⟨#[109,111,100,101]⟩ then yG sh (yH s 32) else if eqS (yA s 32) ⟨#[108,101,116]⟩ then qO sh (yH s 32) else yV sh (yA s 32) (yH s 32)) else none
def vR (sh:Sh):Prop:=∀i,i<sh.modes.length->(sh.mode i).2.length<=sh.acts.length
theorem SwIs.deep {w:World}{S D b:Nat}{sh:Sh}(a:SwIs w S D sh)(c:D<=b):SwIs w S b sh:=by
 obtain⟨X,d,dv,e,f,rv,g,j,a⟩:=a;exact⟨X,d,dv,e,f,rv,g,j,a.deep c⟩
theorem LnAns.deep {w w':World}{S D c:Nat}{a:Option Sh}{e:Ending}(b:LnAns w S D a e w')(d:D<=c):LnAns w S c a e w':=by
 refine⟨b.1,?_⟩;cases a with
 |none=>exact b.2
 |some sh=>exact⟨b.2.1,b.2.2.deep d⟩
theorem LnAns.from {w w1 w':World}{S D:Nat}{a:Option Sh}{e:Ending}(b:LnAns w1 S D a e w')(c:Keep S S w w1):LnAns w S D a e w':=⟨c.trans b.1,b.2⟩
theorem zFG (w:World)(X:Nat->Prop)(S D:Nat)(sh:Sh)(F dv G H:Value)(rv:Nat->Value)(m:Nat->List Nat)(o:Nat->Nat)(p:Sw w X S D sh F dv G H rv m o)(ok:ShOk sh D)(few:vR sh)(s:ByteArray)(v:s.size<=1000):
  Calls prog 87 #[pX S,string s] w (LnAns w S (D+2+4*s.size) (xC sh s)):=by
 have I:=lY (zEp s 32) v;have J:=jX s 32;have y:=lY J v;have q:=vl <| zCK w s (by omega) 32;have c:Hid (xC sh s=if vM s 32 then(if eqS (yA s 32) ⟨#[109,111,100,101]⟩ then yG sh (yH s 32) else if eqS (yA s 32) ⟨#[108,101,116]⟩ then qO sh (yH s 32) else yV sh (yA s 32) (yH s 32)) else none):=rfl;have z:=p.lt;have r:Hid (∀w1,Grew w w1->Keep S S w w1):=λw1 b=>b.lower (Nat.le_of_lt z) (Nat.le_of_lt z);generalize xC sh s=W at *;generalize vM s 32=L at *;have M:Hid (∀w1,Grew w w1->Ca 120 #[pX S,string (yH s 32)] w1 (LnAns w S (D+2+4*s.size) (yG sh (yH s 32)))):=λw1 b=>(zFF w1 X S D sh _ _ _ _ rv m o (p.grown b) (by have:=ok.modes;omega) (yH s 32) (by omega)).mono λe w2 a=>(a.from (r w1 b)).deep (by omega);have N:Hid (∀w1,Grew w w1->Ca 121 #[pX S,string (yH s 32)] w1 (LnAns w S (D+2+4*s.size) (qO sh (yH s 32)))):=λw1 b=>(zGD w1 X S D sh _ _ _ _ rv m o (p.grown b) ok (yH s 32) y).mono λe w2 a=>(a.from (r w1 b)).deep (by omega);have O:Hid (∀w1,Grew w w1->Ca 122 #[pX S,string (yA s 32),string (yH s 32)] w1 (LnAns w S (D+2+4*s.size) (yV sh (yA s 32) (yH s 32)))):=λw1 b=>(zFE w1 X S D sh _ _ _ _ rv m o (p.grown b) ok (λk P=>by have:=few k P;have:=ok.acts;omega) (yA s 32) (yH s 32) y I).mono λe w2 a=>(a.from (r w1 b)).deep (by omega);generalize yA s 32=d at *;generalize yH s 32=B at *;have C:(⟨#[109,111,100,101]⟩:ByteArray).toList=[109,111,100,101]:=by rw[ByteArray.toList_eq]
 have E:(⟨#[108,101,116]⟩:ByteArray).toList=[108,101,116]:=by rw[ByteArray.toList_eq]
 cases L with
 |false=>
  have f:=vl c;rw[f.out];go_in;go_wp2_with (go_at_call 86;refine q.mono ?_;rintro e w1 ⟨rfl,g⟩)
  go_ret;exact⟨r _ g,rfl⟩
 |true=>
 cases t:eqS d ⟨#[109,111,100,101]⟩ with
 |true=>
  rw[t] at c;have f:=vl c;have T:(d.toList==[109,111,100,101])=true:=by rw[<-C];exact t
  rw[f.out];generalize yG sh B=j at *;go_in;go_wp2_with (first|(go_at_call 86;refine q.mono ?_;rintro e w1 ⟨rfl,g⟩)|(go_at_call 120;refine(M w1 g).mono ?_;intro e w2 a;obtain⟨v2,l⟩:∃v2,e=returned (bool v2):=(by have:=a.2;cases j with|none=>exact⟨false,this⟩|some x=>exact⟨true,this.1⟩);subst l))
  go_ret;exact a
 |false=>
 have T:(d.toList==[109,111,100,101])=false:=by rw[<-C];exact t
 rw[t] at c;cases u:eqS d ⟨#[108,101,116]⟩ with
 |true=>
  rw[u] at c;have f:=vl c;have U:(d.toList==[108,101,116])=true:=by rw[<-E];exact u
  rw[f.out];generalize qO sh B=j at *;go_in;go_wp2_with (first|(go_at_call 86;refine q.mono ?_;rintro e w1 ⟨rfl,g⟩)|(go_at_call 121;refine(N w1 g).mono ?_;intro e w2 a;obtain⟨v2,l⟩:∃v2,e=returned (bool v2):=(by have:=a.2;cases j with|none=>exact⟨false,this⟩|some x=>exact⟨true,this.1⟩);subst l))
  go_ret;exact a
 |false=>
  rw[u] at c;have f:=vl c;have U:(d.toList==[108,101,116])=false:=by rw[<-E];exact u
  rw[f.out];generalize yV sh d B=j at *;go_in;go_wp2_with (first|(go_at_call 86;refine q.mono ?_;rintro e w1 ⟨rfl,g⟩)|(go_at_call 122;refine(O w1 g).mono ?_;intro e w2 a;obtain⟨v2,l⟩:∃v2,e=returned (bool v2):=(by have:=a.2;cases j with|none=>exact⟨false,this⟩|some x=>exact⟨true,this.1⟩);subst l))
  go_ret;exact a
theorem zI3 {s:ByteArray}{D:Nat}{defs:List (ByteArray×Tr)}{t:Tr}(d:s.size<=1048576)(f:zBn D defs)(a:vQ s defs=some t):TrOk (D+2+4*s.size) t:=by
 unfold vQ at a;cases b:zBO s defs 8 0 false with
 |none=>rw[b] at a;cases a
 |some g=>
  obtain⟨u,q⟩:=g;rw[b] at a;have c:(if q=s.size then some u else none)=some t:=a;split at c
  ·rename_i e
   have j:=hQ c;obtain⟨-,-,k⟩:=zAr d f 8 false 0 u q b;rw[<-j,<-e];exact k
  ·cases c
theorem ShOk.deep {sh:Sh}{D b:Nat}(a:ShOk sh D)(c:D<=b):ShOk sh b:=⟨a.modes,a.defs,a.acts,a.same,a.names,λe f=>(a.trees e f).deep c,λi g t j=>(a.rules i g t j).deep c⟩
theorem zKF {s:ByteArray}(a:xM s=true):s.size<=6:=by
 unfold xM at a;rw[Bool.and_eq_true,Bool.and_eq_true] at a;exact of_decide_eq_true a.2.1
theorem zI2 {sh d:Sh}{b:ByteArray}{D:Nat}(a:yG sh b=some d)(ok:ShOk sh D)(few:vR sh):ShOk d D/\vR d:=by
 unfold yG at a;split at a
 ·cases a
 split at a
 ·cases a
 split at a
 ·rename_i g _ _
  have e:=hQ a;subst e;have j:=jY sh b;refine⟨⟨by omega,ok.defs,ok.acts,ok.same,ok.names,ok.trees,λi f t c=>?_⟩,λi f=>?_⟩
  ·by_cases e:i=sh.modes.length
   ·subst e;rw[zAF] at c;cases c
   ·rw[zAE sh b i (by omega)] at c;exact ok.rules i (by omega) t c
  ·by_cases e:i=sh.modes.length
   ·subst e;rw[zAF];exact lX
   ·rw[zAE sh b i (by omega)];exact few i (by omega)
 ·cases a
theorem zKs {sh c:Sh}{s:ByteArray}{D:Nat}(a:qO sh s=some c)(p:s.size<=1000)(ok:ShOk sh D)(few:vR sh):ShOk c (D+2+4*s.size)/\vR c:=by
 have q:=jX s 32;unfold qO at a;split at a
 ·split at a
  ·cases a
  split at a
  ·cases a
  split at a
  ·rename_i r _ j
   cases f:vQ (yH s 32) sh.defs with
   |none=>rw[f] at a;cases a
   |some t=>
    rw[f] at a;have e:=hQ a;subst e;have u:=zDq sh (yA s 32) t;have k:=(zI3 (by omega) ok.trees f).deep (show _<=D+2+4*s.size by omega);have b:=ok.deep (show D<=D+2+4*s.size by omega);refine⟨⟨b.modes,by omega,b.acts,b.same,λi v=>?_,λl m=>?_,b.rules⟩,few⟩
    ·by_cases e:i=sh.defs.length
     ·subst e;rw[zDp];exact zKF j
     ·rw[zDo sh _ t i (by omega)];exact ok.names i (by omega)
    ·have o:=m
     rcases kU.1 o with g|g
     ·exact b.trees l g
     ·rw[kY.1 g];exact k
  ·cases a
 ·cases a
theorem zI1 {sh f:Sh}{m s:ByteArray}{D:Nat}(a:yV sh m s=some f)(r:s.size<=1000)(ok:ShOk sh D)(few:vR sh):ShOk f (D+2+4*s.size)/\vR f:=by
 have v:=jX s 32;unfold yV at a;split at a
 ·split at a
  ·cases a
  split at a
  ·cases a
  split at a
  ·split at a
   ·rename_i w x _ _
    cases g:vQ (yH s 32) sh.defs with
    |none=>rw[g] at a;cases a
    |some t=>
     rw[g] at a;have e:=hQ a;subst e;have o:=(zI3 (by omega) ok.trees g).deep (show _<=D+2+4*s.size by omega);have c:=ok.deep (show D<=D+2+4*s.size by omega);generalize (zAG (yA s 32))=b at *;have j:sh.modes.length-1<sh.modes.length:=by omega
     have y:=zES ((sh.addAct b.act).addPush b.name) (sh.modes.length-1) t;have z:((sh.addAct b.act).addPush b.name).modes.length=sh.modes.length:=rfl;have p:(((sh.addAct b.act).addPush b.name).addRule (sh.modes.length-1) t).acts.length=sh.acts.length+1:=by show(sh.acts++[b.act]).length=_;rw[kX];rfl
     have A:(((sh.addAct b.act).addPush b.name).addRule (sh.modes.length-1) t).pushed.length=sh.pushed.length+1:=by show(sh.pushed++[b.name]).length=_;rw[kX];rfl
     have l:=zBi ((sh.addAct b.act).addPush b.name) (sh.modes.length-1) t j;refine⟨⟨by have:=ok.modes;omega,c.defs,by omega,by have:=ok.same;omega,c.names,c.trees,λi q u d=>?_⟩,λi q=>?_⟩
     ·by_cases e:i=sh.modes.length-1
      ·rw[e,l] at d
       rcases kU.1 d with k|k
       ·exact c.rules _ j u k
       ·rw[kY.1 k];exact o
      ·rw[zAD _ _ t i e] at d
       exact c.rules i (by omega) u d
     ·rw[p]
      by_cases e:i=sh.modes.length-1
      ·rw[e,l]
       show((sh.mode (sh.modes.length-1)).2++[t]).length<=_;rw[kX];have:=few _ j;show(sh.mode (sh.modes.length-1)).2.length+1<=_;omega
      ·rw[zAD _ _ t i e]
       have:=few i (by omega);show(sh.mode i).2.length<=_;omega
   ·cases a
  ·cases a
 ·cases a
theorem zEF {sh d:Sh}{s:ByteArray}{D:Nat}(c:xC sh s=some d)(e:s.size<=1000)(ok:ShOk sh D)(few:vR sh):ShOk d (D+2+4*s.size)/\vR d:=by
 have f:=jX s 32;unfold xC at c;split at c
 ·split at c
  ·have ⟨a,b⟩:=zI2 c ok few
   exact⟨a.deep (by omega),b⟩
  split at c
  ·have ⟨a,b⟩:=zKs c (by omega) ok few
   exact⟨a.deep (by omega),b⟩
  ·have ⟨a,b⟩:=zI1 c (by omega) ok few
   exact⟨a.deep (by omega),b⟩
 ·cases c
theorem zHv {s:ByteArray}{c:Nat}(a:vM s c=true):(yH s c).size+(yA s c).size+1=s.size:=by
 have b:zAb s c<s.size:=by unfold vM at a;exact of_decide_eq_true a
 unfold yA yH;rw[if_pos a,if_pos a,ByteArray.size_extract,ByteArray.size_extract];omega
def yD:Nat->Sh->Nat->ByteArray->Sh ⊕ Nat
 |0,sh,_,_=>.inl sh
 |f+1,sh,n,s=>if s.size=0 then .inl sh else if vM s 10 then(match xC sh (yA s 10) with
  |none=>.inr n
  |some sh'=>yD f sh' (n+1) (yH s 10)) else .inr n
def zPR (w:World)(S D:Nat)(G:Sh ⊕ Nat)(e:Ending)(w':World):Prop:=
 Keep S S w w'/\match G with
 | .inl sh=>e=returned (int i64 0)/\SwIs w' S D sh/\ShOk sh D/\vR sh
 | .inr n=>e=returned (int i64 (n:Int))
theorem zEU (w:World)(S D:Nat)(sh:Sh)(N:SwIs w S D sh)(ok:ShOk sh D)(few:vR sh)(s:ByteArray)(al:s.size<=1000):
  Calls prog 56 #[pX S,string s] w (zPR w S (D+6*s.size) (yD (s.size+1) sh 1 s)):=by
 obtain⟨m,I⟩:∃m,m=yD (s.size+1) sh 1 s:=⟨_,rfl⟩
 have O:=vl I.symm;rw[<-I];have r:Hid (SwIs w S D sh/\ShOk sh D/\vR sh):=⟨N,ok,few⟩
 go_in;go_wp2;go_loopg [5,6] (s.size+1) (λn P R wr=>∃f sh d a,n=f/\P=iX (d:Nat)/\R=string a/\a.size<=s.size/\a.size+1<=f/\d+a.size<=s.size+1/\yD f sh d a=m/\SwIs wr S (D+6*(s.size-a.size)) sh/\ShOk sh (D+6*(s.size-a.size))/\vR sh/\Keep S S w wr)
 case atStart=>exact⟨s.size+1,sh,1,s,rfl,rfl,rfl,lQ,lQ,by omega,O,by rw[Nat.sub_self];exact r.1,by rw[Nat.sub_self];exact r.2.1,r.2.2,Keep.refl _ _ _⟩
 case round=>
  obtain⟨f,g,d,a,T,rfl,rfl,am,an,ao,U,V,W,Y,aa⟩:=hrel;cases f with
  |zero=>omega
  |succ f=>
  have J:=zAN a;have j:(if a.size=0 then .inl g else if vM a 10 then(match xC g (yA a 10) with|none=>.inr d|some l=>yD f l (d+1) (yH a 10)) else .inr d)=m:=U;obtain⟨X,t,dv,u,v,rv,x,y,ab⟩:=V;have b:Hid (Sw wr X S (D+6*(s.size-a.size)) g t dv u v rv x y/\ShOk g (D+6*(s.size-a.size))/\vR g/\Keep S S w wr/\gk=f+1):=⟨ab,W,Y,aa,T⟩
  by_cases o:a.size=0
  ·rw[if_pos o] at j
   have k:=vl j.symm;rw[dQ o] at J;have ac:=vl o;go_wp2;go_ret;refine⟨b.2.2.2.1,?_⟩;rw[k.out];have L:D+6*(s.size-a.size)=D+6*s.size:=by rw[ac.out];rfl
   refine⟨rfl,⟨X,t,dv,u,v,rv,x,y,?_⟩,?_,b.2.2.1⟩
   ·rw[<-L];exact b.1
   ·rw[<-L];exact b.2.1
  rw[if_neg o] at j;rw[gG o] at J;have z:=vl <| zCK wr a (by omega) 10;have ad:vM a 10=true->(yH a 10).size+(yA a 10).size+1=a.size:=zHv;have ae:Hid ((yA a 10).size<=1000->∀w1,Grew wr w1->Ca 87 #[pX S,string (yA a 10)] w1 (LnAns wr S (D+6*(s.size-a.size)+2+4*(yA a 10).size) (xC g (yA a 10)))):=λC w1 c=>(zFG w1 X S _ g t dv u v rv x y (b.1.grown c) b.2.1 b.2.2.1 (yA a 10) C).mono λe w2 af=>af.from (c.lower (Nat.le_of_lt b.1.lt) (Nat.le_of_lt b.1.lt))
  have ag:Hid (∀l,xC g (yA a 10)=some l->(yA a 10).size<=1000->ShOk l (D+6*(s.size-a.size)+2+4*(yA a 10).size)/\vR l):=λl e C=>zEF e C b.2.1 b.2.2.1;have ah:Hid (∀w1,Grew wr w1->Keep S S wr w1):=λw1 c=>c.lower (Nat.le_of_lt b.1.lt) (Nat.le_of_lt b.1.lt);generalize yA a 10=M at *;generalize yH a 10=B at *;generalize vM a 10=ai at *;cases ai with
  |false=>
   have k:=vl j.symm;go_wp2_with (go_at_call 86;refine z.mono ?_;rintro e w1 ⟨rfl,c⟩)
   go_ret;refine⟨b.2.2.2.1.trans (ah w1 c),?_⟩;rw[k.out];rfl
  |true=>
   have ap:=ad rfl;have q:=ae (by omega);rw[if_pos rfl] at j;cases E:xC g M with
   |none=>
    rw[E] at j q;have F:=vl q;have k:=vl j.symm;go_wp2_with (first|(go_at_call 86;refine z.mono ?_;rintro e w1 ⟨rfl,c⟩)|(go_at_call 87;refine(F w1 c).mono ?_;rintro e w2 ⟨H,rfl⟩))
    go_ret;refine⟨b.2.2.2.1.trans H,?_⟩;rw[k.out];rfl
   |some p=>
    have aj:=ag p E (by omega);rw[E] at j q;have F:=vl q;have k:Hid (yD f p (d+1) B=m/\ShOk p (D+6*(s.size-a.size)+2+4*M.size)/\vR p):=⟨j,aj⟩
    go_wp2_with (first|(go_at_call 86;refine z.mono ?_;rintro e w1 ⟨rfl,c⟩)|(go_at_call 87;refine(F w1 c).mono ?_;rintro e w2 ⟨H,rfl,ak⟩))
    go_roundg f
    case measure=>rw[b.out.2.2.2.2];omega
    case rel=>exact⟨f,p,d+1,B,rfl,by go_num,rfl,by omega,by omega,by omega,k.1,ak.deep (by omega),k.2.1.deep (by omega),k.2.2,b.2.2.2.1.trans H⟩
def Sh.pushI (sh:Sh)(nm:ByteArray):Int:=if nm.size=0 then 0 else sh.modeI nm
def Sh.push (sh:Sh)(i:Nat):ByteArray:=sh.pushed.getD i ⟨#[]⟩
def Sh.there (sh:Sh):Bool:=decide (∀i,i<sh.pushed.length->0<=sh.pushI (sh.push i))
def Sh.pushesTo (sh:Sh)(j:Nat):List Int:=(List.range j).map λi=>sh.pushI (sh.push i)
theorem qD (sh:Sh)(j:Nat):(sh.pushesTo j).length=j:=by unfold Sh.pushesTo;rw[kV,List.length_range]
theorem zGE (sh:Sh)(j:Nat):sh.pushesTo (j+1)=sh.pushesTo j++[sh.pushI (sh.push j)]:=by unfold Sh.pushesTo;rw[List.range_succ,List.map_append];rfl
theorem zDB (w:World)(X:Nat->Prop)(S D:Nat)(sh:Sh)(V dv W ay:Value)(rv:Nat->Value)(Y:Nat->List Nat)(aa:Nat->Nat)(g:Sw w X S D sh V dv W ay rv Y aa)(aL:sh.modes.length<=3)(aM:sh.pushed.length<=8):
  Calls prog 57 #[pX S] w λe w'=>∃v,e=returned (tuple #[v,bool sh.there])/\(∃a n c,v=slice a n c)/\(sh.there=true->OwnI w' w.heap.size v (sh.pushesTo sh.pushed.length))/\Grew w w':=by
 have ⟨ab,ac,ad,ae,af⟩:=info_parts yW;have ⟨aN,aO,az⟩:=zF g.pOwn;subst az;obtain⟨-,-,-,aP,-⟩:=g.cells;have ag:=vl g;have ah:Hid (sh.there=decide (∀i,i<sh.pushed.length->0<=sh.pushI (sh.push i))):=rfl;generalize sh.there=ai at *;go_in;go_wp2;go_loopg [4,13] sh.pushed.length (λq aA i wr=>∃j:Nat,q=sh.pushed.length-j/\j<=sh.pushed.length/\i=iX (j:Int)/\(∀k,k<j->0<=sh.pushI (sh.push k))/\OwnI wr w.heap.size aA (sh.pushesTo j)/\Grew w wr)
 case atStart=>exact⟨0,rfl,lX,rfl,λk d=>by omega,OwnI.nil _ _,Keep.refl _ _ _⟩
 case round=>
  obtain⟨j,H,aQ,rfl,A,B,d⟩:=hrel;have ⟨ao,I,aj⟩:=OwnI.form B;rw[qD] at aj;subst aj;have b:Hid (gk=sh.pushed.length-j/\(∀k,k<j->0<=sh.pushI (sh.push k))/\OwnI wr w.heap.size (slice ao j I) (sh.pushesTo j)/\Grew w wr/\w.heap.size<=wr.heap.size):=⟨H,A,B,d,d.size⟩
  by_cases J:j<sh.pushed.length
  ·have aB:(j:Int)<(sh.pushed.length:Int):=by omega
   obtain⟨aR,aS,aC,-,ak,-,-,al,-⟩:=qH ag.pOwn (by omega);injection aC with aD aE aF;subst aD aF;clear aE;have am:(sh.pushed.map λx=>Value.string x)[j]? =some (string (sh.push j)):=by
    unfold Sh.push;rw[gZ,lV J,lW,lV J];rfl
   have aT:=zA (al _ _ am) ak d;have an:=zAN (sh.push j);have K:=vl <| zDF wr X S D sh V dv W _ rv Y aa (ag.grown d) (by omega) (sh.push j);have aq:Hid (sh.pushI (sh.push j)=if(sh.push j).size=0 then 0 else sh.modeI (sh.push j)):=rfl;have ar:Hid (0<=sh.pushI (sh.push j)->∀k,k<j+1->0<=sh.pushI (sh.push k)):=λau k d=>by
    by_cases e:k=j
    ·rw[e];exact au
    ·exact b.2.1 k (by omega)
   have aG:Hid (sh.pushI (sh.push j)<0->ai=false):=λau=>by
    rw[ah.out];exact gG λaH=>by have:=aH j J;omega
   have aw:=vl <| zGE sh j;have C:=vl <| qD sh j;have E:=zEJ sh (sh.push j);clear H A B d am al ak;generalize sh.push j=M at *;generalize sh.modeI M=N at *;generalize sh.pushI M=ax at *;generalize aI:sh.pushesTo j=F at *;clear aI;by_cases l:M.size=0
   ·rw[dQ l] at an
    have m:Hid (ax=0):=by show _=_;rw[aq.out,if_pos l]
    have f:Hid (wr.ownsRow w.heap.size 3 1 (slice ao j I) j (F.map λx=>iX x)):=by have:=b.2.2.1;unfold OwnI at this;rw[C.out] at this;exact this
    have O:w.heap.size<=wr.heap.size:=b.2.2.2.2;clear l K;go_wp2_with (at_builtin;refine wpList_append_lies _ rfl _ _ 45 rfl (w.heap.size) 3 ab zX 1 8 underlying45 ac ad ae af rfl (by decide) _ _ _ rfl (f.alloc _) ⟨wr.heap.size,0,none⟩ 1 1 [zX] rfl rfl (cell_one_new _ _ _) (by intro u o;simp at o;subst o;rfl) (by decide) (by unfold maxLen;omega) (by omega) (by simp;omega) _ rfl ?_;intro P cap w2 p r R U;have s:=xU f r O;have t:Hid (OwnI w2 w.heap.size (slice (qX P) (j+1) cap) (F++[0])/\Grew w w2):=⟨by unfold OwnI;rw[kX,C.out,List.map_append];exact p,b.2.2.2.1.trans (xS s)⟩;clear p r s R U)
    go_roundg (sh.pushed.length-(j+1))
    case measure=>rw[b.out.1];omega
    case rel=>exact⟨j+1,rfl,by omega,by go_num,ar (by rw[m.out];omega),by rw[aw.out,m.out];exact t.1,t.2⟩
   ·rw[gG l] at an
    have m:Hid (ax=N):=by show _=_;rw[aq.out,if_neg l]
    clear l;rcases E with E|⟨E,-⟩
    ·subst E
     have G:=vl <| aG (by rw[m.out];omega);go_wp2_with (go_at_call 88;refine K.mono ?_;rintro e w1 ⟨rfl,y⟩)
     refine gJ (results_tmp2 rfl _ _ _) rfl ?_;exact⟨_,by rw[G.out];rfl,⟨none,0,0,rfl⟩,λg=>(by rw[G.out] at g;cases g),b.2.2.2.1.trans (y.lower b.2.2.2.2 b.2.2.2.2)⟩
    ·apply wp_cut
     intro aJ z;go_wp2;apply z.out;clear z;apply wp_cut;intro aJ z;go_wp2;apply z.out;clear z;go_wp2_with (first|(go_at_call 88;refine K.mono ?_;rintro e w1 ⟨rfl,y⟩;have f:Hid (w1.ownsRow w.heap.size 3 1 (slice ao j I) j (F.map λx=>iX x)/\Grew w w1):=⟨by have:=zL b.2.2.1 y;unfold OwnI at this;rw[C.out] at this;exact this,b.2.2.2.1.trans (y.lower b.2.2.2.2 b.2.2.2.2)⟩;have O:w.heap.size<=w1.heap.size:=f.2.size;clear y)|(at_builtin;refine wpList_append_lies _ rfl _ _ 45 rfl (w.heap.size) 3 ab zX 1 8 underlying45 ac ad ae af rfl (by decide) _ _ _ rfl (f.1.alloc _) ⟨w1.heap.size,0,none⟩ 1 1 [iX N] rfl rfl (cell_one_new _ _ _) (by intro u o;simp at o;subst o;rfl) (by decide) (by unfold maxLen;omega) (by omega) (by simp;omega) _ rfl ?_;intro P cap w2 p r R U;have s:=xU f.1 r O;have t:Hid (OwnI w2 w.heap.size (slice (qX P) (j+1) cap) (F++[N])/\Grew w w2):=⟨by unfold OwnI;rw[kX,C.out,List.map_append];exact p,f.2.trans (xS s)⟩;clear p r s R U))
     go_roundg (sh.pushed.length-(j+1))
     case measure=>rw[b.out.1];omega
     case rel=>exact⟨j+1,rfl,by omega,by go_num,ar (by rw[m.out];omega),by rw[aw.out,m.out];exact t.1,t.2⟩
  ·have aB:(sh.pushed.length:Int)<=(j:Int):=by omega
   have e:j=sh.pushed.length:=by omega
   have G:Hid (ai=true):=by
    show _=_;rw[ah.out];exact dQ λi aU=>A i (by omega)
   have aK:=vl e;clear H A B d e;go_wp2;refine gJ (results_tmp2 rfl _ _ _) rfl ?_;refine⟨_,by rw[G.out];rfl,⟨_,_,_,rfl⟩,λ_=>?_,b.2.2.2.1⟩;rw[<-aK.out];exact b.2.2.1
def Sh.haveB (sh:Sh):Bool:=decide (0<sh.modes.length/\∀i,i<sh.modes.length->0<(sh.mode i).2.length)
def yS (l:List Tr):Nat->Nat
 |0=>0
 |j+1=>yS l j+(l.getD j Tr.none).chars
def Sh.fitB (sh:Sh):Bool:=decide (∀i,i<sh.modes.length->yS (sh.mode i).2 (sh.mode i).2.length<=24)
theorem zDd {w:World}{X:Nat->Prop}{S D:Nat}{sh:Sh}{dv o p:Value}{rv:Nat->Value}{q:Nat->List Nat}{r:Nat->Nat}{ao:Option Addr}{s j:Nat}(d:Sw w X S D sh (slice ao sh.modes.length s) dv o p rv q r)(e:j<sh.modes.length){wr:World}(f:Grew w wr):
  ∃a b c,ao=some ⟨a,0,none⟩/\rv j=slice b (sh.mode j).2.length c/\wr.cell? ⟨a,j*2,none⟩=some (string (sh.mode j).1)/\wr.cell? ⟨a,j*2+1,none⟩=some (slice b (sh.mode j).2.length c):=by
 obtain⟨a,x,t,-,g,-,-,k,-⟩:=qH d.mOwn (by omega);injection t with u y z;have ⟨b,c,l⟩:=zF (d.rOwn j e);have ⟨v,m⟩:=zBp (λi=>string (sh.mode i).1) rv sh.modes.length j e;rw[l] at m;exact⟨a,b,c,u,l,zA (k _ _ v) g f,zA (k _ _ m) g f⟩
theorem zEZ (w:World)(X:Nat->Prop)(S D:Nat)(sh:Sh)(E dv F G:Value)(rv:Nat->Value)(H:Nat->List Nat)(I:Nat->Nat)(d:Sw w X S D sh E dv F G rv H I)(ac:sh.modes.length<=3):
  Calls prog 58 #[pX S] w λe w'=>e=returned (bool sh.haveB)/\Grew w w':=by
 have ⟨ao,J,K⟩:=zF d.mOwn;subst K;obtain⟨c0,-,-,-,-⟩:=d.cells;have L:=vl d;have u:Hid (sh.haveB=decide (0<sh.modes.length/\∀i,i<sh.modes.length->0<(sh.mode i).2.length)):=rfl;generalize sh.haveB=f at *;have M:S<w.heap.size:=d.lt;have N:Hid (∀wr,Grew w wr->wr.cell? ⟨S,0,none⟩=some (slice ao sh.modes.length J)):=λwr a=>zA c0 M a;go_in;go_wp2;go_loopg [10] sh.modes.length (λq i wr=>∃j:Nat,q=sh.modes.length-j/\j<=sh.modes.length/\i=iX (j:Int)/\(∀k,k<j->0<(sh.mode k).2.length)/\Grew w wr)
 case atStart=>exact⟨0,rfl,lX,rfl,λk a=>by omega,Keep.refl _ _ _⟩
 case round=>
  obtain⟨j,v,ad,rfl,o,a⟩:=hrel;have b:Hid (gk=sh.modes.length-j/\(∀k,k<j->0<(sh.mode k).2.length)/\Grew w wr/\w.heap.size<=wr.heap.size):=⟨v,o,a,a.size⟩
  by_cases x:j<sh.modes.length
  ·have O:(j:Int)<(sh.modes.length:Int):=by omega
   obtain⟨ae,p,r,rfl,-,P,R⟩:=zDd L x a;obtain⟨g,y,af,z⟩:∃g,g=wr.alloc (.cells #[string (sh.mode j).1,slice p (sh.mode j).2.length r] 120)/\g.cell? ⟨wr.heap.size,1,none⟩=some (slice p (sh.mode j).2.length r)/\Hid (Grew w g):=by
    have U:=gY wr (.cells #[string (sh.mode j).1,slice p (sh.mode j).2.length r] 120);refine⟨_,rfl,?_,b.2.2.1.trans (kZ _ _ b.2.2.2)⟩;unfold cell?;rw[U];rfl
   have V:Hid (0<(sh.mode j).2.length->∀k,k<j+1->0<(sh.mode k).2.length):=λA k a=>by
    by_cases e:k=j
    ·rw[e];exact A
    ·exact b.2.1 k (by omega)
   have W:Hid ((sh.mode j).2.length=0->f=false):=λA=>by
    rw[u.out];exact gG λs=>by have:=s.2 j x;omega
   generalize (sh.mode j).2.length=rl at *;apply wp_cut;intro B c;go_wp2;apply c.out;apply wp_cut;intro B c;go_wp2;apply c.out;apply wp_cut;intro ag C;refine wp_block ?_;apply wp_cut;intro B c;go_wp2;apply c.out;rw[<-y];clear y P R;by_cases l:rl=0
   ·have m:=vl <| W l
    have Y:((rl:Int)==0)=true:=by rw[l];rfl
    clear l;go_wp2;go_ret;exact⟨by rw[m.out];rfl,z⟩
   ·have aa:=V (by omega)
    have Y:((rl:Int)==0)=false:=by rw[hX];omega
    clear l;go_wp2;apply C.out;clear C;go_wp2;go_roundg (sh.modes.length-(j+1))
    case measure=>rw[b.out.1];omega
    case rel=>exact⟨j+1,rfl,by omega,by go_num,aa,z⟩
  ·have O:(sh.modes.length:Int)<=(j:Int):=by omega
   have c0:=N wr a;have m:Hid (f=decide (0<sh.modes.length)):=by
    show _=_;rw[u.out];by_cases e:0<sh.modes.length
    ·rw[dQ e];exact dQ ⟨e,λi ah=>o i (by omega)⟩
    ·rw[gG e];exact gG λs=>e s.1
   clear v o a;by_cases e:0<sh.modes.length
   ·have ab:(0:Int)<(sh.modes.length:Int):=by omega
    have t:Hid (f=true):=by show _=_;rw[m.out];exact dQ e
    clear e;go_wp2;go_ret;exact⟨by rw[t.out];first|rfl|(simp;done)|(simp;omega),b.2.2.1⟩
   ·have ab:(sh.modes.length:Int)<=0:=by omega
    have t:Hid (f=false):=by show _=_;rw[m.out];exact gG e
    clear e;go_wp2;go_ret;exact⟨by rw[t.out];first|rfl|(simp;done)|(simp;omega)|(simp;exact List.length_eq_zero_iff.1 (by omega)),b.2.2.1⟩
theorem zK7 (l:List Tr)(a:∀t∈l,t.chars<=25)(j:Nat)(d:j<=l.length):yS l j<=25*j:=by
 induction j with
 |zero=>exact lQ
 |succ j b=>
  have e:=b (by omega);have c:l.getD j Tr.none∈l:=by
   rw[lW,lV (by omega:j<l.length)];exact List.getElem_mem _
  have f:=a _ c;show yS l j+(l.getD j Tr.none).chars<=_;omega
theorem zGi (w:World)(X:Nat->Prop)(S D:Nat)(sh:Sh)(Y dv H I:Value)(rv:Nat->Value)(b:Nat->List Nat)(J:Nat->Nat)(z:Sw w X S D sh Y dv H I rv b J)(ok:ShOk sh D)(few:vR sh):
  Calls prog 59 #[pX S] w λe w'=>e=returned (bool sh.fitB)/\Grew w w':=by
 have ⟨ao,aa,ab⟩:=zF z.mOwn;subst ab;obtain⟨c0,-,-,-,-⟩:=z.cells;have f:Hid (Sw w X S D sh (slice ao sh.modes.length aa) dv H I rv b J/\ShOk sh D/\vR sh):=⟨z,ok,few⟩
 have aD:=ok.modes;have K:Hid (sh.fitB=decide (∀i,i<sh.modes.length->yS (sh.mode i).2 (sh.mode i).2.length<=24)):=rfl;generalize sh.fitB=M at *;go_in;go_wp2;go_loopg [13] sh.modes.length (λq i wr=>∃j:Nat,q=sh.modes.length-j/\j<=sh.modes.length/\i=iX (j:Int)/\(∀k,k<j->yS (sh.mode k).2 (sh.mode k).2.length<=24)/\Grew w wr)
 case atStart=>exact⟨0,rfl,lX,rfl,λk m=>by omega,Keep.refl _ _ _⟩
 case round=>
  obtain⟨j,N,aE,rfl,A,m⟩:=hrel;have r:Hid (gk=sh.modes.length-j/\(∀k,k<j->yS (sh.mode k).2 (sh.mode k).2.length<=24)/\Grew w wr/\w.heap.size<=wr.heap.size):=⟨N,A,m,m.size⟩
  by_cases g:j<sh.modes.length
  ·have ac:(j:Int)<(sh.modes.length:Int):=by omega
   obtain⟨aF,v,B,rfl,ad,ae,af⟩:=zDd f.1 g m;obtain⟨o,O,ag,x⟩:∃o,o=wr.alloc (.cells #[string (sh.mode j).1,slice v (sh.mode j).2.length B] 120)/\o.cell? ⟨wr.heap.size,1,none⟩=some (slice v (sh.mode j).2.length B)/\Hid (Grew w o):=by
    have ah:=gY wr (.cells #[string (sh.mode j).1,slice v (sh.mode j).2.length B] 120);refine⟨_,rfl,?_,r.2.2.1.trans (kZ _ _ r.2.2.2)⟩;unfold cell?;rw[ah];rfl
   have ai:Hid (yS (sh.mode j).2 (sh.mode j).2.length<=24->∀k,k<j+1->yS (sh.mode k).2 (sh.mode k).2.length<=24):=λP k m=>by
    by_cases e:k=j
    ·rw[e];exact P
    ·exact r.2.1 k (by omega)
   have aj:Hid (24<yS (sh.mode j).2 (sh.mode j).2.length->M=false):=λP=>by
    rw[K.out];exact gG λak=>by have:=ak j g;omega
   have al:Hid (∀i,i<(sh.mode j).2.length->∃s p,v=some ⟨s,0,none⟩/\o.cell? ⟨s,i,none⟩=some (pX p)/\o.cell? ⟨p,7,none⟩=some (iX (((sh.mode j).2.getD i Tr.none).chars:Int))/\((sh.mode j).2.getD i Tr.none).chars<=25):=λi C=>by
    obtain⟨s,aG,R,-,am,-,-,an,-⟩:=qH (f.1.rOwn j g) (by omega);rw[ad] at R;injection R with ap aH aI;have aJ:(b j).length=(sh.mode j).2.length:=by
     have:=(f.1.rOwn j g).1;unfold yI at this;rw[kV] at this;omega
    have aq:(yI (b j))[i]? =some (pointer (some ⟨(b j).getD i 0,0,none⟩)):=by
     unfold yI;rw[gZ,lV (by omega:i<(b j).length),lW,lV (by omega:i<(b j).length)];rfl
    have u:=f.1.rTree j g i C;have ar:In w ((b j).getD i 0):=by
     cases D with
     |zero=>exact False.elim u.at
     |succ aK=>exact u.at.1
    have au:(sh.mode j).2.getD i Tr.none∈(sh.mode j).2:=by
     rw[lW,lV C];exact List.getElem_mem _
    exact⟨s,_,ap,zA (an _ _ aq) am x,zA u.chars ar x,(f.2.1.rules j g _ au).few⟩
   have aL:(sh.mode j).2.length<=8:=lY (f.2.2 j g) f.2.1.acts;have U:=vl <| zK7 _ λt u=>(f.2.1.rules j g t u).few;generalize (sh.mode j).2=a at *;apply wp_cut;intro V l;go_wp2;apply l.out;clear l;apply wp_cut;intro V l;go_wp2;apply l.out;clear l;apply wp_cut;intro aM W;refine wp_block ?_;apply wp_cut;intro V l;go_wp2;apply l.out;clear l;rw[<-O];clear O ae af;go_wp2;clear ag;go_loopg [5,20] a.length (λq c i w2=>∃k:Nat,q=a.length-k/\k<=a.length/\c=iX (yS a k:Nat)/\i=iX (k:Int)/\w2=o)
   case atStart=>exact⟨0,rfl,lX,rfl,rfl,rfl⟩
   case round=>
    obtain⟨k,E,m,rfl,rfl,rfl⟩:=hrel;have aw:=vl E;by_cases ax:k<a.length
    ·have ay:(k:Int)<(a.length:Int):=by omega
     obtain⟨s,p,rfl,aN,aO,aP⟩:=al k ax;have az:=U k (by omega);have aA:Hid (yS a (k+1)=yS a k+(a.getD k Tr.none).chars):=rfl;clear E;generalize (a.getD k Tr.none).chars=aQ at *;generalize yS a k=y at *;go_wp2;go_roundg (a.length-(k+1))
     case measure=>rw[aw.out];omega
     case rel=>exact⟨k+1,rfl,by omega,by rw[aA.out];go_num,by go_num,rfl⟩
    ·have ay:(a.length:Int)<=(k:Int):=by omega
     have e:k=a.length:=by omega
     subst e;have az:=U a.length lQ;clear E;generalize yS a a.length=y at *;by_cases F:24<y
     ·have G:=vl <| aj F
      have aB:(24:Int)<(y:Int):=by omega
      clear F;go_wp2;go_ret;exact⟨by rw[G.out];rfl,x⟩
     ·have aC:=vl <| ai (by omega)
      have aB:(y:Int)<=24:=by omega
      clear F;go_wp2;apply W.out;clear W;go_wp2;go_roundg (sh.modes.length-(j+1))
      case measure=>rw[r.out.1];omega
      case rel=>exact⟨j+1,rfl,by omega,by go_num,aC,x⟩
  ·have ac:(sh.modes.length:Int)<=(j:Int):=by omega
   have G:Hid (M=true):=by
    show _=_;rw[K.out];exact dQ λi C=>A i (by omega)
   clear N A m;go_wp2;go_ret;exact⟨by rw[G.out];rfl,r.2.2.1⟩
section
variable {w2 v b:World} {S D:Nat} {sh:Sh} (a:SwIs v S D sh) (d:Keep S S w2 v) (c:Grew v b)
def jJ (s:ByteArray):Sh ⊕ (Nat×Nat):=
 if 400<s.size then .inr (0,1) else
 match yD (s.size+1) Sh.none 1 s with
 | .inr n=>.inr (n,2)
 | .inl sh=>if sh.there&&sh.haveB then(if sh.fitB then .inl sh else .inr (0,4)) else .inr (0,3)
theorem zHe:∀f sh n s m,yD f sh n s=.inr m->n<=m
 |0,_,_,_,_,b=>by cases b
 |f+1,sh,n,s,m,b=>by
  have a:(if s.size=0 then .inl sh else if vM s 10 then(match xC sh (yA s 10) with|none=>.inr n|some c=>yD f c (n+1) (yH s 10)) else .inr n)=(.inr m:Sh ⊕ Nat):=b;split at a
  ·cases a
  split at a
  ·cases d:xC sh (yA s 10) with
   |none=>rw[d] at a;cases a;exact lQ
   |some c=>
    rw[d] at a;exact Nat.le_of_succ_le (zHe f c (n+1) _ m a)
  ·cases a;exact lQ
theorem Sw.low {w w2:World}{X:Nat->Prop}{S D:Nat}{sh:Sh}{m dv o p:Value}{rv:Nat->Value}{q:Nat->List Nat}{r:Nat->Nat}(a:Sw w X S D sh m dv o p rv q r)(f:w2.os=w.os)(u:w2.output=w.output)(j:w.heap.size<=w2.heap.size)(l:∀k,S<=k->k<w.heap.size->w2.heap[k]? =w.heap[k]?):Sw w2 X S D sh m dv o p rv q r:=by
 have c:∀{e s n v xs},w.ownsRow (S+1) e s v n xs->w2.ownsRow (S+1) e s v n xs:=λf=>zE f λg A d _=>l g (by omega) d;have t:Agree X w w2:=⟨f,u,j,λi b x=>l i (Nat.le_of_lt (a.xlt i x).1) b⟩
 exact⟨(l S lQ a.lt).trans a.blk,c a.mOwn,c a.dOwn,c a.aOwn,c a.pOwn,λi b=>c (a.rOwn i b),a.rApart,λi b k y=>(a.rTree i b k y).go t,λi b=>(a.dTree i b).go t,λg d=>⟨(a.xlt g d).1,lZ (a.xlt g d).2 j⟩,a.xm,a.xr,lZ a.lt j⟩
structure SpecIs (w:World)(D:Nat)(mv av pv:Value)(sh:Sh):Prop where
 sheet:∃X S dv qv rv ps dp,Sw w X S D sh mv dv av qv rv ps dp
 pushes:Ints w (In w) pv (sh.pushesTo sh.pushed.length)
 ok:ShOk sh D
 few:vR sh
 there:sh.there=true
 have_:sh.haveB=true
 fit:sh.fitB=true
def zFe (w:World)(D:Nat)(G:Sh ⊕ (Nat×Nat))(e:Ending)(w':World):Prop:=
 Grew w w'/\match G with
 | .inr (n,k)=>e=returned (tuple #[agg #[slice none 0 0,slice none 0 0,slice none 0 0],int i64 (n:Int),int i64 (k:Int)])
 | .inl sh=>∃mv av pv,e=returned (tuple #[agg #[mv,av,pv],int i64 0,int i64 0])/\SpecIs w' D mv av pv sh
def zQB (w w2:World):Prop:=Hid (w2.heap[w.heap.size]? =some (.cells #[slice none 0 0,slice none 0 0,slice none 0 0] 79)/\Grew w w2)/\w2.cell? ⟨w.heap.size,0,none⟩=some (slice none 0 0)/\w2.cell? ⟨w.heap.size,1,none⟩=some (slice none 0 0)/\w2.cell? ⟨w.heap.size,2,none⟩=some (slice none 0 0)/\w2.frozen? ⟨w.heap.size,0,none⟩=false/\w2.frozen? ⟨w.heap.size,1,none⟩=false/\w2.frozen? ⟨w.heap.size,2,none⟩=false
theorem zBB (w w2:World)(u v q:Value)(b:Hid (w2.heap[w.heap.size]? =some (.cells #[nX,nX,nX] 79)/\Grew w w2)):
  ∃a,a=((w2.setCell ⟨w.heap.size,0,none⟩ u).setCell ⟨w.heap.size,1,none⟩ v).setCell ⟨w.heap.size,2,none⟩ q/\a.cell? ⟨w.heap.size,0,none⟩=some u/\a.cell? ⟨w.heap.size,1,none⟩=some v/\a.cell? ⟨w.heap.size,2,none⟩=some q/\Hid (Grew w a/\a.heap.size=w2.heap.size/\a.os=w2.os/\a.output=w2.output/\∀k,k≠w.heap.size->a.heap[k]? =w2.heap[k]?):=by
 obtain⟨b,d⟩:=b;have e:(((w2.setCell ⟨w.heap.size,0,none⟩ u).setCell ⟨w.heap.size,1,none⟩ v).setCell ⟨w.heap.size,2,none⟩ q).heap[w.heap.size]? =some (.cells #[u,v,q] 79):=by
  simp[setCell,lU,b]
 have c:∀i,i≠w.heap.size->(((w2.setCell ⟨w.heap.size,0,none⟩ u).setCell ⟨w.heap.size,1,none⟩ v).setCell ⟨w.heap.size,2,none⟩ q).heap[i]? =w2.heap[i]? :=λi f=>by
  simp[setCell,lU,Ne.symm f]
 refine⟨_,rfl,?_,?_,?_,d.trans ⟨rfl,rfl,by simp[World.setCell],λk g _=>c k (by omega)⟩,by simp[World.setCell],rfl,rfl,c⟩
 all_goals (unfold cell?;rw[e];rfl)
theorem zIP {w w2:World}(a:Keep (w.heap.size+1) (w.heap.size+1) (w.alloc (.cells #[nX,nX,nX] 79)) w2):zQB w w2:=by
 have d:=gY w (.cells #[nX,nX,nX] 79);have c:=(a.block w.heap.size (by omega) (by omega)).trans d;refine⟨⟨c,(kZ (H:=w.heap.size) (b:=w.heap.size) _ _ lQ).trans ⟨a.os,a.output,a.size,λk d c=>a.block k (by omega) (by omega)⟩⟩,?_,?_,?_,?_,?_,?_⟩
 all_goals first|(unfold cell?;rw[c];rfl)|(unfold frozen?;rw[c];simp)
theorem zMi (w:World):SwIs (w.alloc (.cells #[nX,nX,nX,nX] 114)) w.heap.size 1 Sh.none:=by
 refine⟨λ_=>False,_,_,_,_,λ_=>nX,λ_=>[],λ_=>0,gY _ _,ownsRow_nil _ _ _ _,ownsRow_nil _ _ _ _,ownsRow_nil _ _ _ _,ownsRow_nil _ _ _ _,λi a=>absurd a (Nat.not_lt_zero _),λi j g a=>absurd a (Nat.not_lt_zero _),λi a=>absurd a (Nat.not_lt_zero _),λi a=>absurd a (Nat.not_lt_zero _),λg b=>b.elim,λg b=>b.elim,λg i b=>b.elim,by simp⟩
theorem zG7 (D:Nat):ShOk Sh.none D:=⟨by show 0<=3;omega,by show 0<=4;omega,by show 0<=8;omega,rfl,λi a=>absurd a (Nat.not_lt_zero _),λc b=>(by cases b),λi a=>absurd a (Nat.not_lt_zero _)⟩
theorem zKB:vR Sh.none:=λi a=>absurd a (Nat.not_lt_zero _)
theorem zKk (w:World)(s:ByteArray):∃w1 w2,w1=w.alloc (.cells #[nX,nX,nX] 79)/\w2=w1.alloc (.cells #[nX,nX,nX,nX] 114)/\Hid (∀v,Keep (w.heap.size+1) (w.heap.size+1) w2 v->zQB w v)/\Hid (w1.heap.size=w.heap.size+1)/\Hid (zQB w w1)/\(s.size<=400->Hid (Calls prog 56 #[pointer (some ⟨w.heap.size+1,0,none⟩),string s] w2 (zPR w2 (w.heap.size+1) (1+6*s.size) (yD (s.size+1) Sh.none 1 s)))):=by
 have a:(w.alloc (.cells #[nX,nX,nX] 79)).heap.size=w.heap.size+1:=by simp
 refine⟨_,_,rfl,rfl,λv b=>zIP ((kZ _ _ (by rw[a];omega)).trans b),a,zIP (Keep.refl _ _ _),λc=>?_⟩;have:=zMi (w.alloc (.cells #[nX,nX,nX] 79));rw[a] at this;exact zEU _ _ 1 Sh.none this (zG7 1) zKB s (by omega)
theorem SwIs.grew (a:SwIs v S D sh)(d:Keep S S w2 v)(c:Grew v b):SwIs b S D sh/\Keep S S w2 b/\S<v.heap.size:=by
 obtain⟨X,e,dv,f,g,rv,j,k,a⟩:=a;exact⟨⟨X,e,dv,f,g,rv,j,k,a.grown c⟩,d.trans (c.lower (Nat.le_of_lt a.lt) (Nat.le_of_lt a.lt)),a.lt⟩
theorem zP8 (b:SwIs v S D sh)(ok:ShOk sh D):Calls prog 57 #[pX S] v λe w'=>∃u,e=returned (tuple #[u,bool sh.there])/\(∃a n c,u=slice a n c)/\(sh.there=true->OwnI w' v.heap.size u (sh.pushesTo sh.pushed.length))/\Grew v w':=by
 obtain⟨X,d,dv,f,g,rv,j,k,b⟩:=b;exact zDB v X _ _ sh d dv f g rv j k b ok.modes (by rw[ok.same];exact ok.acts)
theorem zQm (a:SwIs v S D sh)(ok:ShOk sh D):Calls prog 58 #[pX S] v λe w'=>e=returned (bool sh.haveB)/\Grew v w':=by
 obtain⟨X,b,dv,c,d,rv,f,g,a⟩:=a;exact zEZ v X _ _ sh b dv c d rv f g a ok.modes
theorem zQs (a:SwIs v S D sh)(ok:ShOk sh D)(few:vR sh):Calls prog 59 #[pX S] v λe w'=>e=returned (bool sh.fitB)/\Grew v w':=by
 obtain⟨X,b,dv,c,d,rv,f,g,a⟩:=a;exact zGi v X _ _ sh b dv c d rv f g a ok few
theorem zAV (w:World)(s:ByteArray)(a0:s.size<=1048576):Calls prog 43 #[string s] w (zFe w (1+6*s.size) (jJ s)):=by
 have ⟨w1,w2,P,ar,R,a1,au,aw⟩:=zKk w s;obtain⟨B,ax⟩:∃B,B=jJ s:=⟨_,rfl⟩
 have T:=vl ax;rw[<-ax];go_in;apply wp_cut;intro c a;go_wp2;apply a.out;rcases Nat.lt_or_ge 400 s.size with ag|ag
 ·have b:B=.inr (0,1):=by rw[T.out];unfold jJ;rw[if_pos ag]
  rw[b,<-P];clear P;have aF:(400:Int)<(s.size:Int):=by omega
  have ⟨o,c0,c1,c2,U,V,W⟩:=au.out;go_wp2;have ⟨C,p,d,f,j,q⟩:=zBB w w1 nX nX nX o;rw[<-p];refine gJ (v:=tuple #[agg #[nX,nX,nX],zX,iX 1]) (by simp[results,results43,go_sem,d,f,j]) rfl ?_;exact⟨q.1,rfl⟩
 have aF:(s.size:Int)<=400:=by omega
 have x:=aw ag;clear aw;apply wp_cut;intro c a;go_wp2;apply a.out;clear a;apply wp_cut;intro c a;go_wp2;apply a.out;rw[<-P,<-ar];clear P ar a au;rcases t:yD (s.size+1) Sh.none 1 s with sh|n;rotate_left
 ·rw[t] at x
  have b:B=.inr (n,2):=by rw[T.out];unfold jJ;rw[if_neg (by omega),t]
  rw[b];have a2:(0:Int)<(n:Int):=by have:=zHe _ _ _ _ _ t;omega
  clear t;go_wp2_with (go_at_call 56;refine x.mono ?_;rintro e v ⟨l,rfl⟩;have ⟨o,c0,c1,c2,U,V,W⟩:=R v l)
  have ⟨C,p,d,f,j,q⟩:=zBB w v nX nX nX o;rw[<-p];refine gJ (v:=tuple #[agg #[nX,nX,nX],iX (n:Int),iX 2]) (by simp[results,results43,go_sem,d,f,j]) rfl ?_;exact⟨q.1,rfl⟩
 rw[t] at x;have b:Hid (B=if sh.there&&sh.haveB then(if sh.fitB then .inl sh else .inr (0,4)) else .inr (0,3)):=by show _=_;rw[T.out];unfold jJ;rw[if_neg (by omega),t]
 clear t T;have E:=vl λv F ok=>zP8 (v:=v) (S:=w.heap.size+1) (D:=1+6*s.size) (sh:=sh) F ok;have I:=vl λv F ok=>zQm (v:=v) (S:=w.heap.size+1) (D:=1+6*s.size) (sh:=sh) F ok;have J:=vl λv F ok few=>zQs (v:=v) (S:=w.heap.size+1) (D:=1+6*s.size) (sh:=sh) F ok few;rcases y:sh.there with _|_;rotate_left;rcases z:sh.haveB with _|_;rotate_left;rcases A:sh.fitB with _|_;rotate_left
 ·rw[y] at E
  rw[z] at I;rw[A] at J;rw[y,z,A] at b;have ah:=vl (And.intro y (And.intro z A));clear y z A;apply wp_cut;intro c a;go_wp2_with (go_at_call 56;refine x.mono ?_;rintro e ay ⟨az,rfl,ai,K,aj⟩)
  apply a.out;clear a;apply wp_cut;intro c a;go_wp2;apply a.out;clear a;apply wp_cut;intro c a;go_wp2_with (go_at_call 57;refine(E ay ai K).mono ?_;rintro e aG ⟨aH,rfl,⟨L,M,N,rfl⟩,aA,r⟩;have ⟨ak,hK4,aB⟩:=ai.grew az r)
  apply a.out;clear a;apply wp_cut;intro c a;go_wp2_with (go_at_call 58;refine(I aG ak K).mono ?_;rintro e aI ⟨rfl,al⟩;obtain⟨an,hK5,-⟩:=ak.grew hK4 al)
  apply a.out;clear a;apply wp_cut;intro c a;go_wp2_with (go_at_call 59;refine(J aI an K aj).mono ?_;rintro e ao ⟨rfl,ap⟩;obtain⟨aJ,hK6,-⟩:=an.grew hK5 ap)
  apply a.out;clear a;obtain⟨X,a3,dv,a5,aK,rv,aL,aM,O⟩:=aJ;have ⟨Y,ab,aN⟩:=zF O.mOwn;have ⟨ac,ad,aO⟩:=zF O.aOwn;subst aN aO;obtain⟨aP,-,aQ,-,-⟩:=O.cells;have ⟨o,c0,c1,c2,U,V,W⟩:=R ao hK6;have ⟨C,p,d,f,j,q⟩:=zBB w ao (slice Y sh.modes.length ab) (slice ac sh.acts.length ad) (slice L M N) o;have aR:=vl (zL (zL (aA trivial) al) ap);have ae:=vl (And.intro O (And.intro K (And.intro aj aB)));clear o O aA r al ap ai K aj az ak an hK4 hK5 hK6 aB x E I J R;apply wp_cut;intro c a;go_region
  all_goals
   rw[<-p];obtain⟨u,aC,aS,aT,aU,aD⟩:∃u,u=C.drew/\cX u w.heap.size 0=some (slice Y sh.modes.length ab)/\cX u w.heap.size 1=some (slice ac sh.acts.length ad)/\cX u w.heap.size 2=some (slice L M N)/\Hid (Grew w u/\SpecIs u (1+6*s.size) (slice Y sh.modes.length ab) (slice ac sh.acts.length ad) (slice L M N) sh):=by
    have ⟨af,aV,aW,aX,aE⟩:=q.out;have a6:C.drew.heap.size=ao.heap.size:=aV;refine⟨_,rfl,d,f,j,⟨af.os,af.output,af.size,af.block⟩,⟨⟨X,_,dv,aK,rv,aL,aM,ae.1.low aW aX (by omega) λk aY _=>aE k (by omega)⟩,zA0 (H:=ay.heap.size) (zE aR λg aY _ _=>aE g (by have:=ae.2.2.2;omega)),ae.2.1,ae.2.2.1,ah.1,ah.2.1,ah.2.2⟩⟩
   rw[<-aC];show c _ _;apply a.out;clear a;clear p aC d f j aP aQ c0 c1 c2 U V W;go_wp2;refine gJ (v:=tuple #[agg #[slice Y sh.modes.length ab,slice ac sh.acts.length ad,slice L M N],zX,zX]) (by simp[results,results43,go_sem,aS,aT,aU]) rfl ?_;rw[b.out];exact⟨aD.1,_,_,_,rfl,aD.2⟩
 all_goals
  rw[y] at E b
  try rw[z] at I b
  try rw[A] at J b
  clear y
  try clear z
  try clear A
  go_wp2_with ((first|(go_at_call 56;refine x.mono ?_;rintro e v ⟨l,rfl,m,aq,aZ⟩)|(go_at_call 57;refine(E v m aq).mono ?_;rintro e v ⟨aH,rfl,⟨L,M,N,rfl⟩,-,r⟩;obtain⟨m,l,-⟩:=m.grew l r)|(go_at_call 58;refine(I v m aq).mono ?_;rintro e v ⟨rfl,r⟩;obtain⟨m,l,-⟩:=m.grew l r)|(go_at_call 59;refine(J v m aq aZ).mono ?_;rintro e v ⟨rfl,r⟩;obtain⟨m,l,-⟩:=m.grew l r));have ⟨o,c0,c1,c2,U,V,W⟩:=R v l)
  have ⟨C,p,d,f,j,q⟩:=zBB w v nX nX nX o;rw[<-p]
  first
  |(refine gJ (v:=tuple #[agg #[nX,nX,nX],zX,iX 3]) (by simp[results,results43,go_sem,d,f,j];done) rfl ?_;rw[b.out];exact⟨q.1,rfl⟩)
  |(refine gJ (v:=tuple #[agg #[nX,nX,nX],zX,iX 4]) (by simp[results,results43,go_sem,d,f,j];done) rfl ?_;rw[b.out];exact⟨q.1,rfl⟩)
end
section
structure Mk.Tab (m:Mk)(nr:Int):Prop where
 one:1<=m.next.length
 wide:∀row∈m.next,row.length=256/\∀x∈row,0<=x/\x<(m.next.length:Int)
 rules:∀r∈m.rules,-1<=r/\r<nr
 of:∀x∈m.of,0<=x/\x<(m.next.length:Int)
def Mk.Inr (m:Mk)(x:Int):Prop:=0<=x/\x<(m.next.length:Int)
theorem Mk.Inr.grow {m a:Mk}{x:Int}(b:m.Inr x)(c:m.next.length<=a.next.length):a.Inr x:=⟨b.1,by have:=b.2;omega⟩
theorem zIv (x:Int)(a:x∈zeros):x=0:=List.eq_of_mem_replicate a
section
variable {m:Mk} {nr:Int} {most:Nat}
theorem zLX (c:m.Tab nr){r:Int}(f:-1<=r/\r<nr):(m.add most r).Tab nr:=by
 unfold Mk.add;split
 ·exact⟨c.one,c.wide,c.rules,c.of⟩
 ·have k:(m.next++[zeros]).length=m.next.length+1:=by simp
  refine⟨by show 1<=(m.next++[zeros]).length;omega,λrow g=>?_,λq j=>?_,λx e=>?_⟩
  ·show _/\∀x∈row,0<=x/\x<((m.next++[zeros]).length:Int)
   rcases kU.1 g with d|d
   ·have ⟨a,b⟩:=c.wide row d
    exact⟨a,λx e=>by have:=b x e;omega⟩
   ·rw[kY.1 d]
    exact⟨by unfold zeros;exact List.length_replicate,λx e=>by rw[zIv x e];omega⟩
  ·rcases kU.1 j with d|d
   ·exact c.rules q d
   ·rw[kY.1 d];exact f
  ·show 0<=x/\x<((m.next++[zeros]).length:Int)
   have:=c.of x e;omega
theorem zIs (a:m.Tab nr)(r:Int):(m.add most r).Inr (m.addN most:Int):=by
 have:=a.one;unfold Mk.add Mk.addN Mk.Inr;split
 ·show(0:Int)<=((0:Nat):Int)/\((0:Nat):Int)<(m.next.length:Int)
  omega
 ·show(0:Int)<=(m.next.length:Int)/\(m.next.length:Int)<((m.next++[zeros]).length:Int)
  have b:(m.next++[zeros]).length=m.next.length+1:=by simp
  omega
theorem zLv (d:m.Tab nr)(s b:Nat){x:Int}(l:m.Inr x):(m.put s b x).Tab nr:=by
 have e:=zDA m s b x;refine⟨by rw[e];exact d.one,λrow o=>?_,d.rules,λy f=>by rw[e];exact d.of y f⟩;rw[e];have g:row∈m.next.set s ((m.next.getD s []).set b x):=o
 rcases List.mem_or_eq_of_mem_set g with j|j
 ·exact d.wide row j
 ·by_cases p:s<m.next.length
  ·have q:m.next.getD s []∈m.next:=by
    rw[lW,lV p];exact List.getElem_mem _
   have ⟨a,c⟩:=d.wide _ q;rw[j];refine⟨by rw[List.length_set];exact a,λy f=>?_⟩;rcases List.mem_or_eq_of_mem_set f with k|k
   ·exact c y k
   ·rw[k];exact l
  ·rw[List.set_eq_of_length_le (by omega)] at g
   exact d.wide row g
theorem zK0 (a:m.Tab nr)(s:Nat){f:Nat->Int}(b:∀i,i<64->m.Inr (f i))(j:Nat)(d:j<=64):(m.fillTo s f j).Tab nr:=by
 induction j with
 |zero=>exact a
 |succ j c=>
  rw[Mk.fillTo];exact zLv (c (by omega)) _ _ ((b j (by omega)).grow (by rw[zBL];omega))
theorem zIy (a:m.Tab nr)(e:0<=nr){f:Nat->Int}(c:∀i,i<64->m.Inr (f i)):(m.withM most f).Tab nr/\(m.withM most f).Inr (m.withN most f:Int):=by
 have g:=a.one;unfold Mk.withM Mk.withN;split
 ·exact⟨a,by unfold Mk.Inr;omega⟩
 split
 ·exact⟨a,by unfold Mk.Inr;omega⟩
 have b:(m.add most (-1)).Tab nr:=zLX a ⟨by omega,by omega⟩;split
 ·exact⟨b,zIs a (-1)⟩
 ·exact⟨zK0 b _ (λi d=>(c i d).grow (zEv m most (-1))) 64 lQ,(zIs a (-1)).grow (by rw[zBL];omega)⟩
end
def zGv (nr:Int)(sub:Mk->Nat->Int×Mk):Prop:=∀m c,m.Tab nr->(sub m c).2.Tab nr/\(sub m c).2.Inr (sub m c).1
theorem zOt (most:Nat)(nr:Int)(g:0<=nr)(c:Nat):∀(m:Mk) (to:Int),m.Tab nr->m.Inr to->(Mk.even most c m to).2.Tab nr/\(Mk.even most c m to).2.Inr (Mk.even most c m to).1:=by
 induction c with
 |zero=>exact λm to d e=>⟨d,e⟩
 |succ c j=>
  intro m to d e;have ⟨a,b⟩:=zIy (most:=most) d g (f:=λ_=>to) λ_ _=>e;exact j (m.withM most λ_=>to) ((m.withN most λ_=>to:Nat):Int) a b
theorem zLx {m:Mk}{nr:Int}(a:m.Tab nr)(i:Nat):m.Inr (m.of.getD i 0):=by
 rw[lW];by_cases b:i<m.of.length
 ·rw[lV b]
  exact a.of _ (List.getElem_mem _)
 ·rw[List.getElem?_eq_none (by omega)]
  have:=a.one;exact⟨Int.le_refl _,by show(0:Int)<_;omega⟩
theorem zOY {nr:Int}{e:Mk->Nat->Int×Mk}(k:zGv nr e)(g:Grows e)(step low:Nat){m:Mk}(f:m.Tab nr)(j:Nat):(yC e step low m j).2.Tab nr/\∀i,(yC e step low m j).2.Inr ((yC e step low m j).1 i):=by
 induction j with
 |zero=>
  have:=f.one;exact⟨f,λi=>⟨Int.le_refl _,by show(0:Int)<_;show(0:Int)<(m.next.length:Int);omega⟩⟩
 |succ j l=>
  obtain⟨a,b⟩:=l;have p:=a.one;unfold yC;split
  ·refine⟨a,λi=>?_⟩
   show Mk.Inr _ (if i=j then 0 else _);split
   ·exact⟨Int.le_refl _,by show(0:Int)<((yC e step low m j).2.next.length:Int);omega⟩
   ·exact b i
  ·have ⟨c,o⟩:=k (yC e step low m j).2 (low+j*step) a
   refine⟨c,λi=>?_⟩;show Mk.Inr _ (if i=j then _ else _);split
   ·exact o
   ·exact(b i).grow (g _ _)
theorem zEL (k:Kd)(a:Ar)(most kind cnt step:Nat){nr:Int}(f:0<=nr){d:Mk->Nat->Int×Mk}(j:zGv nr d)(g:Grows d):zGv nr (jH k a most kind cnt step d):=λm low e=>by
 unfold jH;split
 ·exact zOt most nr f cnt m _ e (by unfold Mk.behind;exact zLx e _)
 ·have ⟨b,c⟩:=zOY j g step low e 64
  exact zIy b f λi _=>c i
theorem zDg (k:Kd)(a:Ar)(most kind:Nat){nr:Int}(b:0<=nr)(l:Nat):zGv nr (yM k a most kind l):=by
 induction l with
 |zero=>exact zEL k a most kind 1 1 b (λm c d=>⟨d,by unfold Mk.behind;exact zLx d _⟩) λm c=>lQ
 |succ l e=>exact zEL k a most kind (l+2) (xL (l+2)) b e (zAP k a most kind l)
theorem zCJ {nr:Int}{c:Mk->Nat->Int×Mk}(e:zGv nr c)(s d:Nat){m:Mk}(f:m.Tab nr)(j:Nat):(qJ c s d m j).Tab nr:=by
 induction j with
 |zero=>exact f
 |succ j g=>
  have ⟨a,b⟩:=e (qJ c s d m j) (d+j) g;unfold qJ;exact zLv a _ _ b
theorem zMV (k:Kd)(a:Ar)(most kind s:Nat){nr:Int}(d:0<=nr){m:Mk}(b:m.Tab nr):(zAC k a most kind s m).Tab nr:=by
 unfold zAC;refine zCJ (λm c b=>?_) _ _ ?_ _
 ·unfold zCO;exact zDg k a most kind d 2 m _ b
 unfold zC5;refine zCJ (λm c b=>?_) _ _ ?_ _
 ·unfold zCP;exact zDg k a most kind d 1 m _ b
 unfold zC6;refine zCJ (λm c b=>?_) _ _ ?_ _
 ·unfold zCQ;exact zDg k a most kind d 0 m _ b
 unfold zC7;exact zCJ (λm c b=>⟨b,by unfold zD0 Mk.behind;exact zLx b _⟩) _ _ b _
theorem zL0 (k:Kd)(most:Nat)(p:1<=most){nr:Int}(q:0<=nr)(f:∀r∈k.rules,-1<=r/\r<nr)(j:Nat)(s:j<=k.rules.length):(zG k most j).Tab nr:=by
 induction j with
 |zero=>
  have e:zG k most 0=⟨[zeros],[-1],[],false⟩:=by
   show Mk.blank.add most (-1)=_;unfold Mk.add Mk.blank;rw[if_neg (by show¬most<=0;omega)];rfl
  rw[e];refine⟨lQ,λrow h=>?_,λr f=>?_,λx c=>by cases c⟩
  ·rw[kY.1 h]
   exact⟨by unfold zeros;exact List.length_replicate,λx c=>by rw[zIv x c];exact⟨Int.le_refl _,by show(0:Int)<1;omega⟩⟩
  ·rw[kY.1 f];omega
 |succ j a=>
  have a:=a (by omega);have t:=a.one;unfold zG;split
  ·refine⟨a.one,a.wide,a.rules,λx c=>?_⟩
   have g:=c;rcases kU.1 g with b|b
   ·exact a.of x b
   ·rw[kY.1 b];exact⟨Int.le_refl _,by show(0:Int)<((zG k most j).next.length:Int);omega⟩
  ·have l:-1<=k.rules.getD j 0/\k.rules.getD j 0<nr:=by
    rw[lW,lV (by omega:j<k.rules.length)];exact f _ (List.getElem_mem _)
   have d:((zG k most j).add most (k.rules.getD j 0)).Tab nr:=zLX a l;have o:((zG k most j).add most (k.rules.getD j 0)).Inr ((zG k most j).addN most:Int):=zIs a _;refine⟨d.one,d.wide,d.rules,λx c=>?_⟩;have g:=c;rcases kU.1 g with b|b
   ·rw[<-zDn (zG k most j) most (k.rules.getD j 0)] at b
    exact d.of x b
   ·rw[kY.1 b];exact o
theorem zNY (k:Kd)(a:Ar)(most:Nat)(d:1<=most){nr:Int}(b:0<=nr)(e:∀r∈k.rules,-1<=r/\r<nr)(f:k.rules.length=k.rows.length)(j:Nat):(yY k a most j).Tab nr:=by
 induction j with
 |zero=>exact zL0 k most d b e k.rows.length (by omega)
 |succ j c=>
  unfold yY;split
  ·exact zMV k a most _ _ b c
  ·exact c
theorem zHb (k:Kd)(a:Ar)(most:Nat){nr:Int}(c:0<=nr)(d:∀r∈k.rules,-1<=r/\r<nr)(e:k.rules.length=k.rows.length)(f:(xQ k a most).full=false):(xQ k a most).Tab nr/\(xQ k a most).Fit most:=by
 have g:=(zJp k a most k.rows.length f).1.one;have b:=(zCC k a most k.rows.length).1;have h:=b.few;exact⟨zNY k a most (by omega) c d e _,b⟩
end
def RowsOk (len top:Nat)(rows:List (List Nat)):Prop:=∀row∈rows,row.length=len/\∀x∈row,x<top
theorem RowsOk.up {a top b:Nat}{rows:List (List Nat)}(c:RowsOk a top rows)(e:top<=b):RowsOk a b rows:=λrow d=>⟨(c row d).1,λx f=>lZ ((c row d).2 x f) e⟩
theorem RowsOk.snoc {a top:Nat}{rows:List (List Nat)}{row:List Nat}(c:RowsOk a top rows)(d:row.length=a/\∀x∈row,x<top):RowsOk a top (rows++[row]):=λr e=>by
 rcases kU.1 e with b|b
 ·exact c r b
 ·rw[kY.1 b];exact d
theorem zG0 (s:Sq)(ahead:Nat->Nat)(ends most:Nat):∀f i g rows rules k j l,s.sortGo ahead ends most f i g rows rules=some (k,j,l)->1<=f->i+f=most+1->rows.length=i->rules.length=i->i<=g.found.length->RowsOk s.sets.length g.found.length rows->(∀r∈rules,-1<=r/\r<(s.rules.length:Int))->
  j.length=k.found.length/\l.length=j.length/\g.found.length<=k.found.length/\j.length<=most+1/\RowsOk s.sets.length k.found.length j/\∀r∈l,-1<=r/\r<(s.rules.length:Int)
 |0,_,_,_,_,_,_,_,_,z,_,_,_,_,_,_=>absurd z (by omega)
 |f+1,i,g,rows,rules,k,j,l,A,_,J,o,B,K,t,u=>by
  have m:(if i<g.found.length then(if g.found.length>most then none else s.sortGo ahead ends most f (i+1) (s.rowTo (qT ahead (g.found.getD i 0)) g s.sets.length).2 (rows++[(s.rowTo (qT ahead (g.found.getD i 0)) g s.sets.length).1]) (rules++[xI s.rules (g.found.getD i 0&&&ends)])) else some (g,rows,rules))=some (k,j,l):=A;by_cases v:i<g.found.length
  ·rw[if_pos v] at m
   by_cases w:g.found.length>most
   ·rw[if_pos w] at m;cases m
   ·rw[if_neg w] at m
    obtain⟨p,-,-,y⟩:=s.rowTo_len (qT ahead (g.found.getD i 0)) g s.sets.length;have C:=s.rowTo_lt (qT ahead (g.found.getD i 0)) g s.sets.length;have D:=zKp s.rules (g.found.getD i 0&&&ends);have ⟨a,b,c,E,F,G⟩:=zG0 s ahead ends most f (i+1) _ _ _ k j l m (by omega) (by omega) (by rw[kX,o];rfl) (by rw[kX,B];rfl) (by omega) ((t.up y).snoc ⟨p,C⟩) (λr o=>by
     rcases kU.1 o with q|q
     ·exact u r q
     ·rw[kY.1 q];exact D)
    exact⟨a,b,lY y c,E,F,G⟩
  ·rw[if_neg v] at m
   have e:=hQ m;have p:g=k:=congrArg Prod.fst e;have H:rows=j:=congrArg (λx=>x.2.1) e;have I:rules=l:=congrArg (λx=>x.2.2) e;subst p H I;exact⟨by omega,by omega,lQ,by omega,t,u⟩
theorem zHM {n:Nt}{most:Nat}{k:Kd}(m:n.sort most=some k)(ok:n.Ok)(fit:n.Fits):k.Ok n.areas/\k.rows.length<=most+2/\∀r∈k.rules,-1<=r/\r<(n.rules.length:Int):=by
 have ⟨p,C,R,S⟩:=zBH n.sets;have T:=fit.few;have J:n.areas.sets.length=n.letters.length:=by
  have:=Ar.setsN_ints p;show(xN n.sets).sets.length=(xN n.sets).setsN.length;rw[this,zP]
 unfold Nt.sort at m;cases t:n.sq.sortGo n.ahead n.ends most (most+1) 0 n.start.2 [] [] with
 |none=>rw[t] at m;cases m
 |some g=>
  obtain⟨D,rows,rules⟩:=g;rw[t] at m;have e:=hQ m;have e:=e;have ⟨a,b,c,U,K,E⟩:=zG0 n.sq n.ahead n.ends most (most+1) 0 n.start.2 [] [] D rows rules t (by omega) (by omega) rfl rfl lX (λr o=>by cases o) (λr o=>by cases o);have L:=(n.sq.rowTo_len n.first ⟨[],[]⟩ n.letters.length).1;have M:∀x∈n.start.1,x<n.start.2.found.length:=n.sq.rowTo_lt n.first ⟨[],[]⟩ n.letters.length
  have N:=zLD (rows.map ints) rules (ints n.start.1);rw[kV] at N;have F:n.areas.Good 24:=⟨λx w=>by
   have ⟨u,v⟩:=p.sets x w;have V:(2:Nat)^n.sets.length<=2^24:=kG (by omega) ok.len;exact⟨u,by omega⟩,p.letters,p.lens⟩
  have G:∀{l:List (List Nat)} {top:Nat},RowsOk n.letters.length top l->∀i q,i<l.length->q<n.areas.sets.length->(l.getD i []).getD q 0<top:=λ{l top} j i q f s=>by
   have y:l.getD i []∈l:=by
    rw[lW,lV f];exact List.getElem_mem _
   have ⟨u,v⟩:=j _ y;have z:q<(l.getD i []).length:=by rw[u];omega
   have O:(l.getD i []).getD q 0=(l.getD i [])[q]:=by rw[lW,lV z];rfl
   rw[O];exact v _ (List.getElem_mem _)
  have H:∀{l:List (List Nat)} {top:Nat},RowsOk n.letters.length top l->∀i,i<l.length->(l.getD i []).length=n.areas.sets.length:=λ{l top} j i f=>by
   have y:l.getD i []∈l:=by
    rw[lW,lV f];exact List.getElem_mem _
   rw[(j _ y).1,J]
  have A:RowsOk n.letters.length D.found.length rows:=K;subst e;unfold Nt.ended;split
  ·rename_i s
   have I:(rows++[n.start.1]).length=rows.length+1:=by simp
   have j:RowsOk n.letters.length (rows.length+1) (rows++[n.start.1]):=(A.up (by omega)).snoc ⟨L,λx w=>by have:=M x w;omega⟩;refine⟨⟨C,by show(xN n.sets).lows.length<=_;omega,F,?_,λi f=>H j i f,λi q f s=>?_,?_⟩,?_,λr o=>?_⟩
   ·show(rules++[-1]).length=(rows++[n.start.1]).length
    rw[I,kX,b];rfl
   ·show _<(rows++[n.start.1]).length
    rw[I];exact G j i q f s
   ·show vF _ _ _<(rows++[n.start.1]).length
    omega
   ·show(rows++[n.start.1]).length<=_
    omega
   ·have P:r∈rules++[-1]:=o
    rcases kU.1 P with B|B
    ·exact E r B
    ·rw[kY.1 B];omega
  ·rename_i s
   refine⟨⟨C,by show(xN n.sets).lows.length<=_;omega,F,b,λi f=>H A i f,λi q f z=>?_,?_⟩,by show rows.length<=_;omega,E⟩
   ·show _<rows.length
    rw[a];exact G A i q f z
   ·show vF _ _ _<rows.length
    omega
def vP (l:List Cs):Prop:=∀c∈l,zNr c
theorem zEb (n:Nt)(a b:Nat):(n.link a b).sets=n.sets:=(zAA n a b n.follow.length).1
theorem zDX {l:List Tr}{j:Nat}(a:j<l.length):l.getD j Tr.none∈l:=by
 rw[lW,lV a];exact List.getElem_mem _
theorem zFC {a:Lay}{P:Tr->Prop}(b:∀n t,P t->vP n.sets->vP (a n t).1.sets){parts:List Tr}(c:∀t∈parts,P t){n:Nt}(d:vP n.sets)(j:Nat)(f:j<=parts.length):vP (rowTo a n parts j).1.sets:=by
 induction j with
 |zero=>exact d
 |succ j e=>
  show vP ((a (rowTo a n parts j).1 (parts.getD j Tr.none)).1.link _ _).sets;rw[zEb];exact b _ _ (c _ (zDX (by omega))) (e (by omega))
theorem zJE {a:Lay}{P:Tr->Prop}(b:∀n t,P t->vP n.sets->vP (a n t).1.sets){parts:List Tr}(c:∀t∈parts,P t){n:Nt}(d:vP n.sets)(j:Nat)(f:j<=parts.length):vP (qA a n parts j).1.sets:=by
 induction j with
 |zero=>exact d
 |succ j e=>exact b _ _ (c _ (zDX (by omega))) (e (by omega))
theorem zKJ (t:Tr)(j:Nat)(q:Nt×Sn):(zAz t j q).sets=q.1.sets:=by
 unfold zAz;split
 ·exact zEb _ _ _
 ·rfl
theorem zIp {a:Lay}{P:Tr->Prop}(b:∀n t,P t->vP n.sets->vP (a n t).1.sets){t:Tr}(c:∀u∈t.parts,P u){n:Nt}(d:vP n.sets)(j:Nat):vP (xE a n t j).1.sets:=by
 induction j with
 |zero=>exact d
 |succ j e=>
  show vP ((zAz t j (rowTo a (xE a n t j).1 t.parts t.parts.length)).link _ _).sets;rw[zEb,zKJ];exact zFC b c e _ lQ
theorem zCG:∀a n t,TrOk a t->vP n.sets->vP (xA a n t).1.sets
 |0,_,_,b,_=>False.elim b
 |a+1,n,t,b,e=>by
  unfold xA;split
  ·intro c k
   have l:=k;rcases kU.1 l with j|j
   ·exact e c j
   ·rw[kY.1 j];exact b.1
  split
  ·exact zFC (P:=TrOk a) (λn t f g=>zCG a n t f g) b.2.1 e _ lQ
  split
  ·exact zJE (P:=TrOk a) (λn t f g=>zCG a n t f g) b.2.1 e _ lQ
  split
  ·exact zIp (P:=TrOk a) (λn t f g=>zCG a n t f g) b.2.1 e _
  ·exact e
theorem zFT (a:Nat)(rules:List Tr)(b:∀t∈rules,TrOk a t)(j:Nat)(k:j<=rules.length):vP (zC a rules j).sets:=by
 induction j with
 |zero=>exact λc f=>by cases f
 |succ j g=>
  have e:(zC a rules (j+1)).sets=(xA a (zC a rules j) (rules.getD j Tr.none)).1.sets:=rfl;rw[e];exact zCG a _ _ (b _ (zDX (by omega))) (g (by omega))
theorem zMo (l:List Cs)(a:Nat)(b:∀c∈l,c.ranges.length<=a):yQ l<=l.length*a:=by
 induction l with
 |nil=>exact lX
 |cons c l d=>
  have f:=b c gQ;have g:=d λx e=>b x (List.mem_cons_of_mem _ e);show c.ranges.length+yQ l<=(l.length+1)*a;rw[Nat.add_mul];omega
theorem zIV {n:Nt}(b:vP n.sets)(d:n.sets.length<=24):n.Fits:=by
 refine⟨?_,λc a r e=>?_⟩
 ·have f:=zMo n.sets 10000000 λc a=>(b c a).1
  have g:n.sets.length*10000000<=24*10000000:=Nat.mul_le_mul_right _ d;omega
 ·have:=(b c a).2 r e
  omega
theorem zHw (a:Nat)(l:List Tr)(e:∀t∈l,TrOk a t)(j:Nat)(m:j<=l.length)(f:yS l j<=24):zS (xW a) l j=yS l j:=by
 induction j with
 |zero=>rfl
 |succ j g=>
  have o:yS l j+(l.getD j Tr.none).chars<=24:=f;have b:=(e _ (zDX (show j<l.length by omega))).chars;show zS (xW a) l j+xW a (l.getD j Tr.none)=yS l j+(l.getD j Tr.none).chars;rw[g (by omega) (by omega)];have c:xT (xW a (l.getD j Tr.none))<=24:=by omega
  unfold xT at b c;split at b
  ·rename_i k
   rw[if_pos k] at c;omega
  ·omega
def zBo (a b c d:Nat->Value)(n:Nat):List Value:=(List.range n).flatMap λi=>[a i,b i,c i,d i]
theorem zAY (a b c e:Nat->Value)(n:Nat):zBo a b c e (n+1)=zBo a b c e n++[a n,b n,c n,e n]:=by
 unfold zBo;rw[List.range_succ,List.flatMap_append];rfl
theorem zMp (a b c e:Nat->Value)(n:Nat):(zBo a b c e n).length=n*4:=by
 induction n with
 |zero=>rfl
 |succ n f=>rw[zAY,kX,f];show n*4+4=_;omega
theorem zMq (a b c f:Nat->Value)(n i:Nat)(l:i<n):(zBo a b c f n)[i*4]? =some (a i)/\(zBo a b c f n)[i*4+1]? =some (b i)/\(zBo a b c f n)[i*4+2]? =some (c i)/\(zBo a b c f n)[i*4+3]? =some (f i):=by
 induction n with
 |zero=>omega
 |succ n g=>
  rw[zAY];have j:=zMp a b c f n;by_cases k:i<n
  ·rw[kW (by omega),kW (by omega),kW (by omega),kW (by omega)]
   exact g k
  ·have e:i=n:=by omega
   subst e;rw[hZ (by omega),hZ (by omega),hZ (by omega),hZ (by omega),j,Nat.sub_self,show i*4+1-i*4=1 by omega,show i*4+2-i*4=2 by omega,show i*4+3-i*4=3 by omega];exact⟨rfl,rfl,rfl,rfl⟩
theorem zI8 (a b c f g j k l:Nat->Value)(n:Nat)(e:∀i,i<n->a i=g i/\b i=j i/\c i=k i/\f i=l i):zBo a b c f n=zBo g j k l n:=by
 induction n with
 |zero=>rfl
 |succ n m=>rw[zAY,zAY,m λi o=>e i (by omega),(e n (by omega)).1,(e n (by omega)).2.1,(e n (by omega)).2.2.1,(e n (by omega)).2.2.2]
def Sm.nil:Sm:=⟨[],[],0,[]⟩
structure Lm (w:World)(H:Nat)(v:Value)(ms:List Sm)(a b d:Nat->Value):Prop where
 own:w.ownsRow H 134 4 v ms.length (zBo a b (λi=>int i64 (ms.getD i Sm.nil).start) d ms.length)
 next:∀i,i<ms.length->IntRows w (λg=>H<=g/\g<w.heap.size/\some g≠v.ownBlock) (a i) (ms.getD i Sm.nil).next
 rules:∀i,i<ms.length->Ints w (λg=>H<=g/\g<w.heap.size/\some g≠v.ownBlock) (b i) (ms.getD i Sm.nil).rules
 empty:∀i,i<ms.length->Bools w (λg=>H<=g/\g<w.heap.size/\some g≠v.ownBlock) (d i) (ms.getD i Sm.nil).empty
def zNq (w:World)(H:Nat)(v:Value)(ms:List Sm):Prop:=∃a b d,Lm w H v ms a b d
theorem Lm.nil (w:World)(H:Nat):zNq w H nX []:=⟨λ_=>nX,λ_=>nX,λ_=>nX,ownsRow_nil _ _ _ _,λi a=>absurd a (Nat.not_lt_zero _),λi a=>absurd a (Nat.not_lt_zero _),λi a=>absurd a (Nat.not_lt_zero _)⟩
theorem Lm.grown {w w2:World}{H:Nat}{v:Value}{ms:List Sm}{a b l:Nat->Value}(j:Lm w H v ms a b l)(k:Grew w w2):Lm w2 H v ms a b l:=by
 have e:∀g,(H<=g/\g<w.heap.size/\some g≠v.ownBlock)->w2.heap[g]? =w.heap[g]? :=λg c=>k.block g c.2.1 (kJ c.2.1);have m:∀g,(H<=g/\g<w.heap.size/\some g≠v.ownBlock)->(H<=g/\g<w2.heap.size/\some g≠v.ownBlock):=λg c=>⟨c.1,lZ c.2.1 k.size,c.2.2⟩
 exact⟨zL j.own k,λi f=>((j.next i f).keep e).mono m,λi f=>((j.rules i f).keep e).mono m,λi f=>((j.empty i f).keep e).mono m⟩
theorem Lm.modes {w:World}{H:Nat}{v:Value}{ms:List Sm}(c:zNq w H v ms):ModesAt w (In w) v ms:=by
 obtain⟨a,b,m,c⟩:=c;have ⟨ao,cap,o,q,r⟩:=zCb c.own;refine⟨ao,cap,o,q,r,λi e=>?_⟩;obtain⟨g,x,p,-,k,-,-,f,-⟩:=qH c.own (by omega);rw[o] at p;injection p with s y z;have ⟨t,u,q2,q3⟩:=zMq a b (λi=>iX (ms.getD i Sm.nil).start) m ms.length i e;have j:ms.getD i Sm.nil=ms[i]:=by rw[lW,lV e];rfl
 have l:∀g,(H<=g/\g<w.heap.size/\some g≠v.ownBlock)->In w g:=λg k=>k.2.1;refine⟨g,0,a i,b i,m i,s,k,?_,?_,?_,?_,?_,?_,?_⟩
 ·rw[Nat.zero_add];exact f _ _ t
 ·rw[Nat.zero_add];exact f _ _ u
 ·rw[Nat.zero_add,<-j];exact f _ _ q2
 ·rw[Nat.zero_add];exact f _ _ q3
 ·rw[<-j];exact(c.next i e).mono l
 ·rw[<-j];exact(c.rules i e).mono l
 ·rw[<-j];exact(c.empty i e).mono l
theorem Lm.app {w w2:World}{H:Nat}{v:Value}{ms:List Sm}{a b l:Nat->Value}{o:Obj}{g cap:Nat}{m:Sm}{x y p:Value}(r:Lm w H v ms a b l)(B:H<=w.heap.size)(C:IntRows w (λg=>H<=g/\g<w.heap.size/\some g≠v.ownBlock) x m.next)(D:Ints w (λg=>H<=g/\g<w.heap.size/\some g≠v.ownBlock) y m.rules)(E:Bools w (λg=>H<=g/\g<w.heap.size/\some g≠v.ownBlock) p m.empty)(F:w2.ownsRow H 134 4 (slice (qX g) (ms.length+1) cap) (ms.length+1) (zBo a b (λi=>iX (ms.getD i Sm.nil).start) l ms.length++[x,y,iX m.start,p]))(u:(w.alloc o).grownBy w2 v.ownBlock)(G:v.ownBlock=some g\/w.heap.size<=g):
  zNq w2 H (slice (qX g) (ms.length+1) cap) (ms++[m])/\Keep H H w w2:=by
 have I:w.heap.size<=w2.heap.size:=lY (by simp) u.size;have e:∀q,(H<=q/\q<w.heap.size/\some q≠v.ownBlock)->w2.heap[q]? =w.heap[q]? :=λq j=>(u.block q (by simp;omega) j.2.2).trans (lG _ _ _ j.2.1);have k:∀q,(H<=q/\q<w.heap.size/\some q≠v.ownBlock)->(H<=q/\q<w2.heap.size/\some q≠(Value.slice (qX g) (ms.length+1) cap).ownBlock):=λq j=>⟨j.1,lZ j.2.1 I,λJ=>by
  have K:q=g:=by simpa[Value.ownBlock] using J
  rcases G with A|A
  ·exact j.2.2 (by rw[A,K])
  ·have:=j.2.1;omega⟩
 have s:(ms++[m]).length=ms.length+1:=by simp
 have hold:∀i,i<ms.length->(ms++[m]).getD i Sm.nil=ms.getD i Sm.nil:=λi c=>by rw[lW,lW,kW c]
 have t:(ms++[m]).getD ms.length Sm.nil=m:=by simp
 refine⟨⟨λi=>if i=ms.length then x else a i,λi=>if i=ms.length then y else b i,λi=>if i=ms.length then p else l i,?_,λi c=>?_,λi c=>?_,λi c=>?_⟩,xS (xU r.own u B)⟩
 ·rw[s,zAY,if_pos rfl,if_pos rfl,if_pos rfl,t,zI8 (λi=>if i=ms.length then x else a i) (λi=>if i=ms.length then y else b i) (λi=>iX ((ms++[m]).getD i Sm.nil).start) (λi=>if i=ms.length then p else l i) a b (λi=>iX (ms.getD i Sm.nil).start) l ms.length λi c=>⟨if_neg (by omega),if_neg (by omega),by rw[hold i c],if_neg (by omega)⟩]
  exact F
 ·rw[s] at c
  by_cases f:i=ms.length
  ·subst f;rw[t];simp only[if_pos];exact(C.keep e).mono k
  ·rw[hold i (by omega)];simp only[if_neg f];exact((r.next i (by omega)).keep e).mono k
 ·rw[s] at c
  by_cases f:i=ms.length
  ·subst f;rw[t];simp only[if_pos];exact(D.keep e).mono k
  ·rw[hold i (by omega)];simp only[if_neg f];exact((r.rules i (by omega)).keep e).mono k
 ·rw[s] at c
  by_cases f:i=ms.length
  ·subst f;rw[t];simp only[if_pos];exact(E.keep e).mono k
  ·rw[hold i (by omega)];simp only[if_neg f];exact((r.empty i (by omega)).keep e).mono k
theorem Sw.treesAt {w:World}{X:Nat->Prop}{S D:Nat}{sh:Sh}{f dv k l:Value}{rv:Nat->Value}{a:Nat->List Nat}{m:Nat->Nat}(b:Sw w X S D sh f dv k l rv a m){j:Nat}(c:j<sh.modes.length):zLY w D (rv j) (sh.mode j).2:=by
 have ⟨ao,cap,d,o,p⟩:=zCb (b.rOwn j c);refine⟨ao,cap,d,o,p,λi q=>?_⟩;obtain⟨g,v,e,-,r,-,-,s,-⟩:=qH (b.rOwn j c) (by omega);rw[d] at e;injection e with t x y;have z:(a j).length=(sh.mode j).2.length:=by
  have:=(b.rOwn j c).1;unfold yI at this;rw[kV] at this;omega
 have u:(yI (a j))[i]? =some (pointer (some ⟨(a j).getD i 0,0,none⟩)):=by
  unfold yI;rw[gZ,lV (by omega:i<(a j).length),lW,lV (by omega:i<(a j).length)];rfl
 refine⟨g,0,(a j).getD i 0,t,r,?_,(b.rTree j c i q).at⟩;rw[Nat.zero_add];exact s _ _ u
def zBf (D:Nat)(rules:List Tr)(most:Nat):Option Sm:=
 match (zC D rules rules.length).sort most with
 |none=>none
 |some k=>if(xQ k (zC D rules rules.length).areas most).full then none else some ⟨(xQ k (zC D rules rules.length).areas most).next,(xQ k (zC D rules rules.length).areas most).rules,(xQ k (zC D rules rules.length).areas most).of.getD k.start 0,(zC D rules rules.length).empty⟩
def xV (D:Nat)(sh:Sh):Nat->Nat->Nat->Option (List Sm)
 |0,_,_=>some []
 |f+1,j,most=>match zBf D (sh.mode j).2 most with
  |none=>none
  |some m=>(xV D sh f (j+1) (most-m.next.length)).map (m::·)
section
attribute [local go_sem ↓] Go.wp_at_zero Go.wp_at_succ
theorem zKQ:(prog.info? 134).map (λi=>(i.zero,i.size,i.bytes))=some (some (agg #[nX,nX,zX,nX]),4,80):=by kernel_rfl
def zOM (w:World)(G:Option (List Sm))(e:Ending)(w':World):Prop:=
 Grew w w'/\match G with
 |none=>e=returned (tuple #[slice none 0 0,bool false])
 |some ms=>∃v,e=returned (tuple #[v,bool true])/\ModesAt w' (In w') v ms
structure ModeFacts (D:Nat)(rules:List Tr):Prop where
 cnt:zS (xW D) rules rules.length<=24
 eight:rules.length<=8
 ok:(zC D rules rules.length).Ok
 fit:(zC D rules rules.length).Fits
theorem SpecIs.facts {w:World}{D:Nat}{g k l:Value}{sh:Sh}(a:SpecIs w D g k l sh){j:Nat}(b:j<sh.modes.length):ModeFacts D (sh.mode j).2:=by
 have c:=lY (a.few j b) a.ok.acts;have d:yS (sh.mode j).2 (sh.mode j).2.length<=24:=by
  have:=a.fit;unfold Sh.fitB at this;exact(of_decide_eq_true this) j b
 have e:zS (xW D) (sh.mode j).2 (sh.mode j).2.length<=24:=by rw[zHw D _ (a.ok.rules j b) _ lQ d];exact d
 have f:=zIa D (sh.mode j).2 e c;exact⟨e,c,f,zIV (zFT D _ (a.ok.rules j b) _ lQ) f.len⟩
theorem zJn (D:Nat)(sh:Sh)(j a:Nat)(ms:List Sm)(b:j<sh.modes.length):(xV D sh (sh.modes.length-j) j a).map (ms++·)=match zBf D (sh.mode j).2 a with
  |none=>none
  |some m=>(xV D sh (sh.modes.length-(j+1)) (j+1) (a-m.next.length)).map ((ms++[m])++·):=by
 rw[show sh.modes.length-j=(sh.modes.length-(j+1))+1 by omega]
 conv=>lhs;unfold xV
 cases zBf D (sh.mode j).2 a with
 |none=>rfl
 |some m=>
  show((xV D sh (sh.modes.length-(j+1)) (j+1) (a-m.next.length)).map (m::·)).map (ms++·)=_;rw[Option.map_map]
  congr 1
  funext l
  simp
theorem zCY (w:World)(D:Nat)(a4 a5 a6:Value)(sh:Sh)(ak:SpecIs w D a4 a5 a6 sh)(most:Nat)(bL:most<=200):
  Calls prog 44 #[agg #[a4,a5,a6],iX (most:Int)] w (zOM w (xV D sh sh.modes.length 0 most)):=by
 obtain⟨bM,bN,bO,bP,bQ⟩:=info_parts zKQ;obtain⟨X,S,dv,ct,rv,cu,cw,aB⟩:=ak.sheet;obtain⟨aO,aP,bR⟩:=zF aB.mOwn;obtain⟨a7,a8,bS⟩:=zF aB.aOwn;obtain⟨a9,ba,bb,-⟩:=ak.pushes;rw[qD] at bb;subst bR bS bb;have bc:=vl aB;have bT:Hid (∀j,j<sh.modes.length->ModeFacts D (sh.mode j).2):=λj bd=>ak.facts bd;have cx:=ak.ok.modes;obtain⟨w1,aQ,aR,bU⟩:∃w1,w1=w.alloc (.cells #[slice aO sh.modes.length aP,slice a7 sh.acts.length a8,slice a9 sh.pushed.length ba] 79)/\w1.cell? ⟨w.heap.size,0,none⟩=some (slice aO sh.modes.length aP)/\Hid (Grew w w1):=by
  have bV:=gY w (.cells #[slice aO sh.modes.length aP,slice a7 sh.acts.length a8,slice a9 sh.pushed.length ba] 79);refine⟨_,rfl,?_,kZ _ _ lQ⟩;unfold cell?;rw[bV];rfl
 have bW:Hid (w1.heap.size=w.heap.size+1):=by show _=_;rw[aQ];simp
 obtain⟨R,aS⟩:∃R,R=xV D sh sh.modes.length 0 most:=⟨_,rfl⟩
 have bX:Hid ((xV D sh (sh.modes.length-0) 0 most).map (([]:List Sm)++·)=R):=by
  show _=_;rw[aS,Nat.sub_zero];cases xV D sh sh.modes.length 0 most with
  |none=>rfl
  |some l=>rfl
 rw[<-aS];clear ak aB aS;go_in;apply wp_cut;intro cy be;go_wp2;apply be.out;clear be;rw[<-aQ];clear aQ;go_wp2;clear aR;go_loopg [1,6,17] sh.modes.length (λq v1 bY i wr=>∃(j a:Nat) (ms:List Sm),q=sh.modes.length-j/\j<=sh.modes.length/\v1=iX (a:Int)/\i=iX (j:Int)/\a<=200/\ms.length=j/\zNq wr (w.heap.size+1) bY ms/\Grew w wr/\w.heap.size+1<=wr.heap.size/\(xV D sh (sh.modes.length-j) j a).map (ms++·)=R)
 case atStart=>exact⟨0,most,[],rfl,lX,rfl,rfl,bL,rfl,Lm.nil _ _,bU.out,by rw[bW.out];exact lQ,bX.out⟩
 case round=>
  obtain⟨j,a,ms,bf,bd,rfl,rfl,cz,bg,bZ,aC,cA,s⟩:=hrel;obtain⟨K,L,M,aT⟩:=bZ;obtain⟨ao,u,bh⟩:=zF aT.own;rw[bg] at bh;subst bh;have T:Hid (gk=sh.modes.length-j/\Lm wr (w.heap.size+1) (slice ao j u) ms K L M/\Grew w wr/\ms.length=j):=⟨bf,aT,aC,bg⟩
  clear bf aT;by_cases aD:j<sh.modes.length
  ·have b0:(j:Int)<(sh.modes.length:Int):=by omega
   obtain⟨cB,aE,aF,rfl,bi,aR,b1⟩:=zDd bc.out aD aC;rw[zJn D sh j a ms aD] at s;have al:=bT.out j aD;have bj:Hid (∀f,Grew w f->Ca 60 #[slice aE (sh.mode j).2.length aF] f λe w'=>∃v,e=returned (pX v)/\NwIs f w' v (zC D (sh.mode j).2 (sh.mode j).2.length)):=λf b3=>by
    have:=zMJ f D (rv j) (sh.mode j).2 ((bc.out.grown b3).treesAt aD) al.eight al.cnt;rw[bi] at this;exact this
   have bk:zBf D (sh.mode j).2 a=match (zC D (sh.mode j).2 (sh.mode j).2.length).sort a with
     |none=>none
     |some k=>if(xQ k (zC D (sh.mode j).2 (sh.mode j).2.length).areas a).full then none else some ⟨(xQ k (zC D (sh.mode j).2 (sh.mode j).2.length).areas a).next,(xQ k (zC D (sh.mode j).2 (sh.mode j).2.length).areas a).rules,(xQ k (zC D (sh.mode j).2 (sh.mode j).2.length).areas a).of.getD k.start 0,(zC D (sh.mode j).2 (sh.mode j).2.length).empty⟩:=rfl
   rw[bk] at s;clear bk;obtain⟨bl,bm⟩:(zC D (sh.mode j).2 (sh.mode j).2.length).Ok/\(zC D (sh.mode j).2 (sh.mode j).2.length).Fits:=⟨al.ok,al.fit⟩
   clear al bi;generalize b4:zC D (sh.mode j).2 (sh.mode j).2.length=n at *;clear b4;have bn:Hid (∀f w2 v,NwIs f w2 v n->Ca 61 #[pX v,iX (a:Int)] w2 (zBW w2 n a)):=λf w2 v aU=>by
    obtain⟨sv,b5,ai,b6,aq,aU⟩:=aU;exact zKm w2 v n sv b5 ai b6 aU.netAt bl bm a (by omega)
   obtain⟨f,bo,b7,N⟩:∃f,f=wr.alloc (.cells #[string (sh.mode j).1,slice aE (sh.mode j).2.length aF] 120)/\f.cell? ⟨wr.heap.size,1,none⟩=some (slice aE (sh.mode j).2.length aF)/\Hid (Grew w f/\Lm f (w.heap.size+1) (slice ao j u) ms K L M/\w.heap.size+1<=f.heap.size):=by
    have aV:=gY wr (.cells #[string (sh.mode j).1,slice aE (sh.mode j).2.length aF] 120);refine⟨_,rfl,?_,aC.trans (kZ _ _ (by omega)),T.out.2.1.grown (kZ _ _ lQ),by simp;omega⟩;unfold cell?;rw[aV];rfl
   clear aC;apply wp_cut;intro O d;go_wp2;apply d.out;clear d;apply wp_cut;intro O d;go_wp2;apply d.out;clear d;apply wp_cut;intro b8 bp;refine wp_block ?_;apply wp_cut;intro O d;go_wp2;apply d.out;clear d;rw[<-bo];clear bo aR b1;apply wp_cut;intro O d;go_wp2_with (first|(go_at_call 60;refine(bj.out f N.out.1).mono ?_;rintro e w2 ⟨v,rfl,b9⟩))
   apply d.out;clear d bj;obtain⟨aG,aH,ai,aI,aq,aj⟩:=b9;have H:Hid (Grew w w2/\Lm w2 (w.heap.size+1) (slice ao j u) ms K L M/\w.heap.size+1<=w2.heap.size/\Nw f w2 v n aG aH ai aI aq):=⟨N.out.1.trans (aj.keep.lower N.out.1.size N.out.1.size),N.out.2.1.grown aj.keep,lY N.out.2.2 aj.keep.size,aj⟩
   have U:=bn.out f w2 v ⟨aG,aH,ai,aI,aq,aj⟩;unfold zBW at U;clear aj b7 bn;cases au:n.sort a with
   |none=>
    rw[au] at U s;have aJ:=vl U;have V:=vl s.symm;clear U s au;go_wp2_with (first|(go_at_call 61;refine aJ.out.mono ?_;rintro e c ⟨rfl,W⟩))
    rw[V.out];refine gJ (results_tmp2 rfl _ _ _) rfl ?_;exact⟨H.out.1.trans (W.lower H.out.1.size H.out.1.size),rfl⟩
   |some k=>
    obtain⟨aW,cb,bq⟩:=zHM au bl bm;rw[au] at U s;have aJ:=vl U;have br:Hid (∀c kb,KdAt c kb n.areas k->Ca 62 #[pX kb,iX (a:Int)] c (zDU c k n.areas a)):=λc kb aK=>zHK c kb a (by omega) k n.areas aK aW (by omega);have aX:Hid ((xQ k n.areas a).full=false->(xQ k n.areas a).next.length<=a):=λcc=>(zHb k n.areas a (nr:=(n.rules.length:Int)) (by omega) bq aW.lens cc).2.few;clear U au aW cb bq;apply wp_cut;intro O d;go_wp2_with (first|(go_at_call 61;refine aJ.out.mono ?_;rintro e c ⟨kb,rfl,aK,W⟩))
    apply d.out;clear d;have Y:=br.out c kb aK;have C:Hid (Grew w c/\Lm c (w.heap.size+1) (slice ao j u) ms K L M/\w.heap.size+1<=c.heap.size/\Nw f c v n aG aH ai aI aq):=⟨H.out.1.trans (W.lower H.out.1.size H.out.1.size),H.out.2.1.grown W,lY H.out.2.2.1 W.size,H.out.2.2.2.grown W⟩
    clear aK W br aJ H;unfold zDU at Y;cases aw:(xQ k n.areas a).full with
    |true=>
     rw[aw] at Y s;have V:Hid (R=none):=s.symm;have aL:Hid (Ca 62 #[pX kb,iX (a:Int)] c λe w'=>e=returned (tuple #[agg #[nX,nX,zX],fX])/\Grew c w'):=Y.mono λe w' ax=>by
      rcases ax.2 with ab|ab
      ·exact⟨ab.2,ax.1⟩
      ·exact absurd ab.1 (by decide)
     clear Y s aw aX;go_wp2_with (first|(go_at_call 62;refine aL.out.mono ?_;rintro e r ⟨rfl,P⟩))
     rw[V.out];refine gJ (results_tmp2 rfl _ _ _) rfl ?_;have ac:=C.out.1.trans (P.lower C.out.1.size C.out.1.size);exact⟨ac.trans (kZ _ _ ac.size),rfl⟩
    |false=>
     rw[aw] at Y s;have cC:=aX.out aw;have aL:Hid (Ca 62 #[pX kb,iX (a:Int)] c λe w'=>∃ay az,e=returned (tuple #[agg #[ay,az,iX ((xQ k n.areas a).of.getD k.start 0)],tX])/\IntRows w' (λg=>c.heap.size<=g/\g<w'.heap.size) ay (xQ k n.areas a).next/\Ints w' (λg=>c.heap.size<=g/\g<w'.heap.size) az (xQ k n.areas a).rules/\Grew c w'):=Y.mono λe w' ax=>by
      rcases ax.2 with ab|⟨-,ay,az,ab,cd,cf⟩
      ·exact absurd ab.1 (by decide)
      ·exact⟨ay,az,ab,cd,cf,ax.1⟩
     have V:Hid ((xV D sh (sh.modes.length-(j+1)) (j+1) (a-(xQ k n.areas a).next.length)).map ((ms++[⟨(xQ k n.areas a).next,(xQ k n.areas a).rules,(xQ k n.areas a).of.getD k.start 0,n.empty⟩])++·)=R):=s;clear Y s aw aX;generalize (xQ k n.areas a).next=o at *
     generalize (xQ k n.areas a).rules=p at *;generalize (xQ k n.areas a).of.getD k.start 0=ST at *;apply wp_cut;intro O d;go_wp2;apply d.out;clear d;apply wp_cut;intro O d;go_wp2_with (first|(go_at_call 62;refine aL.out.mono ?_;rintro e r ⟨ay,az,rfl,aY,aZ,P⟩;obtain⟨x,y,cg,-⟩:=id aY;obtain⟨z,A,ch,-⟩:=id aZ;subst cg ch))
     apply d.out;clear d;obtain⟨b,bs,t0,bt,bu,I⟩:∃b,b=r.alloc (.cells #[slice x o.length y,slice z p.length A,iX ST] 127)/\b.cell? ⟨r.heap.size,0,none⟩=some (slice x o.length y)/\b.cell? ⟨r.heap.size,1,none⟩=some (slice z p.length A)/\b.cell? ⟨r.heap.size,2,none⟩=some (iX ST)/\Hid (Grew w b/\Lm b (w.heap.size+1) (slice ao j u) ms K L M/\w.heap.size+1<=b.heap.size/\Nw f b v n aG aH ai aI aq/\IntRows b (λg=>c.heap.size<=g/\g<b.heap.size) (slice x o.length y) o/\Ints b (λg=>c.heap.size<=g/\g<b.heap.size) (slice z p.length A) p):=by
      have aV:=gY r (.cells #[slice x o.length y,slice z p.length A,iX ST] 127);have aM:Grew r (r.alloc (.cells #[slice x o.length y,slice z p.length A,iX ST] 127)):=kZ _ _ lQ;have ac:=C.out.1.trans (P.lower C.out.1.size C.out.1.size);have e:∀g,(c.heap.size<=g/\g<r.heap.size)->(r.alloc (.cells #[slice x o.length y,slice z p.length A,iX ST] 127)).heap[g]? =r.heap[g]? :=λg ad=>aM.block g ad.2 (kJ ad.2);have bv:∀g,(c.heap.size<=g/\g<r.heap.size)->(c.heap.size<=g/\g<(r.alloc (.cells #[slice x o.length y,slice z p.length A,iX ST] 127)).heap.size):=λg ad=>⟨ad.1,by simp;omega⟩
      refine⟨_,rfl,?_,?_,?_,ac.trans (aM.lower ac.size ac.size),(C.out.2.1.grown P).grown aM,by have:=P.size;have:=C.out.2.2.1;simp;omega,(C.out.2.2.2.grown P).grown aM,(aY.keep e).mono bv,(aZ.keep e).mono bv⟩
      all_goals (unfold cell?;rw[aV];rfl)
     rw[<-bs];have ci:c.heap.size<=r.heap.size:=P.size;clear bs aY aZ P aL;obtain⟨B,bw⟩:∃B,B=r.heap.size:=⟨_,rfl⟩
     rw[<-bw] at t0 bt bu ⊢;clear bw ci;apply wp_cut;intro O d;go_wp2;apply d.out;clear d;apply wp_cut;intro O d;go_wp2;apply d.out;clear d;obtain⟨af,ag,cj⟩:=zF I.out.2.2.2.1.eOwn;subst cj;have ck:b.cell? ⟨v,5,none⟩=some (slice af n.empty.length ag):=I.out.2.2.2.1.netAt.c5;obtain⟨Q,a0⟩:∃Q,Q=zBo K L (λi=>iX (ms.getD i Sm.nil).start) M j:=⟨_,rfl⟩
     have bx:b.ownsRow (w.heap.size+1) 134 4 (slice ao j u) j Q:=by
      have:=I.out.2.1.own;rw[T.out.2.2.2,<-a0] at this;exact this
     have bz:w.heap.size+1<=b.heap.size:=I.out.2.2.1;have bA:Hid (∀J cap E,E.ownsRow (w.heap.size+1) 134 4 (slice (qX J) (j+1) cap) (j+1) (Q++[slice x o.length y,slice z p.length A,iX ST,slice af n.empty.length ag])->(b.drew.alloc (Obj.cells #[slice x o.length y,slice z p.length A,iX ST,slice af n.empty.length ag] 134)).grownBy E (Value.slice ao j u).ownBlock->((Value.slice ao j u).ownBlock=some J\/b.heap.size<=J)->zNq E (w.heap.size+1) (slice (qX J) (j+1) cap) (ms++[⟨o,p,ST,n.empty⟩])/\Grew w E/\w.heap.size+1<=E.heap.size):=λJ cap E a1 ad aA=>by
      have a2:=T.out.2.2.2;have bB:Grew b b.drew:=Keep.drew _;have bC:Lm b.drew (w.heap.size+1) (slice ao j u) ms K L M:=I.out.2.1.grown bB;have bD:=C.out.2.1.own;have cl:=N.out.2.1.own;have cD:=C.out.2.2.1;have cE:=N.out.2.2;have bE:IntRows b.drew (λg=>w.heap.size+1<=g/\g<b.drew.heap.size/\some g≠(Value.slice ao j u).ownBlock) (slice x o.length y) o:=(I.out.2.2.2.2.1.keep (w':=b.drew) λ_ _=>rfl).mono λg ah=>⟨by omega,ah.2,λe=>by have:=(bD.lt g e.symm).2;omega⟩
      have bF:Ints b.drew (λg=>w.heap.size+1<=g/\g<b.drew.heap.size/\some g≠(Value.slice ao j u).ownBlock) (slice z p.length A) p:=(I.out.2.2.2.2.2.keep (w':=b.drew) λ_ _=>rfl).mono λg ah=>⟨by omega,ah.2,λe=>by have:=(bD.lt g e.symm).2;omega⟩
      have aN:OwnB b.drew f.heap.size (slice af n.empty.length ag) n.empty:=zL I.out.2.2.2.1.eOwn bB;have bG:Bools b.drew (λg=>w.heap.size+1<=g/\g<b.drew.heap.size/\some g≠(Value.slice ao j u).ownBlock) (slice af n.empty.length ag) n.empty:=zG6 aN λg ah=>⟨by have:=(aN.lt g ah).1;omega,(aN.lt g ah).2,λe=>by have:=(cl.lt g e.symm).2;have:=(aN.lt g ah).1;omega⟩
      rw[<-a2] at a1 aA ⊢;rw[a0,<-a2] at a1;rw[<-a2] at ad bE bF bG bC;obtain⟨co,q2⟩:=Lm.app (m:=⟨o,p,ST,n.empty⟩) bC (show w.heap.size+1<=b.heap.size from bz) bE bF bG a1 ad aA;exact⟨co,I.out.1.trans ⟨q2.os,q2.output,q2.size,λk ac cF=>q2.block k (by omega) (by omega)⟩,lY bz q2.size⟩
     clear a0;go_region_law ((refine step_append_lies _ (by rfl) (.tmp 45) (.tmp 52) 82 (by rfl) (w.heap.size+1) 134 bM _ 4 80 underlying82 bN bO bP bQ rfl (by decide) (slice ao j u) j Q (by simp[Act.eval,Act.put]) ((bx.alloc _).drew) ⟨b.heap.size,0,none⟩ 1 1 [slice x o.length y,slice z p.length A,iX ST,slice af n.empty.length ag] (by simp[Act.eval,Act.put]) (by rfl) (news_of_block (cs:=#[slice x o.length y,slice z p.length A,iX ST,slice af n.empty.length ag]) (t:=134) (fr:=(0,0)) (gY b _)) (by simp[Value.oneCell']) (by decide) (by unfold maxLen;omega) (by omega) (by simp;omega) (b.heap.size+1) (by simp) ?_;intro J cap E bH bI bJ cq))
     all_goals
      have a3:Hid (zNq E (w.heap.size+1) (slice (qX J) (j+1) cap) (ms++[⟨o,p,ST,n.empty⟩])/\Grew w E/\w.heap.size+1<=E.heap.size):=bA.out J cap E bH bI (by rcases bJ with aA|aA;exact .inl aA;right;show b.heap.size<=J;omega);clear bH bI bJ cq bA bx t0 bt bu ck;show b8 _ _;apply bp.out;clear bp;have bK:((a:Int)-(o.length:Int))=((a-o.length:Nat):Int):=by omega
      rw[bK];clear bK;go_wp2;go_roundg (sh.modes.length-(j+1))
      case measure=>rw[T.out.1];omega
      case rel=>exact⟨j+1,a-o.length,ms++[⟨o,p,ST,n.empty⟩],rfl,by omega,rfl,by go_num,by omega,by rw[kX,T.out.2.2.2];rfl,a3.out.1,a3.out.2.1,a3.out.2.2,V.out⟩
  ·have b0:(sh.modes.length:Int)<=(j:Int):=by omega
   have e:j=sh.modes.length:=by omega
   have V:Hid (R=some ms):=by
    show _=_;rw[<-s,e,Nat.sub_self];show some (ms++[])=_;rw[dX]
   clear s e;go_wp2;rw[V.out];refine gJ (results_tmp2 rfl _ _ _) rfl ?_;exact⟨T.out.2.2.1,_,rfl,Lm.modes ⟨K,L,M,T.out.2.1⟩⟩
end
def yJ (l:List (ByteArray×List Tr)):Nat->Nat
 |0=>0
 |j+1=>yJ l j+(l.getD j (⟨#[]⟩,[])).2.length
theorem zCk (l a:List (ByteArray×List Tr))(j:Nat)(b:∀i,i<j->(l.getD i (⟨#[]⟩,[])).2.length=(a.getD i (⟨#[]⟩,[])).2.length):yJ l j=yJ a j:=by
 induction j with
 |zero=>rfl
 |succ j c=>
  show yJ l j+_=yJ a j+_;rw[c λi d=>b i (by omega),b j (by omega)]
def zB3 (sh:Sh):Prop:=yJ sh.modes sh.modes.length=sh.acts.length/\∀a∈sh.acts,a<4
theorem zIm (l:List (ByteArray×List Tr))(k:Nat)(x:ByteArray×List Tr)(b:x.2.length=(l.getD k (⟨#[]⟩,[])).2.length+1)(j:Nat)(f:k<j)(g:j<=l.length):yJ (l.set k x) j=yJ l j+1:=by
 induction j with
 |zero=>omega
 |succ j c=>
  show yJ (l.set k x) j+((l.set k x).getD j (⟨#[]⟩,[])).2.length=yJ l j+(l.getD j (⟨#[]⟩,[])).2.length+1;by_cases e:k=j
  ·subst e
   have d:yJ (l.set k x) k=yJ l k:=zCk _ _ k λi h=>by rw[lW,lW,List.getElem?_set_ne (by omega)]
   have a:(l.set k x).getD k (⟨#[]⟩,[])=x:=by rw[lW,List.getElem?_set_self (by omega)];rfl
   rw[d,a,b];omega
  ·have a:(l.set k x).getD j (⟨#[]⟩,[])=l.getD j (⟨#[]⟩,[]):=by rw[lW,lW,List.getElem?_set_ne e]
   rw[c (by omega) (by omega),a];omega
theorem zPI (s:ByteArray):(zAG s).act<4:=by
 unfold zAG zG3
 repeat' split
 all_goals (dsimp only;omega)
theorem zHV {sh c:Sh}{a:ByteArray}(b:yG sh a=some c)(s:zB3 sh):zB3 c:=by
 unfold yG at b;split at b
 ·cases b
 split at b
 ·cases b
 split at b
 ·have e:=hQ b
  subst e;refine⟨?_,s.2⟩;show yJ (sh.modes++[(a,[])]) (sh.modes++[(a,[])]).length=sh.acts.length;rw[kX];show yJ (sh.modes++[(a,[])]) sh.modes.length+((sh.modes++[(a,[])]).getD sh.modes.length (⟨#[]⟩,[])).2.length=_;have d:(sh.modes++[(a,[])]).getD sh.modes.length (⟨#[]⟩,[])=(a,[]):=by simp
  have f:yJ (sh.modes++[(a,[])]) sh.modes.length=yJ sh.modes sh.modes.length:=zCk _ _ _ λi g=>by rw[lW,lW,kW g]
  rw[d,f];exact s.1
 ·cases b
theorem zI4 {sh b:Sh}{s:ByteArray}(a:qO sh s=some b)(d:zB3 sh):zB3 b:=by
 unfold qO at a;split at a
 ·split at a
  ·cases a
  split at a
  ·cases a
  split at a
  ·cases c:vQ (yH s 32) sh.defs with
   |none=>rw[c] at a;cases a
   |some t=>
    rw[c] at a;have e:=hQ a;subst e;exact d
  ·cases a
 ·cases a
theorem zHU {sh d:Sh}{j s:ByteArray}(b:yV sh j s=some d)(f:zB3 sh):zB3 d:=by
 unfold yV at b;split at b
 ·split at b
  ·cases b
  split at b
  ·cases b
  split at b
  ·split at b
   ·rename_i o _ _ _
    cases g:vQ (yH s 32) sh.defs with
    |none=>rw[g] at b;cases b
    |some t=>
     rw[g] at b;have e:=hQ b;subst e;have k:=zPI (yA s 32);generalize (zAG (yA s 32))=l at *;refine⟨?_,λa m=>by rcases kU.1 m with c|c;exact f.2 a c;rw[kY.1 c];exact k⟩;show yJ (sh.modes.set (sh.modes.length-1) ((sh.mode (sh.modes.length-1)).1,(sh.mode (sh.modes.length-1)).2++[t])) (sh.modes.set (sh.modes.length-1) _).length=(sh.acts++[l.act]).length;rw[List.length_set,kX,zIm sh.modes _ _ (by show((sh.mode (sh.modes.length-1)).2++[t]).length=_;rw[kX];rfl) sh.modes.length (by omega) lQ,f.1];rfl
   ·cases b
  ·cases b
 ·cases b
theorem zHW {sh c:Sh}{s:ByteArray}(a:xC sh s=some c)(b:zB3 sh):zB3 c:=by
 unfold xC at a;split at a
 ·split at a
  ·exact zHV a b
  split at a
  ·exact zI4 a b
  ·exact zHU a b
 ·cases a
theorem zHd:∀f sh n s b,yD f sh n s=.inl b->zB3 sh->zB3 b
 |0,_,_,_,_,d,c=>by cases d;exact c
 |f+1,sh,n,s,b,d,c=>by
  have a:(if s.size=0 then .inl sh else if vM s 10 then(match xC sh (yA s 10) with|none=>.inr n|some b=>yD f b (n+1) (yH s 10)) else .inr n)=(.inl b:Sh ⊕ Nat):=d;split at a
  ·cases a;exact c
  split at a
  ·cases e:xC sh (yA s 10) with
   |none=>rw[e] at a;cases a
   |some g=>
    rw[e] at a;exact zHd f g (n+1) _ b a (zHW e c)
  ·cases a
theorem zIO {s:ByteArray}{sh:Sh}(b:jJ s=.inl sh):zB3 sh:=by
 unfold jJ at b;split at b
 ·cases b
 cases e:yD (s.size+1) Sh.none 1 s with
 |inr n=>rw[e] at b;cases b
 |inl d=>
  rw[e] at b;have c:(if d.there&&d.haveB then(if d.fitB then .inl d else .inr (0,4)) else .inr (0,3))=(.inl sh:Sh ⊕ (Nat×Nat)):=b;split at c
  ·split at c
   ·cases c
    exact zHd _ _ _ _ _ e ⟨rfl,λa f=>(List.not_mem_nil f).elim⟩
   ·cases c
  ·cases c
structure SmOk (m:Sm)(mo nr:Nat):Prop where
 one:1<=m.next.length
 few:m.next.length<=mo
 wide:∀row∈m.next,row.length=256/\∀x∈row,0<=x/\x<(m.next.length:Int)
 same:m.rules.length=m.next.length
 rules:∀r∈m.rules,-1<=r/\r<(m.empty.length:Int)
 start:0<=m.start/\m.start<(m.next.length:Int)
 len:m.empty.length=nr
theorem zNW {D:Nat}{rules:List Tr}{a:Nat}{m:Sm}(b:zBf D rules a=some m)(f:ModeFacts D rules):SmOk m a rules.length:=by
 have d:=vV D rules rules.length f.cnt;have o:=f.ok;have p:=f.fit;unfold zBf at b;generalize zC D rules rules.length=n at *;cases g:n.sort a with
 |none=>rw[g] at b;cases b
 |some k=>
  rw[g] at b;obtain⟨q,-,s⟩:=zHM g o p;have c:(if (xQ k n.areas a).full then none else some ⟨(xQ k n.areas a).next,(xQ k n.areas a).rules,(xQ k n.areas a).of.getD k.start 0,n.empty⟩)=some m:=b;cases j:(xQ k n.areas a).full with
  |true=>rw[j] at c;cases c
  |false=>
   rw[j] at c;have e:=hQ c;have ⟨t,l⟩:=zHb k n.areas a (nr:=(n.rules.length:Int)) (by omega) s q.lens j;have u:n.empty.length=n.rules.length:=by rw[d.elen,d.rlen]
   subst e;exact⟨t.one,l.few,t.wide,l.same,λr v=>by have:=t.rules r v;show -1<=r/\r<(n.empty.length:Int);rw[u];exact this,zLx t _,d.elen⟩
theorem zG9 (D:Nat)(sh:Sh)(t:∀j,j<sh.modes.length->ModeFacts D (sh.mode j).2):∀f j d ms,xV D sh f j d=some ms->j+f<=sh.modes.length->ms.length=f/\(∀i,i<f->∃g,g<=d/\SmOk (ms.getD i ⟨[],[],0,[]⟩) g (sh.mode (j+i)).2.length)/\zI ms f<=d
 |0,_,_,ms,p,_=>by
  have e:=hQ p;subst e;exact⟨rfl,λi u=>absurd u (Nat.not_lt_zero _),lX⟩
 |f+1,j,d,ms,p,y=>by
  have k:(match zBf D (sh.mode j).2 d with|none=>none|some m=>(xV D sh f (j+1) (d-m.next.length)).map (m::·))=some ms:=p;cases r:zBf D (sh.mode j).2 d with
  |none=>rw[r] at k;cases k
  |some m=>
   rw[r] at k;have ok:=zNW r (t j (by omega));have o:(xV D sh f (j+1) (d-m.next.length)).map (m::·)=some ms:=k;cases s:xV D sh f (j+1) (d-m.next.length) with
   |none=>rw[s] at o;cases o
   |some l=>
    rw[s] at o;have e:=hQ o;have e:=e;subst e;have ⟨a,b,c⟩:=zG9 D sh t f (j+1) _ l s (by omega);have v:∀q,zI (m::l) (q+1)=m.next.length+zI l q:=λq=>by
     induction q with
     |zero=>show 0+m.next.length=m.next.length+0;omega
     |succ q w=>
      show zI (m::l) (q+1)+((m::l).getD (q+1) ⟨[],[],0,[]⟩).next.length=m.next.length+(zI l q+(l.getD q ⟨[],[],0,[]⟩).next.length)
      rw[w,show(m::l).getD (q+1) ⟨[],[],0,[]⟩=l.getD q ⟨[],[],0,[]⟩ from rfl];omega
    refine⟨by rw[hU,a],λi u=>?_,?_⟩
    ·cases i with
     |zero=>exact⟨d,lQ,ok⟩
     |succ i=>
      have ⟨g,z,x⟩:=b i (by omega);refine⟨g,by omega,?_⟩;rw[show j+(i+1)=j+1+i by omega];exact x
    ·rw[v]
     have:=ok.few;omega
theorem zIX (D:Nat)(sh:Sh)(ms:List Sm)(a:∀i,i<sh.modes.length->(ms.getD i ⟨[],[],0,[]⟩).empty.length=(sh.mode i).2.length)(j:Nat)(c:j<=sh.modes.length):zW ms j=yJ sh.modes j:=by
 induction j with
 |zero=>rfl
 |succ j b=>
  show zW ms j+(ms.getD j ⟨[],[],0,[]⟩).empty.length=yJ sh.modes j+(sh.modes.getD j (⟨#[]⟩,[])).2.length;rw[b (by omega),a j (by omega)];rfl
theorem zNV {w:World}{D:Nat}{p r s:Value}{sh:Sh}(g:SpecIs w D p r s sh)(t:zB3 sh){most:Nat}(C:most<=200){ms:List Sm}(u:xV D sh sh.modes.length 0 most=some ms):ModesOk ms/\zW ms ms.length=sh.acts.length:=by
 have ⟨a,b,c⟩:=zG9 D sh (λj v=>g.facts v) sh.modes.length 0 most ms u (by omega);have l:=g.have_;unfold Sh.haveB at l;have ⟨m,x⟩:=of_decide_eq_true l;have o:∀i (d:i<ms.length),ms.getD i ⟨[],[],0,[]⟩=ms[i]:=λi d=>by rw[lW,lV d];rfl
 have ok:∀i (d:i<ms.length),∃e,SmOk ms[i] e (sh.mode i).2.length:=λi d=>by
  obtain⟨e,-,k⟩:=b i (by omega);rw[o i d,Nat.zero_add] at k;exact⟨e,k⟩
 have y:zW ms ms.length=sh.acts.length:=by
  rw[a,zIX D sh ms (λi d=>by have ⟨e,k⟩:=ok i (by omega);rw[o i (by omega)];exact k.len) _ lQ];exact t.1
 have k:1<=sh.acts.length:=by
  have E:=g.few 0 m;have F:=x 0 m;omega
 refine⟨⟨by omega,by have:=g.ok.modes;omega,λi d=>?_,λi d row z=>?_,λi d=>?_,λi d=>?_,by rw[a];omega,by omega,by have:=g.ok.acts;omega⟩,y⟩
 ·have ⟨e,f⟩:=ok i d;exact f.one
 ·have ⟨e,f⟩:=ok i d
  have ⟨A,B⟩:=f.wide row z;refine⟨A,λq G=>B _ ?_⟩;rw[lW,lV (by omega:q<row.length)];exact List.getElem_mem _
 ·have ⟨e,f⟩:=ok i d;exact⟨f.same,f.rules⟩
 ·have ⟨e,f⟩:=ok i d;exact f.start
def yX (st ho:Int):Bool:=decide (st<1)||decide (200<st)||decide (ho<1)||decide (64<ho)
def zAj (s:ByteArray)(st ho:Int):(List Sm×Sh) ⊕ (Nat×Nat):=
 if yX st ho then .inr (0,6) else
 match jJ s with
 | .inr e=>.inr e
 | .inl sh=>match xV (1+6*s.size) sh sh.modes.length 0 st.toNat with
  |none=>.inr (0,5)
  |some ms=>.inl (ms,sh)
def zJ6 (w:World)(n k:Nat)(e:Ending)(w':World):Prop:=Grew w w'/\e=returned (tuple #[pointer none,agg #[slice none 0 0,slice none 0 0,slice none 0 0,int i64 0,bool false,int i64 (n:Int)],int i64 (k:Int)])
theorem vJ (w:World)(q i:Nat)(v:Value)(c:Array Value)(t:TypeId)(b:w.heap[q]? =some (.cells c t)):∃a,a=w.setCell ⟨q,i,none⟩ v/\a.heap[q]? =some (.cells (c.setIfInBounds i v) t)/\a.heap.size=w.heap.size/\a.os=w.os/\a.output=w.output/\∀k,k≠q->a.heap[k]? =w.heap[k]? :=⟨_,rfl,by simp[setCell,lU,b],by rw[zD],rfl,rfl,λk d=>lJ _ _ _ _ d⟩
theorem zD1 (w w2:World)(v0 v1 v2 d e f:Value)(l:w2.heap[w.heap.size+1]? =some (.cells #[nX,nX,nX,zX,bool false,zX] 30))(m:Grew w w2):
  ∃a:World,a=((((((w2.setCell ⟨w.heap.size+1,0,none⟩ v0).setCell ⟨w.heap.size+1,1,none⟩ v1).setCell ⟨w.heap.size+1,2,none⟩ v2).setCell ⟨w.heap.size+1,3,none⟩ d).setCell ⟨w.heap.size+1,4,none⟩ e).setCell ⟨w.heap.size+1,5,none⟩ f)/\a.cell? ⟨w.heap.size+1,0,none⟩=some v0/\a.cell? ⟨w.heap.size+1,1,none⟩=some v1/\a.cell? ⟨w.heap.size+1,2,none⟩=some v2/\a.cell? ⟨w.heap.size+1,3,none⟩=some d/\a.cell? ⟨w.heap.size+1,4,none⟩=some e/\a.cell? ⟨w.heap.size+1,5,none⟩=some f/\Hid (Grew w a/\a.heap.size=w2.heap.size/\a.os=w2.os/\a.output=w2.output/\∀k,k≠w.heap.size+1->a.heap[k]? =w2.heap[k]?):=by
 have ⟨o,p,c1,X,q,u1,r⟩:=vJ w2 (w.heap.size+1) 0 v0 _ _ l;have s:=c1;have ⟨t,u,c2,Y,v,u2,x⟩:=vJ o (w.heap.size+1) 1 v1 _ _ s;have b2:=c2;have ⟨y,z,A,aa,B,u3,C⟩:=vJ t (w.heap.size+1) 2 v2 _ _ b2;have D:=A;have ⟨E,F,G,ab,H,u4,I⟩:=vJ y (w.heap.size+1) 3 d _ _ D;have J:=G;have ⟨K,L,M,ac,N,u5,O⟩:=vJ E (w.heap.size+1) 4 e _ _ J;have P:=M;have ⟨b,R,S,ad,T,u6,U⟩:=vJ K (w.heap.size+1) 5 f _ _ P;have V:b.heap[w.heap.size+1]? =some (.cells #[v0,v1,v2,d,e,f] 30):=S;have g:∀i,i≠w.heap.size+1->b.heap[i]? =w2.heap[i]? :=λi c=>(U i c).trans ((O i c).trans ((I i c).trans ((C i c).trans ((x i c).trans (r i c)))));have W:b.heap.size=w2.heap.size:=by omega
 have h:b.os=w2.os:=T.trans (N.trans (H.trans (B.trans (v.trans q))));have j:b.output=w2.output:=u6.trans (u5.trans (u4.trans (u3.trans (u2.trans u1))));refine⟨b,by rw[R,L,F,z,u,p],?_,?_,?_,?_,?_,?_,m.trans ⟨h,j,by omega,λk ae _=>g k (by omega)⟩,W,h,j,g⟩
 all_goals (unfold cell?;rw[V];rfl)
theorem zHT {w w2:World}{c d:Int}{e:Bool}(a:Keep (w.heap.size+2) (w.heap.size+2) ((w.alloc (.cells #[iX c,iX d,bool e] 58)).alloc (.cells #[nX,nX,nX,zX,bool false,zX] 30)) w2):w2.heap[w.heap.size+1]? =some (.cells #[nX,nX,nX,zX,bool false,zX] 30)/\w2.cell? ⟨w.heap.size,0,none⟩=some (iX c)/\w2.cell? ⟨w.heap.size,1,none⟩=some (iX d)/\w2.cell? ⟨w.heap.size,2,none⟩=some (bool e)/\Grew w w2:=by
 have s1:(w.alloc (.cells #[iX c,iX d,bool e] 58)).heap.size=w.heap.size+1:=by simp
 have g:=gY w (.cells #[iX c,iX d,bool e] 58);have f:=gY (w.alloc (.cells #[iX c,iX d,bool e] 58)) (.cells #[nX,nX,nX,zX,fX,zX] 30);rw[s1] at f;have h:=(a.block w.heap.size (by omega) (by omega)).trans ((lG _ _ _ (by rw[s1];omega)).trans g);have j:=(a.block (w.heap.size+1) (by omega) (by omega)).trans f;refine⟨j,?_,?_,?_,((kZ (H:=w.heap.size) (b:=w.heap.size) _ _ lQ).trans (kZ _ _ (by rw[s1];omega))).trans ⟨a.os,a.output,a.size,λk g f=>a.block k (by omega) (by omega)⟩⟩
 all_goals (unfold cell?;rw[h];rfl)
theorem jV {w:World}{q:Nat}(a:w.heap[q]? =some (.cells #[nX,nX,nX,zX,bool false,zX] 30)):w.cell? ⟨q,0,none⟩=some nX/\w.cell? ⟨q,1,none⟩=some nX/\w.cell? ⟨q,2,none⟩=some nX/\w.cell? ⟨q,3,none⟩=some zX/\w.cell? ⟨q,4,none⟩=some (bool false)/\w.cell? ⟨q,5,none⟩=some zX/\w.frozen? ⟨q,0,none⟩=false/\w.frozen? ⟨q,1,none⟩=false/\w.frozen? ⟨q,2,none⟩=false/\w.frozen? ⟨q,3,none⟩=false/\w.frozen? ⟨q,4,none⟩=false/\w.frozen? ⟨q,5,none⟩=false:=by
 refine⟨?_,?_,?_,?_,?_,?_,?_,?_,?_,?_,?_,?_⟩
 all_goals first|(unfold cell?;rw[a];rfl)|(unfold frozen?;rw[a];rfl)
theorem zHn (w:World)(b c:Int)(d:Bool):∃w2,w2=(w.alloc (.cells #[iX b,iX c,bool d] 58)).alloc (.cells #[nX,nX,nX,zX,bool false,zX] 30)/\Hid (∀a,Keep (w.heap.size+2) (w.heap.size+2) w2 a->a.heap[w.heap.size+1]? =some (.cells #[nX,nX,nX,zX,bool false,zX] 30)/\a.cell? ⟨w.heap.size,0,none⟩=some (iX b)/\a.cell? ⟨w.heap.size,1,none⟩=some (iX c)/\a.cell? ⟨w.heap.size,2,none⟩=some (bool d)/\Grew w a):=⟨_,rfl,λa e=>zHT e⟩
theorem zFa (w:World)(s:ByteArray)(a b:Int)(f:Bool)(k:a<1\/1<=a/\200<a\/1<=a/\a<=200/\b<1\/1<=a/\a<=200/\1<=b/\64<b):Calls prog 30 #[string s,agg #[iX a,iX b,bool f]] w (zJ6 w 0 6):=by
 have ⟨w2,c,l⟩:=zHn w a b f;have z:Hid (w2.heap.size=w.heap.size+2):=by show _=_;rw[c];simp
 go_in;apply wp_cut;intro A g;go_wp2_with fail;apply g.out;clear g;rw[<-c];clear c;have ⟨d,B,C,D,h⟩:=l w2 (Keep.refl _ _ _);have ⟨E,F,G,H,I,J,K,L,M,N,O,P⟩:=jV d;have ⟨R,m,o,p,q,r,t,u,x⟩:=zD1 w w2 nX nX nX zX fX (iX (0)) d h;clear d h;rcases k with e|⟨e,j⟩|⟨e,j,y⟩|⟨e,j,y,S⟩
 all_goals
  go_wp2;rw[<-m];refine gJ (v:=tuple #[pointer none,agg #[nX,nX,nX,zX,fX,iX (0)],iX 6]) (by simp[results,results30,go_sem,o,p,q,r,t,u]) rfl ?_;exact⟨x.1,rfl⟩
theorem zOl (w:World)(s:ByteArray)(c d:Int)(j:Bool)(u:s.size<=1048576)(M:1<=c)(N:c<=200)(O:1<=d)(P:d<=64)(n k:Nat)(x:k≠0)(l:jJ s=.inr (n,k)):Calls prog 30 #[string s,agg #[iX c,iX d,bool j]] w (zJ6 w n k):=by
 have ⟨w2,f,m⟩:=zHn w c d j;have o:Hid (w2.heap.size=w.heap.size+2):=by show _=_;rw[f];simp
 have y:Hid (Ca 43 #[string s] w2 (zFe w2 (1+6*s.size) (.inr (n,k)))):=by have:=zAV w2 s u;rw[l] at this;exact this
 have R:((k:Int) != 0)=true:=by simp;omega
 clear l x;go_in;apply wp_cut;intro p a;go_wp2_with fail;apply a.out;clear a;rw[<-f];clear f;obtain⟨-,z,A,B,-⟩:=m w2 (Keep.refl _ _ _);apply wp_cut;intro p a;go_wp2;apply a.out;clear a;clear z A B;apply wp_cut;intro p a;go_wp2_with (go_at_call 43;refine y.mono ?_;rintro e q ⟨g,rfl⟩)
 apply a.out;clear a;obtain⟨b,r,C⟩:∃b,b=q.alloc (.cells #[nX,nX,nX] 79)/\Hid (Keep (w.heap.size+2) (w.heap.size+2) w2 b):=by
  have D:Keep (w.heap.size+2) (w.heap.size+2) w2 q:=by rw[<-o.out];exact g
  refine⟨_,rfl,D.trans (kZ _ _ (by have:=g.size;rw[o.out] at this;omega))⟩
 rw[<-r];clear r g;have ⟨h,S,T,U,t⟩:=m b (C);have ⟨V,W,X,Y,aa,ab,ac,ad,ae,af,ag,ah⟩:=jV h;have ⟨ai,E,F,G,H,I,J,K,L⟩:=zD1 w b nX nX nX zX fX (iX ((n:Int))) h t;clear h t;go_wp2;rw[<-E];refine gJ (v:=tuple #[pointer none,agg #[nX,nX,nX,zX,fX,iX ((n:Int))],iX (k:Int)]) (by simp[results,results30,go_sem,F,G,H,I,J,K]) rfl ?_;exact⟨L.1,rfl⟩
theorem SpecIs.grown {w w2:World}{D:Nat}{e f g:Value}{sh:Sh}(a:SpecIs w D e f g sh)(d:Grew w w2):SpecIs w2 D e f g sh:=by
 have ⟨X,S,dv,j,rv,k,l,m⟩:=a.sheet;exact⟨⟨X,S,dv,j,rv,k,l,m.grown d⟩,(a.pushes.keep λb c=>d.block b c (kJ c)).mono λb c=>lZ c d.size,a.ok,a.few,a.there,a.have_,a.fit⟩
theorem SpecIs.forms {w:World}{D:Nat}{b d e:Value}{sh:Sh}(f:SpecIs w D b d e sh):(∃a c,b=slice a sh.modes.length c)/\(∃a c,d=slice a sh.acts.length c)/\∃a c,e=slice a sh.pushed.length c:=by
 have ⟨X,S,dv,m,rv,o,p,g⟩:=f.sheet;obtain⟨k,l,j,-⟩:=f.pushes;rw[qD] at j;exact⟨zF g.mOwn,zF g.aOwn,k,l,j⟩
theorem SpecIs.acts {w:World}{D:Nat}{c a d:Value}{sh:Sh}(e:SpecIs w D c a d sh):Ints w (In w) a (ints sh.acts):=by
 have ⟨X,S,dv,k,rv,l,m,f⟩:=e.sheet;have b:w.ownsRow (S+1) 3 1 a (ints sh.acts).length ((ints sh.acts).map λx=>iX x):=by
  rw[zP];unfold ints;rw[List.map_map];exact f.aOwn
 exact zCc b λg j=>(b.lt g j).2
theorem zKT (w:World)(s:ByteArray)(x:Bool)(L:s.size<=1048576)(m d:Nat)(aq:1<=m)(M:m<=200)(ar:1<=d)(au:d<=64)(sh:Sh)(E:jJ s=.inl sh)(F:xV (1+6*s.size) sh sh.modes.length 0 m=none):Calls prog 30 #[string s,agg #[iX (m:Int),iX (d:Int),bool x]] w (zJ6 w 0 5):=by
 obtain⟨w2,y,z⟩:∃w2,w2=(w.alloc (.cells #[iX (m:Int),iX (d:Int),bool x] 58)).alloc (.cells #[nX,nX,nX,zX,fX,zX] 30)/\Hid (∀b,Keep (w.heap.size+2) (w.heap.size+2) w2 b->b.heap[w.heap.size+1]? =some (.cells #[nX,nX,nX,zX,fX,zX] 30)/\b.cell? ⟨w.heap.size,0,none⟩=some (iX (m:Int))/\b.cell? ⟨w.heap.size,1,none⟩=some (iX (d:Int))/\b.cell? ⟨w.heap.size,2,none⟩=some (bool x)/\Grew w b):=⟨_,rfl,λb N=>zHT N⟩
 have G:Hid (w2.heap.size=w.heap.size+2):=by show _=_;rw[y];simp
 have H:Hid (Ca 43 #[string s] w2 (zFe w2 (1+6*s.size) (.inl sh))):=by have:=zAV w2 s L;rw[E] at this;exact this
 have aw:(1:Int)<=(m:Int):=by omega
 have ax:(m:Int)<=200:=by omega
 have ay:(1:Int)<=(d:Int):=by omega
 have az:(d:Int)<=64:=by omega
 have O:Hid (∀a j k l,SpecIs a (1+6*s.size) j k l sh->Ca 44 #[agg #[j,k,l],iX (m:Int)] a (zOM a (none))):=λa j k l d=>by have:=zCY a (1+6*s.size) j k l sh d m M;rw[F] at this;exact this
 clear E F;go_in;apply wp_cut;intro A c;go_wp2;apply c.out;clear c;rw[<-y];clear y;obtain⟨-,P,R,S,-⟩:=z w2 (Keep.refl _ _ _);apply wp_cut;intro A c;go_wp2;apply c.out;clear c;clear P R S;apply wp_cut;intro A c;go_wp2_with (go_at_call 43;refine H.mono ?_;rintro e b ⟨C,j,k,l,rfl,D⟩;have ⟨⟨o,p,T⟩,⟨q,r,U⟩,⟨t,u,V⟩⟩:=D.forms;subst T U V)
 apply c.out;clear c;obtain⟨a,I,W,X,Y,g⟩:∃a,a=b.alloc (.cells #[slice o sh.modes.length p,slice q sh.acts.length r,slice t sh.pushed.length u] 79)/\a.cell? ⟨b.heap.size,0,none⟩=some (slice o sh.modes.length p)/\a.cell? ⟨b.heap.size,1,none⟩=some (slice q sh.acts.length r)/\a.cell? ⟨b.heap.size,2,none⟩=some (slice t sh.pushed.length u)/\Hid (Keep (w.heap.size+2) (w.heap.size+2) w2 a/\SpecIs a (1+6*s.size) (slice o sh.modes.length p) (slice q sh.acts.length r) (slice t sh.pushed.length u) sh/\b.heap.size<a.heap.size/\w.heap.size+2<=a.heap.size):=by
  have ab:Keep (w.heap.size+2) (w.heap.size+2) w2 b:=by rw[<-G.out];exact C
  have ac:w.heap.size+2<=b.heap.size:=by have:=C.size;rw[G.out] at this;exact this
  have ad:=gY b (.cells #[slice o sh.modes.length p,slice q sh.acts.length r,slice t sh.pushed.length u] 79);refine⟨_,rfl,?_,?_,?_,ab.trans (kZ _ _ ac),D.grown (kZ _ _ lQ),by simp,by simp;omega⟩
  all_goals (unfold cell?;rw[ad];rfl)
 rw[<-I];clear I C D H;apply wp_cut;intro A c;go_wp2;apply c.out;clear c;obtain⟨-,ae,-,-,-⟩:=z a g.1;obtain⟨B,f⟩:∃B,B=b.heap.size:=⟨_,rfl⟩
 have aA:Hid (B<a.heap.size):=by show B<_;rw[f];exact g.2.2.1
 rw[<-f] at W X Y ⊢;clear f;go_wp2_with (go_at_call 44;refine(O a _ _ _ g.2.1).mono ?_;rintro e J ⟨af,rfl⟩;have ⟨f,ae,aB,aC,K⟩:=z J (g.1.trans (af.lower g.2.2.2 g.2.2.2));have ⟨aD,aE,aF,aG,aH,aI,aJ,aK,aL,aM,aN,aO⟩:=jV f;have ⟨aP,ag,ah,ai,aj,ak,al,an,ao⟩:=zD1 w J nX nX nX zX fX (iX (0)) f K;clear f K)
 rw[<-ag];refine gJ (v:=tuple #[pointer none,agg #[nX,nX,nX,zX,fX,iX (0)],iX 5]) (by simp[results,results30,go_sem,ah,ai,aj,ak,al,an]) rfl ?_;exact⟨ao.1,rfl⟩
theorem zE5 (w2:World)(q:Nat)(c d e f g h:Value)(j:w2.heap[q]? =some (.cells #[nX,nX,nX,zX,bool false,zX] 30)):
  ∃a:World,a=((((((w2.setCell ⟨q,0,none⟩ c).setCell ⟨q,1,none⟩ d).setCell ⟨q,2,none⟩ e).setCell ⟨q,3,none⟩ f).setCell ⟨q,4,none⟩ g).setCell ⟨q,5,none⟩ h)/\a.heap[q]? =some (.cells #[c,d,e,f,g,h] 30)/\a.heap.size=w2.heap.size/\a.os=w2.os/\a.output=w2.output/\∀k,k≠q->a.heap[k]? =w2.heap[k]? :=by
 have ⟨l,m,c1,V,o,u1,p⟩:=vJ w2 q 0 c _ _ j;have r:=c1;have ⟨s,t,c2,W,u,u2,v⟩:=vJ l q 1 d _ _ r;have b2:=c2;have ⟨w,x,y,X,z,u3,A⟩:=vJ s q 2 e _ _ b2;have B:=y;have ⟨C,D,E,Y,F,u4,G⟩:=vJ w q 3 f _ _ B;have H:=E;have ⟨I,J,K,aa,L,u5,M⟩:=vJ C q 4 g _ _ H;have N:=K;have ⟨O,P,R,ab,S,u6,T⟩:=vJ I q 5 h _ _ N;have U:=R;exact⟨O,by rw[P,J,D,x,t,m],U,by omega,S.trans (L.trans (F.trans (z.trans (u.trans o)))),u6.trans (u5.trans (u4.trans (u3.trans (u2.trans u1)))),λi b=>(T i b).trans ((M i b).trans ((G i b).trans ((A i b).trans ((v i b).trans (p i b)))))⟩
theorem zOm (w a:World)(m:Ending->World->Prop)(p c:Nat)(m0 s0 v0:Option Addr)(m1 m2 s1 s2 v1 v2:Nat)(AH:Int)(ST:Bool)(l:a.heap[w.heap.size+1]? =some (.cells #[nX,nX,nX,zX,bool false,zX] 30))(bA:c≠w.heap.size+1)(e:c<a.heap.size)
  (q:a.cell? ⟨c,0,none⟩=some (slice m0 m1 m2)) (r:a.cell? ⟨c,1,none⟩=some (slice s0 s1 s2)) (s:a.cell? ⟨c,2,none⟩=some (slice v0 v1 v2)) (t:a.cell? ⟨c,3,none⟩=some (iX AH)) (u:a.cell? ⟨c,4,none⟩=some (bool ST)) (x:a.cell? ⟨c,5,none⟩=some zX)
  (y:∀b j,b.os=a.os->b.output=a.output->a.heap.size<=j->j<b.heap.size->(∀k,k<a.heap.size->k≠w.heap.size+1->b.heap[k]? =a.heap[k]?)->b.cell? ⟨j,0,none⟩=some (pX p)->m (returned (tuple #[pX j,agg #[slice m0 m1 m2,slice s0 s1 s2,slice v0 v1 v2,iX AH,bool ST,zX],zX])) b)
  {z A B C D E F G H I J K M N O P S T U V W X Y aa ab ac ad ae af ag ah ai aj ak al am an ao ap aq ar au av aw ax ay az aA aB aC aD aE aF aG aH aI aJ aK aL aM aN aO aP aQ aR aS aT aU aV aW aX aY aZ a0 a1 a2 a3:Value}:
  Code.wp prog (qE 9 ((f30.body).getD .skip)) (bodyPost prog f30 m) ⟨(z::A::B::C::D::pointer (some ⟨w.heap.size+1,0,none⟩)::E::F::G::H::I::J::pX p::pX c::K::M::N::O::P::S::T::U::V::W::X::Y::aa::ab::ac::ad::ae::af::ag::ah::ai::aj::ak::al::am::an::ao::ap::aq::ar::au::av::aw::ax::ay::az::aA::aB::aC::aD::aE::aF::aG::aH::aI::aJ::aK::aL::aM::aN::aO::aP::aQ::aR::aS::aT::aU::aV::aW::aX::aY::aZ::a0::a1::a2::a3::[]).toArray,[]⟩ a:=by
 conv=>arg 2;whnf
 have ⟨a4,a5,a6,a7,a8,a9,ba,bb,bc,bd,be,bf⟩:=jV l;have d:w.heap.size+1<a.heap.size:=(kQ.1 l).1;have bg:=vl l;have bh:=vl y;generalize w.heap.size+1=Q at *;have bB:(a.alloc (Obj.cells #[pX p] 93)).cell? ⟨Q,0,none⟩=some nX:=(gU _ _ _ d).trans a4;have bC:(a.alloc (Obj.cells #[pX p] 93)).frozen? ⟨Q,0,none⟩=false:=(frozen?_alloc_past _ _ _ d).trans ba;have bD:(a.alloc (Obj.cells #[pX p] 93)).cell? ⟨Q,1,none⟩=some nX:=(gU _ _ _ d).trans a5;have bE:(a.alloc (Obj.cells #[pX p] 93)).frozen? ⟨Q,1,none⟩=false:=(frozen?_alloc_past _ _ _ d).trans bb;have q2:(a.alloc (Obj.cells #[pX p] 93)).cell? ⟨Q,2,none⟩=some nX:=(gU _ _ _ d).trans a6;have bF:(a.alloc (Obj.cells #[pX p] 93)).frozen? ⟨Q,2,none⟩=false:=(frozen?_alloc_past _ _ _ d).trans bc;have q3:(a.alloc (Obj.cells #[pX p] 93)).cell? ⟨Q,3,none⟩=some zX:=(gU _ _ _ d).trans a7;have bG:(a.alloc (Obj.cells #[pX p] 93)).frozen? ⟨Q,3,none⟩=false:=(frozen?_alloc_past _ _ _ d).trans bd;have q4:(a.alloc (Obj.cells #[pX p] 93)).cell? ⟨Q,4,none⟩=some fX:=(gU _ _ _ d).trans a8;have bH:(a.alloc (Obj.cells #[pX p] 93)).frozen? ⟨Q,4,none⟩=false:=(frozen?_alloc_past _ _ _ d).trans be;have q5:(a.alloc (Obj.cells #[pX p] 93)).cell? ⟨Q,5,none⟩=some zX:=(gU _ _ _ d).trans a9;have bI:(a.alloc (Obj.cells #[pX p] 93)).frozen? ⟨Q,5,none⟩=false:=(frozen?_alloc_past _ _ _ d).trans bf;have bJ:(a.alloc (Obj.cells #[pX p] 93)).cell? ⟨c,0,none⟩=some (slice m0 m1 m2):=(gU _ _ _ e).trans q;have bK:(a.alloc (Obj.cells #[pX p] 93)).cell? ⟨c,1,none⟩=some (slice s0 s1 s2):=(gU _ _ _ e).trans r;have bL:(a.alloc (Obj.cells #[pX p] 93)).cell? ⟨c,2,none⟩=some (slice v0 v1 v2):=(gU _ _ _ e).trans s;have y3:(a.alloc (Obj.cells #[pX p] 93)).cell? ⟨c,3,none⟩=some (iX AH):=(gU _ _ _ e).trans t;have bM:(a.alloc (Obj.cells #[pX p] 93)).cell? ⟨c,4,none⟩=some (bool ST):=(gU _ _ _ e).trans u;have y5:(a.alloc (Obj.cells #[pX p] 93)).cell? ⟨c,5,none⟩=some zX:=(gU _ _ _ e).trans x;apply wp_cut;intro bi bj;go_region
 all_goals
  have ⟨g,bk,bl,bm,bn,bo,bp⟩:=zE5 a Q (slice m0 m1 m2) (slice s0 s1 s2) (slice v0 v1 v2) (iX AH) (bool ST) zX bg;rw[<-bk];obtain⟨b,bq,br,bs,bt,bu,bv,bw,h⟩:∃b,b=(g.alloc (Obj.cells #[pX p] 93)).drew/\b.cell? ⟨Q,0,none⟩=some (slice m0 m1 m2)/\b.cell? ⟨Q,1,none⟩=some (slice s0 s1 s2)/\b.cell? ⟨Q,2,none⟩=some (slice v0 v1 v2)/\b.cell? ⟨Q,3,none⟩=some (iX AH)/\b.cell? ⟨Q,4,none⟩=some (bool ST)/\b.cell? ⟨Q,5,none⟩=some zX/\Hid (b.os=a.os/\b.output=a.output/\a.heap.size<b.heap.size/\(∀k,k<a.heap.size->k≠Q->b.heap[k]? =a.heap[k]?)/\b.cell? ⟨a.heap.size,0,none⟩=some (pX p)):=by
   have o:=gY g (Obj.cells #[pX p] 93);rw[bm] at o;have f:(g.alloc (Obj.cells #[pX p] 93)).drew.heap[Q]? =some (.cells #[slice m0 m1 m2,slice s0 s1 s2,slice v0 v1 v2,iX AH,bool ST,zX] 30):=(lG _ _ _ (by omega)).trans bl;have bx:(g.alloc (Obj.cells #[pX p] 93)).drew.heap[a.heap.size]? =some (Obj.cells #[pX p] 93):=o;refine⟨_,rfl,?_,?_,?_,?_,?_,?_,bn,bo,?_,λk bN bz=>(lG _ _ _ (by omega)).trans (bp k bz),?_⟩
   ·unfold cell?;rw[f];rfl
   ·unfold cell?;rw[f];rfl
   ·unfold cell?;rw[f];rfl
   ·unfold cell?;rw[f];rfl
   ·unfold cell?;rw[f];rfl
   ·unfold cell?;rw[f];rfl
   ·show a.heap.size<(g.alloc _).heap.size
    simp;omega
   ·unfold cell?;rw[bx];rfl
  rw[<-bq];show bi _ _;apply bj.out;go_wp2;refine gJ (v:=tuple #[pX a.heap.size,agg #[slice m0 m1 m2,slice s0 s1 s2,slice v0 v1 v2,iX AH,bool ST,zX],zX]) (by simp[results,results30,go_sem,br,bs,bt,bu,bv,bw]) rfl ?_;exact bh b a.heap.size h.1 h.2.1 lQ h.2.2.1 h.2.2.2.1 h.2.2.2.2
theorem zQo (w a:World)(j:Ending->World->Prop)(Q:World->Prop)(p b:Nat)(m0 s0 v0:Option Addr)(m1 m2 s1 s2 v1 v2:Nat)(AH:Int)(ST:Bool)(o:a.heap[w.heap.size+1]? =some (.cells #[nX,nX,nX,zX,bool false,zX] 30))(z:b≠w.heap.size+1)(A:b<a.heap.size)(B:b≠p)(C:w.heap.size+1≠p)
  (q:a.cell? ⟨b,0,none⟩=some (slice m0 m1 m2)) (r:a.cell? ⟨b,1,none⟩=some (slice s0 s1 s2)) (s:a.cell? ⟨b,2,none⟩=some (slice v0 v1 v2)) (t:a.cell? ⟨b,3,none⟩=some (iX AH)) (u:a.cell? ⟨b,4,none⟩=some (bool ST)) (v:a.cell? ⟨b,5,none⟩=some zX)
  (D:ST=true->Calls prog 47 #[pX p,iX AH] a (λe c=>e=rX/\Q c/\Keep a.heap.size p a c)) (E:ST=false->Q a)
  (F:∀c d g,Keep a.heap.size p a c->Q c->d.os=c.os->d.output=c.output->c.heap.size<=g->g<d.heap.size->(∀k,k<c.heap.size->k≠w.heap.size+1->d.heap[k]? =c.heap[k]?)->d.cell? ⟨g,0,none⟩=some (pX p)->j (returned (tuple #[pX g,agg #[slice m0 m1 m2,slice s0 s1 s2,slice v0 v1 v2,iX AH,bool ST,zX],zX])) d)
  {G H I J K M N O P S T U V W X Y aa ab ac ad ae af ag ah ai aj ak al am an ao ap aq ar au av aw ax ay az aA aB aC aD aE aF aG aH aI aJ aK aL aM aN aO aP aQ aR aS aT aU aV aW aX aY aZ a0 a1 a2 a3 a4 a5 a6 a7 a8 a9 ba:Value}:
  Code.wp prog (qE 8 ((f30.body).getD .skip)) (bodyPost prog f30 j) ⟨(G::H::I::J::K::pointer (some ⟨w.heap.size+1,0,none⟩)::M::N::O::P::S::T::pX p::pX b::U::V::W::X::Y::aa::ab::ac::ad::ae::af::ag::ah::ai::aj::ak::al::am::an::ao::ap::aq::ar::au::av::aw::ax::ay::az::aA::aB::aC::aD::aE::aF::aG::aH::aI::aJ::aK::aL::aM::aN::aO::aP::aQ::aR::aS::aT::aU::aV::aW::aX::aY::aZ::a0::a1::a2::a3::a4::a5::a6::a7::a8::a9::ba::[]).toArray,[]⟩ a:=by
 conv=>arg 2;whnf
 have x:=vl F;have f:Hid (a.heap[w.heap.size+1]? =some (.cells #[nX,nX,nX,zX,fX,zX] 30)/\b≠w.heap.size+1/\b<a.heap.size/\b≠p/\w.heap.size+1≠p/\w.heap.size+1<a.heap.size):=⟨o,z,A,B,C,(kQ.1 o).1⟩
 apply wp_cut;intro be y;cases ST with
 |false=>
  have m:=E rfl;go_wp2;apply y.out;exact zOm w a j p b m0 s0 v0 m1 m2 s1 s2 v1 v2 AH false f.1 f.2.1 f.2.2.1 q r s t u v (λd g=>x a d g (Keep.refl _ _ _) m)
 |true=>
  have bb:=vl <| D rfl;go_wp2_with (go_at_call 47;refine bb.mono ?_;rintro e c ⟨rfl,m,l⟩)
  apply y.out;have bc:=l.block (w.heap.size+1) f.2.2.2.2.2 f.2.2.2.2.1;have bd:=l.block b f.2.2.1 f.2.2.2.1;have h:∀i,cX c b i=cX a b i:=λi=>gW bd;exact zOm w c j p b m0 s0 v0 m1 m2 s1 s2 v1 v2 AH true (bc.trans f.1) f.2.1 (lZ f.2.2.1 l.size) ((h 0).trans q) ((h 1).trans r) ((h 2).trans s) ((h 3).trans t) ((h 4).trans u) ((h 5).trans v) (λd g=>x c d g l m)
theorem zQp (w a:World)(q:Ending->World->Prop)(Q:World->Prop)(p:Nat)(v:Option Addr)(x y t:Nat)(AH:Int)(ST u:Bool)(E:a.heap[w.heap.size+1]? =some (.cells #[nX,nX,nX,zX,bool false,zX] 30))(dl:w.heap.size+2<=a.heap.size)(F:p<a.heap.size)(G:w.heap.size+1≠p)
  (H:a.cell? ⟨p,7,none⟩=some (iX (t:Nat))) (I:a.cell? ⟨w.heap.size,2,none⟩=some (bool u))
  (J:∀o,Grew a o->Calls prog 46 #[slice v x y,iX (t:Nat),bool u] (o) (λe w'=>∃m0 m1 m2 s0 s1 s2 v0 v1 v2,e=returned (agg #[slice m0 m1 m2,slice s0 s1 s2,slice v0 v1 v2,iX AH,bool ST,zX])/\Keep (o).heap.size (o).heap.size (o) w'))
  (z:∀c,Grew a c->(ST=true->Calls prog 47 #[pX p,iX AH] c (λe f=>e=rX/\Q f/\Keep c.heap.size p c f))/\(ST=false->Q c))
  (K:∀m0 m1 m2 s0 s1 s2 v0 v1 v2 c f j l,Grew a c->Keep c.heap.size p c f->Q f->j.os=f.os->j.output=f.output->f.heap.size<=l->l<j.heap.size->(∀k,k<f.heap.size->k≠w.heap.size+1->j.heap[k]? =f.heap[k]?)->j.cell? ⟨l,0,none⟩=some (pX p)->q (returned (tuple #[pX l,agg #[slice m0 m1 m2,slice s0 s1 s2,slice v0 v1 v2,iX AH,bool ST,zX],zX])) j)
  {M N O P S T U V W X Y aa ab ac ad ae af ag ah ai aj ak al am an ao ap aq ar au av aw ax ay az aA aB aC aD aE aF aG aH aI aJ aK aL aM aN aO aP aQ aR aS aT aU aV aW aX aY aZ a0 a1 a2 a3 a4 a6 a7 a8 a9 ba bb bc bd be bf:Value}:
  Code.wp prog (qE 7 ((f30.body).getD .skip)) (bodyPost prog f30 q) ⟨(M::N::O::pX w.heap.size::P::pointer (some ⟨w.heap.size+1,0,none⟩)::S::T::U::V::slice v x y::W::pX p::X::Y::aa::ab::ac::ad::ae::af::ag::ah::ai::aj::ak::al::am::an::ao::ap::aq::ar::au::av::aw::ax::ay::az::aA::aB::aC::aD::aE::aF::aG::aH::aI::aJ::aK::aL::aM::aN::aO::aP::aQ::aR::aS::aT::aU::aV::aW::aX::aY::aZ::a0::a1::a2::a3::a4::a6::a7::a8::a9::ba::bb::bc::bd::be::bf::[]).toArray,[]⟩ a:=by
 conv=>arg 2;whnf
 have m:Grew a (a.alloc (.cells #[nX,nX,nX,zX,fX,zX] 30)):=kZ _ _ lQ;have bg:=vl J;have bh:Hid (Grew a a.drew):=Keep.drew _;have bi:Hid (Grew a (a.alloc (.cells #[nX,nX,nX,zX,fX,zX] 30)).drew):=⟨m.os,m.output,m.size,m.block⟩
 have bj:Hid (∀b,Grew a.drew b->Grew a b):=λb d=>Keep.undrew d;have A:Hid (∀b,Keep ((a.alloc (.cells #[nX,nX,nX,zX,fX,zX] 30)).drew).heap.size ((a.alloc (.cells #[nX,nX,nX,zX,fX,zX] 30)).drew).heap.size ((a.alloc (.cells #[nX,nX,nX,zX,fX,zX] 30)).drew) b->b.heap[a.heap.size]? =some (.cells #[nX,nX,nX,zX,fX,zX] 30)):=λb d=>(d.block a.heap.size (by show a.heap.size<(a.alloc _).heap.size;simp) (by show a.heap.size≠(a.alloc _).heap.size;simp)).trans (gY a _);have bk:Hid (∀b,Keep ((a.alloc (.cells #[nX,nX,nX,zX,fX,zX] 30)).drew).heap.size ((a.alloc (.cells #[nX,nX,nX,zX,fX,zX] 30)).drew).heap.size ((a.alloc (.cells #[nX,nX,nX,zX,fX,zX] 30)).drew) b->Grew a b):=λb d=>m.trans ⟨d.os,d.output,d.size,λk bl dm=>d.block k (by show k<(a.alloc _).heap.size;simp;omega) (by show k≠(a.alloc _).heap.size;simp;omega)⟩;have r:Hid (∀b,Grew a b->b.cell? ⟨p,7,none⟩=some (iX (t:Nat))/\b.cell? ⟨w.heap.size,2,none⟩=some (bool u)):=λb d=>⟨zA H F d,zA I (show w.heap.size<a.heap.size by omega) d⟩
 have B:Hid (∀g c m0 m1 m2 s0 s1 s2 v0 v1 v2,Grew a c->a.heap.size<=g->g<c.heap.size->c.cell? ⟨g,0,none⟩=some (slice m0 m1 m2)->c.cell? ⟨g,1,none⟩=some (slice s0 s1 s2)->c.cell? ⟨g,2,none⟩=some (slice v0 v1 v2)->c.cell? ⟨g,3,none⟩=some (iX AH)->c.cell? ⟨g,4,none⟩=some (bool ST)->c.cell? ⟨g,5,none⟩=some zX->∀(bm bn b2 bo bp bq br bs bt bu bv bw bx bz bA bB bC bD bE bF bG bH bI bJ bK bL bM bN bO bP bQ bR bS bT bU bV bW bX bY bZ b5 ca cb cc cd ce cf cg ch ci cj ck cl cm cn co cp cq cr ct cu cw cx cy cz cA cB cC cD cE cF cG cH cI cJ cK cL:Value),Code.wp prog (qE 8 ((f30.body).getD .skip)) (bodyPost prog f30 q) ⟨(bm::bn::b2::bo::bp::pointer (some ⟨w.heap.size+1,0,none⟩)::bq::br::bs::bt::bu::bv::pX p::pX g::bw::bx::bz::bA::bB::bC::bD::bE::bF::bG::bH::bI::bJ::bK::bL::bM::bN::bO::bP::bQ::bR::bS::bT::bU::bV::bW::bX::bY::bZ::b5::ca::cb::cc::cd::ce::cf::cg::ch::ci::cj::ck::cl::cm::cn::co::cp::cq::cr::ct::cu::cw::cx::cy::cz::cA::cB::cC::cD::cE::cF::cG::cH::cI::cJ::cK::cL::[]).toArray,[]⟩ c):=λg c m0 m1 m2 s0 s1 s2 v0 v1 v2 d dn cM cN cO cP cQ cR cS _ _ _ _ _ _ _ _ _ _ _ _ _ _ _ _ _ _ _ _ _ _ _ _ _ _ _ _ _ _ _ _ _ _ _ _ _ _ _ _ _ _ _ _ _ _ _ _ _ _ _ _ _ _ _ _ _ _ _ _ _ _ _ _ _ _ _ _ _ _ _ _ _ _ _ _ _=>zQo w c q Q p g m0 s0 v0 m1 m2 s1 s2 v1 v2 AH ST ((d.block _ (by omega) (by omega)).trans E) (by omega) cM (by omega) G cN cO cP cQ cR cS (z c d).1 (z c d).2 (λf j l cT cU=>K m0 m1 m2 s0 s1 s2 v0 v1 v2 c f j l d cT cU);have ⟨dp,dq⟩:=r (a.alloc (.cells #[nX,nX,nX,zX,fX,zX] 30)) m;refine wp_seq_k ?_;intro cV hK0;have cW:=vl hK0;go_region_with ((go_at_call 46;go_must ((refine (bg _ (by first|exact bh|exact bi)).mono ?_;rintro e b ⟨m0,m1,m2,s0,s1,s2,v0,v1,v2,rfl,s⟩;first|(have h:=bj b s;have ⟨cY,cZ⟩:=r b h;have ⟨c3,c4,c6,c7,c8,c9,da,db,dc,dd,de,df⟩:=jV (gY b (.cells #[nX,nX,nX,zX,fX,zX] 30));have ⟨dr,ds⟩:=r (b.alloc (.cells #[nX,nX,nX,zX,fX,zX] 30)) (h.trans (kZ _ _ h.size)))|(have h:=bk b s;have ⟨c3,c4,c6,c7,c8,c9,da,db,dc,dd,de,df⟩:=jV (A b s);have ⟨cY,cZ⟩:=r b h)))))
 all_goals
  show cV _ _;apply cW.out
  first
  |(have ⟨dg,dh,C,dt,di,dj,dk⟩:=zE5 b a.heap.size (slice m0 m1 m2) (slice s0 s1 s2) (slice v0 v1 v2) (iX AH) (bool ST) zX (A b s);rw[<-dh];refine B a.heap.size dg m0 m1 m2 s0 s1 s2 v0 v1 v2 (h.trans ⟨di,dj,by omega,λk bl _=>dk k (by omega)⟩) lQ (kQ.1 C).1 ?_ ?_ ?_ ?_ ?_ ?_ _ _ _ _ _ _ _ _ _ _ _ _ _ _ _ _ _ _ _ _ _ _ _ _ _ _ _ _ _ _ _ _ _ _ _ _ _ _ _ _ _ _ _ _ _ _ _ _ _ _ _ _ _ _ _ _ _ _ _ _ _ _ _ _ _ _ _ _ _ _ _ _ _ _ _ _ _;all_goals (unfold cell?;rw[C];rfl))
  |(have D:=gY b (.cells #[slice m0 m1 m2,slice s0 s1 s2,slice v0 v1 v2,iX AH,bool ST,zX] 30);refine B b.heap.size _ m0 m1 m2 s0 s1 s2 v0 v1 v2 (h.trans (kZ _ _ h.size)) h.size (kQ.1 D).1 ?_ ?_ ?_ ?_ ?_ ?_ _ _ _ _ _ _ _ _ _ _ _ _ _ _ _ _ _ _ _ _ _ _ _ _ _ _ _ _ _ _ _ _ _ _ _ _ _ _ _ _ _ _ _ _ _ _ _ _ _ _ _ _ _ _ _ _ _ _ _ _ _ _ _ _ _ _ _ _ _ _ _ _ _ _ _ _ _;all_goals (unfold cell?;rw[D];rfl))
def vA (ms:List Sm)(acts pushed:List Int)(hold n:Nat)(fo:Bool):Tb:=if !fo&&yB (aheadTo ms ms.length) (zB ms 256).2 then{vN ms acts pushed hold n with stream:=true}.looking (aheadTo ms ms.length).toNat else vN ms acts pushed hold n
def zON (w:World)(ms:List Sm)(acts pushed:List Int)(hold:Nat)(fo:Bool)(e:Ending)(w':World):Prop:=
 Grew w w'/\∃L p H c n m0 m1 m2 s0 s1 s2 v0 v1 v2,e=returned (tuple #[pointer (some ⟨L,0,none⟩),agg #[slice m0 m1 m2,slice s0 s1 s2,slice v0 v1 v2,int i64 (aheadTo ms ms.length),bool (!fo&&yB (aheadTo ms ms.length) (zB ms 256).2),int i64 0],int i64 0])/\w'.cell? ⟨L,0,none⟩=some (pointer (some ⟨p,0,none⟩))/\L<w'.heap.size/\w.heap.size<=L/\w.heap.size<=H/\w.heap.size<=p/\Mem w' H p c (vA ms acts pushed hold n fo)/\(((zZ ms acts pushed hold).first.itr n).spreadTo (zI ms ms.length)).2=false/\ModesOk ms/\acts.length=zW ms ms.length/\pushed.length=acts.length
theorem ModesAt.grown {w w2:World}{v:Value}{ms:List Sm}(d:ModesAt w (In w) v ms)(a:Grew w w2):ModesAt w2 (In w2) v ms:=by
 have e:=d.keep (w':=w2) λb c=>a.block b c (kJ c);obtain⟨ao,cap,f,j,k,l⟩:=e;refine⟨ao,cap,f,j,k,λi p=>?_⟩;have ⟨b,o,u0,u1,u3,q,r,s,t,u,x,y,z,A⟩:=l i p;have m:∀g,In w g->In w2 g:=λg B=>lZ B a.size;exact⟨b,o,u0,u1,u3,q,m _ r,s,t,u,x,y.mono m,z.mono m,A.mono m⟩
theorem zJ3 (l:List Nat):∀i,i<(ints l).length->0<=(ints l).getD i 0:=λi a=>by
 unfold ints at a ⊢;rw[lW,lV a,List.getElem_map];show(0:Int)<=((l[i]'(by simpa using a):Nat):Int);omega
theorem zJb {sh:Sh}(b:sh.there=true):∀i,i<(sh.pushesTo sh.pushed.length).length->0<=(sh.pushesTo sh.pushed.length).getD i 0:=λi a=>by
 have c:=a;rw[qD] at c;unfold Sh.there at b;have d:=(of_decide_eq_true b) i c;unfold Sh.pushesTo at a ⊢;rw[lW,lV a,List.getElem_map,List.getElem_range];exact d
theorem zQn (w:World)(s:ByteArray)(fo:Bool)(hs:s.size<=1048576)(m h:Nat)(h1:1<=m)(h2:m<=200)(h3:1<=h)(h4:h<=64)(sh:Sh)(hsp:jJ s=.inl sh)(ms:List Sm)(hmo:xV (1+6*s.size) sh sh.modes.length 0 m=some ms):Calls prog 30 #[string s,agg #[iX (m:Int),iX (h:Int),bool fo]] w (zON w ms (ints sh.acts) (sh.pushesTo sh.pushed.length) h fo):=by
 obtain⟨w2,hw2,HK1⟩:∃w2,w2=(w.alloc (.cells #[iX (m:Int),iX (h:Int),bool fo] 58)).alloc (.cells #[nX,nX,nX,zX,fX,zX] 30)/\Hid (∀w3,Keep (w.heap.size+2) (w.heap.size+2) w2 w3->w3.heap[w.heap.size+1]? =some (.cells #[nX,nX,nX,zX,fX,zX] 30)/\w3.cell? ⟨w.heap.size,0,none⟩=some (iX (m:Int))/\w3.cell? ⟨w.heap.size,1,none⟩=some (iX (h:Int))/\w3.cell? ⟨w.heap.size,2,none⟩=some (bool fo)/\Grew w w3):=⟨_,rfl,λw3 hk=>zHT hk⟩
 have HZ2:Hid (w2.heap.size=w.heap.size+2):=by show _=_;rw[hw2];simp
 have HRD:Hid (Ca 43 #[string s] w2 (zFe w2 (1+6*s.size) (.inl sh))):=by have:=zAV w2 s hs;rw[hsp] at this;exact this
 have k1:(1:Int)<=(m:Int):=by omega
 have k2:(m:Int)<=200:=by omega
 have k3:(1:Int)<=(h:Int):=by omega
 have k4:(h:Int)<=64:=by omega
 have HMO:Hid (∀w4 mv av pv,SpecIs w4 (1+6*s.size) mv av pv sh->Ca 44 #[agg #[mv,av,pv],iX (m:Int)] w4 (zOM w4 (some ms))):=λw4 mv av pv h=>by have:=zCY w4 (1+6*s.size) mv av pv sh h m h2;rw[hmo] at this;exact this
 have hsum:=zIO hsp;have HMK:Hid (∀w5 v mv av pv,SpecIs w5 (1+6*s.size) mv av pv sh->ModesAt w5 (In w5) v ms->Ca 45 #[v,av,pv,iX (h:Int)] w5 (λe w'=>Made w5 w' e ms (ints sh.acts) (sh.pushesTo sh.pushed.length) h)/\ModesOk ms/\(ints sh.acts).length=zW ms ms.length/\(sh.pushesTo sh.pushed.length).length=(ints sh.acts).length):=λw5 v mv av pv hsi hM=>by
  obtain⟨hok,hrt⟩:=zNV hsi hsum h2 hmo;exact⟨zKI w5 (In w5) v av pv ms (ints sh.acts) (sh.pushesTo sh.pushed.length) h hM hsi.acts hsi.pushes (λk hk=>hk) hok (by rw[zP,hrt]) (by rw[zP,qD];exact hsi.ok.same) (zJ3 _) (zJb hsi.there),hok,by rw[zP,hrt],by rw[zP,qD];exact hsi.ok.same⟩
 clear hsp hmo hsum;go_in;apply wp_cut;intro K0 HK0;go_wp2;apply HK0.out;clear HK0;rw[<-hw2];clear hw2;obtain⟨-,p0,p1,p2,-⟩:=HK1 w2 (Keep.refl _ _ _);apply wp_cut;intro K0 HK0;go_wp2;apply HK0.out;clear HK0;clear p0 p1 p2;apply wp_cut;intro K0 HK0;go_wp2_with (first|(go_at_call 43;refine HRD.mono ?_;rintro e w3 ⟨hk3,mv,av,pv,rfl,hsi⟩;obtain⟨⟨am,cm,e1⟩,⟨aa,ca,e2⟩,⟨ap,cp,e3⟩⟩:=hsi.forms;subst e1 e2 e3))
 apply HK0.out;clear HK0;obtain⟨w4,hw4,y0,y1,y2,K4⟩:∃w4,w4=w3.alloc (.cells #[slice am sh.modes.length cm,slice aa sh.acts.length ca,slice ap sh.pushed.length cp] 79)/\w4.cell? ⟨w3.heap.size,0,none⟩=some (slice am sh.modes.length cm)/\w4.cell? ⟨w3.heap.size,1,none⟩=some (slice aa sh.acts.length ca)/\w4.cell? ⟨w3.heap.size,2,none⟩=some (slice ap sh.pushed.length cp)/\Hid (Keep (w.heap.size+2) (w.heap.size+2) w2 w4/\SpecIs w4 (1+6*s.size) (slice am sh.modes.length cm) (slice aa sh.acts.length ca) (slice ap sh.pushed.length cp) sh/\w3.heap.size<w4.heap.size/\w.heap.size+2<=w4.heap.size):=by
  have h5:Keep (w.heap.size+2) (w.heap.size+2) w2 w3:=by rw[<-HZ2.out];exact hk3
  have h6:w.heap.size+2<=w3.heap.size:=by have:=hk3.size;rw[HZ2.out] at this;exact this
  have hn:=gY w3 (.cells #[slice am sh.modes.length cm,slice aa sh.acts.length ca,slice ap sh.pushed.length cp] 79);refine⟨_,rfl,?_,?_,?_,h5.trans (kZ _ _ h6),hsi.grown (kZ _ _ lQ),by simp,by simp;omega⟩
  all_goals (unfold cell?;rw[hn];rfl)
 rw[<-hw4];clear hw4 hk3 hsi HRD;apply wp_cut;intro K0 HK0;go_wp2;apply HK0.out;clear HK0;obtain⟨-,l0,-,-,-⟩:=HK1 w4 K4.1;obtain⟨B,hB⟩:∃B,B=w3.heap.size:=⟨_,rfl⟩
 have HBL:Hid (B<w4.heap.size):=by show B<_;rw[hB];exact K4.2.2.1
 rw[<-hB] at y0 y1 y2 ⊢;clear hB;apply wp_cut;intro K0 HK0;go_wp2_with (first|(go_at_call 44;refine(HMO w4 _ _ _ K4.2.1).mono ?_;rintro e w5 ⟨hk5,v5,rfl,hM5⟩;obtain⟨a5,c5,e5,-⟩:=id hM5;subst e5))
 apply HK0.out;clear HK0;apply wp_cut;intro K0 HK0;go_wp2;apply HK0.out;clear HK0;have K5:Hid (Keep (w.heap.size+2) (w.heap.size+2) w2 w5/\SpecIs w5 (1+6*s.size) (slice am sh.modes.length cm) (slice aa sh.acts.length ca) (slice ap sh.pushed.length cp) sh/\w.heap.size+2<=w5.heap.size/\ModesAt w5 (In w5) (slice a5 ms.length c5) ms):=⟨K4.1.trans (hk5.lower K4.2.2.2 K4.2.2.2),K4.2.1.grown hk5,lY K4.2.2.2 hk5.size,hM5⟩
 have x1:=zA y1 HBL hk5;have x2:=zA y2 HBL hk5;obtain⟨-,-,l1,-,-⟩:=HK1 w5 K5.1;obtain⟨hmk,hok,hal⟩:=HMK w5 _ _ _ _ K5.2.1 hM5;have HMK2:=vl hmk;have HOK:Hid (ModesOk ms/\(ints sh.acts).length=zW ms ms.length/\(sh.pushesTo sh.pushed.length).length=(ints sh.acts).length):=⟨hok,hal⟩
 clear l0 y0 y1 y2 hk5 hM5 HMO HMK hmk hok hal K4 HBL;apply wp_cut;intro K0 HK0;go_wp2_with (first|(go_at_call 45;refine HMK2.mono ?_;rintro e w6 ⟨p,H,cc,n,rfl,hp6,hH6,hMem,hsp6,hk6⟩))
 apply HK0.out;clear HK0;have K6:Hid (Keep (w.heap.size+2) (w.heap.size+2) w2 w6/\w.heap.size+2<=w6.heap.size/\ModesAt w6 (In w6) (slice a5 ms.length c5) ms/\w.heap.size+2<=p/\w.heap.size+2<=H/\Mem w6 H p cc (vN ms (ints sh.acts) (sh.pushesTo sh.pushed.length) h n)/\(((zZ ms (ints sh.acts) (sh.pushesTo sh.pushed.length) h).first.itr n).spreadTo (zI ms ms.length)).2=false):=⟨K5.1.trans (hk6.lower K5.2.2.1 K5.2.2.1),lY K5.2.2.1 hk6.size,K5.2.2.2.grown hk6,lY K5.2.2.1 hp6,lY K5.2.2.1 hH6,hMem,hsp6⟩
 have y7:w6.cell? ⟨p,7,none⟩=some (iX ((zB ms 256).2:Nat)):=by
  have e7:=hMem.tp.get_count;rw[hMem.count] at e7;have ec:(vN ms (ints sh.acts) (sh.pushesTo sh.pushed.length) h n).count=(zB ms 256).2:=by
   show((zZ ms (ints sh.acts) (sh.pushesTo sh.pushed.length) h).first.itr n).count=_;rw[zBq];rfl
  rw[ec] at e7;exact e7
 obtain⟨-,-,-,l2,-⟩:=HK1 w6 K6.1;have HRP:Hid (∀wq,Grew w6 wq->Ca 46 #[slice a5 ms.length c5,iX ((zB ms 256).2:Nat),bool fo] wq λe w'=>∃m0 m1 m2 s0 s1 s2 v0 v1 v2,e=returned (agg #[slice m0 m1 m2,slice s0 s1 s2,slice v0 v1 v2,iX (aheadTo ms ms.length),bool (!fo&&yB (aheadTo ms ms.length) (zB ms 256).2),zX])/\Grew wq w'):=λwq hq=>(zHS wq _ ms (K6.2.2.1.grown hq) HOK.1 (zB ms 256).2 (qZ ms 256).2 fo).mono (by rintro e w7 ⟨mo,sv,ev,rfl,hsv,hev,hk7,a,n,c,rfl⟩;obtain⟨s0,s1,rfl⟩:=OwnB.form hsv;obtain⟨v0,v1,rfl⟩:=OwnB.form hev;exact⟨a,n,c,s0,_,s1,v0,_,v1,rfl,hk7⟩);have HQ:Hid (∀w8,Grew w6 w8->((!fo&&yB (aheadTo ms ms.length) (zB ms 256).2)=true->Ca 47 #[pX p,iX (aheadTo ms ms.length)] w8 (λe w9=>e=rX/\(λw9=>∃c,Mem w9 H p c (vA ms (ints sh.acts) (sh.pushesTo sh.pushed.length) h n fo)) w9/\Keep w8.heap.size p w8 w9))/\((!fo&&yB (aheadTo ms ms.length) (zB ms 256).2)=false->(λw9=>∃c,Mem w9 H p c (vA ms (ints sh.acts) (sh.pushesTo sh.pushed.length) h n fo)) w8)):=λw8 hk8=>by
  refine⟨λhst=>?_,λhst=>?_⟩
  ·have hgt:vA ms (ints sh.acts) (sh.pushesTo sh.pushed.length) h n fo={vN ms (ints sh.acts) (sh.pushesTo sh.pushed.length) h n with stream:=true}.looking (aheadTo ms ms.length).toNat:=by unfold vA;rw[if_pos hst]
   have h5:=hst;rw[Bool.and_eq_true] at h5;have h6:=h5.2;unfold yB at h6;rw[Bool.and_eq_true] at h6;have h7:0<=aheadTo ms ms.length:=of_decide_eq_true h6.1;have h8:zJ (zB ms 256).2 (aheadTo ms ms.length).toNat<=3000:=of_decide_eq_true h6.2;have h9:=(zGq ms HOK.1 ms.length lQ).2;have hok:=zKP (t:=(zZ ms (ints sh.acts) (sh.pushesTo sh.pushed.length) h).first) ((zDb ms (ints sh.acts) (sh.pushesTo sh.pushed.length) h HOK.1 HOK.2.1).withLive _) n;have hcn:(vN ms (ints sh.acts) (sh.pushesTo sh.pushed.length) h n).count=(zB ms 256).2:=by
    show((zZ ms (ints sh.acts) (sh.pushesTo sh.pushed.length) h).first.itr n).count=_;rw[zBq];rfl
   have hst1:1<=(vN ms (ints sh.acts) (sh.pushesTo sh.pushed.length) h n).nst:=by
    show 1<=((zZ ms (ints sh.acts) (sh.pushesTo sh.pushed.length) h).first.itr n).nst;rw[zIc];exact lY (HOK.1.states1 0 HOK.1.one) (by have:=qN ms 1 ms.length HOK.1.one;have e:zI ms 1=(ms[0]'HOK.1.one).next.length:=(by simp[zI,lW,lV HOK.out.1.one]);rw[e] at this;exact this)
   have:=zEa w8 H p cc _ (K6.2.2.2.2.2.1.grown hk8) ⟨hok.1,hok.2,hok.3,hok.4⟩ hst1 (by rw[hcn];exact zDf ms 256 (by decide)) (aheadTo ms ms.length).toNat (by omega) (by rw[hcn];exact h8)
   rw[Int.toNat_of_nonneg h7] at this;refine this.mono ?_;rintro e w9 ⟨rfl,c',hM,hk⟩;exact⟨rfl,⟨c',by rw[hgt];exact hM⟩,hk⟩
  ·have hgt:vA ms (ints sh.acts) (sh.pushesTo sh.pushed.length) h n fo=vN ms (ints sh.acts) (sh.pushesTo sh.pushed.length) h n:=by unfold vA;rw[if_neg (by rw[hst];decide)]
   exact⟨cc,by rw[hgt];exact K6.2.2.2.2.2.1.grown hk8⟩
 obtain⟨hB6,-⟩:=HK1 w6 K6.1;refine zQp w w6 _ (λw9=>∃c,Mem w9 H p c (vA ms (ints sh.acts) (sh.pushesTo sh.pushed.length) h n fo)) p a5 ms.length c5 (zB ms 256).2 (aheadTo ms ms.length) (!fo&&yB (aheadTo ms ms.length) (zB ms 256).2) fo hB6 K6.2.1 K6.2.2.2.2.2.1.tp.lt (by have:=K6.2.2.2.1;omega) y7 l2 HRP HQ ?_;intro m0 m1 m2 s0 s1 s2 v0 v1 v2 w8 w9 wz L hk8 hk9 hq ho hu hL1 hL2 hblk hcell;obtain⟨c9,hM9⟩:=hq;obtain⟨-,-,-,-,hkw⟩:=HK1 w6 K6.1;have hp2:=K6.2.2.2.1;have hH2:=K6.2.2.2.2.1;have hs6:=K6.2.1;have hs8:=hk8.size;have hs9:=hk9.size;refine⟨hkw.trans ⟨ho.trans (hk9.os.trans hk8.os),hu.trans (hk9.output.trans hk8.output),by omega,λk k1 _=>(hblk k (by omega) (by omega)).trans ((hk9.block k (by omega) (by omega)).trans (hk8.block k (by omega) (by omega)))⟩,L,p,H,c9,n,m0,m1,m2,s0,s1,s2,v0,v1,v2,rfl,hcell,hL2,by omega,by omega,by omega,?_,K6.2.2.2.2.2.2,HOK.1,HOK.2.1,HOK.2.2⟩;exact hM9.keep (hblk p hM9.tp.lt (by omega)) (λk k1 k2=>hblk k k2 (by omega)) (by omega)
theorem zFs {s:ByteArray}{n k:Nat}(a:jJ s=.inr (n,k)):k≠0:=by
 unfold jJ at a;split at a
 ·cases a;decide
 split at a
 ·cases a;decide
 split at a
 ·split at a
  ·cases a
  ·cases a;decide
 ·cases a;decide
def zOO (w:World)(G:(List Sm×Sh) ⊕ (Nat×Nat))(hold:Nat)(fo:Bool)(e:Ending)(w':World):Prop:=match G with
 | .inr (n,k)=>k≠0/\zJ6 w n k e w'
 | .inl (ms,sh)=>zON w ms (ints sh.acts) (sh.pushesTo sh.pushed.length) hold fo e w'
theorem zCi (w:World)(s:ByteArray)(p:s.size<=1048576)(b a:Int)(c:Bool):Calls prog 30 #[string s,agg #[iX b,iX a,bool c]] w (zOO w (zAj s b a) a.toNat c):=by
 have j:∀{n k:Nat},k≠0->zAj s b a=.inr (n,k)->Calls prog 30 #[string s,agg #[iX b,iX a,bool c]] w (zJ6 w n k)->Calls prog 30 #[string s,agg #[iX b,iX a,bool c]] w (zOO w (zAj s b a) a.toNat c):=by
  intro n k z f A;rw[f];exact A.mono λe w' d=>⟨z,d⟩
 by_cases q:b<1
 ·exact j (by decide) (by unfold zAj yX;rw[if_pos (by simp[q])]) (zFa w s b a c (.inl q))
 have l:1<=b:=by omega
 by_cases r:200<b
 ·exact j (by decide) (by unfold zAj yX;rw[if_pos (by simp[r])]) (zFa w s b a c (.inr (.inl ⟨l,r⟩)))
 have t:b<=200:=by omega
 by_cases u:a<1
 ·exact j (by decide) (by unfold zAj yX;rw[if_pos (by simp[u])]) (zFa w s b a c (.inr (.inr (.inl ⟨l,t,u⟩))))
 have y:1<=a:=by omega
 by_cases v:64<a
 ·exact j (by decide) (by unfold zAj yX;rw[if_pos (by simp[v])]) (zFa w s b a c (.inr (.inr (.inr ⟨l,t,y,v⟩))))
 have B:a<=64:=by omega
 have C:yX b a=false:=by unfold yX;simp[q,r,u,v]
 have f:zAj s b a=match jJ s with
   | .inr e=>.inr e
   | .inl sh=>match xV (1+6*s.size) sh sh.modes.length 0 b.toNat with
    |none=>.inr (0,5)
    |some ms=>.inl (ms,sh):=by
  unfold zAj;rw[C];rfl
 obtain⟨m,rfl⟩:∃m:Nat,b=m:=⟨b.toNat,by omega⟩
 obtain⟨d,rfl⟩:∃d:Nat,a=d:=⟨a.toNat,by omega⟩
 cases g:jJ s with
 |inr e=>
  obtain⟨n,k⟩:=e;rw[g] at f;exact j (zFs g) f (zOl w s m d c p l t y B n k (zFs g) g)
 |inl sh=>
  rw[g] at f;cases o:xV (1+6*s.size) sh sh.modes.length 0 m with
  |none=>
   have x:zAj s m d=.inr (0,5):=by rw[f];show(match xV (1+6*s.size) sh sh.modes.length 0 m with|none=>_|some ms=>_)=_;rw[o]
   exact j (by decide) x (zKT w s c p m d (by omega) (by omega) (by omega) (by omega) sh g o)
  |some ms=>
   have x:zAj s m d=.inl (ms,sh):=by rw[f];show(match xV (1+6*s.size) sh sh.modes.length 0 m with|none=>_|some ms=>_)=_;rw[o]
   rw[x];exact zQn w s c p m d (by omega) (by omega) (by omega) (by omega) sh g ms o
theorem zIA (kinds:Nat)(e:1<=kinds)(a:Nat)(b:zJ kinds a<=3000):2^a<=zJ kinds a:=by
 induction a with
 |zero=>exact lQ
 |succ a d=>
  rw[zJ] at b ⊢;split at b
  ·rename_i c
   rw[if_pos c];have:=d c;rw[Nat.pow_succ];exact Nat.mul_le_mul this (by omega)
  ·exact absurd b (by assumption)
theorem zNt (kinds:Nat)(b:1<=kinds)(a:Nat)(c:zJ kinds a<=3000):a<12:=by
 have d:=zIA kinds b a c;by_cases e:a<12
 ·exact e
 ·have f:2^12<=2^a:=kG (by decide) (by omega)
  have g:(2:Nat)^12=4096:=by decide
  omega
structure Tb.Made0 (t:Tb):Prop where
 ok:t.OkN
 hold0:1<=t.hold
 hold:t.hold<=64
 nst:1<=t.nst
 count:1<=t.count
 mode1:1<=t.nmode
 mode2:t.nmode<=3
 rule1:1<=t.nrule
 rule2:t.nrule<=8
 act:∀i,i<t.nrule->t.act i<4
 start:∀i,i<t.nmode->t.start i<t.nst
 push:∀i,i<t.nrule->t.push i<t.nmode
 kind:∀c,c<256->t.kind c<t.count
theorem Tb.Made0.fine {t:Tb}(b:t.Made0)(a:Nat)(c:zJ t.count a<=3000):(t.looking a).Fine:=by
 have d:=zIA t.count b.count a c;have e:=zNt t.count b.count a c;have f:1<=2^a:=Nat.one_le_two_pow;have g:=Nat.mul_le_mul c b.ok.nst;have j:1*1<=zJ t.count a*t.nst:=Nat.mul_le_mul (by omega) b.nst;refine⟨⟨?_,b.hold0,b.hold,b.ok.count,?_,c,b.ok.nst,b.mode1,?_,b.start,b.push,b.kind,b.ok.next,b.ok.ends,λi _=>zEI _ _ _⟩,b.nst,b.count,?_,?_,b.rule1,b.rule2,b.mode2,b.act⟩
 ·show a<64
  omega
 ·show 1<=zJ t.count a
  omega
 ·show zJ t.count a*t.nst<=8*((zJ t.count a*t.nst+7)/8)
  omega
 ·show 1<=(zJ t.count a*t.nst+7)/8
  omega
 ·show(zJ t.count a*t.nst+7)/8<=75000
  omega
theorem zKj {ms:List Sm}(h:ModesOk ms):1<=zI ms ms.length:=by
 have h1:=qN ms 1 ms.length h.one;have e:zI ms 1=(ms[0]'h.one).next.length:=by simp[zI,lW,lV h.one]
 have:=h.states1 0 h.one;omega
theorem zNg {ms:List Sm}{acts pushed:List Int}{hold:Nat}(a:ModesOk ms)(b:acts.length=zW ms ms.length)(d:1<=hold)(e:hold<=64)(g:∀i,i<acts.length->(acts.getD i 0).toNat<4)(j:∀i,i<acts.length->(pushed.getD i 0).toNat<ms.length)(f:Nat->Bool):({zZ ms acts pushed hold with live:=f}:Tb).Made0:=by
 have ok:=(zDb ms acts pushed hold a b).withLive f;obtain⟨k,-,-⟩:=zCf ms a ms.length lQ;obtain⟨s1,-⟩:=zAp (zB ms 256).1 ms a ms.length lQ;refine⟨ok,d,e,zKj a,zDf ms 256 (by decide),a.one,a.three,?_,?_,g,λi l=>?_,j,λc m=>?_⟩
 ·show 1<=acts.length
  rw[b];exact a.rules1
 ·show acts.length<=8
  rw[b];exact a.rules8
 ·have o:i<ms.length:=l
  have:=k _ (zV (zT (zB ms 256).1 ms ms.length).starts i 0 (by omega));show((zT (zB ms 256).1 ms ms.length).starts.getD i 0).toNat<zI ms ms.length;omega
 ·have:=zEd ms 256 c m
  show((zB ms 256).1.getD c 0).toNat<(zB ms 256).2;omega
theorem zMQ {ms:List Sm}{acts pushed:List Int}{hold:Nat}(d:ModesOk ms)(e:acts.length=zW ms ms.length)(f:1<=hold)(g:hold<=64)(j:∀i,i<acts.length->(acts.getD i 0).toNat<4)(k:∀i,i<acts.length->(pushed.getD i 0).toNat<ms.length)(n:Nat)(l:Bool):(vA ms acts pushed hold n l).Fine:=by
 have a:((zZ ms acts pushed hold).first.itr n).Made0:=by rw[vX];exact zNg d e f g j k _
 have m:((zZ ms acts pushed hold).first.itr n).count=(zB ms 256).2:=by rw[zBq];rfl
 unfold vA;split
 ·rename_i c
  rw[Bool.and_eq_true] at c;have b:=c.2;unfold yB at b;rw[Bool.and_eq_true] at b;have o:({vN ms acts pushed hold n with stream:=true}:Tb).Made0:=⟨⟨a.ok.1,a.ok.2,a.ok.3,a.ok.4⟩,a.2,a.3,a.4,a.5,a.6,a.7,a.8,a.9,a.10,a.11,a.12,a.13⟩
  exact o.fine _ (by show zJ ((zZ ms acts pushed hold).first.itr n).count _<=3000;rw[m];exact of_decide_eq_true b.2)
 ·exact a.fine 0 (by rw[zB4];decide)
theorem zIK (t:Tb)(s:Nat)(a:(t.spreadTo s).2=false):(t.spreadTo s).1=t:=by
 induction s with
 |zero=>rfl
 |succ s b=>
  rw[Tb.spreadTo] at a ⊢;split at a
  ·cases a
  ·rename_i c
   rw[if_neg c];exact b a
theorem zHk (t:Tb)(n:Nat)(a:((t.itr n).spreadTo t.nst).2=false)(k:Nat):t.itr (n+k)=t.itr n:=by
 induction k with
 |zero=>rfl
 |succ k b=>
  show((t.itr (n+k)).spreadTo t.nst).1=t.itr n;rw[b];exact zIK _ _ a
theorem zPj (t:Tb)(n m:Nat)(a:((t.itr n).spreadTo t.nst).2=false)(b:((t.itr m).spreadTo t.nst).2=false):t.itr n=t.itr m:=by
 rcases Nat.le_total n m with c|c
 ·have:=zHk t n a (m-n)
  rw[show n+(m-n)=m by omega] at this;exact this.symm
 ·have:=zHk t m b (n-m)
  rw[show m+(n-m)=n by omega] at this;exact this
theorem zOn (ms:List Sm)(acts pushed:List Int)(hold:Nat)(a:Bool)(n m:Nat)(b:(((zZ ms acts pushed hold).first.itr n).spreadTo (zI ms ms.length)).2=false)(c:(((zZ ms acts pushed hold).first.itr m).spreadTo (zI ms ms.length)).2=false):vA ms acts pushed hold n a=vA ms acts pushed hold m a:=by
 have:=zPj (zZ ms acts pushed hold).first n m b c
 unfold vA vN;rw[this]
theorem zBI (D:Nat)(sh:Sh):∀f j a ms,xV D sh f j a=some ms->ms.length=f
 |0,_,_,ms,b=>by have e:=hQ b;subst e;rfl
 |f+1,j,a,ms,b=>by
  have c:(match zBf D (sh.mode j).2 a with|none=>none|some m=>(xV D sh f (j+1) (a-m.next.length)).map (m::·))=some ms:=b;split at c
  ·cases c
  ·have ⟨l,d,g⟩:=Option.map_eq_some_iff.1 c
   subst g;exact congrArg (·+1) (zBI D sh f _ _ l d)
theorem zMP {s:ByteArray}{c g:Int}{ms:List Sm}{sh:Sh}(b:zAj s c g=.inl (ms,sh)):(∀i,i<(ints sh.acts).length->((ints sh.acts).getD i 0).toNat<4)/\(∀i,i<sh.pushed.length->((sh.pushesTo sh.pushed.length).getD i 0).toNat<ms.length)/\yX c g=false:=by
 unfold zAj at b;split at b
 ·cases b
 rename_i m
 have o:yX c g=false:=by cases e:yX c g;rfl;exact absurd e m
 cases a:jJ s with
 |inr e=>rw[a] at b;cases b
 |inl j=>
  rw[a] at b;have k:(match xV (1+6*s.size) j j.modes.length 0 c.toNat with|none=>.inr (0,5)|some ms=>.inl (ms,j))=(.inl (ms,sh):(List Sm×Sh) ⊕ (Nat×Nat)):=b;split at k
  ·cases k
  rename_i v p
  cases k
  have q:=zBI _ _ _ _ _ _ p;have r:=zIO a;unfold jJ at a;split at a
  ·cases a
  split at a
  ·cases a
  split at a
  ·rename_i l
   rw[Bool.and_eq_true] at l;split at a
   ·have t:=Sum.inl.inj a
    rw[t] at l;refine⟨λi d=>?_,λi d=>?_,o⟩
    ·rw[zP] at d
     have:(ints sh.acts).getD i 0=((sh.acts[i]:Nat):Int):=by unfold ints;rw[lW,lV (by rw[kV];exact d),List.getElem_map];rfl
     rw[this];exact r.2 _ (List.getElem_mem d)
    ·have f:=l.2
     unfold Sh.haveB at f;have f:=(of_decide_eq_true f).1;have:(sh.pushesTo sh.pushed.length).getD i 0=sh.pushI (sh.push i):=by unfold Sh.pushesTo;rw[lW,lV (by rw[kV,List.length_range];exact d),List.getElem_map,List.getElem_range];rfl
     rw[this,q];unfold Sh.pushI;split
     ·exact f
     ·unfold Sh.modeI
      split
      ·rename_i u;exact u
      ·exact f
   ·cases a
  ·cases a
def vI (s:ByteArray):Option (List Sm×Sh):=match zAj s 200 64 with
 | .inl x=>some x
 | .inr _=>none
theorem zMR (s:ByteArray)(a:Int)(c:1<=a)(d:a<=64):zAj s 200 a=zAj s 200 64:=by
 have b:yX 200 a=yX 200 64:=by
  unfold yX;rw[gG (show¬a<1 by omega),gG (show¬64<a by omega)];rfl
 unfold zAj;rw[b]
structure LexIn (w:World)(B L:Nat)(x:List Sm×Sh)(hold:Nat)(fo:Bool)(t:Tb):Prop where
 fine:t.Fine
 made:∃n,t=vA x.1 (ints x.2.acts) (x.2.pushesTo x.2.pushed.length) hold n fo/\(((zZ x.1 (ints x.2.acts) (x.2.pushesTo x.2.pushed.length) hold).first.itr n).spreadTo (zI x.1 x.1.length)).2=false
 modes:ModesOk x.1
 from_:B<=L
 at_:∃S p,LexAt w S L p t/\∀k,S k->B<=k
theorem LexIn.keep {w w':World}{B d:Nat}{x:List Sm×Sh}{hold:Nat}{f:Bool}{t:Tb}(a:LexIn w B d x hold f t)(e:∀k,B<=k->k<w.heap.size->w'.heap[k]? =w.heap[k]?)(g:w.heap.size<=w'.heap.size):LexIn w' B d x hold f t:=by
 have ⟨S,p,b,j⟩:=a.at_;exact⟨a.fine,a.made,a.modes,a.from_,S,p,⟨(gW (e d a.from_ b.lt)).trans b.cell,lZ b.lt g,b.tab.keep λk c=>e k (j k c) (b.safe k c),λk c=>lZ (b.safe k c) g⟩,j⟩
theorem LexIn.grown {w w':World}{B a:Nat}{x:List Sm×Sh}{hold:Nat}{b:Bool}{t:Tb}(c:LexIn w B a x hold b t)(e:Grew w w'):LexIn w' B a x hold b t:=c.keep (λk _ d=>e.block k d (by omega)) e.size
theorem LexIn.less {w:World}{B C b:Nat}{x:List Sm×Sh}{hold:Nat}{c:Bool}{t:Tb}(a:LexIn w B b x hold c t)(d:C<=B):LexIn w C b x hold c t:=by
 have ⟨S,p,e,f⟩:=a.at_;exact⟨a.fine,a.made,a.modes,lY d a.from_,S,p,e,λk g=>lY d (f k g)⟩
theorem LexIn.of {w w':World}{s:ByteArray}{m:Int}{ms:List Sm}{sh:Sh}{hold:Nat}{d:Bool}(o:zAj s m hold=.inl (ms,sh)){e p H n:Nat}{c:Tc}(q:w'.cell? ⟨e,0,none⟩=some (pX p))(r:e<w'.heap.size)(t:w.heap.size<=e)(u:w.heap.size<=H)(v:w.heap.size<=p)(f:Mem w' H p c (vA ms (ints sh.acts) (sh.pushesTo sh.pushed.length) hold n d))(x:(((zZ ms (ints sh.acts) (sh.pushesTo sh.pushed.length) hold).first.itr n).spreadTo (zI ms ms.length)).2=false)(g:ModesOk ms)(y:(ints sh.acts).length=zW ms ms.length)(z:(sh.pushesTo sh.pushed.length).length=(ints sh.acts).length):LexIn w' w.heap.size e (ms,sh) hold d (vA ms (ints sh.acts) (sh.pushesTo sh.pushed.length) hold n d):=by
 have ⟨A,B,h⟩:=zMP o;have j:1<=hold/\hold<=64:=by
  unfold yX at h;simp only[Bool.or_eq_false_iff,decide_eq_false_iff_not] at h;omega
 have b:=zMQ g y j.1 j.2 A (λi l=>B i (by rw[<-z,qD] at l;exact l)) n d;refine⟨b,⟨n,rfl,x⟩,g,t,Mem.blocks w' H p,p,⟨q,r,f.tabAt b.ok.nmode b.rule1 b.nst b.count b.long1,λk a=>?_⟩,λk a=>?_⟩
 ·rcases a with rfl|a
  ·exact f.tp.lt
  ·exact a.2
 ·rcases a with rfl|a
  ·exact v
  ·exact lY u a.1
def zBA (x:List Sm×Sh)(fo:Bool):Bool:=!fo&&yB (aheadTo x.1 x.1.length) (zB x.1 256).2
def zPS (w:World)(s:ByteArray)(h:Nat)(fo:Bool)(k:Int)(Q:Option Addr->Int->Bool->World->Prop):Prop:=
 Calls prog 30 #[string s,agg #[int i64 200,int i64 (h:Int),bool fo]] w λe w'=>Grew w w'/\∃x m0 m1 m2 s0 s1 s2 v0 v1 v2 AH ST LN,e=returned (tuple #[pointer x,agg #[slice m0 m1 m2,slice s0 s1 s2,slice v0 v1 v2,int i64 AH,bool ST,int i64 LN],int i64 k])/\Q x AH ST w'
theorem zPO (w:World):∃a,a=w.alloc (Obj.cells #[nX,nX,nX,zX,bool false,zX] 30)/\Hid (∀b,Grew a b->b.heap[w.heap.size]? =some (Obj.cells #[nX,nX,nX,zX,bool false,zX] 30))/\Hid (a.heap.size=w.heap.size+1/\Grew w a):=⟨_,rfl,λb c=>(c.block w.heap.size (by simp) (by simp)).trans (gY w _),by simp,kZ _ _ lQ⟩
theorem zPN {w a w1:World}{m0 s0 v0:Option Addr}{m1 m2 s1 s2 v1 v2:Nat}{AH LN:Int}{ST:Bool}(b:Grew a w1)(d:Hid (a.heap.size=w.heap.size+1/\Grew w a)):∃w2,w2=w1.alloc (.cells #[slice m0 m1 m2,slice s0 s1 s2,slice v0 v1 v2,iX AH,bool ST,iX LN] 30)/\w2.cell? ⟨w1.heap.size,0,none⟩=some (slice m0 m1 m2)/\w2.cell? ⟨w1.heap.size,1,none⟩=some (slice s0 s1 s2)/\w2.cell? ⟨w1.heap.size,2,none⟩=some (slice v0 v1 v2)/\w2.cell? ⟨w1.heap.size,3,none⟩=some (iX AH)/\w2.cell? ⟨w1.heap.size,4,none⟩=some (bool ST)/\w2.cell? ⟨w1.heap.size,5,none⟩=some (iX LN)/\Hid (Grew a w2/\Grew w1 w2/\w.heap.size<w1.heap.size):=by
 have e:=gY w1 (.cells #[slice m0 m1 m2,slice s0 s1 s2,slice v0 v1 v2,iX AH,bool ST,iX LN] 30);have c:Grew w1 (w1.alloc (.cells #[slice m0 m1 m2,slice s0 s1 s2,slice v0 v1 v2,iX AH,bool ST,iX LN] 30)):=kZ _ _ lQ;have f:=b.size;rw[d.out.1] at f;refine⟨_,rfl,?_,?_,?_,?_,?_,?_,b.th c,c,by omega⟩
 all_goals (unfold cell?;rw[e];rfl)
theorem zPM {w w2 b:World}{m0 s0 v0:Option Addr}{m1 m2 s1 s2 v1 v2:Nat}{AH LN:Int}{ST:Bool}(c:b.heap[w.heap.size]? =some (.cells #[slice m0 m1 m2,slice s0 s1 s2,slice v0 v1 v2,iX AH,bool ST,iX LN] 30))(d:b.heap.size=w2.heap.size)(e:b.os=w2.os)(f:b.output=w2.output)(g:∀k,k≠w.heap.size->b.heap[k]? =w2.heap[k]?):∃a,a=b.drew/\a.cell? ⟨w.heap.size,0,none⟩=some (slice m0 m1 m2)/\a.cell? ⟨w.heap.size,1,none⟩=some (slice s0 s1 s2)/\a.cell? ⟨w.heap.size,2,none⟩=some (slice v0 v1 v2)/\a.cell? ⟨w.heap.size,3,none⟩=some (iX AH)/\a.cell? ⟨w.heap.size,4,none⟩=some (bool ST)/\a.cell? ⟨w.heap.size,5,none⟩=some (iX LN)/\Hid (a.os=w2.os/\a.output=w2.output/\a.heap.size=w2.heap.size/\(∀k,k≠w.heap.size->a.heap[k]? =w2.heap[k]?)):=by
 have h:b.drew.heap[w.heap.size]? =some (.cells #[slice m0 m1 m2,slice s0 s1 s2,slice v0 v1 v2,iX AH,bool ST,iX LN] 30):=c;refine⟨_,rfl,?_,?_,?_,?_,?_,?_,e,f,d,g⟩
 all_goals (unfold cell?;rw[h];rfl)
theorem zQb (w:World)(s:ByteArray)(l:Nat)(m:Bool)(Q:Option Addr->Int->Bool->World->Prop)(g:zPS (w.alloc (Obj.cells #[nX,nX,nX,zX,bool false,zX] 30)) s l m 0 Q)
  (o:∀x AH ST w1 w',Q x AH ST w1->(∀k,w.heap.size<k->k<w1.heap.size->w'.heap[k]? =w1.heap[k]?)->w1.heap.size<=w'.heap.size->Q x AH ST w'):
  Calls prog 16 #[string s,iX (l:Int),bool m] w λe w'=>Grew w w'/\∃x m0 m1 m2 s0 s1 s2 v0 v1 v2 AH ST LN,e=returned (tuple #[pointer x,agg #[slice m0 m1 m2,slice s0 s1 s2,slice v0 v1 v2,iX AH,bool ST,iX LN]])/\Q x AH ST w':=by
 have ⟨T,j,p,d⟩:=zPO w;rw[<-j] at g;have q:=vl g;clear g;go_in;apply wp_cut;intro f a;go_wp2;rw[<-j];apply a.out;clear a j;apply wp_cut;intro f a;go_wp2_with (go_at_call 30;refine q.mono ?_;rintro e w1 ⟨F,x,m0,m1,m2,s0,s1,s2,v0,v1,v2,AH,ST,LN,rfl,r⟩)
 have ⟨w2,t,U,V,W,X,Y,aa,b⟩:=zPN (m0:=m0) (s0:=s0) (v0:=v0) (m1:=m1) (m2:=m2) (s1:=s1) (s2:=s2) (v1:=v1) (v2:=v2) (AH:=AH) (LN:=LN) (ST:=ST) F d;rw[<-t];apply a.out;clear a t q;have G:=vl r;clear r;apply wp_cut;intro f a;go_wp2;apply a.out;clear a;have ⟨ab,ac,ad,ae,af,ag,ah,ai,aj,ak,al,am⟩:=jV (p w2 b.1);have an:Hid (w1.heap.size≠w.heap.size):=by have:=b.2.2;show _≠_;omega
 have H:=vl o;clear o;apply wp_cut;intro f a;go_region
 all_goals
  have ⟨ao,u,y,z,A,B,C⟩:=zE5 w2 w.heap.size (slice m0 m1 m2) (slice s0 s1 s2) (slice v0 v1 v2) (iX AH) (bool ST) (iX LN) (p w2 b.1);rw[<-u];have ⟨I,D,J,K,L,M,N,O,c⟩:=zPM y z A B C;rw[<-D];clear u D y z A B C;show f _ _;apply a.out;clear a;go_wp2;refine gJ (v:=tuple #[pointer x,agg #[slice m0 m1 m2,slice s0 s1 s2,slice v0 v1 v2,iX AH,bool ST,iX LN]]) (by simp[results,results16,go_sem,J,K,L,M,N,O]) rfl ?_;have P:=b.1.size;have R:=b.2.1.size;refine⟨d.2.trans ⟨c.1.trans b.1.os,c.2.1.trans b.1.output,by rw[c.out.2.2.1];exact P,λk S E=>(c.2.2.2 k (by omega)).trans (b.1.block k (by rw[d.out.1];omega) (by rw[d.out.1];omega))⟩,x,m0,m1,m2,s0,s1,s2,v0,v1,v2,AH,ST,LN,rfl,?_⟩;exact H _ _ _ w1 I G (λk S E=>(c.2.2.2 k (by omega)).trans (b.2.1.block k E (by omega))) (by rw[c.out.2.2.1];exact R)
theorem zQK (w:World)(s:ByteArray)(j:Nat)(l:Bool)(k:Nat)(T:(k:Int)≠0)(Q:Option Addr->Int->Bool->World->Prop)(f:zPS (w.alloc (Obj.cells #[nX,nX,nX,zX,bool false,zX] 30)) s j l (k:Int) (λ_ AH ST w'=>Q none AH ST w'))
  (m:∀x AH ST w1 w',Q x AH ST w1->(∀k,w.heap.size<k->k<w1.heap.size->w'.heap[k]? =w1.heap[k]?)->w1.heap.size<=w'.heap.size->Q x AH ST w'):
  Calls prog 16 #[string s,iX (j:Int),bool l] w λe w'=>Grew w w'/\∃x m0 m1 m2 s0 s1 s2 v0 v1 v2 AH ST LN,e=returned (tuple #[pointer x,agg #[slice m0 m1 m2,slice s0 s1 s2,slice v0 v1 v2,iX AH,bool ST,iX LN]])/\Q x AH ST w':=by
 have ⟨U,g,o,d⟩:=zPO w;rw[<-g] at f;have p:=vl f;clear f;go_in;apply wp_cut;intro q b;go_wp2;rw[<-g];apply b.out;clear b g;apply wp_cut;intro q b;go_wp2_with (go_at_call 30;refine p.mono ?_;rintro e w1 ⟨F,x,m0,m1,m2,s0,s1,s2,v0,v1,v2,AH,ST,LN,rfl,r⟩)
 have ⟨w2,t,V,W,X,Y,aa,ab,a⟩:=zPN (m0:=m0) (s0:=s0) (v0:=v0) (m1:=m1) (m2:=m2) (s1:=s1) (s2:=s2) (v1:=v1) (v2:=v2) (AH:=AH) (LN:=LN) (ST:=ST) F d;rw[<-t];apply b.out;clear b t p;have G:=vl r;clear r;apply wp_cut;intro q b;have ⟨ac,ad,ae,af,ag,ah,ai,aj,ak,al,am,an⟩:=jV (o w2 a.1);have ao:Hid (w1.heap.size≠w.heap.size):=by have:=a.2.2;show _≠_;omega
 have H:=vl m;clear m;go_wp2;go_region
 all_goals
  have ⟨ap,u,y,z,A,B,C⟩:=zE5 w2 w.heap.size (slice m0 m1 m2) (slice s0 s1 s2) (slice v0 v1 v2) (iX AH) (bool ST) (iX LN) (o w2 a.1);rw[<-u];have ⟨I,D,J,K,L,M,N,O,c⟩:=zPM y z A B C;rw[<-D];clear u D y z A B C;go_wp2;refine gJ (v:=tuple #[pointer none,agg #[slice m0 m1 m2,slice s0 s1 s2,slice v0 v1 v2,iX AH,bool ST,iX LN]]) (by simp[results,results16,go_sem,J,K,L,M,N,O]) rfl ?_;have P:=a.1.size;have R:=a.2.1.size;refine⟨d.2.trans ⟨c.1.trans a.1.os,c.2.1.trans a.1.output,by rw[c.out.2.2.1];exact P,λk S E=>(c.2.2.2 k (by omega)).trans (a.1.block k (by rw[d.out.1];omega) (by rw[d.out.1];omega))⟩,none,m0,m1,m2,s0,s1,s2,v0,v1,v2,AH,ST,LN,rfl,?_⟩;exact H _ _ _ w1 I G (λk S E=>(c.2.2.2 k (by omega)).trans (a.2.1.block k E (by omega))) (by rw[c.out.2.2.1];exact R)
theorem zPr {s:ByteArray}{d f:Int}{n k:Nat}(a:zAj s d f=.inr (n,k)):k≠0:=by
 unfold zAj at a;split at a
 ·cases a;decide
 cases b:jJ s with
 |inr e=>rw[b] at a;have a:=Sum.inr.inj a;subst a;exact zFs b
 |inl sh=>
  rw[b] at a;have c:(match xV (1+6*s.size) sh sh.modes.length 0 d.toNat with|none=>.inr (0,5)|some ms=>.inl (ms,sh))=(.inr (n,k):(List Sm×Sh) ⊕ (Nat×Nat)):=a;split at c
  ·cases c;decide
  ·cases c
def OfQ (s:ByteArray)(h:Nat)(fo:Bool)(B:Nat)(x:Option Addr)(AH:Int)(ST:Bool)(w':World):Prop:=match vI s with
 |none=>x=none
 |some y=>∃L t,x=some ⟨L,0,none⟩/\AH=aheadTo y.1 y.1.length/\ST=zBA y fo/\LexIn w' B L y h fo t
theorem OfQ.keep {s:ByteArray}{a:Nat}{b:Bool}{B C:Nat}{x:Option Addr}{AH:Int}{ST:Bool}{w w':World}(q:OfQ s a b B x AH ST w)(e:∀k,B<=k->k<w.heap.size->w'.heap[k]? =w.heap[k]?)(d:w.heap.size<=w'.heap.size)(f:C<=B):OfQ s a b C x AH ST w':=by
 unfold OfQ at q ⊢;cases c:vI s with
 |none=>rw[c] at q;exact q
 |some y=>
  rw[c] at q;obtain⟨g,t,j,l,m,o⟩:=q;exact⟨g,t,j,l,m,(o.keep e d).less f⟩
def zQO (w:World)(s:ByteArray)(h:Nat)(fo:Bool)(e:Ending)(w':World):Prop:=Grew w w'/\∃x m0 m1 m2 s0 s1 s2 v0 v1 v2 AH ST LN,e=returned (tuple #[pointer x,agg #[slice m0 m1 m2,slice s0 s1 s2,slice v0 v1 v2,int i64 AH,bool ST,int i64 LN]])/\OfQ s h fo w.heap.size x AH ST w'
theorem zFM (w:World)(s:ByteArray)(j:s.size<=1048576)(a:Nat)(K:1<=a)(M:a<=64)(b:Bool):Calls prog 16 #[string s,iX (a:Int),bool b] w (zQO w s a b):=by
 have g:=zCi (w.alloc (Obj.cells #[nX,nX,nX,zX,fX,zX] 30)) s j 200 (a:Int) b;have l:=zMR s (a:Int) (by omega) (by omega);have u:(w.alloc (Obj.cells #[nX,nX,nX,zX,fX,zX] 30)).heap.size=w.heap.size+1:=by simp
 have r:∀x AH ST w1 w',OfQ s a b (w.heap.size+1) x AH ST w1->(∀k,w.heap.size<k->k<w1.heap.size->w'.heap[k]? =w1.heap[k]?)->w1.heap.size<=w'.heap.size->OfQ s a b (w.heap.size+1) x AH ST w':=λx AH ST w1 w' q e j=>q.keep (λk N v=>e k (by omega) v) j lQ;cases f:zAj s 200 64 with
 |inr z=>
  obtain⟨n,k⟩:=z;rw[l,f] at g;have m:vI s=none:=by unfold vI;rw[f]
  ·have O:=zPr f
   refine(zQK w s a b k (by omega) (OfQ s a b (w.heap.size+1)) (g.mono ?_) r).mono ?_
   ·rintro e w' ⟨-,d,rfl⟩
    exact⟨d,none,none,0,0,none,0,0,none,0,0,0,false,(n:Int),rfl,by unfold OfQ;rw[m]⟩
   ·rintro e w' ⟨d,x,m0,m1,m2,s0,s1,s2,v0,v1,v2,AH,ST,LN,rfl,o⟩
    exact⟨d,x,m0,m1,m2,s0,s1,s2,v0,v1,v2,AH,ST,LN,rfl,o.keep (λ_ _ _=>rfl) lQ (by omega)⟩
 |inl y=>
  obtain⟨ms,sh⟩:=y;rw[l,f] at g;have m:vI s=some (ms,sh):=by unfold vI;rw[f]
  refine(zQb w s a b (OfQ s a b (w.heap.size+1)) (g.mono ?_) r).mono ?_
  ·rintro e w' ⟨d,A,p,H,c,n,m0,m1,m2,s0,s1,s2,v0,v1,v2,rfl,c1,c2,B,C,D,E,F,G,I,J⟩
   refine⟨d,_,m0,m1,m2,s0,s1,s2,v0,v1,v2,_,_,_,rfl,?_⟩;unfold OfQ;rw[m];have t:=LexIn.of (w:=w.alloc (Obj.cells #[nX,nX,nX,zX,fX,zX] 30)) (l.trans f) c1 c2 B C D E F G I J;rw[u] at t;exact⟨A,_,rfl,rfl,rfl,t⟩
  ·rintro e w' ⟨d,x,m0,m1,m2,s0,s1,s2,v0,v1,v2,AH,ST,LN,rfl,o⟩
   exact⟨d,x,m0,m1,m2,s0,s1,s2,v0,v1,v2,AH,ST,LN,rfl,o.keep (λ_ _ _=>rfl) lQ (by omega)⟩
theorem zKC (w:World)(s:ByteArray)(h:s.size<=1048576):Calls prog 29 #[string s] w λe w'=>e=returned (tuple #[bool (vI s).isNone,bool true])/\Grew w w':=by
 have b:=zCi w s h 200 64 false;cases d:zAj s 200 64 with
 |inr j=>
  obtain⟨n,k⟩:=j;rw[d] at b;have f:=vl b;have g:vI s=none:=by unfold vI;rw[d]
  rw[g];go_in;go_wp2_with (go_at_call 30;refine f.mono ?_;rintro e w1 ⟨l,a,rfl⟩;have m:((k:Int) != 0)=true:=by simpa using l)
  refine gJ (results_tmp2 rfl _ _ _) rfl ?_;exact⟨by simp only[m];rfl,a.trans (kZ _ _ a.size)⟩
 |inl y=>
  obtain⟨ms,sh⟩:=y;rw[d] at b;have f:=vl b;have g:vI s=some (ms,sh):=by unfold vI;rw[d]
  rw[g];go_in;go_wp2_with (go_at_call 30;refine f.mono ?_;rintro e w1 ⟨a,o,p,H,c,n,m0,m1,m2,s0,s1,s2,v0,v1,v2,rfl,-⟩)
  refine gJ (results_tmp2 rfl _ _ _) rfl ?_;exact⟨rfl,a.trans (kZ _ _ a.size)⟩
def Rs.born (t:Tb)(p:Nat):Rs:={Rs.zero p with stack:=λ_=>0,depth:=1,state:=t.start 0}
theorem Rs.born_good (t:Tb)(p:Nat)(a:t.Fine):(Rs.born t p).Good t 0:=by
 have ok:(Rs.born t p).Ok t:=⟨lQ,by show(1:Nat)<=4;decide,λ_ _=>a.ok.nmode,a.ok.start 0 a.ok.nmode,by show(0:Nat)<64;decide,lX,λ_ _=>by show(0:Nat)<256;decide⟩
 unfold Rs.Good;split
 ·exact⟨ok,a.ok.rows0,lX,lQ,lQ,lQ⟩
 ·exact⟨ok,lQ,lQ,.inl rfl,lQ,lQ,lQ,lQ⟩
theorem zFy (b H:Nat)(S:Nat->Prop)(t:Tb)(w:World)(a:Rs)(s:ByteArray)(P:Nat)(f:Cv H b S t w a nX [])(c:t.Fine)(d:a.Good t P)(k:P+s.size<4194000):
  Calls prog 35 #[pX b,string s] w λe w'=>
   ∃v,e=returned v/\zN w' b (Rs.feed t (nats s) a).1 nX/\w'.ownsRow H 51 6 v (Rs.feed t (nats s) a).2.length (xD (Rs.feed t (nats s) a).2)/\Keep H b w w':=by
 have g:Hid (Ca 50 #[pX b,string s] w λe w'=>∃v,e=returned v/\zN w' b (Rs.feed t (nats s) a).1 nX/\w'.ownsRow H 51 6 v (Rs.feed t (nats s) a).2.length (xD (Rs.feed t (nats s) a).2)/\Keep H b w w'):=by
  have l:=d.cnt;have m:xK a.opn<=1:=by unfold xK;split <;> omega
  exact zGB b H S t w a [] s P (P+1) f c.ok c.act d (by omega) (by show 0+a.count+xK a.opn<=P+1;omega) (by omega)
 go_in;go_wp2_with fail;refine g.mono ?_;rintro e w2 ⟨v2,rfl,h⟩;have j:Hid _:=h;go_wp2;go_ret;exact⟨v2,rfl,j⟩
theorem zET (b H:Nat)(S:Nat->Prop)(t:Tb)(w:World)(r:Rs)(P:Nat)(c:Cv H b S t w r nX [])(a:t.Fine)(d:r.Good t P)(j:P<4194000):
  Calls prog 42 #[pX b] w λe w'=>
   ∃v,e=returned v/\zN w' b (r.shut t).1 nX/\w'.ownsRow H 51 6 v (r.shut t).2.length (xD (r.shut t).2)/\Keep H b w w':=by
 have f:=vl <| zFz b H S t w r P c a.ok a.act d (by omega);go_in;go_wp2_with fail;refine f.mono ?_;rintro e w2 ⟨v2,rfl,g⟩;have h:Hid _:=g;go_wp2;go_ret;exact⟨v2,rfl,h⟩
theorem zMS (l:List Value)(k:Nat)(b:Array Value)(i:Nat)(d:k+l.length<=b.size):((l.zipIdx k).foldl (λcs x=>cs.setIfInBounds x.2 x.1) b)[i]? =if k<=i/\i<k+l.length then l[i-k]? else b[i]? :=by
 induction l generalizing k b with
 |nil=>simp;intro c e;omega
 |cons a l f=>
  rw[List.zipIdx_cons,List.foldl_cons,f (k+1) (b.setIfInBounds k a) (by simp at d ⊢;omega)];simp only[hU] at d ⊢;by_cases c:k+1<=i/\i<k+1+l.length
  ·rw[if_pos c,if_pos (by omega),show i-k=(i-(k+1))+1 by omega,List.getElem?_cons_succ]
  ·rw[if_neg c]
   by_cases e:i=k
   ·subst e
    rw[if_pos (by omega)];simp[show i<b.size by omega]
   ·rw[if_neg (by omega),Array.getElem?_setIfInBounds_ne (by omega)]
theorem zOo (a c:Array Value)(n:Nat)(f:a.size=n)(b:c.size=n):Array.foldl (λcs x=>cs.setIfInBounds x.snd x.fst) a c.zipIdx 0 n=c:=by
 have e:Array.foldl (λcs x=>cs.setIfInBounds x.snd x.fst) a c.zipIdx 0 n=(c.toList.zipIdx 0).foldl (λcs x=>cs.setIfInBounds x.2 x.1) a:=by
  have d:c.zipIdx.size=n:=by simp[b]
  rw[<-d,<-Array.foldl_toList];simp
 rw[e];apply Array.ext_getElem?;intro i;rw[zMS _ _ _ _ (by simp;omega)];by_cases g:i<n
 ·rw[if_pos (by simp;omega)]
  simp
 ·rw[if_neg (by simp;omega),Array.getElem?_eq_none (by omega),Array.getElem?_eq_none (by omega)]
theorem zGw:zeroCells104.size=85:=by kernel_rfl
theorem zFR (x p:Nat)(S:Nat->Prop)(t:Tb)(w:World)(o:w.cell? ⟨x,0,none⟩=some (pX p))(f:TabAt w S p t)(g:∀k,S k->k<w.heap.size)(h:t.Fine):
  Calls prog 34 #[pX x] w λe w'=>∃b,e=returned (pX b)/\w.heap.size<=b/\b<w'.heap.size/\zN w' b (Rs.born t p) nX/\Grew w w':=by
 have j:Hid _:=zJT p S t w f g h.ok;go_in;go_wp2_with fail;refine Calls.mono j ?_;rintro e w2 ⟨c,rfl,d,l,m⟩;have a:Hid ((∀i,i<85->c[i]? =some ((Rs.born t p).cells nX i))/\Grew w w2):=⟨l,m⟩
 go_wp2;rw[zOo _ c 85 zGw d];go_ret;refine⟨w2.heap.size,rfl,a.2.size,by simp,⟨_,c,gY w2 _,d,a.1⟩,a.2.trans (kZ _ _ a.2.size)⟩
def Tb.events (t:Tb)(p:Nat)(s:ByteArray):List Ev:=(Rs.feed t (nats s) (Rs.born t p)).2++((Rs.feed t (nats s) (Rs.born t p)).1.shut t).2
theorem zE0 (a:List Ev):(xD a).length=a.length*6:=by
 induction a with
 |nil=>rfl
 |cons e a b=>simp only[xD,List.flatMap_cons,kX,hU] at *;rw[b];simp[Ev.cells,jI];omega
theorem zIj (b:List Ev):∀u∈xD b,u.oneCell'=true:=by
 intro u a;have ⟨e,_,a⟩:=List.mem_flatMap.1 a;simp[Ev.cells,jI] at a;rcases a with rfl|rfl|rfl|rfl|rfl|rfl <;> rfl
theorem zE1 (a b:List Ev):xD (a++b)=xD a++xD b:=by simp[xD]
theorem Rs.shut_len (r:Rs)(t:Tb)(P:Nat)(ok:t.Ok)(c:r.Good t P):(r.shut t).2.length<=r.count+1:=by
 unfold Rs.shut;split
 ·rename_i a
  split
  ·exact(r.closed_end t a).2.2
  ·rename_i d
   have f:=c.oth (by simpa using d);have b:=(r.endN_inv t P ok f (r.count+2)).2.1;have k:xK r.opn<=1:=by unfold xK;split <;> omega
   have l:xK r.opn=1:=by rw[a];rfl
   unfold Rs.closeO;split
   ·rename_i g
    have e:xK (r.endAll t).1.opn=1:=by rw[g];rfl
    show((r.endAll t).2++[_]).length<=_;rw[kX];have j:(r.endAll t).2.length+(r.endAll t).1.count+xK (r.endAll t).1.opn<=r.count+xK r.opn:=b;simp only[hU,List.length_nil];omega
   ·have j:(r.endAll t).2.length+(r.endAll t).1.count+xK (r.endAll t).1.opn<=r.count+xK r.opn:=b
    omega
 ·exact lX
theorem Rs.long_tp (r:Rs)(t:Tb):(r.long t).1.tp=r.tp:=by
 unfold Rs.long;split
 ·rfl
 ·exact(r.cut.tok_same t _ _ _ _).tp
theorem Rs.heldStep_tp (r:Rs)(t:Tb):(r.heldStep t).1.tp=r.tp:=by
 have a:((r.ate t).marked t).tp=r.tp:=by unfold Rs.marked;split <;> rfl
 unfold Rs.heldStep Rs.judged;split
 ·exact a
 ·rw[Rs.long_tp];exact a
theorem Rs.heldN_tp (r:Rs)(t:Tb)(n:Nat):(r.heldN t n).1.tp=r.tp:=by
 induction n with
 |zero=>rfl
 |succ n a=>
  rw[Rs.heldN];split
  ·show((r.heldN t n).1.heldStep t).1.tp=r.tp
   rw[Rs.heldStep_tp,a]
  ·exact a
theorem Rs.eat_tp (r:Rs)(t:Tb)(c:Nat):(r.eat t c).1.tp=r.tp:=by
 unfold Rs.eat
 split
 ·unfold Rs.take Rs.due
  split
  ·exact((((r.added c).looked t (t.kind c)).took t).fin_same t).tp
  ·rfl
 ·unfold Rs.takeO
  split
  ·rfl
  ·exact(r.added c).heldN_tp t _
theorem Rs.feed_tp (t:Tb)(cs:List Nat)(r:Rs):(Rs.feed t cs r).1.tp=r.tp:=by
 induction cs generalizing r with
 |nil=>rfl
 |cons c cs a=>
  rw[Rs.feed];split
  ·show(Rs.feed t cs (r.eat t c).1).1.tp=r.tp
   rw[a,Rs.eat_tp]
  ·rfl
theorem Keep.less {H b d c:Nat}{w w':World}(a:Keep H b w w')(e:d<=H)(f:d<=b):Keep d c w w':=⟨a.os,a.output,a.size,λk g _=>a.block k (by omega) (by omega)⟩
theorem Keep.grownEnd {a c:Nat}{w w':World}{row:Option Nat}(b:w.grownBy w' row)(d:a<=w.heap.size)(e:∀k,row=some k->a<=k):Keep a c w w':=Keep.grown b d e
theorem zFx (x p:Nat)(S:Nat->Prop)(t:Tb)(w:World)(s:ByteArray)(Y:w.cell? ⟨x,0,none⟩=some (pX p))(B:TabAt w S p t)(C:∀k,S k->k<w.heap.size)(d:t.Fine)(aA:s.size<=1048576):
  Calls prog 27 #[pX x,string s] w λe w'=>∃v,e=returned v/\w'.ownsRow w.heap.size 51 6 v (t.events p s).length (xD (t.events p s))/\Grew w w':=by
 have aa:=vl <| zFR x p S t w Y B C d;have l:Hid (TabAt w S p t/\∀k,S k->k<w.heap.size):=⟨B,C⟩
 have r:Hid ((Rs.feed t (nats s) (Rs.born t p)).1.Good t (0+(nats s).length)/\(Rs.feed t (nats s) (Rs.born t p)).2.length+(Rs.feed t (nats s) (Rs.born t p)).1.count<=1+s.size):=by
  have ⟨D,E,_⟩:=Rs.feed_inv t d.ok (nats s) (Rs.born t p) 0 (Rs.born_good t p d) (zDE s);rw[qG] at E;have aB:(Rs.born t p).count=0:=rfl;have aC:xK (Rs.born t p).opn=1:=rfl;exact⟨D,by omega⟩
 go_in;go_wp2_with fail;refine aa.mono ?_;rintro e w1 ⟨b,rfl,ab,ac,ad,F⟩;have G:Hid (Cv w1.heap.size b S t w1 (Rs.born t p) nX []):=by
  refine⟨ad,ownsRow_nil _ _ _ _,l.1.keep λk a=>?_,ac,lQ,λk a=>?_⟩
  ·have:=l.2 k a
   exact F.block k this (by omega)
  ·have:=l.2 k a
   omega
 have ae:=vl F;have aD:=ab;go_wp2_with fail;refine(zFy b w1.heap.size S t w1 (Rs.born t p) s 0 G d (Rs.born_good t p d) (by omega)).mono ?_;rintro e w2 ⟨v1,rfl,af,ag,y⟩;have H:Hid (Cv w2.heap.size b S t w2 (Rs.feed t (nats s) (Rs.born t p)).1 nX []):=by
  have aE:=y.size;refine⟨af,ownsRow_nil _ _ _ _,?_,by omega,lQ,λk a=>?_⟩
  ·have ah:=Rs.feed_tp t (nats s) (Rs.born t p)
   rw[ah];refine G.tab.keep λk a=>?_;have:=l.2 k a;exact y.block k (by omega) (by omega)
  ·have:=l.2 k a
   omega
 have I:=vl <| ae.trans (y.less (by omega) (by omega));have J:=vl ag;go_wp2_with fail;refine(zET b w2.heap.size S t w2 _ _ H d r.1 (by rw[qG];omega)).mono ?_;rintro e f ⟨v2,rfl,ai,K,z⟩;have A:Hid (Grew w f):=I.trans (z.less I.size (by omega));have o:Hid (f.ownsRow w.heap.size 51 6 v1 (Rs.feed t (nats s) (Rs.born t p)).2.length (xD (Rs.feed t (nats s) (Rs.born t p)).2)):=by
  have L:=J.out;refine⟨L.1,L.2.imp id ?_⟩;rintro⟨g,cap,M,aj,aF,N,ak⟩;have al:=(kQ.1 N).1;exact⟨g,cap,M,aj,by omega,(z.block g al (by omega)).trans N,ak⟩
 have aG:(Rs.feed t (nats s) (Rs.born t p)).2.length+((Rs.feed t (nats s) (Rs.born t p)).1.shut t).2.length<=2+s.size:=by
  have D:=Rs.shut_len _ t _ d.ok r.1;have E:=r.2;omega
 have m:Hid (f.ownsRow w2.heap.size 51 6 v2 ((Rs.feed t (nats s) (Rs.born t p)).1.shut t).2.length (xD ((Rs.feed t (nats s) (Rs.born t p)).1.shut t).2)):=K;have O:Hid (t.events p s=(Rs.feed t (nats s) (Rs.born t p)).2++((Rs.feed t (nats s) (Rs.born t p)).1.shut t).2):=rfl;have P:w.heap.size<=f.heap.size:=A.size;clear ai K z H J;generalize (Rs.feed t (nats s) (Rs.born t p)).2=aH at *;generalize ((Rs.feed t (nats s) (Rs.born t p)).1.shut t).2=c at *;have ⟨R,T,am,an,ao⟩:=info_parts zOf;rcases m.out.2 with⟨q,U⟩|⟨g,cap,M,q,_,ap,_,_,_,aq⟩
 ·have ar:Hid (c=[]):=List.length_eq_zero_iff.1 U
  subst q;clear U m;go_wp2_with (at_builtin;refine wpList_append_own_none rfl _ _ 48 rfl w.heap.size 51 R 6 underlying48 T _ _ _ rfl o rfl ?_)
  go_ret;refine⟨v1,rfl,?_,A⟩;rw[O.out,ar.out,dX];exact o
 ·have au:(xD c).length=c.length*6:=zE0 c
  have V:∀j u,(xD c)[j]? =some u->f.cell? ((⟨g,0,none⟩:Addr).add j)=some u:=by
   rw[q] at m;exact m.cells rfl
  have av:Hid (∀j u,(xD c)[j]? =some u->f.cell? ((⟨g,0,none⟩:Addr).add j)=some u):=V;subst q;clear V m ap aq;go_wp2_with (at_builtin;refine wpList_append_own _ rfl _ _ 48 rfl w.heap.size 51 R _ 6 48 underlying48 T am an ao rfl (by decide) _ _ _ rfl o ⟨g,0,none⟩ c.length cap (xD c) rfl au av (zIj c) (by unfold maxLen;omega) (by omega) P ?_;intro aw aI W X ax)
  have ay:Hid _:=W;have az:Hid _:=X;clear W X ax;go_wp2_with fail;go_ret;refine⟨aw,rfl,?_,A.trans (Keep.grownEnd az P λk a=>(o.lt k a).1)⟩;rw[O.out,kX,zE1];exact ay
def zGp:ByteArray:=⟨#[109,111,100,101,32,109,10,97,32,46,32,97,10,98,32,45,32,98,10]⟩
def jD:List Sm×Sh:=(vI zGp).getD ([],Sh.none)
theorem zPw:(vI zGp).isSome=true:=by kernel_rfl
theorem zMZ:zBA jD false=true:=by kernel_rfl
theorem zOu:(((zZ jD.1 (ints jD.2.acts) (jD.2.pushesTo jD.2.pushed.length) 64).first.itr 2).spreadTo (zI jD.1 jD.1.length)).2=false:=by kernel_rfl
theorem zM0 (p:Nat):(vA jD.1 (ints jD.2.acts) (jD.2.pushesTo jD.2.pushed.length) 64 2 false).events p ⟨#[97,98,97]⟩=[⟨1,0,0,1,1,1⟩,⟨1,0,2,3,1,3⟩,⟨2,0,3,3,1,4⟩]:=by kernel_rfl
theorem zNj:vI zGp=some jD:=by
 have:=zPw;unfold jD;cases a:vI zGp with
 |none=>rw[a] at this;cases this
 |some y=>rfl
theorem zOv:xD [⟨1,0,0,1,1,1⟩,⟨1,0,2,3,1,3⟩,⟨2,0,3,3,1,4⟩]=[iX 1,zX,zX,iX 1,iX 1,iX 1,iX 1,zX,iX 2,iX 3,iX 1,iX 3,iX 2,zX,iX 3,iX 3,iX 1,iX 4]:=rfl
theorem zJZ (w:World):Calls prog 28 #[] w λe w'=>e=returned (bool true)/\Grew w w':=by
 have l:Hid (Ca 16 #[string ⟨#[109,111,100,101,32,109,10,97,32,46,32,97,10,98,32,45,32,98,10]⟩,iX 64,fX] w λe w1=>Grew w w1/\∃c m0 m1 m2 s0 s1 s2 v0 v1 v2 AH LN,e=returned (tuple #[pX c,agg #[slice m0 m1 m2,slice s0 s1 s2,slice v0 v1 v2,iX AH,tX,iX LN]])/\∀w2,Grew w1 w2->Ca 27 #[pX c,string ⟨#[97,98,97]⟩] w2 λe a=>∃g cap,e=returned (slice (qX g) 3 cap)/\Grew w2 a/\3<=cap/\a.cell? ⟨g,0,none⟩=some (iX 1)/\a.cell? ⟨g,1,none⟩=some zX/\a.cell? ⟨g,2,none⟩=some zX/\a.cell? ⟨g,3,none⟩=some (iX 1)/\a.cell? ⟨g,4,none⟩=some (iX 1)/\a.cell? ⟨g,5,none⟩=some (iX 1)/\a.cell? ⟨g,6,none⟩=some (iX 1)/\a.cell? ⟨g,7,none⟩=some zX/\a.cell? ⟨g,8,none⟩=some (iX 2)/\a.cell? ⟨g,9,none⟩=some (iX 3)/\a.cell? ⟨g,10,none⟩=some (iX 1)/\a.cell? ⟨g,11,none⟩=some (iX 3)/\a.cell? ⟨g,12,none⟩=some (iX 2)/\a.cell? ⟨g,13,none⟩=some zX/\a.cell? ⟨g,14,none⟩=some (iX 3)/\a.cell? ⟨g,15,none⟩=some (iX 3)/\a.cell? ⟨g,16,none⟩=some (iX 1)/\a.cell? ⟨g,17,none⟩=some (iX 4)):=by
  refine(zFM w zGp (by decide) 64 (by decide) (by decide) false).mono ?_;rintro e w1 ⟨u,x,m0,m1,m2,s0,s1,s2,v0,v1,v2,AH,ST,LN,rfl,f⟩;unfold OfQ at f;rw[zNj] at f;obtain⟨c,t,rfl,rfl,rfl,y⟩:=f;rw[zMZ];refine⟨u,c,m0,m1,m2,s0,s1,s2,v0,v1,v2,_,LN,rfl,λw2 z=>?_⟩;have h:=y.grown z;have ⟨n,A,B⟩:=h.made;have ⟨S,p,j,J⟩:=h.at_;have C:t=vA jD.1 (ints jD.2.acts) (jD.2.pushesTo jD.2.pushed.length) 64 2 false:=A.trans (zOn _ _ _ _ _ _ _ B zOu);have D:t.events p ⟨#[97,98,97]⟩=[⟨1,0,0,1,1,1⟩,⟨1,0,2,3,1,3⟩,⟨2,0,3,3,1,4⟩]:=by rw[C];exact zM0 p
  refine(zFx c p S t w2 ⟨#[97,98,97]⟩ j.cell j.tab j.safe h.fine (by decide)).mono ?_;rintro e a ⟨v,rfl,m,k⟩;rw[D,zOv] at m;obtain⟨g,cap,rfl,K,M,E,N,b,O⟩:=qH m (by decide);exact⟨g,cap,rfl,k,E,b 0 _ rfl,b 1 _ rfl,b 2 _ rfl,b 3 _ rfl,b 4 _ rfl,b 5 _ rfl,b 6 _ rfl,b 7 _ rfl,b 8 _ rfl,b 9 _ rfl,b 10 _ rfl,b 11 _ rfl,b 12 _ rfl,b 13 _ rfl,b 14 _ rfl,b 15 _ rfl,b 16 _ rfl,b 17 _ rfl⟩
 go_in;apply wp_cut;intro F d;go_wp2;apply d.out;clear d;apply wp_cut;intro F d;go_wp2_with (go_at_call 16;refine l.mono ?_;rintro e w1 ⟨G,c,m0,m1,m2,s0,s1,s2,v0,v1,v2,AH,LN,rfl,o⟩)
 obtain⟨w2,q,P,r⟩:∃w2,w2=w1.alloc (.cells #[slice m0 m1 m2,slice s0 s1 s2,slice v0 v1 v2,iX AH,tX,iX LN] 30)/\w2.cell? ⟨w1.heap.size,4,none⟩=some tX/\Hid (Grew w w2/\Grew w1 w2):=by
  have H:=gY w1 (.cells #[slice m0 m1 m2,slice s0 s1 s2,slice v0 v1 v2,iX AH,tX,iX LN] 30);have s:Grew w1 (w1.alloc (.cells #[slice m0 m1 m2,slice s0 s1 s2,slice v0 v1 v2,iX AH,tX,iX LN] 30)):=kZ _ _ lQ;refine⟨_,rfl,?_,G.th s,s⟩;unfold cell?;rw[H];rfl
 rw[<-q];apply d.out;clear d q l;have I:=vl <| o w2 r.2;clear o;go_wp2_with (go_at_call 27;refine I.mono ?_;rintro e a ⟨g,cap,rfl,k,R,c0,c1,c2,T,U,V,W,X,Y,aa,ab,ac,ad,ae,af,ag,ah,ai⟩)
 refine gJ (results_tmp rfl _ _ _) rfl ?_;exact⟨rfl,r.1.th k⟩
theorem zJR (w:World)(s t:ByteArray)(a:65536<s.size\/65536<t.size):Calls prog 14 #[string s,string t] w λe w'=>e=returned (tuple #[bool false,bool true])/\Grew w w':=by
 by_cases b:65536<s.size
 ·go_in
  go_wp2;refine gJ (results_tmp2 rfl _ _ _) rfl ?_;exact⟨rfl,Keep.refl _ _ _⟩
 ·have c:65536<t.size:=by omega
  have d:s.size<=65536:=by omega
  go_in;go_wp2;refine gJ (results_tmp2 rfl _ _ _) rfl ?_;exact⟨rfl,Keep.refl _ _ _⟩
theorem zJS (w:World)(s t:ByteArray)(h:s.size<=65536)(j:t.size<=65536):Calls prog 14 #[string s,string t] w λe w'=>e=returned (tuple #[bool (vI s).isSome,bool true])/\Grew w w':=by
 have a:=vl <| zJZ w;have b:Hid (∀w2,Ca 29 #[string s] w2 λe w'=>e=returned (tuple #[bool (vI s).isNone,tX])/\Grew w2 w'):=λw2=>zKC w2 s (by omega);have c:(!(vI s).isNone)=(vI s).isSome:=by cases vI s <;> rfl
 generalize (vI s).isNone=d at *;generalize (vI s).isSome=B at *;subst c;go_in;cases d
 all_goals
  go_wp2_with (first|(go_at_call 28;refine a.mono ?_;rintro e w1 ⟨rfl,f⟩)|(go_at_call 29;refine(b _).mono ?_;rintro e w2 ⟨rfl,g⟩))
  refine gJ (results_tmp2 rfl _ _ _) rfl ?_;exact⟨rfl,f.th g⟩
theorem zNf (w:World)(s a:ByteArray):(Calls prog 14 #[string s,string a] w λe w'=>e=returned (tuple #[bool false,bool true])/\Grew w w')\/∃y,vI s=some y/\s.size<=65536/\a.size<=65536/\Calls prog 14 #[string s,string a] w λe w'=>e=returned (tuple #[bool true,bool true])/\Grew w w':=by
 by_cases f:65536<s.size\/65536<a.size
 ·exact .inl (zJR w s a f)
 have b:=zJS w s a (by omega) (by omega);cases c:vI s with
 |none=>rw[c] at b;exact .inl b
 |some y=>rw[c] at b;exact .inr ⟨y,rfl,by omega,by omega,b⟩
def EvsAt (w:World)(v:Value)(es:List Ev):Prop:=∃ao cap,v=slice ao es.length cap/\es.length<=cap/\cap<=maxLen/\∀i,i<es.length->∃g,ao=some ⟨g,0,none⟩/\g<w.heap.size/\∀j u,(es.getD i ⟨0,0,0,0,0,0⟩).cells[j]? =some u->w.cell? ⟨g,i*6+j,none⟩=some u
theorem zOs (a:List Ev):∀(i j:Nat) (u:Value),i<a.length->(a.getD i ⟨0,0,0,0,0,0⟩).cells[j]? =some u->(xD a)[i*6+j]? =some u:=by
 induction a with
 |nil=>intro i j u b;exact absurd b (Nat.not_lt_zero _)
 |cons e a g=>
  intro i j u b c;have h:(xD (e::a))=e.cells++xD a:=by simp[xD]
  have d:e.cells.length=6:=rfl;rw[h];cases i with
  |zero=>
   have f:=c;have k:j<6:=by rw[<-d];exact(List.getElem?_eq_some_iff.1 f).1
   rw[Nat.zero_mul,Nat.zero_add,kW (by omega)];exact f
  |succ i=>
   rw[hZ (by omega),d,show(i+1)*6+j-6=i*6+j by omega];exact g i j u (by simpa using b) c
theorem zO9 {w:World}{H:Nat}{v:Value}{a:List Ev}(b:w.ownsRow H 51 6 v a.length (xD a)):EvsAt w v a:=by
 obtain⟨ao,cap,rfl,c,d⟩:=zCb b;refine⟨ao,cap,rfl,c,d,λi e=>?_⟩;have ⟨g,p,f,q,k,r,s,l,t⟩:=qH b (by omega);injection f with m x y;exact⟨g,m,k,λj u o=>l _ u (zOs a i j u e o)⟩
theorem EvsAt.grown {w w':World}{v:Value}{a:List Ev}(d:EvsAt w v a)(b:Grew w w'):EvsAt w' v a:=by
 obtain⟨ao,cap,rfl,e,f,k⟩:=d;refine⟨ao,cap,rfl,e,f,λi l=>?_⟩;have ⟨g,m,c,o⟩:=k i l;exact⟨g,m,lZ c b.size,λj u p=>zA (o j u p) c b⟩
theorem zEB {w:World}{S:Nat->Prop}{a p:Nat}{t:Tb}(b:LexAt w S a p t)(c:t.Fine)(s:ByteArray)(d:s.size<=1048576):Calls prog 27 #[pX a,string s] w λe w'=>∃v,e=returned v/\EvsAt w' v (t.events p s)/\Grew w w':=by
 refine(zFx a p S t w s b.cell b.tab b.safe c d).mono ?_;rintro e w' ⟨v,rfl,f,g⟩;exact⟨v,rfl,zO9 f,g⟩
section
open Go.ChangeShapes Go.WideShapes Go.ChangeAt Go.RowKit
open Go.ChangeMaps (open_string shut_string)
theorem own:ownKnob prog.godebug=none:=by kernel_rfl
theorem Keep.frame {W w':World}(h:Grew W w')(may:MemPlace->Prop):W.keptBut w' may:=by
 refine⟨h.os,h.output,fun i hi=>?_⟩;rw[h.block i hi (by omega)];split <;> simp_all
theorem zKu {H:Type}{enc:TypeId×Value->H}{P:Program}{f:Func}{s:ChangeSpec}{apart fresh handsOn again:Bool}{W W':World}{args:Array Value}{v:Value}{ds gs:List (DataW H)}
  (hW:DataW.Whole enc P f.params.toList s.vars apart W args.toList ds gs [])
  (hres:∀(b:Nat) (sp:Nat->Bool) (hd:Bool),DataW.TrodAll enc P W' b sp hd f.resultTypes.toList (v.resultList f.resultTypes.size) (s.fn H (ds++gs)).results [])
  (hargs:∀sp:Nat->Bool,DataW.TrodAll enc P W' 0 sp true f.params.toList args.toList (s.fn H (ds++gs)).args [])
  (hvars:∀sp:Nat->Bool,DataW.TrodVars enc P W' sp s.vars (s.fn H (ds++gs)).vars [])
  (hk:W.keptBut W' fun _=>False)
  (hok:∀(j:Nat) (t:TypeId) (r:Value),f.resultTypes[j]? =some t->(v.resultList f.resultTypes.size)[j]? =some r->Value.okWide P W' .any 0 t r):
  s.post enc P f apart fresh handsOn again W args v W':=by
 refine⟨ds,gs,[],[],[],[],hW,hres _ _ _,hargs _,hvars _,World.keptBut_mono (fun p hp=>hp.elim) hk,fun _=>⟨hok,_,_,[],⟨[],[],trodAll_append (hargs _) (hres _ _ _),hvars _,rfl,?_,?_⟩,?_⟩⟩
 ·intro b off hp
  simp at hp
 ·intro _
  simp
 ·intro p hp
  simp at hp
theorem zLm {H:Type}{enc:TypeId×Value->H}{P:Program}{w:World}{base:Nat}{sp:Nat->Bool}{hd:Bool}{t:TypeId}{ts:List TypeId}{v:Value}{vs:List Value}{d:DataW H}{ds:List (DataW H)}{p q:List MemPlace}(h:DataW.Trod enc P w base sp hd t v d p)(hs:DataW.TrodAll enc P w base sp hd ts vs ds q):DataW.TrodAll enc P w base sp hd (t::ts) (v::vs) (d::ds) (p++q):=⟨p,q,h,hs,rfl⟩
end
end Go.Proofs.YtbjcfkdnjaiclaaGreat
