import Derived.Deep.DrawnRows
import Derived.Deep.RegionLaw
import Derived.Test.YtbjcfkdnjaiclaaGreatS0
import Derived.Test.YtbjcfkdnjaiclaaGreatS2
/- Parts of the proof. -/
set_option linter.unusedVariables false
set_option linter.unusedSimpArgs false
set_option maxHeartbeats 4000000
set_option maxRecDepth 100000
namespace Go.Proofs.YtbjcfkdnjaiclaaGreat
open Go.RowKit Go.Proofs.Tryz Go.World
open Go.Value (int slice bool pointer string agg tuple)
open Go.IntKind (i64)
open Go.Ending (returned)
def OwnI (w:World)(H:Nat)(v:Value)(l:List Int):Prop:=w.ownsRow H 3 1 v l.length (l.map λx=>int i64 x)
theorem OwnI.snoc {w:World}{H g cap:Nat}{l:List Int}{x:Int}(a:w.ownsRow H 3 1 (slice (qX g) (l.length+1) cap) (l.length+1) (l.map (λx=>iX x)++[iX x])):OwnI w H (slice (qX g) (l.length+1) cap) (l++[x]):=by
 unfold OwnI;rw[kX,List.map_append];exact a
theorem OwnI.raw {w:World}{H:Nat}{v:Value}{l:List Int}(a:OwnI w H v l):w.ownsRow H 3 1 v l.length (l.map λx=>iX x):=a
theorem OwnI.nil (w:World)(H:Nat):OwnI w H (slice none 0 0) []:=ownsRow_nil _ _ _ _
theorem OwnI.form {w:World}{H:Nat}{v:Value}{l:List Int}(a:OwnI w H v l):∃ao cap,v=slice ao l.length cap:=zE a
theorem zK {w w':World}{H e a n:Nat}{v:Value}{xs:List Value}(b:w.ownsRow H e a v n xs)(d:Grew w w'):w'.ownsRow H e a v n xs:=by
 refine⟨b.1,b.2.imp id ?_⟩;rintro⟨g,cap,f,i,j,c,k⟩;have l:=(kQ.1 c).1;exact⟨g,cap,f,i,j,(d.block g l (by omega)).trans c,k⟩
theorem OwnI.cell {w:World}{H g cap n:Nat}{l:List Int}(c:OwnI w H (slice (qX g) n cap) l)(i:Nat)(a:i<l.length):w.cell? ⟨g,i,none⟩=some (iX (l.getD i 0)):=by
 have b:=World.ownsRow.cells c (g:=g) rfl i (iX (l.getD i 0)) (by
  rw[gQ,lV a,lW,lV a];rfl)
 rw[Addr.add_lit,Nat.zero_add] at b;exact b
def jR (ms:List Sm)(b:Nat):Nat:=(List.range b).findIdx λa=>zCE ms a b
theorem zHy (ms:List Sm)(b:Nat):jR ms b<=b:=by
 have c:=List.findIdx_le_length (xs:=List.range b) (p:=λa=>zCE ms a b);rw[List.length_range] at c;exact c
theorem zER (w:World)(S:Nat->Prop)(v:Value)(ms:List Sm)(t:ModesAt w S v ms)(g:∀k,S k->k<w.heap.size)(u:Wide ms)(x:ms.length<=3)(y:∀m∈ms,m.next.length<=200)(b:Nat)(z:b<256):
  Calls prog 98 #[v,iX b] w λe w'=>e=returned (iX (jR ms b:Nat))/\Grew w w':=by
 have A:=vl t;go_in;go_wp2;go_loopg [5] b (λq i wr=>∃j:Nat,q=b-j/\j<=b/\i=iX (j:Int)/\(∀a,a<j->zCE ms a b=false)/\Grew w wr)
 case atStart=>exact⟨0,rfl,lX,rfl,λa f=>by omega,Keep.refl _ _ _⟩
 case round=>
  obtain⟨j,B,H,rfl,C,d⟩:=hrel;have c:Hid (gk=b-j/\(∀a,a<j->zCE ms a b=false)/\Grew w wr):=⟨B,C,d⟩
  by_cases D:j<b
  ·have E:(j:Int)<(b:Int):=by omega
   go_wp2_with fail;refine(zFn wr S v ms (A.keep λk d=>c.2.2.block k (g k d) (by have:=g k d;omega)) (λk d=>lZ (g k d) c.2.2.size) u x y j b (by omega) z).mono ?_;rintro e w1 ⟨rfl,F⟩;have o:=vl <| c.2.2.trans (F.lower c.2.2.size c.2.2.size);cases r:zCE ms j b with
   |true=>
    have l:Hid (jR ms b=j):=by
     show _=_;unfold jR;rw[List.findIdx_eq (by simpa using D)];refine⟨by simpa using r,λa f=>by simpa using c.2.1 a (by simpa using f)⟩
    go_wp2;go_ret;exact⟨zAr (by rw[l.out]),o⟩
   |false=>
    have G:=vl r;go_wp2;go_roundg (b-(j+1))
    case measure=>rw[c.out.1];omega
    case rel=>exact⟨j+1,rfl,by omega,by go_num,λa f=>by(by_cases e:a=j;exact e ▸ G;exact c.2.1 a (by omega)),o⟩
  ·have E:(b:Int)<=(j:Int):=by omega
   have l:Hid (jR ms b=b):=by
    show _=_;unfold jR;have s:=List.findIdx_eq_length (xs:=List.range b) (p:=λa=>zCE ms a b);rw[List.length_range] at s;refine s.2 λa f=>?_;simpa using c.2.1 a (by have:=List.mem_range.1 f;omega)
   go_wp2;go_ret;exact⟨zAr (by rw[l.out]),c.2.2⟩
def zB (ms:List Sm):Nat->List Int×Nat
 |0=>([],0)
 |b+1=>if jR ms b<b then((zB ms b).1++[(zB ms b).1.getD (jR ms b) 0],(zB ms b).2) else((zB ms b).1++[((zB ms b).2:Int)],(zB ms b).2+1)
theorem jE (ms:List Sm)(b:Nat):(zB ms b).1.length=b/\(zB ms b).2<=b:=by
 induction b with
 |zero=>exact⟨rfl,lQ⟩
 |succ b a=>
  rw[zB];split
  ·exact⟨by simp[a.1],by show(zB ms b).2<=b+1;omega⟩
  ·exact⟨by simp[a.1],by show(zB ms b).2+1<=b+1;omega⟩
theorem zG0 (w:World)(S:Nat->Prop)(v:Value)(ms:List Sm)(P:ModesAt w S v ms)(t:∀k,S k->k<w.heap.size)(Q:Wide ms)(R:ms.length<=3)(T:∀m∈ms,m.next.length<=200):
  Calls prog 63 #[v] w λe w'=>∃u,e=returned (tuple #[u,iX ((zB ms 256).2:Nat)])/\OwnI w' w.heap.size u (zB ms 256).1/\Grew w w':=by
 obtain⟨D,E,F,G,H⟩:=info_parts yF;have U:=vl P;go_in;go_wp2;go_loopg [4,5,6] 256 (λq V cnt i wr=>∃j:Nat,q=256-j/\j<=256/\i=iX (j:Int)/\cnt=iX ((zB ms j).2:Nat)/\OwnI wr w.heap.size V (zB ms j).1/\Grew w wr)
 case atStart=>exact⟨0,rfl,lX,rfl,rfl,OwnI.nil _ _,Keep.refl _ _ _⟩
 case round=>
  obtain⟨j,W,ai,rfl,rfl,I,c⟩:=hrel;have b:Hid (gk=256-j/\OwnI wr w.heap.size u4 (zB ms j).1/\Grew w wr):=⟨W,I,c⟩
  have X:=jE ms j;obtain⟨ao,cap,Y⟩:=I.form;subst Y;by_cases aa:j<256
  ·have ab:(j:Int)<256:=by omega
   go_wp2_with fail;refine(zER wr S v ms (U.keep λk c=>b.2.2.block k (t k c) (by have:=t k c;omega)) (λk c=>lZ (t k c) b.2.2.size) Q R T j aa).mono ?_;rintro e w1 ⟨rfl,J⟩;have y:=vl <| b.2.2.trans (J.lower b.2.2.size b.2.2.size);have r:Hid (OwnI w1 w.heap.size (slice ao (zB ms j).1.length cap) (zB ms j).1):=zK b.2.1 J;have K:=y.size;have L:Hid (zB ms (j+1)=if jR ms j<j then((zB ms j).1++[(zB ms j).1.getD (jR ms j) 0],(zB ms j).2) else((zB ms j).1++[((zB ms j).2:Int)],(zB ms j).2+1)):=rfl;have aj:=zHy ms j;generalize jR ms j=f at *;generalize (zB ms j).1=l at *;generalize (zB ms j).2=cnt at *;obtain⟨ac,ak⟩:=X;have al:l.length<=j:=by omega
   have am:j<=l.length:=by omega
   clear ac;have s:=vl r;by_cases M:f<j
   ·have ad:(f:Int)<(j:Int):=by omega
    have d:Hid (zB ms (j+1)=(l++[l.getD f 0],cnt)):=by show _=_;rw[L.out,if_pos M]
    have ae:ao≠none:=by
     intro e;rcases r.out.2 with⟨a,N⟩|⟨g,_,_,a,_⟩
     ·have an:=N
      omega
     ·rw[e] at a;cases a
    obtain⟨g,rfl⟩:∃g,ao=some ⟨g,0,none⟩:=by
     rcases r.out.2 with⟨a,N⟩|⟨g,_,_,a,_⟩
     ·injection a with a _ _
      exact absurd a ae
     ·injection a with a _ _
      exact⟨g,a⟩
    have ap:=r.cell f (by show f<l.length;omega);have aq:(f:Int)<(l.length:Int):=by omega
    generalize l.getD f 0=x at *;go_wp2_with (first|(at_builtin;refine wpList_append_lies _ rfl _ _ 45 rfl (w.heap.size) 3 D (iX 0) 1 8 underlying45 E F G H rfl (by decide) _ _ _ rfl (s.alloc _) ⟨w1.heap.size,0,none⟩ 1 1 [iX x] rfl rfl (cell_one_new _ _ _) (by intro u o;simp at o;subst o;rfl) (by decide) (by unfold maxLen;omega) (by omega) (by simp;omega) _ rfl ?_;intro z cap w2 A B af ag;have C:=xF s B K))
    have p:Hid (OwnI w2 w.heap.size (slice (qX z) (l.length+1) cap) (l++[x])/\Grew w w2):=⟨OwnI.snoc A,y.trans (xD C)⟩
    go_wp2;go_roundg (256-(j+1))
    case measure=>rw[b.out.1];omega
    case rel=>exact⟨j+1,rfl,by omega,by go_num,by rw[d.out],by rw[d.out];exact p.1,p.2⟩
   ·have ad:(j:Int)<=(f:Int):=by omega
    have d:Hid (zB ms (j+1)=(l++[(cnt:Int)],cnt+1)):=by show _=_;rw[L.out,if_neg M]
    go_wp2_with (first|(at_builtin;refine wpList_append_lies _ rfl _ _ 45 rfl (w.heap.size) 3 D (iX 0) 1 8 underlying45 E F G H rfl (by decide) _ _ _ rfl (s.alloc _) ⟨w1.heap.size,0,none⟩ 1 1 [iX (cnt:Int)] rfl rfl (cell_one_new _ _ _) (by intro u o;simp at o;subst o;rfl) (by decide) (by unfold maxLen;omega) (by omega) (by simp;omega) _ rfl ?_;intro z cap w2 A B af ag;have C:=xF s B K))
    have p:Hid (OwnI w2 w.heap.size (slice (qX z) (l.length+1) cap) (l++[(cnt:Int)])/\Grew w w2):=⟨OwnI.snoc A,y.trans (xD C)⟩
    go_wp2;go_roundg (256-(j+1))
    case measure=>rw[b.out.1];omega
    case rel=>exact⟨j+1,rfl,by omega,by go_num,by rw[d.out];go_num,by rw[d.out];exact p.1,p.2⟩
  ·have ah:j=256:=by omega
   have ab:(256:Int)<=(j:Int):=by omega
   have O:Hid (zB ms j=zB ms 256):=by show _=_;rw[ah]
   go_wp2;go_ret2
   refine⟨slice ao (zB ms j).1.length cap,congrArg (λn:Nat=>Ending.returned (tuple #[slice ao (zB ms j).1.length cap,iX (n:Int)])) (congrArg Prod.snd O),?_,b.2.2⟩;rw[<-O.out];exact b.2.1
def xA (kinds row:List Int)(first:Int):Nat->List Int
 |0=>[]
 |b+1=>if kinds.getD b 0=((xA kinds row first b).length:Int) then xA kinds row first b++[first+row.getD b 0] else xA kinds row first b
theorem zKc (kinds row:List Int)(first:Int)(b:Nat):(xA kinds row first b).length<=b:=by
 induction b with
 |zero=>exact lQ
 |succ b a=>
  rw[xA];split
  ·simp;omega
  ·omega
theorem zIE (w:World)(S:Nat->Prop)(p:Nat)(m rv:Value)(kinds row:List Int)(first:Nat)(o:w.cell? ⟨p,6,none⟩=some m)(D:p<w.heap.size)(r:∀k,S k->k<w.heap.size)(E:Ints w S m kinds)(F:Ints w S rv row)(G:kinds.length=256)(H:row.length=256)(aj:first<=200)(I:∀i,i<256->0<=row.getD i 0/\row.getD i 0<=200):
  Calls prog 99 #[pX p,rv,iX first] w λe w'=>∃u,e=returned u/\OwnI w' w.heap.size u (xA kinds row first 256)/\Grew w w':=by
 obtain⟨J,K,L,M,N⟩:=info_parts yF;obtain⟨s,ok,ak,rfl,O,_,_,t⟩:=E.block (by omega);obtain⟨v,al,am,rfl,P,_,_,y⟩:=F.block (by omega);rw[G] at o t;rw[H] at y ⊢;have Q:=vl t;have R:=vl y;have T:=r s O;have U:=r v P;have V:=vl I;go_in;go_wp2;go_loopg [7,12] 256 (λq W i wr=>∃j:Nat,q=256-j/\j<=256/\i=iX (j:Int)/\OwnI wr w.heap.size W (xA kinds row first j)/\Grew w wr)
 case atStart=>exact⟨0,rfl,lX,rfl,OwnI.nil _ _,Keep.refl _ _ _⟩
 case round=>
  obtain⟨j,X,an,rfl,z,a⟩:=hrel;have b:Hid (gk=256-j/\Grew w wr):=⟨X,a⟩
  have ap:=zKc kinds row first j
  obtain⟨ao,cap,Y⟩:=z.form;subst Y;have aa:=a.size;have c:=vl z;by_cases f:j<256
  ·have ab:(j:Int)<256:=by omega
   have aq:=(gZ (a.block p D (by omega))).trans o;have ar:=(gZ (a.block s T (by omega))).trans (Q j f);have au:=(gZ (a.block v U (by omega))).trans (R j f);obtain⟨av,aw⟩:=V j f;have A:Hid (xA kinds row first (j+1)=if kinds.getD j 0=((xA kinds row first j).length:Int) then xA kinds row first j++[first+row.getD j 0] else xA kinds row first j):=rfl;generalize xA kinds row first j=l at *
   generalize kinds.getD j 0=g at *;generalize row.getD j 0=x at *;by_cases d:g=(l.length:Int)
   ·have ac:(g==(l.length:Int))=true:=by simpa using d
    have h:Hid (xA kinds row first (j+1)=l++[first+x]):=by show _=_;rw[A.out,if_pos d]
    go_wp2_with (first|(at_builtin;refine wpList_append_lies _ rfl _ _ 45 rfl (w.heap.size) 3 J (iX 0) 1 8 underlying45 K L M N rfl (by decide) _ _ _ rfl (c.alloc _) ⟨wr.heap.size,0,none⟩ 1 1 [iX ((first:Int)+x)] rfl rfl (cell_one_new _ _ _) (by intro u B;simp at B;subst B;rfl) (by decide) (by unfold maxLen;omega) (by omega) (by simp;omega) _ rfl ?_;intro ad cap w2 ae af ax ay;have ag:=xF c af aa))
    have C:Hid (OwnI w2 w.heap.size (slice (qX ad) (l.length+1) cap) (l++[(first:Int)+x])/\Grew w w2):=⟨OwnI.snoc ae,b.2.trans (xD ag)⟩
    go_wp2;go_roundg (256-(j+1))
    case measure=>rw[b.out.1];omega
    case rel=>exact⟨j+1,rfl,by omega,by go_num,by rw[h.out];exact C.1,C.2⟩
   ·have ac:(g==(l.length:Int))=false:=by simpa using d
    have h:Hid (xA kinds row first (j+1)=l):=by show _=_;rw[A.out,if_neg d]
    go_wp2;go_roundg (256-(j+1))
    case measure=>rw[b.out.1];omega
    case rel=>exact⟨j+1,rfl,by omega,by go_num,by rw[h.out];exact c,b.2⟩
  ·have ah:j=256:=by omega
   have ab:(256:Int)<=(j:Int):=by omega
   have ai:Hid (xA kinds row first j=xA kinds row first 256):=by show _=_;rw[ah]
   generalize xA kinds row first j=l at *
   go_wp2;go_ret;exact⟨_,rfl,by rw[<-ai.out];exact c,b.2⟩
def Rest (w:World)(p:Nat)(c:Tc)(k:Nat):Prop:=k<w.heap.size/\k≠p/\some k≠c.starts.ownBlock/\some k≠c.next.ownBlock/\some k≠c.ends.ownBlock
def Fin (w:World)(S:Nat->Prop)(H:Nat)(v:Value)(l:List Int):Prop:=OwnI w H v l/\∀g,v.ownBlock=some g->S g
theorem Fin.keep {w w':World}{S c:Nat->Prop}{H:Nat}{v:Value}{l:List Int}(a:Fin w S H v l)(e:∀k,H<=k->S k->w'.heap[k]? =w.heap[k]? /\c k):Fin w' c H v l:=
 ⟨zD a.1 λg d _ b=>(e g d (a.2 g b)).1,λg b=>(e g (a.1.lt g b).1 (a.2 g b)).2⟩
theorem Fin.ints {w:World}{S:Nat->Prop}{H:Nat}{v:Value}{l:List Int}(a:Fin w S H v l):Ints w S v l:=zCz a.1 a.2
structure Gt (w:World)(H p:Nat)(c:Tc)(kinds acts pushed starts ends:List Int)(next:List (List Int)):Prop where
 tp:zV w p c
 starts:OwnI w H c.starts starts
 ends:OwnI w H c.ends ends
 next:∃rv:Nat->Value,w.ownsRow H 45 1 c.next next.length ((List.range next.length).map rv)/\∀i,i<next.length->Fin w (Rest w p c) H (rv i) (next.getD i [])
 kinds:Fin w (Rest w p c) H c.kinds kinds
 acts:Fin w (Rest w p c) H c.acts acts
 pushed:Fin w (Rest w p c) H c.pushed pushed
 HH:H<=w.heap.size
 sep:∀g,c.starts.ownBlock=some g->c.ends.ownBlock≠some g
theorem Gt.grown {w w':World}{H p:Nat}{c:Tc}{kinds acts pushed starts ends:List Int}{next:List (List Int)}(a:Gt w H p c kinds acts pushed starts ends next)(f:Grew w w'):Gt w' H p c kinds acts pushed starts ends next:=by
 have j:=a.HH;have l:=a.tp.lt;have b:∀k,k<w.heap.size->w'.heap[k]? =w.heap[k]? :=λk m=>f.block k m (by omega);have e:∀k,H<=k->Rest w p c k->w'.heap[k]? =w.heap[k]? /\Rest w' p c k:=λk _ g=>⟨b k g.1,lZ g.1 f.size,g.2⟩
 obtain⟨rv,o,q⟩:=a.next
 exact⟨a.tp.of_block (b p l),zD a.starts λk _ d _=>b k d,zD a.ends λk _ d _=>b k d,⟨rv,zD o λk _ d _=>b k d,λi r=>(q i r).keep e⟩,a.kinds.keep e,a.acts.keep e,a.pushed.keep e,lY j f.size,a.sep⟩
structure Turn (H p:Nat)(w:World)(c:Tc)(w':World)(c':Tc):Prop where
 rest:∀k,H<=k->Rest w p c k->w'.heap[k]? =w.heap[k]? /\Rest w' p c' k
 keep:Keep H p w w'
 same:c'={c with starts:=c'.starts,next:=c'.next,ends:=c'.ends}
theorem Turn.refl (H p:Nat)(w:World)(c:Tc):Turn H p w c w c:=⟨λ_ _ a=>⟨rfl,a⟩,Keep.refl _ _ _,rfl⟩
theorem Turn.trans {H p:Nat}{w w' e:World}{c f g:Tc}(a:Turn H p w c w' f)(k:Turn H p w' f e g):Turn H p w c e g:=
 ⟨λi b d=>⟨((k.rest i b (a.rest i b d).2).1).trans (a.rest i b d).1,(k.rest i b (a.rest i b d).2).2⟩,a.keep.trans k.keep,k.same.trans (by rw[a.same])⟩
theorem Turn.grown {H p:Nat}{w w':World}{c:Tc}(b:Grew w w')(d:H<=w.heap.size):Turn H p w c w' c:=
 ⟨λk _ a=>⟨b.block k a.1 (by have:=a.1;omega),lZ a.1 b.size,a.2⟩,b.lower d d,rfl⟩
theorem yC {w:World}{H e a b c n m:Nat}{v u:Value}{xs d:List Value}(f:w.ownsRow H e b v n xs)(i:w.ownsRow H a c u m d)(j:e≠a){g:Nat}(k:v.ownBlock=some g):some g≠u.ownBlock:=λl=>zC3 f i j k l.symm
theorem jQ {w:World}{H b e g n:Nat}{c:Tc}{v:Value}{xs:List Value}(a:zV w b c)(i:w.ownsRow H e g v n xs)(j:e≠90):some b≠v.ownBlock:=by
 intro d;rcases i.2 with⟨f,_⟩|⟨k,_,p,f,_,l,_⟩
 ·rw[f] at d;cases d
 ·rw[f] at d
  have m:b=k:=by simpa[Value.ownBlock] using d
  subst m;unfold zV at a;rw[l] at a;injection a with a;injection a with _ o _;exact j o
theorem zC (w:World)(a:Addr)(v:Value):(w.setCell a v).heap.size=w.heap.size:=by simp[World.setCell]
theorem Gt.starts_app {w w2:World}{H p g cap:Nat}{c:Tc}{kinds acts pushed starts ends:List Int}{next:List (List Int)}{x:Int}(a:Gt w H p c kinds acts pushed starts ends next)
  (G:OwnI w2 H (slice (qX g) (starts.length+1) cap) (starts++[x])) (m:∀k,k<w.heap.size->some k≠c.starts.ownBlock->w2.heap[k]? =w.heap[k]?) (I:w.heap.size<=w2.heap.size) (s:w2.os=w.os/\w2.output=w.output) (t:c.starts.ownBlock=some g\/w.heap.size<=g):
  Gt (w2.setCell ⟨p,3,none⟩ (slice (qX g) (starts.length+1) cap)) H p {c with starts:=slice (qX g) (starts.length+1) cap} kinds acts pushed (starts++[x]) ends next/\Turn H p w c (w2.setCell ⟨p,3,none⟩ (slice (qX g) (starts.length+1) cap)) {c with starts:=slice (qX g) (starts.length+1) cap}:=by
 have J:=a.tp.lt;have S:=a.HH;obtain⟨K,u,L⟩:=a.next
 have y:=G.raw;have A:=m p J (jQ a.tp a.starts.raw (by decide));have M:g≠p:=λe=>by
  subst e;exact jQ (a.tp.of_block A) y (by decide) rfl
 have o:∀k,k≠p->(w2.setCell ⟨p,3,none⟩ (slice (qX g) (starts.length+1) cap)).heap[k]? =w2.heap[k]? :=λk b=>lJ _ _ _ _ b;have f:∀k,H<=k->Rest w p c k->(w2.setCell ⟨p,3,none⟩ (slice (qX g) (starts.length+1) cap)).heap[k]? =w.heap[k]? /\Rest (w2.setCell ⟨p,3,none⟩ (slice (qX g) (starts.length+1) cap)) p {c with starts:=slice (qX g) (starts.length+1) cap} k:=by
  rintro k b ⟨B,C,d,N,O⟩;refine⟨(o k C).trans (m k B d),by rw[zC];omega,C,?_,N,O⟩;intro e;have j:k=g:=by simpa[Value.ownBlock] using e
  subst j;rcases t with l|l
  ·exact d l.symm
  ·omega
 have D:∀{e E n v xs},w.ownsRow H e E v n xs->e≠90->(∀k,v.ownBlock=some k->some k≠c.starts.ownBlock)->(w2.setCell ⟨p,3,none⟩ (slice (qX g) (starts.length+1) cap)).ownsRow H e E v n xs:=λF q P=>zD F λk _ d b=>(o k (λr=>jQ a.tp F q (by rw[b,r]))).trans (m k d (P k b));have Q:=zD (w':=(w2.setCell ⟨p,3,none⟩ (slice (qX g) (starts.length+1) cap))) y λk _ _ b=>o k (λr=>M (by have j:g=k:=(by simpa[Value.ownBlock] using b);rw[j,r]));refine⟨?_,f,⟨s.1,s.2,by rw[zC];exact I,λk B d=>(o k d).trans (m k (by omega) λe=>by have:=(a.starts.raw.lt k e.symm).1;omega)⟩,rfl⟩;refine⟨(a.tp.of_block A).set_starts _,?_,D a.ends (by decide) λk b e=>a.sep k e.symm b,⟨K,D u (by decide) λk b=>yC u a.starts.raw (by decide) b,λi R=>(L i R).keep f⟩,a.kinds.keep f,a.acts.keep f,a.pushed.keep f,by rw[zC];omega,?_⟩
 ·exact Q
 intro k b;have j:g=k:=by simpa[Value.ownBlock] using b
 subst j;intro q;rcases t with l|l
 ·exact a.sep g l q
 ·have:=(a.ends.lt g q).2
  omega
theorem Gt.ends_app {w w2:World}{H p g cap:Nat}{c:Tc}{kinds acts pushed starts ends:List Int}{next:List (List Int)}{x:Int}(a:Gt w H p c kinds acts pushed starts ends next)
  (I:OwnI w2 H (slice (qX g) (ends.length+1) cap) (ends++[x])) (m:∀k,k<w.heap.size->some k≠c.ends.ownBlock->w2.heap[k]? =w.heap[k]?) (J:w.heap.size<=w2.heap.size) (s:w2.os=w.os/\w2.output=w.output) (t:c.ends.ownBlock=some g\/w.heap.size<=g):
  Gt (w2.setCell ⟨p,9,none⟩ (slice (qX g) (ends.length+1) cap)) H p {c with ends:=slice (qX g) (ends.length+1) cap} kinds acts pushed starts (ends++[x]) next/\Turn H p w c (w2.setCell ⟨p,9,none⟩ (slice (qX g) (ends.length+1) cap)) {c with ends:=slice (qX g) (ends.length+1) cap}:=by
 have K:=a.tp.lt;have S:=a.HH;obtain⟨L,u,M⟩:=a.next
 have y:=I.raw;have A:=m p K (jQ a.tp a.ends.raw (by decide));have N:g≠p:=λe=>by
  subst e;exact jQ (a.tp.of_block A) y (by decide) rfl
 have o:∀k,k≠p->(w2.setCell ⟨p,9,none⟩ (slice (qX g) (ends.length+1) cap)).heap[k]? =w2.heap[k]? :=λk b=>lJ _ _ _ _ b;have d:∀k,H<=k->Rest w p c k->(w2.setCell ⟨p,9,none⟩ (slice (qX g) (ends.length+1) cap)).heap[k]? =w.heap[k]? /\Rest (w2.setCell ⟨p,9,none⟩ (slice (qX g) (ends.length+1) cap)) p {c with ends:=slice (qX g) (ends.length+1) cap} k:=by
  rintro k b ⟨B,C,f,O,D⟩;refine⟨(o k C).trans (m k B D),by rw[zC];omega,C,f,O,?_⟩;intro e;have j:k=g:=by simpa[Value.ownBlock] using e
  subst j;rcases t with l|l
  ·exact D l.symm
  ·omega
 have E:∀{e F n v xs},w.ownsRow H e F v n xs->e≠90->(∀k,v.ownBlock=some k->some k≠c.ends.ownBlock)->(w2.setCell ⟨p,9,none⟩ (slice (qX g) (ends.length+1) cap)).ownsRow H e F v n xs:=λG q P=>zD G λk _ f b=>(o k (λr=>jQ a.tp G q (by rw[b,r]))).trans (m k f (P k b));have Q:=zD (w':=(w2.setCell ⟨p,9,none⟩ (slice (qX g) (ends.length+1) cap))) y λk _ _ b=>o k (λr=>N (by have j:g=k:=(by simpa[Value.ownBlock] using b);rw[j,r]));refine⟨?_,d,⟨s.1,s.2,by rw[zC];exact J,λk B f=>(o k f).trans (m k (by omega) λe=>by have:=(a.ends.raw.lt k e.symm).1;omega)⟩,rfl⟩;refine⟨(a.tp.of_block A).set_ends _,E a.starts (by decide) λk b e=>a.sep k b e.symm,?_,⟨L,E u (by decide) λk b=>yC u a.ends.raw (by decide) b,λi R=>(M i R).keep d⟩,a.kinds.keep d,a.acts.keep d,a.pushed.keep d,by rw[zC];omega,?_⟩
 ·exact Q
 intro k b q;have j:g=k:=by simpa[Value.ownBlock] using q
 subst j;rcases t with l|l
 ·exact a.sep g b l
 ·have:=(a.starts.lt g b).2
  omega
theorem Gt.next_app {w w2:World}{H p g cap:Nat}{c:Tc}{kinds acts pushed starts ends:List Int}{next:List (List Int)}{u:Value}{l:List Int}(a:Gt w H p c kinds acts pushed starts ends next)
  (rv:Nat->Value) (J:∀i,i<next.length->Fin w (Rest w p c) H (rv i) (next.getD i [])) (K:Fin w (Rest w p c) H u l) (L:w2.ownsRow H 45 1 (slice (qX g) (next.length+1) cap) (next.length+1) ((List.range next.length).map rv++[u])) (j:∀k,k<w.heap.size->some k≠c.next.ownBlock->w2.heap[k]? =w.heap[k]?) (M:w.heap.size<=w2.heap.size) (x:w2.os=w.os/\w2.output=w.output) (N:c.next.ownBlock=some g\/w.heap.size<=g):
  Gt (w2.setCell ⟨p,8,none⟩ (slice (qX g) (next.length+1) cap)) H p {c with next:=slice (qX g) (next.length+1) cap} kinds acts pushed starts ends (next++[l])/\Turn H p w c (w2.setCell ⟨p,8,none⟩ (slice (qX g) (next.length+1) cap)) {c with next:=slice (qX g) (next.length+1) cap}:=by
 have O:=a.tp.lt;have U:=a.HH;obtain⟨V,m,W⟩:=a.next
 have y:=L;have A:=j p O (jQ a.tp m (by decide));have P:g≠p:=λe=>by
  subst e;exact jQ (a.tp.of_block A) y (by decide) rfl
 have o:∀k,k≠p->(w2.setCell ⟨p,8,none⟩ (slice (qX g) (next.length+1) cap)).heap[k]? =w2.heap[k]? :=λk b=>lJ _ _ _ _ b;have d:∀k,H<=k->Rest w p c k->(w2.setCell ⟨p,8,none⟩ (slice (qX g) (next.length+1) cap)).heap[k]? =w.heap[k]? /\Rest (w2.setCell ⟨p,8,none⟩ (slice (qX g) (next.length+1) cap)) p {c with next:=slice (qX g) (next.length+1) cap} k:=by
  rintro k b ⟨B,C,f,D,Q⟩;refine⟨(o k C).trans (j k B D),by rw[zC];omega,C,f,?_,Q⟩;intro e;have q:k=g:=by simpa[Value.ownBlock] using e
  subst q;rcases N with E|E
  ·exact D E.symm
  ·omega
 have F:∀{e G n v xs},w.ownsRow H e G v n xs->e≠90->(∀k,v.ownBlock=some k->some k≠c.next.ownBlock)->(w2.setCell ⟨p,8,none⟩ (slice (qX g) (next.length+1) cap)).ownsRow H e G v n xs:=λI R S=>zD I λk _ f b=>(o k (λr=>jQ a.tp I R (by rw[b,r]))).trans (j k f (S k b));have T:=zD y λk _ _ b=>o k (λr=>P (by have q:g=k:=(by simpa[Value.ownBlock] using b);rw[q,r]));refine⟨?_,d,⟨x.1,x.2,by rw[zC];exact M,λk B f=>(o k f).trans (j k (by omega) λe=>by have:=(m.lt k e.symm).1;omega)⟩,rfl⟩;refine⟨(a.tp.of_block A).set_next _,F a.starts.raw (by decide) λk b=>yC a.starts.raw m (by decide) b,F a.ends.raw (by decide) λk b=>yC a.ends.raw m (by decide) b,⟨λi=>if i=next.length then u else rv i,?_,?_⟩,a.kinds.keep d,a.acts.keep d,a.pushed.keep d,by rw[zC];omega,a.sep⟩
 ·have e:(List.range (next++[l]).length).map (λi=>if i=next.length then u else rv i)=(List.range next.length).map rv++[u]:=by
   rw[kX,List.length_singleton,xP,if_pos rfl]
   congr 1
   exact List.map_congr_left λi s=>if_neg (by have:=List.mem_range.1 s;omega)
  rw[e,kX];exact T
 ·intro i s
  rw[kX,List.length_singleton] at s;by_cases e:i=next.length
  ·subst e
   simp only[if_true];have t:(next++[l]).getD next.length []=l:=by simp
   rw[t];exact K.keep d
  ·show Fin _ _ _ (if i=next.length then u else rv i) _
   rw[if_neg e];have t:(next++[l]).getD i []=next.getD i []:=by
    rw[lW,kW (by omega),<-lW]
   rw[t];exact(J i (by omega)).keep d
section
attribute [local go_sem ↓] Go.wp_at_zero Go.wp_at_succ
def qF (rules:Nat)(r:Int):Int:=if r=-1 then r else r+rules
theorem zQO (J w:World)(H p K:Nat)(c0 c:Tc)(kinds acts pushed starts ends:List Int)(next:List (List Int))(P:Gt w H p c kinds acts pushed starts ends next)(aj rv ak:Value)(S:Nat->Prop)(a:List Int)(al:w.heap[K]? =some (.cells #[aj,rv,ak] 127))(am:Ints w S rv a)(an:∀k,S k->k<H/\k≠p)(ao:Turn H p J c0 w c)
  (rules:Nat) (aK:rules<=8) (aL:ends.length+a.length<=200) (ap:∀i,i<a.length->-1<=a.getD i 0/\a.getD i 0<=8)
  {u1 u3 u5 u6 u7 u8 u9 u10 u11 u12 u13 u14 u15 u16 u17 u18 u19 u20 u21 u22 u23 u24 u25 u26 u27 u28 u29 u30 u31 u32 u33 u34 u35 u36 u37 u38 u39 u40 u41 u42 u43 u44 u45 u46 u47 u48 u49 u50 u51 u52 u53 u54 u55 u56 u57 u58 u59 u60 u61 u62 u63 u64 u65 u66 u67 u68 u69 u70 u71 u72:Value}:
  Code.wp prog (xO 4 ((f64.body).getD .skip)) (bodyPost prog f64 λe w'=>e=returned (tuple #[])/\∃d,Gt w' H p d kinds acts pushed starts (ends++a.map (qF rules)) next/\Turn H p J c0 w' d)
   ⟨(pX p::u1::iX rules::u3::pX K::u5::u6::u7::u8::u9::u10::u11::u12::u13::u14::u15::u16::u17::u18::u19::u20::u21::u22::u23::u24::u25::u26::u27::u28::u29::u30::u31::u32::u33::u34::u35::u36::u37::u38::u39::u40::u41::u42::u43::u44::u45::u46::u47::u48::u49::u50::u51::u52::u53::u54::u55::u56::u57::u58::u59::u60::u61::u62::u63::u64::u65::u66::u67::u68::u69::u70::u71::u72::[]).toArray,[]⟩ w:=by
 conv=>arg 2;whnf
 obtain⟨Q,R,T,U,V⟩:=info_parts yF;obtain⟨aq,au,rfl,aM,aN,av⟩:=am;have aw:=vl av;have W:Hid (Gt w H p c kinds acts pushed starts ends next/\Turn H p J c0 w c):=⟨P,ao⟩
 have ax:=vl ap;have aO:cX w K 1=some (slice aq a.length au):=by simp[World.cell?,al]
 have aP:=P.HH;go_wp2;go_loopg [53] a.length (λq i wr=>∃(j:Nat) (l:Tc),q=a.length-j/\j<=a.length/\i=iX (j:Int)/\Gt wr H p l kinds acts pushed starts (ends++(a.take j).map (qF rules)) next/\Turn H p w c wr l)
 case atStart=>exact⟨0,c,rfl,lX,rfl,by rw[List.take_zero,List.map_nil,gG];exact W.1,Turn.refl _ _ _ _⟩
 case round=>
  obtain⟨j,l,X,aQ,rfl,b,L⟩:=hrel;have v:Hid (gk=a.length-j/\Gt wr H p l kinds acts pushed starts (ends++(a.take j).map (qF rules)) next/\Turn H p w c wr l):=⟨X,b,L⟩
  by_cases B:j<a.length
  ·have ay:(j:Int)<(a.length:Int):=by omega
   obtain⟨Y,aR,rfl,az,aA⟩:=aw j B;obtain⟨s1,s2⟩:=an Y az;have aS:=(gZ (L.keep.block Y s1 s2)).trans aA;obtain⟨m,o,C⟩:=b.ends.form;have aa:cX wr p 9=some (slice m (ends++(a.take j).map (qF rules)).length o):=by rw[<-C];exact b.tp.get_ends
   have ab:=b.tp.fz 9;have aB:Hid (ends++(a.take (j+1)).map (qF rules)=(ends++(a.take j).map (qF rules))++[qF rules (a.getD j 0)]):=by
    show _=_;rw[List.take_succ_eq_append_getElem B,List.map_append,hJ,lW,lV B];rfl
   have aT:(ends++(a.take j).map (qF rules)).length<=200:=by
    rw[kX,kV,List.length_take];omega
   have ac:Hid (wr.ownsRow H 3 1 (slice m (ends++(a.take j).map (qF rules)).length o) (ends++(a.take j).map (qF rules)).length ((ends++(a.take j).map (qF rules)).map λx=>iX x)):=by have:=b.ends;rw[C] at this;exact this
   have ad:=vl C;have aU:=b.HH;have D:=b.tp.lt;have aC:some p≠Value.ownBlock (slice m (ends++(a.take j).map (qF rules)).length o):=by rw[<-C];exact jQ b.tp b.ends.raw (by decide)
   have af:=vl aC;obtain⟨aV,b2⟩:=ax j B;generalize aW:ends++(a.take j).map (qF rules)=le at *;generalize a.getD j 0=x at *;have fin:∀(w2:World) (g cap:Nat) (y:Int),y=qF rules x->w2.ownsRow H 3 1 (slice (qX g) (le.length+1) cap) (le.length+1) ((le.map λx=>iX x)++[iX y])->(wr.alloc (.cells #[iX y] 3)).grownBy w2 (Value.ownBlock (slice m le.length o))->(Value.ownBlock (slice m le.length o)=some g\/g=(wr.alloc (.cells #[iX y] 3)).heap.size)->
     ∃d,Gt (w2.setCell ⟨p,9,none⟩ (slice (qX g) (le.length+1) cap)) H p d kinds acts pushed starts (ends++(a.take (j+1)).map (qF rules)) next/\Turn H p w c (w2.setCell ⟨p,9,none⟩ (slice (qX g) (le.length+1) cap)) d:=by
    intro w2 g cap y aD aE E z;have f:=Gt.ends_app v.2.1 (w2:=w2) (g:=g) (cap:=cap) (x:=y) (OwnI.snoc aE) (λk aF aG=>(E.block k (by simp;omega) (by rw[<-ad.out];exact aG)).trans (lG _ _ _ aF)) (lY (by simp) E.size) ⟨E.os,E.output⟩ (by
     rw[ad.out];rcases z with z|z
     ·exact .inl z
     ·right;rw[z];simp)
    rw[aB.out,<-aD];exact⟨_,f.1,v.2.2.trans f.2⟩
   have ag:=vl fin;by_cases r:x=-1
   ·have aH:(x != -1)=false:=by simp[r]
    have M:Hid (x=qF rules x):=by show _=_;rw[qF,if_pos r]
    clear r;go_wp2_with (first|(at_builtin;refine wpList_append_lies _ rfl _ _ 45 rfl (H) 3 Q (iX 0) 1 8 underlying45 R T U V rfl (by decide) _ _ _ rfl (ac.alloc _) ⟨wr.heap.size,0,none⟩ 1 1 [iX x] rfl rfl (cell_one_new _ _ _) (by intro u A;simp at A;subst A;rfl) (by decide) (by unfold maxLen;omega) (by omega) (by simp;omega) _ rfl ?_;intro N cap w2 F s G aI;have t:=s.block p (by simp;omega) af;have ah:=(gZ t).trans ((gW _ _ _ D).trans aa);have ai:=(gY t).trans ((frozen?_alloc_past _ _ _ D).trans ab);have I:=ag w2 N cap x M F s G))
    have O:Hid _:=I;go_wp2;go_roundg (a.length-(j+1))
    case measure=>rw[v.out.1];omega
    case rel=>exact O.elim λd f=>⟨j+1,d,rfl,by omega,by go_num,f⟩
   ·have aH:(x != -1)=true:=by simpa using r
    have M:Hid (x+rules=qF rules x):=by show _=_;rw[qF,if_neg r]
    clear r;go_wp2_with (first|(at_builtin;refine wpList_append_lies _ rfl _ _ 45 rfl (H) 3 Q (iX 0) 1 8 underlying45 R T U V rfl (by decide) _ _ _ rfl (ac.alloc _) ⟨wr.heap.size,0,none⟩ 1 1 [iX (x+(rules:Int))] rfl rfl (cell_one_new _ _ _) (by intro u A;simp at A;subst A;rfl) (by decide) (by unfold maxLen;omega) (by omega) (by simp;omega) _ rfl ?_;intro N cap w2 F s G aI;have t:=s.block p (by simp;omega) af;have ah:cX w2 p 9=some (slice m le.length o):=(gZ t).trans ((gW _ _ _ D).trans aa);have ai:w2.frozen? ⟨p,9,none⟩=false:=(gY t).trans ((frozen?_alloc_past _ _ _ D).trans ab);have I:=ag w2 N cap (x+(rules:Int)) M F s G))
    have O:Hid _:=I;clear I F s G t ah ai;go_wp2_with fail;go_roundg (a.length-(j+1))
    case measure=>rw[v.out.1];omega
    case rel=>exact O.elim λd f=>⟨j+1,d,rfl,by omega,by go_num,f⟩
  ·have ay:(a.length:Int)<=(j:Int):=by omega
   have aJ:Hid (Gt wr H p l kinds acts pushed starts (ends++a.map (qF rules)) next):=by
    have f:=b;rw[List.take_of_length_le (by omega)] at f;exact f
   clear X b L;go_wp2_with fail;go_end0;exact⟨rfl,l,aJ,W.2.trans v.2.2⟩
end
section
attribute [local go_sem ↓] Go.wp_at_zero Go.wp_at_succ
theorem zQP (J w:World)(H p x:Nat)(c0 c:Tc)(kinds acts pushed starts ends:List Int)(next:List (List Int))(ab:Gt w H p c kinds acts pushed starts ends next)(aq rv O:Value)(S:Nat->Prop)(s:List Int)(d:List (List Int))(ac:w.heap[x]? =some (.cells #[aq,rv,O] 127))(ad:H<=x/\Rest w p c x)(aM:IntRows w S aq d)(ar:Ints w S rv s)(A:∀k,S k->k<H/\k≠p)(au:Turn H p J c0 w c)
  (rules first:Nat) (aN:rules<=8) (aO:ends.length+s.length<=200) (av:∀i,i<s.length->-1<=s.getD i 0/\s.getD i 0<=8)
  (aP:first<=200) (bu:next.length+d.length<=200) (m:kinds.length=256) (aw:∀i,i<d.length->(d.getD i []).length=256/\∀b,b<256->0<=(d.getD i []).getD b 0/\(d.getD i []).getD b 0<=200)
  {u1 u3 u5 u7 u8 u9 u10 u11 u12 u13 u14 u15 u16 u17 u18 u19 u20 u21 u22 u23 u24 u25 u26 u27 u28 u29 u30 u31 u32 u33 u34 u35 u36 u37 u38 u39 u40 u41 u42 u43 u44 u45 u46 u47 u48 u49 u50 u51 u52 u53 u54 u55 u56 u57 u58 u59 u60 u61 u62 u63 u64 u65 u66 u67 u68 u69 u70 u71 u72:Value}:
  Code.wp prog (xO 3 ((f64.body).getD .skip)) (bodyPost prog f64 λe w'=>e=returned (tuple #[])/\∃B,Gt w' H p B kinds acts pushed starts (ends++s.map (qF rules)) (next++d.map λrow=>xA kinds row first 256)/\Turn H p J c0 w' B)
   ⟨(pX p::u1::iX rules::u3::pX x::u5::iX first::u7::u8::u9::u10::u11::u12::u13::u14::u15::u16::u17::u18::u19::u20::u21::u22::u23::u24::u25::u26::u27::u28::u29::u30::u31::u32::u33::u34::u35::u36::u37::u38::u39::u40::u41::u42::u43::u44::u45::u46::u47::u48::u49::u50::u51::u52::u53::u54::u55::u56::u57::u58::u59::u60::u61::u62::u63::u64::u65::u66::u67::u68::u69::u70::u71::u72::[]).toArray,[]⟩ w:=by
 conv=>arg 2;whnf
 refine wp_seq_k ?_;intro aQ hK0;have aR:Hid (∀a w,_->aQ a w):=hK0;clear hK0;obtain⟨aS,aT,aU,aV,aW⟩:=info_parts zEb;obtain⟨P,af,rfl,bv,bw,ax⟩:=aM;have ay:Hid (∀i,i<d.length->∃b o u,P=some ⟨b,o,none⟩/\S b/\cX w b (o+i)=some u/\Ints w S u (d.getD i [])):=ax;have L:Hid (Gt w H p c kinds acts pushed starts ends next/\Turn H p J c0 w c/\Ints w S rv s/\w.heap[x]? =some (.cells #[slice P d.length af,rv,O] 127)/\Rest w p c x):=⟨ab,au,ar,ac,ad.2⟩
 have aX:Hid (∀i,i<d.length->(d.getD i []).length=256/\∀b,b<256->0<=(d.getD i []).getD b 0/\(d.getD i []).getD b 0<=200):=aw;have aY:Hid (∀i,i<s.length->-1<=s.getD i 0/\s.getD i 0<=8):=av;have aZ:Hid (kinds.length=256):=m;have a0:cX w x 0=some (slice P d.length af):=by simp[World.cell?,ac]
 have bz:=ab.HH;have a2:=ad.1;clear ax ab ac au av ar ad m aw;go_wp2_with fail;clear a0;go_loopg [32] d.length (λq i wr=>∃(j:Nat) (f:Tc),q=d.length-j/\j<=d.length/\i=iX (j:Int)/\Gt wr H p f kinds acts pushed starts ends (next++(d.take j).map λrow=>xA kinds row first 256)/\Turn H p w c wr f)
 case atStart=>exact⟨0,c,rfl,lX,rfl,by rw[List.take_zero,List.map_nil,gG];exact L.1,Turn.refl _ _ _ _⟩
 case round=>
  obtain⟨j,f,ag,bA,rfl,v,z⟩:=hrel;have M:Hid (gk=d.length-j/\Gt wr H p f kinds acts pushed starts ends (next++(d.take j).map λrow=>xA kinds row first 256)/\Turn H p w c wr f):=⟨ag,v,z⟩
  by_cases N:j<d.length
  ·have a3:(j:Int)<(d.length:Int):=by omega
   obtain⟨ah,a4,u,rfl,a5,D,a6⟩:=ay j N;obtain⟨s1,s2⟩:=A ah a5;obtain⟨bB,bC,ai,_⟩:=a6;have aj:=aX j N;have a7:cX wr ah (a4+j)=some u:=(gZ (z.keep.block ah s1 s2)).trans D;rw[ai] at a7;have az:Ints wr S u (d.getD j []):=(ay j N).elim λb l=>l.elim λo l=>l.elim λbD l=>by
    obtain⟨C,bE,a8,a9⟩:=l;injection C with C;injection C with ba bb;subst ba bb;rw[a8] at D;injection D with D;subst D;exact a9.keep λk m=>z.keep.block k (A k m).1 (A k m).2
   obtain⟨Q,R,aA⟩:=v.next
   obtain⟨E,F,T⟩:=zE R;have bc:cX wr p 8=some (slice E (next++(d.take j).map λrow=>xA kinds row first 256).length F):=by rw[<-T];exact v.tp.get_next
   have bd:=v.tp.fz 8;have aB:=v.tp.get_kinds;have G:p<wr.heap.size:=v.tp.lt;have be:Hid (some p≠Value.ownBlock f.next):=jQ v.tp R (by decide);have U:H<=wr.heap.size:=v.HH;have bf:Hid ((next++(d.take (j+1)).map λrow=>xA kinds row first 256)=(next++(d.take j).map λrow=>xA kinds row first 256)++[xA kinds (d.getD j []) first 256]):=by
    show _=_;rw[List.take_succ_eq_append_getElem N,List.map_append,hJ,lW,lV N];rfl
   have bF:(next++(d.take j).map λrow=>xA kinds row first 256).length<=200:=by
    rw[kX,kV,List.length_take];omega
   have aC:Hid (∀y,y.Alike wr->Ca 99 #[pX p,u,iX first] y λe w'=>∃u,e=returned u/\OwnI w' y.heap.size u (xA kinds (d.getD j []) first 256)/\Grew y w'):=by
    intro y V;have ak:∀k:Nat,y.heap[k]? =wr.heap[k]? :=λk=>by rw[V.1]
    exact zIE y (λk=>k<y.heap.size) p f.kinds u kinds (d.getD j []) first ((gZ (ak p)).trans aB) (by rw[V.1];exact G) (λk l=>l) ((v.kinds.ints.keep λk _=>ak k).mono λk m=>by rw[V.1];exact m.1) ((az.keep λk _=>ak k).mono λk m=>by rw[V.1];exact lZ (A k m).1 U) aZ aj.1 aP aj.2
   rw[ai] at aC;have aD:Hid (wr.ownsRow H 45 1 (slice E (next++(d.take j).map λrow=>xA kinds row first 256).length F) (next++(d.take j).map λrow=>xA kinds row first 256).length ((List.range (next++(d.take j).map λrow=>xA kinds row first 256).length).map Q)):=by have:=R;rw[T] at this;exact this
   have W:Hid (f.next=slice E (next++(d.take j).map λrow=>xA kinds row first 256).length F):=T;have bg:Hid (∀i,i<(next++(d.take j).map λrow=>xA kinds row first 256).length->Fin wr (Rest wr p f) H (Q i) ((next++(d.take j).map λrow=>xA kinds row first 256).getD i [])):=aA;clear ag v z T D R aA az ai aB aj;generalize bh:(next++(d.take j).map λrow=>xA kinds row first 256)=le at *;clear bh;generalize d.getD j []=row at *;generalize xA kinds row first 256=X at *
   go_wp2_with fail;go_region_law ((first
    |(refine step_append_lies _ (by rfl) (.tmp 40) (.tmp 45) 88 (by rfl) H 45 aS _ 1 24 underlying88 aT aU aV aW rfl (by decide) (slice E le.length F) le.length ((List.range le.length).map Q) (by simp[Act.eval,Act.put]) (aE.alloc _) ⟨w1.heap.size,0,none⟩ 1 1 [slice al X.length c1] (by simp[Act.eval,Act.put]) (by rfl) (news_of_block (cs:=#[slice al X.length c1]) (t:=45) (fr:=(0,0)) (gX w1 _)) (by simp[Value.oneCell']) (by decide) (by unfold maxLen;omega) (by omega) (by simp;omega) (w1.heap.size+1) (by simp) ?_;intro am cap w2 aF I aG bG;have ao:=I.block p (by simp;omega) (by rw[<-W.out];exact be);have bi:cX w2 p 8=some (slice E le.length F):=(gZ ao).trans ((gW _ _ _ aH).trans aI);have bj:w2.frozen? ⟨p,8,none⟩=false:=(gY ao).trans ((frozen?_alloc_past _ _ _ aH).trans aJ))
    |(go_simp;go_at_call 99;refine(aC _ ?_).mono ?_;exact⟨rfl,rfl,rfl⟩;rintro e w1 ⟨bH,rfl,Y,r⟩;obtain⟨al,c1,bl⟩:=Y.form;subst bl;have aI:cX w1 p 8=some (slice E le.length F):=(gZ (r.block p G (by exact kJ G))).trans bc;have aJ:w1.frozen? ⟨p,8,none⟩=false:=(gY (r.block p G (by exact kJ G))).trans bd;have bI:H<=w1.heap.size:=lY U r.size;have aH:p<w1.heap.size:=lZ G r.size;have aE:=zK (w:=wr) (w':=w1) aD ⟨r.os,r.output,r.size,r.block⟩)))
   all_goals
    have ap:Grew wr w1:=⟨r.os,r.output,r.size,r.block⟩
    have bm:Hid (∃B,Gt (w2.setCell ⟨p,8,none⟩ (slice (qX am) (le.length+1) cap)) H p B kinds acts pushed starts ends (next++(d.take (j+1)).map λrow=>xA kinds row first 256)/\Turn H p w c (w2.setCell ⟨p,8,none⟩ (slice (qX am) (le.length+1) cap)) B):=by
     have aK:Turn H p wr f w1 f:=Turn.grown ap U;have bn:∀k,f.next.ownBlock=some k->k<wr.heap.size:=λk m=>(aD.lt k (by rw[<-W.out];exact m)).2
     have bo:Fin w1 (Rest w1 p f) H (slice al X.length c1) X:=by
      refine⟨yD Y U,λg bp=>?_⟩;have aL:=Y.lt g bp;have bJ:wr.heap.size<=g:=aL.1;refine⟨aL.2,λe=>by omega,λe=>?_,λe=>?_,λe=>?_⟩
      ·have:=(M.2.1.starts.lt g e.symm).2;omega
      ·have:=bn g e.symm;omega
      ·have:=(M.2.1.ends.lt g e.symm).2;omega
     have l:=Gt.next_app (M.2.1.grown ap) Q (λi bq=>(bg i bq).keep aK.rest) bo (w2:=w2) (g:=am) (cap:=cap) aF (λk bs bt=>(I.block k (by simp;omega) (by rw[<-W.out];exact bt)).trans (lG _ _ _ bs)) (lY (by simp) I.size) ⟨I.os,I.output⟩ (by
      rw[W.out];rcases aG with C|C
      ·exact .inl C
      ·right;rw[C];omega)
     rw[bf.out];exact⟨_,l.1,(M.2.2.trans aK).trans l.2⟩
    clear aF I aG ao aI aJ bi bj r ap aE Y;go_wp2_with fail;go_roundg (d.length-(j+1))
    case measure=>rw[M.out.1];omega
    case rel=>exact bm.elim λB l=>⟨j+1,B,rfl,by omega,by go_num,l⟩
  ·have a3:(d.length:Int)<=(j:Int):=by omega
   have aa:Hid (Gt wr H p f kinds acts pushed starts ends (next++d.map λrow=>xA kinds row first 256)/\wr.heap[x]? =some (.cells #[slice P d.length af,rv,O] 127)/\Ints wr S rv s/\Turn H p J c0 wr f):=by
    have l:=v;rw[List.take_of_length_le (by omega)] at l;exact⟨l,((z.rest x a2 L.2.2.2.2).1).trans L.2.2.2.1,L.2.2.1.keep λk m=>z.keep.block k (A k m).1 (A k m).2,L.2.1.trans z⟩
   clear ag v z;go_wp2_with fail;apply aR.out;exact zQO J wr H p x c0 f kinds acts pushed starts ends _ aa.1 _ rv O S s aa.2.1 aa.2.2.1 A aa.2.2.2 rules aN aO aY
end
section
attribute [local go_sem ↓] Go.wp_at_zero Go.wp_at_succ
theorem zBo (x:Int)(a:-4611686018427387904<=x)(b:x<=4611686018427387904):IntKind.i64.wrap x=x:=by
 simp[IntKind.wrap,IntKind.signed,IntKind.bits];omega
structure Sm.Fit (m:Sm):Prop where
 rows:∀i,i<m.next.length->(m.next.getD i []).length=256/\∀b,b<256->0<=(m.next.getD i []).getD b 0/\(m.next.getD i []).getD b 0<=200
 rules:∀i,i<m.rules.length->-1<=m.rules.getD i 0/\m.rules.getD i 0<=8
 start0:0<=m.start
 start:m.start<=200
theorem zG9 (w:World)(H p:Nat)(c:Tc)(kinds acts pushed starts ends:List Int)(next:List (List Int))(i:Gt w H p c kinds acts pushed starts ends next)(m:Sm)(r rv:Value)(S:Nat->Prop)(D:IntRows w S r m.next)(E:Ints w S rv m.rules)(l:∀k,S k->k<H/\k≠p)
  (rules:Nat) (s:m.Fit) (T:rules<=8) (b:kinds.length=256) (U:next.length+m.next.length<=200) (V:ends.length+m.rules.length<=200) (aC:starts.length<=3):
  Calls prog 64 #[pX p,agg #[r,rv,iX m.start],iX rules] w λe w'=>e=returned (tuple #[])/\∃d,Gt w' H p d kinds acts pushed (starts++[(next.length:Int)+m.start]) (ends++m.rules.map (qF rules)) (next++m.next.map λrow=>xA kinds row next.length 256)/\Turn H p w c w' d:=by
 obtain⟨W,X,Y,aa,ab⟩:=info_parts yF;have j:Hid (Gt w H p c kinds acts pushed starts ends next/\IntRows w S r m.next/\Ints w S rv m.rules):=⟨i,D,E⟩
 obtain⟨F,G,rfl,aD,aE,_⟩:=D;obtain⟨I,J,rfl,aF,aG,_⟩:=E;have ac:=i.tp.lt;have o:=i.HH;obtain⟨aH,ad,_⟩:=i.next
 obtain⟨ae,af,ag⟩:=zE ad;obtain⟨as_,cs,ah⟩:=i.starts.form;have K:cX w p 8=some (slice ae next.length af):=by rw[<-ag];exact i.tp.get_next
 have q:=vl ah;have ai:=vl b;have aI:=s.start0;have aJ:=s.start;have L:Hid m.Fit:=s;go_in;apply wp_cut;intro aK aj;go_wp2;apply aj.out;apply wp_cut;intro aL ak;obtain⟨w1,u,a⟩:∃w1,w1=w.alloc (.cells #[slice F m.next.length G,slice I m.rules.length J,iX m.start] 127)/\Hid (w1.heap[w.heap.size]? =some (.cells #[slice F m.next.length G,slice I m.rules.length J,iX m.start] 127)/\Gt w1 H p c kinds acts pushed starts ends next/\Grew w w1):=⟨_,rfl,gX w _,j.1.grown (kZ _ _ lQ),kZ _ _ lQ⟩
 have M:w1.heap.size=w.heap.size+1:=by rw[u];simp
 have al:=vl M;have aM:H<=w1.heap.size:=by omega
 have N:p<w1.heap.size:=by omega
 rw[<-u];have aN:=(gZ (a.2.2.block p ac (by omega))).trans K;clear K u M;go_wp2;apply ak.out;apply wp_cut;intro aO am;have y3:cX w1 p 3=some (slice as_ starts.length cs):=by rw[<-q.out];exact a.2.1.tp.get_starts
 have O:=a.2.1.tp.fz 3;have ao:cX w1 w.heap.size 2=some (iX m.start):=by simp[World.cell?,a.out.1]
 have ap:w.heap.size<w1.heap.size:=by rw[al.out];omega
 have v:w1.ownsRow H 3 1 (slice as_ starts.length cs) starts.length (starts.map λx=>iX x):=by have:=a.2.1.starts;rw[q.out] at this;exact this
 have aP:next.length<=200:=by omega
 have P:=vl <| jQ a.2.1.tp v (by decide);go_wp2;go_region_law ((refine step_append_lies _ (by rfl) (.tmp 20) (.tmp 25) 45 (by rfl) H 3 W _ 1 8 underlying45 X Y aa ab rfl (by decide) (slice as_ starts.length cs) starts.length (starts.map λx=>iX x) (by simp[Act.eval,Act.put]) ((v.alloc _).drew) ⟨w1.heap.size,0,none⟩ 1 1 [iX (IntKind.i64.wrap ((next.length:Int)+m.start))] (by simp[Act.eval,Act.put]) (by rfl) (news_of_block (cs:=#[iX (IntKind.i64.wrap ((next.length:Int)+m.start))]) (t:=3) (fr:=(0,0)) (gX w1 _)) (by simp[Value.oneCell']) (by decide) (by unfold maxLen;omega) (by omega) (by simp;omega) (w1.heap.size+1) (by simp) ?_;intro y cap w2 z f Q aQ;have aq:=(gZ (f.block p (by simp;omega) P)).trans ((gW _ _ _ N).trans y3);have au:=(gY (f.block p (by simp;omega) P)).trans ((frozen?_alloc_past _ _ _ N).trans O)))
 all_goals
  have av:Hid (∃d,(Gt (w2.setCell ⟨p,3,none⟩ (slice (qX y) (starts.length+1) cap)) H p d kinds acts pushed (starts++[(next.length:Int)+m.start]) ends next/\Turn H p w1 c (w2.setCell ⟨p,3,none⟩ (slice (qX y) (starts.length+1) cap)) d)):=by
   rw[zBo ((next.length:Int)+m.start) (by omega) (by omega)] at z;have aw:=Gt.starts_app a.2.1 (w2:=w2) (g:=y) (cap:=cap) (x:=(next.length:Int)+m.start) (OwnI.snoc z) (λk ax ay=>(f.block k (by simp;omega) (by rw[<-q.out];exact ay)).trans (lG _ _ _ ax)) (lY (by simp) f.size) ⟨f.os,f.output⟩ (by
    rw[q.out];rcases Q with A|A
    ·exact .inl A
    ·right;rw[A];omega)
   exact⟨_,aw⟩
  clear z f Q aq au y3 O ao v;go_wp2_with fail;apply am.out;obtain⟨d,az,B⟩:=av;have aA:Turn H p w c w1 c:=Turn.grown a.2.2 o;have C:=aA.trans B;have R:Rest w1 p c w.heap.size:=by
   refine⟨ap,λe=>by omega,λe=>?_,λe=>?_,λe=>?_⟩
   ·have:=(j.1.starts.lt _ e.symm).2;omega
   ·obtain⟨_,aB,_⟩:=j.1.next
    have:=(aB.lt _ e.symm).2;omega
   ·have:=(j.1.ends.lt _ e.symm).2;omega
  exact zQP w _ H p w.heap.size c d kinds acts pushed _ ends next az _ _ _ S m.rules m.next (((B.rest _ o R).1).trans a.1) ⟨o,(B.rest _ o R).2⟩ (j.2.1.keep λk b=>C.keep.block k (l k b).1 (l k b).2) (j.2.2.keep λk b=>C.keep.block k (l k b).1 (l k b).2) l C rules next.length T V L.rules (by omega) U ai L.rows
end
theorem zFa (p:Nat)(w:World)(S:Nat->Prop)(t:Tb)(c:TabAt w S p t)(ok:t.Ok)(a s:Nat)(d:a<t.rows)(l:s<t.nst):
  Calls prog 155 #[pX p,iX a,iX s] w λe w'=>e=returned (bool (t.longer a s))/\w'=w:=by
 obtain⟨_,m,b,o,cap,q,rfl,r,u,v⟩:=c.c8;obtain⟨_,y,f,g,z,A,rfl,B,C,h⟩:=c.c12;have D:a*t.nst+s<8*t.nlong:=by
  have i:(a+1)*t.nst<=t.rows*t.nst:=Nat.mul_le_mul_right _ d;have E:=ok.long;rw[Nat.add_mul] at i;omega
 have F:cX w f (g+(a*t.nst+s)/8)=some (int .u8 (t.long ((a*t.nst+s)/8):Nat)):=h _ (by omega);have j:=ok.longB ((a*t.nst+s)/8) (by omega);have G:=ok.rows;have b2:=ok.nst;have k:Hid (t.longer a s=decide (t.long ((a*t.nst+s)/8)/2^((a*t.nst+s)%8)%2=1)):=rfl;have H:a*t.nst<=600000:=lY (Nat.mul_le_mul (show a<=3000 by omega) b2) (by decide);generalize t.longer a s=I at *;generalize t.long ((a*t.nst+s)/8)=x at *;generalize t.nst=n at *;generalize t.nlong=J at *;have K:(a:Int)*(n:Int)<=600000:=by
  have e:(a:Int)*(n:Int)=((a*n:Nat):Int):=by simp
  rw[e];omega
 have L:0<=(a:Int)*(n:Int):=by
  have e:(a:Int)*(n:Int)=((a*n:Nat):Int):=by simp
  rw[e];omega
 go_in;go_wp2;go_ret;exact⟨zMJ (by rw[k.out];exact zMU x _ j),rfl⟩
structure TabN (w:World)(S:Nat->Prop)(p:Nat)(t:Tb):Prop where
 safe:S p
 c7:w.cell? ⟨p,7,none⟩=some (int i64 t.count)
 c8:∃v,w.cell? ⟨p,8,none⟩=some v/\RowsAt w S v t.nst t.count λi k=>t.next i k
 c9:∃v,w.cell? ⟨p,9,none⟩=some v/\IntsAt w S v t.nst λi=>t.ends i
theorem TabN.keep {w w':World}{S:Nat->Prop}{p:Nat}{t:Tb}(d:TabN w S p t)(e:∀b,S b->w'.heap[b]? =w.heap[b]?):TabN w' S p t:=by
 have c:∀i,cX w' p i=cX w p i:=λi=>gZ (e p d.safe);refine⟨d.safe,(c _).trans d.c7,?_,?_⟩
 ·obtain⟨v,a,b⟩:=d.c8;exact⟨v,(c _).trans a,b.keep e⟩
 ·obtain⟨v,a,b⟩:=d.c9;exact⟨v,(c _).trans a,b.keep e⟩
theorem zDG (p:Nat)(w:World)(S:Nat->Prop)(t:Tb)(a:TabN w S p t):
  Calls prog 118 #[pX p] w λe w'=>e=returned (iX t.count)/\w'=w:=by
 have b:=a.c7;generalize t.count=m at *;go_in;go_wp2;go_ret;exact⟨rfl,rfl⟩
def Tb.willEnd (t:Tb)(s d:Nat)(rest:Nat->Bool):Bool:=if d=t.count then false else(t.ends (t.next s d) != -1)||rest (t.next s d)
theorem zGO (p:Nat)(w:World)(S:Nat->Prop)(t:Tb)(g:TabN w S p t)(ok:t.OkN)(s a:Nat)(l:s<t.nst)(E:a<=t.count)(b o cap:Nat)(c:Nat->Bool)(j:∀i,i<t.nst->w.cell? ⟨b,o+i,none⟩=some (bool (c i))):
  Calls prog 139 #[pX p,iX s,iX a,slice (some ⟨b,o,none⟩) t.nst cap] w λe w'=>e=returned (bool (t.willEnd s a c))/\w'=w:=by
 have k:=vl g;have F:=vl j;by_cases h:a=t.count
 ·have A:((a:Int)==(t.count:Int))=true:=by simp[h]
  have f:Hid (t.willEnd s a c=false):=if_pos h;go_in;go_wp2_with fail;refine(zDG p w S t k).mono ?_;rintro e w1 ⟨rfl,rfl⟩;go_wp2;go_ret;exact⟨vC f.symm,rfl⟩
 ·have A:((a:Int)==(t.count:Int))=false:=by rw[hX];omega
  have m:a<t.count:=by omega
  have f:Hid (t.willEnd s a c=((t.ends (t.next s a) != -1)||c (t.next s a))):=if_neg h;obtain⟨_,G,H,I,J,K,rfl,L,M,q⟩:=g.c8;obtain⟨u,N,b2,B,O,P,rfl,Q,R,r⟩:=q s l;obtain⟨_,T,C,D,U,V,rfl,W,X,v⟩:=g.c9;have y:=ok.next s a l m
  have Y:cX w b2 (B+a)=some (iX (t.next s a:Nat)):=r a m;have aa:cX w C (D+t.next s a)=some (iX (t.ends (t.next s a))):=v _ y;have ab:cX w b (o+t.next s a)=some (bool (c (t.next s a))):=j _ y;clear q r v g j ok h;generalize t.next s a=to at *
  generalize t.ends to=x at *;generalize c to=ac at *;generalize t.nst=n at *;have ad:(s:Int)<(n:Int):=by omega
  have ae:(a:Int)<(t.count:Int):=by omega
  have af:(to:Int)<(n:Int):=by omega
  cases z:(x != -1) with
  |true=>
   rw[z] at f;go_enter func139,ntmps139
   go_wp2_with fail;refine(zDG p w S t k).mono ?_;rintro e w1 ⟨rfl,rfl⟩;go_wp2_with fail;go_ret;exact⟨vC f.symm,rfl⟩
  |false=>
   rw[z] at f;go_enter func139,ntmps139
   go_wp2_with fail;refine(zDG p w S t k).mono ?_;rintro e w1 ⟨rfl,rfl⟩;go_wp2_with fail;go_ret;exact⟨vC f.symm,rfl⟩
end Go.Proofs.YtbjcfkdnjaiclaaGreat
