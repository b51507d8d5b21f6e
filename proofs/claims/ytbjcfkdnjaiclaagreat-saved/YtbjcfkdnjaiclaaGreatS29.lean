import Derived.Laws.AppendOwnNone
import Derived.ProofKit
import Derived.Test.YtbjcfkdnjaiclaaGreatRows
import Derived.Test.YtbjcfkdnjaiclaaGreatS0
import Derived.Test.YtbjcfkdnjaiclaaGreatS5
import Derived.Test.YtbjcfkdnjaiclaaGreatS6
import Derived.Test.YtbjcfkdnjaiclaaGreatS22
import Derived.Test.YtbjcfkdnjaiclaaGreatS26
import Derived.Test.YtbjcfkdnjaiclaaGreatS28
/- Parts of the proof. -/
set_option linter.unusedVariables false
set_option linter.unusedSimpArgs false
set_option maxHeartbeats 4000000
set_option maxRecDepth 100000
namespace Go.Proofs.YtbjcfkdnjaiclaaGreat
open Go.RowKit Go.Proofs.Tryz Go.World
open Go.Value (int slice bool pointer string agg tuple)
open Go.IntKind (i64)
open Go.Ending (returned)
theorem zMR (s:ByteArray)(k:Nat)(a:k<s.size):(nats s).take (k+1)=(nats s).take k++[s[k].toNat]:=by
 unfold nats;rw[<-List.map_take,zHc s k a,List.map_append,List.map_take];rfl
theorem zNd (t:Tb)(s:ByteArray)(k:Nat)(r:Rs)(d:k<=s.size)(a:¬(k<s.size/\(Rs.feed t ((nats s).take k) r).1.opn=true)):Rs.feed t ((nats s).take k) r=Rs.feed t (nats s) r:=by
 by_cases e:k<s.size
 ·have b:(Rs.feed t ((nats s).take k) r).1.opn=false:=by
   cases c:(Rs.feed t ((nats s).take k) r).1.opn with
   |false=>rfl
   |true=>exact absurd ⟨e,c⟩ a
  conv=>rhs;rw[<-List.take_append_drop k (nats s),Rs.feed_append,Rs.feed_shut t _ _ b,gG]
 ·rw[List.take_of_length_le (by rw[zBv];omega)]
theorem zJF {w:World}{H e b n:Nat}{v:Value}{xs:List Value}(c:w.ownsRow H e b v n xs):∃ao cap,v=slice ao n cap:=by
 rcases c.2 with⟨a,d⟩|⟨g,cap,_,a,_⟩
 ·exact⟨none,0,by rw[a,d]⟩
 ·exact⟨_,cap,a⟩
theorem zJE {w w':World}{H b e a n:Nat}{v:Value}{xs:List Value}(c:w.ownsRow H e a v n xs)(f:∀H,Keep H b w w')(o:b<H):w'.ownsRow H e a v n xs:=by
 refine⟨c.1,c.2.imp id ?_⟩;rintro⟨g,cap,i,j,k,d,l⟩;have m:=(kQ.1 d).1;exact⟨g,cap,i,j,k,((f w.heap.size).block g m (by omega)).trans d,l⟩
theorem Rs.Good.str {r:Rs}{t:Tb}{P:Nat}(a:r.Good t P)(b:t.stream=true):r.Str t P:=by unfold Rs.Good at a;rw[if_pos b] at a;exact a
theorem Rs.Good.oth {r:Rs}{t:Tb}{P:Nat}(a:r.Good t P)(b:t.stream=false):r.Oth t P:=by unfold Rs.Good at a;rw[if_neg (by rw[b];decide)] at a;exact a
theorem zLu (b H:Nat)(S:Nat->Prop)(t:Tb)(w:World)(r:Rs){v0:Value}(d:List Ev)(P c:Nat)(g:Cv H b S t w r v0 d)(ok:t.Ok)(j:∀i,i<t.nrule->t.act i<4)(k:r.Good t P)(o:P<1073741824)(l:d.length<=4194304)(m:c<256)(f:t.stream=true):
  Calls prog 73 #[pX b,int .u8 c] w λe w'=>
   e=returned (tuple #[])/\∃v,Cv H b S t w' (r.eat t c).1 v (d++(r.eat t c).2)/\Keep H b w w':=by
 have a:=k.str f;have p:=a.pos;have q:=a.line;have s:=a.col;have u:=a.cnt;have x:=ok.ahead;have e:r.eat t c=r.take t c:=if_pos f;rw[e];exact zKE b H S t w r d c g l ok j a.ok a.ahead (by omega) m (by omega) (by omega) (by omega)
theorem zLv (b H:Nat)(S:Nat->Prop)(t:Tb)(w:World)(r:Rs){v0:Value}(a:List Ev)(P C c:Nat)(f:Cv H b S t w r v0 a)(ok:t.Ok)(g:∀i,i<t.nrule->t.act i<4)(h:r.Good t P)(j:P<1073741824)(k:a.length+r.count+xN r.opn<=C)(l:C<4194304)(m:c<256)(d:t.stream=false):
  Calls prog 74 #[pX b,int .u8 c] w λe w'=>
   e=returned (tuple #[])/\∃v,Cv H b S t w' (r.eat t c).1 v (a++(r.eat t c).2)/\Keep H b w w':=by
 have e:r.eat t c=r.takeO t c:=if_neg (by rw[d];decide);rw[e];exact zI2 b H S t w r a P C c f ok g (h.oth d) j k l m
theorem zGS (b H:Nat)(S:Nat->Prop)(t:Tb)(w:World)(a:Rs){v0:Value}(d:List Ev)(s:ByteArray)(P C:Nat)(f:Cv H b S t w a v0 d)(ok:t.Ok)(M:∀i,i<t.nrule->t.act i<4)(X:a.Good t P)(al:P+s.size<1073741824)(Y:d.length+a.count+xN a.opn<=C)(am:C+s.size<4194304):
  Calls prog 50 #[pX b,string s] w λe w'=>
   ∃v,e=returned v/\zL w' b (Rs.feed t (nats s) a).1 (slice none 0 0)/\w'.ownsRow H 51 6 v (d++(Rs.feed t (nats s) a).2).length (xI (d++(Rs.feed t (nats s) a).2))/\Keep H b w w':=by
 have E:Hid (Cv H b S t w a v0 d/\a.Good t P/\d.length+a.count+xN a.opn<=C):=⟨f,X,Y⟩
 go_in;apply wp_cut;intro an aa;go_wp2;apply aa.out;apply wp_cut;intro ap z;go_wp2;go_loopg [5] s.size (λq i wr=>∃(k:Nat) (v:Value),q=s.size-k/\k<=s.size/\i=iX (k:Int)/\Cv H b S t wr (Rs.feed t ((nats s).take k) a).1 v (d++(Rs.feed t ((nats s).take k) a).2)/\Keep H b w wr)
 case atStart=>exact⟨0,v0,rfl,lX,rfl,by rw[List.take_zero];show Cv H b S t w a v0 (d++[]);rw[gG];exact E.1,Keep.refl _ _ _⟩
 case round=>
  obtain⟨k,v,ab,G,rfl,f,ac⟩:=hrel;have N:=vl <| zNd t s k a G;have A:Hid ((Rs.feed t ((nats s).take k) a).1.Good t (P+k)/\(d++(Rs.feed t ((nats s).take k) a).2).length+(Rs.feed t ((nats s).take k) a).1.count+xN (Rs.feed t ((nats s).take k) a).1.opn<=C+k):=by
   have B:=Rs.feed_inv t ok ((nats s).take k) a P E.2.1 (λc ad=>zLZ s c (List.mem_of_mem_take ad));have ae:((nats s).take k).length=k:=by rw[List.length_take,zBv];omega
   rw[ae] at B;have aq:=E.2.2;refine⟨B.1,?_⟩;rw[kX];omega
  have O:Hid (∀m:k<s.size,(Rs.feed t ((nats s).take k) a).1.opn=true->Rs.feed t ((nats s).take (k+1)) a=(((Rs.feed t ((nats s).take k) a).1.eat t s[k].toNat).1,(Rs.feed t ((nats s).take k) a).2++((Rs.feed t ((nats s).take k) a).1.eat t s[k].toNat).2)):=by
   intro m af;rw[zMR s k m];exact Rs.feed_snoc t _ _ _ af
  generalize ag:Rs.feed t ((nats s).take k) a=ah at *;obtain⟨r,j⟩:=ah;have ar:=vl ag;have g:Hid (Cv H b S t wr r v (d++j)/\Keep H b w wr/\gk=s.size-k):=⟨f,ac,ab⟩
  have Q:=f.run.get_opn;have au:=f.run.get_tp;have R:=f.tab.c0;by_cases o:k<s.size/\r.opn=true
  ·obtain⟨m,p⟩:=o
   rw[p] at Q;have T:=vl <| O m p;have U:=s[k].toNat_lt;cases u:t.stream with
   |true=>
    have I:=vl u;rw[u] at R;go_wp2_with fail;refine(zLu b H S t wr r (d++j) (P+k) s[k].toNat g.1 ok M A.1 (by omega) (by have:=A.2;omega) U I).mono ?_;rintro e w1 ⟨rfl,v1,c1,D⟩;have l:Hid (Cv H b S t w1 (r.eat t s[k].toNat).1 v1 ((d++j)++(r.eat t s[k].toNat).2)/\Keep H b wr w1):=⟨c1,D⟩
    go_wp2;go_roundg (s.size-(k+1))
    case measure=>rw[g.out.2.2];omega
    case rel=>exact⟨k+1,v1,rfl,by omega,by go_num,by rw[T.out];rw[hJ] at l;exact l.1,g.2.1.trans l.2⟩
   |false=>
    have I:=vl u;rw[u] at R;clear u;go_wp2_with fail;refine(zLv b H S t wr r (d++j) (P+k) (C+k) s[k].toNat g.1 ok M A.1 (by omega) A.2 (by omega) U I).mono ?_;rintro e w1 ⟨rfl,v1,c1,D⟩;have l:Hid (Cv H b S t w1 (r.eat t s[k].toNat).1 v1 ((d++j)++(r.eat t s[k].toNat).2)/\Keep H b wr w1):=⟨c1,D⟩
    clear c1 D;go_wp2_with fail;go_roundg (s.size-(k+1))
    case measure=>rw[g.out.2.2];omega
    case rel=>exact⟨k+1,v1,rfl,by omega,by go_num,by rw[T.out];rw[hJ] at l;exact l.1,g.2.1.trans l.2⟩
  ·have ai:Hid (Rs.feed t (nats s) a=(r,j)):=(N o).symm
   obtain⟨ao,cap,V⟩:=zJF g.1.own;have aj:Hid (v=slice ao (d++j).length cap):=V;clear V O N;have fin:∀x,Cv H b S t x r v (d++j)->Keep H b w x->Calls prog 75 #[pX b] x λe w'=>
     ∃v,e=returned v/\zL w' b (Rs.feed t (nats s) a).1 (slice none 0 0)/\w'.ownsRow H 51 6 v (d++(Rs.feed t (nats s) a).2).length (xI (d++(Rs.feed t (nats s) a).2))/\Keep H b w w':=by
    intro x f G;rw[aj.out] at f;refine(zEm b x r ao _ cap f.run).mono ?_;rintro e w2 ⟨rfl,ak,W⟩;rw[ai.out];exact⟨_,rfl,ak,zJE f.own W f.bH,G.trans (W H)⟩
   by_cases m:k<s.size
   ·have p:r.opn=false:=by
     cases B:r.opn with
     |false=>rfl
     |true=>exact absurd ⟨m,B⟩ o
    rw[p] at Q;have J:Hid (Ca 75 #[pX b] wr _):=fin wr g.1 g.2.1;clear p o fin;go_wp2_with fail;apply z.out;clear z;go_wp2_with fail;refine J.mono ?_;rintro e w2 ⟨v2,rfl,y⟩;have L:Hid _:=y;clear y;go_wp2_with fail;go_ret;exact⟨v2,rfl,L⟩
   ·have J:Hid (Ca 75 #[pX b] wr _):=fin wr g.1 g.2.1
    clear o fin;go_wp2_with fail;apply z.out;clear z;go_wp2_with fail;refine J.mono ?_;rintro e w2 ⟨v2,rfl,y⟩;have L:Hid _:=y;clear y;go_wp2_with fail;go_ret;exact⟨v2,rfl,L⟩
theorem zJh (b H:Nat)(S:Nat->Prop)(t:Tb)(w:World)(r:Rs){v0:Value}(c:List Ev)(P:Nat)(f:Cv H b S t w r v0 c)(ok:t.Ok)(g:∀i,i<t.nrule->t.act i<4)(j:r.Good t P)(m:P<1073741824)(k:c.length+r.count<4194304)(d:t.stream=true)(l:r.opn=true):
  Calls prog 84 #[pX b] w λe w'=>
   e=returned (tuple #[])/\∃v,Cv H b S t w' (r.shut t).1 v (c++(r.shut t).2)/\Keep H b w w':=by
 have a:=j.str d;have o:=a.pos;have p:=a.line;have q:=a.col;have s:=a.cnt;have u:=ok.ahead;have e:r.shut t=r.closed t:=by unfold Rs.shut;rw[if_pos l,if_pos d]
 rw[e];exact zEj b H S t w r c f k ok g ⟨a.ok,a.ahead,by omega,by omega,by omega⟩
theorem zJi (b H:Nat)(S:Nat->Prop)(t:Tb)(w:World)(r:Rs){v0:Value}(a:List Ev)(P:Nat)(d:Cv H b S t w r v0 a)(ok:t.Ok)(f:∀i,i<t.nrule->t.act i<4)(g:r.Good t P)(j:P<1073741824)(k:a.length+r.count<4194304)(c:t.stream=false)(h:r.opn=true):
  Calls prog 85 #[pX b] w λe w'=>
   e=returned (tuple #[])/\∃v,Cv H b S t w' (r.shut t).1 v (a++(r.shut t).2)/\Keep H b w w':=by
 have e:r.shut t=r.closeO t:=by unfold Rs.shut;rw[if_pos h,if_neg (by rw[c];decide)]
 rw[e];have l:xN r.opn<=1:=by unfold xN;split <;> omega
 exact zIC b H S t w r a P 4194304 d ok f (g.oth c) (by omega) (by omega) (by omega)
theorem zFZ (b H:Nat)(S:Nat->Prop)(t:Tb)(w:World)(r:Rs)(P:Nat)(a:Cv H b S t w r (slice none 0 0) [])(ok:t.Ok)(u:∀i,i<t.nrule->t.act i<4)(g:r.Good t P)(x:P<1073741824):
  Calls prog 55 #[pX b] w λe w'=>
   ∃v,e=returned v/\zL w' b (r.shut t).1 (slice none 0 0)/\w'.ownsRow H 51 6 v (r.shut t).2.length (xI (r.shut t).2)/\Keep H b w w':=by
 have p:=vl a;have y:=a.run.get_opn;have E:=a.run.get_tp;have z:=a.tab.c0;have F:=g.ok.count;have fin:∀c v,Cv H b S t c (r.shut t).1 v ([]++(r.shut t).2)->Keep H b w c->Calls prog 75 #[pX b] c λe w'=>
   ∃v,e=returned v/\zL w' b (r.shut t).1 (slice none 0 0)/\w'.ownsRow H 51 6 v (r.shut t).2.length (xI (r.shut t).2)/\Keep H b w w':=by
  intro c v a B;obtain⟨ao,cap,C⟩:=zJF a.own;rw[C] at a;refine(zEm b c _ ao _ cap a.run).mono ?_;rintro e w2 ⟨rfl,D,A⟩;exact⟨_,rfl,D,zJE a.own A a.bH,B.trans (A H)⟩
 cases h:r.opn with
 |false=>
  have j:Hid (r.shut t=(r,[])):=by show _=_;unfold Rs.shut;rw[if_neg (by rw[h];decide)]
  rw[h] at y;go_in;go_wp2;go_ret;refine⟨_,rfl,?_⟩;rw[j.out];exact⟨p.run,ownsRow_nil _ _ _ _,Keep.refl _ _ _⟩
 |true=>
  have j:=vl h;rw[h] at y;cases d:t.stream with
  |true=>
   have k:=vl <| zJh b H S t w r [] P p ok u g x (by show 0+r.count<4194304;omega) d j;have l:=vl fin;rw[d] at z;go_in;go_wp2_with fail;refine k.mono ?_;rintro e w1 ⟨rfl,v1,c1,m⟩;have o:=l w1 v1 c1 m;have q:=vl o;go_wp2_with fail;refine q.mono ?_;rintro e w2 ⟨v2,rfl,f⟩;have s:Hid _:=f;clear f;go_wp2_with fail;go_ret;exact⟨v2,rfl,s⟩
  |false=>
   have k:Hid (Ca 85 #[pX b] w _):=zJi b H S t w r [] P p ok u g x (by show 0+r.count<4194304;omega) d j;have l:Hid (∀c v,Cv H b S t c (r.shut t).1 v ([]++(r.shut t).2)->Keep H b w c->_):=fin;rw[d] at z;clear d fin g;go_enter func55,ntmps55
   go_wp2_with fail;refine k.mono ?_;rintro e w1 ⟨rfl,v1,c1,m⟩;have o:=l w1 v1 c1 m;have q:Hid (Ca 75 #[pX b] w1 _):=o;clear o c1 m l k;go_wp2_with fail;refine q.mono ?_;rintro e w2 ⟨v2,rfl,f⟩;have s:Hid _:=f;clear f;go_wp2_with fail;go_ret;exact⟨v2,rfl,s⟩
def Rs.born (t:Tb)(p:Nat):Rs:={Rs.zero p with stack:=λ_=>0,depth:=1,state:=t.start 0}
theorem Rs.born_good (t:Tb)(p:Nat)(a:t.Fine):(Rs.born t p).Good t 0:=by
 have ok:(Rs.born t p).Ok t:=⟨lQ,by show(1:Nat)<=4;decide,λ_ _=>a.ok.nmode,a.ok.start 0 a.ok.nmode,by show(0:Nat)<64;decide,lX,λ_ _=>by show(0:Nat)<256;decide⟩
 unfold Rs.Good;split
 ·exact⟨ok,a.ok.rows0,lX,lQ,lQ,lQ⟩
 ·exact⟨ok,lQ,lQ,.inl rfl,lQ,lQ,lQ,lQ⟩
theorem zFY (b H:Nat)(S:Nat->Prop)(t:Tb)(w:World)(a:Rs)(s:ByteArray)(P:Nat)(f:Cv H b S t w a (slice none 0 0) [])(c:t.Fine)(d:a.Good t P)(j:P+s.size<4194000):
  Calls prog 35 #[pX b,string s] w λe w'=>
   ∃v,e=returned v/\zL w' b (Rs.feed t (nats s) a).1 (slice none 0 0)/\w'.ownsRow H 51 6 v (Rs.feed t (nats s) a).2.length (xI (Rs.feed t (nats s) a).2)/\Keep H b w w':=by
 have g:Hid (Ca 50 #[pX b,string s] w λe w'=>∃v,e=returned v/\zL w' b (Rs.feed t (nats s) a).1 (slice none 0 0)/\w'.ownsRow H 51 6 v (Rs.feed t (nats s) a).2.length (xI (Rs.feed t (nats s) a).2)/\Keep H b w w'):=by
  have k:=d.cnt;have l:xN a.opn<=1:=by unfold xN;split <;> omega
  exact zGS b H S t w a [] s P (P+1) f c.ok c.act d (by omega) (by show 0+a.count+xN a.opn<=P+1;omega) (by omega)
 go_in;go_wp2_with fail;refine g.mono ?_;rintro e w2 ⟨v2,rfl,h⟩;have i:Hid _:=h;go_wp2;go_ret;exact⟨v2,rfl,i⟩
theorem zFk (b H:Nat)(S:Nat->Prop)(t:Tb)(w:World)(r:Rs)(P:Nat)(c:Cv H b S t w r (slice none 0 0) [])(a:t.Fine)(d:r.Good t P)(i:P<4194000):
  Calls prog 42 #[pX b] w λe w'=>
   ∃v,e=returned v/\zL w' b (r.shut t).1 (slice none 0 0)/\w'.ownsRow H 51 6 v (r.shut t).2.length (xI (r.shut t).2)/\Keep H b w w':=by
 have f:=vl <| zFZ b H S t w r P c a.ok a.act d (by omega);go_in;go_wp2_with fail;refine f.mono ?_;rintro e w2 ⟨v2,rfl,g⟩;have h:Hid _:=g;go_wp2;go_ret;exact⟨v2,rfl,h⟩
theorem zNa (l:List Value)(k:Nat)(b:Array Value)(i:Nat)(d:k+l.length<=b.size):((l.zipIdx k).foldl (λcs x=>cs.setIfInBounds x.2 x.1) b)[i]? =if k<=i/\i<k+l.length then l[i-k]? else b[i]? :=by
 induction l generalizing k b with
 |nil=>simp;intro c e;omega
 |cons a l f=>
  rw[List.zipIdx_cons,List.foldl_cons,f (k+1) (b.setIfInBounds k a) (by simp at d ⊢;omega)];simp only[List.length_cons] at d ⊢;by_cases c:k+1<=i/\i<k+1+l.length
  ·rw[if_pos c,if_pos (by omega),show i-k=(i-(k+1))+1 by omega,List.getElem?_cons_succ]
  ·rw[if_neg c]
   by_cases e:i=k
   ·subst e
    rw[if_pos (by omega)];simp[show i<b.size by omega]
   ·rw[if_neg (by omega),Array.getElem?_setIfInBounds_ne (by omega)]
theorem zOq (a c:Array Value)(n:Nat)(f:a.size=n)(b:c.size=n):Array.foldl (λcs x=>cs.setIfInBounds x.snd x.fst) a c.zipIdx 0 n=c:=by
 have e:Array.foldl (λcs x=>cs.setIfInBounds x.snd x.fst) a c.zipIdx 0 n=(c.toList.zipIdx 0).foldl (λcs x=>cs.setIfInBounds x.2 x.1) a:=by
  have d:c.zipIdx.size=n:=by simp[b]
  rw[<-d,<-Array.foldl_toList];simp
 rw[e];apply Array.ext_getElem?;intro i;rw[zNa _ _ _ _ (by simp;omega)];by_cases g:i<n
 ·rw[if_pos (by simp;omega)]
  simp
 ·rw[if_neg (by simp;omega),Array.getElem?_eq_none (by omega),Array.getElem?_eq_none (by omega)]
theorem zGN:zeroCells104.size=85:=by kernel_rfl
theorem zGk (x p:Nat)(S:Nat->Prop)(t:Tb)(w:World)(o:w.cell? ⟨x,0,none⟩=some (pX p))(f:TabAt w S p t)(g:∀k,S k->k<w.heap.size)(h:t.Fine):
  Calls prog 34 #[pX x] w λe w'=>∃b,e=returned (pX b)/\w.heap.size<=b/\b<w'.heap.size/\zL w' b (Rs.born t p) (slice none 0 0)/\Grew w w':=by
 have j:Hid _:=zKj p S t w f g h.ok;go_in;go_wp2_with fail;refine Calls.mono j ?_;rintro e w2 ⟨c,rfl,d,l,m⟩;have a:Hid ((∀i,i<85->c[i]? =some ((Rs.born t p).cells (slice none 0 0) i))/\Grew w w2):=⟨l,m⟩
 go_wp2;rw[zOq _ c 85 zGN d];go_ret;refine⟨w2.heap.size,rfl,a.2.size,by simp,⟨_,c,gX w2 _,d,a.1⟩,a.2.trans (kZ _ _ a.2.size)⟩
def Tb.events (t:Tb)(p:Nat)(s:ByteArray):List Ev:=(Rs.feed t (nats s) (Rs.born t p)).2++((Rs.feed t (nats s) (Rs.born t p)).1.shut t).2
theorem zFq (a:List Ev):(xI a).length=a.length*6:=by
 induction a with
 |nil=>rfl
 |cons e a b=>simp only[xI,List.flatMap_cons,kX,List.length_cons] at *;rw[b];simp[Ev.cells,jM];omega
theorem zIw (b:List Ev):∀u∈xI b,u.oneCell'=true:=by
 intro u a;obtain⟨e,_,a⟩:=List.mem_flatMap.1 a;simp[Ev.cells,jM] at a;rcases a with rfl|rfl|rfl|rfl|rfl|rfl <;> rfl
theorem zFr (a b:List Ev):xI (a++b)=xI a++xI b:=by simp[xI]
theorem Rs.shut_len (r:Rs)(t:Tb)(P:Nat)(ok:t.Ok)(c:r.Good t P):(r.shut t).2.length<=r.count+1:=by
 unfold Rs.shut;split
 ·rename_i a
  split
  ·exact(r.closed_end t a).2.2
  ·rename_i d
   have f:=c.oth (by simpa using d);have b:=(r.endN_inv t P ok f (r.count+2)).2.1;have j:xN r.opn<=1:=by unfold xN;split <;> omega
   have k:xN r.opn=1:=by rw[a];rfl
   unfold Rs.closeO;split
   ·rename_i g
    have e:xN (r.endAll t).1.opn=1:=by rw[g];rfl
    show((r.endAll t).2++[_]).length<=_;rw[kX];have i:(r.endAll t).2.length+(r.endAll t).1.count+xN (r.endAll t).1.opn<=r.count+xN r.opn:=b;simp only[List.length_cons,List.length_nil];omega
   ·have i:(r.endAll t).2.length+(r.endAll t).1.count+xN (r.endAll t).1.opn<=r.count+xN r.opn:=b
    omega
 ·exact lX
theorem Rs.long_tp (r:Rs)(t:Tb):(r.long t).1.tp=r.tp:=by
 unfold Rs.long;split
 ·rfl
 ·exact(r.cut.tok_same t _ _ _ _).tp
theorem Rs.heldStep_tp (r:Rs)(t:Tb):(r.heldStep t).1.tp=r.tp:=by
 have a:((r.ate t).marked t).tp=r.tp:=by unfold Rs.marked;split <;> rfl
 unfold Rs.heldStep Rs.judged;split
 ·exact a
 ·rw[Rs.long_tp];exact a
theorem Rs.heldN_tp (r:Rs)(t:Tb)(n:Nat):(r.heldN t n).1.tp=r.tp:=by
 induction n with
 |zero=>rfl
 |succ n a=>
  rw[Rs.heldN];split
  ·show((r.heldN t n).1.heldStep t).1.tp=r.tp
   rw[Rs.heldStep_tp,a]
  ·exact a
theorem Rs.eat_tp (r:Rs)(t:Tb)(c:Nat):(r.eat t c).1.tp=r.tp:=by
 unfold Rs.eat
 split
 ·unfold Rs.take Rs.due
  split
  ·exact((((r.added c).looked t (t.kind c)).took t).fin_same t).tp
  ·rfl
 ·unfold Rs.takeO
  split
  ·rfl
  ·exact(r.added c).heldN_tp t _
theorem Rs.feed_tp (t:Tb)(cs:List Nat)(r:Rs):(Rs.feed t cs r).1.tp=r.tp:=by
 induction cs generalizing r with
 |nil=>rfl
 |cons c cs a=>
  rw[Rs.feed];split
  ·show(Rs.feed t cs (r.eat t c).1).1.tp=r.tp
   rw[a,Rs.eat_tp]
  ·rfl
theorem Keep.less {H b d c:Nat}{w w':World}(a:Keep H b w w')(e:d<=H)(f:d<=b):Keep d c w w':=⟨a.os,a.output,a.size,λk g _=>a.block k (by omega) (by omega)⟩
theorem Keep.grownEnd {a c:Nat}{w w':World}{row:Option Nat}(b:w.grownBy w' row)(d:a<=w.heap.size)(e:∀k,row=some k->a<=k):Keep a c w w':=Keep.grown b d e
theorem zFX (x p:Nat)(S:Nat->Prop)(t:Tb)(w:World)(s:ByteArray)(W:w.cell? ⟨x,0,none⟩=some (pX p))(A:TabAt w S p t)(B:∀k,S k->k<w.heap.size)(d:t.Fine)(ay:s.size<=1048576):
  Calls prog 27 #[pX x,string s] w λe w'=>∃v,e=returned v/\w'.ownsRow w.heap.size 51 6 v (t.events p s).length (xI (t.events p s))/\Grew w w':=by
 have X:=vl <| zGk x p S t w W A B d;have i:Hid (TabAt w S p t/\∀k,S k->k<w.heap.size):=⟨A,B⟩
 have q:Hid ((Rs.feed t (nats s) (Rs.born t p)).1.Good t (0+(nats s).length)/\(Rs.feed t (nats s) (Rs.born t p)).2.length+(Rs.feed t (nats s) (Rs.born t p)).1.count<=1+s.size):=by
  obtain⟨C,D,_⟩:=Rs.feed_inv t d.ok (nats s) (Rs.born t p) 0 (Rs.born_good t p d) (zLZ s);rw[zBv] at D;have az:(Rs.born t p).count=0:=rfl;have aA:xN (Rs.born t p).opn=1:=rfl;exact⟨C,by omega⟩
 go_in;go_wp2_with fail;refine X.mono ?_;rintro e w1 ⟨b,rfl,Y,aa,ab,E⟩;have F:Hid (Cv w1.heap.size b S t w1 (Rs.born t p) (slice none 0 0) []):=by
  refine⟨ab,ownsRow_nil _ _ _ _,i.1.keep λk a=>?_,aa,lQ,λk a=>?_⟩
  ·have:=i.2 k a
   exact E.block k this (by omega)
  ·have:=i.2 k a
   omega
 have ac:=vl E;have aB:=Y;go_wp2_with fail;refine(zFY b w1.heap.size S t w1 (Rs.born t p) s 0 F d (Rs.born_good t p d) (by omega)).mono ?_;rintro e w2 ⟨v1,rfl,ad,ae,r⟩;have G:Hid (Cv w2.heap.size b S t w2 (Rs.feed t (nats s) (Rs.born t p)).1 (slice none 0 0) []):=by
  have aC:=r.size;refine⟨ad,ownsRow_nil _ _ _ _,?_,by omega,lQ,λk a=>?_⟩
  ·have af:=Rs.feed_tp t (nats s) (Rs.born t p)
   rw[af];refine F.tab.keep λk a=>?_;have:=i.2 k a;exact r.block k (by omega) (by omega)
  ·have:=i.2 k a
   omega
 have H:=vl <| ac.trans (r.less (by omega) (by omega));have I:=vl ae;go_wp2_with fail;refine(zFk b w2.heap.size S t w2 _ _ G d q.1 (by rw[zBv];omega)).mono ?_;rintro e f ⟨v2,rfl,ag,J,y⟩;have z:Hid (Grew w f):=H.trans (y.less H.size (by omega));have m:Hid (f.ownsRow w.heap.size 51 6 v1 (Rs.feed t (nats s) (Rs.born t p)).2.length (xI (Rs.feed t (nats s) (Rs.born t p)).2)):=by
  have K:=I.out;refine⟨K.1,K.2.imp id ?_⟩;rintro⟨g,cap,L,ah,aD,M,ai⟩;have aj:=(kQ.1 M).1;exact⟨g,cap,L,ah,by omega,(y.block g aj (by omega)).trans M,ai⟩
 have aE:(Rs.feed t (nats s) (Rs.born t p)).2.length+((Rs.feed t (nats s) (Rs.born t p)).1.shut t).2.length<=2+s.size:=by
  have C:=Rs.shut_len _ t _ d.ok q.1;have D:=q.2;omega
 have l:Hid (f.ownsRow w2.heap.size 51 6 v2 ((Rs.feed t (nats s) (Rs.born t p)).1.shut t).2.length (xI ((Rs.feed t (nats s) (Rs.born t p)).1.shut t).2)):=J;have N:Hid (t.events p s=(Rs.feed t (nats s) (Rs.born t p)).2++((Rs.feed t (nats s) (Rs.born t p)).1.shut t).2):=rfl;have O:w.heap.size<=f.heap.size:=z.size;clear ag J y G I;generalize (Rs.feed t (nats s) (Rs.born t p)).2=aF at *;generalize ((Rs.feed t (nats s) (Rs.born t p)).1.shut t).2=c at *;obtain⟨P,Q,ak,al,am⟩:=info_parts zOh;rcases l.out.2 with⟨o,R⟩|⟨g,cap,L,o,_,an,_,_,_,ao⟩
 ·have ap:Hid (c=[]):=List.length_eq_zero_iff.1 R
  subst o;clear R l;go_wp2_with (first|(at_builtin;refine wpList_append_own_none rfl _ _ 48 rfl w.heap.size 51 P 6 underlying48 Q _ _ _ rfl m rfl ?_))
  go_ret;refine⟨v1,rfl,?_,z⟩;rw[N.out,ap.out,gG];exact m
 ·have aq:(xI c).length=c.length*6:=zFq c
  have T:∀j u,(xI c)[j]? =some u->f.cell? ((⟨g,0,none⟩:Addr).add j)=some u:=by
   rw[o] at l;exact l.cells rfl
  have ar:Hid (∀j u,(xI c)[j]? =some u->f.cell? ((⟨g,0,none⟩:Addr).add j)=some u):=T;subst o;clear T l an ao;go_wp2_with (first|(at_builtin;refine wpList_append_own _ rfl _ _ 48 rfl w.heap.size 51 P _ 6 48 underlying48 Q ak al am rfl (by decide) _ _ _ rfl m ⟨g,0,none⟩ c.length cap (xI c) rfl aq ar (zIw c) (by unfold maxLen;omega) (by omega) O ?_;intro au aG U V av))
  have aw:Hid _:=U;have ax:Hid _:=V;clear U V av;go_wp2_with fail;go_ret;refine⟨au,rfl,?_,z.trans (Keep.grownEnd ax O λk a=>(m.lt k a).1)⟩;rw[N.out,kX,zFr];exact aw
theorem zCD (x p:Nat)(S:Nat->Prop)(t:Tb)(w:World)(i:w.cell? ⟨x,0,none⟩=some (pX p))(b:TabAt w S p t)(c:∀k,S k->k<w.heap.size)(a:t.Fine):
  Calls prog 36 #[pX x] w λe w'=>(∃r:ByteArray,e=returned (string r)/\r.data.toList=sealed t.bytesL)/\Grew w w':=by
 have h:Hid (Ca 51 #[pX p] w λe w'=>(∃r:ByteArray,e=returned (string r)/\r.data.toList=sealed t.bytesL)/\Grew w w'):=zHM p S t w b c a.ok a.nst a.count a.long1 a.long2 a.rule1 a.rule2 a.mode2 a.act;clear b c;go_enter func36,ntmps36
 go_wp2_with fail;refine h.mono ?_;rintro e w2 ⟨⟨r,rfl,d⟩,f⟩;have g:Hid (r.data.toList=sealed t.bytesL/\Grew w w2):=⟨d,f⟩
 clear d f;go_wp2_with fail;go_ret;exact⟨⟨r,rfl,g.1⟩,g.2⟩
theorem zGh (s:ByteArray)(w:World)(y:s.size<=1048576):
  Calls prog 37 #[string s] w λe w'=>Grew w w'/\
   (zAl s=false->e=returned (tuple #[pointer none,iX 7]))/\
   (zAl s=true->∃x p n S,e=returned (tuple #[pX x,iX 0])/\w.heap.size<=x/\LexAt w' S x p (zE1 s n)/\(∀k,S k->w.heap.size<=k)/\(((zAy s).first.itr n).spreadTo (zG s)).2=false):=by
 have o:Hid (Ca 52 #[string s] w λe w'=>Grew w w'/\
   (zAl s=false->e=returned (tuple #[pointer none,bool false]))/\
   (zAl s=true->∃b H c n,e=returned (tuple #[pX b,bool true])/\w.heap.size<=b/\b<H/\Mem w' H b c ((zAy s).first.itr n)/\(((zAy s).first.itr n).spreadTo (zG s)).2=false)):=zI0 s w y
 cases i:zAl s with
 |false=>
  have j:Hid (zAl s=false):=i;clear i;go_enter func37,ntmps37
  go_wp2_with fail;refine o.mono ?_;rintro e w2 ⟨a,q,_⟩;have l:=q j;subst l;have z:Hid (Grew w w2):=a;clear a q;go_wp2_with fail;go_ret2
  exact⟨z,λ_=>rfl,λg=>by cases g⟩
 |true=>
  have j:Hid (zAl s=true):=i;clear i;go_enter func37,ntmps37
  go_wp2_with fail;refine o.mono ?_;rintro e w2 ⟨a,_,r⟩;obtain⟨b,H,c,n,l,A,t,m,u⟩:=r j;have B:=vl u;subst l;have f:=zKI s n j;have d:Hid (TabAt w2 (Mem.blocks w2 H b) b (zE1 s n)/\Grew w w2/\H<=w2.heap.size/\b<H/\w.heap.size<=b):=⟨Mem.tabAt m f.ok.nmode f.rule1 f.nst f.count f.long1,a,m.HH,t,A⟩
  clear a r m f t u;go_wp2_with fail;go_ret2
  refine⟨d.2.1.trans (kZ _ _ d.2.1.size),λg=>by(cases g),λ_=>⟨w2.heap.size,b,n,Mem.blocks w2 H b,rfl,d.2.1.size,⟨?_,by simp,d.1.keep λk a=>lG _ _ _ ?_,λk a=>?_⟩,λk a=>?_,B⟩⟩
  ·have g:=gX w2 (.cells #[pX b] 93)
   unfold cell?;rw[g];rfl
  ·have C:=d.2.2.1
   have v:=d.2.2.2;rcases a with rfl|a <;> omega
  ·have C:=d.2.2.1
   have v:=d.2.2.2;simp;rcases a with rfl|a <;> omega
  ·have v:=d.2.2.2
   rcases a with rfl|a <;> omega
def zGJ:ByteArray:=⟨#[109,111,100,101,32,109,10,97,32,46,32,97,10,98,32,45,32,98,10]⟩
def jI:List Sm×Sh:=(zAZ zGJ).getD ([],Sh.none)
theorem zPp:(zAZ zGJ).isSome=true:=by kernel_rfl
theorem zNf:zLQ jI false=true:=by kernel_rfl
theorem zOu:(((zS jI.1 (ints jI.2.acts) (jI.2.pushesTo jI.2.pushed.length) 64).first.itr 2).spreadTo (zN jI.1 jI.1.length)).2=false:=by kernel_rfl
theorem zNg (p:Nat):(jH jI.1 (ints jI.2.acts) (jI.2.pushesTo jI.2.pushed.length) 64 2 false).events p ⟨#[97,98,97]⟩=[⟨1,0,0,1,1,1⟩,⟨1,0,2,3,1,3⟩,⟨2,0,3,3,1,4⟩]:=by kernel_rfl
theorem zNA:zAZ zGJ=some jI:=by
 have:=zPp;unfold jI;cases a:zAZ zGJ with
 |none=>rw[a] at this;cases this
 |some y=>rfl
theorem zOv:xI [⟨1,0,0,1,1,1⟩,⟨1,0,2,3,1,3⟩,⟨2,0,3,3,1,4⟩]=[iX 1,iX 0,iX 0,iX 1,iX 1,iX 1,iX 1,iX 0,iX 2,iX 3,iX 1,iX 3,iX 2,iX 0,iX 3,iX 3,iX 1,iX 4]:=rfl
theorem zKo (w:World):Calls prog 28 #[] w λe w'=>e=returned (bool true)/\Grew w w':=by
 have m:Hid (Ca 16 #[string ⟨#[109,111,100,101,32,109,10,97,32,46,32,97,10,98,32,45,32,98,10]⟩,iX 64,bool false] w λe w1=>Grew w w1/\∃c m0 m1 m2 s0 s1 s2 v0 v1 v2 AH LN,e=returned (tuple #[pX c,agg #[slice m0 m1 m2,slice s0 s1 s2,slice v0 v1 v2,iX AH,bool true,iX LN]])/\∀w2,Grew w1 w2->Ca 27 #[pX c,string ⟨#[97,98,97]⟩] w2 λe a=>∃g cap,e=returned (slice (qX g) 3 cap)/\Grew w2 a/\3<=cap/\a.cell? ⟨g,0,none⟩=some (iX 1)/\a.cell? ⟨g,1,none⟩=some (iX 0)/\a.cell? ⟨g,2,none⟩=some (iX 0)/\a.cell? ⟨g,3,none⟩=some (iX 1)/\a.cell? ⟨g,4,none⟩=some (iX 1)/\a.cell? ⟨g,5,none⟩=some (iX 1)/\a.cell? ⟨g,6,none⟩=some (iX 1)/\a.cell? ⟨g,7,none⟩=some (iX 0)/\a.cell? ⟨g,8,none⟩=some (iX 2)/\a.cell? ⟨g,9,none⟩=some (iX 3)/\a.cell? ⟨g,10,none⟩=some (iX 1)/\a.cell? ⟨g,11,none⟩=some (iX 3)/\a.cell? ⟨g,12,none⟩=some (iX 2)/\a.cell? ⟨g,13,none⟩=some (iX 0)/\a.cell? ⟨g,14,none⟩=some (iX 3)/\a.cell? ⟨g,15,none⟩=some (iX 3)/\a.cell? ⟨g,16,none⟩=some (iX 1)/\a.cell? ⟨g,17,none⟩=some (iX 4)):=by
  refine(zJJ w zGJ (by decide) 64 (by decide) (by decide) false).mono ?_;rintro e w1 ⟨u,x,m0,m1,m2,s0,s1,s2,v0,v1,v2,AH,ST,LN,rfl,h⟩;unfold OfQ at h;rw[zNA] at h;obtain⟨c,t,rfl,rfl,rfl,y⟩:=h;rw[zNf];refine⟨u,c,m0,m1,m2,s0,s1,s2,v0,v1,v2,_,LN,rfl,λw2 z=>?_⟩;have i:=y.grown z;obtain⟨n,A,B⟩:=i.made;obtain⟨S,p,j,I⟩:=i.at_;have C:t=jH jI.1 (ints jI.2.acts) (jI.2.pushesTo jI.2.pushed.length) 64 2 false:=A.trans (zOn _ _ _ _ _ _ _ B zOu);have D:t.events p ⟨#[97,98,97]⟩=[⟨1,0,0,1,1,1⟩,⟨1,0,2,3,1,3⟩,⟨2,0,3,3,1,4⟩]:=by rw[C];exact zNg p
  refine(zFX c p S t w2 ⟨#[97,98,97]⟩ j.cell j.tab j.safe i.fine (by decide)).mono ?_;rintro e a ⟨v,rfl,o,k⟩;rw[D,zOv] at o;obtain⟨g,cap,rfl,J,K,E,M,b,N⟩:=vD o (by decide);exact⟨g,cap,rfl,k,E,b 0 _ rfl,b 1 _ rfl,b 2 _ rfl,b 3 _ rfl,b 4 _ rfl,b 5 _ rfl,b 6 _ rfl,b 7 _ rfl,b 8 _ rfl,b 9 _ rfl,b 10 _ rfl,b 11 _ rfl,b 12 _ rfl,b 13 _ rfl,b 14 _ rfl,b 15 _ rfl,b 16 _ rfl,b 17 _ rfl⟩
 go_in;apply wp_cut;intro F d;go_wp2;apply d.out;clear d;apply wp_cut;intro F d;go_wp2_with (first|(go_at_call 16;refine m.mono ?_;rintro e w1 ⟨l,c,m0,m1,m2,s0,s1,s2,v0,v1,v2,AH,LN,rfl,q⟩))
 obtain⟨w2,r,O,f⟩:∃w2,w2=w1.alloc (.cells #[slice m0 m1 m2,slice s0 s1 s2,slice v0 v1 v2,iX AH,bool true,iX LN] 30)/\w2.cell? ⟨w1.heap.size,4,none⟩=some (bool true)/\Hid (Grew w w2/\Grew w1 w2):=by
  have G:=gX w1 (.cells #[slice m0 m1 m2,slice s0 s1 s2,slice v0 v1 v2,iX AH,bool true,iX LN] 30);have s:Grew w1 (w1.alloc (.cells #[slice m0 m1 m2,slice s0 s1 s2,slice v0 v1 v2,iX AH,bool true,iX LN] 30)):=kZ _ _ lQ;refine⟨_,rfl,?_,l.trans (s.lower l.size l.size),s⟩;unfold cell?;rw[G];rfl
 rw[<-r];apply d.out;clear d r m;have H:=vl <| q w2 f.2;clear q;go_wp2_with (first|(go_at_call 27;refine H.mono ?_;rintro e a ⟨g,cap,rfl,k,P,c0,c1,c2,Q,R,T,U,V,W,X,Y,aa,ab,ac,ad,ae,af,ag⟩))
 refine gV (results_tmp rfl _ _ _) rfl ?_;exact⟨rfl,f.1.trans (k.lower f.1.size f.1.size)⟩
theorem zKh (w:World)(s t:ByteArray)(a:65536<s.size\/65536<t.size):Calls prog 14 #[string s,string t] w λe w'=>e=returned (tuple #[bool false,bool true])/\Grew w w':=by
 by_cases b:65536<s.size
 ·go_in
  go_wp2;refine gV (results_tmp2 rfl _ _ _) rfl ?_;exact⟨rfl,Keep.refl _ _ _⟩
 ·have c:65536<t.size:=by omega
  have d:s.size<=65536:=by omega
  go_in;go_wp2;refine gV (results_tmp2 rfl _ _ _) rfl ?_;exact⟨rfl,Keep.refl _ _ _⟩
theorem zKi (w:World)(s t:ByteArray)(h:s.size<=65536)(i:t.size<=65536):Calls prog 14 #[string s,string t] w λe w'=>e=returned (tuple #[bool (zAZ s).isSome,bool true])/\Grew w w':=by
 have b:=vl <| zKo w;have c:Hid (∀w2,Ca 29 #[string s] w2 λe w'=>e=returned (tuple #[bool (zAZ s).isNone,bool true])/\Grew w2 w'):=λw2=>zK4 w2 s (by omega);have d:(!(zAZ s).isNone)=(zAZ s).isSome:=by cases zAZ s <;> rfl
 generalize (zAZ s).isNone=f at *;generalize (zAZ s).isSome=j at *;subst d;go_in;cases f
 all_goals
  go_wp2_with (first|(go_at_call 28;refine b.mono ?_;rintro e w1 ⟨rfl,a⟩)|(go_at_call 29;refine(c _).mono ?_;rintro e w2 ⟨rfl,g⟩))
  refine gV (results_tmp2 rfl _ _ _) rfl ?_;exact⟨rfl,a.trans (g.lower a.size a.size)⟩
theorem zNv (w:World)(s a:ByteArray):(Calls prog 14 #[string s,string a] w λe w'=>e=returned (tuple #[bool false,bool true])/\Grew w w')\/∃y,zAZ s=some y/\s.size<=65536/\a.size<=65536/\Calls prog 14 #[string s,string a] w λe w'=>e=returned (tuple #[bool true,bool true])/\Grew w w':=by
 by_cases f:65536<s.size\/65536<a.size
 ·exact .inl (zKh w s a f)
 have b:=zKi w s a (by omega) (by omega);cases c:zAZ s with
 |none=>rw[c] at b;exact .inl b
 |some y=>rw[c] at b;exact .inr ⟨y,rfl,by omega,by omega,b⟩
def EvsAt (w:World)(v:Value)(es:List Ev):Prop:=∃ao cap,v=slice ao es.length cap/\es.length<=cap/\cap<=maxLen/\∀i,i<es.length->∃g,ao=some ⟨g,0,none⟩/\g<w.heap.size/\∀j u,(es.getD i ⟨0,0,0,0,0,0⟩).cells[j]? =some u->w.cell? ⟨g,i*6+j,none⟩=some u
theorem zOs (a:List Ev):∀(i j:Nat) (u:Value),i<a.length->(a.getD i ⟨0,0,0,0,0,0⟩).cells[j]? =some u->(xI a)[i*6+j]? =some u:=by
 induction a with
 |nil=>intro i j u b;exact absurd b (Nat.not_lt_zero _)
 |cons e a g=>
  intro i j u b c;have h:(xI (e::a))=e.cells++xI a:=by simp[xI]
  have d:e.cells.length=6:=rfl;rw[h];cases i with
  |zero=>
   have f:=c;have k:j<6:=by rw[<-d];exact(List.getElem?_eq_some_iff.1 f).1
   rw[Nat.zero_mul,Nat.zero_add,kW (by omega)];exact f
  |succ i=>
   rw[hZ (by omega),d,show(i+1)*6+j-6=i*6+j by omega];exact g i j u (by simpa using b) c
theorem zO3 {w:World}{H:Nat}{v:Value}{a:List Ev}(b:w.ownsRow H 51 6 v a.length (xI a)):EvsAt w v a:=by
 obtain⟨ao,cap,rfl,c,d⟩:=zD3 b;refine⟨ao,cap,rfl,c,d,λi e=>?_⟩;obtain⟨g,p,f,q,k,r,s,l,t⟩:=vD b (by omega);injection f with m x y;exact⟨g,m,k,λj u o=>l _ u (zOs a i j u e o)⟩
theorem EvsAt.grown {w w':World}{v:Value}{a:List Ev}(d:EvsAt w v a)(b:Grew w w'):EvsAt w' v a:=by
 obtain⟨ao,cap,rfl,e,f,k⟩:=d;refine⟨ao,cap,rfl,e,f,λi l=>?_⟩;obtain⟨g,m,c,o⟩:=k i l;exact⟨g,m,lZ c b.size,λj u p=>zA (o j u p) c b⟩
theorem zKQ (w:World)(k l:Value)(f:List Ev)(x:EvsAt w k f)(y:EvsAt w l f):
  Calls prog 32 #[k,l] w λe w'=>e=returned (bool true)/\∃m,w'=w.drewN m:=by
 obtain⟨H,I,rfl,J,z,A⟩:=x;obtain⟨K,L,rfl,-,-,B⟩:=y;have M:f.length<=9223372036854775807:=by unfold maxLen at z;omega
 have C:=vl A;have D:=vl B;generalize N:f.length=n at *;go_in;go_wp2;go_loopg [5] n (λq i wr=>∃j:Nat,q=n-j/\j<=n/\i=iX (j:Int)/\∃m,wr=w.drewN m)
 case atStart=>exact⟨0,rfl,lX,rfl,0,rfl⟩
 case round=>
  obtain⟨j,E,O,rfl,g⟩:=hrel;have h:Hid (gk=n-j/\∃m,wr=w.drewN m):=⟨E,g⟩
  have a:Grew w wr:=by obtain⟨m,rfl⟩:=g;exact Keep.alike ⟨rfl,rfl,rfl⟩
  clear g;by_cases o:j<n
  ·have F:(j:Int)<(n:Int):=by omega
   obtain⟨b,rfl,c,c1⟩:=C j o;obtain⟨b2,rfl,d,c2⟩:=D j o;generalize f.getD j ⟨0,0,0,0,0,0⟩=G at *;obtain⟨p,r,s,t,u,v⟩:=G;have P:cX wr b (j*6)=some (iX p):=zA (c1 0 _ rfl) c a;have Q:cX wr b (j*6+1)=some (iX r):=zA (c1 1 _ rfl) c a;have R:cX wr b (j*6+2)=some (iX s):=zA (c1 2 _ rfl) c a;have y3:cX wr b (j*6+3)=some (iX t):=zA (c1 3 _ rfl) c a;have S:cX wr b (j*6+4)=some (iX u):=zA (c1 4 _ rfl) c a;have y5:cX wr b (j*6+5)=some (iX v):=zA (c1 5 _ rfl) c a;have T:cX wr b2 (j*6)=some (iX p):=zA (c2 0 _ rfl) d a;have U:cX wr b2 (j*6+1)=some (iX r):=zA (c2 1 _ rfl) d a;have V:cX wr b2 (j*6+2)=some (iX s):=zA (c2 2 _ rfl) d a;have W:cX wr b2 (j*6+3)=some (iX t):=zA (c2 3 _ rfl) d a;have X:cX wr b2 (j*6+4)=some (iX u):=zA (c2 4 _ rfl) d a;have Y:cX wr b2 (j*6+5)=some (iX v):=zA (c2 5 _ rfl) d a;go_wp2;go_quiet (fail);go_wp2;go_roundg (n-(j+1))
   case measure=>rw[h.out.1];omega
   case rel=>exact⟨j+1,rfl,by omega,by go_num,by obtain⟨m,rfl⟩:=h.2;exact⟨m+nq,by simp[World.drewN,Nat.add_assoc]⟩⟩
  ·have F:¬((j:Int)<(n:Int)):=by omega
   go_wp2;refine gV (results_tmp rfl _ _ _) rfl ?_;exact⟨rfl,h.2⟩
theorem zKR (w:World)(a b:Value)(c:List Ev)(d:EvsAt w a c)(f:EvsAt w b c):
  Calls prog 32 #[a,b] w λe w'=>e=returned (bool true)/\Grew w w':=
 (zKQ w a b c d f).mono (by rintro e w' ⟨rfl,m,rfl⟩;exact⟨rfl,Keep.alike ⟨rfl,rfl,rfl⟩⟩)
theorem zJj {w:World}{S:Nat->Prop}{a p:Nat}{t:Tb}(b:LexAt w S a p t)(c:t.Fine)(s:ByteArray)(d:s.size<=1048576):Calls prog 27 #[pX a,string s] w λe w'=>∃v,e=returned v/\EvsAt w' v (t.events p s)/\Grew w w':=by
 refine(zFX a p S t w s b.cell b.tab b.safe c d).mono ?_;rintro e w' ⟨v,rfl,f,g⟩;exact⟨v,rfl,zO3 f,g⟩
section
open Go.ChangeShapes Go.WideShapes Go.ChangeAt Go.RowKit
open Go.ChangeMaps (open_string shut_string)
theorem own:ownKnob prog.godebug=none:=by kernel_rfl
theorem Keep.frame {a w':World}(b:Grew a w')(c:MemPlace->Prop):a.keptBut w' c:=by
 refine⟨b.os,b.output,λi d=>?_⟩;rw[b.block i d (by omega)];split <;> simp_all
theorem zKV {H:Type}{enc:TypeId×Value->H}{P:Program}{f:Func}{s:ChangeSpec}{h m o q:Bool}{g a:World}{args:Array Value}{v:Value}{c d:List (DataW H)}
  (u:DataW.Whole enc P f.params.toList s.vars h g args.toList c d [])
  (i:∀(b:Nat) (sp:Nat->Bool) (w:Bool),DataW.TrodAll enc P a b sp w f.resultTypes.toList (v.resultList f.resultTypes.size) (s.fn H (c++d)).results [])
  (k:∀sp:Nat->Bool,DataW.TrodAll enc P a 0 sp true f.params.toList args.toList (s.fn H (c++d)).args [])
  (l:∀sp:Nat->Bool,DataW.TrodVars enc P a sp s.vars (s.fn H (c++d)).vars [])
  (x:g.keptBut a λ_=>False)
  (y:∀(j:Nat) (t:TypeId) (r:Value),f.resultTypes[j]? =some t->(v.resultList f.resultTypes.size)[j]? =some r->Value.okWide P a .any 0 t r):
  s.post enc P f h m o q g args v a:=by
 refine⟨c,d,[],[],[],[],u,i _ _ _,k _,l _,World.keptBut_mono (λp e=>e.elim) x,λ_=>⟨y,_,_,[],⟨[],[],trodAll_append (k _) (i _ _ _),l _,rfl,?_,?_⟩,?_⟩⟩
 ·intro b off e
  simp at e
 ·intro _
  simp
 ·intro p e
  simp at e
theorem zFv {H:Type}{enc:TypeId×Value->H}{P:Program}{w:World}{a:Nat}{sp:Nat->Bool}{b:Bool}{t:TypeId}{c:List TypeId}{v:Value}{e:List Value}{f:DataW H}{g:List (DataW H)}{p q:List MemPlace}(i:DataW.Trod enc P w a sp b t v f p)(j:DataW.TrodAll enc P w a sp b c e g q):DataW.TrodAll enc P w a sp b (t::c) (v::e) (f::g) (p++q):=⟨p,q,i,j,rfl⟩
theorem zP2 {n:Int}(a:(Lit.int .i64 n).wf=true):-9223372036854775808<=n/\n<=9223372036854775807:=by
 simp[Lit.wf,IntKind.min,IntKind.max,IntKind.signed,IntKind.bits] at a;omega
end
end Go.Proofs.YtbjcfkdnjaiclaaGreat
