import Derived.Laws.AppendOwnNone
import Derived.ProofKit
import Derived.Test.YtbjcfkdnjaiclaaGreatRows
import Derived.Test.YtbjcfkdnjaiclaaGreatK0
import Derived.Test.YtbjcfkdnjaiclaaGreatK2
import Derived.Test.YtbjcfkdnjaiclaaGreatK4
import Derived.Test.YtbjcfkdnjaiclaaGreatK22
import Derived.Test.YtbjcfkdnjaiclaaGreatK28
/- Parts of the proof. -/
set_option linter.unusedVariables false
set_option linter.unusedSimpArgs false
set_option maxHeartbeats 4000000
set_option maxRecDepth 100000
namespace Go.Proofs.YtbjcfkdnjaiclaaGreat
open Go.RowKit Go.Proofs.Tryz Go.World
open Go.Value (int slice bool pointer string agg tuple)
open Go.IntKind (i64)
open Go.Ending (returned)
theorem zKY (s:ByteArray)(k:Nat)(a:k<s.size):(nats s).take (k+1)=(nats s).take k++[s[k].toNat]:=by
 unfold nats;rw[<-List.map_take,zKD s k a,List.map_append,List.map_take];rfl
theorem zLi (t:Tb)(s:ByteArray)(k:Nat)(r:Rs)(d:k<=s.size)(a:¬(k<s.size/\(Rs.feed t ((nats s).take k) r).1.opn=true)):Rs.feed t ((nats s).take k) r=Rs.feed t (nats s) r:=by
 by_cases e:k<s.size
 ·have b:(Rs.feed t ((nats s).take k) r).1.opn=false:=by
   cases c:(Rs.feed t ((nats s).take k) r).1.opn with
   |false=>rfl
   |true=>exact absurd ⟨e,c⟩ a
  conv=>rhs;rw[<-List.take_append_drop k (nats s),Rs.feed_append,Rs.feed_shut t _ _ b,dX]
 ·rw[List.take_of_length_le (by rw[jD];omega)]
theorem zIb {w:World}{H e b n:Nat}{v:Value}{xs:List Value}(c:w.ownsRow H e b v n xs):∃ao cap,v=slice ao n cap:=by
 rcases c.2 with⟨a,d⟩|⟨g,cap,_,a,_⟩
 ·exact⟨none,0,by rw[a,d]⟩
 ·exact⟨_,cap,a⟩
theorem zIa {w w':World}{H b e a n:Nat}{v:Value}{xs:List Value}(c:w.ownsRow H e a v n xs)(f:∀H,Keep H b w w')(o:b<H):w'.ownsRow H e a v n xs:=by
 refine⟨c.1,c.2.imp id ?_⟩;rintro⟨g,cap,i,j,k,d,l⟩;have m:=(kQ.1 d).1;exact⟨g,cap,i,j,k,((f w.heap.size).block g m (by omega)).trans d,l⟩
theorem Rs.Good.str {r:Rs}{t:Tb}{P:Nat}(a:r.Good t P)(b:t.stream=true):r.Str t P:=by unfold Rs.Good at a;rw[if_pos b] at a;exact a
theorem Rs.Good.oth {r:Rs}{t:Tb}{P:Nat}(a:r.Good t P)(b:t.stream=false):r.Oth t P:=by unfold Rs.Good at a;rw[if_neg (by rw[b];decide)] at a;exact a
theorem zJL (b H:Nat)(S:Nat->Prop)(t:Tb)(w:World)(r:Rs){v0:Value}(d:List Ev)(P c:Nat)(g:Cv H b S t w r v0 d)(ok:t.Ok)(j:∀i,i<t.nrule->t.act i<4)(k:r.Good t P)(o:P<1073741824)(l:d.length<=4194304)(m:c<256)(f:t.stream=true):
  Calls prog 73 #[pX b,int .u8 c] w λe w'=>
   e=returned (tuple #[])/\∃v,Cv H b S t w' (r.eat t c).1 v (d++(r.eat t c).2)/\Keep H b w w':=by
 have a:=k.str f;have p:=a.pos;have q:=a.line;have s:=a.col;have u:=a.cnt;have x:=ok.ahead;have e:r.eat t c=r.take t c:=if_pos f;rw[e];exact zI0 b H S t w r d c g l ok j a.ok a.ahead (by omega) m (by omega) (by omega) (by omega)
theorem zJM (b H:Nat)(S:Nat->Prop)(t:Tb)(w:World)(r:Rs){v0:Value}(a:List Ev)(P C c:Nat)(f:Cv H b S t w r v0 a)(ok:t.Ok)(g:∀i,i<t.nrule->t.act i<4)(h:r.Good t P)(j:P<1073741824)(k:a.length+r.count+xC r.opn<=C)(l:C<4194304)(m:c<256)(d:t.stream=false):
  Calls prog 74 #[pX b,int .u8 c] w λe w'=>
   e=returned (tuple #[])/\∃v,Cv H b S t w' (r.eat t c).1 v (a++(r.eat t c).2)/\Keep H b w w':=by
 have e:r.eat t c=r.takeO t c:=if_neg (by rw[d];decide);rw[e];exact zHE b H S t w r a P C c f ok g (h.oth d) j k l m
theorem zFN (b H:Nat)(S:Nat->Prop)(t:Tb)(w:World)(a:Rs){v0:Value}(d:List Ev)(s:ByteArray)(P C:Nat)(f:Cv H b S t w a v0 d)(ok:t.Ok)(M:∀i,i<t.nrule->t.act i<4)(X:a.Good t P)(al:P+s.size<1073741824)(Y:d.length+a.count+xC a.opn<=C)(am:C+s.size<4194304):
  Calls prog 50 #[pX b,string s] w λe w'=>
   ∃v,e=returned v/\zM w' b (Rs.feed t (nats s) a).1 (slice none 0 0)/\w'.ownsRow H 51 6 v (d++(Rs.feed t (nats s) a).2).length (zZ (d++(Rs.feed t (nats s) a).2))/\Keep H b w w':=by
 have E:Hid (Cv H b S t w a v0 d/\a.Good t P/\d.length+a.count+xC a.opn<=C):=⟨f,X,Y⟩
 go_in;apply wp_cut;intro an aa;go_wp2;apply aa.out;apply wp_cut;intro ap z;go_wp2;go_loopg [5] s.size (λq i wr=>∃(k:Nat) (v:Value),q=s.size-k/\k<=s.size/\i=iX (k:Int)/\Cv H b S t wr (Rs.feed t ((nats s).take k) a).1 v (d++(Rs.feed t ((nats s).take k) a).2)/\Keep H b w wr)
 case atStart=>exact⟨0,v0,rfl,lX,rfl,by rw[List.take_zero];show Cv H b S t w a v0 (d++[]);rw[dX];exact E.1,Keep.refl _ _ _⟩
 case round=>
  obtain⟨k,v,ab,G,rfl,f,ac⟩:=hrel;have N:=vl <| zLi t s k a G;have A:Hid ((Rs.feed t ((nats s).take k) a).1.Good t (P+k)/\(d++(Rs.feed t ((nats s).take k) a).2).length+(Rs.feed t ((nats s).take k) a).1.count+xC (Rs.feed t ((nats s).take k) a).1.opn<=C+k):=by
   have B:=Rs.feed_inv t ok ((nats s).take k) a P E.2.1 (λc ad=>zC8 s c (List.mem_of_mem_take ad));have ae:((nats s).take k).length=k:=by rw[List.length_take,jD];omega
   rw[ae] at B;have aq:=E.2.2;refine⟨B.1,?_⟩;rw[kX];omega
  have O:Hid (∀m:k<s.size,(Rs.feed t ((nats s).take k) a).1.opn=true->Rs.feed t ((nats s).take (k+1)) a=(((Rs.feed t ((nats s).take k) a).1.eat t s[k].toNat).1,(Rs.feed t ((nats s).take k) a).2++((Rs.feed t ((nats s).take k) a).1.eat t s[k].toNat).2)):=by
   intro m af;rw[zKY s k m];exact Rs.feed_snoc t _ _ _ af
  generalize ag:Rs.feed t ((nats s).take k) a=ah at *;obtain⟨r,j⟩:=ah;have ar:=vl ag;have g:Hid (Cv H b S t wr r v (d++j)/\Keep H b w wr/\gk=s.size-k):=⟨f,ac,ab⟩
  have Q:=f.run.get_opn;have au:=f.run.get_tp;have R:=f.tab.c0;by_cases o:k<s.size/\r.opn=true
  ·obtain⟨m,p⟩:=o
   rw[p] at Q;have T:=vl <| O m p;have U:=s[k].toNat_lt;cases u:t.stream with
   |true=>
    have I:=vl u;rw[u] at R;go_wp2_with fail;refine(zJL b H S t wr r (d++j) (P+k) s[k].toNat g.1 ok M A.1 (by omega) (by have:=A.2;omega) U I).mono ?_;rintro e w1 ⟨rfl,v1,c1,D⟩;have l:Hid (Cv H b S t w1 (r.eat t s[k].toNat).1 v1 ((d++j)++(r.eat t s[k].toNat).2)/\Keep H b wr w1):=⟨c1,D⟩
    go_wp2;go_roundg (s.size-(k+1))
    case measure=>rw[g.out.2.2];omega
    case rel=>exact⟨k+1,v1,rfl,by omega,by go_num,by rw[T.out];rw[gX] at l;exact l.1,g.2.1.trans l.2⟩
   |false=>
    have I:=vl u;rw[u] at R;clear u;go_wp2_with fail;refine(zJM b H S t wr r (d++j) (P+k) (C+k) s[k].toNat g.1 ok M A.1 (by omega) A.2 (by omega) U I).mono ?_;rintro e w1 ⟨rfl,v1,c1,D⟩;have l:Hid (Cv H b S t w1 (r.eat t s[k].toNat).1 v1 ((d++j)++(r.eat t s[k].toNat).2)/\Keep H b wr w1):=⟨c1,D⟩
    clear c1 D;go_wp2_with fail;go_roundg (s.size-(k+1))
    case measure=>rw[g.out.2.2];omega
    case rel=>exact⟨k+1,v1,rfl,by omega,by go_num,by rw[T.out];rw[gX] at l;exact l.1,g.2.1.trans l.2⟩
  ·have ai:Hid (Rs.feed t (nats s) a=(r,j)):=(N o).symm
   obtain⟨ao,cap,V⟩:=zIb g.1.own;have aj:Hid (v=slice ao (d++j).length cap):=V;clear V O N;have fin:∀x,Cv H b S t x r v (d++j)->Keep H b w x->Calls prog 75 #[pX b] x λe w'=>
     ∃v,e=returned v/\zM w' b (Rs.feed t (nats s) a).1 (slice none 0 0)/\w'.ownsRow H 51 6 v (d++(Rs.feed t (nats s) a).2).length (zZ (d++(Rs.feed t (nats s) a).2))/\Keep H b w w':=by
    intro x f G;rw[aj.out] at f;refine(zDn b x r ao _ cap f.run).mono ?_;rintro e w2 ⟨rfl,ak,W⟩;rw[ai.out];exact⟨_,rfl,ak,zIa f.own W f.bH,G.trans (W H)⟩
   by_cases m:k<s.size
   ·have p:r.opn=false:=by
     cases B:r.opn with
     |false=>rfl
     |true=>exact absurd ⟨m,B⟩ o
    rw[p] at Q;have J:Hid (Ca 75 #[pX b] wr _):=fin wr g.1 g.2.1;clear p o fin;go_wp2_with fail;apply z.out;clear z;go_wp2_with fail;refine J.mono ?_;rintro e w2 ⟨v2,rfl,y⟩;have L:Hid _:=y;clear y;go_wp2_with fail;go_ret;exact⟨v2,rfl,L⟩
   ·have J:Hid (Ca 75 #[pX b] wr _):=fin wr g.1 g.2.1
    clear o fin;go_wp2_with fail;apply z.out;clear z;go_wp2_with fail;refine J.mono ?_;rintro e w2 ⟨v2,rfl,y⟩;have L:Hid _:=y;clear y;go_wp2_with fail;go_ret;exact⟨v2,rfl,L⟩
theorem zHP (b H:Nat)(S:Nat->Prop)(t:Tb)(w:World)(r:Rs){v0:Value}(c:List Ev)(P:Nat)(f:Cv H b S t w r v0 c)(ok:t.Ok)(g:∀i,i<t.nrule->t.act i<4)(j:r.Good t P)(m:P<1073741824)(k:c.length+r.count<4194304)(d:t.stream=true)(l:r.opn=true):
  Calls prog 84 #[pX b] w λe w'=>
   e=returned (tuple #[])/\∃v,Cv H b S t w' (r.shut t).1 v (c++(r.shut t).2)/\Keep H b w w':=by
 have a:=j.str d;have o:=a.pos;have p:=a.line;have q:=a.col;have s:=a.cnt;have u:=ok.ahead;have e:r.shut t=r.closed t:=by unfold Rs.shut;rw[if_pos l,if_pos d]
 rw[e];exact zDk b H S t w r c f k ok g ⟨a.ok,a.ahead,by omega,by omega,by omega⟩
theorem zHQ (b H:Nat)(S:Nat->Prop)(t:Tb)(w:World)(r:Rs){v0:Value}(a:List Ev)(P:Nat)(d:Cv H b S t w r v0 a)(ok:t.Ok)(f:∀i,i<t.nrule->t.act i<4)(g:r.Good t P)(j:P<1073741824)(k:a.length+r.count<4194304)(c:t.stream=false)(h:r.opn=true):
  Calls prog 85 #[pX b] w λe w'=>
   e=returned (tuple #[])/\∃v,Cv H b S t w' (r.shut t).1 v (a++(r.shut t).2)/\Keep H b w w':=by
 have e:r.shut t=r.closeO t:=by unfold Rs.shut;rw[if_pos h,if_neg (by rw[c];decide)]
 rw[e];have l:xC r.opn<=1:=by unfold xC;split <;> omega
 exact zHm b H S t w r a P 4194304 d ok f (g.oth c) (by omega) (by omega) (by omega)
theorem zES (b H:Nat)(S:Nat->Prop)(t:Tb)(w:World)(r:Rs)(P:Nat)(a:Cv H b S t w r (slice none 0 0) [])(ok:t.Ok)(u:∀i,i<t.nrule->t.act i<4)(g:r.Good t P)(x:P<1073741824):
  Calls prog 55 #[pX b] w λe w'=>
   ∃v,e=returned v/\zM w' b (r.shut t).1 (slice none 0 0)/\w'.ownsRow H 51 6 v (r.shut t).2.length (zZ (r.shut t).2)/\Keep H b w w':=by
 have p:=vl a;have y:=a.run.get_opn;have E:=a.run.get_tp;have z:=a.tab.c0;have F:=g.ok.count;have fin:∀c v,Cv H b S t c (r.shut t).1 v ([]++(r.shut t).2)->Keep H b w c->Calls prog 75 #[pX b] c λe w'=>
   ∃v,e=returned v/\zM w' b (r.shut t).1 (slice none 0 0)/\w'.ownsRow H 51 6 v (r.shut t).2.length (zZ (r.shut t).2)/\Keep H b w w':=by
  intro c v a B;obtain⟨ao,cap,C⟩:=zIb a.own;rw[C] at a;refine(zDn b c _ ao _ cap a.run).mono ?_;rintro e w2 ⟨rfl,D,A⟩;exact⟨_,rfl,D,zIa a.own A a.bH,B.trans (A H)⟩
 cases h:r.opn with
 |false=>
  have j:Hid (r.shut t=(r,[])):=by show _=_;unfold Rs.shut;rw[if_neg (by rw[h];decide)]
  rw[h] at y;go_in;go_wp2;go_ret;refine⟨_,rfl,?_⟩;rw[j.out];exact⟨p.run,ownsRow_nil _ _ _ _,Keep.refl _ _ _⟩
 |true=>
  have j:=vl h;rw[h] at y;cases d:t.stream with
  |true=>
   have k:=vl <| zHP b H S t w r [] P p ok u g x (by show 0+r.count<4194304;omega) d j;have l:=vl fin;rw[d] at z;go_in;go_wp2_with fail;refine k.mono ?_;rintro e w1 ⟨rfl,v1,c1,m⟩;have o:=l w1 v1 c1 m;have q:=vl o;go_wp2_with fail;refine q.mono ?_;rintro e w2 ⟨v2,rfl,f⟩;have s:Hid _:=f;clear f;go_wp2_with fail;go_ret;exact⟨v2,rfl,s⟩
  |false=>
   have k:Hid (Ca 85 #[pX b] w _):=zHQ b H S t w r [] P p ok u g x (by show 0+r.count<4194304;omega) d j;have l:Hid (∀c v,Cv H b S t c (r.shut t).1 v ([]++(r.shut t).2)->Keep H b w c->_):=fin;rw[d] at z;clear d fin g;go_enter func55,ntmps55
   go_wp2_with fail;refine k.mono ?_;rintro e w1 ⟨rfl,v1,c1,m⟩;have o:=l w1 v1 c1 m;have q:Hid (Ca 75 #[pX b] w1 _):=o;clear o c1 m l k;go_wp2_with fail;refine q.mono ?_;rintro e w2 ⟨v2,rfl,f⟩;have s:Hid _:=f;clear f;go_wp2_with fail;go_ret;exact⟨v2,rfl,s⟩
def Rs.born (t:Tb)(p:Nat):Rs:={Rs.zero p with stack:=λ_=>0,depth:=1,state:=t.start 0}
theorem Rs.born_good (t:Tb)(p:Nat)(a:t.Fine):(Rs.born t p).Good t 0:=by
 have ok:(Rs.born t p).Ok t:=⟨lQ,by show(1:Nat)<=4;decide,λ_ _=>a.ok.nmode,a.ok.start 0 a.ok.nmode,by show(0:Nat)<64;decide,lX,λ_ _=>by show(0:Nat)<256;decide⟩
 unfold Rs.Good;split
 ·exact⟨ok,a.ok.rows0,lX,lQ,lQ,lQ⟩
 ·exact⟨ok,lQ,lQ,.inl rfl,lQ,lQ,lQ,lQ⟩
theorem zER (b H:Nat)(S:Nat->Prop)(t:Tb)(w:World)(a:Rs)(s:ByteArray)(P:Nat)(f:Cv H b S t w a (slice none 0 0) [])(c:t.Fine)(d:a.Good t P)(j:P+s.size<4194000):
  Calls prog 35 #[pX b,string s] w λe w'=>
   ∃v,e=returned v/\zM w' b (Rs.feed t (nats s) a).1 (slice none 0 0)/\w'.ownsRow H 51 6 v (Rs.feed t (nats s) a).2.length (zZ (Rs.feed t (nats s) a).2)/\Keep H b w w':=by
 have g:Hid (Ca 50 #[pX b,string s] w λe w'=>∃v,e=returned v/\zM w' b (Rs.feed t (nats s) a).1 (slice none 0 0)/\w'.ownsRow H 51 6 v (Rs.feed t (nats s) a).2.length (zZ (Rs.feed t (nats s) a).2)/\Keep H b w w'):=by
  have k:=d.cnt;have l:xC a.opn<=1:=by unfold xC;split <;> omega
  exact zFN b H S t w a [] s P (P+1) f c.ok c.act d (by omega) (by show 0+a.count+xC a.opn<=P+1;omega) (by omega)
 go_in;go_wp2_with fail;refine g.mono ?_;rintro e w2 ⟨v2,rfl,h⟩;have i:Hid _:=h;go_wp2;go_ret;exact⟨v2,rfl,i⟩
theorem zEg (b H:Nat)(S:Nat->Prop)(t:Tb)(w:World)(r:Rs)(P:Nat)(c:Cv H b S t w r (slice none 0 0) [])(a:t.Fine)(d:r.Good t P)(i:P<4194000):
  Calls prog 42 #[pX b] w λe w'=>
   ∃v,e=returned v/\zM w' b (r.shut t).1 (slice none 0 0)/\w'.ownsRow H 51 6 v (r.shut t).2.length (zZ (r.shut t).2)/\Keep H b w w':=by
 have f:=vl <| zES b H S t w r P c a.ok a.act d (by omega);go_in;go_wp2_with fail;refine f.mono ?_;rintro e w2 ⟨v2,rfl,g⟩;have h:Hid _:=g;go_wp2;go_ret;exact⟨v2,rfl,h⟩
theorem zLd (l:List Value)(k:Nat)(b:Array Value)(i:Nat)(d:k+l.length<=b.size):((l.zipIdx k).foldl (λcs x=>cs.setIfInBounds x.2 x.1) b)[i]? =if k<=i/\i<k+l.length then l[i-k]? else b[i]? :=by
 induction l generalizing k b with
 |nil=>simp;intro c e;omega
 |cons a l f=>
  rw[List.zipIdx_cons,List.foldl_cons,f (k+1) (b.setIfInBounds k a) (by simp at d ⊢;omega)];simp only[hU] at d ⊢;by_cases c:k+1<=i/\i<k+1+l.length
  ·rw[if_pos c,if_pos (by omega),show i-k=(i-(k+1))+1 by omega,List.getElem?_cons_succ]
  ·rw[if_neg c]
   by_cases e:i=k
   ·subst e
    rw[if_pos (by omega)];simp[show i<b.size by omega]
   ·rw[if_neg (by omega),Array.getElem?_setIfInBounds_ne (by omega)]
theorem zMs (a c:Array Value)(n:Nat)(f:a.size=n)(b:c.size=n):Array.foldl (λcs x=>cs.setIfInBounds x.snd x.fst) a c.zipIdx 0 n=c:=by
 have e:Array.foldl (λcs x=>cs.setIfInBounds x.snd x.fst) a c.zipIdx 0 n=(c.toList.zipIdx 0).foldl (λcs x=>cs.setIfInBounds x.2 x.1) a:=by
  have d:c.zipIdx.size=n:=by simp[b]
  rw[<-d,<-Array.foldl_toList];simp
 rw[e];apply Array.ext_getElem?;intro i;rw[zLd _ _ _ _ (by simp;omega)];by_cases g:i<n
 ·rw[if_pos (by simp;omega)]
  simp
 ·rw[if_neg (by simp;omega),Array.getElem?_eq_none (by omega),Array.getElem?_eq_none (by omega)]
theorem zFI:zeroCells104.size=85:=by kernel_rfl
theorem zE8 (x p:Nat)(S:Nat->Prop)(t:Tb)(w:World)(o:w.cell? ⟨x,0,none⟩=some (pX p))(f:TabAt w S p t)(g:∀k,S k->k<w.heap.size)(h:t.Fine):
  Calls prog 34 #[pX x] w λe w'=>∃b,e=returned (pX b)/\w.heap.size<=b/\b<w'.heap.size/\zM w' b (Rs.born t p) (slice none 0 0)/\Grew w w':=by
 have j:Hid _:=zIF p S t w f g h.ok;go_in;go_wp2_with fail;refine Calls.mono j ?_;rintro e w2 ⟨c,rfl,d,l,m⟩;have a:Hid ((∀i,i<85->c[i]? =some ((Rs.born t p).cells (slice none 0 0) i))/\Grew w w2):=⟨l,m⟩
 go_wp2;rw[zMs _ c 85 zFI d];go_ret;refine⟨w2.heap.size,rfl,a.2.size,by simp,⟨_,c,gY w2 _,d,a.1⟩,a.2.trans (kZ _ _ a.2.size)⟩
def Tb.events (t:Tb)(p:Nat)(s:ByteArray):List Ev:=(Rs.feed t (nats s) (Rs.born t p)).2++((Rs.feed t (nats s) (Rs.born t p)).1.shut t).2
theorem zEm (a:List Ev):(zZ a).length=a.length*6:=by
 induction a with
 |nil=>rfl
 |cons e a b=>simp only[zZ,List.flatMap_cons,kX,hU] at *;rw[b];simp[Ev.cells,vM];omega
theorem zHg (b:List Ev):∀u∈zZ b,u.oneCell'=true:=by
 intro u a;obtain⟨e,_,a⟩:=List.mem_flatMap.1 a;simp[Ev.cells,vM] at a;rcases a with rfl|rfl|rfl|rfl|rfl|rfl <;> rfl
theorem zEn (a b:List Ev):zZ (a++b)=zZ a++zZ b:=by simp[zZ]
theorem Rs.shut_len (r:Rs)(t:Tb)(P:Nat)(ok:t.Ok)(c:r.Good t P):(r.shut t).2.length<=r.count+1:=by
 unfold Rs.shut;split
 ·rename_i a
  split
  ·exact(r.closed_end t a).2.2
  ·rename_i d
   have f:=c.oth (by simpa using d);have b:=(r.endN_inv t P ok f (r.count+2)).2.1;have j:xC r.opn<=1:=by unfold xC;split <;> omega
   have k:xC r.opn=1:=by rw[a];rfl
   unfold Rs.closeO;split
   ·rename_i g
    have e:xC (r.endAll t).1.opn=1:=by rw[g];rfl
    show((r.endAll t).2++[_]).length<=_;rw[kX];have i:(r.endAll t).2.length+(r.endAll t).1.count+xC (r.endAll t).1.opn<=r.count+xC r.opn:=b;simp only[hU,List.length_nil];omega
   ·have i:(r.endAll t).2.length+(r.endAll t).1.count+xC (r.endAll t).1.opn<=r.count+xC r.opn:=b
    omega
 ·exact lX
theorem Rs.long_tp (r:Rs)(t:Tb):(r.long t).1.tp=r.tp:=by
 unfold Rs.long;split
 ·rfl
 ·exact(r.cut.tok_same t _ _ _ _).tp
theorem Rs.heldStep_tp (r:Rs)(t:Tb):(r.heldStep t).1.tp=r.tp:=by
 have a:((r.ate t).marked t).tp=r.tp:=by unfold Rs.marked;split <;> rfl
 unfold Rs.heldStep Rs.judged;split
 ·exact a
 ·rw[Rs.long_tp];exact a
theorem Rs.heldN_tp (r:Rs)(t:Tb)(n:Nat):(r.heldN t n).1.tp=r.tp:=by
 induction n with
 |zero=>rfl
 |succ n a=>
  rw[Rs.heldN];split
  ·show((r.heldN t n).1.heldStep t).1.tp=r.tp
   rw[Rs.heldStep_tp,a]
  ·exact a
theorem Rs.eat_tp (r:Rs)(t:Tb)(c:Nat):(r.eat t c).1.tp=r.tp:=by
 unfold Rs.eat
 split
 ·unfold Rs.take Rs.due
  split
  ·exact((((r.added c).looked t (t.kind c)).took t).fin_same t).tp
  ·rfl
 ·unfold Rs.takeO
  split
  ·rfl
  ·exact(r.added c).heldN_tp t _
theorem Rs.feed_tp (t:Tb)(cs:List Nat)(r:Rs):(Rs.feed t cs r).1.tp=r.tp:=by
 induction cs generalizing r with
 |nil=>rfl
 |cons c cs a=>
  rw[Rs.feed];split
  ·show(Rs.feed t cs (r.eat t c).1).1.tp=r.tp
   rw[a,Rs.eat_tp]
  ·rfl
theorem Keep.less {H b d c:Nat}{w w':World}(a:Keep H b w w')(e:d<=H)(f:d<=b):Keep d c w w':=⟨a.os,a.output,a.size,λk g _=>a.block k (by omega) (by omega)⟩
theorem Keep.grownEnd {a c:Nat}{w w':World}{row:Option Nat}(b:w.grownBy w' row)(d:a<=w.heap.size)(e:∀k,row=some k->a<=k):Keep a c w w':=Keep.grown b d e
theorem zI7 (x p:Nat)(S:Nat->Prop)(t:Tb)(w:World)(s:ByteArray)(W:w.cell? ⟨x,0,none⟩=some (pX p))(A:TabAt w S p t)(B:∀k,S k->k<w.heap.size)(d:t.Fine)(ay:s.size<=1048576):
  Calls prog 27 #[pX x,string s] w λe w'=>∃v,e=returned v/\w'.ownsRow w.heap.size 51 6 v (t.events p s).length (zZ (t.events p s))/\Grew w w':=by
 have X:=vl <| zE8 x p S t w W A B d;have i:Hid (TabAt w S p t/\∀k,S k->k<w.heap.size):=⟨A,B⟩
 have q:Hid ((Rs.feed t (nats s) (Rs.born t p)).1.Good t (0+(nats s).length)/\(Rs.feed t (nats s) (Rs.born t p)).2.length+(Rs.feed t (nats s) (Rs.born t p)).1.count<=1+s.size):=by
  obtain⟨C,D,_⟩:=Rs.feed_inv t d.ok (nats s) (Rs.born t p) 0 (Rs.born_good t p d) (zC8 s);rw[jD] at D;have az:(Rs.born t p).count=0:=rfl;have aA:xC (Rs.born t p).opn=1:=rfl;exact⟨C,by omega⟩
 go_in;go_wp2_with fail;refine X.mono ?_;rintro e w1 ⟨b,rfl,Y,aa,ab,E⟩;have F:Hid (Cv w1.heap.size b S t w1 (Rs.born t p) (slice none 0 0) []):=by
  refine⟨ab,ownsRow_nil _ _ _ _,i.1.keep λk a=>?_,aa,lQ,λk a=>?_⟩
  ·have:=i.2 k a
   exact E.block k this (by omega)
  ·have:=i.2 k a
   omega
 have ac:=vl E;have aB:=Y;go_wp2_with fail;refine(zER b w1.heap.size S t w1 (Rs.born t p) s 0 F d (Rs.born_good t p d) (by omega)).mono ?_;rintro e w2 ⟨v1,rfl,ad,ae,r⟩;have G:Hid (Cv w2.heap.size b S t w2 (Rs.feed t (nats s) (Rs.born t p)).1 (slice none 0 0) []):=by
  have aC:=r.size;refine⟨ad,ownsRow_nil _ _ _ _,?_,by omega,lQ,λk a=>?_⟩
  ·have af:=Rs.feed_tp t (nats s) (Rs.born t p)
   rw[af];refine F.tab.keep λk a=>?_;have:=i.2 k a;exact r.block k (by omega) (by omega)
  ·have:=i.2 k a
   omega
 have H:=vl <| ac.trans (r.less (by omega) (by omega));have I:=vl ae;go_wp2_with fail;refine(zEg b w2.heap.size S t w2 _ _ G d q.1 (by rw[jD];omega)).mono ?_;rintro e f ⟨v2,rfl,ag,J,y⟩;have z:Hid (Grew w f):=H.trans (y.less H.size (by omega));have m:Hid (f.ownsRow w.heap.size 51 6 v1 (Rs.feed t (nats s) (Rs.born t p)).2.length (zZ (Rs.feed t (nats s) (Rs.born t p)).2)):=by
  have K:=I.out;refine⟨K.1,K.2.imp id ?_⟩;rintro⟨g,cap,L,ah,aD,M,ai⟩;have aj:=(kQ.1 M).1;exact⟨g,cap,L,ah,by omega,(y.block g aj (by omega)).trans M,ai⟩
 have aE:(Rs.feed t (nats s) (Rs.born t p)).2.length+((Rs.feed t (nats s) (Rs.born t p)).1.shut t).2.length<=2+s.size:=by
  have C:=Rs.shut_len _ t _ d.ok q.1;have D:=q.2;omega
 have l:Hid (f.ownsRow w2.heap.size 51 6 v2 ((Rs.feed t (nats s) (Rs.born t p)).1.shut t).2.length (zZ ((Rs.feed t (nats s) (Rs.born t p)).1.shut t).2)):=J;have N:Hid (t.events p s=(Rs.feed t (nats s) (Rs.born t p)).2++((Rs.feed t (nats s) (Rs.born t p)).1.shut t).2):=rfl;have O:w.heap.size<=f.heap.size:=z.size;clear ag J y G I;generalize (Rs.feed t (nats s) (Rs.born t p)).2=aF at *;generalize ((Rs.feed t (nats s) (Rs.born t p)).1.shut t).2=c at *;obtain⟨P,Q,ak,al,am⟩:=info_parts zMm;rcases l.out.2 with⟨o,R⟩|⟨g,cap,L,o,_,an,_,_,_,ao⟩
 ·have ap:Hid (c=[]):=List.length_eq_zero_iff.1 R
  subst o;clear R l;go_wp2_with (first|(at_builtin;refine wpList_append_own_none rfl _ _ 48 rfl w.heap.size 51 P 6 underlying48 Q _ _ _ rfl m rfl ?_))
  go_ret;refine⟨v1,rfl,?_,z⟩;rw[N.out,ap.out,dX];exact m
 ·have aq:(zZ c).length=c.length*6:=zEm c
  have T:∀j u,(zZ c)[j]? =some u->f.cell? ((⟨g,0,none⟩:Addr).add j)=some u:=by
   rw[o] at l;exact l.cells rfl
  have ar:Hid (∀j u,(zZ c)[j]? =some u->f.cell? ((⟨g,0,none⟩:Addr).add j)=some u):=T;subst o;clear T l an ao;go_wp2_with (first|(at_builtin;refine wpList_append_own _ rfl _ _ 48 rfl w.heap.size 51 P _ 6 48 underlying48 Q ak al am rfl (by decide) _ _ _ rfl m ⟨g,0,none⟩ c.length cap (zZ c) rfl aq ar (zHg c) (by unfold maxLen;omega) (by omega) O ?_;intro au aG U V av))
  have aw:Hid _:=U;have ax:Hid _:=V;clear U V av;go_wp2_with fail;go_ret;refine⟨au,rfl,?_,z.trans (Keep.grownEnd ax O λk a=>(m.lt k a).1)⟩;rw[N.out,kX,zEn];exact aw
def EvsAt (w:World)(v:Value)(es:List Ev):Prop:=∃ao cap,v=slice ao es.length cap/\es.length<=cap/\cap<=maxLen/\∀i,i<es.length->∃g,ao=some ⟨g,0,none⟩/\g<w.heap.size/\∀j u,(es.getD i ⟨0,0,0,0,0,0⟩).cells[j]? =some u->w.cell? ⟨g,i*6+j,none⟩=some u
theorem zMu (a:List Ev):∀(i j:Nat) (u:Value),i<a.length->(a.getD i ⟨0,0,0,0,0,0⟩).cells[j]? =some u->(zZ a)[i*6+j]? =some u:=by
 induction a with
 |nil=>intro i j u b;exact absurd b (Nat.not_lt_zero _)
 |cons e a g=>
  intro i j u b c;have h:(zZ (e::a))=e.cells++zZ a:=by simp[zZ]
  have d:e.cells.length=6:=rfl;rw[h];cases i with
  |zero=>
   have f:=c;have k:j<6:=by rw[<-d];exact(List.getElem?_eq_some_iff.1 f).1
   rw[Nat.zero_mul,Nat.zero_add,kW (by omega)];exact f
  |succ i=>
   rw[hY (by omega),d,show(i+1)*6+j-6=i*6+j by omega];exact g i j u (by simpa using b) c
theorem zM7 {w:World}{H:Nat}{v:Value}{a:List Ev}(b:w.ownsRow H 51 6 v a.length (zZ a)):EvsAt w v a:=by
 obtain⟨ao,cap,rfl,c,d⟩:=zC6 b;refine⟨ao,cap,rfl,c,d,λi e=>?_⟩;obtain⟨g,p,f,q,k,r,s,l,t⟩:=qY b (by omega);injection f with m x y;exact⟨g,m,k,λj u o=>l _ u (zMu a i j u e o)⟩
theorem EvsAt.grown {w w':World}{v:Value}{a:List Ev}(d:EvsAt w v a)(b:Grew w w'):EvsAt w' v a:=by
 obtain⟨ao,cap,rfl,e,f,k⟩:=d;refine⟨ao,cap,rfl,e,f,λi l=>?_⟩;obtain⟨g,m,c,o⟩:=k i l;exact⟨g,m,lZ c b.size,λj u p=>zA (o j u p) c b⟩
theorem zHS {w:World}{S:Nat->Prop}{a p:Nat}{t:Tb}(b:LexAt w S a p t)(c:t.Fine)(s:ByteArray)(d:s.size<=1048576):Calls prog 27 #[pX a,string s] w λe w'=>∃v,e=returned v/\EvsAt w' v (t.events p s)/\Grew w w':=by
 refine(zI7 a p S t w s b.cell b.tab b.safe c d).mono ?_;rintro e w' ⟨v,rfl,f,g⟩;exact⟨v,rfl,zM7 f,g⟩
section
open Go.ChangeShapes Go.WideShapes Go.ChangeAt Go.RowKit
open Go.ChangeMaps (open_string shut_string)
theorem own:ownKnob prog.godebug=none:=by kernel_rfl
theorem Keep.frame {a w':World}(b:Grew a w')(c:MemPlace->Prop):a.keptBut w' c:=by
 refine⟨b.os,b.output,λi d=>?_⟩;rw[b.block i d (by omega)];split <;> simp_all
theorem zJb {H:Type}{enc:TypeId×Value->H}{P:Program}{f:Func}{s:ChangeSpec}{h m o q:Bool}{g a:World}{args:Array Value}{v:Value}{c d:List (DataW H)}
  (u:DataW.Whole enc P f.params.toList s.vars h g args.toList c d [])
  (i:∀(b:Nat) (sp:Nat->Bool) (w:Bool),DataW.TrodAll enc P a b sp w f.resultTypes.toList (v.resultList f.resultTypes.size) (s.fn H (c++d)).results [])
  (k:∀sp:Nat->Bool,DataW.TrodAll enc P a 0 sp true f.params.toList args.toList (s.fn H (c++d)).args [])
  (l:∀sp:Nat->Bool,DataW.TrodVars enc P a sp s.vars (s.fn H (c++d)).vars [])
  (x:g.keptBut a λ_=>False)
  (y:∀(j:Nat) (t:TypeId) (r:Value),f.resultTypes[j]? =some t->(v.resultList f.resultTypes.size)[j]? =some r->Value.okWide P a .any 0 t r):
  s.post enc P f h m o q g args v a:=by
 refine⟨c,d,[],[],[],[],u,i _ _ _,k _,l _,World.keptBut_mono (λp e=>e.elim) x,λ_=>⟨y,_,_,[],⟨[],[],trodAll_append (k _) (i _ _ _),l _,rfl,?_,?_⟩,?_⟩⟩
 ·intro b off e
  simp at e
 ·intro _
  simp
 ·intro p e
  simp at e
theorem zMU {H:Type}{enc:TypeId×Value->H}{P:Program}{w:World}{a:Nat}{sp:Nat->Bool}{b:Bool}{t:TypeId}{c:List TypeId}{v:Value}{e:List Value}{f:DataW H}{g:List (DataW H)}{p q:List MemPlace}(i:DataW.Trod enc P w a sp b t v f p)(j:DataW.TrodAll enc P w a sp b c e g q):DataW.TrodAll enc P w a sp b (t::c) (v::e) (f::g) (p++q):=⟨p,q,i,j,rfl⟩
theorem zN8 {n:Int}(a:(Lit.int .i64 n).wf=true):-9223372036854775808<=n/\n<=9223372036854775807:=by
 simp[Lit.wf,IntKind.min,IntKind.max,IntKind.signed,IntKind.bits] at a;omega
end
end Go.Proofs.YtbjcfkdnjaiclaaGreat
