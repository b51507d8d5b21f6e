import Derived.Deep.LoopGhost
import Derived.Deep.WholeRow
import Derived.KernelRfl
import Derived.Test.YtbjcfkdnjaiclaaGreatS0
import Derived.Test.YtbjcfkdnjaiclaaGreatS27
/- Parts of the proof. -/
set_option linter.unusedVariables false
set_option linter.unusedSimpArgs false
set_option maxHeartbeats 4000000
set_option maxRecDepth 100000
namespace Go.Proofs.YtbjcfkdnjaiclaaGreat
open Go.RowKit Go.Proofs.Tryz Go.World
open Go.Value (int slice bool pointer string agg tuple)
open Go.IntKind (i64)
open Go.Ending (returned)
def Rs.added (r:Rs)(c:Nat):Rs:={r with byte:=λj=>if j=(r.first+r.count)%64 then c else r.byte j,count:=r.count+1}
def Rs.looked (r:Rs)(t:Tb)(d:Nat):Rs:={r with ahead:=t.further r.ahead d}
def Rs.due (r:Rs)(t:Tb):Rs×List Ev:=if t.ahead<r.count then r.step t else(r,[])
def Rs.take (r:Rs)(t:Tb)(c:Nat):Rs×List Ev:=((r.added c).looked t (t.kind c)).due t
theorem Rs.added_ok (r:Rs)(t:Tb)(c:Nat)(a:r.Ok t)(b:c<256)(d:r.count<64):(r.added c).Ok t:=
 ⟨a.d1,a.d4,a.st,a.state,a.first,d,λj e=>by
  show(if j=(r.first+r.count)%64 then c else r.byte j)<256;split
  ·exact b
  ·exact a.bytes j e⟩
theorem zMt (b H:Nat)(S:Nat->Prop)(t:Tb)(d w:World)(r:Rs){v0:Value}(a:List Ev)(g:Cv H b S t w r v0 a)(o:a.length<=4194304)(ok:t.Ok)(p:∀i,i<t.nrule->t.act i<4)(q:r.Ok t)(s:r.ahead<t.rows)(u:1<=r.count)
  (x:r.hAt<2147483648) (y:r.hLine<2147483648) (z:r.hCol<2147483648) (h:Keep H b d w) (f:Rs×List Ev) (j:f=r.due t)
  {u1 u2 u3 u4 u5 u6 u7 u8 u9 u10 u11 u12 u13 u14 u15 u16 u17 u18 u19 u20 u21 u22 u23 u24 u25 u26 u27 u28 u29 u30 u31 u32 u33 u34 u35 u36 u37 u38 u39 u40 u41 u42 u43 u44 u45:Value}:
  Code.wp prog (xO 2 ((f73.body).getD .skip)) (bodyPost prog f73 λe w'=>
   e=returned (tuple #[])/\∃v,Cv H b S t w' f.1 v (a++f.2)/\Keep H b d w')
   ⟨(pX b::u1::u2::u3::u4::u5::u6::u7::u8::u9::u10::u11::u12::u13::u14::u15::u16::u17::u18::u19::u20::u21::u22::u23::u24::u25::u26::u27::u28::u29::u30::u31::u32::u33::u34::u35::u36::u37::u38::u39::u40::u41::u42::u43::u44::u45::[]).toArray,[]⟩ w:=by
 conv=>arg 2;whnf
 have c:Hid (Cv H b S t w r v0 a):=g;have k:Hid (Keep H b d w):=h;have l:Hid (f=r.due t):=j;have D:cX w b 0=some (pX r.tp):=c.run.get_tp;have E:cX w b 77=some (iX r.count):=c.run.get_count;have F:cX w r.tp 1=some (iX t.ahead):=c.tab.c1;clear g h j;by_cases m:t.ahead<r.count
 ·have A:(t.ahead:Int)<(r.count:Int):=by omega
  go_wp2_with fail;go_quiet (fail);go_wp2_with fail;refine(zI7 b H S t _ r a (Cx.alike (w':=w.drewN nq) c ⟨rfl,rfl,rfl⟩) o ok p q u s x y z).mono ?_;rintro e w2 ⟨rfl,v,c2,B⟩;have C:Hid (Cv H b S t w2 f.1 v (a++f.2)):=by
   show Cv H b S t w2 f.1 v (a++f.2);rw[l.out,Rs.due,if_pos m];exact c2
  clear c2;go_wp2_with fail;go_end0;exact⟨rfl,v,C,(k.trans (Keep.alike (w':=w.drewN nq) ⟨rfl,rfl,rfl⟩)).trans B⟩
 ·have A:(r.count:Int)<=(t.ahead:Int):=by omega
  go_wp2_with fail;go_quiet (fail);go_wp2_with fail;go_end0;refine⟨rfl,v0,?_,k.trans (Keep.alike (w':=w.drewN nq) ⟨rfl,rfl,rfl⟩)⟩;rw[l.out,Rs.due,if_neg m,gG];exact Cx.alike (w':=w.drewN nq) c ⟨rfl,rfl,rfl⟩
theorem zKE (b H:Nat)(S:Nat->Prop)(t:Tb)(w:World)(r:Rs){v0:Value}(d:List Ev)(c:Nat)(q:Cv H b S t w r v0 d)(G:d.length<=4194304)(ok:t.Ok)(I:∀i,i<t.nrule->t.act i<4)(s:r.Ok t)(V:r.ahead<t.rows)(u:r.count<64)(l:c<256)
  (J:r.hAt<2147483648) (L:r.hLine<2147483648) (M:r.hCol<2147483648):
  Calls prog 73 #[pX b,int .u8 c] w λe w'=>
   e=returned (tuple #[])/\∃v,Cv H b S t w' (r.take t c).1 v (d++(r.take t c).2)/\Keep H b w w':=by
 have x:Hid (Cv H b S t w r v0 d):=q;clear q;go_enter func73,ntmps73
 refine wp_seq_k ?_;intro m g;have y:Hid (∀a w,_->m a w):=g;clear g;go_wp2_with fail;refine(zHF b c _ r x.run s.first u).mono ?_;rintro e w1 ⟨rfl,z,o⟩;have c1:Hid (Cv H b S t w1 (r.added c) v0 d):=Cx.kept x o z rfl;have A:Hid (Keep H b w w1):=o H;clear o z;go_wp2_with fail;apply y.out;clear y;refine wp_seq_k ?_;intro m g;have N:Hid (∀a w,_->m a w):=g;clear g;have W:cX w1 b 0=some (pX r.tp):=c1.run.get_tp;have O:cX w1 b 81=some (iX r.ahead):=c1.run.get_ahead;have P:=c1.run.frozen 81;have Q:=c1.tab.c6;obtain⟨X,B,C,D,R,Y,rfl,aa,ab,E⟩:=Q;have ac:cX w1 r.tp 6=some (slice (some ⟨C,D,none⟩) 256 R):=B;have ad:cX w1 C (D+c)=some (iX (t.kind c:Nat)):=E _ l;have ae:(c:Int)<256:=by omega
 have af:=ok.kind c l;have ag:=ok.count;have ah:=ok.rows;have F:Hid (TabAt w1.drew S r.tp t):=(Cx.alike (w':=w1.drew) c1 ⟨rfl,rfl,rfl⟩).tab;clear E B;go_wp2_with fail;go_region_with ((go_at_call 108;go_must ((refine (zBE r.tp _ S t F ok r.ahead (t.kind c) (by omega) (by omega)).mono ?_;rintro e j ⟨rfl,k⟩;have ai:cX j b 81=some (iX r.ahead):=(k.cell ⟨b,81,none⟩).trans O;have aj:j.frozen? ⟨b,81,none⟩=false:=(k.frozen ⟨b,81,none⟩).trans P))))
 all_goals
  have p:Hid (Cv H b S t j (r.added c) v0 d):=Cx.alike c1 k;have T:Hid (Keep H b w j):=A.trans (Keep.alike k);have U:Hid (Cv H b S t (j.setCell ⟨b,81,none⟩ (iX (t.further r.ahead (t.kind c):Nat))) ((r.added c).looked t (t.kind c)) v0 d):=Cx.stored p 81 _ (p.run.set_ahead (t.further r.ahead (t.kind c))) rfl;clear c1 A F k p;go_wp2_with fail;apply N.out;exact zMt b H S t w _ ((r.added c).looked t (t.kind c)) d U G ok I (let f:=r.added_ok t c s l u;⟨f.d1,f.d4,f.st,f.state,f.first,f.count,f.bytes⟩) (hY _ ok.rows0) (Nat.succ_le_succ lX) J L M (T.trans (Keep.set _ _ _)) _ rfl
theorem Rs.held_count (r:Rs)(t:Tb)(P:Nat)(ok:t.Ok)(b:r.Oth t P)(c:r.opn=true)(d:r.taken<r.count):(r.heldStep t).1.count<=r.count:=by
 obtain⟨_,e,a,_⟩:=r.held_inv t P ok b c d;rcases a with a|a
 ·rw[a] at e
  have:xN true=1:=rfl;omega
 ·have:=List.length_pos_iff.2 a
  omega
theorem Rs.heldN_inv (r:Rs)(t:Tb)(P:Nat)(ok:t.Ok)(k:r.Oth t P)(n:Nat):
  (r.heldN t n).1.Oth t P/\(r.heldN t n).2.length+(r.heldN t n).1.count+xN (r.heldN t n).1.opn<=r.count+xN r.opn/\((r.heldN t n).1.opn=r.opn\/(r.heldN t n).2≠[])/\(r.heldN t n).1.count<=r.count/\(¬((r.heldN t n).1.taken<(r.heldN t n).1.count/\(r.heldN t n).1.opn=true)\/(r.heldN t n).1.todo+n<=r.todo)/\((r.heldN t n).1.opn=true->r.opn=true):=by
 induction n with
 |zero=>exact⟨k,by simp[Rs.heldN],.inl rfl,lQ,.inr lQ,id⟩
 |succ n l=>
  obtain⟨d,f,m,g,c,i⟩:=l;rw[Rs.heldN];split
  ·rename_i a
   obtain⟨o,q,b,s⟩:=(r.heldN t n).1.held_inv t P ok d a.2 a.1;have p:=(r.heldN t n).1.held_count t P ok d a.2 a.1;have j:=i a.2;refine⟨o,?_,?_,lY p g,.inr ?_,λ_=>j⟩
   ·show((r.heldN t n).2++((r.heldN t n).1.heldStep t).2).length+((r.heldN t n).1.heldStep t).1.count+xN ((r.heldN t n).1.heldStep t).1.opn<=_
    rw[a.2] at f;have:xN true=1:=rfl;rw[kX];omega
   ·rcases b with b|b
    ·left
     show((r.heldN t n).1.heldStep t).1.opn=r.opn;rw[b,j]
    ·right
     show(r.heldN t n).2++((r.heldN t n).1.heldStep t).2≠[];intro e;exact b (List.append_eq_nil_iff.1 e).2
   ·show((r.heldN t n).1.heldStep t).1.todo+(n+1)<=r.todo
    rcases c with c|c
    ·exact absurd a c
    ·omega
  ·rename_i a
   exact⟨d,f,m,g,.inl a,i⟩
theorem Rs.heldN_stop (r:Rs)(t:Tb)(n m:Nat)(a:¬((r.heldN t n).1.taken<(r.heldN t n).1.count/\(r.heldN t n).1.opn=true))(c:n<=m):r.heldN t m=r.heldN t n:=by
 induction m with
 |zero=>rw[show n=0 by omega]
 |succ m b=>
  by_cases e:n=m+1
  ·rw[e]
  ·rw[Rs.heldN,b (by omega),if_neg a]
def Rs.heldAll (r:Rs)(t:Tb):Rs×List Ev:=r.heldN t (r.todo+1)
theorem Rs.heldAll_eq (r:Rs)(t:Tb)(P:Nat)(ok:t.Ok)(c:r.Oth t P)(n:Nat)(d:¬((r.heldN t n).1.taken<(r.heldN t n).1.count/\(r.heldN t n).1.opn=true)):r.heldN t n=r.heldAll t:=by
 have a:=(r.heldN_inv t P ok c (r.todo+1)).2.2.2.2.1;have e:¬((r.heldAll t).1.taken<(r.heldAll t).1.count/\(r.heldAll t).1.opn=true):=by
  rcases a with a|a
  ·exact a
  ·omega
 rcases Nat.le_total n (r.todo+1) with b|b
 ·exact(r.heldN_stop t n _ d b).symm
 ·exact r.heldN_stop t _ n e b
theorem Rs.heldAll_inv (r:Rs)(t:Tb)(P:Nat)(ok:t.Ok)(a:r.Oth t P):
  (r.heldAll t).1.Oth t P/\(r.heldAll t).2.length+(r.heldAll t).1.count+xN (r.heldAll t).1.opn<=r.count+xN r.opn/\((r.heldAll t).1.opn=r.opn\/(r.heldAll t).2≠[])/\(r.heldAll t).1.count<=r.count/\((r.heldAll t).1.opn=true->r.opn=true):=by
 obtain⟨b,c,d,e,_,f⟩:=r.heldN_inv t P ok a (r.todo+1);exact⟨b,c,d,e,f⟩
def Rs.takeO (r:Rs)(t:Tb)(c:Nat):Rs×List Ev:=
 if t.hold<=r.count then({r with opn:=false},[r.lastEv 6]) else(r.added c).heldAll t
theorem Rs.added_oth (r:Rs)(t:Tb)(P c:Nat)(a:r.Oth t P)(b:c<256)(d:r.count<64):(r.added c).Oth t (P+1):=by
 have e:=a.len;have f:=a.tak;have g:=a.pos;exact⟨r.added_ok t c a.ok b d,e,Nat.le_succ_of_le f,a.rule,by show r.bAt+(r.count+1)<=P+1;omega,a.line,a.col1,a.col⟩
theorem Rs.takeO_inv (r:Rs)(t:Tb)(P c:Nat)(ok:t.Ok)(a:r.Oth t P)(e:c<256)(f:r.opn=true):
  (r.takeO t c).1.Oth t (P+1)/\(r.takeO t c).2.length+(r.takeO t c).1.count+xN (r.takeO t c).1.opn<=r.count+2/\((r.takeO t c).1.opn=true\/(r.takeO t c).2≠[]):=by
 unfold Rs.takeO;split
 ·refine⟨⟨⟨a.ok.d1,a.ok.d4,a.ok.st,a.ok.state,a.ok.first,a.ok.count,a.ok.bytes⟩,a.len,a.tak,a.rule,Nat.le_succ_of_le a.pos,a.line,a.col1,a.col⟩,?_,.inr (by simp)⟩
  show 1+r.count+0<=r.count+2;omega
 ·rename_i l
  have g:r.count<64:=by have:=ok.hold;omega
  obtain⟨i,j,b,m,o⟩:=(r.added c).heldAll_inv t (P+1) ok (r.added_oth t P c a e g);have k:(r.added c).count=r.count+1:=rfl;have d:(r.added c).opn=true:=f;rw[k,d] at j;rw[d] at b;have:xN true=1:=rfl;exact⟨i,by omega,b⟩
def Rs.endO (r:Rs)(t:Tb):Rs×List Ev:=(((r.long t).1.heldAll t).1,(r.long t).2++((r.long t).1.heldAll t).2)
def Rs.endN (r:Rs)(t:Tb):Nat->Rs×List Ev
 |0=>(r,[])
 |n+1=>if 0<(r.endN t n).1.count/\(r.endN t n).1.opn=true then(((r.endN t n).1.endO t).1,(r.endN t n).2++((r.endN t n).1.endO t).2) else r.endN t n
theorem Rs.endO_inv (r:Rs)(t:Tb)(P:Nat)(ok:t.Ok)(a:r.Oth t P)(c:r.opn=true)(d:0<r.count):
  (r.endO t).1.Oth t P/\(r.endO t).2.length+(r.endO t).1.count+xN (r.endO t).1.opn<=r.count+1/\((r.endO t).1.opn=true\/(r.endO t).2≠[])/\(r.endO t).1.count+xN (r.endO t).1.opn<r.count+1:=by
 obtain⟨f,s,g,b⟩:=r.long_inv t P ok a c d;obtain⟨i,b2,j,u,k⟩:=(r.long t).1.heldAll_inv t P ok f;unfold Rs.endO;have v:xN true=1:=rfl;have w:xN false=0:=rfl;refine⟨i,?_,?_,?_⟩
 ·show((r.long t).2++((r.long t).1.heldAll t).2).length+((r.long t).1.heldAll t).1.count+xN ((r.long t).1.heldAll t).1.opn<=_
  rw[kX];omega
 ·by_cases e:((r.long t).1.heldAll t).1.opn=true
  ·exact .inl e
  ·right
   show(r.long t).2++((r.long t).1.heldAll t).2≠[];intro l;obtain⟨m,o⟩:=List.append_eq_nil_iff.1 l;have p:=g.resolve_right (λa=>a m);have q:=j.resolve_right (λa=>a o);exact e (by rw[q,p])
 ·show((r.long t).1.heldAll t).1.count+xN ((r.long t).1.heldAll t).1.opn<r.count+1
  rcases b with b|⟨b,x,_⟩
  ·have:xN ((r.long t).1.heldAll t).1.opn<=1:=by unfold xN;split <;> omega
   omega
  ·have e:((r.long t).1.heldAll t).1.opn=false:=by
    cases a:((r.long t).1.heldAll t).1.opn with
    |false=>rfl
    |true=>rw[k a] at b;cases b
   rw[e];omega
theorem Rs.endN_inv (r:Rs)(t:Tb)(P:Nat)(ok:t.Ok)(j:r.Oth t P)(n:Nat):
  (r.endN t n).1.Oth t P/\(r.endN t n).2.length+(r.endN t n).1.count+xN (r.endN t n).1.opn<=r.count+xN r.opn/\((r.endN t n).1.opn=r.opn\/(r.endN t n).2≠[])/\(¬(0<(r.endN t n).1.count/\(r.endN t n).1.opn=true)\/(r.endN t n).1.count+xN (r.endN t n).1.opn+n<=r.count+xN r.opn)/\((r.endN t n).1.opn=true->r.opn=true):=by
 induction n with
 |zero=>exact⟨j,by simp[Rs.endN],.inl rfl,.inr lQ,id⟩
 |succ n k=>
  obtain⟨d,f,l,b,g⟩:=k;rw[Rs.endN];split
  ·rename_i a
   obtain⟨m,o,c,p⟩:=(r.endN t n).1.endO_inv t P ok d a.2 a.1;have i:=g a.2;have q:xN true=1:=rfl;refine⟨m,?_,?_,.inr ?_,λ_=>i⟩
   ·show((r.endN t n).2++((r.endN t n).1.endO t).2).length+((r.endN t n).1.endO t).1.count+xN ((r.endN t n).1.endO t).1.opn<=_
    rw[a.2] at f;rw[kX];omega
   ·rcases c with c|c
    ·left
     show((r.endN t n).1.endO t).1.opn=r.opn;rw[c,i]
    ·right
     show(r.endN t n).2++((r.endN t n).1.endO t).2≠[];intro e;exact c (List.append_eq_nil_iff.1 e).2
   ·show((r.endN t n).1.endO t).1.count+xN ((r.endN t n).1.endO t).1.opn+(n+1)<=_
    rcases b with b|b
    ·exact absurd a b
    ·rw[a.2] at b
     omega
  ·rename_i a
   exact⟨d,f,l,.inl a,g⟩
theorem Rs.endN_stop (r:Rs)(t:Tb)(n m:Nat)(a:¬(0<(r.endN t n).1.count/\(r.endN t n).1.opn=true))(c:n<=m):r.endN t m=r.endN t n:=by
 induction m with
 |zero=>rw[show n=0 by omega]
 |succ m b=>
  by_cases e:n=m+1
  ·rw[e]
  ·rw[Rs.endN,b (by omega),if_neg a]
def Rs.endAll (r:Rs)(t:Tb):Rs×List Ev:=r.endN t (r.count+2)
theorem Rs.endAll_eq (r:Rs)(t:Tb)(P:Nat)(ok:t.Ok)(c:r.Oth t P)(n:Nat)(d:¬(0<(r.endN t n).1.count/\(r.endN t n).1.opn=true)):r.endN t n=r.endAll t:=by
 have a:=(r.endN_inv t P ok c (r.count+2)).2.2.2.1;have e:¬(0<(r.endAll t).1.count/\(r.endAll t).1.opn=true):=by
  rcases a with a|a
  ·exact a
  ·have:xN r.opn<=1:=by unfold xN;split <;> omega
   omega
 rcases Nat.le_total n (r.count+2) with b|b
 ·exact(r.endN_stop t n _ d b).symm
 ·exact r.endN_stop t _ n e b
def Rs.closeO (r:Rs)(t:Tb):Rs×List Ev:=if(r.endAll t).1.opn then({(r.endAll t).1 with opn:=false},(r.endAll t).2++[(r.endAll t).1.lastEv 2]) else r.endAll t
theorem zGu (b H:Nat)(S:Nat->Prop)(t:Tb)(w:World)(r:Rs){v0:Value}(a:List Ev)(P C:Nat)(d:Cv H b S t w r v0 a)(ok:t.Ok)(f:∀i,i<t.nrule->t.act i<4)(c:r.Oth t P)(g:P<=1073741824)(h:a.length+r.count+xN r.opn<=C)(j:C<=4194304):
  Calls prog 111 #[pX b] w λe w'=>
   e=returned (tuple #[])/\∃v,Cv H b S t w' (r.heldAll t).1 v (a++(r.heldAll t).2)/\Keep H b w w':=
 (zFP b H S t w r a P C d ok f c g h j).mono λe w' ⟨k,v,n,h1,h2,_,_,h5⟩=>by
  rw[r.heldAll_eq t P ok c n h5] at h1;exact⟨k,v,h1,h2⟩
theorem zI2 (b H:Nat)(S:Nat->Prop)(t:Tb)(w:World)(r:Rs){v0:Value}(a:List Ev)(P C c:Nat)(d:Cv H b S t w r v0 a)(ok:t.Ok)(B:∀i,i<t.nrule->t.act i<4)(l:r.Oth t P)(N:P<1073741824)(O:a.length+r.count+xN r.opn<=C)(Q:C<4194304)(D:c<256):
  Calls prog 74 #[pX b,int .u8 c] w λe w'=>
   e=returned (tuple #[])/\∃v,Cv H b S t w' (r.takeO t c).1 v (a++(r.takeO t c).2)/\Keep H b w w':=by
 have m:=vl d;have E:=d.run.get_tp;have F:=d.run.get_count;have G:=d.tab.c2;have R:=ok.hold;by_cases f:t.hold<=r.count
 ·have I:(t.hold:Int)<=(r.count:Int):=by omega
  have g:Hid (r.takeO t c=({r with opn:=false},[r.lastEv 6])):=if_pos f;go_in;go_wp2;go_quiet (fail);go_wp2_with fail;refine(jD b H S t 6 _ r v0 _ _ (Cx.alike (w':=w.drewN nq) m ⟨rfl,rfl,rfl⟩) (by omega)).mono ?_;rintro e w2 ⟨rfl,ao,cap,c2,J⟩;have h:=vl c2;go_wp2;refine gV (results_none rfl _ _ _) rfl ?_;refine⟨rfl,slice ao (a.length+1) cap,?_,Keep.trans (w:=w) (w':=w.drewN nq) (Keep.alike ⟨rfl,rfl,rfl⟩) J⟩;rw[g.out];unfold Cv;rw[yE,kX];exact h
 ·have I:(r.count:Int)<(t.hold:Int):=by omega
  have o:r.count<64:=by omega
  have g:Hid (r.takeO t c=(r.added c).heldAll t):=if_neg f;have K:Hid ((r.added c).Oth t (P+1)):=r.added_oth t P c l D o;have L:=l.ok.first
  clear f;go_enter func74,ntmps74
  go_wp2_with fail;go_quiet (fail);obtain⟨w1,p,j,q⟩:∃w1,w1=w.drewN nq/\Hid (Cv H b S t w1 r v0 a)/\Hid (Keep H b w w1):=⟨_,rfl,Cx.alike (w':=w.drewN nq) m ⟨rfl,rfl,rfl⟩,Keep.alike ⟨rfl,rfl,rfl⟩⟩
  rw[<-p];clear p E F G;go_wp2_with fail;refine(zHF b c _ r j.run L o).mono ?_;rintro e w2 ⟨rfl,s,k⟩;have h:Hid (Cv H b S t w2 (r.added c) v0 a):=Cx.kept j k s rfl;have M:Hid (Keep H b w w2):=q.trans (k H);clear k s j q;go_wp2_with fail;refine(zGu b H S t w2 (r.added c) a (P+1) (C+1) h ok B K (by omega) (by show a.length+(r.count+1)+xN r.opn<=C+1;omega) (by omega)).mono ?_;rintro e u ⟨rfl,x,y,z⟩;have A:Hid (Cv H b S t u (r.takeO t c).1 x (a++(r.takeO t c).2)/\Keep H b w u):=⟨by rw[g.out];exact y,M.trans z⟩
  clear y z;go_wp2_with fail;go_end0;exact⟨rfl,x,A.1,A.2⟩
theorem zIC (b H:Nat)(S:Nat->Prop)(t:Tb)(w:World)(a:Rs){v0:Value}(f:List Ev)(P C:Nat)(l:Cv H b S t w a v0 f)(ok:t.Ok)(B:∀i,i<t.nrule->t.act i<4)(j:a.Oth t P)(L:P<=1073741824)(u:f.length+a.count+xN a.opn<=C)(M:C<=4194304):
  Calls prog 85 #[pX b] w λe w'=>
   e=returned (tuple #[])/\∃v,Cv H b S t w' (a.closeO t).1 v (f++(a.closeO t).2)/\Keep H b w w':=by
 have o:Hid (Cv H b S t w a v0 f/\a.Oth t P/\f.length+a.count+xN a.opn<=C):=⟨l,j,u⟩
 go_in;apply wp_cut;intro ae k;go_wp2;go_loopg [] (a.count+xN a.opn) (λq wr=>∃(n:Nat) (r:Rs) (c:List Ev) (v:Value),q=r.count+xN r.opn/\a.endN t n=(r,c)/\Cv H b S t wr r v (f++c)/\Keep H b w wr/\r.Oth t P/\(f++c).length+r.count+xN r.opn<=C)
 case atStart=>exact⟨0,a,[],v0,rfl,rfl,by rw[gG];exact o.1,Keep.refl _ _ _,o.2.1,by rw[gG];exact o.2.2⟩
 case round=>
  obtain⟨n,r,c,v,N,O,l,Q,j,u⟩:=hrel;have d:Hid (gk=r.count+xN r.opn/\a.endN t n=(r,c)/\Cv H b S t wr r v (f++c)/\Keep H b w wr/\r.Oth t P/\(f++c).length+r.count+xN r.opn<=C):=⟨N,O,l,Q,j,u⟩
  have x:=l.run.get_opn;have af:=l.run.get_count;have ag:=j.ok.count;have R:=j.tak;have ah:=j.pos;have ai:=j.line;have aj:=j.col;by_cases m:0<r.count/\r.opn=true
  ·obtain⟨y,g⟩:=m
   have z:(0:Int)<(r.count:Int):=by omega
   rw[g] at x;have T:=vl g;have U:=r.endO_inv t P ok d.2.2.2.2.1 g y;have D:=d.2.2.2.2.2;rw[g] at D;have V:(f++c).length+r.count+1<=C:=D;obtain⟨W,ak,al,am⟩:=r.long_inv t P ok d.2.2.2.2.1 g y;have X:Hid (a.endN t (n+1)=((r.endO t).1,c++(r.endO t).2)):=by show _=_;rw[Rs.endN,d.out.2.1,if_pos ⟨y,g⟩]
   have A:=vl U;have Y:=vl <| zBC b H S t wr r (f++c) d.2.2.1 (by omega) ok B d.2.2.2.2.1.ok (lY d.2.2.2.2.1.len R) d.2.2.2.2.1.rule (by omega) (by omega) (by omega);have E:Hid ((r.long t).1.Oth t P/\((f++c)++(r.long t).2).length+(r.long t).1.count+xN (r.long t).1.opn<=C):=⟨W,by rw[kX];omega⟩
   go_wp2_with fail;refine Calls.mono Y ?_;rintro e w1 ⟨rfl,v1,c1,F⟩;have aa:=vl c1;go_wp2_with fail;refine(zGu b H S t w1 (r.long t).1 ((f++c)++(r.long t).2) P C aa ok B E.1 L E.2 M).mono ?_;rintro e w2 ⟨rfl,v2,c2,p⟩;have G:Hid (Cv H b S t w2 (r.endO t).1 v2 (f++(c++(r.endO t).2))/\Keep H b w w2):=by
    refine⟨?_,(d.2.2.2.1.trans F).trans p⟩;rw[hJ,hJ] at c2;exact c2
   clear c2 p F;go_wp2_with fail;go_roundg ((r.endO t).1.count+xN (r.endO t).1.opn)
   case measure=>rw[d.out.1,T.out];exact A.2.2.2
   case rel=>exact⟨n+1,(r.endO t).1,c++(r.endO t).2,v2,rfl,X,G.1,G.2,A.1,by have an:=A.2.1;rw[kX,kX];rw[kX] at V;omega⟩
  ·have I:Hid (a.endAll t=(r,c)):=by
    show _=_;rw[<-a.endAll_eq t P ok o.out.2.1 n (by rw[d.out.2.1];exact m),d.out.2.1]
   by_cases g:r.opn=true
   ·have ab:¬0<r.count:=λac=>m ⟨ac,g⟩
    have z:(r.count:Int)<=0:=by omega
    rw[g] at x;have s:Hid (a.closeO t=({r with opn:=false},c++[r.lastEv 2])):=by
     show _=_;unfold Rs.closeO;rw[I.out,if_pos g]
    clear m;go_wp2_with fail;apply k.out;clear k;go_wp2_with fail;refine(jD b H S t 2 _ r v _ _ d.2.2.1 (by have:=d.2.2.2.2.2;omega)).mono ?_;rintro e w2 ⟨rfl,ao,cap,c2,p⟩;have ad:Hid (Cx _ _ _ _ _ _ _ _ _):=c2;clear c2;go_wp2_with fail;go_end0;refine⟨rfl,slice ao ((f++c).length+1) cap,?_,d.2.2.2.1.trans p⟩;rw[s.out];show Cv H b S t w2 _ _ (f++(c++[r.lastEv 2]));unfold Cv;rw[<-hJ,yE,kX (bs:=[r.lastEv 2])];exact ad
   ·have J:r.opn=false:=by simpa using g
    rw[J] at x;have s:Hid (a.closeO t=(r,c)):=by
     show _=_;unfold Rs.closeO;rw[I.out,if_neg g]
    clear m g J;by_cases ab:0<r.count
    ·have z:(0:Int)<(r.count:Int):=by omega
     go_wp2_with fail;apply k.out;clear k;go_wp2_with fail;go_end0;exact⟨rfl,v,by rw[s.out];exact d.2.2.1,d.2.2.2.1⟩
    ·have z:(r.count:Int)<=0:=by omega
     go_wp2_with fail;apply k.out;clear k;go_wp2_with fail;go_end0;exact⟨rfl,v,by rw[s.out];exact d.2.2.1,d.2.2.2.1⟩
def Rs.look (r:Rs)(t:Tb):Rs:={r with ahead:=t.further r.ahead t.count}
def Rs.ended (r:Rs):Rs×List Ev:=if r.opn=false then(r,[]) else({r with opn:=false},[r.lastEv (if r.hAt=r.bAt then 2 else 3)])
theorem zGB (b H:Nat)(S:Nat->Prop)(t:Tb)(l w:World)(r:Rs){v0:Value}(c:List Ev)(q:Cv H b S t w r v0 c)(m:c.length<=4194304)(s:Keep H b l w)(f:Rs×List Ev)(u:f=r.ended)
  {u1 u2 u3 u4 u5 u6 u7 u8 u9 u10 u11 u12 u13 u14 u15 u16 u17 u18 u19 u20 u21 u22 u23 u24 u25 u26 u27 u28 u29 u30 u31 u32 u33 u34 u35 u36 u37 u38 u39 u40 u41 u42 u43 u44 u45 u46 u47 u48 u49 u50 u51 u52 u53 u54 u55 u56 u57 u58 u59 u60 u61 u62 u63 u64 u65 u66 u67 u68 u69 u70 u71 u72 u73 u74 u75 u76 u77 u78 u79 u80 u81 u82 u83 u84:Value}:
  Code.wp prog (xO 3 ((f84.body).getD .skip)) (bodyPost prog f84 λe w'=>
   e=returned (tuple #[])/\∃v,Cv H b S t w' f.1 v (c++f.2)/\Keep H b l w')
   ⟨(pX b::u1::u2::u3::u4::u5::u6::u7::u8::u9::u10::u11::u12::u13::u14::u15::u16::u17::u18::u19::u20::u21::u22::u23::u24::u25::u26::u27::u28::u29::u30::u31::u32::u33::u34::u35::u36::u37::u38::u39::u40::u41::u42::u43::u44::u45::u46::u47::u48::u49::u50::u51::u52::u53::u54::u55::u56::u57::u58::u59::u60::u61::u62::u63::u64::u65::u66::u67::u68::u69::u70::u71::u72::u73::u74::u75::u76::u77::u78::u79::u80::u81::u82::u83::u84::[]).toArray,[]⟩ w:=by
 conv=>arg 2;whnf
 have a:=vl q;have g:=vl s;have h:=vl u;have o:=a.run.get_opn;have y:=a.run.get_bAt;have z:=a.run.get_hAt;cases d:r.opn
 ·rw[d] at o
  go_wp2;refine gV (results_none rfl _ _ _) rfl ?_;refine⟨rfl,v0,?_,g⟩;rw[h.out,Rs.ended,if_pos d,gG];exact a
 ·rw[d] at o
  by_cases p:r.hAt=r.bAt
  ·have x:((r.hAt:Int)==(r.bAt:Int))=true:=by rw[beq_iff_eq];omega
   have i:=vl p;go_wp2;go_quiet (fail);go_wp2_with fail;refine(jD b H S t 2 _ r v0 _ _ (Cx.alike (w':=w.drewN nq) a ⟨rfl,rfl,rfl⟩) m).mono ?_;rintro e w2 ⟨rfl,ao,cap,c2,j⟩;have k:=vl c2;go_wp2;go_end0;refine⟨rfl,slice ao (c.length+1) cap,?_,(g.trans (Keep.alike (w':=w.drewN nq) ⟨rfl,rfl,rfl⟩)).trans j⟩;rw[h.out,Rs.ended,if_neg (by rw[d];decide),if_pos i.out];unfold Cv;rw[yE,kX];exact k
  ·have x:((r.hAt:Int)==(r.bAt:Int))=false:=by rw[hX];omega
   have i:=vl p;go_wp2;go_quiet (fail);go_wp2_with fail;refine(jD b H S t 3 _ r v0 _ _ (Cx.alike (w':=w.drewN nq) a ⟨rfl,rfl,rfl⟩) m).mono ?_;rintro e w2 ⟨rfl,ao,cap,c2,j⟩;have k:=vl c2;go_wp2;go_end0;refine⟨rfl,slice ao (c.length+1) cap,?_,(g.trans (Keep.alike (w':=w.drewN nq) ⟨rfl,rfl,rfl⟩)).trans j⟩;rw[h.out,Rs.ended,if_neg (by rw[d];decide),if_neg i.out];unfold Cv;rw[yE,kX];exact k
def Rs.drain (t:Tb):Nat->Rs->Rs×List Ev
 |0,r=>(r,[])
 |n+1,r=>if r.opn=false then(r,[]) else((Rs.drain t n ((r.look t).step t).1).1,((r.look t).step t).2++(Rs.drain t n ((r.look t).step t).1).2)
structure Rs.Fit (r:Rs)(t:Tb)(n:Nat):Prop where
 ok:r.Ok t
 ahead:r.ahead<t.rows
 hAt:r.hAt+n<2147483648
 hLine:r.hLine+n<2147483648
 hCol:r.hCol+n<2147483648
theorem Rs.look_ok (r:Rs)(t:Tb)(a:r.Ok t):(r.look t).Ok t:=⟨a.d1,a.d4,a.st,a.state,a.first,a.count,a.bytes⟩
theorem Rs.step_fit (r:Rs)(t:Tb)(n:Nat)(ok:t.Ok)(a:r.Fit t (n+1)):((r.look t).step t).1.Fit t n:=by
 have b:=((r.look t).took t).fin_same t;have c:=a.hAt;have d:=a.hLine;have e:=a.hCol;refine⟨((r.look t).took t).fin_ok t ok ((r.look t).took_ok t ok (r.look_ok t a.ok)),?_,?_,?_,?_⟩
 ·show(((r.look t).took t).fin t).1.ahead<t.rows
  rw[b.ahead];exact hY _ ok.rows0
 ·show(((r.look t).took t).fin t).1.hAt+n<2147483648
  rw[b.hAt];show r.hAt+1+n<2147483648;omega
 ·show(((r.look t).took t).fin t).1.hLine+n<2147483648
  rw[b.hLine];show zAV _ r.hLine+n<2147483648;unfold zAV;split <;> omega
 ·show(((r.look t).took t).fin t).1.hCol+n<2147483648
  rw[b.hCol];show zCL _ r.hCol+n<2147483648;unfold zCL;split <;> omega
theorem Rs.step_count (r:Rs)(t:Tb):((r.look t).step t).1.count=r.count-1:=(((r.look t).took t).fin_same t).count
theorem Rs.step_one (r:Rs)(t:Tb):((r.look t).step t).2.length<=1:=((r.look t).took t).fin_one t
theorem zJ9 (b H:Nat)(S:Nat->Prop)(t:Tb)(l w:World)(r:Rs){v0:Value}(j:List Ev)(D:Cv H b S t w r v0 j)(T:j.length+r.count<4194304)(ok:t.Ok)(U:∀i,i<t.nrule->t.act i<4)(V:r.Fit t r.count)(E:Keep H b l w)
  (f:Rs×List Ev) (F:f=((Rs.drain t r.count r).1.ended.1,(Rs.drain t r.count r).2++(Rs.drain t r.count r).1.ended.2))
  {u1 u3 u4 u5 u6 u7 u8 u9 u10 u11 u12 u13 u14 u15 u16 u17 u18 u19 u20 u21 u22 u23 u24 u25 u26 u27 u28 u29 u30 u31 u32 u33 u34 u35 u36 u37 u38 u39 u40 u41 u42 u43 u44 u45 u46 u47 u48 u49 u50 u51 u52 u53 u54 u55 u56 u57 u58 u59 u60 u61 u62 u63 u64 u65 u66 u67 u68 u69 u70 u71 u72 u73 u74 u75 u76 u77 u78 u79 u80 u81 u82 u83 u84:Value}:
  Code.wp prog (xO 2 ((f84.body).getD .skip)) (bodyPost prog f84 λe w'=>
   e=returned (tuple #[])/\∃v,Cv H b S t w' f.1 v (j++f.2)/\Keep H b l w')
   ⟨(pX b::u1::iX (t.count:Int)::u3::u4::u5::u6::u7::u8::u9::u10::u11::u12::u13::u14::u15::u16::u17::u18::u19::u20::u21::u22::u23::u24::u25::u26::u27::u28::u29::u30::u31::u32::u33::u34::u35::u36::u37::u38::u39::u40::u41::u42::u43::u44::u45::u46::u47::u48::u49::u50::u51::u52::u53::u54::u55::u56::u57::u58::u59::u60::u61::u62::u63::u64::u65::u66::u67::u68::u69::u70::u71::u72::u73::u74::u75::u76::u77::u78::u79::u80::u81::u82::u83::u84::[]).toArray,[]⟩ w:=by
 conv=>arg 2;whnf
 refine wp_seq_k ?_;intro ah hK0;have G:=vl hK0;have W:=vl D;have X:=vl E;have I:=vl F;clear D E F hK0;go_wp2;go_loopg [] r.count (λk wr=>∃(a:Rs) (y:Value) (c:List Ev),k=a.count/\Cv H b S t wr a y c/\Keep H b l wr/\a.Fit t a.count/\c.length+a.count<4194304/\
  f.1=(Rs.drain t a.count a).1.ended.1/\j++f.2=c++((Rs.drain t a.count a).2++(Rs.drain t a.count a).1.ended.2))
 case atStart=>exact⟨r,v0,j,rfl,W,X,V,T,by rw[I.out],by rw[I.out]⟩
 case round=>
  obtain⟨a,y,c,J,d,q,p,ai,g,h⟩:=hrel;have o:Hid (gk=a.count/\Cv H b S t wr a y c/\Keep H b l wr/\f.1=(Rs.drain t a.count a).1.ended.1/\j++f.2=c++((Rs.drain t a.count a).2++(Rs.drain t a.count a).1.ended.2)):=⟨J,d,q,g,h⟩
  have aj:=d.run.get_tp;have L:=d.run.get_opn;have ak:=d.run.get_count;have Y:=d.run.get_ahead;have aa:=d.run.frozen 81;by_cases ab:a.count=0
  ·have ac:¬(0:Int)<(a.count:Int):=by omega
   have ad:=vl ab;go_wp2;apply G.out;obtain⟨_,d,q,g,h⟩:=o;have z:Rs.drain t a.count a=(a,[]):=by rw[ad.out];rfl
   rw[z] at g h;rw[g,show j++f.2=c++a.ended.2 from h];exact zGB b H S t l _ a c d (by omega) q _ rfl
  ·have ac:(0:Int)<(a.count:Int):=by omega
   cases u:a.opn
   ·rw[u] at L
    go_wp2;apply G.out;obtain⟨_,d,q,g,h⟩:=o;have z:Rs.drain t a.count a=(a,[]):=by cases al:a.count with|zero=>rfl|succ n=>rw[Rs.drain,if_pos u]
    rw[z] at g h;rw[g,show j++f.2=c++a.ended.2 from h];exact zGB b H S t l _ a c d (by omega) q _ rfl
   ·rw[u] at L
    have ae:=vl u;have M:=vl <| (Cx.alike (w':=wr.drew) o.2.1 ⟨rfl,rfl,rfl⟩).tab;have am:=ok.count;have an:=ok.rows;have ao:=p.ahead;go_wp2;go_region_with ((go_at_call 108;go_must ((refine (zBE a.tp _ S t M ok a.ahead t.count (by omega) (by omega)).mono ?_;rintro e ap ⟨rfl,s⟩;have aq:=(s.cell ⟨b,81,none⟩).trans Y;have ar:=(s.frozen ⟨b,81,none⟩).trans aa))))
    all_goals
     have B:=vl <| Cx.alike o.2.1 s;have af:=vl <| o.2.2.1.trans (Keep.alike s);have ag:=vl <| Cx.stored B 81 _ (B.run.set_ahead (t.further a.ahead t.count)) rfl;clear M s B;go_wp2_with fail;refine(zI7 b H S t _ (a.look t) c ag (by omega) ok U (a.look_ok t p.ok) (by show 1<=a.count;omega) (hY _ ok.rows0) (by have:=p.hAt;show a.hAt<_;omega) (by have:=p.hLine;show a.hLine<_;omega) (by have:=p.hCol;show a.hCol<_;omega)).mono ?_;rintro e N ⟨rfl,O,P,Q⟩;have R:Hid (Cv H b S t N ((a.look t).step t).1 O (c++((a.look t).step t).2)/\Keep H b l N):=⟨P,(af.trans (Keep.set _ _ _)).trans Q⟩
     clear P Q;go_wp2_with fail;go_roundg ((a.look t).step t).1.count
     case measure=>rw[o.out.1,Rs.step_count];omega
     case rel=>
      obtain⟨J,_,_,g,h⟩:=o;obtain⟨m,C⟩:∃m,a.count=m+1:=⟨a.count-1,by omega⟩
      have x:((a.look t).step t).1.count=m:=by rw[Rs.step_count,C];rfl
      have au:=a.step_one t;rw[C,Rs.drain,if_neg (by rw[ae.out];decide)] at g h;refine⟨((a.look t).step t).1,O,c++((a.look t).step t).2,rfl,R.1,R.2,?_,?_,?_,?_⟩
      ·rw[x];exact a.step_fit t m ok (by rw[<-C];exact p)
      ·rw[x,kX];omega
      ·rw[x];exact g
      ·rw[x,h];simp[hJ]
def Tb.aheadTo (t:Tb)(a:Nat):Nat->Nat
 |0=>a
 |j+1=>t.further (t.aheadTo a j) t.count
theorem Tb.aheadTo_lt (t:Tb)(ok:t.Ok)(a j:Nat)(b:a<t.rows):t.aheadTo a j<t.rows:=by
 cases j with
 |zero=>exact b
 |succ j=>exact hY _ ok.rows0
def Rs.pad (r:Rs)(t:Tb)(j:Nat):Rs:={r with ahead:=t.aheadTo r.ahead j}
theorem Rs.pad_ok (r:Rs)(t:Tb)(j:Nat)(a:r.Ok t):(r.pad t j).Ok t:=⟨a.d1,a.d4,a.st,a.state,a.first,a.count,a.bytes⟩
def Rs.closed (r:Rs)(t:Tb):Rs×List Ev:=
 let d:=Rs.drain t r.count (r.pad t (t.ahead-r.count))
 (d.1.ended.1,d.2++d.1.ended.2)
theorem zNr (b H:Nat)(S:Nat->Prop)(t:Tb)(l w:World)(r:Rs){v0:Value}(c:List Ev)(p:Cv H b S t w r v0 c)(z:c.length+r.count<4194304)(ok:t.Ok)(B:∀i,i<t.nrule->t.act i<4)(d:r.Fit t r.count)(s:Keep H b l w)
  (f:Rs×List Ev) (u:f=r.closed t)
  {u1 u3 u4 u5 u6 u7 u8 u9 u10 u11 u12 u13 u14 u15 u16 u17 u18 u19 u20 u21 u22 u23 u24 u25 u26 u27 u28 u29 u30 u31 u32 u33 u34 u35 u36 u37 u38 u39 u40 u41 u42 u43 u44 u45 u46 u47 u48 u49 u50 u51 u52 u53 u54 u55 u56 u57 u58 u59 u60 u61 u62 u63 u64 u65 u66 u67 u68 u69 u70 u71 u72 u73 u74 u75 u76 u77 u78 u79 u80 u81 u82 u83 u84:Value}:
  Code.wp prog (xO 1 ((f84.body).getD .skip)) (bodyPost prog f84 λe w'=>
   e=returned (tuple #[])/\∃v,Cv H b S t w' f.1 v (c++f.2)/\Keep H b l w')
   ⟨(pX b::u1::iX (t.count:Int)::u3::u4::u5::u6::u7::u8::u9::u10::u11::u12::u13::u14::u15::u16::u17::u18::u19::u20::u21::u22::u23::u24::u25::u26::u27::u28::u29::u30::u31::u32::u33::u34::u35::u36::u37::u38::u39::u40::u41::u42::u43::u44::u45::u46::u47::u48::u49::u50::u51::u52::u53::u54::u55::u56::u57::u58::u59::u60::u61::u62::u63::u64::u65::u66::u67::u68::u69::u70::u71::u72::u73::u74::u75::u76::u77::u78::u79::u80::u81::u82::u83::u84::[]).toArray,[]⟩ w:=by
 conv=>arg 2;whnf
 refine wp_seq_k ?_;intro U hK0;have C:=vl hK0;have D:=vl p;have E:=vl s;have F:=vl u;have V:cX w b 77=some (iX r.count):=p.run.get_count;clear p s u hK0;have W:=ok.ahead;have X:=d.ok.count;have Y:=ok.count;have aa:=ok.rows;go_wp2;go_loopg [3] (t.ahead-r.count) (λk i wr=>∃j:Nat,k=t.ahead-r.count-j/\j<=t.ahead-r.count/\i=iX ((r.count:Int)+(j:Int))/\Cv H b S t wr (r.pad t j) v0 c/\Keep H b l wr)
 case atStart=>exact⟨0,rfl,lX,congrArg (Value.int IntKind.i64) (by omega),D,E⟩
 case round=>
  obtain⟨j,G,ab,rfl,m,I⟩:=hrel;have g:Hid (gk=t.ahead-r.count-j/\Cv H b S t wr (r.pad t j) v0 c/\Keep H b l wr):=⟨G,m,I⟩
  have ac:cX wr b 0=some (pX r.tp):=m.run.get_tp;have J:cX wr b 81=some (iX (t.aheadTo r.ahead j:Nat)):=m.run.get_ahead;have L:=m.run.frozen 81;have ad:cX wr r.tp 1=some (iX t.ahead):=m.tab.c1;have M:=t.aheadTo_lt ok r.ahead j d.ahead;have N:Hid (t.aheadTo r.ahead (j+1)=t.further (t.aheadTo r.ahead j) t.count):=rfl;by_cases ae:j<t.ahead-r.count
  ·have O:(r.count:Int)+(j:Int)<(t.ahead:Int):=by omega
   have P:=vl <| (Cx.alike (w':=wr.drew) g.2.1 ⟨rfl,rfl,rfl⟩).tab;generalize t.aheadTo r.ahead j=a at *;go_wp2;go_region_with ((go_at_call 108;go_must ((refine (zBE r.tp _ S t P ok a t.count (by omega) (by omega)).mono ?_;rintro e q ⟨rfl,o⟩;have af:cX q b 81=some (iX (a:Nat)):=(o.cell ⟨b,81,none⟩).trans J;have ag:q.frozen? ⟨b,81,none⟩=false:=(o.frozen ⟨b,81,none⟩).trans L))))
   all_goals
    have x:=vl <| Cx.alike g.2.1 o;have Q:=vl <| g.2.2.trans (Keep.alike o);have R:Hid (Cv H b S t (q.setCell ⟨b,81,none⟩ (iX (t.further a t.count:Nat))) (r.pad t (j+1)) v0 c):=by
     have y:=Cx.stored x 81 _ (x.run.set_ahead (t.further a t.count)) rfl;rw[<-N.out] at y ⊢;exact y
    go_wp2;go_roundg (t.ahead-r.count-(j+1))
    case measure=>rw[g.out.1];omega
    case rel=>exact⟨j+1,rfl,by omega,congrArg (Value.int IntKind.i64) (by omega),R,Q.trans (Keep.set _ _ _)⟩
  ·have O:(t.ahead:Int)<=(r.count:Int)+(j:Int):=by omega
   have T:Hid (j=t.ahead-r.count):=by show j=_;omega
   go_wp2;apply C.out;refine zJ9 b H S t l _ (r.pad t j) c g.2.1 z ok B ⟨r.pad_ok t j d.ok,M,d.hAt,d.hLine,d.hCol⟩ g.2.2 f ?_;rw[F.out,T.out];rfl
theorem zEj (b H:Nat)(S:Nat->Prop)(t:Tb)(w:World)(r:Rs){v0:Value}(a:List Ev)(c:Cv H b S t w r v0 a)(g:a.length+r.count<4194304)(ok:t.Ok)(h:∀i,i<t.nrule->t.act i<4)(j:r.Fit t r.count):
  Calls prog 84 #[pX b] w λe w'=>
   e=returned (tuple #[])/\∃v,Cv H b S t w' (r.closed t).1 v (a++(r.closed t).2)/\Keep H b w w':=by
 have d:=vl c;have l:=c.run.get_tp;go_in;apply wp_cut;intro m k;go_wp2_with fail;refine(zNh r.tp _ S t d.tab).mono ?_;rintro e w1 ⟨rfl,f⟩;go_wp2;apply k.out;exact zNr b H S t w _ r a (Cx.alike d f) g ok h j (Keep.alike f) _ rfl
structure Rs.Str (r:Rs)(t:Tb)(P:Nat):Prop where
 ok:r.Ok t
 ahead:r.ahead<t.rows
 cnt:r.count<=t.ahead
 pos:r.hAt+r.count<=P
 line:r.hLine<=r.hAt+1
 col:r.hCol<=r.hAt+1
theorem Rs.step_opn (r:Rs)(t:Tb):((r.step t).1.opn=r.opn\/(r.step t).2≠[])/\((r.step t).1.opn=true->r.opn=true)/\(r.step t).2.length<=1:=by
 have a:=(r.took t).fin_one t;refine⟨?_,?_,a⟩
 ·show((r.took t).fin t).1.opn=r.opn\/((r.took t).fin t).2≠[]
  unfold Rs.fin;split
  ·exact((r.took t).tok_opn t _ _ _ _).1
  ·split
   ·exact .inr (by simp)
   ·exact .inl rfl
 ·show((r.took t).fin t).1.opn=true->r.opn=true
  unfold Rs.fin;split
  ·exact((r.took t).tok_opn t _ _ _ _).2.1
  ·split
   ·intro b;cases b
   ·exact id
theorem Rs.take_inv (r:Rs)(t:Tb)(P c:Nat)(ok:t.Ok)(a:r.Str t P)(i:c<256)(j:r.opn=true):
  (r.take t c).1.Str t (P+1)/\(r.take t c).2.length+(r.take t c).1.count+xN (r.take t c).1.opn<=r.count+2/\((r.take t c).1.opn=true\/(r.take t c).2≠[]):=by
 have o:=ok.ahead;have p:=a.cnt;have s:=a.pos;have u:=a.line;have v:=a.col;have g:((r.added c).looked t (t.kind c)).Ok t:=let a:=r.added_ok t c a.ok i (by omega);⟨a.d1,a.d4,a.st,a.state,a.first,a.count,a.bytes⟩;unfold Rs.take Rs.due;generalize b:(r.added c).looked t (t.kind c)=q at *;have w:q.count=r.count+1:=by rw[<-b];rfl
 have x:q.hAt=r.hAt:=by rw[<-b];rfl
 have y:q.hLine=r.hLine:=by rw[<-b];rfl
 have z:q.hCol=r.hCol:=by rw[<-b];rfl
 have f:q.opn=true:=by rw[<-b];exact j
 have k:q.ahead<t.rows:=by rw[<-b];exact hY _ ok.rows0
 have A:xN true=1:=rfl;split
 ·rename_i l
  obtain⟨s1,s2,B⟩:=q.step_opn t;have d:=(q.took t).fin_same t;have C:(q.step t).1.count=q.count-1:=d.count;have D:(q.step t).1.hAt=q.hAt+1:=d.hAt;have E:(q.step t).1.hLine<=q.hLine+1:=by
   have e:(q.step t).1.hLine=zAV (q.byte q.first) q.hLine:=d.hLine;rw[e];unfold zAV;split <;> omega
  have F:(q.step t).1.hCol<=q.hCol+1:=by
   have e:(q.step t).1.hCol=zCL (q.byte q.first) q.hCol:=d.hCol;rw[e];unfold zCL;split <;> omega
  have G:(q.step t).1.ahead=q.ahead:=d.ahead;have m:=(q.took t).fin_ok t ok (q.took_ok t ok g);have H:xN (q.step t).1.opn<=1:=by unfold xN;split <;> omega
  exact⟨⟨m,by omega,by omega,by omega,by omega,by omega⟩,by omega,by rw[f] at s1;exact s1⟩
 ·rename_i l
  refine⟨⟨g,k,by show q.count<=t.ahead;omega,by show q.hAt+q.count<=P+1;omega,by show q.hLine<=q.hAt+1;omega,by show q.hCol<=q.hAt+1;omega⟩,?_,.inl f⟩;show 0+q.count+xN q.opn<=r.count+2;rw[f];omega
def Rs.Good (r:Rs)(t:Tb)(P:Nat):Prop:=if t.stream then r.Str t P else r.Oth t P
theorem Rs.Good.ok {r:Rs}{t:Tb}{P:Nat}(a:r.Good t P):r.Ok t:=by
 unfold Rs.Good at a;split at a
 ·exact a.ok
 ·exact a.ok
theorem Rs.Good.cnt {r:Rs}{t:Tb}{P:Nat}(a:r.Good t P):r.count<=P:=by
 unfold Rs.Good at a;split at a
 ·have:=a.pos;omega
 ·have:=a.pos;omega
def Rs.eat (r:Rs)(t:Tb)(c:Nat):Rs×List Ev:=if t.stream then r.take t c else r.takeO t c
theorem Rs.eat_inv (r:Rs)(t:Tb)(P c:Nat)(ok:t.Ok)(a:r.Good t P)(d:c<256)(e:r.opn=true):
  (r.eat t c).1.Good t (P+1)/\(r.eat t c).2.length+(r.eat t c).1.count+xN (r.eat t c).1.opn<=r.count+2/\((r.eat t c).1.opn=true\/(r.eat t c).2≠[]):=by
 unfold Rs.eat Rs.Good at *;split
 ·rename_i b
  rw[if_pos b] at a;exact r.take_inv t P c ok a d e
 ·rename_i b
  rw[if_neg b] at a;exact r.takeO_inv t P c ok a d e
def Rs.feed (t:Tb):List Nat->Rs->Rs×List Ev
 |[],r=>(r,[])
 |c::cs,r=>if r.opn then((Rs.feed t cs (r.eat t c).1).1,(r.eat t c).2++(Rs.feed t cs (r.eat t c).1).2) else(r,[])
theorem Rs.feed_shut (t:Tb)(cs:List Nat)(r:Rs)(a:r.opn=false):Rs.feed t cs r=(r,[]):=by
 cases cs with
 |nil=>rfl
 |cons c cs=>unfold Rs.feed;rw[if_neg (by rw[a];decide)]
theorem Rs.feed_append (t:Tb)(xs bs:List Nat)(r:Rs):Rs.feed t (xs++bs) r=((Rs.feed t bs (Rs.feed t xs r).1).1,(Rs.feed t xs r).2++(Rs.feed t bs (Rs.feed t xs r).1).2):=by
 induction xs generalizing r with
 |nil=>simp[Rs.feed]
 |cons c xs d=>
  by_cases b:r.opn=true
  ·simp only[List.cons_append,Rs.feed,b,if_true,d,hJ]
  ·have a:r.opn=false:=by simpa using b
   rw[Rs.feed_shut t _ r a,Rs.feed_shut t _ r a];rw[Rs.feed_shut t _ r a,gG]
theorem Rs.feed_snoc (t:Tb)(cs:List Nat)(c:Nat)(r:Rs)(a:(Rs.feed t cs r).1.opn=true):Rs.feed t (cs++[c]) r=(((Rs.feed t cs r).1.eat t c).1,(Rs.feed t cs r).2++((Rs.feed t cs r).1.eat t c).2):=by
 rw[Rs.feed_append];simp[Rs.feed,a]
theorem Rs.feed_inv (t:Tb)(ok:t.Ok)(cs:List Nat)(r:Rs)(P:Nat)(a:r.Good t P)(f:∀c∈cs,c<256):
  (Rs.feed t cs r).1.Good t (P+cs.length)/\(Rs.feed t cs r).2.length+(Rs.feed t cs r).1.count+xN (Rs.feed t cs r).1.opn<=r.count+xN r.opn+cs.length/\((Rs.feed t cs r).1.opn=r.opn\/(Rs.feed t cs r).2≠[]):=by
 induction cs generalizing r P with
 |nil=>exact⟨a,by simp[Rs.feed],.inl rfl⟩
 |cons c cs j=>
  by_cases b:r.opn=true
  ·obtain⟨k,s,l⟩:=r.eat_inv t P c ok a (f c hU) b
   obtain⟨m,b2,o⟩:=j (r.eat t c).1 (P+1) k λx p=>f x (List.mem_cons_of_mem _ p);have e:Rs.feed t (c::cs) r=((Rs.feed t cs (r.eat t c).1).1,(r.eat t c).2++(Rs.feed t cs (r.eat t c).1).2):=by
    rw[Rs.feed,if_pos b]
   rw[e,b];have u:xN true=1:=rfl;refine⟨?_,?_,?_⟩
   ·rw[List.length_cons,Nat.add_comm cs.length,<-Nat.add_assoc];exact m
   ·rw[kX,List.length_cons]
    show(r.eat t c).2.length+(Rs.feed t cs (r.eat t c).1).2.length+(Rs.feed t cs (r.eat t c).1).1.count+xN (Rs.feed t cs (r.eat t c).1).1.opn<=_;omega
   ·show(Rs.feed t cs (r.eat t c).1).1.opn=true\/(r.eat t c).2++(Rs.feed t cs (r.eat t c).1).2≠[]
    by_cases g:(r.eat t c).2=[]
    ·by_cases i:(Rs.feed t cs (r.eat t c).1).2=[]
     ·left
      rw[o.resolve_right (λa=>a i)];exact l.resolve_right (λa=>a g)
     ·right;simp[i]
    ·right;simp[g]
  ·have q:r.opn=false:=by simpa using b
   rw[Rs.feed_shut t _ r q];refine⟨?_,?_,.inl rfl⟩
   ·unfold Rs.Good at *
    split
    ·rename_i d
     rw[if_pos d] at a;exact⟨a.ok,a.ahead,a.cnt,lY a.pos (Nat.le_add_right _ _),a.line,a.col⟩
    ·rename_i d
     rw[if_neg d] at a;exact⟨a.ok,a.len,a.tak,a.rule,lY a.pos (Nat.le_add_right _ _),a.line,a.col1,a.col⟩
   ·show 0+r.count+xN r.opn<=_
    omega
def Rs.shut (r:Rs)(t:Tb):Rs×List Ev:=if r.opn then(if t.stream then r.closed t else r.closeO t) else(r,[])
theorem Rs.drain_end (t:Tb)(n:Nat)(r:Rs):((Rs.drain t n r).1.opn=r.opn\/(Rs.drain t n r).2≠[])/\(Rs.drain t n r).2.length<=n:=by
 induction n generalizing r with
 |zero=>exact⟨.inl rfl,lQ⟩
 |succ n d=>
  rw[Rs.drain];split
  ·exact⟨.inl rfl,lX⟩
  ·obtain⟨s1,s2,f⟩:=(r.look t).step_opn t
   obtain⟨e,g⟩:=d ((r.look t).step t).1
   constructor
   ·show(Rs.drain t n ((r.look t).step t).1).1.opn=r.opn\/((r.look t).step t).2++(Rs.drain t n ((r.look t).step t).1).2≠[]
    by_cases b:((r.look t).step t).2=[]
    ·by_cases c:(Rs.drain t n ((r.look t).step t).1).2=[]
     ·left
      rw[e.resolve_right (λa=>a c)];exact s1.resolve_right (λa=>a b)
     ·right;simp[c]
    ·right;simp[b]
   ·show(((r.look t).step t).2++(Rs.drain t n ((r.look t).step t).1).2).length<=n+1
    rw[kX];omega
theorem Rs.closed_end (r:Rs)(t:Tb)(c:r.opn=true):(r.closed t).1.opn=false/\(r.closed t).2≠[]/\(r.closed t).2.length<=r.count+1:=by
 obtain⟨a,f⟩:=Rs.drain_end t r.count (r.pad t (t.ahead-r.count));have e:(r.pad t (t.ahead-r.count)).opn=true:=c;rw[e] at a;unfold Rs.closed;simp only;generalize Rs.drain t r.count (r.pad t (t.ahead-r.count))=g at *;unfold Rs.ended;split
 ·rename_i b
  refine⟨b,?_,?_⟩
  ·have:=a.resolve_left (by rw[b];decide)
   simpa using this
  ·simp;omega
 ·exact⟨rfl,by simp,by simp;omega⟩
def nats (s:ByteArray):List Nat:=s.data.toList.map UInt8.toNat
theorem zLZ (s:ByteArray):∀c∈nats s,c<256:=by
 intro c a;obtain⟨x,_,rfl⟩:=List.mem_map.1 a;exact x.toNat_lt
theorem zBv (s:ByteArray):(nats s).length=s.size:=by
 unfold nats;rw[kV,Array.length_toList];rfl
def zLK (i:Nat):Value:=if i=0 then pointer none else if i=1 then bool false else if i=2 then slice none 0 0 else if 12<=i∧i<76 then int .u8 0 else int i64 0
theorem zCV:zeroCells102=((List.range 85).map zLK).toArray:=by kernel_rfl
theorem zIq:(prog.info? 102).map (·.size)=some 85:=by kernel_rfl
def Rs.zero (p:Nat):Rs:=⟨p,true,fun _=>0,0,0,1,1,0,fun _=>0,0,0,0,1,1,0,0,0,0⟩
def zAq (z:Array Value)(p:Nat):Array Value:=(((((((z.setIfInBounds 0 (pointer (some ⟨p,0,none⟩))).setIfInBounds 1 (bool true)).setIfInBounds 8 (int i64 0)).setIfInBounds 9 (int i64 1)).setIfInBounds 10 (int i64 1)).setIfInBounds 78 (int i64 0)).setIfInBounds 79 (int i64 1)).setIfInBounds 80 (int i64 1)
theorem zAF (p:Nat):(zAq zeroCells102 p).size=85:=by unfold zAq;rw[zCV];simp
theorem zE5 (p i:Nat)(hi:i<85):(zAq zeroCells102 p)[i]? =some ((Rs.zero p).cells (slice none 0 0) i):=by
 unfold zAq;rw[zCV];simp only[Array.getElem?_setIfInBounds,Array.size_setIfInBounds,List.getElem?_toArray,List.size_toArray,kV,List.length_range,gQ];rw[List.getElem?_range hi];unfold Rs.cells zLK Rs.zero;simp only[Option.map_some];by_cases h0:i=0
 ·subst h0;rfl
 by_cases h1:i=1
 ·subst h1;rfl
 by_cases h2:i=2
 ·subst h2;rfl
 by_cases h8:i=8
 ·subst h8;rfl
 by_cases h9:i=9
 ·subst h9;rfl
 by_cases h10:i=10
 ·subst h10;rfl
 by_cases h78:i=78
 ·subst h78;rfl
 by_cases h79:i=79
 ·subst h79;rfl
 by_cases h80:i=80
 ·subst h80;rfl
 rw[if_neg (Ne.symm h80),if_neg (Ne.symm h79),if_neg (Ne.symm h78),if_neg (Ne.symm h10),if_neg (Ne.symm h9),if_neg (Ne.symm h8),if_neg (Ne.symm h1),if_neg (Ne.symm h0)];simp only[h0,h1,h2,h8,h9,h10,h78,h79,h80,if_false];by_cases hb:12<=i∧i<76
 ·rw[if_pos hb]
  repeat rw[if_neg (by omega)]
  rfl
 ·rw[if_neg hb]
  by_cases h3:i=3
  ·subst h3;rfl
  by_cases h4:i=4
  ·subst h4;rfl
  by_cases h5:i=5
  ·subst h5;rfl
  by_cases h6:i=6
  ·subst h6;rfl
  by_cases h7:i=7
  ·subst h7;rfl
  by_cases h11:i=11
  ·subst h11;rfl
  by_cases h76:i=76
  ·subst h76;rfl
  by_cases h77:i=77
  ·subst h77;rfl
  by_cases h81:i=81
  ·subst h81;rfl
  by_cases h82:i=82
  ·subst h82;rfl
  by_cases h83:i=83
  ·subst h83;rfl
  have h84:i=84:=by omega
  subst h84;rfl
theorem zOe {H:Nat}(w:World)(g i:Nat)(x:Value)(hg:H<=g):Keep H H w (w.setCell ⟨g,i,none⟩ x):=⟨rfl,rfl,by simp[World.setCell],fun k h1 _=>lJ _ _ _ _ (by show k≠g;omega)⟩
theorem yS {c:Prop}[Decidable c] {x y:Value}(hx:x.oneCell'=true)(hy:y.oneCell'=true):(if c then x else y).oneCell'=true:=by split <;> assumption
theorem Rs.cells_one (r:Rs)(v:Value)(j:Nat)(hv:v.oneCell'=true):(r.cells v j).oneCell'=true:=by
 unfold Rs.cells;exact yS rfl (yS rfl (yS hv (yS rfl (yS rfl (yS rfl (yS rfl (yS rfl (yS rfl (yS rfl (yS rfl (yS rfl (yS rfl (yS rfl (yS rfl (yS rfl (yS rfl (yS rfl (yS rfl (yS rfl (yS rfl rfl))))))))))))))))))))
theorem zHC (r:Rs)(v:Value)(hv:v.oneCell'=true)(C:Array Value)(hs:C.size=85)(h:∀i,i<85->C[i]? =some (r.cells v i)):C.all (·.oneCell')=true:=by
 rw[Array.all_eq_true];intro i hi;have e:=h i (by omega);rw[Array.getElem?_eq_getElem hi] at e;rw[hQ e];exact r.cells_one v i hv
theorem zKj (p:Nat)(S:Nat->Prop)(t:Tb)(w:World)(hT:TabAt w S p t)(hS:∀k,S k->k<w.heap.size)(ok:t.Ok):
  Calls prog 49 #[pointer (some ⟨p,0,none⟩)] w fun e w'=>∃c:Array Value,e=returned (agg c)∧c.size=85∧(∀i,i<85->c[i]? =some (({Rs.zero p with stack:=fun _=>0,depth:=1,state:=t.start 0}:Rs).cells (slice none 0 0) i))∧Grew w w':=by
 have hst:(storeCells {block:=w.heap.size+1+1,off:=0} ((((((((zeroCells102.toList.set 0 (Value.pointer (some {block:=p,off:=0}))).set 1 (Value.bool true)).set 8 (Value.int IntKind.i64 0)).set 9 (Value.int IntKind.i64 1)).set 10 (Value.int IntKind.i64 1)).set 78 (Value.int IntKind.i64 0)).set 79 (Value.int IntKind.i64 1)).set 80 (Value.int IntKind.i64 1))).run prog
   (((w.alloc (Obj.cells zeroCells102 102)).alloc (Obj.cells #[Value.int IntKind.i64 0,Value.int IntKind.i64 1,Value.int IntKind.i64 1] 97)).alloc (Obj.cells zeroCells102 102))=
   .ok () (((w.alloc (Obj.cells zeroCells102 102)).alloc (Obj.cells #[Value.int IntKind.i64 0,Value.int IntKind.i64 1,Value.int IntKind.i64 1] 97)).alloc (Obj.cells (zAq zeroCells102 p) 102)):=by
  have h:=run_storeCells_new (P:=prog) ((w.alloc (Obj.cells zeroCells102 102)).alloc (Obj.cells #[Value.int IntKind.i64 0,Value.int IntKind.i64 1,Value.int IntKind.i64 1] 97)) 102 zeroCells102 (zAq zeroCells102 p) (by rw[zAF];exact zIq) (by rw[zAF,zCV];simp) (zHC (Rs.zero p) (slice none 0 0) rfl _ (zAF p) (zE5 p));rw[show ((w.alloc (Obj.cells zeroCells102 102)).alloc (Obj.cells #[Value.int IntKind.i64 0,Value.int IntKind.i64 1,Value.int IntKind.i64 1] 97)).heap.size=w.heap.size+1+1 by simp] at h;simpa only[zAq,Array.toList_setIfInBounds] using h
 have HT:Hid (TabAt w S p t∧∀k,S k->k<w.heap.size):=⟨hT,hS⟩
 go_in;apply wp_cut;intro K0 HK0;go_wp2;apply HK0.out;apply wp_cut;intro K1 HK1;go_wp2;apply HK1.out;apply wp_cut;intro K2 HK2;go_wp2;apply HK2.out;obtain⟨w3,hw3,A3⟩:∃w3,w3=(((w.alloc (Obj.cells zeroCells102 102)).alloc (Obj.cells #[Value.int IntKind.i64 0,Value.int IntKind.i64 1,Value.int IntKind.i64 1] 97)).alloc (Obj.cells (zAq zeroCells102 p) 102))∧
   Hid (zL w3 (w.heap.size+1+1) (Rs.zero p) (slice none 0 0)∧w3.heap[w.heap.size]? =some (.cells zeroCells102 102 (0,0))∧TabAt w3 S p t∧Grew w w3∧w.heap.size+3<=w3.heap.size):=by
  have hn:=gX ((w.alloc (Obj.cells zeroCells102 102)).alloc (Obj.cells #[Value.int IntKind.i64 0,Value.int IntKind.i64 1,Value.int IntKind.i64 1] 97)) (Obj.cells (zAq zeroCells102 p) 102);rw[show ((w.alloc (Obj.cells zeroCells102 102)).alloc (Obj.cells #[Value.int IntKind.i64 0,Value.int IntKind.i64 1,Value.int IntKind.i64 1] 97)).heap.size=w.heap.size+1+1 by simp] at hn;refine⟨_,rfl,⟨_,_,hn,zAF p,fun i hi=>zE5 p i hi⟩,?_,?_,?_,by simp⟩
  ·exact(lG _ _ _ (by simp;omega)).trans ((lG _ _ _ (by simp)).trans (gX w _))
  ·exact HT.out.1.keep fun k hk=>by
    have:=HT.out.2 k hk;exact(lG _ _ _ (by simp;omega)).trans ((lG _ _ _ (by simp;omega)).trans (lG _ _ _ this))
  ·exact((kZ _ _ lQ).trans (kZ _ _ (by simp))).trans (kZ _ _ (by simp;omega))
 rw[<-hw3];clear hw3 hst;apply wp_cut;intro K3 HK3;go_wp2_with fail;refine(zF8 (w.heap.size+1+1) 0 w3 (Rs.zero p) A3.out.1 (by show(0:Nat)<4;decide)).mono ?_;rintro e w4 ⟨rfl,hR4,hk4⟩;have A4:Hid (zL w4 (w.heap.size+1+1) {Rs.zero p with stack:=fun j=>if j=0 then 0 else 0,depth:=1} (slice none 0 0)∧w4.heap[w.heap.size]? =some (.cells zeroCells102 102 (0,0))∧TabAt w4 S p t∧Grew w w4∧w.heap.size+3<=w4.heap.size):=by
  refine⟨hR4,((hk4 w3.heap.size).block _ (by have:=A3.out.2.2.2.2;omega) (by omega)).trans A3.out.2.1,A3.out.2.2.1.keep fun k hk=>(hk4 w3.heap.size).block k (by have:=HT.out.2 k hk;have:=A3.out.2.2.2.2;omega) (by have:=HT.out.2 k hk;omega),A3.out.2.2.2.1.trans ⟨(hk4 0).os,(hk4 0).output,(hk4 0).size,fun k hk _=>(hk4 w3.heap.size).block k (by have:=A3.out.2.2.2.2;omega) (by omega)⟩,lY A3.out.2.2.2.2 (hk4 0).size⟩
 go_wp2;apply HK3.out;refine wp_seq_k ?_;intro K4 hK4;have HK4:Hid (∀a w,_->K4 a w):=hK4;clear hK4;have y11:w4.cell? ⟨w.heap.size+1+1,11,none⟩=some (int i64 0):=A4.out.1.get_state;have z11:=A4.out.1.frozen 11;go_wp2_with fail;refine(zAH (w.heap.size+1+1) w4 _ A4.out.1 S t A4.out.2.2.1 lQ (by show(1:Nat)<=4;decide) ok.nmode).mono ?_;rintro e w5 ⟨rfl,ha5⟩;have y11':w5.cell? ⟨w.heap.size+1+1,11,none⟩=some (int i64 0):=(ha5.cell _).trans y11;have z11':w5.frozen? ⟨w.heap.size+1+1,11,none⟩=false:=(ha5.frozen _).trans z11;clear y11 z11;go_wp2_with fail;apply HK4.out;clear HK4;obtain⟨w6,hw6,A6⟩:∃w6,w6=w5.setCell ⟨w.heap.size+1+1,11,none⟩ (int i64 (t.start 0:Nat))∧Hid (zL w6 (w.heap.size+1+1) {Rs.zero p with stack:=fun _=>0,depth:=1,state:=t.start 0} (slice none 0 0)∧w6.heap[w.heap.size]? =some (.cells zeroCells102 102 (0,0))∧Grew w w6∧w.heap.size+3<=w6.heap.size):=by
  have hR:=(A4.out.1.alike ha5).set_state (t.start 0);rw[show (fun j=>if j=0 then 0 else 0:Nat->Nat)=fun _=>0 from funext fun j=>by split <;> rfl] at hR;refine⟨_,rfl,hR,(lJ _ _ _ _ (by show w.heap.size≠w.heap.size+1+1;omega)).trans ((by rw[ha5.1]:w5.heap[w.heap.size]? =w4.heap[w.heap.size]?).trans A4.out.2.1),(A4.out.2.2.2.1.trans (Keep.alike ha5)).trans (zOe _ _ _ _ (by omega)),?_⟩;have:=A4.out.2.2.2.2;rw[<-ha5.1] at this;simpa[World.setCell] using this
 rw[<-hw6];clear hw6 y11' z11' ha5 A4;obtain⟨hR6,hZ6,hK6,hS6⟩:=A6.out;obtain⟨ty,c,hg6,hc85,hcat⟩:=hR6;have hone:=zHC _ (slice none 0 0) rfl c hc85 hcat
 clear A6;have HCA:Hid (∀i,i<85->c[i]? =some (({Rs.zero p with stack:=fun _=>0,depth:=1,state:=t.start 0}:Rs).cells (slice none 0 0) i)):=hcat
 have HG6:Hid (w6.heap[w.heap.size+1+1]? =some (.cells c ty (0,0))):=hg6;have HZ6:Hid (w6.heap[w.heap.size]? =some (.cells zeroCells102 102 (0,0))):=hZ6;have HON:Hid (c.all (·.oneCell')=true):=hone;clear hcat hg6 hZ6 hone;go_wp2_with fail;refine wp_load_row 102 (.tmp 4) rfl (w.heap.size+1+1) rfl ty c (0,0) _ HG6.out underlying102 rfl (by rw[hc85];exact zIq) ?_;have hs3:(storeCells ⟨w.heap.size,0,none⟩ c.toList).run prog w6=.ok () (w6.setRow w.heap.size c):=by
  have h:=run_storeCells_from (P:=prog) w.heap.size 102 c.toList 0 zeroCells102 w6 HZ6.out (by rw[zCV];simp[hc85]) (fun v hv=>(Array.all_eq_true_iff_forall_mem.1 HON.out) v (by simpa using hv));simpa using h
 go_wp2_with fail;have hg7:(w6.setRow w.heap.size c).heap[w.heap.size]? =some (.cells c 102 (0,0)):=by
  unfold World.setRow;simp[lU,HZ6.out]
 have hl2:(loadVar 102 ⟨w.heap.size,0,none⟩).run prog (w6.setRow w.heap.size c)=.ok (agg c) (w6.setRow w.heap.size c):=run_loadVar_row _ _ 102 102 c (0,0) _ hg7 underlying102 rfl (by rw[hc85];exact zIq);refine gV (v:=agg c) ?_ rfl ⟨c,rfl,hc85,HCA.out,hK6.trans ?_⟩
 ·unfold results
  rw[results49];simp[hl2,asAddr,Sem.run_bind,Sem.run_pure]
 ·refine⟨rfl,rfl,by simp[World.setRow],fun k hk _=>?_⟩
  unfold World.setRow;simp[lU];intro e;omega
end Go.Proofs.YtbjcfkdnjaiclaaGreat
