import Derived.Test.YtbjcfkdnjaiclaaGreatO0
import Derived.Test.YtbjcfkdnjaiclaaGreatO6
/- Parts of the proof. -/
set_option linter.unusedVariables false
set_option linter.unusedSimpArgs false
set_option maxHeartbeats 4000000
set_option maxRecDepth 100000
namespace Go.Proofs.YtbjcfkdnjaiclaaGreat
open Go.RowKit Go.Proofs.Tryz Go.World
open Go.Value (int slice bool pointer string agg tuple)
open Go.IntKind (i64)
open Go.Ending (returned)
section
variable {xs:List Nat} {P:Nat} (t:Tb) (n:Nat)
def lnT (xs:List Nat):Nat->Nat
 |0=>1
 |n+1=>zAf (xs.getD n 0) (lnT xs n)
def clT (xs:List Nat):Nat->Nat
 |0=>1
 |n+1=>zBu (xs.getD n 0) (clT xs n)
def Told (xs:List Nat):Nat->Nat->List Ev->Prop
 |a,b,[]=>a<=b
 |a,b,e::es=>∃f g:Nat,e.kind=1/\e.from_=f/\e.to=g/\e.line=lnT xs f/\e.col=clT xs f/\a<=f/\f<g/\Told xs g b es
theorem Told.app {d h:List Ev}:∀{a b c:Nat},Told xs a b d->Told xs b c h->Told xs a c (d++h):=by
 induction d with
 |nil=>
  intro a b c s j;cases h with
  |nil=>exact lY s j
  |cons e h=>
   obtain⟨f,g,k,l,m,o,p,q,r⟩:=j;exact⟨f,g,k,l,m,o,p,lY s q,r⟩
 |cons e d t=>
  rintro a b c ⟨f,g,k,l,m,o,p,q,r,u⟩ j;exact⟨f,g,k,l,m,o,p,q,r,t u j⟩
def Goes (xs:List Nat)(a:Nat)(f:Rs×List Ev):Prop:=
 (f.1.bLine=lnT xs f.1.bAt/\f.1.bCol=clT xs f.1.bAt/\f.1.bAt<=xs.length)/\(f.1.opn=true/\Told xs a f.1.bAt f.2\/f.1.opn=false/\∃es k,f.2=es++[f.1.lastEv k]/\Told xs a f.1.bAt es/\(3<=k/\k<=6\/k=2/\f.1.bAt=xs.length))
theorem Goes.then {a:Nat}{f g:Rs×List Ev}(b:Goes xs a f)(j:f.1.opn=true)(c:Goes xs f.1.bAt g):Goes xs a (g.1,f.2++g.2):=by
 have d:Told xs a f.1.bAt f.2:=by
  rcases b.2 with b|b
  ·exact b.2
  ·rw[j] at b;cases b.1
 refine⟨c.1,?_⟩;rcases c.2 with⟨o,t⟩|⟨o,l,k,e,t,m⟩
 ·exact .inl ⟨o,d.app t⟩
 ·exact .inr ⟨o,f.2++l,k,by show f.2++g.2=_;rw[e,gX],d.app t,m⟩
def Rs.Lc (xs:List Nat)(r:Rs):Prop:=r.bLine=lnT xs r.bAt/\r.bCol=clT xs r.bAt/\r.bAt<=xs.length
theorem Rs.Lc.stay {r:Rs}(a:r.Lc xs)(b:r.opn=true):Goes xs r.bAt (r,[]):=⟨a,.inl ⟨b,lQ⟩⟩
theorem Rs.Lc.last {r:Rs}(a:r.Lc xs)(k:Int)(b:3<=k/\k<=6\/k=2/\r.bAt=xs.length):Goes xs r.bAt ({r with opn:=false},[r.lastEv k]):=⟨a,.inr ⟨rfl,[],k,rfl,lQ,b⟩⟩
theorem Rs.tok_goes {r:Rs}(b:r.Lc xs)(d:r.opn=true)(t:Tb)(rule a l c:Nat)(f:r.bAt<a)(g:a<=xs.length)(j:l=lnT xs a)(k:c=clT xs a):Goes xs r.bAt (r.tok t rule a l c):=by
 unfold Rs.tok;split
 ·exact b.last 4 (.inl (by decide))
 ·split
  ·exact b.last 5 (.inl (by decide))
  ·have e:(r.moved t rule).opn=true:=by
    unfold Rs.moved;split
    ·exact d
    ·split <;> exact d
   refine⟨⟨j,k,g⟩,.inl ⟨e,?_⟩⟩;show Told xs r.bAt a (if t.act rule=1 then[] else _);split
   ·exact Nat.le_of_lt f
   ·exact⟨r.bAt,a,rfl,rfl,rfl,congrArg _ b.1,congrArg _ b.2.1,lQ,f,lQ⟩
structure Rs.SI (xs:List Nat)(P:Nat)(r:Rs):Prop where
 lc:r.Lc xs
 hl:r.hLine=lnT xs r.hAt
 hc:r.hCol=clT xs r.hAt
 bh:r.bAt<=r.hAt
 hp:r.hAt+r.count=P
 pn:P<=xs.length
 by_:∀j,j<r.count->r.byte ((r.first+j)%64)=xs.getD (r.hAt+j) 0
theorem Rs.SI.same {r q:Rs}(a:r.SI xs P)(e:q.Same r)(f:q.Lc xs)(g:q.bAt<=r.hAt):q.SI xs P:=by
 obtain⟨c,k,l,b,m,o,_,_⟩:=e;exact⟨f,by rw[m,b];exact a.hl,by rw[o,b];exact a.hc,by rw[b];exact g,by rw[b,c];exact a.hp,a.pn,λj d=>by rw[k,l,b];exact a.by_ j (by rw[c] at d;exact d)⟩
theorem Rs.took_si {r:Rs}(t:Tb)(a:r.SI xs P)(c:r.first<64)(d:1<=r.count):(r.took t).SI xs P/\(r.took t).bAt=r.bAt/\(r.took t).hAt=r.hAt+1/\(r.took t).opn=r.opn:=by
 have b:=a.by_ 0 d;rw[Nat.add_zero,Nat.add_zero,Nat.mod_eq_of_lt c] at b;refine⟨⟨a.lc,?_,?_,Nat.le_succ_of_le a.bh,?_,a.pn,λj e=>?_⟩,rfl,rfl,rfl⟩
 ·show zAf (r.byte r.first) r.hLine=zAf (xs.getD r.hAt 0) (lnT xs r.hAt)
  rw[b,a.hl]
 ·show zBu (r.byte r.first) r.hCol=zBu (xs.getD r.hAt 0) (clT xs r.hAt)
  rw[b,a.hc]
 ·show r.hAt+1+(r.count-1)=P
  have:=a.hp;omega
 ·have f:j<r.count-1:=e
  have:=a.by_ (j+1) (by omega);show r.byte (((r.first+1)%64+j)%64)=xs.getD (r.hAt+1+j) 0;rw[show ((r.first+1)%64+j)%64=(r.first+(j+1))%64 by omega,this,show r.hAt+(j+1)=r.hAt+1+j by omega]
theorem Rs.step_goes {r:Rs}(t:Tb)(b:r.SI xs P)(f:r.first<64)(g:1<=r.count)(j:r.opn=true):Goes xs r.bAt (r.step t)/\((r.step t).1.opn=true->(r.step t).1.SI xs P):=by
 have ⟨a,k,m,c⟩:=Rs.took_si t b f g;unfold Rs.step;rw[<-k];rw[j] at c;have o:=b.bh;have p:=a.hp;have s:=a.pn;generalize r.took t=q at *;unfold Rs.fin;split
 ·have d:=Rs.tok_goes a.lc c t (t.ends q.state).toNat q.hAt q.hLine q.hCol (by omega) (by omega) a.hl a.hc
  refine⟨d,λl=>?_⟩;refine a.same (q.tok_same t _ _ _ _) d.1 ?_;rcases(q.tok_opn t (t.ends q.state).toNat q.hAt q.hLine q.hCol).2.2.2 with⟨_,_,_,e⟩|⟨e,_,_⟩
  ·rw[l] at e;cases e
  ·rw[e];exact lQ
 ·split
  ·exact⟨a.lc.last 3 (.inl (by decide)),λb=>by cases b⟩
  ·exact⟨a.lc.stay c,λ_=>a⟩
theorem Rs.looked_si {r:Rs}(b:r.SI xs P)(a:Nat):({r with ahead:=a}:Rs).SI xs P:=⟨b.lc,b.hl,b.hc,b.bh,b.hp,b.pn,b.by_⟩
theorem Rs.added_by {r:Rs}(c a:Nat)(b:∀j,j<r.count->r.byte ((r.first+j)%64)=xs.getD (a+j) 0)(d:c=xs.getD (a+r.count) 0)(g:r.count<64):∀j,j<(r.added c).count->(r.added c).byte (((r.added c).first+j)%64)=xs.getD (a+j) 0:=by
 intro j f;have k:j<r.count+1:=f;show(if (r.first+j)%64=(r.first+r.count)%64 then c else r.byte ((r.first+j)%64))=_;by_cases e:j=r.count
 ·rw[e,if_pos rfl,d]
 ·rw[if_neg (by omega)]
  exact b j (by omega)
theorem Rs.added_si {r:Rs}(a:r.SI xs P)(c:Nat)(b:c=xs.getD P 0)(d:P<xs.length)(e:r.count<64):(r.added c).SI xs (P+1):=
 ⟨a.lc,a.hl,a.hc,a.bh,congrArg (·+1) a.hp,d,Rs.added_by c r.hAt a.by_ (by rw[a.hp];exact b) e⟩
structure Rs.OI (xs:List Nat)(P:Nat)(r:Rs):Prop where
 lc:r.Lc xs
 hp:r.bAt+r.count=P
 pn:P<=xs.length
 by_:∀j,j<r.count->r.byte ((r.first+j)%64)=xs.getD (r.bAt+j) 0
theorem Rs.OI.line_to {r:Rs}(a:r.OI xs P)(n:Nat)(e:n<=r.count):r.lineTo n=lnT xs (r.bAt+n)/\r.colTo n=clT xs (r.bAt+n):=by
 induction n with
 |zero=>exact⟨a.lc.1,a.lc.2.1⟩
 |succ n b=>
  have ⟨c,d⟩:=b (by omega);rw[Rs.lineTo,Rs.colTo,c,d,a.by_ n (by omega)];exact⟨rfl,rfl⟩
theorem Rs.long_goes {r:Rs}(t:Tb)(a:r.OI xs P)(c:r.length<=r.count)(d:r.opn=true):Goes xs r.bAt (r.long t)/\((r.long t).1.opn=true->(r.long t).1.OI xs P):=by
 have v:=a.hp;have g:=a.pn;unfold Rs.long;split
 ·exact⟨a.lc.last 3 (.inl (by decide)),λa=>by cases a⟩
 ·rename_i w
  obtain⟨k,l⟩:=a.line_to r.length c;have m:r.cut.Lc xs:=a.lc;have b:=Rs.tok_goes m d t r.rule.toNat (r.bAt+r.length) _ _ (by show r.bAt<_;omega) (by omega) k l;refine⟨b,λo=>?_⟩;obtain⟨s1,s2,p,_⟩:=r.cut.tok_same t r.rule.toNat (r.bAt+r.length) (r.lineTo r.length) (r.colTo r.length)
  have q:=(r.cut.tok_opn t r.rule.toNat (r.bAt+r.length) (r.lineTo r.length) (r.colTo r.length)).2.2.2;have s:=b.1;generalize r.cut.tok t r.rule.toNat (r.bAt+r.length) (r.lineTo r.length) (r.colTo r.length)=f at *;have u:f.1.bAt=r.bAt+r.length:=by
   rcases q with⟨_,_,_,e⟩|⟨e,_,_⟩
   ·rw[o] at e;cases e
   ·exact e
  have x:f.1.count=r.count-r.length:=s1;refine⟨s,by omega,g,λj y=>?_⟩;rw[s2,p,u];show r.byte (((r.first+r.length)%64+j)%64)=_;rw[show ((r.first+r.length)%64+j)%64=(r.first+(r.length+j))%64 by omega,a.by_ _ (by omega),Nat.add_assoc]
theorem Rs.held_goes {r:Rs}(t:Tb)(ok:t.Ok)(b:r.OI xs P)(d:r.Oth t P)(e:r.taken<r.count)(f:r.opn=true):Goes xs r.bAt (r.heldStep t)/\((r.heldStep t).1.opn=true->(r.heldStep t).1.OI xs P):=by
 have c:=(r.ate t).marked_oth t P ok (r.ate_oth t P ok d e);have a:((r.ate t).marked t).OI xs P/\((r.ate t).marked t).opn=true/\((r.ate t).marked t).bAt=r.bAt:=by
  unfold Rs.marked;split <;> exact⟨⟨b.lc,b.hp,b.pn,b.by_⟩,f,rfl⟩
 unfold Rs.heldStep Rs.judged;generalize (r.ate t).marked t=q at *;rw[<-a.2.2];split
 ·exact⟨a.1.lc.stay a.2.1,λ_=>a.1⟩
 ·exact Rs.long_goes t a.1 (lY c.len c.tak) a.2.1
theorem Rs.heldN_goes {r:Rs}(t:Tb)(ok:t.Ok)(c:r.OI xs P)(d:r.Oth t P)(e:r.opn=true)(n:Nat):Goes xs r.bAt (r.heldN t n)/\((r.heldN t n).1.opn=true->(r.heldN t n).1.OI xs P):=by
 induction n with
 |zero=>exact⟨c.lc.stay e,λ_=>c⟩
 |succ n b=>
  rw[Rs.heldN];split
  ·rename_i a
   have ⟨f,g⟩:=Rs.held_goes t ok (b.2 a.2) (r.heldN_inv t P ok d n).1 a.1 a.2;exact⟨b.1.then a.2 f,g⟩
  ·exact b
theorem Rs.endN_goes {r:Rs}(t:Tb)(ok:t.Ok)(k:r.OI xs P)(o:r.Oth t P)(p:r.opn=true)(n:Nat):Goes xs r.bAt (r.endN t n)/\((r.endN t n).1.opn=true->(r.endN t n).1.OI xs P):=by
 induction n with
 |zero=>exact⟨k.lc.stay p,λ_=>k⟩
 |succ n d=>
  rw[Rs.endN];split
  ·rename_i a
   have g:=(r.endN_inv t P ok o n).1;have q:=d.2 a.2;have l:=d.1;generalize r.endN t n=f at *;have s:=f.1.long_inv t P ok g a.2 a.1;have ⟨m,u⟩:=Rs.long_goes t q (lY g.len g.tak) a.2;cases b:(f.1.long t).1.opn with
   |true=>
    have ⟨v,w⟩:=Rs.heldN_goes t ok (u b) s.1 b ((f.1.long t).1.todo+1);exact⟨l.then a.2 (m.then b v),w⟩
   |false=>
    have e:(f.1.long t).1.heldAll t=((f.1.long t).1,[]):=by
     refine Rs.heldN_stop _ t 0 _ ?_ lX;rintro⟨_,j⟩;have c:(f.1.long t).1.opn=true:=j;rw[b] at c;cases c
    unfold Rs.endO;rw[e,dX];exact⟨l.then a.2 m,λj=>by have c:(f.1.long t).1.opn=true:=j;rw[b] at c;cases c⟩
  ·exact d
def Rs.Sure (xs:List Nat)(t:Tb)(P:Nat)(r:Rs):Prop:=if t.stream then r.SI xs P else r.OI xs P
theorem Rs.eat_goes {r:Rs}(t:Tb)(ok:t.Ok)(a:r.Sure xs t P)(b:r.Good t P)(c:Nat)(j:c=xs.getD P 0)(k:P<xs.length)(l:c<256)(e:r.opn=true):Goes xs r.bAt (r.eat t c)/\((r.eat t c).1.opn=true->(r.eat t c).1.Sure xs t (P+1)):=by
 unfold Rs.Sure Rs.Good Rs.eat at *;split
 ·rename_i f
  rw[if_pos f] at a b;have d:r.count<64:=by have:=b.cnt;have:=ok.ahead;omega
  have g:((r.added c).looked t (t.kind c)).SI xs (P+1):=Rs.looked_si (Rs.added_si a c j k d) _;unfold Rs.take Rs.due;split
  ·exact Rs.step_goes t g b.ok.first (Nat.succ_le_succ lX) e
  ·exact⟨g.lc.stay e,λ_=>g⟩
 ·rename_i f
  rw[if_neg f] at a b;unfold Rs.takeO;split
  ·exact⟨a.lc.last 6 (.inl (by decide)),λa=>by cases a⟩
  ·rename_i m
   have d:r.count<64:=by have:=ok.hold;omega
   exact Rs.heldN_goes t ok (r:=r.added c) ⟨a.lc,congrArg (·+1) a.hp,k,Rs.added_by c r.bAt a.by_ (by rw[a.hp];exact j) d⟩ (r.added_oth t P c b l d) e _
theorem Rs.feed_goes (ok:t.Ok)(cs:List Nat):∀{r:Rs} {P:Nat},r.Sure xs t P->r.Good t P->r.opn=true->r.Lc xs->(∀j,j<cs.length->cs.getD j 0=xs.getD (P+j) 0)->P+cs.length<=xs.length->(∀c∈cs,c<256)->Goes xs r.bAt (Rs.feed t cs r)/\((Rs.feed t cs r).1.opn=true->(Rs.feed t cs r).1.Sure xs t (P+cs.length)):=by
 induction cs with
 |nil=>intro r P e f a l _ _ _;exact⟨l.stay a,λ_=>e⟩
 |cons c cs p=>
  intro r P e f a l m q g;rw[hU] at q;have ⟨k,s⟩:=Rs.eat_goes t ok e f c (m 0 (Nat.succ_pos _)) (by omega) (g c gQ) a;have u:=(r.eat_inv t P c ok f (g c gQ) a).1;rw[Rs.feed,if_pos a];cases b:(r.eat t c).1.opn with
  |true=>
   have ⟨v,w⟩:=p (s b) u b k.1 (λj y=>by have:=m (j+1) (Nat.succ_lt_succ y);rw[show P+(j+1)=P+1+j by omega] at this;exact this) (by omega) λx d=>g x (List.mem_cons_of_mem _ d);exact⟨k.then b v,λd=>by rw[hU,show P+(cs.length+1)=P+1+cs.length by omega];exact w d⟩
  |false=>
   rw[Rs.feed_shut t cs _ b,dX];exact⟨k,λd=>by have o:(r.eat t c).1.opn=true:=d;rw[b] at o;cases o⟩
theorem Rs.drain_goes:∀{r:Rs},r.SI xs P->r.first<64->r.count=n->r.opn=true->Goes xs r.bAt (Rs.drain t n r)/\((Rs.drain t n r).1.opn=true->(Rs.drain t n r).1.SI xs P/\(Rs.drain t n r).1.count=0):=by
 induction n with
 |zero=>intro r b _ d c;exact⟨b.lc.stay c,λ_=>⟨b,d⟩⟩
 |succ n j=>
  intro r b k d c;have l:=((r.look t).took t).fin_same t;have ⟨f,m⟩:=Rs.step_goes t (Rs.looked_si b (t.further r.ahead t.count)) k (by show 1<=r.count;omega) c;have o:((r.look t).step t).1.first<64:=by
   have e:((r.look t).step t).1.first=(r.first+1)%64:=l.first
   rw[e];exact hJ _ (by decide)
  have p:=r.step_count t;rw[Rs.drain,if_neg (by rw[c];decide)];cases a:((r.look t).step t).1.opn with
  |true=>
   have ⟨q,s⟩:=j (r:=((r.look t).step t).1) (m a) o (by rw[p,d];rfl) a;exact⟨f.then a q,s⟩
  |false=>
   have e:Rs.drain t n ((r.look t).step t).1=(((r.look t).step t).1,[]):=by
    cases n with
    |zero=>rfl
    |succ n=>rw[Rs.drain,if_pos a]
   rw[e,dX];exact⟨f,λu=>by have g:((r.look t).step t).1.opn=true:=u;rw[a] at g;cases g⟩
end
end Go.Proofs.YtbjcfkdnjaiclaaGreat
