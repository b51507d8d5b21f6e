import Derived.Deep.LoopGhost
import Derived.Test.YtbjcfkdnjaiclaaGreatK0
import Derived.Test.YtbjcfkdnjaiclaaGreatK3
import Derived.Test.YtbjcfkdnjaiclaaGreatK25
import Derived.Test.YtbjcfkdnjaiclaaGreatK26
import Derived.Test.YtbjcfkdnjaiclaaGreatK28
import Derived.Test.YtbjcfkdnjaiclaaGreatK29
/- Parts of the proof. -/
set_option linter.unusedVariables false
set_option linter.unusedSimpArgs false
set_option maxHeartbeats 4000000
set_option maxRecDepth 100000
namespace Go.Proofs.YtbjcfkdnjaiclaaGreat
open Go.RowKit Go.Proofs.Tryz Go.World
open Go.Value (int slice bool pointer string agg tuple)
open Go.IntKind (i64)
open Go.Ending (returned)
def lnT (xs:List Nat):Nat->Nat
 |0=>1
 |n+1=>jO (xs.getD n 0) (lnT xs n)
def clT (xs:List Nat):Nat->Nat
 |0=>1
 |n+1=>zBf (xs.getD n 0) (clT xs n)
def Told (xs:List Nat):Nat->Nat->List Ev->Prop
 |a,b,[]=>a<=b
 |a,b,e::es=>∃f g:Nat,e.kind=1/\e.from_=f/\e.to=g/\e.line=lnT xs f/\e.col=clT xs f/\a<=f/\f<g/\Told xs g b es
theorem Told.app {xs:List Nat}{d h:List Ev}:∀{a b c:Nat},Told xs a b d->Told xs b c h->Told xs a c (d++h):=by
 induction d with
 |nil=>
  intro a b c r i;cases h with
  |nil=>exact lY r i
  |cons e h=>
   obtain⟨f,g,j,k,l,m,o,p,q⟩:=i;exact⟨f,g,j,k,l,m,o,lY r p,q⟩
 |cons e d s=>
  rintro a b c ⟨f,g,j,k,l,m,o,p,q,t⟩ i;exact⟨f,g,j,k,l,m,o,p,q,s t i⟩
def Goes (xs:List Nat)(a:Nat)(f:Rs×List Ev):Prop:=
 (f.1.bLine=lnT xs f.1.bAt/\f.1.bCol=clT xs f.1.bAt/\f.1.bAt<=xs.length)/\(f.1.opn=true/\Told xs a f.1.bAt f.2\/f.1.opn=false/\∃es k,f.2=es++[f.1.lastEv k]/\Told xs a f.1.bAt es/\(3<=k/\k<=6\/k=2/\f.1.bAt=xs.length))
theorem Goes.then {xs:List Nat}{a:Nat}{f g:Rs×List Ev}(b:Goes xs a f)(i:f.1.opn=true)(c:Goes xs f.1.bAt g):Goes xs a (g.1,f.2++g.2):=by
 have d:Told xs a f.1.bAt f.2:=by
  rcases b.2 with b|b
  ·exact b.2
  ·rw[i] at b;cases b.1
 refine⟨c.1,?_⟩;rcases c.2 with⟨o,t⟩|⟨o,j,k,e,t,l⟩
 ·exact .inl ⟨o,d.app t⟩
 ·exact .inr ⟨o,f.2++j,k,by show f.2++g.2=_;rw[e,gX],d.app t,l⟩
def Rs.Lc (xs:List Nat)(r:Rs):Prop:=r.bLine=lnT xs r.bAt/\r.bCol=clT xs r.bAt/\r.bAt<=xs.length
theorem Rs.Lc.stay {xs:List Nat}{r:Rs}(a:r.Lc xs)(b:r.opn=true):Goes xs r.bAt (r,[]):=⟨a,.inl ⟨b,lQ⟩⟩
theorem Rs.Lc.last {xs:List Nat}{r:Rs}(a:r.Lc xs)(k:Int)(b:3<=k/\k<=6\/k=2/\r.bAt=xs.length):Goes xs r.bAt ({r with opn:=false},[r.lastEv k]):=⟨a,.inr ⟨rfl,[],k,rfl,lQ,b⟩⟩
theorem Rs.tok_goes {xs:List Nat}{r:Rs}(b:r.Lc xs)(d:r.opn=true)(t:Tb)(rule a l c:Nat)(f:r.bAt<a)(g:a<=xs.length)(i:l=lnT xs a)(j:c=clT xs a):Goes xs r.bAt (r.tok t rule a l c):=by
 unfold Rs.tok;split
 ·exact b.last 4 (.inl (by decide))
 ·split
  ·exact b.last 5 (.inl (by decide))
  ·have e:(r.moved t rule).opn=true:=by
    unfold Rs.moved;split
    ·exact d
    ·split <;> exact d
   refine⟨⟨i,j,g⟩,.inl ⟨e,?_⟩⟩;show Told xs r.bAt a (if t.act rule=1 then[] else _);split
   ·exact Nat.le_of_lt f
   ·exact⟨r.bAt,a,rfl,rfl,rfl,congrArg _ b.1,congrArg _ b.2.1,lQ,f,lQ⟩
structure Rs.SI (xs:List Nat)(P:Nat)(r:Rs):Prop where
 lc:r.Lc xs
 hl:r.hLine=lnT xs r.hAt
 hc:r.hCol=clT xs r.hAt
 bh:r.bAt<=r.hAt
 hp:r.hAt+r.count=P
 pn:P<=xs.length
 by_:∀j,j<r.count->r.byte ((r.first+j)%64)=xs.getD (r.hAt+j) 0
theorem Rs.SI.same {xs:List Nat}{P:Nat}{r q:Rs}(a:r.SI xs P)(e:q.Same r)(f:q.Lc xs)(g:q.bAt<=r.hAt):q.SI xs P:=by
 obtain⟨c,i,k,b,l,m,_,_⟩:=e;exact⟨f,by rw[l,b];exact a.hl,by rw[m,b];exact a.hc,by rw[b];exact g,by rw[b,c];exact a.hp,a.pn,λj d=>by rw[i,k,b];exact a.by_ j (by rw[c] at d;exact d)⟩
theorem Rs.took_si {xs:List Nat}{P:Nat}{r:Rs}(t:Tb)(a:r.SI xs P)(c:r.first<64)(d:1<=r.count):(r.took t).SI xs P/\(r.took t).bAt=r.bAt/\(r.took t).hAt=r.hAt+1/\(r.took t).opn=r.opn:=by
 have b:=a.by_ 0 d;rw[Nat.add_zero,Nat.add_zero,Nat.mod_eq_of_lt c] at b;refine⟨⟨a.lc,?_,?_,Nat.le_succ_of_le a.bh,?_,a.pn,λj e=>?_⟩,rfl,rfl,rfl⟩
 ·show jO (r.byte r.first) r.hLine=jO (xs.getD r.hAt 0) (lnT xs r.hAt)
  rw[b,a.hl]
 ·show zBf (r.byte r.first) r.hCol=zBf (xs.getD r.hAt 0) (clT xs r.hAt)
  rw[b,a.hc]
 ·show r.hAt+1+(r.count-1)=P
  have:=a.hp;omega
 ·have f:j<r.count-1:=e
  have:=a.by_ (j+1) (by omega);show r.byte (((r.first+1)%64+j)%64)=xs.getD (r.hAt+1+j) 0;rw[show ((r.first+1)%64+j)%64=(r.first+(j+1))%64 by omega,this,show r.hAt+(j+1)=r.hAt+1+j by omega]
theorem Rs.step_goes {xs:List Nat}{P:Nat}{r:Rs}(t:Tb)(b:r.SI xs P)(f:r.first<64)(g:1<=r.count)(i:r.opn=true):Goes xs r.bAt (r.step t)/\((r.step t).1.opn=true->(r.step t).1.SI xs P):=by
 obtain⟨a,j,l,c⟩:=Rs.took_si t b f g;unfold Rs.step;rw[<-j];rw[i] at c;have m:=b.bh;have o:=a.hp;have p:=a.pn;generalize r.took t=q at *;unfold Rs.fin;split
 ·have d:=Rs.tok_goes a.lc c t (t.ends q.state).toNat q.hAt q.hLine q.hCol (by omega) (by omega) a.hl a.hc
  refine⟨d,λk=>?_⟩;refine a.same (q.tok_same t _ _ _ _) d.1 ?_;rcases(q.tok_opn t (t.ends q.state).toNat q.hAt q.hLine q.hCol).2.2.2 with⟨_,_,_,e⟩|⟨e,_,_⟩
  ·rw[k] at e;cases e
  ·rw[e];exact lQ
 ·split
  ·exact⟨a.lc.last 3 (.inl (by decide)),λb=>by cases b⟩
  ·exact⟨a.lc.stay c,λ_=>a⟩
theorem Rs.looked_si {xs:List Nat}{P:Nat}{r:Rs}(b:r.SI xs P)(a:Nat):({r with ahead:=a}:Rs).SI xs P:=⟨b.lc,b.hl,b.hc,b.bh,b.hp,b.pn,b.by_⟩
theorem Rs.added_by {xs:List Nat}{r:Rs}(c a:Nat)(b:∀j,j<r.count->r.byte ((r.first+j)%64)=xs.getD (a+j) 0)(d:c=xs.getD (a+r.count) 0)(g:r.count<64):∀j,j<(r.added c).count->(r.added c).byte (((r.added c).first+j)%64)=xs.getD (a+j) 0:=by
 intro j f;have i:j<r.count+1:=f;show(if (r.first+j)%64=(r.first+r.count)%64 then c else r.byte ((r.first+j)%64))=_;by_cases e:j=r.count
 ·rw[e,if_pos rfl,d]
 ·rw[if_neg (by omega)]
  exact b j (by omega)
theorem Rs.added_si {xs:List Nat}{P:Nat}{r:Rs}(a:r.SI xs P)(c:Nat)(b:c=xs.getD P 0)(d:P<xs.length)(e:r.count<64):(r.added c).SI xs (P+1):=
 ⟨a.lc,a.hl,a.hc,a.bh,congrArg (·+1) a.hp,d,Rs.added_by c r.hAt a.by_ (by rw[a.hp];exact b) e⟩
structure Rs.OI (xs:List Nat)(P:Nat)(r:Rs):Prop where
 lc:r.Lc xs
 hp:r.bAt+r.count=P
 pn:P<=xs.length
 by_:∀j,j<r.count->r.byte ((r.first+j)%64)=xs.getD (r.bAt+j) 0
theorem Rs.OI.line_to {xs:List Nat}{P:Nat}{r:Rs}(a:r.OI xs P)(n:Nat)(e:n<=r.count):r.lineTo n=lnT xs (r.bAt+n)/\r.colTo n=clT xs (r.bAt+n):=by
 induction n with
 |zero=>exact⟨a.lc.1,a.lc.2.1⟩
 |succ n b=>
  obtain⟨c,d⟩:=b (by omega);rw[Rs.lineTo,Rs.colTo,c,d,a.by_ n (by omega)];exact⟨rfl,rfl⟩
theorem Rs.long_goes {xs:List Nat}{P:Nat}{r:Rs}(t:Tb)(a:r.OI xs P)(c:r.length<=r.count)(d:r.opn=true):Goes xs r.bAt (r.long t)/\((r.long t).1.opn=true->(r.long t).1.OI xs P):=by
 have u:=a.hp;have g:=a.pn;unfold Rs.long;split
 ·exact⟨a.lc.last 3 (.inl (by decide)),λa=>by cases a⟩
 ·rename_i v
  obtain⟨i,k⟩:=a.line_to r.length c;have l:r.cut.Lc xs:=a.lc;have b:=Rs.tok_goes l d t r.rule.toNat (r.bAt+r.length) _ _ (by show r.bAt<_;omega) (by omega) i k;refine⟨b,λm=>?_⟩;obtain⟨s1,s2,o,_⟩:=r.cut.tok_same t r.rule.toNat (r.bAt+r.length) (r.lineTo r.length) (r.colTo r.length)
  have p:=(r.cut.tok_opn t r.rule.toNat (r.bAt+r.length) (r.lineTo r.length) (r.colTo r.length)).2.2.2;have q:=b.1;generalize r.cut.tok t r.rule.toNat (r.bAt+r.length) (r.lineTo r.length) (r.colTo r.length)=f at *;have s:f.1.bAt=r.bAt+r.length:=by
   rcases p with⟨_,_,_,e⟩|⟨e,_,_⟩
   ·rw[m] at e;cases e
   ·exact e
  have w:f.1.count=r.count-r.length:=s1;refine⟨q,by omega,g,λj x=>?_⟩;rw[s2,o,s];show r.byte (((r.first+r.length)%64+j)%64)=_;rw[show ((r.first+r.length)%64+j)%64=(r.first+(r.length+j))%64 by omega,a.by_ _ (by omega),Nat.add_assoc]
theorem Rs.held_goes {xs:List Nat}{P:Nat}{r:Rs}(t:Tb)(ok:t.Ok)(b:r.OI xs P)(d:r.Oth t P)(e:r.taken<r.count)(f:r.opn=true):Goes xs r.bAt (r.heldStep t)/\((r.heldStep t).1.opn=true->(r.heldStep t).1.OI xs P):=by
 have c:=(r.ate t).marked_oth t P ok (r.ate_oth t P ok d e);have a:((r.ate t).marked t).OI xs P/\((r.ate t).marked t).opn=true/\((r.ate t).marked t).bAt=r.bAt:=by
  unfold Rs.marked;split <;> exact⟨⟨b.lc,b.hp,b.pn,b.by_⟩,f,rfl⟩
 unfold Rs.heldStep Rs.judged;generalize (r.ate t).marked t=q at *;rw[<-a.2.2];split
 ·exact⟨a.1.lc.stay a.2.1,λ_=>a.1⟩
 ·exact Rs.long_goes t a.1 (lY c.len c.tak) a.2.1
theorem Rs.heldN_goes {xs:List Nat}{P:Nat}{r:Rs}(t:Tb)(ok:t.Ok)(c:r.OI xs P)(d:r.Oth t P)(e:r.opn=true)(n:Nat):Goes xs r.bAt (r.heldN t n)/\((r.heldN t n).1.opn=true->(r.heldN t n).1.OI xs P):=by
 induction n with
 |zero=>exact⟨c.lc.stay e,λ_=>c⟩
 |succ n b=>
  rw[Rs.heldN];split
  ·rename_i a
   obtain⟨f,g⟩:=Rs.held_goes t ok (b.2 a.2) (r.heldN_inv t P ok d n).1 a.1 a.2;exact⟨b.1.then a.2 f,g⟩
  ·exact b
theorem Rs.endN_goes {xs:List Nat}{P:Nat}{r:Rs}(t:Tb)(ok:t.Ok)(j:r.OI xs P)(m:r.Oth t P)(o:r.opn=true)(n:Nat):Goes xs r.bAt (r.endN t n)/\((r.endN t n).1.opn=true->(r.endN t n).1.OI xs P):=by
 induction n with
 |zero=>exact⟨j.lc.stay o,λ_=>j⟩
 |succ n d=>
  rw[Rs.endN];split
  ·rename_i a
   have g:=(r.endN_inv t P ok m n).1;have p:=d.2 a.2;have k:=d.1;generalize r.endN t n=f at *;have q:=f.1.long_inv t P ok g a.2 a.1;obtain⟨l,s⟩:=Rs.long_goes t p (lY g.len g.tak) a.2;cases b:(f.1.long t).1.opn with
   |true=>
    obtain⟨u,v⟩:=Rs.heldN_goes t ok (s b) q.1 b ((f.1.long t).1.todo+1);exact⟨k.then a.2 (l.then b u),v⟩
   |false=>
    have e:(f.1.long t).1.heldAll t=((f.1.long t).1,[]):=by
     refine Rs.heldN_stop _ t 0 _ ?_ lX;rintro⟨_,i⟩;have c:(f.1.long t).1.opn=true:=i;rw[b] at c;cases c
    unfold Rs.endO;rw[e,dX];exact⟨k.then a.2 l,λi=>by have c:(f.1.long t).1.opn=true:=i;rw[b] at c;cases c⟩
  ·exact d
def Rs.Sure (xs:List Nat)(t:Tb)(P:Nat)(r:Rs):Prop:=if t.stream then r.SI xs P else r.OI xs P
theorem Rs.eat_goes {xs:List Nat}{P:Nat}{r:Rs}(t:Tb)(ok:t.Ok)(a:r.Sure xs t P)(b:r.Good t P)(c:Nat)(i:c=xs.getD P 0)(j:P<xs.length)(k:c<256)(e:r.opn=true):Goes xs r.bAt (r.eat t c)/\((r.eat t c).1.opn=true->(r.eat t c).1.Sure xs t (P+1)):=by
 unfold Rs.Sure Rs.Good Rs.eat at *;split
 ·rename_i f
  rw[if_pos f] at a b;have d:r.count<64:=by have:=b.cnt;have:=ok.ahead;omega
  have g:((r.added c).looked t (t.kind c)).SI xs (P+1):=Rs.looked_si (Rs.added_si a c i j d) _;unfold Rs.take Rs.due;split
  ·exact Rs.step_goes t g b.ok.first (Nat.succ_le_succ lX) e
  ·exact⟨g.lc.stay e,λ_=>g⟩
 ·rename_i f
  rw[if_neg f] at a b;unfold Rs.takeO;split
  ·exact⟨a.lc.last 6 (.inl (by decide)),λa=>by cases a⟩
  ·rename_i l
   have d:r.count<64:=by have:=ok.hold;omega
   exact Rs.heldN_goes t ok (r:=r.added c) ⟨a.lc,congrArg (·+1) a.hp,j,Rs.added_by c r.bAt a.by_ (by rw[a.hp];exact i) d⟩ (r.added_oth t P c b k d) e _
theorem Rs.feed_goes {xs:List Nat}(t:Tb)(ok:t.Ok)(cs:List Nat):∀{r:Rs} {P:Nat},r.Sure xs t P->r.Good t P->r.opn=true->r.Lc xs->(∀j,j<cs.length->cs.getD j 0=xs.getD (P+j) 0)->P+cs.length<=xs.length->(∀c∈cs,c<256)->Goes xs r.bAt (Rs.feed t cs r)/\((Rs.feed t cs r).1.opn=true->(Rs.feed t cs r).1.Sure xs t (P+cs.length)):=by
 induction cs with
 |nil=>intro r P e f a k _ _ _;exact⟨k.stay a,λ_=>e⟩
 |cons c cs o=>
  intro r P e f a k l p g;rw[hU] at p;obtain⟨i,q⟩:=Rs.eat_goes t ok e f c (l 0 (Nat.succ_pos _)) (by omega) (g c gQ) a;have s:=(r.eat_inv t P c ok f (g c gQ) a).1;rw[Rs.feed,if_pos a];cases b:(r.eat t c).1.opn with
  |true=>
   obtain⟨u,v⟩:=o (q b) s b i.1 (λj w=>by have:=l (j+1) (Nat.succ_lt_succ w);rw[show P+(j+1)=P+1+j by omega] at this;exact this) (by omega) λx d=>g x (List.mem_cons_of_mem _ d);exact⟨i.then b u,λd=>by rw[hU,show P+(cs.length+1)=P+1+cs.length by omega];exact v d⟩
  |false=>
   rw[Rs.feed_shut t cs _ b,dX];exact⟨i,λd=>by have m:(r.eat t c).1.opn=true:=d;rw[b] at m;cases m⟩
theorem Rs.drain_goes {xs:List Nat}{P:Nat}(t:Tb)(n:Nat):∀{r:Rs},r.SI xs P->r.first<64->r.count=n->r.opn=true->Goes xs r.bAt (Rs.drain t n r)/\((Rs.drain t n r).1.opn=true->(Rs.drain t n r).1.SI xs P/\(Rs.drain t n r).1.count=0):=by
 induction n with
 |zero=>intro r b _ d c;exact⟨b.lc.stay c,λ_=>⟨b,d⟩⟩
 |succ n i=>
  intro r b j d c;have k:=((r.look t).took t).fin_same t;obtain⟨f,l⟩:=Rs.step_goes t (Rs.looked_si b (t.further r.ahead t.count)) j (by show 1<=r.count;omega) c;have m:((r.look t).step t).1.first<64:=by
   have e:((r.look t).step t).1.first=(r.first+1)%64:=k.first
   rw[e];exact hJ _ (by decide)
  have o:=r.step_count t;rw[Rs.drain,if_neg (by rw[c];decide)];cases a:((r.look t).step t).1.opn with
  |true=>
   obtain⟨p,q⟩:=i (r:=((r.look t).step t).1) (l a) m (by rw[o,d];rfl) a;exact⟨f.then a p,q⟩
  |false=>
   have e:Rs.drain t n ((r.look t).step t).1=(((r.look t).step t).1,[]):=by
    cases n with
    |zero=>rfl
    |succ n=>rw[Rs.drain,if_pos a]
   rw[e,dX];exact⟨f,λs=>by have g:((r.look t).step t).1.opn=true:=s;rw[a] at g;cases g⟩
def Tb.go (t:Tb)(q c:Nat):Nat:=t.next q (t.kind c)
def Tb.best (t:Tb):Nat->List Nat->Option (Nat×Nat)
 |_,[]=>none
 |q,c::cs=>match t.best (t.go q c) cs with
  |some (n,e)=>some (n+1,e)
  |none=>if t.ends (t.go q c)=-1 then none else some (1,t.go q c)
def sh (k:Nat)(o:Option (Nat×Nat)):Option (Nat×Nat):=o.map λp=>(p.1+k,p.2)
theorem zLQ (a b:Nat)(o:Option (Nat×Nat)):sh a (sh b o)=sh (b+a) o:=by
 cases o with
 |none=>rfl
 |some p=>simp only[sh,Option.map_some,Nat.add_assoc]
theorem zGL (o:Option (Nat×Nat)):sh 0 o=o:=by cases o <;> rfl
theorem zAc (t:Tb)(q c:Nat)(cs:List Nat):t.best q (c::cs)=match t.best (t.go q c) cs with|some (n,e)=>some (n+1,e)|none=>if t.ends (t.go q c)=-1 then none else some (1,t.go q c):=rfl
theorem zBw (t:Tb)(q c:Nat)(cs:List Nat)(a:t.ends (t.go q c)=-1\/t.best (t.go q c) cs≠none):t.best q (c::cs)=sh 1 (t.best (t.go q c) cs):=by
 rw[zAc];cases b:t.best (t.go q c) cs with
 |some p=>rfl
 |none=>
  rcases a with a|a
  ·rw[a];rfl
  ·exact absurd b a
theorem zIE (t:Tb)(q c:Nat)(cs:List Nat)(a:t.ends (t.go q c)≠-1)(b:t.best (t.go q c) cs=none):t.best q (c::cs)=some (1,t.go q c):=by
 rw[zAc,b];exact if_neg a
theorem zFA (t:Tb)(q:Nat)(cs:List Nat)(n e:Nat)(a:t.best q cs=some (n,e)):1<=n/\n<=cs.length/\t.ends e≠-1:=by
 induction cs generalizing q n with
 |nil=>cases a
 |cons c cs g=>
  rw[zAc] at a;cases b:t.best (t.go q c) cs with
  |some p=>
   rw[b] at a;obtain⟨m,f⟩:=p;cases a
   have:=g (t.go q c) m b;rw[hU];exact⟨by omega,by omega,this.2.2⟩
  |none=>
   rw[b] at a;have d:(if t.ends (t.go q c)=-1 then none else some (1,t.go q c))=some (n,e):=a;split at d
   ·cases d
   ·cases d
    exact⟨lQ,by rw[hU];omega,by assumption⟩
def Rs.top (t:Tb)(r:Rs):Nat:=t.start (r.stack (r.depth-1))
def Tb.spec (t:Tb)(xs:List Nat):Nat->Rs->List Ev
 |0,_=>[]
 |n+1,r=>if r.bAt=xs.length then[r.lastEv 2] else match t.best (r.top t) (xs.drop r.bAt) with
  |none=>[r.lastEv 3]
  |some (k,e)=>(r.tok t (t.ends e).toNat (r.bAt+k) (lnT xs (r.bAt+k)) (clT xs (r.bAt+k))).2++if(r.tok t (t.ends e).toNat (r.bAt+k) (lnT xs (r.bAt+k)) (clT xs (r.bAt+k))).1.opn then t.spec xs n (r.tok t (t.ends e).toNat (r.bAt+k) (lnT xs (r.bAt+k)) (clT xs (r.bAt+k))).1 else[]
structure Rs.Like (r q:Rs):Prop where
 opn:r.opn=q.opn
 stack:r.stack=q.stack
 depth:r.depth=q.depth
 bAt:r.bAt=q.bAt
 bLine:r.bLine=q.bLine
 bCol:r.bCol=q.bCol
theorem Rs.Like.last {r q:Rs}(a:r.Like q)(k:Int):r.lastEv k=q.lastEv k:=by
 unfold Rs.lastEv;rw[a.bAt,a.bLine,a.bCol]
theorem Rs.Like.tok {r q:Rs}(b:r.Like q)(t:Tb)(rule a l c:Nat):(r.tok t rule a l c).1.Like (q.tok t rule a l c).1/\(r.tok t rule a l c).2=(q.tok t rule a l c).2:=by
 obtain⟨j,d,e,f,g,i⟩:=b;unfold Rs.tok Rs.moved Rs.lastEv;rw[d,e,f,g,i]
 repeat' split
 all_goals refine⟨⟨?_,?_,?_,?_,?_,?_⟩,rfl⟩ <;> first|rfl|assumption
theorem Rs.Like.spec {t:Tb}{xs:List Nat}(n:Nat):∀{r q:Rs},r.Like q->t.spec xs n r=t.spec xs n q:=by
 induction n with
 |zero=>intro r q _;rfl
 |succ n b=>
  intro r q a;have c:r.top t=q.top t:=by unfold Rs.top;rw[a.stack,a.depth]
  rw[Tb.spec,Tb.spec,a.bAt,a.last,a.last,c];split
  ·rfl
  ·split
   ·rfl
   ·rename_i k e _
    have:=a.tok t (t.ends e).toNat (q.bAt+k) (lnT xs (q.bAt+k)) (clT xs (q.bAt+k))
    rw[this.2,this.1.opn,b this.1]
theorem Rs.tok_at (r:Rs)(t:Tb)(rule a l c:Nat)(b:(r.tok t rule a l c).1.opn=true):(r.tok t rule a l c).1.bAt=a/\(r.tok t rule a l c).1.state=(r.tok t rule a l c).1.top t:=by
 unfold Rs.tok at b ⊢;split at b
 ·cases b
 ·split at b
  ·cases b
  ·rename_i d e
   rw[if_neg d,if_neg e];exact⟨rfl,rfl⟩
theorem zKI (t:Tb)(xs:List Nat)(n:Nat):∀(m:Nat) (r:Rs),r.bAt<=xs.length->xs.length<r.bAt+n->xs.length<r.bAt+m->t.spec xs n r=t.spec xs m r:=by
 induction n with
 |zero=>intro m r a b;omega
 |succ n c=>
  intro m r a b h;cases m with
  |zero=>omega
  |succ m=>
   rw[Tb.spec,Tb.spec];split
   ·rfl
   ·split
    ·rfl
    ·rename_i k e d
     have f:=zFA t _ _ _ _ d;rw[List.length_drop] at f;cases g:(r.tok t (t.ends e).toNat (r.bAt+k) (lnT xs (r.bAt+k)) (clT xs (r.bAt+k))).1.opn with
     |false=>rfl
     |true=>
      have i:=(r.tok_at t _ _ _ _ g).1;rw[if_pos rfl,if_pos rfl,c m _ (by omega) (by omega) (by omega)]
def Tb.sp (t:Tb)(xs:List Nat)(r:Rs):List Ev:=t.spec xs (xs.length+1) r
theorem zJY (t:Tb)(xs:List Nat)(r:Rs)(a:r.bAt<=xs.length):t.sp xs r=if r.bAt=xs.length then[r.lastEv 2] else match t.best (r.top t) (xs.drop r.bAt) with
  |none=>[r.lastEv 3]
  |some (k,e)=>(r.tok t (t.ends e).toNat (r.bAt+k) (lnT xs (r.bAt+k)) (clT xs (r.bAt+k))).2++if(r.tok t (t.ends e).toNat (r.bAt+k) (lnT xs (r.bAt+k)) (clT xs (r.bAt+k))).1.opn then t.sp xs (r.tok t (t.ends e).toNat (r.bAt+k) (lnT xs (r.bAt+k)) (clT xs (r.bAt+k))).1 else[]:=by
 unfold Tb.sp;rw[Tb.spec];split
 ·rfl
 ·split
  ·rfl
  ·rename_i k e b
   have c:=zFA t _ _ _ _ b;rw[List.length_drop] at c;cases d:(r.tok t (t.ends e).toNat (r.bAt+k) (lnT xs (r.bAt+k)) (clT xs (r.bAt+k))).1.opn with
   |false=>rfl
   |true=>
    have a:=(r.tok_at t _ _ _ _ d).1;rw[if_pos rfl,if_pos rfl,zKI t xs xs.length (xs.length+1) _ (by omega) (by omega) (by omega)]
def Foll (t:Tb)(xs:List Nat)(r:Rs)(f:Rs×List Ev):Prop:=t.sp xs r=f.2++if f.1.opn then t.sp xs f.1 else[]
theorem Foll.stay {t:Tb}{xs:List Nat}{r q:Rs}(a:r.Like q)(b:r.opn=true):Foll t xs q (r,[]):=by
 show t.sp xs q=[]++if r.opn then t.sp xs r else[]
 rw[b,if_pos rfl];exact(a.spec _).symm
theorem Foll.then {t:Tb}{xs:List Nat}{r:Rs}{f g:Rs×List Ev}(a:Foll t xs r f)(b:f.1.opn=true)(c:Foll t xs f.1 g):Foll t xs r (g.1,f.2++g.2):=by
 unfold Foll at *;rw[b,if_pos rfl] at a;rw[a,c,gX]
theorem Foll.like {t:Tb}{xs:List Nat}{r q:Rs}{f:Rs×List Ev}(a:Foll t xs r f)(b:r.Like q):Foll t xs q f:=by
 unfold Foll at *;rw[<-a];exact(b.spec _).symm
theorem Foll.tok {t:Tb}{xs:List Nat}{r q:Rs}(b:r.Like q)(m:q.bAt<xs.length)(k e:Nat)(d:t.best (q.top t) (xs.drop q.bAt)=some (k,e))(rule a l c:Nat)(f:rule=(t.ends e).toNat)(g:a=q.bAt+k)(i:l=lnT xs a)(j:c=clT xs a):Foll t xs q (r.tok t rule a l c):=by
 unfold Foll;rw[zJY t xs q (by omega),if_neg (by omega),d];subst f g i j;have:=b.tok t (t.ends e).toNat (q.bAt+k) (lnT xs (q.bAt+k)) (clT xs (q.bAt+k))
 show _++(if _ then _ else _)=_;rw[this.2,this.1.opn]
 congr 1
 split
 ·exact(this.1.spec _).symm
 ·rfl
theorem Foll.no {t:Tb}{xs:List Nat}{r q:Rs}(a:r.Like q)(c:q.bAt<xs.length)(b:t.best (q.top t) (xs.drop q.bAt)=none):Foll t xs q ({r with opn:=false},[r.lastEv 3]):=by
 unfold Foll;rw[zJY t xs q (by omega),if_neg (by omega),b];show[q.lastEv 3]=[r.lastEv 3]++[];rw[a.last];rfl
theorem Foll.fin {t:Tb}{xs:List Nat}{r q:Rs}(a:r.Like q)(b:q.bAt=xs.length):Foll t xs q ({r with opn:=false},[r.lastEv 2]):=by
 unfold Foll;rw[zJY t xs q (by omega),if_pos b];show[q.lastEv 2]=[r.lastEv 2]++[];rw[a.last];rfl
def Tb.Dead (t:Tb):Prop:=∀q,q<t.nst->t.live q=false->t.ends q=-1/\∀cs:List Nat,(∀c∈cs,c<256)->t.best q cs=none
theorem zDP (xs:List Nat)(n:Nat)(a:n<xs.length):xs.drop n=xs.getD n 0::xs.drop (n+1):=by
 rw[List.drop_eq_getElem_cons a,lW,lV a];rfl
theorem zHi {xs:List Nat}(a:∀c∈xs,c<256)(n:Nat):∀c∈xs.drop n,c<256:=λc b=>a c (List.mem_of_mem_drop b)
def Rs.rec_ (r:Rs)(e:Nat):Option (Nat×Nat):=if r.length=0 then none else some (r.length,e)
def Rs.OE (t:Tb)(xs:List Nat)(r:Rs):Prop:=∃e,(r.length=0\/t.ends e=r.rule)/\t.best (r.top t) (xs.drop r.bAt)=(sh r.taken (t.best r.state (xs.drop (r.bAt+r.taken)))).or (r.rec_ e)
theorem Rs.OE.new {t:Tb}{xs:List Nat}{r:Rs}(a:r.length=0)(b:r.taken=0)(c:r.state=r.top t):r.OE t xs:=by
 refine⟨0,.inl a,?_⟩;unfold Rs.rec_;rw[a,b,c,if_pos rfl,zGL,Nat.add_zero,Option.or_none]
theorem Rs.OE.ate {t:Tb}{xs:List Nat}{P:Nat}{r:Rs}(g:r.OE t xs)(c:r.OI xs P)(i:r.taken<r.count):((r.ate t).marked t).OE t xs:=by
 obtain⟨e,j,d⟩:=g;have l:=c.hp;have m:=c.pn;have k:=c.by_ r.taken i;rw[zDP xs (r.bAt+r.taken) (by omega)] at d;have b:(r.ate t).state=t.go r.state (xs.getD (r.bAt+r.taken) 0):=by rw[<-k];rfl
 have o:(r.ate t).taken=r.taken+1:=rfl;unfold Rs.marked;split
 ·rename_i a
  rw[b] at a;refine⟨e,j,?_⟩;show t.best (r.top t) (xs.drop r.bAt)=(sh (r.taken+1) (t.best (r.ate t).state (xs.drop (r.bAt+(r.taken+1))))).or (r.rec_ e);rw[d,zBw t _ _ _ (.inl a),zLQ,b,Nat.add_comm 1,Nat.add_assoc]
 ·rename_i a
  refine⟨(r.ate t).state,.inr rfl,?_⟩;rw[b] at a;show t.best (r.top t) (xs.drop r.bAt)=(sh (r.taken+1) (t.best (r.ate t).state (xs.drop (r.bAt+(r.taken+1))))).or (if r.taken+1=0 then none else some (r.taken+1,(r.ate t).state));rw[d,if_neg (Nat.succ_ne_zero _),b,<-Nat.add_assoc];cases f:t.best (t.go r.state (xs.getD (r.bAt+r.taken) 0)) (xs.drop (r.bAt+r.taken+1)) with
  |some p=>
   rw[zBw t _ _ _ (.inr (by rw[f];exact Option.some_ne_none _)),f,zLQ,Nat.add_comm 1];rfl
  |none=>
   rw[zIE t _ _ _ a f];show some (1+r.taken,_)=some (r.taken+1,_);rw[Nat.add_comm]
theorem Rs.long_foll {t:Tb}{xs:List Nat}{P:Nat}{r:Rs}(c:r.OE t xs)(d:r.OI xs P)(g:r.length<=r.count)(s:1<=r.count)(i:t.best r.state (xs.drop (r.bAt+r.taken))=none):Foll t xs r (r.long t)/\((r.long t).1.opn=true->(r.long t).1.OE t xs):=by
 obtain⟨e,j,f⟩:=c;have u:=d.hp;have v:=d.pn;rw[i] at f;have a:t.best (r.top t) (xs.drop r.bAt)=r.rec_ e:=f;unfold Rs.rec_ at a;unfold Rs.long;split
 ·rename_i b
  rw[if_pos b] at a;exact⟨Foll.no (r:=r) (q:=r) ⟨rfl,rfl,rfl,rfl,rfl,rfl⟩ (by omega) a,λc=>by cases c⟩
 ·rename_i b
  rw[if_neg b] at a;obtain⟨k,l⟩:=d.line_to r.length g;refine⟨Foll.tok (r:=r.cut) (q:=r) ⟨rfl,rfl,rfl,rfl,rfl,rfl⟩ (by omega) r.length e a _ _ _ _ (by rw[j.resolve_left b]) rfl k l,λm=>?_⟩;obtain⟨_,_,⟨o,p⟩,_⟩:=r.cut.tok_opn t r.rule.toNat (r.bAt+r.length) (r.lineTo r.length) (r.colTo r.length)
  exact Rs.OE.new p o (r.cut.tok_at t _ _ _ _ m).2
theorem Rs.held_foll {t:Tb}{xs:List Nat}{P:Nat}{r:Rs}(ok:t.Ok)(g:t.Dead)(i:∀c∈xs,c<256)(j:r.OE t xs)(a:r.OI xs P)(k:r.Oth t P)(e:r.taken<r.count)(l:r.opn=true):Foll t xs r (r.heldStep t)/\((r.heldStep t).1.opn=true->(r.heldStep t).1.OE t xs):=by
 have d:=(r.ate t).marked_oth t P ok (r.ate_oth t P ok k e);have f:=j.ate a e;have b:((r.ate t).marked t).OI xs P/\((r.ate t).marked t).Like r/\((r.ate t).marked t).opn=true/\((r.ate t).marked t).count=r.count:=by
  unfold Rs.marked;split <;> exact⟨⟨a.lc,a.hp,a.pn,a.by_⟩,⟨rfl,rfl,rfl,rfl,rfl,rfl⟩,l,rfl⟩
 unfold Rs.heldStep Rs.judged;generalize (r.ate t).marked t=q at *;split
 ·exact⟨Foll.stay b.2.1 b.2.2.1,λ_=>f⟩
 ·rename_i m
  obtain⟨o,p⟩:=Rs.long_foll f b.1 (lY d.len d.tak) (by have:=b.2.2.2;omega) ((g q.state d.ok.state (by simpa using m)).2 _ (zHi i _));exact⟨o.like b.2.1,p⟩
theorem Rs.heldN_foll {t:Tb}{xs:List Nat}{P:Nat}{r:Rs}(ok:t.Ok)(f:t.Dead)(g:∀c∈xs,c<256)(i:r.OE t xs)(j:r.OI xs P)(d:r.Oth t P)(e:r.opn=true)(n:Nat):Foll t xs r (r.heldN t n)/\((r.heldN t n).1.opn=true->(r.heldN t n).1.OE t xs):=by
 induction n with
 |zero=>exact⟨Foll.stay ⟨rfl,rfl,rfl,rfl,rfl,rfl⟩ e,λ_=>i⟩
 |succ n b=>
  rw[Rs.heldN];split
  ·rename_i a
   obtain⟨k,l⟩:=Rs.held_foll ok f g (b.2 a.2) ((Rs.heldN_goes t ok j d e n).2 a.2) (r.heldN_inv t P ok d n).1 a.1 a.2;exact⟨b.1.then a.2 k,l⟩
  ·exact b
theorem Rs.heldAll_all {t:Tb}{P:Nat}{r:Rs}(ok:t.Ok)(c:r.Oth t P)(d:(r.heldAll t).1.opn=true):(r.heldAll t).1.taken=(r.heldAll t).1.count:=by
 have b:=(r.heldN_inv t P ok c (r.todo+1))
 have e:¬((r.heldAll t).1.taken<(r.heldAll t).1.count/\(r.heldAll t).1.opn=true):=by
  rcases b.2.2.2.2.1 with a|a
  ·exact a
  ·omega
 have f:(r.heldAll t).1.taken<=(r.heldAll t).1.count:=b.1.tak;rcases Nat.lt_or_ge (r.heldAll t).1.taken (r.heldAll t).1.count with a|a
 ·exact absurd ⟨a,d⟩ e
 ·omega
theorem Rs.endN_foll {t:Tb}{xs:List Nat}{r:Rs}(ok:t.Ok)(s:t.Dead)(a:∀c∈xs,c<256)(u:r.OE t xs)(v:r.OI xs xs.length)(k:r.Oth t xs.length)(l:r.opn=true)(w:r.taken=r.count)(n:Nat):Foll t xs r (r.endN t n)/\((r.endN t n).1.opn=true->(r.endN t n).1.OE t xs/\(r.endN t n).1.taken=(r.endN t n).1.count):=by
 induction n with
 |zero=>exact⟨Foll.stay ⟨rfl,rfl,rfl,rfl,rfl,rfl⟩ l,λ_=>⟨u,w⟩⟩
 |succ n m=>
  rw[Rs.endN];split
  ·rename_i b
   have g:=(r.endN_inv t _ ok k n).1;have j:=(Rs.endN_goes t ok v k l n).2 b.2;obtain⟨o,x⟩:=m;obtain⟨y,D⟩:=x b.2;generalize r.endN t n=f at *;have p:=f.1.long_inv t _ ok g b.2 b.1;have E:=j.hp;obtain⟨q,z⟩:=Rs.long_foll y j (lY g.len g.tak) b.1 (by rw[List.drop_of_length_le (by omega)];rfl);have A:=(Rs.long_goes t j (lY g.len g.tak) b.2).2;cases d:(f.1.long t).1.opn with
   |true=>
    obtain⟨B,C⟩:=Rs.heldN_foll ok s a (z d) (A d) p.1 d ((f.1.long t).1.todo+1);exact⟨o.then b.2 (q.then d B),λa=>⟨C a,Rs.heldAll_all ok p.1 a⟩⟩
   |false=>
    have e:(f.1.long t).1.heldAll t=((f.1.long t).1,[]):=by
     refine Rs.heldN_stop _ t 0 _ ?_ lX;rintro⟨_,a⟩;have i:(f.1.long t).1.opn=true:=a;rw[d] at i;cases i
    unfold Rs.endO;rw[e,dX];exact⟨o.then b.2 q,λa=>by have i:(f.1.long t).1.opn=true:=a;rw[d] at i;cases i⟩
  ·exact m
def FolO (t:Tb)(xs:List Nat)(r:Rs)(f:Rs×List Ev):Prop:=Foll t xs r f\/f.1.opn=false/\t.hold<xs.length/\∃es e rest,f.2=es++[e]/\e.kind=6/\t.sp xs r=es++rest
theorem FolO.then {t:Tb}{xs:List Nat}{r:Rs}{f g:Rs×List Ev}(a:Foll t xs r f)(c:f.1.opn=true)(b:FolO t xs f.1 g):FolO t xs r (g.1,f.2++g.2):=by
 rcases b with b|⟨o,d,i,e,j,k,l,m⟩
 ·exact .inl (a.then c b)
 ·refine .inr ⟨o,d,f.2++i,e,j,by show f.2++g.2=_;rw[k,gX],l,?_⟩
  unfold Foll at a;rw[a,c,if_pos rfl,m,gX]
theorem Rs.feedO_foll {t:Tb}{xs:List Nat}(ok:t.Ok)(g:t.stream=false)(C:t.Dead)(a:∀c∈xs,c<256)(cs:List Nat):∀{r:Rs} {P:Nat},r.OE t xs->r.OI xs P->r.Oth t P->r.opn=true->r.taken=r.count->(∀j,j<cs.length->cs.getD j 0=xs.getD (P+j) 0)->P+cs.length<=xs.length->(∀c∈cs,c<256)->FolO t xs r (Rs.feed t cs r)/\((Rs.feed t cs r).1.opn=true->Foll t xs r (Rs.feed t cs r)/\(Rs.feed t cs r).1.OE t xs/\(Rs.feed t cs r).1.taken=(Rs.feed t cs r).1.count):=by
 induction cs with
 |nil=>intro r P l b m e s _ _ _;exact⟨.inl (Foll.stay ⟨rfl,rfl,rfl,rfl,rfl,rfl⟩ e),λ_=>⟨Foll.stay ⟨rfl,rfl,rfl,rfl,rfl,rfl⟩ e,l,s⟩⟩
 |cons c cs D=>
  intro r P l b m e s u E v;rw[hU] at E;have w:r.Good t P:=by unfold Rs.Good;rw[g];exact m
  have F:r.Sure xs t P:=by unfold Rs.Sure;rw[g];exact b
  have y:=u 0 (Nat.succ_pos _);have o:=v c gQ;obtain⟨_,i⟩:=Rs.eat_goes t ok F w c y (by omega) o e;have f:=(r.eat_inv t P c ok w o e).1;have G:r.eat t c=r.takeO t c:=by unfold Rs.eat;rw[g];rfl
  rw[Rs.feed,if_pos e];rw[G] at i f ⊢;unfold Rs.takeO at i f ⊢;split at i
  ·rename_i k
   rw[if_pos k,Rs.feed_shut t cs _ rfl,dX];exact⟨.inr ⟨rfl,by have:=b.hp;omega,[],r.lastEv 6,t.sp xs r,rfl,rfl,rfl⟩,λa=>by cases a⟩
  ·rename_i k
   rw[if_neg k] at f;rw[if_neg k];have z:r.count<64:=by have:=ok.hold;omega
   have L:=b.hp;have A:=r.added_oth t P c m o z;have H:(r.added c).OI xs (P+1):=⟨b.lc,congrArg (·+1) b.hp,by omega,Rs.added_by c r.bAt b.by_ (by rw[b.hp];exact y) z⟩
   obtain⟨I,J⟩:=Rs.heldN_foll (r:=r.added c) ok C a l H A e ((r.added c).todo+1);have p:Foll t xs r ((r.added c).heldAll t):=I.like ⟨rfl,rfl,rfl,rfl,rfl,rfl⟩;cases d:((r.added c).heldAll t).1.opn with
   |true=>
    have q:=i d;unfold Rs.Sure at q;rw[g] at q;unfold Rs.Good at f;rw[g] at f;obtain⟨m1,m2⟩:=D (J d) q f d (Rs.heldAll_all ok A d) (λj K=>by have:=u (j+1) (Nat.succ_lt_succ K);rw[show P+(j+1)=P+1+j by omega] at this;exact this) (by omega) λx a=>v x (List.mem_cons_of_mem _ a);exact⟨FolO.then p d m1,λa=>⟨p.then d (m2 a).1,(m2 a).2⟩⟩
   |false=>
    rw[Rs.feed_shut t cs _ d,dX];exact⟨.inl p,λa=>by have B:((r.added c).heldAll t).1.opn=true:=a;rw[d] at B;cases B⟩
theorem zNq (t:Tb)(c:t.Fine)(f:t.stream=false)(z:t.Dead)(p:Nat)(s:ByteArray):t.events p s=t.sp (nats s) (Rs.born t p)\/t.hold<s.size/\∃m e v,t.events p s=m++[e]/\e.kind=6/\t.sp (nats s) (Rs.born t p)=m++v:=by
 have g:=zC8 s;have A:(Rs.born t p).OI (nats s) 0:=⟨⟨rfl,rfl,lX⟩,rfl,lX,λj G=>absurd G (Nat.not_lt_zero _)⟩
 have w:=Rs.born_good t p c;have H:(Rs.born t p).Sure (nats s) t 0:=by unfold Rs.Sure;rw[f];exact A
 have I:(Rs.born t p).Oth t 0:=by have x:=w;unfold Rs.Good at x;rw[f] at x;exact x
 obtain⟨_,B⟩:=Rs.feed_goes t c.ok (nats s) H w rfl ⟨rfl,rfl,lX⟩ (λj _=>by rw[Nat.zero_add]) (by rw[Nat.zero_add];exact lQ) g;obtain⟨k,J⟩:=Rs.feedO_foll c.ok f z g (nats s) (Rs.OE.new rfl rfl rfl) A I rfl rfl (λj _=>by rw[Nat.zero_add]) (by rw[Nat.zero_add];exact lQ) g;have i:=(Rs.feed_inv t c.ok (nats s) (Rs.born t p) 0 w g).1;rw[Nat.zero_add] at B i;unfold Tb.events;generalize Rs.feed t (nats s) (Rs.born t p)=a at *;cases b:a.1.opn with
 |false=>
  have e:a.1.shut t=(a.1,[]):=by unfold Rs.shut;rw[b];rfl
  rw[e,dX];rcases k with k|⟨_,C,m,e,v,K,L,M⟩
  ·unfold Foll at k
   rw[b] at k;exact .inl (by rw[k];exact(dX _).symm)
  ·exact .inr ⟨by rw[jD] at C;exact C,m,e,v,K,L,M⟩
 |true=>
  obtain⟨N,O,P⟩:=J b;have o:=B b;unfold Rs.Sure at o;rw[f] at o;unfold Rs.Good at i;rw[f] at i;obtain⟨D,R⟩:=Rs.endN_foll c.ok z g O o i b P (a.1.count+2);have l:=(a.1.endN_inv t _ c.ok i (a.1.count+2)).2.2.2.1;have Q:=(Rs.endN_goes t c.ok o i b (a.1.count+2)).2;have S:xC a.1.opn<=1:=by unfold xC;split <;> omega
  left
  have E:Foll t (nats s) a.1 (a.1.shut t)/\(a.1.shut t).1.opn=false:=by
   refine⟨?_,(a.1.shut_end t _ c.ok (by unfold Rs.Good;rw[f];exact i) b).1⟩;unfold Rs.shut;rw[if_pos b,f];show Foll t (nats s) a.1 (a.1.closeO t);unfold Rs.closeO Rs.endAll;generalize a.1.endN t (a.1.count+2)=u at *;cases y:u.1.opn with
   |false=>rw[if_neg (by decide)];exact D
   |true=>
    rw[if_pos rfl];have T:=(Q y).hp;refine D.then y (Foll.fin (r:=u.1) (q:=u.1) ⟨rfl,rfl,rfl,rfl,rfl,rfl⟩ ?_)
    have:u.1.count=0:=by
     rcases l with l|l
     ·rw[y] at l
      exact Nat.eq_zero_of_not_pos λg=>l ⟨g,rfl⟩
     ·omega
    omega
  have:=N.then b E.1
  unfold Foll at this;rw[show ((a.1.shut t).1,a.2++(a.1.shut t).2).1.opn=false from E.2] at this;rw[this];exact(dX _).symm
def val (K:Nat)(ds:List Nat):Nat:=ds.foldl (λa d=>a*K+d) 0
theorem zEG (a:Nat)(b:List Nat)(c:Nat):val a (b++[c])=val a b*a+c:=by
 unfold val;rw[List.foldl_append];rfl
theorem zLM (c:Nat)(bs:List Nat):∀a,bs.foldl (λa f=>a*c+f) a=a*c^bs.length+val c bs:=by
 induction bs with
 |nil=>intro a;simp[val]
 |cons b bs e=>
  intro a;unfold val;rw[List.foldl_cons,List.foldl_cons,e,e (0*c+b),hU,Nat.pow_succ,Nat.zero_mul,Nat.zero_add,Nat.add_mul,Nat.add_assoc,Nat.mul_assoc,Nat.mul_comm c]
theorem zGD (a:Nat)(xs bs:List Nat):val a (xs++bs)=val a xs*a^bs.length+val a bs:=by
 unfold val;rw[List.foldl_append,zLM];rfl
theorem zIS (a:Nat)(bs:List Nat)(c:∀b∈bs,b<a):val a bs<a^bs.length:=by
 induction bs with
 |nil=>exact Nat.one_pos
 |cons b bs d=>
  have f:=d λx g=>c x (List.mem_cons_of_mem _ g);have i:=c b gQ;have e:val a (b::bs)=b*a^bs.length+val a bs:=by
   have:=zGD a [b] bs;rw[show val a [b]=b by simp[val]] at this;exact this
  rw[e,hU,Nat.pow_succ,Nat.mul_comm (a^bs.length)]
  calc b*a^bs.length+val a bs<b*a^bs.length+a^bs.length:=Nat.add_lt_add_left f _
   _=(b+1)*a^bs.length:=by rw[Nat.add_mul,Nat.one_mul]
   _<=a*a^bs.length:=Nat.mul_le_mul_right _ i
theorem zMS (a:Nat)(xs bs:List Nat)(c:∀b∈bs,b<a):val a (xs++bs)%a^bs.length=val a bs:=by
 rw[zGD,Nat.mul_comm,Nat.mul_add_mod,Nat.mod_eq_of_lt (zIS a bs c)]
def Tb.digs (t:Tb)(cs:List Nat)(m:Nat):List Nat:=(cs.map t.kind++List.replicate m t.count).take m
def Tb.came (t:Tb)(xs:List Nat)(P e:Nat):List Nat:=(xs.take P).map t.kind++List.replicate e t.count
theorem zLv (t:Tb)(xs:List Nat)(P e m n:Nat)(b:n+m=P+e)(c:P<=xs.length)(a:e=0\/P=xs.length)(d:n<=P):(t.came xs P e).drop n=t.digs (xs.drop n) m:=by
 unfold Tb.came Tb.digs;rw[List.drop_append_of_le_length (by rw[kV,List.length_take];omega),<-List.map_drop];rcases a with rfl|rfl
 ·rw[List.replicate_zero,dX,List.drop_take,List.take_append_of_le_length (by rw[kV,List.length_drop];omega),<-List.map_take,show P-n=m by omega]
 ·rw[List.take_of_length_le lQ,List.take_append,List.take_of_length_le (by rw[kV,List.length_drop];omega),kV,List.length_drop,List.take_replicate,show min (m-(xs.length-n)) m=e by omega]
theorem zMB (t:Tb)(xs:List Nat)(P e:Nat)(a:P<=xs.length):(t.came xs P e).length=P+e:=by
 unfold Tb.came;rw[kX,kV,List.length_take,List.length_replicate,Nat.min_eq_left a]
theorem zNw (t:Tb)(ok:t.Ok)(xs:List Nat)(f:∀c∈xs,c<256)(P e:Nat):∀b∈t.came xs P e,b<t.count+1:=by
 intro b a;rcases kU.1 a with a|a
 ·obtain⟨c,g,rfl⟩:=List.mem_map.1 a
  exact Nat.lt_succ_of_lt (ok.kind c (f c (List.mem_of_mem_take g)))
 ·rw[(List.mem_replicate.1 a).2]
  exact Nat.lt_succ_self _
structure Tb.Sharp (t:Tb):Prop where
 dead:t.Dead
 rows:t.rows=(t.count+1)^t.ahead
 yes:∀q,q<t.nst->∀cs:List Nat,(∀c∈cs,c<256)->t.longer (val (t.count+1) (t.digs cs t.ahead)) q=true->t.best q cs≠none
 no:∀q,q<t.nst->t.ends q≠-1->∀cs:List Nat,(∀c∈cs,c<256)->t.longer (val (t.count+1) (t.digs cs t.ahead)) q=false->t.best q cs=none
structure Rs.SE (t:Tb)(xs:List Nat)(P e:Nat)(r:Rs):Prop where
 best:t.best (r.top t) (xs.drop r.bAt)=sh (r.hAt-r.bAt) (t.best r.state (xs.drop r.hAt))
 ahd:r.ahead=val (t.count+1) (t.came xs P e)%t.rows
theorem Rs.step_foll {t:Tb}{xs:List Nat}{P e:Nat}{r:Rs}(ok:t.Ok)(i:t.Sharp)(u:∀c∈xs,c<256)(f:r.SE t xs P e)(g:r.SI xs P)(l:r.Ok t)(v:1<=r.count)(E:r.opn=true)(F:r.hAt+1+t.ahead=P+e)(G:e=0\/P=xs.length):Foll t xs r (r.step t)/\((r.step t).1.opn=true->(r.step t).1.SE t xs P e):=by
 have w:=g.by_ 0 v;rw[Nat.add_zero,Nat.add_zero,Nat.mod_eq_of_lt l.first] at w;have aa:=g.hp;have x:=g.pn;have ab:=g.bh;obtain⟨y,H,I,J⟩:=Rs.took_si t g l.first v
 have m:=r.took_ok t ok l;have a:(r.took t).state=t.go r.state (xs.getD r.hAt 0):=by rw[<-w];rfl
 have o:(r.took t).Like r:=⟨rfl,rfl,rfl,rfl,rfl,rfl⟩
 have z:(r.took t).ahead=val (t.count+1) (t.digs (xs.drop (r.hAt+1)) t.ahead):=by
  show r.ahead=_;have K:=zLv t xs P e t.ahead (r.hAt+1) F x G (by omega);have L:((t.came xs P e).drop (r.hAt+1)).length=t.ahead:=by rw[List.length_drop,zMB t xs P e x];omega
  have j:=zMS (t.count+1) ((t.came xs P e).take (r.hAt+1)) ((t.came xs P e).drop (r.hAt+1)) λM N=>zNw t ok xs u P e M (List.mem_of_mem_drop N);rw[List.take_append_drop,L,<-i.rows,K] at j;rw[f.ahd,j]
 have b:=f.best;rw[zDP xs r.hAt (by omega),<-H] at b;have O:(r.took t).top t=r.top t:=rfl;rw[<-O] at b;have ac:=(r.took t).fin_same t;have A:(r.took t).ahead=val (t.count+1) (t.came xs P e)%t.rows:=f.ahd;have p:=zHi u (r.hAt+1);unfold Rs.step;generalize r.took t=q at *;unfold Rs.fin;split
 ·rename_i k
  rw[a] at k;have Q:=i.no _ (by rw[<-a];exact m.state) k.1 _ p (by rw[<-z];exact k.2);rw[zIE t _ _ _ k.1 Q] at b;have R:t.best (q.top t) (xs.drop q.bAt)=some (1+(r.hAt-q.bAt),t.go r.state (xs.getD r.hAt 0)):=b;have S:=Foll.tok (r:=q) (q:=q) ⟨rfl,rfl,rfl,rfl,rfl,rfl⟩ (by omega) _ _ R (t.ends q.state).toNat q.hAt q.hLine q.hCol (by rw[a]) (by omega) y.hl y.hc;refine⟨S.like o,λT=>?_⟩;obtain⟨U,V⟩:=q.tok_at t _ _ _ _ T;have B:=q.tok_same t (t.ends q.state).toNat q.hAt q.hLine q.hCol;refine⟨?_,by rw[B.ahead];exact A⟩;rw[U,V,B.hAt,Nat.sub_self,zGL]
 ·rename_i W
  split
  ·rename_i j
   obtain⟨C,D⟩:=i.dead _ m.state j;rw[a] at C D;rw[zBw t _ _ _ (.inl C),D _ p] at b;exact⟨(Foll.no (r:=q) (q:=q) ⟨rfl,rfl,rfl,rfl,rfl,rfl⟩ (by omega) b).like o,λf=>by cases f⟩
  ·refine⟨Foll.stay o (by rw[J];exact E),λ_=>⟨?_,A⟩⟩
   have X:t.ends (t.go r.state (xs.getD r.hAt 0))=-1\/t.best (t.go r.state (xs.getD r.hAt 0)) (xs.drop (r.hAt+1))≠none:=by
    by_cases s:t.ends (t.go r.state (xs.getD r.hAt 0))=-1
    ·exact .inl s
    ·right
     refine i.yes _ (by rw[<-a];exact m.state) _ p ?_;rw[<-z,<-a];rw[<-a] at s;cases Y:t.longer q.ahead q.state with
     |true=>rfl
     |false=>exact absurd ⟨s,Y⟩ W
   rw[zBw t _ _ _ X,zLQ] at b;show t.best (q.top t) (xs.drop q.bAt)=sh (q.hAt-q.bAt) (t.best q.state (xs.drop q.hAt));rw[b,I,a,show 1+(r.hAt-q.bAt)=r.hAt+1-q.bAt by omega]
theorem zCN (t:Tb)(a b c:Nat)(e:a=b%t.rows):t.further a c=(b*(t.count+1)+c)%t.rows:=by
 unfold Tb.further;rw[e,Nat.add_mod,Nat.mul_mod,Nat.mod_mod,<-Nat.mul_mod,<-Nat.add_mod]
theorem zIA (t:Tb)(xs:List Nat)(P e:Nat):t.came xs P (e+1)=t.came xs P e++[t.count]:=by
 unfold Tb.came;rw[List.replicate_succ',gX]
theorem zLw (t:Tb)(xs:List Nat)(P:Nat)(a:P<xs.length):t.came xs (P+1) 0=t.came xs P 0++[t.kind (xs.getD P 0)]:=by
 unfold Tb.came;rw[List.replicate_zero,dX,dX,List.take_add_one,List.map_append,lV a,lW,lV a];rfl
theorem Rs.feedS_foll {t:Tb}{xs:List Nat}(ok:t.Ok)(f:t.stream=true)(A:t.Sharp)(b:∀c∈xs,c<256)(cs:List Nat):∀{r:Rs} {P:Nat},r.SE t xs P 0->r.SI xs P->r.Str t P->r.opn=true->(∀j,j<cs.length->cs.getD j 0=xs.getD (P+j) 0)->P+cs.length<=xs.length->(∀c∈cs,c<256)->Foll t xs r (Rs.feed t cs r)/\((Rs.feed t cs r).1.opn=true->(Rs.feed t cs r).1.SE t xs (P+cs.length) 0):=by
 induction cs with
 |nil=>intro r P a g i d _ _ _;exact⟨Foll.stay ⟨rfl,rfl,rfl,rfl,rfl,rfl⟩ d,λ_=>a⟩
 |cons c cs B=>
  intro r P a g i d q C s;rw[hU] at C;have u:r.Good t P:=by unfold Rs.Good;rw[if_pos f];exact i
  have D:r.Sure xs t P:=by unfold Rs.Sure;rw[if_pos f];exact g
  have l:c=xs.getD P 0:=q 0 (Nat.succ_pos _);have m:=s c gQ;obtain⟨_,v⟩:=Rs.eat_goes t ok D u c l (by omega) m d;have k:=(r.eat_inv t P c ok u m d).1;have E:r.eat t c=r.take t c:=by unfold Rs.eat;rw[if_pos f]
  have L:=i.cnt;have M:=g.hp;have w:r.count<64:=by have:=ok.ahead;omega
  have F:((r.added c).looked t (t.kind c)).SI xs (P+1):=Rs.looked_si (Rs.added_si g c l (by omega) w) _;have G:((r.added c).looked t (t.kind c)).Ok t:=let a:=r.added_ok t c i.ok m w;⟨a.d1,a.d4,a.st,a.state,a.first,a.count,a.bytes⟩;have y:((r.added c).looked t (t.kind c)).SE t xs (P+1) 0:=by
   refine⟨a.best,?_⟩;rw[zLw t xs P (by omega),zEG,<-l];exact zCN t _ _ _ a.ahd
  have o:Foll t xs r (r.take t c)/\((r.take t c).1.opn=true->(r.take t c).1.SE t xs (P+1) 0):=by
   unfold Rs.take Rs.due;split
   ·rename_i H
    have N:t.ahead<r.count+1:=H;obtain⟨I,J⟩:=Rs.step_foll ok A b y F G (Nat.succ_le_succ lX) d (by show r.hAt+1+t.ahead=P+1+0;omega) (.inl rfl);exact⟨I.like ⟨rfl,rfl,rfl,rfl,rfl,rfl⟩,J⟩
   ·exact⟨Foll.stay ⟨rfl,rfl,rfl,rfl,rfl,rfl⟩ d,λ_=>y⟩
  rw[Rs.feed,if_pos d];rw[E] at v k ⊢;cases e:(r.take t c).1.opn with
  |true=>
   have p:=v e;unfold Rs.Sure at p;rw[if_pos f] at p;unfold Rs.Good at k;rw[if_pos f] at k;obtain⟨m1,m2⟩:=B (o.2 e) p k e (λj K=>by have:=q (j+1) (Nat.succ_lt_succ K);rw[show P+(j+1)=P+1+j by omega] at this;exact this) (by omega) λx b=>s x (List.mem_cons_of_mem _ b);exact⟨o.1.then e m1,λb=>by rw[hU,show P+(cs.length+1)=P+1+cs.length by omega];exact m2 b⟩
  |false=>
   rw[Rs.feed_shut t cs _ e,dX];exact⟨o.1,λb=>by have z:(r.take t c).1.opn=true:=b;rw[e] at z;cases z⟩
theorem Rs.drain_foll {t:Tb}{xs:List Nat}(ok:t.Ok)(p:t.Sharp)(f:∀c∈xs,c<256)(n:Nat):∀{r:Rs} {e:Nat},r.SE t xs xs.length e->r.SI xs xs.length->r.Ok t->r.count=n->r.opn=true->r.hAt+t.ahead=xs.length+e->Foll t xs r (Rs.drain t n r)/\((Rs.drain t n r).1.opn=true->∃e,(Rs.drain t n r).1.SE t xs xs.length e):=by
 induction n with
 |zero=>intro r e d i g j b q;exact⟨Foll.stay ⟨rfl,rfl,rfl,rfl,rfl,rfl⟩ b,λ_=>⟨e,d⟩⟩
 |succ n s=>
  intro r e d i g j b q;have u:(r.look t).SE t xs xs.length (e+1):=by
   refine⟨d.best,?_⟩;rw[zIA,zEG];exact zCN t _ _ _ d.ahd
  have k:(r.look t).SI xs xs.length:=Rs.looked_si i _;have l:=r.look_ok t g;obtain⟨v,w⟩:=Rs.step_foll ok p f u k l (by show 1<=r.count;omega) b (by show r.hAt+1+t.ahead=_;omega) (.inr rfl);have m:Foll t xs r ((r.look t).step t):=v.like ⟨rfl,rfl,rfl,rfl,rfl,rfl⟩;obtain⟨_,x⟩:=Rs.step_goes t k g.first (by show 1<=r.count;omega) b
  have y:=((r.look t).took t).fin_ok t ok ((r.look t).took_ok t ok l);have z:=r.step_count t;have A:((r.look t).step t).1.hAt=r.hAt+1:=(((r.look t).took t).fin_same t).hAt;rw[Rs.drain,if_neg (by rw[b];decide)];cases a:((r.look t).step t).1.opn with
  |true=>
   obtain⟨m1,m2⟩:=s (r:=((r.look t).step t).1) (w a) (x a) y (by rw[z,j];rfl) a (by omega);exact⟨m.then a m1,m2⟩
  |false=>
   have e:Rs.drain t n ((r.look t).step t).1=(((r.look t).step t).1,[]):=by
    cases n with
    |zero=>rfl
    |succ n=>rw[Rs.drain,if_pos a]
   rw[e,dX];exact⟨m,λf=>by have o:((r.look t).step t).1.opn=true:=f;rw[a] at o;cases o⟩
theorem zM5 (t:Tb)(xs:List Nat)(P:Nat)(a j:Nat)(b:a=val (t.count+1) (t.came xs P 0)%t.rows):t.aheadTo a j=val (t.count+1) (t.came xs P j)%t.rows:=by
 induction j with
 |zero=>exact b
 |succ j c=>
  rw[Tb.aheadTo,zIA,zEG];exact zCN t _ _ _ c
theorem zNp (t:Tb)(f:t.Fine)(g:t.stream=true)(x:t.Sharp)(p:Nat)(s:ByteArray):t.events p s=t.sp (nats s) (Rs.born t p):=by
 have i:=zC8 s;have y:(Rs.born t p).SI (nats s) 0:=⟨⟨rfl,rfl,lX⟩,rfl,rfl,lQ,rfl,lX,λj G=>absurd G (Nat.not_lt_zero _)⟩
 have o:=Rs.born_good t p f;have H:(Rs.born t p).Sure (nats s) t 0:=by unfold Rs.Sure;rw[if_pos g];exact y
 have I:(Rs.born t p).Str t 0:=by have c:=o;unfold Rs.Good at c;rw[if_pos g] at c;exact c
 have J:(Rs.born t p).SE t (nats s) 0 0:=⟨by show _=sh 0 _;rw[zGL];rfl,by show 0=0%t.rows;rw[Nat.zero_mod]⟩
 obtain⟨_,z⟩:=Rs.feed_goes t f.ok (nats s) H o rfl ⟨rfl,rfl,lX⟩ (λj _=>by rw[Nat.zero_add]) (by rw[Nat.zero_add];exact lQ) i;obtain⟨m,A⟩:=Rs.feedS_foll f.ok g x i (nats s) J y I rfl (λj _=>by rw[Nat.zero_add]) (by rw[Nat.zero_add];exact lQ) i;have u:=(Rs.feed_inv t f.ok (nats s) (Rs.born t p) 0 o i).1;rw[Nat.zero_add] at z u A;unfold Tb.events;generalize Rs.feed t (nats s) (Rs.born t p)=a at *;cases b:a.1.opn with
 |false=>
  have e:a.1.shut t=(a.1,[]):=by unfold Rs.shut;rw[b];rfl
  unfold Foll at m;rw[b] at m;rw[e,m];rfl
 |true=>
  have k:=z b;unfold Rs.Sure at k;rw[if_pos g] at k;have v:a.1.Str t (nats s).length:=by have c:=u;unfold Rs.Good at c;rw[if_pos g] at c;exact c
  have B:=A b;have N:=v.cnt;have O:=k.hp;have C:Foll t (nats s) a.1 (a.1.shut t)/\(a.1.shut t).1.opn=false:=by
   refine⟨?_,(a.1.shut_end t _ f.ok u b).1⟩;unfold Rs.shut;rw[if_pos b,if_pos g];obtain⟨K,L⟩:=Rs.drain_foll f.ok x i a.1.count (r:=a.1.pad t (t.ahead-a.1.count)) (e:=t.ahead-a.1.count) ⟨B.best,zM5 t (nats s) _ _ _ B.ahd⟩ (Rs.looked_si k _) (a.1.pad_ok t _ v.ok) rfl b (by show a.1.hAt+t.ahead=_;omega);obtain⟨_,m2⟩:=Rs.drain_goes t a.1.count (r:=a.1.pad t (t.ahead-a.1.count)) (Rs.looked_si k _) v.ok.first rfl b
   have D:Foll t (nats s) a.1 (Rs.drain t a.1.count (a.1.pad t (t.ahead-a.1.count))):=K.like ⟨rfl,rfl,rfl,rfl,rfl,rfl⟩;unfold Rs.closed;simp only;generalize Rs.drain t a.1.count (a.1.pad t (t.ahead-a.1.count))=l at *;unfold Rs.ended;cases w:l.1.opn with
   |false=>
    rw[if_pos rfl,dX];exact D
   |true=>
    obtain⟨E,P⟩:=m2 w;obtain⟨e,M⟩:=L w;have Q:=E.hp;have R:=E.bh;rw[if_neg (by decide)];refine D.then w ?_
    split
    ·exact Foll.fin (r:=l.1) (q:=l.1) ⟨rfl,rfl,rfl,rfl,rfl,rfl⟩ (by omega)
    ·refine Foll.no (r:=l.1) (q:=l.1) ⟨rfl,rfl,rfl,rfl,rfl,rfl⟩ (by omega) ?_
     rw[M.best,List.drop_of_length_le (by omega)];rfl
  have:=m.then b C.1
  unfold Foll at this;rw[show ((a.1.shut t).1,a.2++(a.1.shut t).2).1.opn=false from C.2] at this;rw[this];exact(dX _).symm
theorem zHG (u:Tb)(n:Nat)(a:(u.spreadTo n).2=false):u.spreadTo n=(u,false)/\∀s,s<n->u.live s=true\/u.anyTo s u.count=false:=by
 induction n with
 |zero=>exact⟨rfl,λs c=>absurd c (Nat.not_lt_zero _)⟩
 |succ n f=>
  unfold Tb.spreadTo at a ⊢;split at a
  ·cases a
  ·rename_i b
   obtain⟨d,g⟩:=f a;rw[if_neg b];refine⟨d,λs c=>?_⟩;by_cases e:s=n
   ·subst e
    rw[d] at b;cases i:u.live s with
    |true=>exact .inl rfl
    |false=>
     right
     cases j:u.anyTo s u.count with
     |false=>rfl
     |true=>
      refine absurd ?_ b;show(!u.live s&&u.anyTo s u.count)=true;rw[i,j];rfl
   ·exact g s (by omega)
theorem zHI (u:Tb)(n s:Nat)(b:u.live s=true):(u.spreadTo n).1.live s=true:=by
 induction n with
 |zero=>exact b
 |succ n a=>
  unfold Tb.spreadTo;split
  ·show(if s=n then true else(u.spreadTo n).1.live s)=true
   split
   ·rfl
   ·exact a
  ·exact a
theorem zMj (t:Tb)(n s:Nat)(a:t.live s=true):(t.itr n).live s=true:=by
 induction n with
 |zero=>exact a
 |succ n b=>exact zHI _ _ _ b
theorem zNA (t:Tb)(s n:Nat)(a:t.anyTo s n=false)(k:Nat)(c:k<n):t.live (t.next s k)=false:=by
 induction n with
 |zero=>omega
 |succ n b=>
  rw[Tb.anyTo,Bool.or_eq_false_iff] at a;by_cases e:k=n
  ·rw[e];exact a.2
  ·exact b a.1 (by omega)
theorem Tb.dead_of {t:Tb}(ok:t.Ok)(h:∀s,s<t.nst->t.live s=true\/∀k,k<t.count->t.live (t.next s k)=false)(a:∀s,t.live s=false->t.ends s=-1):t.Dead:=by
 intro q b d;refine⟨a q d,λcs=>?_⟩;induction cs generalizing q with
 |nil=>intro _;rfl
 |cons c cs i=>
  intro e;have f:=ok.kind c (e c gQ);have g:t.live (t.go q c)=false:=((h q b).resolve_left (by rw[d];decide)) _ f;rw[zBw t _ _ _ (.inl (a _ g)),i (t.go q c) (ok.next q _ b f) g λx j=>e x (List.mem_cons_of_mem _ j)];rfl
theorem zKZ {t0 t:Tb}(n:Nat)(g:((t0.first.itr n).spreadTo t0.nst).2=false)(ok:t.Ok)(o:t.nst=t0.nst)(i:t.count=t0.count)(j:t.next=t0.next)(l:t.ends=t0.ends)(e:t.live=(t0.first.itr n).live):t.Dead:=by
 obtain⟨_,b⟩:=zHG _ _ g;have c:=jP t0.first n
 have s1:(t0.first.itr n).count=t0.count:=by rw[c];rfl
 have s2:(t0.first.itr n).next=t0.next:=by rw[c];rfl
 refine Tb.dead_of ok (λs c=>?_) (λs d=>?_)
 ·rw[e,i,j]
  rcases b s (by omega) with a|a
  ·exact .inl a
  ·right
   intro k m;rw[s1] at a;have:=zNA _ _ _ a k m;rw[s2] at this;exact this
 ·rw[e] at d
  rw[l];cases f:decide (t0.ends s=-1) with
  |true=>exact of_decide_eq_true f
  |false=>
   have b:t0.first.live s=true:=by
    show(t0.ends s != -1)=true;rw[bne_iff_ne];exact of_decide_eq_false f
   rw[zMj _ n s b] at d;cases d
theorem zGC (k a:Nat)(c:zG k a<=3000):zG k a=(k+1)^a:=by
 induction a with
 |zero=>rfl
 |succ a d=>
  rw[zG] at c ⊢;split at c
  ·rename_i b
   rw[if_pos b,d b,Nat.pow_succ]
  ·rename_i b
   exact absurd c b
theorem zMR (k a b:Nat)(g:a<=b)(c:zG k b<=3000):zG k a<=3000:=by
 induction b with
 |zero=>rw[show a=0 by omega];exact c
 |succ b f=>
  by_cases e:a=b+1
  ·rw[e];exact c
  ·rw[zG] at c
   split at c
   ·rename_i d;exact f (by omega) d
   ·rename_i d;exact absurd c d
theorem zL1 (f:Nat->Bool)(n i:Nat)(l:i<n):decide (xN f n (i/8)/2^(i%8)%2=1)=f i:=by
 induction n with
 |zero=>omega
 |succ n j=>
  rw[xN];by_cases e:i=n
  ·subst e
   have a:=zDz f i (i/8) (by omega) (by omega);rw[show i-8*(i/8)=i%8 by omega] at a;have b:0<2^(i%8):=Nat.pow_pos (by decide);cases m:f i with
   |true=>
    rw[if_pos ⟨rfl,rfl⟩,Nat.add_div_right _ b,Nat.div_eq_of_lt a];rfl
   |false=>
    rw[if_neg (by rintro⟨g,_⟩;cases g),Nat.div_eq_of_lt a];rfl
  ·rw[<-j (by omega)]
   split
   ·rename_i g
    obtain⟨c,k⟩:∃c,n%8=i%8+(c+1):=⟨n%8-i%8-1,by omega⟩
    have b:0<2^(i%8):=Nat.pow_pos (by decide);rw[k,Nat.pow_add,Nat.add_mul_div_left _ _ b,Nat.pow_succ,Nat.mul_comm (2^c),Nat.add_mul_mod_self_left]
   ·rfl
def Tb.hit (t:Tb):Nat->List Nat->Bool
 |_,[]=>false
 |q,d::ds=>if d=t.count then false else(t.ends (t.next q d) != -1)||t.hit (t.next q d) ds
theorem zLE (t:Tb)(o:∀s k,s<t.nst->k<t.count->t.next s k<t.nst)(m:Nat)(p:zG t.count m<=3000):∀(a:List Nat) (q:Nat),a.length=m->(∀b∈a,b<t.count+1)->q<t.nst->t.aheadF m (val (t.count+1) a*t.nst+q)=t.hit q a:=by
 induction m with
 |zero=>
  intro a q c _ _;rw[List.length_eq_zero_iff.1 c];rfl
 |succ m r=>
  intro a q c f g;cases a with
  |nil=>rw[List.length_nil] at c;omega
  |cons b a=>
   rw[hU] at c;have e:a.length=m:=by omega
   have h:=zMR t.count m (m+1) (by omega) p;have i:=zGC t.count m h;have u:val (t.count+1) (b::a)=b*zG t.count m+val (t.count+1) a:=by
    have:=zGD (t.count+1) [b] a;rw[show val (t.count+1) [b]=b by simp[val],e,<-i] at this;exact this
   have j:∀x∈a,x<t.count+1:=λx v=>f x (List.mem_cons_of_mem _ v);have l:=zIS (t.count+1) a j;rw[e,<-i] at l;show t.more (zG t.count m) (t.aheadF m) _=_;rw[u,Nat.add_mul,Nat.mul_assoc,zJ8 t _ _ b (val (t.count+1) a) q l g];unfold Tb.willEnd Tb.hit;split
   ·rfl
   ·rename_i w
    show((t.ends (t.next q b) != -1)||t.aheadF m (val (t.count+1) a*t.nst+t.next q b))=_;rw[r h a _ e j (o q b g (by have:=f b gQ;omega))]
theorem zJq (t:Tb)(i:∀s k,s<t.nst->k<t.count->t.next s k<t.nst)(a:Nat)(c:zG t.count a<=3000)(b:List Nat)(q:Nat)(e:b.length=a)(f:∀j∈b,j<t.count+1)(g:q<t.nst):(t.looking a).longer (val (t.count+1) b) q=t.hit q b:=by
 have h:=zIS (t.count+1) b f;rw[e,<-zGC t.count a c] at h;have l:val (t.count+1) b*t.nst+q<zG t.count a*t.nst:=by
  calc val (t.count+1) b*t.nst+q<val (t.count+1) b*t.nst+t.nst:=Nat.add_lt_add_left g _
   _=(val (t.count+1) b+1)*t.nst:=by rw[Nat.add_mul,Nat.one_mul]
   _<=zG t.count a*t.nst:=Nat.mul_le_mul_right _ h
 rw[<-zLE t i a c b q e f g];exact zL1 (t.aheadF a) _ _ l
theorem zGw (t:Tb)(c:Nat)(cs:List Nat)(m:Nat):t.digs (c::cs) (m+1)=t.kind c::t.digs cs m:=by
 unfold Tb.digs;rw[List.map_cons,List.cons_append,List.take_succ_cons,List.take_append,List.take_append,kV,List.take_replicate,List.take_replicate,show min (m-cs.length) (m+1)=min (m-cs.length) m by omega]
theorem zMy (t:Tb)(m:Nat):t.digs [] (m+1)=t.count::t.digs [] m:=by
 unfold Tb.digs;rw[List.map_nil,List.nil_append,List.nil_append,List.replicate_succ,List.take_succ_cons,List.take_replicate]
theorem zIw (t:Tb)(cs:List Nat)(m:Nat):(t.digs cs m).length=m:=by
 unfold Tb.digs;rw[List.length_take,kX,List.length_replicate];omega
theorem zNu (t:Tb)(ok:t.Ok)(cs:List Nat)(e:∀c∈cs,c<256)(m:Nat):∀b∈t.digs cs m,b<t.count+1:=by
 intro b a;rcases kU.1 (List.mem_of_mem_take a) with a|a
 ·obtain⟨c,f,rfl⟩:=List.mem_map.1 a
  exact Nat.lt_succ_of_lt (ok.kind c (e c f))
 ·rw[(List.mem_replicate.1 a).2]
  exact Nat.lt_succ_self _
theorem zMo (t:Tb)(ok:t.Ok)(m:Nat):∀(cs:List Nat) (q:Nat),(∀c∈cs,c<256)->t.hit q (t.digs cs m)=true->t.best q cs≠none:=by
 induction m with
 |zero=>
  intro cs q _ a;have:t.digs cs 0=[]:=List.length_eq_zero_iff.1 (zIw t cs 0);rw[this] at a;cases a
 |succ m i=>
  intro cs q e a;cases cs with
  |nil=>
   rw[zMy,Tb.hit,if_pos rfl] at a;cases a
  |cons c cs=>
   have l:=ok.kind c (e c gQ);rw[zGw,Tb.hit,if_neg (by omega)] at a;intro b;rw[zAc] at b;cases d:t.best (t.go q c) cs with
   |some p=>rw[d] at b;cases b
   |none=>
    rw[d] at b;have f:(if t.ends (t.go q c)=-1 then none else some (1,t.go q c))=none:=b;split at f
    ·rename_i j
     have g:((t.ends (t.go q c) != -1)||t.hit (t.go q c) (t.digs cs m))=true:=a;rw[j] at g;exact i cs _ (λx k=>e x (List.mem_cons_of_mem _ k)) g d
    ·cases f
structure Tb.Fronts (t:Tb)(a:Nat)(F:Nat->Nat->Prop)(N:Nat->Prop):Prop where
 first:∀q,q<t.nst->t.ends q≠-1->F 0 q
 next:∀i q c,c<256->F i q->N (t.go q c)\/t.ends (t.go q c)≠-1\/F (i+1) (t.go q c)
 last:∀q c,c<256->F a q->N (t.go q c)
 none_:∀q,N q->t.ends q=-1/\∀c,c<256->N (t.go q c)
theorem zGf {t:Tb}{a:Nat}{g:Nat->Nat->Prop}{b:Nat->Prop}(d:t.Fronts a g b):∀(cs:List Nat) (q:Nat),(∀c∈cs,c<256)->b q->t.best q cs=none:=by
 intro cs;induction cs with
 |nil=>intro q _ _;rfl
 |cons c cs i=>
  intro q e j;have f:=(d.none_ q j).2 c (e c gQ);rw[zBw t _ _ _ (.inl (d.none_ _ f).1),i _ (λx k=>e x (List.mem_cons_of_mem _ k)) f];rfl
theorem zJD {t:Tb}{a:Nat}{k:Nat->Nat->Prop}{s:Nat->Prop}(ok:t.Ok)(d:t.Fronts a k s):∀(cs:List Nat) (i q:Nat),i<=a->(∀c∈cs,c<256)->k i q->t.hit q (t.digs cs (a-i))=false->t.best q cs=none:=by
 intro cs;induction cs with
 |nil=>intro i q _ _ _ _;rfl
 |cons c cs u=>
  intro i q y l o f;have g:=l c gQ;have j:∀x∈cs,x<256:=λx v=>l x (List.mem_cons_of_mem _ v);have p:t.ends (t.go q c)=-1/\t.best (t.go q c) cs=none:=by
   by_cases e:i=a
   ·subst e
    have b:=d.last q c g o;exact⟨(d.none_ _ b).1,zGf d cs _ j b⟩
   ·obtain⟨m,w⟩:∃m,a-i=m+1:=⟨a-i-1,by omega⟩
    have z:=ok.kind c g;rw[w,zGw,Tb.hit,if_neg (by omega),Bool.or_eq_false_iff] at f;have r:t.ends (t.go q c)=-1:=by
     have:=f.1;rw[bne_eq_false_iff_eq] at this;exact this
    refine⟨r,?_⟩;rcases d.next i q c g o with b|b|b
    ·exact zGf d cs _ j b
    ·exact absurd r b
    ·exact u (i+1) _ (by omega) j b (by rw[show a-(i+1)=m by omega];exact f.2)
  rw[zBw t _ _ _ (.inl p.1),p.2];rfl
def Mk.Z (m:Mk):Prop:=m.next.head? =some zeros/\m.rules.head? =some (-1)
theorem zIo {a:Type}{l k:List a}{x:a}(b:l.head? =some x):(l++k).head? =some x:=by
 cases l with
 |nil=>cases b
 |cons y l=>exact b
theorem Mk.Z.add {m:Mk}(a:m.Z)(most:Nat)(r:Int):(m.add most r).Z:=by
 unfold Mk.add;split
 ·exact a
 ·exact⟨zIo a.1,zIo a.2⟩
theorem Mk.Z.put {m:Mk}(c:m.Z)(s b:Nat)(x:Int)(d:1<=s):(m.put s b x).Z:=by
 refine⟨?_,c.2⟩;show(m.next.set s _).head? =_;have a:=c.1;obtain⟨k,rfl⟩:∃k,s=k+1:=⟨s-1,by omega⟩
 cases e:m.next with
 |nil=>rw[e] at a;cases a
 |cons y l=>rw[e] at a;exact a
theorem Mk.Z.fillTo {m:Mk}(a:m.Z)(s:Nat)(f:Nat->Int)(b:1<=s)(j:Nat):(m.fillTo s f j).Z:=by
 induction j with
 |zero=>exact a
 |succ j c=>exact c.put _ _ _ b
theorem Mk.Z.withM {m:Mk}(a:m.Z)(most:Nat)(f:Nat->Int):(m.withM most f).Z:=by
 unfold Mk.withM;split
 ·exact a
 ·split
  ·exact a
  ·split
   ·exact a.add _ _
   ·exact(a.add _ _).fillTo _ _ (by omega) _
def zIP (sub:Mk->Nat->Int×Mk):Prop:=∀m c,m.Z->(sub m c).2.Z
theorem zOh (most c:Nat):∀(m:Mk) (to:Int),m.Z->(Mk.even most c m to).2.Z:=by
 induction c with
 |zero=>exact λm to a=>a
 |succ c b=>exact λm to a=>b _ _ (a.withM _ _)
theorem zOv {a:Mk->Nat->Int×Mk}(c:zIP a)(step low:Nat){m:Mk}(d:m.Z)(j:Nat):(yV a step low m j).2.Z:=by
 induction j with
 |zero=>exact d
 |succ j b=>
  unfold yV;split
  ·exact b
  ·exact c _ _ b
theorem zGm (k:Kd)(a:Ar)(most kind cnt step:Nat){b:Mk->Nat->Int×Mk}(d:zIP b):zIP (jQ k a most kind cnt step b):=by
 intro m low c;unfold jQ;split
 ·exact zOh most cnt m _ c
 ·exact(zOv d step low c 64).withM _ _
theorem zFf (k:Kd)(a:Ar)(most kind l:Nat):zIP (yG k a most kind l):=by
 induction l with
 |zero=>exact zGm k a most kind 1 1 λm c b=>b
 |succ l d=>exact zGm k a most kind (l+2) (qZ (l+2)) d
theorem zEx {a:Mk->Nat->Int×Mk}(b:zIP a)(s c:Nat)(d:1<=s){m:Mk}(e:m.Z)(j:Nat):(qV a s c m j).Z:=by
 induction j with
 |zero=>exact e
 |succ j f=>exact(b _ _ f).put _ _ _ d
theorem zNo (k:Kd)(a:Ar)(most kind s:Nat)(d:1<=s){m:Mk}(e:m.Z):(zBd k a most kind s m).Z:=by
 refine zEx (λm c b=>zFf k a most kind 2 m _ b) s 240 d (zEx (λm c b=>zFf k a most kind 1 m _ b) s 224 d (zEx (λm c b=>zFf k a most kind 0 m _ b) s 194 d (zEx (λm c b=>b) s 0 d e 128) 30) 16) 5
theorem zJW (k:Kd)(most n:Nat)(a:(zV k most n).full=false):(zV k most n).Z/\∀j,j<n->j≠k.dead->1<=(zV k most n).of.getD j 0:=by
 induction n with
 |zero=>
  refine⟨?_,λj b=>absurd b (Nat.not_lt_zero _)⟩;have c:(Mk.blank.add most (-1)).full=false:=a;show(Mk.blank.add most (-1)).Z;unfold Mk.add at c ⊢;split at c
  ·cases c
  ·rename_i e
   rw[if_neg e];exact⟨rfl,rfl⟩
 |succ n o=>
  have s:=(zB7 k most n).2;unfold zV at a ⊢;split at a
  ·rename_i d
   rw[if_pos d];obtain⟨f,g⟩:=o a;refine⟨f,λj b i=>?_⟩;show 1<=((zV k most n).of++[0]).getD j 0;rw[lW,kW (by omega),<-lW];exact g j (by omega) i
  ·rename_i d
   rw[if_neg d];have p:=zBA (m:=zV k most n) (most:=most) (r:=k.rules.getD n 0) a;obtain⟨f,g⟩:=o p.1;have t:=(zF5 k most n p.1).one;refine⟨f.add _ _,λj b i=>?_⟩;show 1<=((zV k most n).of++[_]).getD j 0;by_cases e:j<n
   ·rw[lW,kW (by omega),<-lW]
    exact g j e i
   ·rw[lW,hY (by omega),show j-(zV k most n).of.length=0 by omega]
    show(1:Int)<=(((zV k most n).addN most:Nat):Int);have l:((zV k most n).add most (k.rules.getD n 0)).full=false:=a;unfold Mk.add at l;unfold Mk.addN;split at l
    ·cases l
    ·rename_i q
     rw[if_neg q];omega
theorem zN5 (k:Kd)(a:Ar)(most j:Nat)(g:j<=k.rows.length)(c:(qO k a most j).full=false):(qO k a most j).Z:=by
 induction j with
 |zero=>exact(zJW k most _ c).1
 |succ j d=>
  unfold qO at c ⊢;split at c
  ·rename_i b
   rw[if_pos b];obtain⟨_,m2,_,e⟩:=zCe k a most j;have f:=(zJW k most _ (e b.2)).2 j (by omega) b.1;rw[<-m2] at f;exact zNo k a most j _ (by omega) (d (by omega) b.2)
  ·rename_i b
   rw[if_neg b];exact d (by omega) c
def Sm.Z (m:Sm):Prop:=m.next.head? =some zeros/\m.rules.head? =some (-1)
theorem zN4 {D:Nat}{rules:List Tr}{most:Nat}{m:Sm}(a:zBR D rules most=some m):m.Z:=by
 unfold zBR at a;split at a
 ·cases a
 ·split at a
  ·cases a
  ·rename_i k _ b
   cases a
   exact zN5 k _ most _ lQ (Bool.eq_false_iff.2 b)
theorem zNb {D:Nat}{sh:Sh}(f:Nat):∀{j most:Nat} {ms:List Sm},xS D sh f j most=some ms->∀m∈ms,m.Z:=by
 induction f with
 |zero=>intro j most ms a m b;cases a;cases b
 |succ f d=>
  intro j most ms a m b;rw[xS] at a;split at a
  ·cases a
  ·rename_i x e
   cases c:xS D sh f (j+1) (most-x.next.length) with
   |none=>rw[c] at a;cases a
   |some l=>
    rw[c] at a;cases a
    rcases List.mem_cons.1 b with rfl|b
    ·exact zN4 e
    ·exact d c m b
theorem zOR {s:ByteArray}{d hold:Int}{ms:List Sm}{sh:Sh}(a:zAq s d hold=.inl (ms,sh)):∀m∈ms,m.Z:=by
 unfold zAq at a;split at a
 ·cases a
 ·cases f:jL s with
  |inr e=>rw[f] at a;cases a
  |inl b=>
   rw[f] at a;have c:(match xS (1+6*s.size) b b.modes.length 0 d.toNat with|none=>.inr (0,5)|some ms=>.inl (ms,b))=(.inl (ms,sh):(List Sm×Sh) ⊕ (Nat×Nat)):=a;split at c
   ·cases c
   ·rename_i l g
    cases c
    exact zNb _ g
theorem zGk (ms:List Sm)(b n a:Nat)(d:b<n)(f:n<=a):(zB ms a).1.getD b 0=(zB ms n).1.getD b 0:=by
 induction a with
 |zero=>omega
 |succ a c=>
  by_cases e:n=a+1
  ·rw[e]
  ·rw[<-c (by omega)]
   have g:=(qI ms a).1;rw[zB];split <;> rw[lW,kW (by omega),<-lW]
theorem zIq (ms:List Sm)(n:Nat)(c:yX ms n<n)(m:Sm)(d:m∈ms)(row:List Int)(e:row∈m.next):row.getD (yX ms n) 0=row.getD n 0:=by
 have f:(List.range n).findIdx (λa=>zA7 ms a n)<(List.range n).length:=by rw[List.length_range];exact c
 have b:=List.findIdx_getElem (w:=f);rw[List.getElem_range] at b;have g:=List.all_eq_true.1 b m d;have i:=List.all_eq_true.1 g row e;exact eq_of_beq i
theorem zMh (ms:List Sm)(m:Sm)(q:m∈ms)(row:List Int)(r:row∈m.next)(f:Int)(n:Nat)(s:n<=256):∀b,b<n->0<=(zB ms 256).1.getD b 0/\(zB ms 256).1.getD b 0<((zB ms n).2:Int)/\(zR (zB ms 256).1 row f n).getD ((zB ms 256).1.getD b 0).toNat 0=f+row.getD b 0:=by
 induction n with
 |zero=>intro b t;omega
 |succ n u=>
  intro b t;have c:=zCA ms row f 256 n (by omega);have l:=zGk ms n (n+1) 256 (by omega) s;have o:=(qI ms n).1;have g:=u (by omega);by_cases a:yX ms n<n
  ·obtain⟨h,p,i⟩:=g _ a
   have d:(zB ms 256).1.getD n 0=(zB ms 256).1.getD (yX ms n) 0:=by
    rw[l,zGk ms (yX ms n) n 256 a (by omega),zB,if_pos a];show((zB ms n).1++[_]).getD n 0=_;rw[lW,hY (by omega),o,Nat.sub_self];rfl
   have j:(zB ms (n+1)).2=(zB ms n).2:=by rw[zB,if_pos a]
   have k:zR (zB ms 256).1 row f (n+1)=zR (zB ms 256).1 row f n:=by rw[zR,if_neg (by rw[c,d];omega)]
   rw[k,j];by_cases e:b=n
   ·rw[e,d]
    exact⟨h,p,by rw[i,zIq ms n a m q row r]⟩
   ·exact g b (by omega)
  ·have d:(zB ms 256).1.getD n 0=((zB ms n).2:Int):=by
    rw[l,zB,if_neg a];show((zB ms n).1++[_]).getD n 0=_;rw[lW,hY (by omega),o,Nat.sub_self];rfl
   have j:(zB ms (n+1)).2=(zB ms n).2+1:=by rw[zB,if_neg a]
   have k:zR (zB ms 256).1 row f (n+1)=zR (zB ms 256).1 row f n++[f+row.getD n 0]:=by rw[zR,if_pos (by rw[c,d])]
   rw[k,j];by_cases e:b=n
   ·rw[e,d]
    refine⟨by omega,by omega,?_⟩;rw[lW,hY (by rw[c];omega),c,Int.toNat_natCast,Nat.sub_self];rfl
   ·obtain⟨h,p,i⟩:=g b (by omega)
    refine⟨h,by omega,?_⟩;rw[lW,kW (by rw[c];omega),<-lW,i]
theorem zLO (ms:List Sm)(n q:Nat)(a:q<zE ms n):∃j s,j<n/\s<(ms.getD j Sm.none).next.length/\q=zE ms j+s:=by
 induction n with
 |zero=>exact absurd a (Nat.not_lt_zero _)
 |succ n b=>
  by_cases e:q<zE ms n
  ·obtain⟨j,s,f,c,d⟩:=b e
   exact⟨j,s,by omega,c,d⟩
  ·rw[zE] at a
   exact⟨n,q-zE ms n,by omega,by show _<(ms.getD n ⟨[],[],0,[]⟩).next.length;omega,by omega⟩
theorem zKc (ms:List Sm)(c:ModesOk ms)(a:List Int)(n:Nat)(q:n<=ms.length)(j s:Nat)(r:j<n)(b:s<(ms.getD j Sm.none).next.length):(zQ a ms n).next.getD (zE ms j+s) []=zR a ((ms.getD j Sm.none).next.getD s []) (zE ms j:Nat) 256/\(zQ a ms n).ends.getD (zE ms j+s) 0=yB (zQ a ms j).rules ((ms.getD j Sm.none).rules.getD s 0):=by
 induction n with
 |zero=>omega
 |succ n g=>
  obtain⟨s1,s2,i,t⟩:=vH a ms c n (by omega);have u:zE ms (j+1)=zE ms j+(ms.getD j Sm.none).next.length:=rfl
  rw[zQ];show((zQ a ms n).next++_).getD _ _=_/\((zQ a ms n).ends++_).getD _ _=_;by_cases e:j<n
  ·have v:=qC ms (j+1) n e
   obtain⟨k,m⟩:=g (by omega) e;rw[lW,kW (by omega),<-lW,lW (l:=_++_),kW (by omega),<-lW];exact⟨k,m⟩
  ·have o:j=n:=by omega
   subst o;have p:=(c.rules j (by omega)).1;have d:ms.getD j Sm.none=ms[j]:=by rw[lW,lV (by omega),Option.getD_some]
   have f:s<(ms.getD j Sm.none).rules.length:=by rw[d,p,<-d];exact b
   constructor
   ·rw[lW,hY (by omega),s2,Nat.add_sub_cancel_left,gZ]
    show(Option.map _ (ms.getD j Sm.none).next[s]?).getD []=_;rw[lV b,Option.map_some,Option.getD_some,lW (l:=(ms.getD j Sm.none).next),lV b,Option.getD_some]
   ·rw[lW,hY (by omega),i,Nat.add_sub_cancel_left,gZ]
    show(Option.map _ (ms.getD j Sm.none).rules[s]?).getD 0=_;rw[lV f,Option.map_some,Option.getD_some,lW (l:=(ms.getD j Sm.none).rules),lV f,Option.getD_some]
theorem zBx (ms:List Sm)(d:ModesOk ms)(acts pushed:List Int)(hold j s c:Nat)(b:j<ms.length)(f:s<(ms.getD j Sm.none).next.length)(g:c<256):(zW ms acts pushed hold).go (zE ms j+s) c=zE ms j+(((ms.getD j Sm.none).next.getD s []).getD c 0).toNat/\0<=((ms.getD j Sm.none).next.getD s []).getD c 0/\((ms.getD j Sm.none).next.getD s []).getD c 0<((ms.getD j Sm.none).next.length:Int)/\((zW ms acts pushed hold).ends (zE ms j+s)=-1↔(ms.getD j Sm.none).rules.getD s 0=-1):=by
 obtain⟨o,p⟩:=zKc ms d (zB ms 256).1 ms.length lQ j s b f;have a:ms.getD j Sm.none=ms[j]:=by rw[lW,lV b,Option.getD_some]
 have q:ms.getD j Sm.none∈ms:=by rw[a];exact List.getElem_mem b
 have i:(ms.getD j Sm.none).next.getD s []∈(ms.getD j Sm.none).next:=zS _ s [] f
 obtain⟨_,w2⟩:=d.wide j b _ (by rw[<-a];exact i);obtain⟨r,k⟩:=w2 c g;rw[<-a] at k;obtain⟨_,_,t⟩:=zMh ms _ q _ i (zE ms j:Nat) 256 lQ c g;refine⟨?_,r,k,?_⟩
 ·show(((zQ (zB ms 256).1 ms ms.length).next.getD (zE ms j+s) []).getD ((zB ms 256).1.getD c 0).toNat 0).toNat=_
  rw[o,t];omega
 ·show(zQ (zB ms 256).1 ms ms.length).ends.getD (zE ms j+s) 0=-1↔_
  rw[p];have l:=(d.rules j b)
  have u:s<(ms.getD j Sm.none).rules.length:=by rw[a,l.1,<-a];exact f
  have:=(l.2 _ (by rw[<-a];exact zS _ s 0 u)).1;unfold yB;split
  ·rename_i e;rw[e]
  ·rename_i e
   constructor
   ·intro m;omega
   ·intro m;exact absurd m e
theorem zLf (p:Nat->Bool)(n:Nat)(b:(List.range n).findIdx p<n):p ((List.range n).findIdx p)=true:=by
 have c:(List.range n).findIdx p<(List.range n).length:=by rw[List.length_range];exact b
 have a:=List.findIdx_getElem (w:=c);rw[List.getElem_range] at a;exact a
theorem zFo (n:Nat)(f:Nat->Bool)(a:jZ n f<0):∀t,t<n->f t=false:=by
 intro t b;unfold jZ at a;split at a
 ·omega
 ·rename_i c
  cases d:f t with
  |false=>rfl
  |true=>
   exfalso
   apply c;have:=List.findIdx_lt_length_of_exists (xs:=List.range n) (p:=f) ⟨t,List.mem_range.2 b,d⟩;rw[List.length_range] at this;exact this
theorem zLn (m:Sm)(a:0<=xV m):zAu m (xV m).toNat=true:=by
 unfold xV at a ⊢;split at a
 ·rename_i b
  rw[if_pos b,Int.toNat_natCast];exact zLf (zAu m) _ b
 ·omega
theorem zJC (m:Sm)(a:Nat)(b:zAu m a=true)(k:Nat):(∀t,t<m.next.length->yR m (xD m (a+k)) t=false):=by
 induction k with
 |zero=>exact zFo _ _ (of_decide_eq_true b)
 |succ k c=>
  intro t j;show((((t:Nat):Int) != 0)&&(List.range m.next.length).any λi=>xD m (a+k+1) i&&_)=false;have:((List.range m.next.length).any λi=>xD m (a+k+1) i&&(m.next.getD i []).any (·==(t:Int)))=false:=by
   rw[List.any_eq_false];intro i e;have f:=c i (List.mem_range.1 e);have g:xD m (a+k+1) i=false:=by
    show qN (yR m (xD m (a+k))) (tokF m) i=false;unfold qN;rw[f];rfl
   rw[g];simp
  rw[this,Bool.and_false]
theorem zLF (ms:List Sm)(n:Nat)(a:0<=aheadTo ms n):∀j,j<n->0<=xV (ms.getD j Sm.none)/\xV (ms.getD j Sm.none)<=aheadTo ms n:=by
 induction n with
 |zero=>intro j b;omega
 |succ n c=>
  intro j b;have e:aheadTo ms (n+1)=yI (aheadTo ms n) (xV (ms.getD n Sm.none)):=rfl;rw[e] at a ⊢;unfold yI at a ⊢;split at a
  ·omega
  ·rename_i d
   rw[if_neg d];by_cases f:j=n
   ·subst f
    split <;> omega
   ·have:=c (by omega) j (by omega)
    split <;> omega
theorem zDx (m:Sm)(a:Nat->Bool)(s c:Nat)(b:s<m.next.length)(d:a s=true)(e:c<(m.next.getD s []).length)(x:Nat)(f:(m.next.getD s []).getD c 0=(x:Int))(g:x≠0):yR m a x=true:=by
 show(((x:Nat):Int) != 0&&(List.range m.next.length).any λi=>a i&&(m.next.getD i []).any (·==(x:Int)))=true;rw[Bool.and_eq_true];refine⟨by rw[bne_iff_ne];omega,List.any_eq_true.2 ⟨s,List.mem_range.2 b,?_⟩⟩;rw[Bool.and_eq_true];refine⟨d,List.any_eq_true.2 ⟨(m.next.getD s []).getD c 0,zS _ c 0 e,?_⟩⟩;rw[f];exact beq_self_eq_true _
theorem zIG (ms:List Sm)(f:ModesOk ms)(D:∀m∈ms,m.Z)(E:0<=aheadTo ms ms.length)(acts pushed:List Int)(hold:Nat):∃G H,(zW ms acts pushed hold).Fronts (aheadTo ms ms.length).toNat G H:=by
 have I:∀j,j<ms.length->ms.getD j Sm.none=ms[j]?.getD Sm.none/\ms.getD j Sm.none∈ms:=λj a=>⟨lW,zS _ _ _ a⟩
 have J:∀j s,j<ms.length->s<(ms.getD j Sm.none).next.length->((ms.getD j Sm.none).next.getD s []).length=256:=λj s a b=>by
  have u:ms.getD j Sm.none=ms[j]:=by rw[lW,lV a,Option.getD_some]
  rw[u] at b ⊢;exact(f.wide j a _ (zS _ s [] b)).1
 have z:∀i j s c,j<ms.length->s<(ms.getD j Sm.none).next.length->c<256->xD (ms.getD j Sm.none) i s=true->∃x:Nat,(zW ms acts pushed hold).go (zE ms j+s) c=zE ms j+x/\x<(ms.getD j Sm.none).next.length/\(x=0\/yR (ms.getD j Sm.none) (xD (ms.getD j Sm.none) i) x=true):=by
  intro i j s c a b d k;obtain⟨o,b2,R,_⟩:=zBx ms f acts pushed hold j s c a b d;refine⟨_,o,by omega,?_⟩;by_cases e:(((ms.getD j Sm.none).next.getD s []).getD c 0).toNat=0
  ·exact .inl e
  ·exact .inr (zDx _ _ s c b k (by rw[J j s a b];exact d) _ (Int.toNat_of_nonneg b2).symm e)
 refine⟨λi q=>∃j s,j<ms.length/\s<(ms.getD j Sm.none).next.length/\q=zE ms j+s/\xD (ms.getD j Sm.none) i s=true,λq=>∃j,j<ms.length/\q=zE ms j,?_,?_,?_,?_⟩
 ·intro q K L
  obtain⟨j,s,a,b,rfl⟩:=zLO ms ms.length q K;have v:=(zBx ms f acts pushed hold j s 0 a b (by decide)).2.2.2;refine⟨j,s,a,b,rfl,?_⟩;show((ms.getD j Sm.none).rules.getD s 0 != -1)=true;rw[bne_iff_ne];exact λe=>L (v.2 e)
 ·rintro i q c d ⟨j,s,a,b,rfl,k⟩
  obtain⟨x,w,p,g⟩:=z i j s c a b d k;rw[w];rcases g with rfl|g
  ·exact .inl ⟨j,a,rfl⟩
  ·right
   have v:=(zBx ms f acts pushed hold j x 0 a p (by decide)).2.2.2;cases A:tokF (ms.getD j Sm.none) x with
   |true=>
    left
    intro e;have B:((ms.getD j Sm.none).rules.getD x 0 != -1)=true:=A;rw[bne_iff_ne] at B;exact B (v.1 e)
   |false=>
    right
    refine⟨j,x,a,p,rfl,?_⟩;show(yR (ms.getD j Sm.none) (xD (ms.getD j Sm.none) i) x&& !tokF (ms.getD j Sm.none) x)=true;rw[g,A];rfl
 ·rintro q c d ⟨j,s,a,b,rfl,k⟩
  obtain⟨x,w,p,g⟩:=z _ j s c a b d k;rw[w];rcases g with rfl|g
  ·exact⟨j,a,rfl⟩
  ·obtain⟨M,S⟩:=zLF ms ms.length E j a
   have:=zJC _ _ (zLn _ M) ((aheadTo ms ms.length).toNat-(xV (ms.getD j Sm.none)).toNat) x p;rw[show (xV (ms.getD j Sm.none)).toNat+((aheadTo ms ms.length).toNat-(xV (ms.getD j Sm.none)).toNat)=(aheadTo ms ms.length).toNat by omega,g] at this;cases this
 ·rintro q ⟨j,a,rfl⟩
  obtain⟨r,t⟩:=D _ (I j a).2;have u:ms.getD j Sm.none=ms[j]:=by rw[lW,lV a,Option.getD_some]
  have C:0<(ms.getD j Sm.none).next.length:=by rw[u];exact f.states1 j a
  have O:(ms.getD j Sm.none).next.getD 0 []=zeros:=by
   cases e:(ms.getD j Sm.none).next with
   |nil=>rw[e] at r;cases r
   |cons y l=>rw[e] at r;exact hQ r
  have P:(ms.getD j Sm.none).rules.getD 0 0=-1:=by
   cases e:(ms.getD j Sm.none).rules with
   |nil=>rw[e] at t;cases t
   |cons y l=>rw[e] at t;exact hQ t
  refine⟨(zBx ms f acts pushed hold j 0 0 a C (by decide)).2.2.2.2 P,λc d=>⟨j,a,?_⟩⟩;have o:=(zBx ms f acts pushed hold j 0 c a C d).1;have Q:zeros.getD c 0=0:=by
   unfold zeros;rw[lW,List.getElem?_replicate,if_pos d];rfl
  rw[O,Q] at o;exact o
theorem zLy {t u:Tb}(a:t.next=u.next)(b:t.kind=u.kind)(d:t.ends=u.ends)(cs:List Nat):∀q,t.best q cs=u.best q cs:=by
 have e:∀q c,t.go q c=u.go q c:=λq c=>by unfold Tb.go;rw[a,b]
 induction cs with
 |nil=>intro q;rfl
 |cons c cs f=>intro q;rw[zAc,zAc,e,f,d]
theorem zMn {t u:Tb}(b:t.next=u.next)(c:t.count=u.count)(e:t.ends=u.ends)(a:List Nat):∀q,t.hit q a=u.hit q a:=by
 induction a with
 |nil=>intro q;rfl
 |cons g a f=>intro q;rw[Tb.hit,Tb.hit,b,c,e,f]
theorem zMX {t u:Tb}(e:t.next=u.next)(f:t.kind=u.kind)(b:t.ends=u.ends)(d:t.start=u.start)(g:t.act=u.act)(h:t.push=u.push)(xs:List Nat)(r:Rs):t.sp xs r=u.sp xs r:=by
 have i:∀(r:Rs) rule a l c,r.tok t rule a l c=r.tok u rule a l c:=λr rule a l c=>by unfold Rs.tok Rs.moved;rw[d,g,h]
 unfold Tb.sp;generalize xs.length+1=n;induction n generalizing r with
 |zero=>rfl
 |succ n j=>
  have k:r.top t=r.top u:=by unfold Rs.top;rw[d]
  rw[Tb.spec,Tb.spec,zLy e f b,k,b];simp only[i,j]
theorem zGr {ms:List Sm}{acts pushed:List Int}{hold n:Nat}{a:Bool}(b:(((zW ms acts pushed hold).first.itr n).spreadTo (zE ms ms.length)).2=false)(ok:(vS ms acts pushed hold n a).Ok):(vS ms acts pushed hold n a).Dead:=by
 have c:=jP (zW ms acts pushed hold).first n
 refine zKZ (t0:=zW ms acts pushed hold) n b ok ?_ ?_ ?_ ?_ ?_ <;> unfold vS vY <;> split <;> first|rfl|(rw [c];rfl)
theorem zGq (ms:List Sm)(acts pushed:List Int)(hold n:Nat)(a:Bool):(vS ms acts pushed hold n a).nst=(zW ms acts pushed hold).nst/\(vS ms acts pushed hold n a).next=(zW ms acts pushed hold).next/\(vS ms acts pushed hold n a).kind=(zW ms acts pushed hold).kind/\(vS ms acts pushed hold n a).ends=(zW ms acts pushed hold).ends/\(vS ms acts pushed hold n a).start=(zW ms acts pushed hold).start/\(vS ms acts pushed hold n a).act=(zW ms acts pushed hold).act/\(vS ms acts pushed hold n a).push=(zW ms acts pushed hold).push/\(vS ms acts pushed hold n a).count=(zW ms acts pushed hold).count:=by
 have b:=jP (zW ms acts pushed hold).first n
 refine⟨?_,?_,?_,?_,?_,?_,?_,?_⟩ <;> unfold vS vY <;> split <;> rw[b] <;> rfl
theorem zJz {x:List Sm×Sh}{hold n:Nat}{f:Bool}(v:ModesOk x.1)(w:∀m∈x.1,m.Z)(l:vJ x f=true)(y:(((zW x.1 (ints x.2.acts) (x.2.pushesTo x.2.pushed.length) hold).first.itr n).spreadTo (zE x.1 x.1.length)).2=false)(ok:(vS x.1 (ints x.2.acts) (x.2.pushesTo x.2.pushed.length) hold n f).Ok):(vS x.1 (ints x.2.acts) (x.2.pushesTo x.2.pushed.length) hold n f).Sharp:=by
 have z:=zGr y ok;obtain⟨A,B,C,o,-,-,-,D⟩:=zGq x.1 (ints x.2.acts) (x.2.pushesTo x.2.pushed.length) hold n f;obtain⟨u,a,e,E,G,H⟩:∃u a,vS x.1 (ints x.2.acts) (x.2.pushesTo x.2.pushed.length) hold n f=Tb.looking u a/\a=(aheadTo x.1 x.1.length).toNat/\zG (zB x.1 256).2 a<=3000/\0<=aheadTo x.1 x.1.length:=by
  unfold vJ at l;have k:=l;unfold xE at k;simp only[Bool.and_eq_true,decide_eq_true_eq] at k;refine⟨{vY x.1 (ints x.2.acts) (x.2.pushesTo x.2.pushed.length) hold n with stream:=true},(aheadTo x.1 x.1.length).toNat,?_,rfl,k.2.2,k.2.1⟩;unfold vS;rw[if_pos l]
 obtain⟨I,J,g⟩:=zIG x.1 v w H (ints x.2.acts) (x.2.pushesTo x.2.pushed.length) hold;generalize vS x.1 (ints x.2.acts) (x.2.pushesTo x.2.pushed.length) hold n f=t at *;have c1:t.ahead=a:=by rw[e];rfl
 have c2:zG t.count a<=3000:=by rw[D];exact G
 have K:t.rows=zG t.count a:=by rw[e];rfl
 have u1:u.next=t.next:=by rw[e];rfl
 have u2:u.count=t.count:=by rw[e];rfl
 have u3:u.ends=t.ends:=by rw[e];rfl
 have u4:u.nst=t.nst:=by rw[e];rfl
 have r:∀q,q<t.nst->∀cs:List Nat,(∀c∈cs,c<256)->t.longer (val (t.count+1) (t.digs cs t.ahead)) q=t.hit q (t.digs cs t.ahead):=λq b cs d=>by
  have:=zJq u (by rw[u4,u2,u1];exact ok.next) a (by rw[u2];exact c2) (t.digs cs t.ahead) q (by rw[zIw,c1]) (by rw[u2];exact zNu t ok cs d _) (by rw[u4];exact b);rw[<-e,u2,zMn u1 u2 u3] at this;exact this
 have p:∀q c,t.go q c=(zW x.1 (ints x.2.acts) (x.2.pushesTo x.2.pushed.length) hold).go q c:=λq c=>by unfold Tb.go;rw[B,C]
 have s:t.Fronts t.ahead I J:=by
  rw[c1,E];exact⟨λq b e=>g.first q (by rw[<-A];exact b) (by rw[<-o];exact e),λi q c d b=>by rw[p,o];exact g.next i q c d b,λq c d b=>by rw[p];exact g.last q c d b,λq b=>⟨by rw[o];exact(g.none_ q b).1,λc d=>by rw[p];exact(g.none_ q b).2 c d⟩⟩
 refine⟨z,by rw[K,c1];exact zGC _ _ c2,λq b cs d j=>?_,λq b e cs d j=>?_⟩
 ·rw[r q b cs d] at j
  exact zMo t ok _ cs q d j
 ·rw[r q b cs d] at j
  exact zJD ok s cs 0 q lX d (s.first q b e) (by rw[Nat.sub_zero];exact j)
def zOV:List (ByteArray×Int×Bool×ByteArray×List Int):=[
 (⟨#[109,111,100,101,32,109,10,105,100,32,46,32,91,97,45,122,93,91,97,45,122,48,45,57,93,42,10,110,117,109,32,46,32,91,48,45,57,93,43,10,119,115,32,45,32,91,32,92,110,93,43,10]⟩,1,true,⟨#[97,98,32,49,50,10,120]⟩,[0,0,2,1,3,5,0,6,7,2,7]),
 (⟨#[109,111,100,101,32,109,10,97,32,46,32,97,10,98,32,46,32,97,123,48,44,51,125,98,10]⟩,3,true,⟨#[97,97,97,98,97,97,97,97,98]⟩,[1,0,4,0,4,5,1,5,9,2,9]),
 (⟨#[109,111,100,101,32,109,10,97,32,46,32,97,10,98,32,46,32,97,42,98,10]⟩,(-1),false,⟨#[97,97,97,98,97]⟩,[1,0,4,0,4,5,2,5]),
 (⟨#[109,111,100,101,32,109,10,99,32,46,32,47,92,42,40,91,94,42,93,124,92,42,43,91,94,42,47,93,41,42,92,42,43,47,10,115,32,46,32,91,47,42,93,10,120,32,46,32,91,94,47,42,93,10]⟩,(-1),false,⟨#[97,47,42,42,47,47]⟩,[2,0,1,0,1,5,1,5,6,2,6]),
 (⟨#[109,111,100,101,32,109,10,102,32,46,32,91,48,45,57,93,43,40,92,46,91,48,45,57,93,43,41,63,40,101,91,48,45,57,93,43,41,63,10,100,32,46,32,92,46,10,101,32,46,32,101,10]⟩,2,true,⟨#[49,46,53,101,46,50,101]⟩,[0,0,3,2,3,4,1,4,5,0,5,6,2,6,7,2,7]),
 (⟨#[109,111,100,101,32,109,10,113,32,62,115,32,39,10,119,32,46,32,91,94,39,93,10,109,111,100,101,32,115,10,116,32,46,32,91,94,39,93,43,10,113,32,60,32,39,10]⟩,4,false,⟨#[97,39,98,99,39,39]⟩,[1,0,1,0,1,2,2,2,4,3,4,5,0,5,6,2,6]),
 (⟨#[109,111,100,101,32,109,10,107,119,32,46,32,40,105,58,105,102,124,101,108,115,101,41,10,105,100,32,46,32,91,97,45,122,65,45,90,93,43,10,119,115,32,45,32,91,32,93,43,10]⟩,1,true,⟨#[73,102,32,101,108,115,69,32,105,102,102]⟩,[0,0,2,0,3,7,1,8,11,2,11]),
 (⟨#[109,111,100,101,32,109,10,97,32,46,32,97,98,123,48,44,52,125,99,10,98,32,46,32,97,10,99,32,46,32,98,10,100,32,46,32,99,10]⟩,5,false,⟨#[97,98,98,98,98,99,97,98,98,98,98,98]⟩,[0,0,6,1,6,7,2,7,8,2,8,9,2,9,10,2,10,11,2,11,12,2,12]),
 (⟨#[109,111,100,101,32,109,10,97,32,46,32,97,98,123,48,44,51,125,99,10,98,32,46,32,97,10,99,32,46,32,98,10,100,32,46,32,99,10]⟩,4,true,⟨#[97,98,98,98,99,97,98,98,98]⟩,[0,0,5,1,5,6,2,6,7,2,7,8,2,8,9,2,9]),
 (⟨#[109,111,100,101,32,109,10,97,32,46,32,40,97,98,41,42,40,97,98,99,41,63,10,98,32,46,32,99,10]⟩,2,true,⟨#[97,98,97,98,99,97,98,97,99]⟩,[0,0,5,0,5,7,3,7]),
 (⟨#[109,111,100,101,32,109,10,117,32,46,32,91,92,117,123,52,48,48,125,45,92,117,123,52,102,102,125,93,10,111,32,46,32,91,92,120,48,48,45,92,120,55,102,93,10]⟩,0,true,⟨#[97,208,150,128]⟩,[1,0,1,0,1,3,3,3]),
 (⟨#[109,111,100,101,32,109,10,111,32,62,109,32,40,10,99,32,60,32,41,10]⟩,0,false,⟨#[]⟩,[]),
 (⟨#[109,111,100,101,32,109,10,120,32,46,32,120,10,116,32,46,32,120,40,40,97,124,120,41,40,97,124,120,41,41,42,98,10,97,32,46,32,97,10,98,32,46,32,98,10]⟩,(-1),false,⟨#[120,120,97,97,98]⟩,[0,0,1,1,1,5,2,5]),
 (⟨#[109,111,100,101,32,109,10,120,32,46,32,46,10]⟩,0,true,⟨#[9,97,195,169,10]⟩,[0,0,1,0,1,2,0,2,4,3,4]),
 (⟨#[108,101,116,32,119,32,91,97,45,99,93,123,50,44,51,125,10,109,111,100,101,32,109,10,120,32,46,32,123,119,125,40,105,58,122,124,91,120,45,121,93,41,63,10,121,32,45,32,92,120,52,49,92,43,10]⟩,1,true,⟨#[97,98,90,65,43,98,99,97,88,99]⟩,[0,0,3,0,5,9,3,9]),
 (⟨#[109,111,100,101,32,109,10,105,100,32,46,32,91,97,45,122,93,43,10,110,117,109,32,46,32,91,48,45,57,93,43,10]⟩,1,true,⟨#[97,98,99,100,101,102,103,104,49,50,51,52,53,54,55,56,10]⟩,[0,0,8,1,8,16,3,16]),
 (⟨#[109,111,100,101,32,109,10,111,32,62,109,32,92,40,10,99,32,60,32,92,41,10]⟩,0,true,⟨#[40,40,41,41,41]⟩,[0,0,1,0,1,2,1,2,3,1,3,4,5,4]),
 (⟨#[109,111,100,101,32,109,10,111,32,62,109,32,92,40,10]⟩,0,true,⟨#[40,40,40,40]⟩,[0,0,1,0,1,2,0,2,3,4,3])]
def goM (m:Sm)(q c:Nat):Nat:=((m.next.getD q []).getD c 0).toNat
def zFB (m:Sm):Nat->List Nat->Option (Nat×Nat)
 |_,[]=>none
 |q,c::cs=>match zFB m (goM m q c) cs with
  |some (n,e)=>some (n+1,e)
  |none=>if m.rules.getD (goM m q c) 0=-1 then none else some (1,goM m q c)
def zAj (y:List Sm×Sh)(j q:Nat):Nat:=zU y.1 j+((y.1.getD j Sm.none).rules.getD q 0).toNat
def evM (y:List Sm×Sh):Nat->List Nat->Nat->List Nat->List Int
 |0,_,_,_=>[]
 |f+1,st,p,xs=>if xs.isEmpty then[2,(p:Int)] else match zFB (y.1.getD (st.headD 0) Sm.none) (y.1.getD (st.headD 0) Sm.none).start.toNat xs with
  |none=>[3,(p:Int)]
  |some (k,q)=>
   if y.2.acts.getD (zAj y (st.headD 0) q) 0=2/\st.length=4 then[4,(p:Int)]
   else if y.2.acts.getD (zAj y (st.headD 0) q) 0=3/\st.length=1 then[5,(p:Int)]
   else(if y.2.acts.getD (zAj y (st.headD 0) q) 0=1 then[] else[(zAj y (st.headD 0) q:Int),(p:Int),((p+k:Nat):Int)])++evM y f (if y.2.acts.getD (zAj y (st.headD 0) q) 0=3 then st.tail else if y.2.acts.getD (zAj y (st.headD 0) q) 0=2 then(y.2.pushI (y.2.push (zAj y (st.headD 0) q))).toNat::st else st) (p+k) (xs.drop k)
def chk (x:ByteArray×Int×Bool×ByteArray×List Int):Bool:=match zAN x.1 with
 |none=>x.2.2.2.2.isEmpty
 |some y=>!x.2.2.2.2.isEmpty&&(aheadTo y.1 y.1.length==x.2.1&&(vJ y false==x.2.2.1&&evM y (x.2.2.2.1.size+1) [0] 0 (nats x.2.2.2.1)==x.2.2.2.2))
def yY (es:List Ev):List Int:=es.flatMap λe=>if e.kind=1 then[e.rule,e.from_,e.to] else[e.kind,e.from_]
theorem zJu (ms:List Sm)(b:ModesOk ms)(a:List Int)(n:Nat)(f:n<=ms.length)(j:Nat)(g:j<n):(zQ a ms n).starts.getD j 0=(zE ms j:Int)+(ms.getD j Sm.none).start:=by
 induction n with
 |zero=>omega
 |succ n c=>
  obtain⟨s1,s2,_,_⟩:=vH a ms b n (by omega);rw[zQ];show((zQ a ms n).starts++[_]).getD _ _=_;by_cases e:j<n
  ·rw[lW,kW (by omega),<-lW]
   exact c (by omega) e
  ·have d:j=n:=by omega
   subst d;rw[lW,hY (by omega),s1,Nat.sub_self,s2];rfl
theorem zNH (ms:List Sm)(j:Nat)(a:j<ms.length):ms.getD j Sm.none=ms[j]:=by rw[lW,lV a,Option.getD_some]
theorem zLz (ms:List Sm)(d:ModesOk ms)(acts pushed:List Int)(hold j:Nat)(g:j<ms.length)(cs:List Nat):∀q,q<(ms.getD j Sm.none).next.length->(∀c∈cs,c<256)->(zW ms acts pushed hold).best (zE ms j+q) cs=(zFB (ms.getD j Sm.none) q cs).map (λx=>(x.1,zE ms j+x.2))/\∀n e,zFB (ms.getD j Sm.none) q cs=some (n,e)->e<(ms.getD j Sm.none).next.length/\(ms.getD j Sm.none).rules.getD e 0≠-1:=by
 induction cs with
 |nil=>intro q _ _;exact⟨rfl,λn e d=>by cases d⟩
 |cons c cs l=>
  intro q m i;obtain⟨o,b2,v,_⟩:=zBx ms d acts pushed hold j q c g m (i c gQ);have f:goM (ms.getD j Sm.none) q c<(ms.getD j Sm.none).next.length:=by unfold goM;omega
  have k:=(zBx ms d acts pushed hold j (goM (ms.getD j Sm.none) q c) 0 g f (by decide)).2.2.2;obtain⟨p,r⟩:=l _ f λx s=>i x (List.mem_cons_of_mem _ s);have t:(zW ms acts pushed hold).go (zE ms j+q) c=zE ms j+goM (ms.getD j Sm.none) q c:=o;rw[zAc,t,p,zFB];cases u:zFB (ms.getD j Sm.none) (goM (ms.getD j Sm.none) q c) cs with
  |some x=>
   obtain⟨n,e⟩:=x;exact⟨rfl,λw y a=>by cases a;exact r n e u⟩
  |none=>
   show(if _ then _ else _)=Option.map _ (if _ then _ else _)/\_;by_cases b:(ms.getD j Sm.none).rules.getD (goM (ms.getD j Sm.none) q c) 0=-1
   ·rw[if_pos (k.2 b),if_pos b]
    exact⟨rfl,λn e a=>by(cases a)⟩
   ·rw[if_neg (λx=>b (k.1 x)),if_neg b]
    exact⟨rfl,λn e a=>by(cases a;exact⟨f,b⟩)⟩
structure Stands (ms:List Sm)(xs:List Nat)(r:Rs)(st:List Nat)(p:Nat):Prop where
 depth:r.depth=st.length
 one:1<=st.length
 stack:∀i,i<st.length->r.stack (st.length-1-i)=st.getD i 0
 less:∀i,i<st.length->st.getD i 0<ms.length
 at_:r.bAt=p
 in_:p<=xs.length
 opn:r.opn=true
theorem zCj (r:Rs)(k:Int)(a:k≠1):yY [r.lastEv k]=[k,(r.bAt:Int)]:=by
 unfold yY;rw[List.flatMap_cons,List.flatMap_nil,dX];exact if_neg a
theorem zIp (a b:List Ev):yY (a++b)=yY a++yY b:=by
 unfold yY;rw[List.flatMap_append]
def Shape (es:List Ev):Prop:=∃ts e,es=ts++[e]/\(∀x∈ts,x.kind=1)/\e.kind≠1
theorem Shape.last (r:Rs)(k:Int)(a:k≠1):Shape [r.lastEv k]:=⟨[],_,rfl,λ_ b=>(by cases b),a⟩
theorem zOu (y:List Sm×Sh)(o:ModesOk y.1)(hold:Nat)(G:∀i,(((y.2.pushesTo y.2.pushed.length).getD i 0).toNat<y.1.length)/\((y.2.pushesTo y.2.pushed.length).getD i 0).toNat=(y.2.pushI (y.2.push i)).toNat)(xs:List Nat)(s:∀c∈xs,c<256)(f:Nat):∀(r:Rs) (b:List Nat) (p:Nat),Stands y.1 xs r b p->xs.length<p+f->yY ((zW y.1 (ints y.2.acts) (y.2.pushesTo y.2.pushed.length) hold).sp xs r)=evM y f b p (xs.drop p)/\Shape ((zW y.1 (ints y.2.acts) (y.2.pushesTo y.2.pushed.length) hold).sp xs r):=by
 generalize t:zW y.1 (ints y.2.acts) (y.2.pushesTo y.2.pushed.length) hold=d;induction f with
 |zero=>intro r b p B C;have:=B.in_;omega
 |succ f O=>
  intro r b p B C;obtain⟨s1,s2,w,z,rfl,P,D⟩:=B;rw[zJY d xs r P,evM];by_cases e:r.bAt=xs.length
  ·rw[if_pos e,List.drop_of_length_le (by omega),zCj r 2 (by decide)]
   exact⟨rfl,Shape.last r 2 (by decide)⟩
  ·have Q:(xs.drop r.bAt).isEmpty=false:=by
    rw[zDP xs r.bAt (by omega)];rfl
   rw[if_neg e,Q,if_neg (by decide)];have j:b.headD 0<y.1.length:=by
    have:=z 0 (by omega);cases b with
    |nil=>rw[List.length_nil] at s2;omega
    |cons a l=>exact this
   have S:r.stack (r.depth-1)=b.headD 0:=by
    have:=w 0 (by omega);rw[Nat.sub_zero,<-s1] at this;rw[this];cases b with
    |nil=>rw[List.length_nil] at s2;omega
    |cons a l=>rfl
   have U:=zJu y.1 o (zB y.1 256).1 y.1.length lQ _ j;have V:=(o.start _ j)
   rw[<-zNH y.1 _ j] at V;have W:r.top d=zE y.1 (b.headD 0)+(y.1.getD (b.headD 0) Sm.none).start.toNat:=by
    unfold Rs.top;rw[S,<-t];show((zQ (zB y.1 256).1 y.1 y.1.length).starts.getD (b.headD 0) 0).toNat=_;rw[U];omega
   obtain⟨m1,m2⟩:=zLz y.1 o (ints y.2.acts) (y.2.pushesTo y.2.pushed.length) hold _ j (xs.drop r.bAt) (y.1.getD (b.headD 0) Sm.none).start.toNat (by omega) (zHi s _)
   rw[t] at m1;rw[W,m1];cases H:zFB (y.1.getD (b.headD 0) Sm.none) (y.1.getD (b.headD 0) Sm.none).start.toNat (xs.drop r.bAt) with
   |none=>exact⟨zCj r 3 (by decide),Shape.last r 3 (by decide)⟩
   |some x=>
    obtain⟨k,q⟩:=x;obtain⟨I,X⟩:=m2 k q H;obtain⟨-,Y⟩:=zKc y.1 o (zB y.1 256).1 y.1.length lQ _ q j I;have aa:=(vH (zB y.1 256).1 y.1 o (b.headD 0) (by omega)).2.2.2;have E:=(o.rules _ j)
    rw[<-zNH y.1 _ j] at E;have ah:=(E.2 _ (zS _ q 0 (by rw[E.1];exact I))).1;have ab:(d.ends (zE y.1 (b.headD 0)+q)).toNat=zAj y (b.headD 0) q:=by
     rw[<-t];show((zQ (zB y.1 256).1 y.1 y.1.length).ends.getD (zE y.1 (b.headD 0)+q) 0).toNat=_;rw[Y,aa];unfold yB zAj;rw[if_neg X];omega
    have ac:d.act (zAj y (b.headD 0) q)=y.2.acts.getD (zAj y (b.headD 0) q) 0:=by
     rw[<-t];show((ints y.2.acts).getD (zAj y (b.headD 0) q) 0).toNat=_;unfold ints;rw[lW,gZ,lW];cases y.2.acts[zAj y (b.headD 0) q]? <;> rfl
    have J:d.push (zAj y (b.headD 0) q)=(y.2.pushI (y.2.push (zAj y (b.headD 0) q))).toNat/\d.push (zAj y (b.headD 0) q)<y.1.length:=by
     rw[<-t];exact⟨(G _).2,(G _).1⟩
    have ad:=zFA d _ _ k (zE y.1 (b.headD 0)+q) (by rw[H] at m1;exact m1);rw[List.length_drop] at ad;show yY ((r.tok d (d.ends (zE y.1 (b.headD 0)+q)).toNat (r.bAt+k) _ _).2++if(r.tok d (d.ends (zE y.1 (b.headD 0)+q)).toNat (r.bAt+k) _ _).1.opn then d.sp xs (r.tok d (d.ends (zE y.1 (b.headD 0)+q)).toNat (r.bAt+k) _ _).1 else[])=(if _ then _ else if _ then _ else _)/\Shape ((r.tok d (d.ends (zE y.1 (b.headD 0)+q)).toNat (r.bAt+k) _ _).2++if(r.tok d (d.ends (zE y.1 (b.headD 0)+q)).toNat (r.bAt+k) _ _).1.opn then d.sp xs (r.tok d (d.ends (zE y.1 (b.headD 0)+q)).toNat (r.bAt+k) _ _).1 else[]);rw[ab];generalize zAj y (b.headD 0) q=g at *;rw[<-ac,<-J.1,<-s1];by_cases m:d.act g=2/\r.depth=4
    ·have F:∀l c,r.tok d g (r.bAt+k) l c=({r with opn:=false},[r.lastEv 4]):=λl c=>by unfold Rs.tok;rw[if_pos m]
     rw[F,if_pos m];show yY ([r.lastEv 4]++[])=_/\Shape ([r.lastEv 4]++[]);rw[dX];exact⟨zCj r 4 (by decide),Shape.last r 4 (by decide)⟩
    ·by_cases u:d.act g=3/\r.depth=1
     ·have F:∀l c,r.tok d g (r.bAt+k) l c=({r with opn:=false},[r.lastEv 5]):=λl c=>by unfold Rs.tok;rw[if_neg m,if_pos u]
      rw[F,if_neg m,if_pos u];show yY ([r.lastEv 5]++[])=_/\Shape ([r.lastEv 5]++[]);rw[dX];exact⟨zCj r 5 (by decide),Shape.last r 5 (by decide)⟩
     ·have ae:∀l c,(r.tok d g (r.bAt+k) l c).2=if d.act g=1 then[] else[⟨1,g,r.bAt,(r.bAt+k:Nat),r.bLine,r.bCol⟩]:=λl c=>by unfold Rs.tok;rw[if_neg m,if_neg u]
      have K:∀l c,Stands y.1 xs (r.tok d g (r.bAt+k) l c).1 (if d.act g=3 then b.tail else if d.act g=2 then d.push g::b else b) (r.bAt+k):=λl c=>by
       unfold Rs.tok;rw[if_neg m,if_neg u];unfold Rs.moved;by_cases A:d.act g=3
       ·rw[if_pos A,if_pos A]
        have C:b.tail.length=b.length-1:=List.length_tail;refine⟨by show r.depth-1=_;omega,by omega,λi v=>?_,λi v=>?_,rfl,by omega,D⟩
        ·show r.stack (b.tail.length-1-i)=_
         rw[C,lW,List.getElem?_tail,<-lW,<-w (i+1) (by omega),show b.length-1-1-i=b.length-1-(i+1) by omega]
        ·rw[lW,List.getElem?_tail,<-lW]
         exact z (i+1) (by omega)
       ·rw[if_neg A,if_neg A]
        by_cases c2:d.act g=2
        ·rw[if_pos c2,if_pos c2]
         refine⟨by show r.depth+1=_;rw[hU];omega,by rw[hU];omega,λi v=>?_,λi v=>?_,rfl,by omega,D⟩
         ·rw[hU] at v ⊢
          show(if b.length+1-1-i=r.depth then d.push g else r.stack (b.length+1-1-i))=_;cases i with
          |zero=>rw[if_pos (by omega)];rfl
          |succ i=>
           rw[if_neg (by omega),show b.length+1-1-(i+1)=b.length-1-i by omega];exact w i (by omega)
         ·rw[hU] at v
          cases i with
          |zero=>exact J.2
          |succ i=>exact z i (by omega)
        ·rw[if_neg c2,if_neg c2]
         exact⟨s1,s2,w,z,rfl,by omega,D⟩
      obtain⟨af,L,e,ag,M,N⟩:=O _ _ _ (K (lnT xs (r.bAt+k)) (clT xs (r.bAt+k))) (by omega);rw[if_neg m,if_neg u,if_pos (K _ _).opn,zIp,af,ag,ae,List.drop_drop];by_cases c1:d.act g=1
      ·rw[if_pos c1,if_pos c1]
       exact⟨rfl,L,e,rfl,M,N⟩
      ·rw[if_neg c1,if_neg c1]
       refine⟨rfl,⟨1,g,r.bAt,(r.bAt+k:Nat),r.bLine,r.bCol⟩::L,e,rfl,λx s=>?_,N⟩;rcases List.mem_cons.1 s with rfl|s
       ·rfl
       ·exact M x s
theorem zLe (b:List Ev)(d:∀x∈b,x.kind=1)(t:List Int):((yY b++t).length=3*b.length+t.length)/\(∀i,i<b.length->(yY b++t).getD (3*i) 0=(b.getD i ⟨0,0,0,0,0,0⟩).rule/\(yY b++t).getD (3*i+1) 0=(b.getD i ⟨0,0,0,0,0,0⟩).from_/\(yY b++t).getD (3*i+2) 0=(b.getD i ⟨0,0,0,0,0,0⟩).to)/\∀j,(yY b++t).getD (3*b.length+j) 0=t.getD j 0:=by
 induction b with
 |nil=>exact⟨by show t.length=_;simp,λi c=>absurd c (Nat.not_lt_zero _),λj=>by show t.getD _ _=_;simp⟩
 |cons a b f=>
  obtain⟨m,g,k⟩:=f λx l=>d x (List.mem_cons_of_mem _ l);have e:yY (a::b)++t=a.rule::a.from_::a.to::(yY b++t):=by
   unfold yY;rw[List.flatMap_cons,if_pos (d a gQ)];rfl
  rw[e];refine⟨by simp only[hU] at *;omega,λi c=>?_,λj=>?_⟩
  ·cases i with
   |zero=>exact⟨rfl,rfl,rfl⟩
   |succ i=>exact g i (by rw[hU] at c;omega)
  ·rw[hU,show 3*(b.length+1)+j=3*b.length+j+3 by omega]
   exact k j
theorem zJE (a:List Ev)(j:Shape a):∃m,a.length=m+1/\(yY a).length=3*m+2/\(∀i,i<m->(a.getD i ⟨0,0,0,0,0,0⟩).kind=1/\(yY a).getD (3*i) 0=(a.getD i ⟨0,0,0,0,0,0⟩).rule/\(yY a).getD (3*i+1) 0=(a.getD i ⟨0,0,0,0,0,0⟩).from_/\(yY a).getD (3*i+2) 0=(a.getD i ⟨0,0,0,0,0,0⟩).to)/\(yY a).getD (3*m) 0=(a.getD m ⟨0,0,0,0,0,0⟩).kind/\(yY a).getD (3*m+1) 0=(a.getD m ⟨0,0,0,0,0,0⟩).from_:=by
 obtain⟨b,e,rfl,d,k⟩:=j;have l:yY (b++[e])=yY b++[e.kind,e.from_]:=by
  have o:yY [e]=[e.kind,e.from_]:=by
   unfold yY;rw[List.flatMap_cons,List.flatMap_nil,dX];exact if_neg k
  rw[zIp,o]
 obtain⟨p,q,f⟩:=zLe b d [e.kind,e.from_];have g:∀i,i<b.length->(b++[e]).getD i ⟨0,0,0,0,0,0⟩=b.getD i ⟨0,0,0,0,0,0⟩:=λi c=>by
  rw[lW,kW c,<-lW]
 have gl:(b++[e]).getD b.length ⟨0,0,0,0,0,0⟩=e:=by
  rw[lW,hY lQ,Nat.sub_self];rfl
 rw[l];refine⟨b.length,by simp,p,λi c=>?_,?_,?_⟩
 ·rw[g i c]
  refine⟨d _ ?_,q i c⟩;rw[lW,lV c];exact List.getElem_mem c
 ·rw[gl];exact f 0
 ·rw[gl];exact f 1
def allocs (w:World):List Obj->World
 |[]=>w
 |o::os=>allocs (w.alloc o) os
theorem zB2 (a:List Obj):∀w:World,Grew w (allocs w a)/\(allocs w a).heap.size=w.heap.size+a.length:=by
 induction a with
 |nil=>intro w;exact⟨Keep.refl _ _ _,rfl⟩
 |cons o a c=>
  intro w;obtain⟨d,e⟩:=c (w.alloc o);have f:(w.alloc o).heap.size=w.heap.size+1:=by simp
  have b:Grew w (w.alloc o):=kZ _ _ lQ;exact⟨b.trans (d.lower b.size b.size),by show(allocs (w.alloc o) a).heap.size=_;rw[e,f,hU];omega⟩
theorem zLD (a:List Obj):∀(w:World) (k:Nat),k<a.length->(allocs w a).heap[w.heap.size+k]? =a[k]? :=by
 induction a with
 |nil=>intro w k b;exact absurd b (Nat.not_lt_zero _)
 |cons o a c=>
  intro w k b;have d:(w.alloc o).heap.size=w.heap.size+1:=by simp
  cases k with
  |zero=>
   have e:=(zB2 a (w.alloc o)).1;have:=e.block w.heap.size (by omega) (by omega);show(allocs (w.alloc o) a).heap[w.heap.size+0]? =some o;rw[Nat.add_zero,this];exact gY w o
  |succ k=>
   have:=c (w.alloc o) k (by rw[hU] at b;omega);rw[d,show w.heap.size+1+k=w.heap.size+(k+1) by omega] at this;exact this
theorem zD {w:World}{b:Nat}{c:Array Value}{t:TypeId}(a:w.heap[b]? =some (.cells c t))(j:Nat):w.cell? ⟨b,j,none⟩=c[j]? :=by
 unfold cell?;rw[a];rfl
def lot (i:Nat):ByteArray×Int×Bool×ByteArray×List Int:=zOV.getD i (⟨#[]⟩,0,false,⟨#[]⟩,[])
def zMM (w:World)(G i:Nat):Prop:=w.cell? ⟨G,i*5,none⟩=some (string (lot i).1)/\w.cell? ⟨G,i*5+1,none⟩=some (int i64 (lot i).2.1)/\w.cell? ⟨G,i*5+2,none⟩=some (bool (lot i).2.2.1)/\w.cell? ⟨G,i*5+3,none⟩=some (string (lot i).2.2.2.1)/\((lot i).2.2.2.2=[]/\w.cell? ⟨G,i*5+4,none⟩=some (slice none 0 0)\/∃g,(lot i).2.2.2.2≠[]/\w.cell? ⟨G,i*5+4,none⟩=some (slice (some ⟨g,0,none⟩) (lot i).2.2.2.2.length (lot i).2.2.2.2.length)/\g<G/\∃t,w.heap[g]? =some (.cells ((lot i).2.2.2.2.map λx=>int i64 x).toArray t))
theorem zJn (w:World):Calls prog 26 #[] w λe w'=>Grew w w'/\∃c,e=returned (slice (qX c) 18 18)/\c<w'.heap.size/\∀i,i<18->zMM w' c i:=by
 go_in;go_wp2;refine gJ (results_tmp rfl _ _ _) rfl ?_;have j:∀d w',d.length=18->w'=allocs w d->((∀k,k<18->w'.heap[w.heap.size+k]? =d[k]?)->∀i,i<18->zMM w' (w.heap.size+17) i)->Grew w w'/\∃c,Ending.returned (slice (some ⟨w.heap.size+17,0,none⟩) 18 18)=returned (slice (qX c) 18 18)/\c<w'.heap.size/\∀i,i<18->zMM w' c i:=λd w' l f g=>⟨by rw[f];exact(zB2 d w).1,_,rfl,by rw[f,(zB2 d w).2,l];omega,g λk o=>by rw[f];exact zLD d w k (by omega)⟩
 refine j [_,_,_,_,_,_,_,_,_,_,_,_,_,_,_,_,_,_] _ rfl rfl ?_;intro b i m;have a:=b 17 (by decide)
 revert b a
 generalize World.alloc _ _=w';intro b a
 match i,m with
 |0,_=>exact⟨(zD a 0).trans rfl,(zD a 1).trans rfl,(zD a 2).trans rfl,(zD a 3).trans rfl,.inr ⟨w.heap.size+0,List.cons_ne_nil _ _,(zD a 4).trans rfl,by omega,_,(b 0 (by decide)).trans rfl⟩⟩
 |1,_=>exact⟨(zD a 5).trans rfl,(zD a 6).trans rfl,(zD a 7).trans rfl,(zD a 8).trans rfl,.inr ⟨w.heap.size+1,List.cons_ne_nil _ _,(zD a 9).trans rfl,by omega,_,(b 1 (by decide)).trans rfl⟩⟩
 |2,_=>exact⟨(zD a 10).trans rfl,(zD a 11).trans rfl,(zD a 12).trans rfl,(zD a 13).trans rfl,.inr ⟨w.heap.size+2,List.cons_ne_nil _ _,(zD a 14).trans rfl,by omega,_,(b 2 (by decide)).trans rfl⟩⟩
 |3,_=>exact⟨(zD a 15).trans rfl,(zD a 16).trans rfl,(zD a 17).trans rfl,(zD a 18).trans rfl,.inr ⟨w.heap.size+3,List.cons_ne_nil _ _,(zD a 19).trans rfl,by omega,_,(b 3 (by decide)).trans rfl⟩⟩
 |4,_=>exact⟨(zD a 20).trans rfl,(zD a 21).trans rfl,(zD a 22).trans rfl,(zD a 23).trans rfl,.inr ⟨w.heap.size+4,List.cons_ne_nil _ _,(zD a 24).trans rfl,by omega,_,(b 4 (by decide)).trans rfl⟩⟩
 |5,_=>exact⟨(zD a 25).trans rfl,(zD a 26).trans rfl,(zD a 27).trans rfl,(zD a 28).trans rfl,.inr ⟨w.heap.size+5,List.cons_ne_nil _ _,(zD a 29).trans rfl,by omega,_,(b 5 (by decide)).trans rfl⟩⟩
 |6,_=>exact⟨(zD a 30).trans rfl,(zD a 31).trans rfl,(zD a 32).trans rfl,(zD a 33).trans rfl,.inr ⟨w.heap.size+6,List.cons_ne_nil _ _,(zD a 34).trans rfl,by omega,_,(b 6 (by decide)).trans rfl⟩⟩
 |7,_=>exact⟨(zD a 35).trans rfl,(zD a 36).trans rfl,(zD a 37).trans rfl,(zD a 38).trans rfl,.inr ⟨w.heap.size+7,List.cons_ne_nil _ _,(zD a 39).trans rfl,by omega,_,(b 7 (by decide)).trans rfl⟩⟩
 |8,_=>exact⟨(zD a 40).trans rfl,(zD a 41).trans rfl,(zD a 42).trans rfl,(zD a 43).trans rfl,.inr ⟨w.heap.size+8,List.cons_ne_nil _ _,(zD a 44).trans rfl,by omega,_,(b 8 (by decide)).trans rfl⟩⟩
 |9,_=>exact⟨(zD a 45).trans rfl,(zD a 46).trans rfl,(zD a 47).trans rfl,(zD a 48).trans rfl,.inr ⟨w.heap.size+9,List.cons_ne_nil _ _,(zD a 49).trans rfl,by omega,_,(b 9 (by decide)).trans rfl⟩⟩
 |10,_=>exact⟨(zD a 50).trans rfl,(zD a 51).trans rfl,(zD a 52).trans rfl,(zD a 53).trans rfl,.inr ⟨w.heap.size+10,List.cons_ne_nil _ _,(zD a 54).trans rfl,by omega,_,(b 10 (by decide)).trans rfl⟩⟩
 |11,_=>exact⟨(zD a 55).trans rfl,(zD a 56).trans rfl,(zD a 57).trans rfl,(zD a 58).trans rfl,.inl ⟨rfl,(zD a 59).trans rfl⟩⟩
 |12,_=>exact⟨(zD a 60).trans rfl,(zD a 61).trans rfl,(zD a 62).trans rfl,(zD a 63).trans rfl,.inr ⟨w.heap.size+11,List.cons_ne_nil _ _,(zD a 64).trans rfl,by omega,_,(b 11 (by decide)).trans rfl⟩⟩
 |13,_=>exact⟨(zD a 65).trans rfl,(zD a 66).trans rfl,(zD a 67).trans rfl,(zD a 68).trans rfl,.inr ⟨w.heap.size+12,List.cons_ne_nil _ _,(zD a 69).trans rfl,by omega,_,(b 12 (by decide)).trans rfl⟩⟩
 |14,_=>exact⟨(zD a 70).trans rfl,(zD a 71).trans rfl,(zD a 72).trans rfl,(zD a 73).trans rfl,.inr ⟨w.heap.size+13,List.cons_ne_nil _ _,(zD a 74).trans rfl,by omega,_,(b 13 (by decide)).trans rfl⟩⟩
 |15,_=>exact⟨(zD a 75).trans rfl,(zD a 76).trans rfl,(zD a 77).trans rfl,(zD a 78).trans rfl,.inr ⟨w.heap.size+14,List.cons_ne_nil _ _,(zD a 79).trans rfl,by omega,_,(b 14 (by decide)).trans rfl⟩⟩
 |16,_=>exact⟨(zD a 80).trans rfl,(zD a 81).trans rfl,(zD a 82).trans rfl,(zD a 83).trans rfl,.inr ⟨w.heap.size+15,List.cons_ne_nil _ _,(zD a 84).trans rfl,by omega,_,(b 15 (by decide)).trans rfl⟩⟩
 |17,_=>exact⟨(zD a 85).trans rfl,(zD a 86).trans rfl,(zD a 87).trans rfl,(zD a 88).trans rfl,.inr ⟨w.heap.size+16,List.cons_ne_nil _ _,(zD a 89).trans rfl,by omega,_,(b 16 (by decide)).trans rfl⟩⟩
 |i+18,g=>exact absurd g (by omega)
theorem zJB (m:Sm)(k:Nat):∀s,s<m.next.length->xD m k s=true->∀i,i<k->zAu m i=false:=by
 induction k with
 |zero=>intro s _ _ i b;exact absurd b (Nat.not_lt_zero _)
 |succ k f=>
  intro s g h i b;have a:(yR m (xD m k) s&& !tokF m s)=true:=h;rw[Bool.and_eq_true] at a;by_cases e:i=k
  ·subst e
   unfold zAu;rw[decide_eq_false_iff_not];intro j;rw[zFo _ _ j s g] at a;cases a.1
  ·have c:(((s:Nat):Int) != 0&&(List.range m.next.length).any λi=>xD m k i&&(m.next.getD i []).any (·==(s:Int)))=true:=a.1
   rw[Bool.and_eq_true,List.any_eq_true] at c;obtain⟨_,s',l,d⟩:=c;rw[Bool.and_eq_true] at d;exact f s' (List.mem_range.1 l) d.1 i (by omega)
theorem zMx (m:Sm)(k s c:Nat)(e:s<m.next.length)(f:s≠0)(g:xD m k s=true)(h:tokF m s=false)(i:c<(m.next.getD s []).length)(j:(m.next.getD s []).getD c 0=(s:Int)):xV m=-1:=by
 have l:∀b,xD m (k+b) s=true:=by
  intro b;induction b with
  |zero=>exact g
  |succ b o=>
   show(yR m (xD m (k+b)) s&& !tokF m s)=true;rw[zDx m _ s c e o i s j f,h];rfl
 exact zGv m λa _=>zJB m (k+(a+1)) s e (l (a+1)) a (by omega)
def Good (x:ByteArray×Int×Bool×ByteArray×List Int):Prop:=match zAN x.1 with
 |none=>x.2.2.2.2=[]
 |some y=>x.2.2.2.2≠[]/\aheadTo y.1 y.1.length=x.2.1/\vJ y false=x.2.2.1/\evM y (x.2.2.2.1.size+1) [0] 0 (nats x.2.2.2.1)=x.2.2.2.2
theorem qM (x:ByteArray×Int×Bool×ByteArray×List Int)(b:chk x=true):Good x:=by
 unfold chk at b;unfold Good;cases c:zAN x.1 with
 |none=>rw[c] at b;exact List.isEmpty_iff.1 b
 |some y=>
  rw[c] at b;have a:(!x.2.2.2.2.isEmpty&&(aheadTo y.1 y.1.length==x.2.1&&(vJ y false==x.2.2.1&&evM y (x.2.2.2.1.size+1) [0] 0 (nats x.2.2.2.1)==x.2.2.2.2)))=true:=b;simp only[Bool.and_eq_true,Bool.not_eq_true',beq_iff_eq] at a;exact⟨λe=>by rw[e] at a;exact absurd a.1 (by decide),a.2.1,a.2.2.1,a.2.2.2⟩
theorem zOB {s:ByteArray}{y:List Sm×Sh}(a:zAN s=some y):∀m∈y.1,m.Z:=by
 unfold zAN at a;cases b:zAq s 200 64 with
 |inl x=>
  rw[b] at a;cases a
  exact zOR (ms:=y.1) (sh:=y.2) b
 |inr e=>rw[b] at a;cases a
theorem zMe {s:ByteArray}{y:List Sm×Sh}(a:zAN s=some y)(d:1<=y.1.length)(i:Nat):((y.2.pushesTo y.2.pushed.length).getD i 0).toNat<y.1.length/\((y.2.pushesTo y.2.pushed.length).getD i 0).toNat=(y.2.pushI (y.2.push i)).toNat:=by
 unfold zAN at a;cases b:zAq s 200 64 with
 |inr e=>rw[b] at a;cases a
 |inl x=>
  rw[b] at a;cases a
  by_cases c:i<y.2.pushed.length
  ·refine⟨(zGp (ms:=y.1) (sh:=y.2) b).2.1 i c,?_⟩
   unfold Sh.pushesTo;rw[lW,lV (by rw[kV,List.length_range];exact c),List.getElem_map,List.getElem_range];rfl
  ·have f:(y.2.pushesTo y.2.pushed.length).getD i 0=0:=by
    rw[lW,List.getElem?_eq_none (by rw[yS];omega)];rfl
   have g:y.2.push i=⟨#[]⟩:=by
    unfold Sh.push;rw[lW,List.getElem?_eq_none (by omega)];rfl
   rw[f,g];exact⟨d,rfl⟩
theorem zG8 {w:World}{x z:Nat}{s:ByteArray}{y:List Sm×Sh}(h:zAN s=some y){t:Tb}(b:LexIn w x z y 64 false t)(p:Nat)(a:ByteArray)(E:a.size<=64):yY (t.events p a)=evM y (a.size+1) [0] 0 (nats a)/\Shape (t.events p a):=by
 obtain⟨n,f,j⟩:=b.made;have A:t.Dead:=by rw[f];exact zGr j (by rw[<-f];exact b.fine.ok)
 have F:t.hold=64:=by rw[f];unfold vS vY;split <;> rw[jP] <;> rfl
 have C:t.events p a=t.sp (nats a) (Rs.born t p):=by
  cases c:t.stream with
  |true=>
   have D:vJ y false=true:=by
    cases e:vJ y false with
    |true=>rfl
    |false=>
     rw[f] at c;unfold vS at c;unfold vJ at e;rw[if_neg (by rw[e];decide)] at c;unfold vY at c;rw[jP] at c;cases c
   refine zNp t b.fine c ?_ p a;rw[f];exact zJz b.modes (zOB h) D j (by rw[<-f];exact b.fine.ok)
  |false=>
   rcases zNq t b.fine c A p a with e|⟨G,_⟩
   ·exact e
   ·omega
 obtain⟨-,k,l,m,o,q,r,-⟩:=zGq y.1 (ints y.2.acts) (y.2.pushesTo y.2.pushed.length) 64 n false;rw[<-f] at k l m o q r;rw[C,zMX k l m o q r];have u:=b.modes.one;have v:=zOu y b.modes 64 (zMe h u) (nats a) (zC8 a) (a.size+1) (Rs.born t p) [0] 0 ⟨rfl,lQ,λi g=>?_,λi g=>?_,rfl,lX,rfl⟩ (by rw[jD];omega)
 ·rw[List.drop_zero] at v
  exact v
 ·have:i=0:=by rw[List.length_singleton] at g;omega
  subst this;rfl
 ·have:i=0:=by rw[List.length_singleton] at g;omega
  subst this;exact u
theorem zDE (i:Nat)(a:i<18):(lot i).1.size<=1048576/\(lot i).2.2.2.1.size<=64/\(lot i).2.2.2.2.length<=64:=by
 match i,a with
 |0,_|1,_|2,_|3,_|4,_|5,_|6,_|7,_|8,_|9,_|10,_|11,_|12,_|13,_|14,_|15,_|16,_|17,_=>exact of_decide_eq_true rfl
 |i+18,b=>exact absurd b (by omega)
theorem EvsAt.at {w:World}{v:Value}{a:List Ev}(c:EvsAt w v a)(i:Nat)(d:i<a.length):∃g cap,v=slice (qX g) a.length cap/\w.cell? ⟨g,i*6,none⟩=some (iX (a.getD i ⟨0,0,0,0,0,0⟩).kind)/\w.cell? ⟨g,i*6+1,none⟩=some (iX (a.getD i ⟨0,0,0,0,0,0⟩).rule)/\w.cell? ⟨g,i*6+2,none⟩=some (iX (a.getD i ⟨0,0,0,0,0,0⟩).from_)/\w.cell? ⟨g,i*6+3,none⟩=some (iX (a.getD i ⟨0,0,0,0,0,0⟩).to)/\w.cell? ⟨g,i*6+4,none⟩=some (iX (a.getD i ⟨0,0,0,0,0,0⟩).line)/\w.cell? ⟨g,i*6+5,none⟩=some (iX (a.getD i ⟨0,0,0,0,0,0⟩).col):=by
 obtain⟨ao,cap,rfl,-,-,e⟩:=c;obtain⟨g,rfl,-,b⟩:=e i d;exact⟨g,cap,rfl,b 0 _ rfl,b 1 _ rfl,b 2 _ rfl,b 3 _ rfl,b 4 _ rfl,b 5 _ rfl⟩
def KnQ (x:ByteArray×Int×Bool×ByteArray×List Int)(w2 w':World)(q:Option Addr)(AH:Int)(ST:Bool):Prop:=(x.2.2.2.2=[]/\q=none)\/(x.2.2.2.2≠[]/\AH=x.2.1/\ST=x.2.2.1/\∃L,q=some ⟨L,0,none⟩/\∀w3,Grew w' w3->Calls prog 27 #[pointer (some ⟨L,0,none⟩),string x.2.2.2.1] w3 λe w4=>∃v E,e=returned v/\EvsAt w4 v E/\yY E=x.2.2.2.2/\Shape E/\Grew w3 w4)
theorem zN7 (i:Nat)(f:i<18)(a:Good (lot i))(w2 w':World)(q:Option Addr)(AH:Int)(ST:Bool)(b:OfQ (lot i).1 64 false w2.heap.size q AH ST w'):KnQ (lot i) w2 w' q AH ST:=by
 have g:=zDE i f;unfold OfQ at b;unfold Good at a;cases c:zAN (lot i).1 with
 |none=>
  rw[c] at b a;exact .inl ⟨a,b⟩
 |some y=>
  rw[c] at b a;obtain⟨j,t,k,l,m,d⟩:=b;have o:(lot i).2.2.2.2≠[]/\aheadTo y.1 y.1.length=(lot i).2.1/\vJ y false=(lot i).2.2.1/\evM y ((lot i).2.2.2.1.size+1) [0] 0 (nats (lot i).2.2.2.1)=(lot i).2.2.2.2:=a;obtain⟨r,s,u,w⟩:=o;refine .inr ⟨r,l.trans s,m.trans u,j,k,λE x=>?_⟩;obtain⟨S,p,z,-⟩:=d.at_;obtain⟨A,B⟩:=zG8 c d p (lot i).2.2.2.1 g.2.1;refine(zHS (z.grown x) d.fine _ (by omega)).mono ?_;rintro e F ⟨v,rfl,C,D⟩;exact⟨v,_,rfl,C,A.trans w,B,D⟩
theorem zIl (zFl:∀i,i<18->Good (lot i))(w:World)(k:Int)(hc1:-9223372036854775808<=k)(hc2:k<=9223372036854775807):Calls prog 13 #[iX k] w λe w'=>e=returned (bool true)/\Grew w w':=by
 have HLO:=vl (zJn w);have HPI:Hid (∀w2,Ca 15 #[iX k,iX 18] w2 λe w'=>e=returned (iX (zD3 k 18:Nat))/\w'=w2):=λw2=>zJd w2 k hc1 hc2 18 (by decide) (by decide);have hi:=zLZ k 18 (by decide);generalize zD3 k 18=i at *;have HOF:Hid (∀w2,Ca 16 #[string (lot i).1,iX 64,bool false] w2 λe w'=>Grew w2 w'/\∃x m0 m1 m2 s0 s1 s2 v0 v1 v2 AH ST LN,e=returned (tuple #[pointer x,agg #[slice m0 m1 m2,slice s0 s1 s2,slice v0 v1 v2,iX AH,bool ST,iX LN]])/\KnQ (lot i) w2 w' x AH ST):=λw2=>by
  refine(zL8 w2 (lot i).1 (zDE i hi).1 64 (by decide) (by decide) false).mono ?_;rintro e w' ⟨hk,x,m0,m1,m2,s0,s1,s2,v0,v1,v2,AH,ST,LN,rfl,hq⟩;exact⟨hk,x,m0,m1,m2,s0,s1,s2,v0,v1,v2,AH,ST,LN,rfl,zN7 i hi (zFl i hi) w2 w' x AH ST hq⟩
 have hi1:(i:Int)<18:=by omega
 have hls:=(zDE i hi).2.2;go_in;apply wp_cut;intro K0 HK0;go_wp2;apply HK0.out;clear HK0;apply wp_cut;intro K0 HK0;go_wp2_with (first|(go_at_call 26;refine HLO.mono ?_;rintro e w1 ⟨hk1,G,rfl,hGl,hLA⟩))
 apply HK0.out;clear HK0 HLO;obtain⟨c0,c1,c2,c3,c4⟩:=hLA i hi;clear hLA;obtain⟨lv,hlv,hlf,hlc⟩:∃lv,w1.cell? ⟨G,i*5+4,none⟩=some lv/\(∃a b c,lv=slice a b c)/\((lot i).2.2.2.2=[]/\lv=slice none 0 0\/(lot i).2.2.2.2≠[]/\∃g,lv=slice (qX g) (lot i).2.2.2.2.length (lot i).2.2.2.2.length/\g<G/\∃t,w1.heap[g]? =some (.cells ((lot i).2.2.2.2.map λx=>iX x).toArray t)):=by
  rcases c4 with⟨h1,h2⟩|⟨g,h1,h2,h3,h4⟩
  ·exact⟨_,h2,⟨_,_,_,rfl⟩,.inl ⟨h1,rfl⟩⟩
  ·exact⟨_,h2,⟨_,_,_,rfl⟩,.inr ⟨h1,g,rfl,h3,h4⟩⟩
 obtain⟨l0,l1,l2,rfl⟩:=hlf;have HLC:=vl hlc;clear c4 hlc;have HK1:=vl hk1;clear hk1;generalize hX:lot i=X at *;obtain⟨s,ah,st,d,l⟩:=X;have hls:l.length<=64:=hls;clear hX;apply wp_cut;intro K0 HK0;go_wp2_with (first|(go_at_call 15;refine(HPI _).mono ?_;rintro e w2 ⟨rfl,hw2⟩;have hw8:=hw2.symm;subst hw8))
 obtain⟨w3,hw3,b0,b1,b2,b3,b4,HW3⟩:∃w3,w3=w1.alloc (.cells #[string s,iX ah,bool st,string d,slice l0 l1 l2] 47)/\w3.cell? ⟨w1.heap.size,0,none⟩=some (string s)/\Hid (w3.cell? ⟨w1.heap.size,1,none⟩=some (iX ah))/\Hid (w3.cell? ⟨w1.heap.size,2,none⟩=some (bool st))/\Hid (w3.cell? ⟨w1.heap.size,3,none⟩=some (string d))/\Hid (w3.cell? ⟨w1.heap.size,4,none⟩=some (slice l0 l1 l2))/\Hid (Grew w w3/\Grew w1 w3/\w1.heap.size<w3.heap.size):=by
  have hn:=gY w1 (.cells #[string s,iX ah,bool st,string d,slice l0 l1 l2] 47);refine⟨_,rfl,(zD hn 0).trans rfl,(zD hn 1).trans rfl,(zD hn 2).trans rfl,(zD hn 3).trans rfl,(zD hn 4).trans rfl,HK1.trans (kZ _ _ HK1.size),kZ _ _ lQ,by simp⟩
 rw[<-hw3];apply HK0.out;clear HK0 hw3 c0 c1 c2 c3 hlv HPI HK1;apply wp_cut;intro K0 HK0;go_wp2_with (first|(go_at_call 16;refine(HOF _).mono ?_;rintro e w4 ⟨hk4,x,m0,m1,m2,s0,s1,s2,v0,v1,v2,AH,ST,LN,rfl,hq⟩))
 obtain⟨w5,hw5,y3,y4,HW5⟩:∃w5,w5=w4.alloc (.cells #[slice m0 m1 m2,slice s0 s1 s2,slice v0 v1 v2,iX AH,bool ST,iX LN] 30)/\w5.cell? ⟨w4.heap.size,3,none⟩=some (iX AH)/\w5.cell? ⟨w4.heap.size,4,none⟩=some (bool ST)/\Hid (Grew w w5/\Grew w1 w5/\Grew w3 w5/\Grew w4 w5):=by
  have hn:=gY w4 (.cells #[slice m0 m1 m2,slice s0 s1 s2,slice v0 v1 v2,iX AH,bool ST,iX LN] 30);have h45:Grew w4 (w4.alloc (.cells #[slice m0 m1 m2,slice s0 s1 s2,slice v0 v1 v2,iX AH,bool ST,iX LN] 30)):=kZ _ _ lQ;have h35:=hk4.trans (h45.lower hk4.size hk4.size);exact⟨_,rfl,(zD hn 3).trans rfl,(zD hn 4).trans rfl,HW3.1.trans (h35.lower HW3.1.size HW3.1.size),HW3.2.1.trans (h35.lower HW3.2.1.size HW3.2.1.size),h35,h45⟩
 rw[<-hw5];apply HK0.out;clear HK0 hw5 HOF hk4 b0;have HB:Hid (∀w6,Grew w5 w6->w6.cell? ⟨w1.heap.size,3,none⟩=some (string d)/\w6.cell? ⟨w1.heap.size,4,none⟩=some (slice l0 l1 l2)):=λw6 hk=>by
  have hk2:=HW5.2.2.1.trans (hk.lower HW5.2.2.1.size HW5.2.2.1.size);exact⟨zA b3 HW3.2.2 hk2,zA b4 HW3.2.2 hk2⟩
 obtain⟨z3,z4⟩:=HB w5 (Keep.refl _ _ _);have z1:=zA b1 HW3.2.2 HW5.2.2.1;have z2:=zA b2 HW3.2.2 HW5.2.2.1;have hnil:(binOp .eql 45 (slice l0 l1 l2) (slice none 0 0)).run prog w5=.ok (bool l0.isNone) w5:=by
  simp only[binOp];simp[run_equal_slice_nil w5 45 3 l0 l1 l2 underlying45]
 have HQ:=vl hq;clear hq b1 b2 b3 b4;rcases HQ.out with⟨q1,rfl⟩|⟨q1,q2,q3,L,rfl,q4⟩
 ·have q1':l=[]:=q1
  rcases HLC.out with⟨-,h2⟩|⟨h1,-⟩
  ·injection h2 with e1 e2 e3
   subst e1 e2 e3;go_wp2;refine gJ (results_tmp rfl _ _ _) rfl ?_;exact⟨rfl,HW5.1⟩
  ·exact absurd q1' h1
 ·have q1':l≠[]:=q1
  rcases HLC.out with⟨h1,-⟩|⟨-,g,h2,hg,tt,hcl⟩
  ·exact absurd h1 q1'
  ·injection h2 with e1 e2 e3
   subst e1 e2 e3;have q2':AH=ah:=q2;have q3':ST=st:=q3;subst q2' q3';have HSC:=vl (q4 w5 HW5.2.2.2);have HCL:=vl hcl;clear q4 q2 q3 q1 q1' hcl HQ HLC;apply wp_cut;intro K0 HK0;go_wp2;apply HK0.out;clear HK0;apply wp_cut;intro K0 HK0;go_wp2;apply HK0.out;clear HK0;apply wp_cut;intro K0 HK0;go_wp2_with (first|(go_at_call 27;refine HSC.mono ?_;rintro e w6 ⟨v,E,rfl,hE,hfl,hsh,hk6⟩))
   apply HK0.out;clear HK0 HSC z1 z2 z3 z4 y3 y4 hnil;obtain⟨m,hm1,hm2,hm3,hm4,hm5⟩:=zJE E hsh;rw[hfl] at hm2 hm3 hm4 hm5;obtain⟨-,z4⟩:=HB w6 hk6;have W6:Hid (EvsAt w6 v E/\Grew w w6/\Grew w5 w6/\w6.heap[g]? =some (.cells (l.map λx=>iX x).toArray tt)):=⟨hE,HW5.1.trans (hk6.lower HW5.1.size HW5.1.size),hk6,by
    have h16:=HW5.2.1.trans (hk6.lower HW5.2.1.size HW5.2.1.size);exact(h16.block g (by omega) (by omega)).trans HCL⟩
   obtain⟨ao,cap,rfl,h1,h2,-⟩:=hE;have HM:=vl (And.intro hm3 (And.intro hm4 hm5));have hm:m<=64:=by omega
   have hq1:Int.tdiv ((l.length:Nat):Int) 3=(m:Int):=by rw[hm2,Int.tdiv_eq_ediv_of_nonneg (by omega)];omega
   have hm2':l.length<=3*m+2/\3*m+2<=l.length:=by omega
   rw[hm1] at h1 ⊢;clear hm2 hm3 hm4 hm5 hfl hsh hk6 HCL;apply wp_cut;intro K0 HK0;go_wp2;apply HK0.out;clear HK0;apply wp_cut;intro K0 HK0;go_wp2;apply HK0.out;clear HK0;go_wp2;have HL:Hid (∀wr,Grew w6 wr->∀a,a<l.length->wr.cell? ⟨g,a,none⟩=some (iX (l.getD a 0))):=λwr hk a ha=>by
    have hb:=W6.2.2.2;have hlt:=(kQ.1 hb).1;rw[zD ((hk.block g hlt (by omega)).trans hb) a,List.getElem?_toArray,gZ,lV ha,lW,lV ha];rfl
   have HB6:Hid (∀wr,Grew w6 wr->wr.cell? ⟨w1.heap.size,4,none⟩=some (slice (qX g) l.length l.length)):=λwr hk=>(HB wr (W6.2.2.1.trans (hk.lower W6.2.2.1.size W6.2.2.1.size))).2;clear HB z4 hg hGl;go_loopg [9] m (λq i wr=>∃j:Nat,q=m-j/\j<=m/\i=iX (j:Int)/\Grew w6 wr)
   case atStart=>exact⟨0,rfl,lX,rfl,Keep.refl _ _ _⟩
   case round=>
    obtain⟨j,hgk,hj,rfl,hk⟩:=hrel;have HG:=vl (And.intro hgk hk);have z4:=HB6 wr hk;clear hgk hk;by_cases hj2:j<m
    ·have i1:(j:Int)<(m:Int):=by omega
     obtain⟨gE,cE,hv,y0,y1,y2,y3,-,-⟩:=(W6.1.grown HG.2).at j (by omega);injection hv with e1 e2 e3;subst e1 e3;obtain⟨a0,a1,a2,a3⟩:=HM.1 j hj2;have x0:=HL wr HG.2 (3*j) (by omega);have x1:=HL wr HG.2 (3*j+1) (by omega);have x2:=HL wr HG.2 (3*j+2) (by omega);rw[a1] at x0;rw[a2] at x1;rw[a3] at x2;rw[a0] at y0;generalize E.getD j ⟨0,0,0,0,0,0⟩=ev at *;have j0:3*(j:Int)<(l.length:Int):=by omega
     have j1:3*(j:Int)+1<(l.length:Int):=by omega
     have j2:3*(j:Int)+2<(l.length:Int):=by omega
     clear a0 a1 a2 a3;go_wp2;go_quiet (fail);go_wp2;go_roundg (m-(j+1))
     case measure=>rw[HG.out.1];omega
     case rel=>exact⟨j+1,rfl,by omega,by go_num,HG.2.trans (Keep.alike (w':=wr.drewN nq) ⟨rfl,rfl,rfl⟩)⟩
    ·have i1:¬(j:Int)<(m:Int):=by omega
     obtain⟨gE,cE,hv,y0,y1,y2,-,-,-⟩:=(W6.1.grown HG.2).at m (by omega);injection hv with e1 e2 e3;subst e1 e3;have x0:=HL wr HG.2 (3*m) (by omega);have x1:=HL wr HG.2 (3*m+1) (by omega);rw[HM.out.2.1] at x0;rw[HM.out.2.2] at x1;generalize E.getD m ⟨0,0,0,0,0,0⟩=ev at *;have j0:3*(m:Int)<(l.length:Int):=by omega
     have j1:3*(m:Int)+1<(l.length:Int):=by omega
     have j2:(m:Int)<(m:Int)+1:=by omega
     have j3:3*((m:Int)+1)-3=3*(m:Int):=by omega
     have j4:3*((m:Int)+1)-2=3*(m:Int)+1:=by omega
     go_wp2;go_quiet (fail);go_wp2;refine gJ (results_tmp rfl _ _ _) rfl ?_;exact⟨rfl,(W6.2.1.trans (HG.2.lower W6.2.1.size W6.2.1.size)).trans (Keep.alike (w':=wr.drewN nq) ⟨rfl,rfl,rfl⟩)⟩
end Go.Proofs.YtbjcfkdnjaiclaaGreat
