import Derived.Test.YtbjcfkdnjaiclaaGreatA0
import Derived.Test.YtbjcfkdnjaiclaaGreatA12
/- Parts of the proof. -/
set_option linter.unusedVariables false
set_option linter.unusedSimpArgs false
set_option maxHeartbeats 4000000
set_option maxRecDepth 100000
namespace Go.Proofs.YtbjcfkdnjaiclaaGreat
open Go.RowKit Go.Proofs.Tryz Go.World
open Go.Value (int slice bool pointer string agg tuple)
open Go.IntKind (i64)
open Go.Ending (returned)
section
variable {xs:List Nat} {P:Nat} (t:Tb) (n:Nat)
def lnT (xs:List Nat):Nat->Nat
 |0=>1
 |n+1=>jL (xs.getD n 0) (lnT xs n)
def clT (xs:List Nat):Nat->Nat
 |0=>1
 |n+1=>zBb (xs.getD n 0) (clT xs n)
def Told (xs:List Nat):Nat->Nat->List Ev->Prop
 |a,b,[]=>a<=b
 |a,b,e::es=>∃f g:Nat,e.kind=1∧e.from_=f∧e.to=g∧e.line=lnT xs f∧e.col=clT xs f∧a<=f∧f<g∧Told xs g b es
theorem Told.app {es fs:List Ev}:∀{a b c:Nat},Told xs a b es->Told xs b c fs->Told xs a c (es++fs):=by
 induction es with
 |nil=>
  intro a b c h1 h2;cases fs with
  |nil=>exact lY h1 h2
  |cons e fs=>
   obtain⟨f,g,k1,k2,k3,k4,k5,k6,k7⟩:=h2;exact⟨f,g,k1,k2,k3,k4,k5,lY h1 k6,k7⟩
 |cons e es ih=>
  rintro a b c ⟨f,g,k1,k2,k3,k4,k5,k6,k7,k8⟩ h2;exact⟨f,g,k1,k2,k3,k4,k5,k6,k7,ih k8 h2⟩
def Goes (xs:List Nat)(a:Nat)(f:Rs×List Ev):Prop:=
 (f.1.bLine=lnT xs f.1.bAt∧f.1.bCol=clT xs f.1.bAt∧f.1.bAt<=xs.length)∧(f.1.opn=true∧Told xs a f.1.bAt f.2∨f.1.opn=false∧∃es k,f.2=es++[f.1.lastEv k]∧Told xs a f.1.bAt es∧(3<=k∧k<=6∨k=2∧f.1.bAt=xs.length))
theorem Goes.then {a:Nat}{f g:Rs×List Ev}(h:Goes xs a f)(ho:f.1.opn=true)(h2:Goes xs f.1.bAt g):Goes xs a (g.1,f.2++g.2):=by
 have hT:Told xs a f.1.bAt f.2:=by
  rcases h.2 with h|h
  ·exact h.2
  ·rw[ho] at h;cases h.1
 refine⟨h2.1,?_⟩;rcases h2.2 with⟨o,t⟩|⟨o,es,k,e,t,hk⟩
 ·exact .inl ⟨o,hT.app t⟩
 ·exact .inr ⟨o,f.2++es,k,by show f.2++g.2=_;rw[e,gV],hT.app t,hk⟩
def Rs.Lc (xs:List Nat)(r:Rs):Prop:=r.bLine=lnT xs r.bAt∧r.bCol=clT xs r.bAt∧r.bAt<=xs.length
theorem Rs.Lc.stay {r:Rs}(h:r.Lc xs)(ho:r.opn=true):Goes xs r.bAt (r,[]):=⟨h,.inl ⟨ho,lQ⟩⟩
theorem Rs.Lc.last {r:Rs}(h:r.Lc xs)(k:Int)(hk:3<=k∧k<=6∨k=2∧r.bAt=xs.length):Goes xs r.bAt ({r with opn:=false},[r.lastEv k]):=⟨h,.inr ⟨rfl,[],k,rfl,lQ,hk⟩⟩
theorem Rs.tok_goes {r:Rs}(h:r.Lc xs)(ho:r.opn=true)(t:Tb)(rule a l c:Nat)(h1:r.bAt<a)(h2:a<=xs.length)(hl:l=lnT xs a)(hc:c=clT xs a):Goes xs r.bAt (r.tok t rule a l c):=by
 unfold Rs.tok;split
 ·exact h.last 4 (.inl (by decide))
 ·split
  ·exact h.last 5 (.inl (by decide))
  ·have e:(r.moved t rule).opn=true:=by
    unfold Rs.moved;split
    ·exact ho
    ·split <;> exact ho
   refine⟨⟨hl,hc,h2⟩,.inl ⟨e,?_⟩⟩;show Told xs r.bAt a (if t.act rule=1 then[] else _);split
   ·exact Nat.le_of_lt h1
   ·exact⟨r.bAt,a,rfl,rfl,rfl,congrArg _ h.1,congrArg _ h.2.1,lQ,h1,lQ⟩
structure Rs.SI (xs:List Nat)(P:Nat)(r:Rs):Prop where
 lc:r.Lc xs
 hl:r.hLine=lnT xs r.hAt
 hc:r.hCol=clT xs r.hAt
 bh:r.bAt<=r.hAt
 hp:r.hAt+r.count=P
 pn:P<=xs.length
 by_:∀j,j<r.count->r.byte ((r.first+j)%64)=xs.getD (r.hAt+j) 0
theorem Rs.SI.same {r q:Rs}(h:r.SI xs P)(hs:q.Same r)(hl:q.Lc xs)(hb:q.bAt<=r.hAt):q.SI xs P:=by
 obtain⟨e1,e2,e3,e4,e5,e6,_,_⟩:=hs;exact⟨hl,by rw[e5,e4];exact h.hl,by rw[e6,e4];exact h.hc,by rw[e4];exact hb,by rw[e4,e1];exact h.hp,h.pn,fun j hj=>by rw[e2,e3,e4];exact h.by_ j (by rw[e1] at hj;exact hj)⟩
theorem Rs.took_si {r:Rs}(t:Tb)(h:r.SI xs P)(hf:r.first<64)(hc:1<=r.count):(r.took t).SI xs P∧(r.took t).bAt=r.bAt∧(r.took t).hAt=r.hAt+1∧(r.took t).opn=r.opn:=by
 have h0:=h.by_ 0 hc;rw[Nat.add_zero,Nat.add_zero,Nat.mod_eq_of_lt hf] at h0;refine⟨⟨h.lc,?_,?_,Nat.le_succ_of_le h.bh,?_,h.pn,fun j hj=>?_⟩,rfl,rfl,rfl⟩
 ·show jL (r.byte r.first) r.hLine=jL (xs.getD r.hAt 0) (lnT xs r.hAt)
  rw[h0,h.hl]
 ·show zBb (r.byte r.first) r.hCol=zBb (xs.getD r.hAt 0) (clT xs r.hAt)
  rw[h0,h.hc]
 ·show r.hAt+1+(r.count-1)=P
  have:=h.hp;omega
 ·have hj':j<r.count-1:=hj
  have:=h.by_ (j+1) (by omega);show r.byte (((r.first+1)%64+j)%64)=xs.getD (r.hAt+1+j) 0;rw[show ((r.first+1)%64+j)%64=(r.first+(j+1))%64 by omega,this,show r.hAt+(j+1)=r.hAt+1+j by omega]
theorem Rs.step_goes {r:Rs}(t:Tb)(h:r.SI xs P)(hf:r.first<64)(hc:1<=r.count)(ho:r.opn=true):Goes xs r.bAt (r.step t)∧((r.step t).1.opn=true->(r.step t).1.SI xs P):=by
 obtain⟨hq,e1,e2,e3⟩:=Rs.took_si t h hf hc;unfold Rs.step;rw[<-e1];rw[ho] at e3;have hb:=h.bh;have hp:=hq.hp;have hn:=hq.pn;generalize r.took t=q at *;unfold Rs.fin;split
 ·have hg:=Rs.tok_goes hq.lc e3 t (t.ends q.state).toNat q.hAt q.hLine q.hCol (by omega) (by omega) hq.hl hq.hc
  refine⟨hg,fun hop=>?_⟩;refine hq.same (q.tok_same t _ _ _ _) hg.1 ?_;rcases(q.tok_opn t (t.ends q.state).toNat q.hAt q.hLine q.hCol).2.2.2 with⟨_,_,_,e⟩|⟨e,_,_⟩
  ·rw[hop] at e;cases e
  ·rw[e];exact lQ
 ·split
  ·exact⟨hq.lc.last 3 (.inl (by decide)),fun h=>by cases h⟩
  ·exact⟨hq.lc.stay e3,fun _=>hq⟩
theorem Rs.looked_si {r:Rs}(h:r.SI xs P)(a:Nat):({r with ahead:=a}:Rs).SI xs P:=⟨h.lc,h.hl,h.hc,h.bh,h.hp,h.pn,h.by_⟩
theorem Rs.added_by {r:Rs}(c A:Nat)(h:∀j,j<r.count->r.byte ((r.first+j)%64)=xs.getD (A+j) 0)(hc:c=xs.getD (A+r.count) 0)(hn:r.count<64):∀j,j<(r.added c).count->(r.added c).byte (((r.added c).first+j)%64)=xs.getD (A+j) 0:=by
 intro j hj;have hj':j<r.count+1:=hj;show(if (r.first+j)%64=(r.first+r.count)%64 then c else r.byte ((r.first+j)%64))=_;by_cases e:j=r.count
 ·rw[e,if_pos rfl,hc]
 ·rw[if_neg (by omega)]
  exact h j (by omega)
theorem Rs.added_si {r:Rs}(h:r.SI xs P)(c:Nat)(hc:c=xs.getD P 0)(hP:P<xs.length)(hn:r.count<64):(r.added c).SI xs (P+1):=
 ⟨h.lc,h.hl,h.hc,h.bh,congrArg (·+1) h.hp,hP,Rs.added_by c r.hAt h.by_ (by rw[h.hp];exact hc) hn⟩
structure Rs.OI (xs:List Nat)(P:Nat)(r:Rs):Prop where
 lc:r.Lc xs
 hp:r.bAt+r.count=P
 pn:P<=xs.length
 by_:∀j,j<r.count->r.byte ((r.first+j)%64)=xs.getD (r.bAt+j) 0
theorem Rs.OI.line_to {r:Rs}(h:r.OI xs P)(n:Nat)(hn:n<=r.count):r.lineTo n=lnT xs (r.bAt+n)∧r.colTo n=clT xs (r.bAt+n):=by
 induction n with
 |zero=>exact⟨h.lc.1,h.lc.2.1⟩
 |succ n ih=>
  obtain⟨i1,i2⟩:=ih (by omega);rw[Rs.lineTo,Rs.colTo,i1,i2,h.by_ n (by omega)];exact⟨rfl,rfl⟩
theorem Rs.long_goes {r:Rs}(t:Tb)(h:r.OI xs P)(hl:r.length<=r.count)(ho:r.opn=true):Goes xs r.bAt (r.long t)∧((r.long t).1.opn=true->(r.long t).1.OI xs P):=by
 have hp:=h.hp;have hn:=h.pn;unfold Rs.long;split
 ·exact⟨h.lc.last 3 (.inl (by decide)),fun h=>by cases h⟩
 ·rename_i h0
  obtain⟨e1,e2⟩:=h.line_to r.length hl;have hc:r.cut.Lc xs:=h.lc;have hg:=Rs.tok_goes hc ho t r.rule.toNat (r.bAt+r.length) _ _ (by show r.bAt<_;omega) (by omega) e1 e2;refine⟨hg,fun hop=>?_⟩;obtain⟨s1,s2,s3,_⟩:=r.cut.tok_same t r.rule.toNat (r.bAt+r.length) (r.lineTo r.length) (r.colTo r.length)
  have hb:=(r.cut.tok_opn t r.rule.toNat (r.bAt+r.length) (r.lineTo r.length) (r.colTo r.length)).2.2.2;have hL:=hg.1;generalize r.cut.tok t r.rule.toNat (r.bAt+r.length) (r.lineTo r.length) (r.colTo r.length)=f at *;have eb:f.1.bAt=r.bAt+r.length:=by
   rcases hb with⟨_,_,_,e⟩|⟨e,_,_⟩
   ·rw[hop] at e;cases e
   ·exact e
  have ec:f.1.count=r.count-r.length:=s1;refine⟨hL,by omega,hn,fun j hj=>?_⟩;rw[s2,s3,eb];show r.byte (((r.first+r.length)%64+j)%64)=_;rw[show ((r.first+r.length)%64+j)%64=(r.first+(r.length+j))%64 by omega,h.by_ _ (by omega),Nat.add_assoc]
theorem Rs.held_goes {r:Rs}(t:Tb)(ok:t.Ok)(h:r.OI xs P)(hO:r.Oth t P)(hl:r.taken<r.count)(ho:r.opn=true):Goes xs r.bAt (r.heldStep t)∧((r.heldStep t).1.opn=true->(r.heldStep t).1.OI xs P):=by
 have hM:=(r.ate t).marked_oth t P ok (r.ate_oth t P ok hO hl);have hI:((r.ate t).marked t).OI xs P∧((r.ate t).marked t).opn=true∧((r.ate t).marked t).bAt=r.bAt:=by
  unfold Rs.marked;split <;> exact⟨⟨h.lc,h.hp,h.pn,h.by_⟩,ho,rfl⟩
 unfold Rs.heldStep Rs.judged;generalize (r.ate t).marked t=q at *;rw[<-hI.2.2];split
 ·exact⟨hI.1.lc.stay hI.2.1,fun _=>hI.1⟩
 ·exact Rs.long_goes t hI.1 (lY hM.len hM.tak) hI.2.1
theorem Rs.heldN_goes {r:Rs}(t:Tb)(ok:t.Ok)(h:r.OI xs P)(hO:r.Oth t P)(ho:r.opn=true)(n:Nat):Goes xs r.bAt (r.heldN t n)∧((r.heldN t n).1.opn=true->(r.heldN t n).1.OI xs P):=by
 induction n with
 |zero=>exact⟨h.lc.stay ho,fun _=>h⟩
 |succ n ih=>
  rw[Rs.heldN];split
  ·rename_i hc
   obtain⟨g1,g2⟩:=Rs.held_goes t ok (ih.2 hc.2) (r.heldN_inv t P ok hO n).1 hc.1 hc.2;exact⟨ih.1.then hc.2 g1,g2⟩
  ·exact ih
theorem Rs.endN_goes {r:Rs}(t:Tb)(ok:t.Ok)(h:r.OI xs P)(hO:r.Oth t P)(ho:r.opn=true)(n:Nat):Goes xs r.bAt (r.endN t n)∧((r.endN t n).1.opn=true->(r.endN t n).1.OI xs P):=by
 induction n with
 |zero=>exact⟨h.lc.stay ho,fun _=>h⟩
 |succ n ih=>
  rw[Rs.endN];split
  ·rename_i hc
   have hO2:=(r.endN_inv t P ok hO n).1;have hI2:=ih.2 hc.2;have hI1:=ih.1;generalize r.endN t n=f at *;have hL:=f.1.long_inv t P ok hO2 hc.2 hc.1;obtain⟨g1,g2⟩:=Rs.long_goes t hI2 (lY hO2.len hO2.tak) hc.2;cases h1:(f.1.long t).1.opn with
   |true=>
    obtain⟨k1,k2⟩:=Rs.heldN_goes t ok (g2 h1) hL.1 h1 ((f.1.long t).1.todo+1);exact⟨hI1.then hc.2 (g1.then h1 k1),k2⟩
   |false=>
    have e:(f.1.long t).1.heldAll t=((f.1.long t).1,[]):=by
     refine Rs.heldN_stop _ t 0 _ ?_ lX;rintro⟨_,hx⟩;have hx':(f.1.long t).1.opn=true:=hx;rw[h1] at hx';cases hx'
    unfold Rs.endO;rw[e,dV];exact⟨hI1.then hc.2 g1,fun hx=>by have hx':(f.1.long t).1.opn=true:=hx;rw[h1] at hx';cases hx'⟩
  ·exact ih
def Rs.Sure (xs:List Nat)(t:Tb)(P:Nat)(r:Rs):Prop:=if t.stream then r.SI xs P else r.OI xs P
theorem Rs.eat_goes {r:Rs}(t:Tb)(ok:t.Ok)(h:r.Sure xs t P)(hG:r.Good t P)(c:Nat)(hc:c=xs.getD P 0)(hP:P<xs.length)(hb:c<256)(ho:r.opn=true):Goes xs r.bAt (r.eat t c)∧((r.eat t c).1.opn=true->(r.eat t c).1.Sure xs t (P+1)):=by
 unfold Rs.Sure Rs.Good Rs.eat at *;split
 ·rename_i hs
  rw[if_pos hs] at h hG;have h64:r.count<64:=by have:=hG.cnt;have:=ok.ahead;omega
  have hq:((r.added c).looked t (t.kind c)).SI xs (P+1):=Rs.looked_si (Rs.added_si h c hc hP h64) _;unfold Rs.take Rs.due;split
  ·exact Rs.step_goes t hq hG.ok.first (Nat.succ_le_succ lX) ho
  ·exact⟨hq.lc.stay ho,fun _=>hq⟩
 ·rename_i hs
  rw[if_neg hs] at h hG;unfold Rs.takeO;split
  ·exact⟨h.lc.last 6 (.inl (by decide)),fun h=>by cases h⟩
  ·rename_i hh
   have h64:r.count<64:=by have:=ok.hold;omega
   exact Rs.heldN_goes t ok (r:=r.added c) ⟨h.lc,congrArg (·+1) h.hp,hP,Rs.added_by c r.bAt h.by_ (by rw[h.hp];exact hc) h64⟩ (r.added_oth t P c hG hb h64) ho _
theorem Rs.feed_goes (ok:t.Ok)(cs:List Nat):∀{r:Rs} {P:Nat},r.Sure xs t P->r.Good t P->r.opn=true->r.Lc xs->(∀j,j<cs.length->cs.getD j 0=xs.getD (P+j) 0)->P+cs.length<=xs.length->(∀c∈cs,c<256)->Goes xs r.bAt (Rs.feed t cs r)∧((Rs.feed t cs r).1.opn=true->(Rs.feed t cs r).1.Sure xs t (P+cs.length)):=by
 induction cs with
 |nil=>intro r P h hG ho hL _ _ _;exact⟨hL.stay ho,fun _=>h⟩
 |cons c cs ih=>
  intro r P h hG ho hL hj hP hb;rw[gZ] at hP;obtain⟨g1,g2⟩:=Rs.eat_goes t ok h hG c (hj 0 (Nat.succ_pos _)) (by omega) (hb c gW) ho;have hG2:=(r.eat_inv t P c ok hG (hb c gW) ho).1;rw[Rs.feed,if_pos ho];cases h1:(r.eat t c).1.opn with
  |true=>
   obtain⟨k1,k2⟩:=ih (g2 h1) hG2 h1 g1.1 (fun j hl=>by have:=hj (j+1) (Nat.succ_lt_succ hl);rw[show P+(j+1)=P+1+j by omega] at this;exact this) (by omega) fun x hx=>hb x (List.mem_cons_of_mem _ hx);exact⟨g1.then h1 k1,fun hx=>by rw[gZ,show P+(cs.length+1)=P+1+cs.length by omega];exact k2 hx⟩
  |false=>
   rw[Rs.feed_shut t cs _ h1,dV];exact⟨g1,fun hx=>by have hx':(r.eat t c).1.opn=true:=hx;rw[h1] at hx';cases hx'⟩
theorem Rs.drain_goes:∀{r:Rs},r.SI xs P->r.first<64->r.count=n->r.opn=true->Goes xs r.bAt (Rs.drain t n r)∧((Rs.drain t n r).1.opn=true->(Rs.drain t n r).1.SI xs P∧(Rs.drain t n r).1.count=0):=by
 induction n with
 |zero=>intro r h _ hc ho;exact⟨h.lc.stay ho,fun _=>⟨h,hc⟩⟩
 |succ n ih=>
  intro r h hf hc ho;have hs:=((r.look t).took t).fin_same t;obtain⟨g1,g2⟩:=Rs.step_goes t (Rs.looked_si h (t.further r.ahead t.count)) hf (by show 1<=r.count;omega) ho;have f1:((r.look t).step t).1.first<64:=by
   have e:((r.look t).step t).1.first=(r.first+1)%64:=hs.first
   rw[e];exact gY _ (by decide)
  have f2:=r.step_count t;rw[Rs.drain,if_neg (by rw[ho];decide)];cases h1:((r.look t).step t).1.opn with
  |true=>
   obtain⟨k1,k2⟩:=ih (r:=((r.look t).step t).1) (g2 h1) f1 (by rw[f2,hc];rfl) h1;exact⟨g1.then h1 k1,k2⟩
  |false=>
   have e:Rs.drain t n ((r.look t).step t).1=(((r.look t).step t).1,[]):=by
    cases n with
    |zero=>rfl
    |succ n=>rw[Rs.drain,if_pos h1]
   rw[e,dV];exact⟨g1,fun hx=>by have hx':((r.look t).step t).1.opn=true:=hx;rw[h1] at hx';cases hx'⟩
end
end Go.Proofs.YtbjcfkdnjaiclaaGreat
