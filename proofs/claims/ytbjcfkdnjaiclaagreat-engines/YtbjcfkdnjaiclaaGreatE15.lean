import Derived.Test.YtbjcfkdnjaiclaaGreatE0
import Derived.Test.YtbjcfkdnjaiclaaGreatE1
import Derived.Test.YtbjcfkdnjaiclaaGreatE11
import Derived.Test.YtbjcfkdnjaiclaaGreatE13
import Derived.Test.YtbjcfkdnjaiclaaGreatE14
/- Engines: both engines tell the same, but where the one would have to hold too much; for every specification and text (up to 65536 bytes, as the statement itself says). -/
set_option linter.unusedVariables false
set_option linter.unusedSimpArgs false
set_option maxHeartbeats 4000000
set_option maxRecDepth 100000
namespace Go.Proofs.YtbjcfkdnjaiclaaGreat
open Go.RowKit Go.Proofs.Tryz Go.World
open Go.Value (int slice bool pointer string agg tuple)
open Go.IntKind (i64)
open Go.Ending (returned)
def Tb.go (t:Tb)(q c:Nat):Nat:=t.next q (t.kind c)
def Tb.best (t:Tb):Nat->List Nat->Option (Nat×Nat)
 |_,[]=>none
 |q,c::cs=>match t.best (t.go q c) cs with
  |some (n,e)=>some (n+1,e)
  |none=>if t.ends (t.go q c)=-1 then none else some (1,t.go q c)
def sh (k:Nat)(o:Option (Nat×Nat)):Option (Nat×Nat):=o.map fun p=>(p.1+k,p.2)
theorem zLQ (a b:Nat)(o:Option (Nat×Nat)):sh a (sh b o)=sh (b+a) o:=by
 cases o with
 |none=>rfl
 |some p=>simp only[sh,Option.map_some,Nat.add_assoc]
theorem zGG (o:Option (Nat×Nat)):sh 0 o=o:=by cases o <;> rfl
theorem zAu (t:Tb)(q c:Nat)(cs:List Nat):t.best q (c::cs)=match t.best (t.go q c) cs with|some (n,e)=>some (n+1,e)|none=>if t.ends (t.go q c)=-1 then none else some (1,t.go q c):=rfl
theorem zBq (t:Tb)(q c:Nat)(cs:List Nat)(h:t.ends (t.go q c)=-1∨t.best (t.go q c) cs≠none):t.best q (c::cs)=sh 1 (t.best (t.go q c) cs):=by
 rw[zAu];cases hb:t.best (t.go q c) cs with
 |some p=>rfl
 |none=>
  rcases h with h|h
  ·rw[h];rfl
  ·exact absurd hb h
theorem zIy (t:Tb)(q c:Nat)(cs:List Nat)(h:t.ends (t.go q c)≠-1)(hb:t.best (t.go q c) cs=none):t.best q (c::cs)=some (1,t.go q c):=by
 rw[zAu,hb];exact if_neg h
theorem zIx (t:Tb)(q:Nat)(cs:List Nat)(n e:Nat)(h:t.best q cs=some (n,e)):1<=n∧n<=cs.length∧t.ends e≠-1:=by
 induction cs generalizing q n with
 |nil=>cases h
 |cons c cs ih=>
  rw[zAu] at h;cases hb:t.best (t.go q c) cs with
  |some p=>
   rw[hb] at h;obtain⟨m,f⟩:=p;cases h
   have:=ih (t.go q c) m hb;rw[gX];exact⟨by omega,by omega,this.2.2⟩
  |none=>
   rw[hb] at h;have h':(if t.ends (t.go q c)=-1 then none else some (1,t.go q c))=some (n,e):=h;split at h'
   ·cases h'
   ·cases h'
    exact⟨lQ,by rw[gX];omega,by assumption⟩
def Rs.top (t:Tb)(r:Rs):Nat:=t.start (r.stack (r.depth-1))
def Tb.spec (t:Tb)(xs:List Nat):Nat->Rs->List Ev
 |0,_=>[]
 |n+1,r=>if r.bAt=xs.length then[r.lastEv 2] else match t.best (r.top t) (xs.drop r.bAt) with
  |none=>[r.lastEv 3]
  |some (k,e)=>(r.tok t (t.ends e).toNat (r.bAt+k) (lnT xs (r.bAt+k)) (clT xs (r.bAt+k))).2++if(r.tok t (t.ends e).toNat (r.bAt+k) (lnT xs (r.bAt+k)) (clT xs (r.bAt+k))).1.opn then t.spec xs n (r.tok t (t.ends e).toNat (r.bAt+k) (lnT xs (r.bAt+k)) (clT xs (r.bAt+k))).1 else[]
structure Rs.Like (r q:Rs):Prop where
 opn:r.opn=q.opn
 stack:r.stack=q.stack
 depth:r.depth=q.depth
 bAt:r.bAt=q.bAt
 bLine:r.bLine=q.bLine
 bCol:r.bCol=q.bCol
theorem Rs.Like.last {r q:Rs}(h:r.Like q)(k:Int):r.lastEv k=q.lastEv k:=by
 unfold Rs.lastEv;rw[h.bAt,h.bLine,h.bCol]
theorem Rs.Like.tok {r q:Rs}(h:r.Like q)(t:Tb)(rule a l c:Nat):(r.tok t rule a l c).1.Like (q.tok t rule a l c).1∧(r.tok t rule a l c).2=(q.tok t rule a l c).2:=by
 obtain⟨h1,h2,h3,h4,h5,h6⟩:=h;unfold Rs.tok Rs.moved Rs.lastEv;rw[h2,h3,h4,h5,h6]
 repeat' split
 all_goals refine⟨⟨?_,?_,?_,?_,?_,?_⟩,rfl⟩ <;> first|rfl|assumption
theorem Rs.Like.spec {t:Tb}{xs:List Nat}(n:Nat):∀{r q:Rs},r.Like q->t.spec xs n r=t.spec xs n q:=by
 induction n with
 |zero=>intro r q _;rfl
 |succ n ih=>
  intro r q h;have ht:r.top t=q.top t:=by unfold Rs.top;rw[h.stack,h.depth]
  rw[Tb.spec,Tb.spec,h.bAt,h.last,h.last,ht];split
  ·rfl
  ·split
   ·rfl
   ·rename_i k e _
    have:=h.tok t (t.ends e).toNat (q.bAt+k) (lnT xs (q.bAt+k)) (clT xs (q.bAt+k))
    rw[this.2,this.1.opn,ih this.1]
theorem Rs.tok_at (r:Rs)(t:Tb)(rule a l c:Nat)(h:(r.tok t rule a l c).1.opn=true):(r.tok t rule a l c).1.bAt=a∧(r.tok t rule a l c).1.state=(r.tok t rule a l c).1.top t:=by
 unfold Rs.tok at h ⊢;split at h
 ·cases h
 ·split at h
  ·cases h
  ·rename_i h1 h2
   rw[if_neg h1,if_neg h2];exact⟨rfl,rfl⟩
theorem zKD (t:Tb)(xs:List Nat)(n:Nat):∀(m:Nat) (r:Rs),r.bAt<=xs.length->xs.length<r.bAt+n->xs.length<r.bAt+m->t.spec xs n r=t.spec xs m r:=by
 induction n with
 |zero=>intro m r h1 h2;omega
 |succ n ih=>
  intro m r h1 h2 h3;cases m with
  |zero=>omega
  |succ m=>
   rw[Tb.spec,Tb.spec];split
   ·rfl
   ·split
    ·rfl
    ·rename_i k e he
     have hp:=zIx t _ _ _ _ he;rw[List.length_drop] at hp;cases ho:(r.tok t (t.ends e).toNat (r.bAt+k) (lnT xs (r.bAt+k)) (clT xs (r.bAt+k))).1.opn with
     |false=>rfl
     |true=>
      have hb:=(r.tok_at t _ _ _ _ ho).1;rw[if_pos rfl,if_pos rfl,ih m _ (by omega) (by omega) (by omega)]
def Tb.sp (t:Tb)(xs:List Nat)(r:Rs):List Ev:=t.spec xs (xs.length+1) r
theorem zLO (t:Tb)(xs:List Nat)(r:Rs)(hb:r.bAt<=xs.length):t.sp xs r=if r.bAt=xs.length then[r.lastEv 2] else match t.best (r.top t) (xs.drop r.bAt) with
  |none=>[r.lastEv 3]
  |some (k,e)=>(r.tok t (t.ends e).toNat (r.bAt+k) (lnT xs (r.bAt+k)) (clT xs (r.bAt+k))).2++if(r.tok t (t.ends e).toNat (r.bAt+k) (lnT xs (r.bAt+k)) (clT xs (r.bAt+k))).1.opn then t.sp xs (r.tok t (t.ends e).toNat (r.bAt+k) (lnT xs (r.bAt+k)) (clT xs (r.bAt+k))).1 else[]:=by
 unfold Tb.sp;rw[Tb.spec];split
 ·rfl
 ·split
  ·rfl
  ·rename_i k e he
   have hp:=zIx t _ _ _ _ he;rw[List.length_drop] at hp;cases ho:(r.tok t (t.ends e).toNat (r.bAt+k) (lnT xs (r.bAt+k)) (clT xs (r.bAt+k))).1.opn with
   |false=>rfl
   |true=>
    have hb:=(r.tok_at t _ _ _ _ ho).1;rw[if_pos rfl,if_pos rfl,zKD t xs xs.length (xs.length+1) _ (by omega) (by omega) (by omega)]
def Foll (t:Tb)(xs:List Nat)(r:Rs)(f:Rs×List Ev):Prop:=t.sp xs r=f.2++if f.1.opn then t.sp xs f.1 else[]
theorem Foll.stay {t:Tb}{xs:List Nat}{r q:Rs}(h:r.Like q)(ho:r.opn=true):Foll t xs q (r,[]):=by
 show t.sp xs q=[]++if r.opn then t.sp xs r else[]
 rw[ho,if_pos rfl];exact(h.spec _).symm
theorem Foll.then {t:Tb}{xs:List Nat}{r:Rs}{f g:Rs×List Ev}(h:Foll t xs r f)(ho:f.1.opn=true)(h2:Foll t xs f.1 g):Foll t xs r (g.1,f.2++g.2):=by
 unfold Foll at *;rw[ho,if_pos rfl] at h;rw[h,h2,gW]
theorem Foll.like {t:Tb}{xs:List Nat}{r q:Rs}{f:Rs×List Ev}(h:Foll t xs r f)(hl:r.Like q):Foll t xs q f:=by
 unfold Foll at *;rw[<-h];exact(hl.spec _).symm
theorem Foll.tok {t:Tb}{xs:List Nat}{r q:Rs}(hl:r.Like q)(hb:q.bAt<xs.length)(k e:Nat)(h:t.best (q.top t) (xs.drop q.bAt)=some (k,e))(rule a l c:Nat)(h1:rule=(t.ends e).toNat)(h2:a=q.bAt+k)(h3:l=lnT xs a)(h4:c=clT xs a):Foll t xs q (r.tok t rule a l c):=by
 unfold Foll;rw[zLO t xs q (by omega),if_neg (by omega),h];subst h1 h2 h3 h4;have:=hl.tok t (t.ends e).toNat (q.bAt+k) (lnT xs (q.bAt+k)) (clT xs (q.bAt+k))
 show _++(if _ then _ else _)=_;rw[this.2,this.1.opn]
 congr 1
 split
 ·exact(this.1.spec _).symm
 ·rfl
theorem Foll.no {t:Tb}{xs:List Nat}{r q:Rs}(hl:r.Like q)(hb:q.bAt<xs.length)(h:t.best (q.top t) (xs.drop q.bAt)=none):Foll t xs q ({r with opn:=false},[r.lastEv 3]):=by
 unfold Foll;rw[zLO t xs q (by omega),if_neg (by omega),h];show[q.lastEv 3]=[r.lastEv 3]++[];rw[hl.last];rfl
theorem Foll.fin {t:Tb}{xs:List Nat}{r q:Rs}(hl:r.Like q)(hb:q.bAt=xs.length):Foll t xs q ({r with opn:=false},[r.lastEv 2]):=by
 unfold Foll;rw[zLO t xs q (by omega),if_pos hb];show[q.lastEv 2]=[r.lastEv 2]++[];rw[hl.last];rfl
def Tb.Dead (t:Tb):Prop:=∀q,q<t.nst->t.live q=false->t.ends q=-1∧∀cs:List Nat,(∀c∈cs,c<256)->t.best q cs=none
theorem zGq (xs:List Nat)(n:Nat)(h:n<xs.length):xs.drop n=xs.getD n 0::xs.drop (n+1):=by
 rw[List.drop_eq_getElem_cons h,lW,lV h];rfl
theorem zKf {xs:List Nat}(hx:∀c∈xs,c<256)(n:Nat):∀c∈xs.drop n,c<256:=fun c h=>hx c (List.mem_of_mem_drop h)
def Rs.rec_ (r:Rs)(e:Nat):Option (Nat×Nat):=if r.length=0 then none else some (r.length,e)
def Rs.OE (t:Tb)(xs:List Nat)(r:Rs):Prop:=∃e,(r.length=0∨t.ends e=r.rule)∧t.best (r.top t) (xs.drop r.bAt)=(sh r.taken (t.best r.state (xs.drop (r.bAt+r.taken)))).or (r.rec_ e)
theorem Rs.OE.new {t:Tb}{xs:List Nat}{r:Rs}(h1:r.length=0)(h2:r.taken=0)(h3:r.state=r.top t):r.OE t xs:=by
 refine⟨0,.inl h1,?_⟩;unfold Rs.rec_;rw[h1,h2,h3,if_pos rfl,zGG,Nat.add_zero,Option.or_none]
theorem Rs.OE.ate {t:Tb}{xs:List Nat}{P:Nat}{r:Rs}(h:r.OE t xs)(hI:r.OI xs P)(hl:r.taken<r.count):((r.ate t).marked t).OE t xs:=by
 obtain⟨e,h1,h2⟩:=h;have hp:=hI.hp;have hn:=hI.pn;have hc:=hI.by_ r.taken hl;rw[zGq xs (r.bAt+r.taken) (by omega)] at h2;have hs:(r.ate t).state=t.go r.state (xs.getD (r.bAt+r.taken) 0):=by rw[<-hc];rfl
 have h3:(r.ate t).taken=r.taken+1:=rfl;unfold Rs.marked;split
 ·rename_i he
  rw[hs] at he;refine⟨e,h1,?_⟩;show t.best (r.top t) (xs.drop r.bAt)=(sh (r.taken+1) (t.best (r.ate t).state (xs.drop (r.bAt+(r.taken+1))))).or (r.rec_ e);rw[h2,zBq t _ _ _ (.inl he),zLQ,hs,Nat.add_comm 1,Nat.add_assoc]
 ·rename_i he
  refine⟨(r.ate t).state,.inr rfl,?_⟩;rw[hs] at he;show t.best (r.top t) (xs.drop r.bAt)=(sh (r.taken+1) (t.best (r.ate t).state (xs.drop (r.bAt+(r.taken+1))))).or (if r.taken+1=0 then none else some (r.taken+1,(r.ate t).state));rw[h2,if_neg (Nat.succ_ne_zero _),hs,<-Nat.add_assoc];cases hb:t.best (t.go r.state (xs.getD (r.bAt+r.taken) 0)) (xs.drop (r.bAt+r.taken+1)) with
  |some p=>
   rw[zBq t _ _ _ (.inr (by rw[hb];exact Option.some_ne_none _)),hb,zLQ,Nat.add_comm 1];rfl
  |none=>
   rw[zIy t _ _ _ he hb];show some (1+r.taken,_)=some (r.taken+1,_);rw[Nat.add_comm]
theorem Rs.long_foll {t:Tb}{xs:List Nat}{P:Nat}{r:Rs}(h:r.OE t xs)(hI:r.OI xs P)(hl:r.length<=r.count)(hc:1<=r.count)(hb:t.best r.state (xs.drop (r.bAt+r.taken))=none):Foll t xs r (r.long t)∧((r.long t).1.opn=true->(r.long t).1.OE t xs):=by
 obtain⟨e,h1,h2⟩:=h;have hp:=hI.hp;have hn:=hI.pn;rw[hb] at h2;have h3:t.best (r.top t) (xs.drop r.bAt)=r.rec_ e:=h2;unfold Rs.rec_ at h3;unfold Rs.long;split
 ·rename_i h0
  rw[if_pos h0] at h3;exact⟨Foll.no (r:=r) (q:=r) ⟨rfl,rfl,rfl,rfl,rfl,rfl⟩ (by omega) h3,fun h=>by cases h⟩
 ·rename_i h0
  rw[if_neg h0] at h3;obtain⟨e1,e2⟩:=hI.line_to r.length hl;refine⟨Foll.tok (r:=r.cut) (q:=r) ⟨rfl,rfl,rfl,rfl,rfl,rfl⟩ (by omega) r.length e h3 _ _ _ _ (by rw[h1.resolve_left h0]) rfl e1 e2,fun ho=>?_⟩;obtain⟨_,_,⟨o3,o4⟩,_⟩:=r.cut.tok_opn t r.rule.toNat (r.bAt+r.length) (r.lineTo r.length) (r.colTo r.length)
  exact Rs.OE.new o4 o3 (r.cut.tok_at t _ _ _ _ ho).2
theorem Rs.held_foll {t:Tb}{xs:List Nat}{P:Nat}{r:Rs}(ok:t.Ok)(hd:t.Dead)(hx:∀c∈xs,c<256)(h:r.OE t xs)(hI:r.OI xs P)(hO:r.Oth t P)(hl:r.taken<r.count)(ho:r.opn=true):Foll t xs r (r.heldStep t)∧((r.heldStep t).1.opn=true->(r.heldStep t).1.OE t xs):=by
 have hM:=(r.ate t).marked_oth t P ok (r.ate_oth t P ok hO hl);have hE:=h.ate hI hl;have hQ:((r.ate t).marked t).OI xs P∧((r.ate t).marked t).Like r∧((r.ate t).marked t).opn=true∧((r.ate t).marked t).count=r.count:=by
  unfold Rs.marked;split <;> exact⟨⟨hI.lc,hI.hp,hI.pn,hI.by_⟩,⟨rfl,rfl,rfl,rfl,rfl,rfl⟩,ho,rfl⟩
 unfold Rs.heldStep Rs.judged;generalize (r.ate t).marked t=q at *;split
 ·exact⟨Foll.stay hQ.2.1 hQ.2.2.1,fun _=>hE⟩
 ·rename_i hv
  obtain⟨g1,g2⟩:=Rs.long_foll hE hQ.1 (lY hM.len hM.tak) (by have:=hQ.2.2.2;omega) ((hd q.state hM.ok.state (by simpa using hv)).2 _ (zKf hx _));exact⟨g1.like hQ.2.1,g2⟩
theorem Rs.heldN_foll {t:Tb}{xs:List Nat}{P:Nat}{r:Rs}(ok:t.Ok)(hd:t.Dead)(hx:∀c∈xs,c<256)(h:r.OE t xs)(hI:r.OI xs P)(hO:r.Oth t P)(ho:r.opn=true)(n:Nat):Foll t xs r (r.heldN t n)∧((r.heldN t n).1.opn=true->(r.heldN t n).1.OE t xs):=by
 induction n with
 |zero=>exact⟨Foll.stay ⟨rfl,rfl,rfl,rfl,rfl,rfl⟩ ho,fun _=>h⟩
 |succ n ih=>
  rw[Rs.heldN];split
  ·rename_i hc
   obtain⟨g1,g2⟩:=Rs.held_foll ok hd hx (ih.2 hc.2) ((Rs.heldN_goes t ok hI hO ho n).2 hc.2) (r.heldN_inv t P ok hO n).1 hc.1 hc.2;exact⟨ih.1.then hc.2 g1,g2⟩
  ·exact ih
theorem Rs.heldAll_all {t:Tb}{P:Nat}{r:Rs}(ok:t.Ok)(hO:r.Oth t P)(ho:(r.heldAll t).1.opn=true):(r.heldAll t).1.taken=(r.heldAll t).1.count:=by
 have h1:=(r.heldN_inv t P ok hO (r.todo+1))
 have h2:¬((r.heldAll t).1.taken<(r.heldAll t).1.count∧(r.heldAll t).1.opn=true):=by
  rcases h1.2.2.2.2.1 with h|h
  ·exact h
  ·omega
 have h3:(r.heldAll t).1.taken<=(r.heldAll t).1.count:=h1.1.tak;rcases Nat.lt_or_ge (r.heldAll t).1.taken (r.heldAll t).1.count with h|h
 ·exact absurd ⟨h,ho⟩ h2
 ·omega
theorem Rs.endN_foll {t:Tb}{xs:List Nat}{r:Rs}(ok:t.Ok)(hd:t.Dead)(hx:∀c∈xs,c<256)(h:r.OE t xs)(hI:r.OI xs xs.length)(hO:r.Oth t xs.length)(ho:r.opn=true)(ha:r.taken=r.count)(n:Nat):Foll t xs r (r.endN t n)∧((r.endN t n).1.opn=true->(r.endN t n).1.OE t xs∧(r.endN t n).1.taken=(r.endN t n).1.count):=by
 induction n with
 |zero=>exact⟨Foll.stay ⟨rfl,rfl,rfl,rfl,rfl,rfl⟩ ho,fun _=>⟨h,ha⟩⟩
 |succ n ih=>
  rw[Rs.endN];split
  ·rename_i hc
   have hO2:=(r.endN_inv t _ ok hO n).1;have hI2:=(Rs.endN_goes t ok hI hO ho n).2 hc.2;obtain⟨i1,i2⟩:=ih;obtain⟨i3,i4⟩:=i2 hc.2;generalize r.endN t n=f at *;have hL:=f.1.long_inv t _ ok hO2 hc.2 hc.1;have hp:=hI2.hp;obtain⟨g1,g2⟩:=Rs.long_foll i3 hI2 (lY hO2.len hO2.tak) hc.1 (by rw[List.drop_of_length_le (by omega)];rfl);have g3:=(Rs.long_goes t hI2 (lY hO2.len hO2.tak) hc.2).2;cases h1:(f.1.long t).1.opn with
   |true=>
    obtain⟨k1,k2⟩:=Rs.heldN_foll ok hd hx (g2 h1) (g3 h1) hL.1 h1 ((f.1.long t).1.todo+1);exact⟨i1.then hc.2 (g1.then h1 k1),fun hx=>⟨k2 hx,Rs.heldAll_all ok hL.1 hx⟩⟩
   |false=>
    have e:(f.1.long t).1.heldAll t=((f.1.long t).1,[]):=by
     refine Rs.heldN_stop _ t 0 _ ?_ lX;rintro⟨_,hx⟩;have hx':(f.1.long t).1.opn=true:=hx;rw[h1] at hx';cases hx'
    unfold Rs.endO;rw[e,List.append_nil];exact⟨i1.then hc.2 g1,fun hx=>by have hx':(f.1.long t).1.opn=true:=hx;rw[h1] at hx';cases hx'⟩
  ·exact ih
def FolO (t:Tb)(xs:List Nat)(r:Rs)(f:Rs×List Ev):Prop:=Foll t xs r f∨f.1.opn=false∧t.hold<xs.length∧∃es e rest,f.2=es++[e]∧e.kind=6∧t.sp xs r=es++rest
theorem FolO.then {t:Tb}{xs:List Nat}{r:Rs}{f g:Rs×List Ev}(h:Foll t xs r f)(ho:f.1.opn=true)(h2:FolO t xs f.1 g):FolO t xs r (g.1,f.2++g.2):=by
 rcases h2 with h2|⟨o,oh,es,e,rest,h3,h4,h5⟩
 ·exact .inl (h.then ho h2)
 ·refine .inr ⟨o,oh,f.2++es,e,rest,by show f.2++g.2=_;rw[h3,gW],h4,?_⟩
  unfold Foll at h;rw[h,ho,if_pos rfl,h5,gW]
theorem Rs.feedO_foll {t:Tb}{xs:List Nat}(ok:t.Ok)(hs:t.stream=false)(hd:t.Dead)(hx:∀c∈xs,c<256)(cs:List Nat):∀{r:Rs} {P:Nat},r.OE t xs->r.OI xs P->r.Oth t P->r.opn=true->r.taken=r.count->(∀j,j<cs.length->cs.getD j 0=xs.getD (P+j) 0)->P+cs.length<=xs.length->(∀c∈cs,c<256)->FolO t xs r (Rs.feed t cs r)∧((Rs.feed t cs r).1.opn=true->Foll t xs r (Rs.feed t cs r)∧(Rs.feed t cs r).1.OE t xs∧(Rs.feed t cs r).1.taken=(Rs.feed t cs r).1.count):=by
 induction cs with
 |nil=>intro r P h hI hO ho ha _ _ _;exact⟨.inl (Foll.stay ⟨rfl,rfl,rfl,rfl,rfl,rfl⟩ ho),fun _=>⟨Foll.stay ⟨rfl,rfl,rfl,rfl,rfl,rfl⟩ ho,h,ha⟩⟩
 |cons c cs ih=>
  intro r P h hI hO ho ha hj hP hb;rw[gX] at hP;have hG:r.Good t P:=by unfold Rs.Good;rw[hs];exact hO
  have hS:r.Sure xs t P:=by unfold Rs.Sure;rw[hs];exact hI
  have hc:=hj 0 (Nat.succ_pos _);have hb0:=hb c gY;obtain⟨_,g2⟩:=Rs.eat_goes t ok hS hG c hc (by omega) hb0 ho;have hG2:=(r.eat_inv t P c ok hG hb0 ho).1;have he:r.eat t c=r.takeO t c:=by unfold Rs.eat;rw[hs];rfl
  rw[Rs.feed,if_pos ho];rw[he] at g2 hG2 ⊢;unfold Rs.takeO at g2 hG2 ⊢;split at g2
  ·rename_i hh
   rw[if_pos hh,Rs.feed_shut t cs _ rfl,List.append_nil];exact⟨.inr ⟨rfl,by have:=hI.hp;omega,[],r.lastEv 6,t.sp xs r,rfl,rfl,rfl⟩,fun hx=>by cases hx⟩
  ·rename_i hh
   rw[if_neg hh] at hG2;rw[if_neg hh];have h64:r.count<64:=by have:=ok.hold;omega
   have hp:=hI.hp;have hOa:=r.added_oth t P c hO hb0 h64;have hIa:(r.added c).OI xs (P+1):=⟨hI.lc,congrArg (·+1) hI.hp,by omega,Rs.added_by c r.bAt hI.by_ (by rw[hI.hp];exact hc) h64⟩
   obtain⟨k1,k2⟩:=Rs.heldN_foll (r:=r.added c) ok hd hx h hIa hOa ho ((r.added c).todo+1);have k1':Foll t xs r ((r.added c).heldAll t):=k1.like ⟨rfl,rfl,rfl,rfl,rfl,rfl⟩;cases h1:((r.added c).heldAll t).1.opn with
   |true=>
    have hI2:=g2 h1;unfold Rs.Sure at hI2;rw[hs] at hI2;unfold Rs.Good at hG2;rw[hs] at hG2;obtain⟨m1,m2⟩:=ih (k2 h1) hI2 hG2 h1 (Rs.heldAll_all ok hOa h1) (fun j hl=>by have:=hj (j+1) (Nat.succ_lt_succ hl);rw[show P+(j+1)=P+1+j by omega] at this;exact this) (by omega) fun x hx=>hb x (List.mem_cons_of_mem _ hx);exact⟨FolO.then k1' h1 m1,fun hx=>⟨k1'.then h1 (m2 hx).1,(m2 hx).2⟩⟩
   |false=>
    rw[Rs.feed_shut t cs _ h1,List.append_nil];exact⟨.inl k1',fun hx=>by have hx':((r.added c).heldAll t).1.opn=true:=hx;rw[h1] at hx';cases hx'⟩
theorem zNp (t:Tb)(ft:t.Fine)(hs:t.stream=false)(hd:t.Dead)(p:Nat)(s:ByteArray):t.events p s=t.sp (nats s) (Rs.born t p)∨t.hold<s.size∧∃es e rest,t.events p s=es++[e]∧e.kind=6∧t.sp (nats s) (Rs.born t p)=es++rest:=by
 have hx:=zC1 s;have hI:(Rs.born t p).OI (nats s) 0:=⟨⟨rfl,rfl,lX⟩,rfl,lX,fun j hj=>absurd hj (Nat.not_lt_zero _)⟩
 have hG:=Rs.born_good t p ft;have hS:(Rs.born t p).Sure (nats s) t 0:=by unfold Rs.Sure;rw[hs];exact hI
 have hO:(Rs.born t p).Oth t 0:=by have h:=hG;unfold Rs.Good at h;rw[hs] at h;exact h
 obtain⟨_,g2⟩:=Rs.feed_goes t ft.ok (nats s) hS hG rfl ⟨rfl,rfl,lX⟩ (fun j _=>by rw[Nat.zero_add]) (by rw[Nat.zero_add];exact lQ) hx;obtain⟨f1,f2⟩:=Rs.feedO_foll ft.ok hs hd hx (nats s) (Rs.OE.new rfl rfl rfl) hI hO rfl rfl (fun j _=>by rw[Nat.zero_add]) (by rw[Nat.zero_add];exact lQ) hx;have hG2:=(Rs.feed_inv t ft.ok (nats s) (Rs.born t p) 0 hG hx).1;rw[Nat.zero_add] at g2 hG2;unfold Tb.events;generalize Rs.feed t (nats s) (Rs.born t p)=F at *;cases h1:F.1.opn with
 |false=>
  have e:F.1.shut t=(F.1,[]):=by unfold Rs.shut;rw[h1];rfl
  rw[e,List.append_nil];rcases f1 with f1|⟨_,oh,es,e,rest,h3,h4,h5⟩
  ·unfold Foll at f1
   rw[h1] at f1;exact .inl (by rw[f1];exact(List.append_nil _).symm)
  ·exact .inr ⟨by rw[zAb] at oh;exact oh,es,e,rest,h3,h4,h5⟩
 |true=>
  obtain⟨f3,f4,f5⟩:=f2 h1;have hI2:=g2 h1;unfold Rs.Sure at hI2;rw[hs] at hI2;unfold Rs.Good at hG2;rw[hs] at hG2;obtain⟨k1,k2⟩:=Rs.endN_foll ft.ok hd hx f4 hI2 hG2 h1 f5 (F.1.count+2);have hi:=(F.1.endN_inv t _ ft.ok hG2 (F.1.count+2)).2.2.2.1;have hI3:=(Rs.endN_goes t ft.ok hI2 hG2 h1 (F.1.count+2)).2;have o1:xB F.1.opn<=1:=by unfold xB;split <;> omega
  left
  have key:Foll t (nats s) F.1 (F.1.shut t)∧(F.1.shut t).1.opn=false:=by
   refine⟨?_,(F.1.shut_end t _ ft.ok (by unfold Rs.Good;rw[hs];exact hG2) h1).1⟩;unfold Rs.shut;rw[if_pos h1,hs];show Foll t (nats s) F.1 (F.1.closeO t);unfold Rs.closeO Rs.endAll;generalize F.1.endN t (F.1.count+2)=d at *;cases h2:d.1.opn with
   |false=>rw[if_neg (by decide)];exact k1
   |true=>
    rw[if_pos rfl];have hp:=(hI3 h2).hp;refine k1.then h2 (Foll.fin (r:=d.1) (q:=d.1) ⟨rfl,rfl,rfl,rfl,rfl,rfl⟩ ?_)
    have:d.1.count=0:=by
     rcases hi with hi|hi
     ·rw[h2] at hi
      exact Nat.eq_zero_of_not_pos fun hx=>hi ⟨hx,rfl⟩
     ·omega
    omega
  have:=f3.then h1 key.1
  unfold Foll at this;rw[show ((F.1.shut t).1,F.2++(F.1.shut t).2).1.opn=false from key.2] at this;rw[this];exact(List.append_nil _).symm
def val (K:Nat)(ds:List Nat):Nat:=ds.foldl (fun a d=>a*K+d) 0
theorem zEz (K:Nat)(ds:List Nat)(d:Nat):val K (ds++[d])=val K ds*K+d:=by
 unfold val;rw[List.foldl_append];rfl
theorem zLJ (K:Nat)(bs:List Nat):∀a,bs.foldl (fun a d=>a*K+d) a=a*K^bs.length+val K bs:=by
 induction bs with
 |nil=>intro a;simp[val]
 |cons b bs ih=>
  intro a;unfold val;rw[List.foldl_cons,List.foldl_cons,ih,ih (0*K+b),gX,Nat.pow_succ,Nat.zero_mul,Nat.zero_add,Nat.add_mul,Nat.add_assoc,Nat.mul_assoc,Nat.mul_comm K]
theorem zGy (K:Nat)(xs bs:List Nat):val K (xs++bs)=val K xs*K^bs.length+val K bs:=by
 unfold val;rw[List.foldl_append,zLJ];rfl
theorem zIP (K:Nat)(bs:List Nat)(h:∀b∈bs,b<K):val K bs<K^bs.length:=by
 induction bs with
 |nil=>exact Nat.one_pos
 |cons b bs ih=>
  have h1:=ih fun x hx=>h x (List.mem_cons_of_mem _ hx);have h2:=h b gY;have e:val K (b::bs)=b*K^bs.length+val K bs:=by
   have:=zGy K [b] bs;rw[show val K [b]=b by simp[val]] at this;exact this
  rw[e,gX,Nat.pow_succ,Nat.mul_comm (K^bs.length)]
  calc b*K^bs.length+val K bs<b*K^bs.length+K^bs.length:=Nat.add_lt_add_left h1 _
   _=(b+1)*K^bs.length:=by rw[Nat.add_mul,Nat.one_mul]
   _<=K*K^bs.length:=Nat.mul_le_mul_right _ h2
theorem zMP (K:Nat)(xs bs:List Nat)(h:∀b∈bs,b<K):val K (xs++bs)%K^bs.length=val K bs:=by
 rw[zGy,Nat.mul_comm,Nat.mul_add_mod,Nat.mod_eq_of_lt (zIP K bs h)]
def Tb.digs (t:Tb)(cs:List Nat)(m:Nat):List Nat:=(cs.map t.kind++List.replicate m t.count).take m
def Tb.came (t:Tb)(xs:List Nat)(P e:Nat):List Nat:=(xs.take P).map t.kind++List.replicate e t.count
theorem zLs (t:Tb)(xs:List Nat)(P e m n:Nat)(h:n+m=P+e)(hP:P<=xs.length)(he:e=0∨P=xs.length)(hn:n<=P):(t.came xs P e).drop n=t.digs (xs.drop n) m:=by
 unfold Tb.came Tb.digs;rw[List.drop_append_of_le_length (by rw[kV,List.length_take];omega),<-List.map_drop];rcases he with rfl|rfl
 ·rw[List.replicate_zero,List.append_nil,List.drop_take,List.take_append_of_le_length (by rw[kV,List.length_drop];omega),<-List.map_take,show P-n=m by omega]
 ·rw[List.take_of_length_le lQ,List.take_append,List.take_of_length_le (by rw[kV,List.length_drop];omega),kV,List.length_drop,List.take_replicate,show min (m-(xs.length-n)) m=e by omega]
theorem zMz (t:Tb)(xs:List Nat)(P e:Nat)(hP:P<=xs.length):(t.came xs P e).length=P+e:=by
 unfold Tb.came;rw[kX,kV,List.length_take,List.length_replicate,Nat.min_eq_left hP]
theorem zNw (t:Tb)(ok:t.Ok)(xs:List Nat)(hx:∀c∈xs,c<256)(P e:Nat):∀d∈t.came xs P e,d<t.count+1:=by
 intro d hd;rcases kU.1 hd with hd|hd
 ·obtain⟨c,hc,rfl⟩:=List.mem_map.1 hd
  exact Nat.lt_succ_of_lt (ok.kind c (hx c (List.mem_of_mem_take hc)))
 ·rw[(List.mem_replicate.1 hd).2]
  exact Nat.lt_succ_self _
structure Tb.Sharp (t:Tb):Prop where
 dead:t.Dead
 rows:t.rows=(t.count+1)^t.ahead
 yes:∀q,q<t.nst->∀cs:List Nat,(∀c∈cs,c<256)->t.longer (val (t.count+1) (t.digs cs t.ahead)) q=true->t.best q cs≠none
 no:∀q,q<t.nst->t.ends q≠-1->∀cs:List Nat,(∀c∈cs,c<256)->t.longer (val (t.count+1) (t.digs cs t.ahead)) q=false->t.best q cs=none
structure Rs.SE (t:Tb)(xs:List Nat)(P e:Nat)(r:Rs):Prop where
 best:t.best (r.top t) (xs.drop r.bAt)=sh (r.hAt-r.bAt) (t.best r.state (xs.drop r.hAt))
 ahd:r.ahead=val (t.count+1) (t.came xs P e)%t.rows
theorem Rs.step_foll {t:Tb}{xs:List Nat}{P e:Nat}{r:Rs}(ok:t.Ok)(hT:t.Sharp)(hx:∀c∈xs,c<256)(h:r.SE t xs P e)(hI:r.SI xs P)(hk:r.Ok t)(hc:1<=r.count)(ho:r.opn=true)(hh:r.hAt+1+t.ahead=P+e)(he:e=0∨P=xs.length):Foll t xs r (r.step t)∧((r.step t).1.opn=true->(r.step t).1.SE t xs P e):=by
 have h0:=hI.by_ 0 hc;rw[Nat.add_zero,Nat.add_zero,Nat.mod_eq_of_lt hk.first] at h0;have hp:=hI.hp;have hn:=hI.pn;have hb:=hI.bh;obtain⟨hq,e1,e2,e3⟩:=Rs.took_si t hI hk.first hc
 have hkq:=r.took_ok t ok hk;have hs:(r.took t).state=t.go r.state (xs.getD r.hAt 0):=by rw[<-h0];rfl
 have hlike:(r.took t).Like r:=⟨rfl,rfl,rfl,rfl,rfl,rfl⟩
 have hah:(r.took t).ahead=val (t.count+1) (t.digs (xs.drop (r.hAt+1)) t.ahead):=by
  show r.ahead=_;have hcd:=zLs t xs P e t.ahead (r.hAt+1) hh hn he (by omega);have hln:((t.came xs P e).drop (r.hAt+1)).length=t.ahead:=by rw[List.length_drop,zMz t xs P e hn];omega
  have hv:=zMP (t.count+1) ((t.came xs P e).take (r.hAt+1)) ((t.came xs P e).drop (r.hAt+1)) fun d hd=>zNw t ok xs hx P e d (List.mem_of_mem_drop hd);rw[List.take_append_drop,hln,<-hT.rows,hcd] at hv;rw[h.ahd,hv]
 have hB:=h.best;rw[zGq xs r.hAt (by omega),<-e1] at hB;have ht:(r.took t).top t=r.top t:=rfl;rw[<-ht] at hB;have hfs:=(r.took t).fin_same t;have hrah:(r.took t).ahead=val (t.count+1) (t.came xs P e)%t.rows:=h.ahd;have hdr:=zKf hx (r.hAt+1);unfold Rs.step;generalize r.took t=q at *;unfold Rs.fin;split
 ·rename_i hend
  rw[hs] at hend;have hbn:=hT.no _ (by rw[<-hs];exact hkq.state) hend.1 _ hdr (by rw[<-hah];exact hend.2);rw[zIy t _ _ _ hend.1 hbn] at hB;have hB':t.best (q.top t) (xs.drop q.bAt)=some (1+(r.hAt-q.bAt),t.go r.state (xs.getD r.hAt 0)):=hB;have hf:=Foll.tok (r:=q) (q:=q) ⟨rfl,rfl,rfl,rfl,rfl,rfl⟩ (by omega) _ _ hB' (t.ends q.state).toNat q.hAt q.hLine q.hCol (by rw[hs]) (by omega) hq.hl hq.hc;refine⟨hf.like hlike,fun hop=>?_⟩;obtain⟨a1,a2⟩:=q.tok_at t _ _ _ _ hop;have a3:=q.tok_same t (t.ends q.state).toNat q.hAt q.hLine q.hCol;refine⟨?_,by rw[a3.ahead];exact hrah⟩;rw[a1,a2,a3.hAt,Nat.sub_self,zGG]
 ·rename_i hne
  split
  ·rename_i hv
   obtain⟨d1,d2⟩:=hT.dead _ hkq.state hv;rw[hs] at d1 d2;rw[zBq t _ _ _ (.inl d1),d2 _ hdr] at hB;exact⟨(Foll.no (r:=q) (q:=q) ⟨rfl,rfl,rfl,rfl,rfl,rfl⟩ (by omega) hB).like hlike,fun h=>by cases h⟩
  ·refine⟨Foll.stay hlike (by rw[e3];exact ho),fun _=>⟨?_,hrah⟩⟩
   have hon:t.ends (t.go r.state (xs.getD r.hAt 0))=-1∨t.best (t.go r.state (xs.getD r.hAt 0)) (xs.drop (r.hAt+1))≠none:=by
    by_cases h1:t.ends (t.go r.state (xs.getD r.hAt 0))=-1
    ·exact .inl h1
    ·right
     refine hT.yes _ (by rw[<-hs];exact hkq.state) _ hdr ?_;rw[<-hah,<-hs];rw[<-hs] at h1;cases hlg:t.longer q.ahead q.state with
     |true=>rfl
     |false=>exact absurd ⟨h1,hlg⟩ hne
   rw[zBq t _ _ _ hon,zLQ] at hB;show t.best (q.top t) (xs.drop q.bAt)=sh (q.hAt-q.bAt) (t.best q.state (xs.drop q.hAt));rw[hB,e2,hs,show 1+(r.hAt-q.bAt)=r.hAt+1-q.bAt by omega]
theorem zCG (t:Tb)(a b d:Nat)(h:a=b%t.rows):t.further a d=(b*(t.count+1)+d)%t.rows:=by
 unfold Tb.further;rw[h,Nat.add_mod,Nat.mul_mod,Nat.mod_mod,<-Nat.mul_mod,<-Nat.add_mod]
theorem zIt (t:Tb)(xs:List Nat)(P e:Nat):t.came xs P (e+1)=t.came xs P e++[t.count]:=by
 unfold Tb.came;rw[List.replicate_succ',gW]
theorem zLt (t:Tb)(xs:List Nat)(P:Nat)(h:P<xs.length):t.came xs (P+1) 0=t.came xs P 0++[t.kind (xs.getD P 0)]:=by
 unfold Tb.came;rw[List.replicate_zero,List.append_nil,List.append_nil,List.take_add_one,List.map_append,lV h,lW,lV h];rfl
theorem Rs.feedS_foll {t:Tb}{xs:List Nat}(ok:t.Ok)(hs:t.stream=true)(hT:t.Sharp)(hx:∀c∈xs,c<256)(cs:List Nat):∀{r:Rs} {P:Nat},r.SE t xs P 0->r.SI xs P->r.Str t P->r.opn=true->(∀j,j<cs.length->cs.getD j 0=xs.getD (P+j) 0)->P+cs.length<=xs.length->(∀c∈cs,c<256)->Foll t xs r (Rs.feed t cs r)∧((Rs.feed t cs r).1.opn=true->(Rs.feed t cs r).1.SE t xs (P+cs.length) 0):=by
 induction cs with
 |nil=>intro r P h hI hO ho _ _ _;exact⟨Foll.stay ⟨rfl,rfl,rfl,rfl,rfl,rfl⟩ ho,fun _=>h⟩
 |cons c cs ih=>
  intro r P h hI hO ho hj hP hb;rw[gX] at hP;have hG:r.Good t P:=by unfold Rs.Good;rw[if_pos hs];exact hO
  have hS:r.Sure xs t P:=by unfold Rs.Sure;rw[if_pos hs];exact hI
  have hc:c=xs.getD P 0:=hj 0 (Nat.succ_pos _);have hb0:=hb c gY;obtain⟨_,g2⟩:=Rs.eat_goes t ok hS hG c hc (by omega) hb0 ho;have hG2:=(r.eat_inv t P c ok hG hb0 ho).1;have he:r.eat t c=r.take t c:=by unfold Rs.eat;rw[if_pos hs]
  have hcn:=hO.cnt;have hp:=hI.hp;have h64:r.count<64:=by have:=ok.ahead;omega
  have hq:((r.added c).looked t (t.kind c)).SI xs (P+1):=Rs.looked_si (Rs.added_si hI c hc (by omega) h64) _;have hk:((r.added c).looked t (t.kind c)).Ok t:=let h:=r.added_ok t c hO.ok hb0 h64;⟨h.d1,h.d4,h.st,h.state,h.first,h.count,h.bytes⟩;have hE:((r.added c).looked t (t.kind c)).SE t xs (P+1) 0:=by
   refine⟨h.best,?_⟩;rw[zLt t xs P (by omega),zEz,<-hc];exact zCG t _ _ _ h.ahd
  have key:Foll t xs r (r.take t c)∧((r.take t c).1.opn=true->(r.take t c).1.SE t xs (P+1) 0):=by
   unfold Rs.take Rs.due;split
   ·rename_i hd
    have hd':t.ahead<r.count+1:=hd;obtain⟨k1,k2⟩:=Rs.step_foll ok hT hx hE hq hk (Nat.succ_le_succ lX) ho (by show r.hAt+1+t.ahead=P+1+0;omega) (.inl rfl);exact⟨k1.like ⟨rfl,rfl,rfl,rfl,rfl,rfl⟩,k2⟩
   ·exact⟨Foll.stay ⟨rfl,rfl,rfl,rfl,rfl,rfl⟩ ho,fun _=>hE⟩
  rw[Rs.feed,if_pos ho];rw[he] at g2 hG2 ⊢;cases h1:(r.take t c).1.opn with
  |true=>
   have hI2:=g2 h1;unfold Rs.Sure at hI2;rw[if_pos hs] at hI2;unfold Rs.Good at hG2;rw[if_pos hs] at hG2;obtain⟨m1,m2⟩:=ih (key.2 h1) hI2 hG2 h1 (fun j hl=>by have:=hj (j+1) (Nat.succ_lt_succ hl);rw[show P+(j+1)=P+1+j by omega] at this;exact this) (by omega) fun x hx=>hb x (List.mem_cons_of_mem _ hx);exact⟨key.1.then h1 m1,fun hx=>by rw[gX,show P+(cs.length+1)=P+1+cs.length by omega];exact m2 hx⟩
  |false=>
   rw[Rs.feed_shut t cs _ h1,List.append_nil];exact⟨key.1,fun hx=>by have hx':(r.take t c).1.opn=true:=hx;rw[h1] at hx';cases hx'⟩
theorem Rs.drain_foll {t:Tb}{xs:List Nat}(ok:t.Ok)(hT:t.Sharp)(hx:∀c∈xs,c<256)(n:Nat):∀{r:Rs} {e:Nat},r.SE t xs xs.length e->r.SI xs xs.length->r.Ok t->r.count=n->r.opn=true->r.hAt+t.ahead=xs.length+e->Foll t xs r (Rs.drain t n r)∧((Rs.drain t n r).1.opn=true->∃e,(Rs.drain t n r).1.SE t xs xs.length e):=by
 induction n with
 |zero=>intro r e h hI hk hc ho hh;exact⟨Foll.stay ⟨rfl,rfl,rfl,rfl,rfl,rfl⟩ ho,fun _=>⟨e,h⟩⟩
 |succ n ih=>
  intro r e h hI hk hc ho hh;have hE:(r.look t).SE t xs xs.length (e+1):=by
   refine⟨h.best,?_⟩;rw[zIt,zEz];exact zCG t _ _ _ h.ahd
  have hI1:(r.look t).SI xs xs.length:=Rs.looked_si hI _;have hk1:=r.look_ok t hk;obtain⟨k1,k2⟩:=Rs.step_foll ok hT hx hE hI1 hk1 (by show 1<=r.count;omega) ho (by show r.hAt+1+t.ahead=_;omega) (.inr rfl);have k1':Foll t xs r ((r.look t).step t):=k1.like ⟨rfl,rfl,rfl,rfl,rfl,rfl⟩;obtain⟨_,g2⟩:=Rs.step_goes t hI1 hk.first (by show 1<=r.count;omega) ho
  have f1:=((r.look t).took t).fin_ok t ok ((r.look t).took_ok t ok hk1);have f2:=r.step_count t;have f3:((r.look t).step t).1.hAt=r.hAt+1:=(((r.look t).took t).fin_same t).hAt;rw[Rs.drain,if_neg (by rw[ho];decide)];cases h1:((r.look t).step t).1.opn with
  |true=>
   obtain⟨m1,m2⟩:=ih (r:=((r.look t).step t).1) (k2 h1) (g2 h1) f1 (by rw[f2,hc];rfl) h1 (by omega);exact⟨k1'.then h1 m1,m2⟩
  |false=>
   have e:Rs.drain t n ((r.look t).step t).1=(((r.look t).step t).1,[]):=by
    cases n with
    |zero=>rfl
    |succ n=>rw[Rs.drain,if_pos h1]
   rw[e,List.append_nil];exact⟨k1',fun hx=>by have hx':((r.look t).step t).1.opn=true:=hx;rw[h1] at hx';cases hx'⟩
theorem zM1 (t:Tb)(xs:List Nat)(P:Nat)(a j:Nat)(h:a=val (t.count+1) (t.came xs P 0)%t.rows):t.aheadTo a j=val (t.count+1) (t.came xs P j)%t.rows:=by
 induction j with
 |zero=>exact h
 |succ j ih=>
  rw[Tb.aheadTo,zIt,zEz];exact zCG t _ _ _ ih
theorem zNo (t:Tb)(ft:t.Fine)(hs:t.stream=true)(hT:t.Sharp)(p:Nat)(s:ByteArray):t.events p s=t.sp (nats s) (Rs.born t p):=by
 have hx:=zC1 s;have hI:(Rs.born t p).SI (nats s) 0:=⟨⟨rfl,rfl,lX⟩,rfl,rfl,lQ,rfl,lX,fun j hj=>absurd hj (Nat.not_lt_zero _)⟩
 have hG:=Rs.born_good t p ft;have hS:(Rs.born t p).Sure (nats s) t 0:=by unfold Rs.Sure;rw[if_pos hs];exact hI
 have hO:(Rs.born t p).Str t 0:=by have h:=hG;unfold Rs.Good at h;rw[if_pos hs] at h;exact h
 have hE:(Rs.born t p).SE t (nats s) 0 0:=⟨by show _=sh 0 _;rw[zGG];rfl,by show 0=0%t.rows;rw[Nat.zero_mod]⟩
 obtain⟨_,g2⟩:=Rs.feed_goes t ft.ok (nats s) hS hG rfl ⟨rfl,rfl,lX⟩ (fun j _=>by rw[Nat.zero_add]) (by rw[Nat.zero_add];exact lQ) hx;obtain⟨f1,f2⟩:=Rs.feedS_foll ft.ok hs hT hx (nats s) hE hI hO rfl (fun j _=>by rw[Nat.zero_add]) (by rw[Nat.zero_add];exact lQ) hx;have hG2:=(Rs.feed_inv t ft.ok (nats s) (Rs.born t p) 0 hG hx).1;rw[Nat.zero_add] at g2 hG2 f2;unfold Tb.events;generalize Rs.feed t (nats s) (Rs.born t p)=F at *;cases h1:F.1.opn with
 |false=>
  have e:F.1.shut t=(F.1,[]):=by unfold Rs.shut;rw[h1];rfl
  unfold Foll at f1;rw[h1] at f1;rw[e,f1];rfl
 |true=>
  have hI2:=g2 h1;unfold Rs.Sure at hI2;rw[if_pos hs] at hI2;have hO2:F.1.Str t (nats s).length:=by have h:=hG2;unfold Rs.Good at h;rw[if_pos hs] at h;exact h
  have hE2:=f2 h1;have hcn:=hO2.cnt;have hp:=hI2.hp;have key:Foll t (nats s) F.1 (F.1.shut t)∧(F.1.shut t).1.opn=false:=by
   refine⟨?_,(F.1.shut_end t _ ft.ok hG2 h1).1⟩;unfold Rs.shut;rw[if_pos h1,if_pos hs];obtain⟨k1,k2⟩:=Rs.drain_foll ft.ok hT hx F.1.count (r:=F.1.pad t (t.ahead-F.1.count)) (e:=t.ahead-F.1.count) ⟨hE2.best,zM1 t (nats s) _ _ _ hE2.ahd⟩ (Rs.looked_si hI2 _) (F.1.pad_ok t _ hO2.ok) rfl h1 (by show F.1.hAt+t.ahead=_;omega);obtain⟨_,m2⟩:=Rs.drain_goes t F.1.count (r:=F.1.pad t (t.ahead-F.1.count)) (Rs.looked_si hI2 _) hO2.ok.first rfl h1
   have k1':Foll t (nats s) F.1 (Rs.drain t F.1.count (F.1.pad t (t.ahead-F.1.count))):=k1.like ⟨rfl,rfl,rfl,rfl,rfl,rfl⟩;unfold Rs.closed;simp only;generalize Rs.drain t F.1.count (F.1.pad t (t.ahead-F.1.count))=d at *;unfold Rs.ended;cases h2:d.1.opn with
   |false=>
    rw[if_pos rfl,List.append_nil];exact k1'
   |true=>
    obtain⟨n1,n2⟩:=m2 h2;obtain⟨e,n3⟩:=k2 h2;have hp2:=n1.hp;have hb2:=n1.bh;rw[if_neg (by decide)];refine k1'.then h2 ?_
    split
    ·exact Foll.fin (r:=d.1) (q:=d.1) ⟨rfl,rfl,rfl,rfl,rfl,rfl⟩ (by omega)
    ·refine Foll.no (r:=d.1) (q:=d.1) ⟨rfl,rfl,rfl,rfl,rfl,rfl⟩ (by omega) ?_
     rw[n3.best,List.drop_of_length_le (by omega)];rfl
  have:=f1.then h1 key.1
  unfold Foll at this;rw[show ((F.1.shut t).1,F.2++(F.1.shut t).2).1.opn=false from key.2] at this;rw[this];exact(List.append_nil _).symm
theorem zDP (u:Tb)(n:Nat)(h:(u.spreadTo n).2=false):u.spreadTo n=(u,false)∧∀s,s<n->u.live s=true∨u.anyTo s u.count=false:=by
 induction n with
 |zero=>exact⟨rfl,fun s hs=>absurd hs (Nat.not_lt_zero _)⟩
 |succ n ih=>
  unfold Tb.spreadTo at h ⊢;split at h
  ·cases h
  ·rename_i hc
   obtain⟨i1,i2⟩:=ih h;rw[if_neg hc];refine⟨i1,fun s hs=>?_⟩;by_cases e:s=n
   ·subst e
    rw[i1] at hc;cases h1:u.live s with
    |true=>exact .inl rfl
    |false=>
     right
     cases h2:u.anyTo s u.count with
     |false=>rfl
     |true=>
      refine absurd ?_ hc;show(!u.live s&&u.anyTo s u.count)=true;rw[h1,h2];rfl
   ·exact i2 s (by omega)
theorem zHB (u:Tb)(n s:Nat)(h:u.live s=true):(u.spreadTo n).1.live s=true:=by
 induction n with
 |zero=>exact h
 |succ n ih=>
  unfold Tb.spreadTo;split
  ·show(if s=n then true else(u.spreadTo n).1.live s)=true
   split
   ·rfl
   ·exact ih
  ·exact ih
theorem zMf (t:Tb)(n s:Nat)(h:t.live s=true):(t.itr n).live s=true:=by
 induction n with
 |zero=>exact h
 |succ n ih=>exact zHB _ _ _ ih
theorem zNA (t:Tb)(s n:Nat)(h:t.anyTo s n=false)(k:Nat)(hk:k<n):t.live (t.next s k)=false:=by
 induction n with
 |zero=>omega
 |succ n ih=>
  rw[Tb.anyTo,Bool.or_eq_false_iff] at h;by_cases e:k=n
  ·rw[e];exact h.2
  ·exact ih h.1 (by omega)
theorem Tb.dead_of {t:Tb}(ok:t.Ok)(hl:∀s,s<t.nst->t.live s=true∨∀k,k<t.count->t.live (t.next s k)=false)(he:∀s,t.live s=false->t.ends s=-1):t.Dead:=by
 intro q hq hv;refine⟨he q hv,fun cs=>?_⟩;induction cs generalizing q with
 |nil=>intro _;rfl
 |cons c cs ih=>
  intro hc;have hk:=ok.kind c (hc c gY);have h1:t.live (t.go q c)=false:=((hl q hq).resolve_left (by rw[hv];decide)) _ hk;rw[zBq t _ _ _ (.inl (he _ h1)),ih (t.go q c) (ok.next q _ hq hk) h1 fun x hx=>hc x (List.mem_cons_of_mem _ hx)];rfl
theorem zKU {t0 t:Tb}(n:Nat)(hf:((t0.first.itr n).spreadTo t0.nst).2=false)(ok:t.Ok)(e1:t.nst=t0.nst)(e2:t.count=t0.count)(e3:t.next=t0.next)(e4:t.ends=t0.ends)(e5:t.live=(t0.first.itr n).live):t.Dead:=by
 obtain⟨_,h2⟩:=zDP _ _ hf;have hs:=zAe t0.first n
 have s1:(t0.first.itr n).count=t0.count:=by rw[hs];rfl
 have s2:(t0.first.itr n).next=t0.next:=by rw[hs];rfl
 refine Tb.dead_of ok (fun s hs=>?_) (fun s hv=>?_)
 ·rw[e5,e2,e3]
  rcases h2 s (by omega) with h|h
  ·exact .inl h
  ·right
   intro k hk;rw[s1] at h;have:=zNA _ _ _ h k hk;rw[s2] at this;exact this
 ·rw[e5] at hv
  rw[e4];cases h1:decide (t0.ends s=-1) with
  |true=>exact of_decide_eq_true h1
  |false=>
   have h2:t0.first.live s=true:=by
    show(t0.ends s != -1)=true;rw[bne_iff_ne];exact of_decide_eq_false h1
   rw[zMf _ n s h2] at hv;cases hv
theorem zGx (k a:Nat)(h:zF k a<=3000):zF k a=(k+1)^a:=by
 induction a with
 |zero=>rfl
 |succ a ih=>
  rw[zF] at h ⊢;split at h
  ·rename_i h1
   rw[if_pos h1,ih h1,Nat.pow_succ]
  ·rename_i h1
   exact absurd h h1
theorem zMO (k a b:Nat)(hab:a<=b)(h:zF k b<=3000):zF k a<=3000:=by
 induction b with
 |zero=>rw[show a=0 by omega];exact h
 |succ b ih=>
  by_cases e:a=b+1
  ·rw[e];exact h
  ·rw[zF] at h
   split at h
   ·rename_i h1;exact ih (by omega) h1
   ·rename_i h1;exact absurd h h1
theorem zLZ (f:Nat->Bool)(n i:Nat)(hi:i<n):decide (xK f n (i/8)/2^(i%8)%2=1)=f i:=by
 induction n with
 |zero=>omega
 |succ n ih=>
  rw[xK];by_cases e:i=n
  ·subst e
   have h1:=zDs f i (i/8) (by omega) (by omega);rw[show i-8*(i/8)=i%8 by omega] at h1;have h0:0<2^(i%8):=Nat.pow_pos (by decide);cases hf:f i with
   |true=>
    rw[if_pos ⟨rfl,rfl⟩,Nat.add_div_right _ h0,Nat.div_eq_of_lt h1];rfl
   |false=>
    rw[if_neg (by rintro⟨h,_⟩;cases h),Nat.div_eq_of_lt h1];rfl
  ·rw[<-ih (by omega)]
   split
   ·rename_i h
    obtain⟨d,hd⟩:∃d,n%8=i%8+(d+1):=⟨n%8-i%8-1,by omega⟩
    have h0:0<2^(i%8):=Nat.pow_pos (by decide);rw[hd,Nat.pow_add,Nat.add_mul_div_left _ _ h0,Nat.pow_succ,Nat.mul_comm (2^d),Nat.add_mul_mod_self_left]
   ·rfl
def Tb.hit (t:Tb):Nat->List Nat->Bool
 |_,[]=>false
 |q,d::ds=>if d=t.count then false else(t.ends (t.next q d) != -1)||t.hit (t.next q d) ds
theorem zLB (t:Tb)(hn:∀s k,s<t.nst->k<t.count->t.next s k<t.nst)(m:Nat)(hw:zF t.count m<=3000):∀(ds:List Nat) (q:Nat),ds.length=m->(∀d∈ds,d<t.count+1)->q<t.nst->t.aheadF m (val (t.count+1) ds*t.nst+q)=t.hit q ds:=by
 induction m with
 |zero=>
  intro ds q hl _ _;rw[List.length_eq_zero_iff.1 hl];rfl
 |succ m ih=>
  intro ds q hl hd hq;cases ds with
  |nil=>rw[List.length_nil] at hl;omega
  |cons d ds=>
   rw[gX] at hl;have hl':ds.length=m:=by omega
   have hw':=zMO t.count m (m+1) (by omega) hw;have hp:=zGx t.count m hw';have hv:val (t.count+1) (d::ds)=d*zF t.count m+val (t.count+1) ds:=by
    have:=zGy (t.count+1) [d] ds;rw[show val (t.count+1) [d]=d by simp[val],hl',<-hp] at this;exact this
   have hds:∀x∈ds,x<t.count+1:=fun x hx=>hd x (List.mem_cons_of_mem _ hx);have hlt:=zIP (t.count+1) ds hds;rw[hl',<-hp] at hlt;show t.more (zF t.count m) (t.aheadF m) _=_;rw[hv,Nat.add_mul,Nat.mul_assoc,zJ2 t _ _ d (val (t.count+1) ds) q hlt hq];unfold Tb.willEnd Tb.hit;split
   ·rfl
   ·rename_i hdc
    show((t.ends (t.next q d) != -1)||t.aheadF m (val (t.count+1) ds*t.nst+t.next q d))=_;rw[ih hw' ds _ hl' hds (hn q d hq (by have:=hd d gY;omega))]
theorem zJm (t:Tb)(hn:∀s k,s<t.nst->k<t.count->t.next s k<t.nst)(a:Nat)(hw:zF t.count a<=3000)(ds:List Nat)(q:Nat)(hl:ds.length=a)(hd:∀d∈ds,d<t.count+1)(hq:q<t.nst):(t.looking a).longer (val (t.count+1) ds) q=t.hit q ds:=by
 have hlt:=zIP (t.count+1) ds hd;rw[hl,<-zGx t.count a hw] at hlt;have hb:val (t.count+1) ds*t.nst+q<zF t.count a*t.nst:=by
  calc val (t.count+1) ds*t.nst+q<val (t.count+1) ds*t.nst+t.nst:=Nat.add_lt_add_left hq _
   _=(val (t.count+1) ds+1)*t.nst:=by rw[Nat.add_mul,Nat.one_mul]
   _<=zF t.count a*t.nst:=Nat.mul_le_mul_right _ hlt
 rw[<-zLB t hn a hw ds q hl hd hq];exact zLZ (t.aheadF a) _ _ hb
theorem zGr (t:Tb)(c:Nat)(cs:List Nat)(m:Nat):t.digs (c::cs) (m+1)=t.kind c::t.digs cs m:=by
 unfold Tb.digs;rw[List.map_cons,List.cons_append,List.take_succ_cons,List.take_append,List.take_append,kV,List.take_replicate,List.take_replicate,show min (m-cs.length) (m+1)=min (m-cs.length) m by omega]
theorem zMw (t:Tb)(m:Nat):t.digs [] (m+1)=t.count::t.digs [] m:=by
 unfold Tb.digs;rw[List.map_nil,List.nil_append,List.nil_append,List.replicate_succ,List.take_succ_cons,List.take_replicate]
theorem zIp (t:Tb)(cs:List Nat)(m:Nat):(t.digs cs m).length=m:=by
 unfold Tb.digs;rw[List.length_take,kX,List.length_replicate];omega
theorem zNu (t:Tb)(ok:t.Ok)(cs:List Nat)(hc:∀c∈cs,c<256)(m:Nat):∀d∈t.digs cs m,d<t.count+1:=by
 intro d hd;rcases kU.1 (List.mem_of_mem_take hd) with hd|hd
 ·obtain⟨c,h,rfl⟩:=List.mem_map.1 hd
  exact Nat.lt_succ_of_lt (ok.kind c (hc c h))
 ·rw[(List.mem_replicate.1 hd).2]
  exact Nat.lt_succ_self _
theorem zMk (t:Tb)(ok:t.Ok)(m:Nat):∀(cs:List Nat) (q:Nat),(∀c∈cs,c<256)->t.hit q (t.digs cs m)=true->t.best q cs≠none:=by
 induction m with
 |zero=>
  intro cs q _ h;have:t.digs cs 0=[]:=List.length_eq_zero_iff.1 (zIp t cs 0);rw[this] at h;cases h
 |succ m ih=>
  intro cs q hc h;cases cs with
  |nil=>
   rw[zMw,Tb.hit,if_pos rfl] at h;cases h
  |cons c cs=>
   have hk:=ok.kind c (hc c gY);rw[zGr,Tb.hit,if_neg (by omega)] at h;intro hb;rw[zAu] at hb;cases hb2:t.best (t.go q c) cs with
   |some p=>rw[hb2] at hb;cases hb
   |none=>
    rw[hb2] at hb;have hb':(if t.ends (t.go q c)=-1 then none else some (1,t.go q c))=none:=hb;split at hb'
    ·rename_i he
     have h':((t.ends (t.go q c) != -1)||t.hit (t.go q c) (t.digs cs m))=true:=h;rw[he] at h';exact ih cs _ (fun x hx=>hc x (List.mem_cons_of_mem _ hx)) h' hb2
    ·cases hb'
structure Tb.Fronts (t:Tb)(a:Nat)(F:Nat->Nat->Prop)(N:Nat->Prop):Prop where
 first:∀q,q<t.nst->t.ends q≠-1->F 0 q
 next:∀i q c,c<256->F i q->N (t.go q c)∨t.ends (t.go q c)≠-1∨F (i+1) (t.go q c)
 last:∀q c,c<256->F a q->N (t.go q c)
 none_:∀q,N q->t.ends q=-1∧∀c,c<256->N (t.go q c)
theorem zGb {t:Tb}{a:Nat}{F:Nat->Nat->Prop}{N:Nat->Prop}(h:t.Fronts a F N):∀(cs:List Nat) (q:Nat),(∀c∈cs,c<256)->N q->t.best q cs=none:=by
 intro cs;induction cs with
 |nil=>intro q _ _;rfl
 |cons c cs ih=>
  intro q hc hq;have h1:=(h.none_ q hq).2 c (hc c gY);rw[zBq t _ _ _ (.inl (h.none_ _ h1).1),ih _ (fun x hx=>hc x (List.mem_cons_of_mem _ hx)) h1];rfl
theorem zJx {t:Tb}{a:Nat}{F:Nat->Nat->Prop}{N:Nat->Prop}(ok:t.Ok)(h:t.Fronts a F N):∀(cs:List Nat) (i q:Nat),i<=a->(∀c∈cs,c<256)->F i q->t.hit q (t.digs cs (a-i))=false->t.best q cs=none:=by
 intro cs;induction cs with
 |nil=>intro i q _ _ _ _;rfl
 |cons c cs ih=>
  intro i q hi hc hF hh;have hc0:=hc c gY;have hcs:∀x∈cs,x<256:=fun x hx=>hc x (List.mem_cons_of_mem _ hx);have key:t.ends (t.go q c)=-1∧t.best (t.go q c) cs=none:=by
   by_cases e:i=a
   ·subst e
    have hN:=h.last q c hc0 hF;exact⟨(h.none_ _ hN).1,zGb h cs _ hcs hN⟩
   ·obtain⟨m,hm⟩:∃m,a-i=m+1:=⟨a-i-1,by omega⟩
    have hk:=ok.kind c hc0;rw[hm,zGr,Tb.hit,if_neg (by omega),Bool.or_eq_false_iff] at hh;have he:t.ends (t.go q c)=-1:=by
     have:=hh.1;rw[bne_eq_false_iff_eq] at this;exact this
    refine⟨he,?_⟩;rcases h.next i q c hc0 hF with hN|hN|hN
    ·exact zGb h cs _ hcs hN
    ·exact absurd he hN
    ·exact ih (i+1) _ (by omega) hcs hN (by rw[show a-(i+1)=m by omega];exact hh.2)
  rw[zBq t _ _ _ (.inl key.1),key.2];rfl
def Mk.Z (m:Mk):Prop:=m.next.head? =some zeros∧m.rules.head? =some (-1)
theorem zIf {α:Type}{l k:List α}{x:α}(h:l.head? =some x):(l++k).head? =some x:=by
 cases l with
 |nil=>cases h
 |cons y l=>exact h
theorem Mk.Z.add {m:Mk}(h:m.Z)(most:Nat)(r:Int):(m.add most r).Z:=by
 unfold Mk.add;split
 ·exact h
 ·exact⟨zIf h.1,zIf h.2⟩
theorem Mk.Z.put {m:Mk}(h:m.Z)(s b:Nat)(x:Int)(hs:1<=s):(m.put s b x).Z:=by
 refine⟨?_,h.2⟩;show(m.next.set s _).head? =_;have h1:=h.1;obtain⟨k,rfl⟩:∃k,s=k+1:=⟨s-1,by omega⟩
 cases e:m.next with
 |nil=>rw[e] at h1;cases h1
 |cons y l=>rw[e] at h1;exact h1
theorem Mk.Z.fillTo {m:Mk}(h:m.Z)(s:Nat)(f:Nat->Int)(hs:1<=s)(j:Nat):(m.fillTo s f j).Z:=by
 induction j with
 |zero=>exact h
 |succ j ih=>exact ih.put _ _ _ hs
theorem Mk.Z.withM {m:Mk}(h:m.Z)(most:Nat)(f:Nat->Int):(m.withM most f).Z:=by
 unfold Mk.withM;split
 ·exact h
 ·split
  ·exact h
  ·split
   ·exact h.add _ _
   ·exact(h.add _ _).fillTo _ _ (by omega) _
def zIM (sub:Mk->Nat->Int×Mk):Prop:=∀m c,m.Z->(sub m c).2.Z
theorem zOb (most c:Nat):∀(m:Mk) (to:Int),m.Z->(Mk.even most c m to).2.Z:=by
 induction c with
 |zero=>exact fun m to h=>h
 |succ c ih=>exact fun m to h=>ih _ _ (h.withM _ _)
theorem zOo {sub:Mk->Nat->Int×Mk}(h:zIM sub)(step low:Nat){m:Mk}(hm:m.Z)(j:Nat):(yS sub step low m j).2.Z:=by
 induction j with
 |zero=>exact hm
 |succ j ih=>
  unfold yS;split
  ·exact ih
  ·exact h _ _ ih
theorem zGj (k:Kd)(a:Ar)(most kind cnt step:Nat){sub:Mk->Nat->Int×Mk}(h:zIM sub):zIM (jI k a most kind cnt step sub):=by
 intro m low hm;unfold jI;split
 ·exact zOb most cnt m _ hm
 ·exact(zOo h step low hm 64).withM _ _
theorem zFb (k:Kd)(a:Ar)(most kind l:Nat):zIM (yE k a most kind l):=by
 induction l with
 |zero=>exact zGj k a most kind 1 1 fun m c hm=>hm
 |succ l ih=>exact zGj k a most kind (l+2) (qX (l+2)) ih
theorem zEq {sub:Mk->Nat->Int×Mk}(h:zIM sub)(s lo:Nat)(hs:1<=s){m:Mk}(hm:m.Z)(j:Nat):(qV sub s lo m j).Z:=by
 induction j with
 |zero=>exact hm
 |succ j ih=>exact(h _ _ ih).put _ _ _ hs
theorem zNn (k:Kd)(a:Ar)(most kind s:Nat)(hs:1<=s){m:Mk}(hm:m.Z):(zA6 k a most kind s m).Z:=by
 refine zEq (fun m c h=>zFb k a most kind 2 m _ h) s 240 hs (zEq (fun m c h=>zFb k a most kind 1 m _ h) s 224 hs (zEq (fun m c h=>zFb k a most kind 0 m _ h) s 194 hs (zEq (fun m c h=>h) s 0 hs hm 128) 30) 16) 5
theorem zJQ (k:Kd)(most n:Nat)(h:(zV k most n).full=false):(zV k most n).Z∧∀j,j<n->j≠k.dead->1<=(zV k most n).of.getD j 0:=by
 induction n with
 |zero=>
  refine⟨?_,fun j hj=>absurd hj (Nat.not_lt_zero _)⟩;have h':(Mk.blank.add most (-1)).full=false:=h;show(Mk.blank.add most (-1)).Z;unfold Mk.add at h' ⊢;split at h'
  ·cases h'
  ·rename_i e
   rw[if_neg e];exact⟨rfl,rfl⟩
 |succ n ih=>
  have hl:=(zB1 k most n).2;unfold zV at h ⊢;split at h
  ·rename_i hd
   rw[if_pos hd];obtain⟨i1,i2⟩:=ih h;refine⟨i1,fun j hj hjd=>?_⟩;show 1<=((zV k most n).of++[0]).getD j 0;rw[lW,kW (by omega),<-lW];exact i2 j (by omega) hjd
  ·rename_i hd
   rw[if_neg hd];have h1:=zBt (m:=zV k most n) (most:=most) (r:=k.rules.getD n 0) h;obtain⟨i1,i2⟩:=ih h1.1;have h3:=(zFZ k most n h1.1).one;refine⟨i1.add _ _,fun j hj hjd=>?_⟩;show 1<=((zV k most n).of++[_]).getD j 0;by_cases e:j<n
   ·rw[lW,kW (by omega),<-lW]
    exact i2 j e hjd
   ·rw[lW,gQ (by omega),show j-(zV k most n).of.length=0 by omega]
    show(1:Int)<=(((zV k most n).addN most:Nat):Int);have h2:((zV k most n).add most (k.rules.getD n 0)).full=false:=h;unfold Mk.add at h2;unfold Mk.addN;split at h2
    ·cases h2
    ·rename_i e2
     rw[if_neg e2];omega
theorem zN3 (k:Kd)(a:Ar)(most j:Nat)(hj:j<=k.rows.length)(h:(qM k a most j).full=false):(qM k a most j).Z:=by
 induction j with
 |zero=>exact(zJQ k most _ h).1
 |succ j ih=>
  unfold qM at h ⊢;split at h
  ·rename_i hc
   rw[if_pos hc];obtain⟨_,m2,_,m4⟩:=zB8 k a most j;have hz:=(zJQ k most _ (m4 hc.2)).2 j (by omega) hc.1;rw[<-m2] at hz;exact zNn k a most j _ (by omega) (ih (by omega) hc.2)
  ·rename_i hc
   rw[if_neg hc];exact ih (by omega) h
def Sm.Z (m:Sm):Prop:=m.next.head? =some zeros∧m.rules.head? =some (-1)
theorem zN2 {D:Nat}{rules:List Tr}{most:Nat}{m:Sm}(h:zBL D rules most=some m):m.Z:=by
 unfold zBL at h;split at h
 ·cases h
 ·split at h
  ·cases h
  ·rename_i k _ hf
   cases h
   exact zN3 k _ most _ lQ (Bool.eq_false_iff.2 hf)
theorem zM7 {D:Nat}{sh:Sh}(f:Nat):∀{j most:Nat} {ms:List Sm},xR D sh f j most=some ms->∀m∈ms,m.Z:=by
 induction f with
 |zero=>intro j most ms h m hm;cases h;cases hm
 |succ f ih=>
  intro j most ms h m hm;rw[xR] at h;split at h
  ·cases h
  ·rename_i x hx
   cases hr:xR D sh f (j+1) (most-x.next.length) with
   |none=>rw[hr] at h;cases h
   |some l=>
    rw[hr] at h;cases h
    rcases List.mem_cons.1 hm with rfl|hm
    ·exact zN2 hx
    ·exact ih hr m hm
theorem zOv {s:ByteArray}{st hold:Int}{ms:List Sm}{sh:Sh}(h:zAk s st hold=.inl (ms,sh)):∀m∈ms,m.Z:=by
 unfold zAk at h;split at h
 ·cases h
 ·cases hsp:jE s with
  |inr e=>rw[hsp] at h;cases h
  |inl sh2=>
   rw[hsp] at h;have h2:(match xR (1+6*s.size) sh2 sh2.modes.length 0 st.toNat with|none=>.inr (0,5)|some ms=>.inl (ms,sh2))=(.inl (ms,sh):(List Sm×Sh) ⊕ (Nat×Nat)):=h;split at h2
   ·cases h2
   ·rename_i l hl
    cases h2
    exact zM7 _ hl
theorem zGg (ms:List Sm)(b n N:Nat)(hb:b<n)(hn:n<=N):(zB ms N).1.getD b 0=(zB ms n).1.getD b 0:=by
 induction N with
 |zero=>omega
 |succ N ih=>
  by_cases e:n=N+1
  ·rw[e]
  ·rw[<-ih (by omega)]
   have hl:=(qF ms N).1;rw[zB];split <;> rw[lW,kW (by omega),<-lW]
theorem zIg (ms:List Sm)(n:Nat)(h:qN ms n<n)(m:Sm)(hm:m∈ms)(row:List Int)(hr:row∈m.next):row.getD (qN ms n) 0=row.getD n 0:=by
 have h1:(List.range n).findIdx (fun a=>zBy ms a n)<(List.range n).length:=by rw[List.length_range];exact h
 have h2:=List.findIdx_getElem (w:=h1);rw[List.getElem_range] at h2;have h3:=List.all_eq_true.1 h2 m hm;have h4:=List.all_eq_true.1 h3 row hr;exact eq_of_beq h4
theorem zMd (ms:List Sm)(m:Sm)(hm:m∈ms)(row:List Int)(hr:row∈m.next)(f:Int)(n:Nat)(hn:n<=256):∀b,b<n->0<=(zB ms 256).1.getD b 0∧(zB ms 256).1.getD b 0<((zB ms n).2:Int)∧(zP (zB ms 256).1 row f n).getD ((zB ms 256).1.getD b 0).toNat 0=f+row.getD b 0:=by
 induction n with
 |zero=>intro b hb;omega
 |succ n ih=>
  intro b hb;have hL:=zCt ms row f 256 n (by omega);have hk:=zGg ms n (n+1) 256 (by omega) hn;have hl:=(qF ms n).1;have ih':=ih (by omega);by_cases hf:qN ms n<n
  ·obtain⟨a1,a2,a3⟩:=ih' _ hf
   have hkn:(zB ms 256).1.getD n 0=(zB ms 256).1.getD (qN ms n) 0:=by
    rw[hk,zGg ms (qN ms n) n 256 hf (by omega),zB,if_pos hf];show((zB ms n).1++[_]).getD n 0=_;rw[lW,gQ (by omega),hl,Nat.sub_self];rfl
   have hc:(zB ms (n+1)).2=(zB ms n).2:=by rw[zB,if_pos hf]
   have hB:zP (zB ms 256).1 row f (n+1)=zP (zB ms 256).1 row f n:=by rw[zP,if_neg (by rw[hL,hkn];omega)]
   rw[hB,hc];by_cases e:b=n
   ·rw[e,hkn]
    exact⟨a1,a2,by rw[a3,zIg ms n hf m hm row hr]⟩
   ·exact ih' b (by omega)
  ·have hkn:(zB ms 256).1.getD n 0=((zB ms n).2:Int):=by
    rw[hk,zB,if_neg hf];show((zB ms n).1++[_]).getD n 0=_;rw[lW,gQ (by omega),hl,Nat.sub_self];rfl
   have hc:(zB ms (n+1)).2=(zB ms n).2+1:=by rw[zB,if_neg hf]
   have hB:zP (zB ms 256).1 row f (n+1)=zP (zB ms 256).1 row f n++[f+row.getD n 0]:=by rw[zP,if_pos (by rw[hL,hkn])]
   rw[hB,hc];by_cases e:b=n
   ·rw[e,hkn]
    refine⟨by omega,by omega,?_⟩;rw[lW,gQ (by rw[hL];omega),hL,Int.toNat_natCast,Nat.sub_self];rfl
   ·obtain⟨a1,a2,a3⟩:=ih' b (by omega)
    refine⟨a1,by omega,?_⟩;rw[lW,kW (by rw[hL];omega),<-lW,a3]
theorem zLN (ms:List Sm)(n q:Nat)(h:q<zE ms n):∃j s,j<n∧s<(ms.getD j Sm.none).next.length∧q=zE ms j+s:=by
 induction n with
 |zero=>exact absurd h (Nat.not_lt_zero _)
 |succ n ih=>
  by_cases e:q<zE ms n
  ·obtain⟨j,s,h1,h2,h3⟩:=ih e
   exact⟨j,s,by omega,h2,h3⟩
  ·rw[zE] at h
   exact⟨n,q-zE ms n,by omega,by show _<(ms.getD n ⟨[],[],0,[]⟩).next.length;omega,by omega⟩
theorem zNd (ms:List Sm)(h:ModesOk ms)(K:List Int)(n:Nat)(hn:n<=ms.length)(j s:Nat)(hj:j<n)(hs:s<(ms.getD j Sm.none).next.length):(zQ K ms n).next.getD (zE ms j+s) []=zP K ((ms.getD j Sm.none).next.getD s []) (zE ms j:Nat) 256∧(zQ K ms n).ends.getD (zE ms j+s) 0=yF (zQ K ms j).rules ((ms.getD j Sm.none).rules.getD s 0):=by
 induction n with
 |zero=>omega
 |succ n ih=>
  obtain⟨s1,s2,s3,s4⟩:=jR K ms h n (by omega);have hst:zE ms (j+1)=zE ms j+(ms.getD j Sm.none).next.length:=rfl
  rw[zQ];show((zQ K ms n).next++_).getD _ _=_∧((zQ K ms n).ends++_).getD _ _=_;by_cases e:j<n
  ·have hle:=yX ms (j+1) n e
   obtain⟨i1,i2⟩:=ih (by omega) e;rw[lW,kW (by omega),<-lW,lW (l:=_++_),kW (by omega),<-lW];exact⟨i1,i2⟩
  ·have e2:j=n:=by omega
   subst e2;have hr:=(h.rules j (by omega)).1;have hg:ms.getD j Sm.none=ms[j]:=by rw[lW,lV (by omega),Option.getD_some]
   have hs':s<(ms.getD j Sm.none).rules.length:=by rw[hg,hr,<-hg];exact hs
   constructor
   ·rw[lW,gQ (by omega),s2,Nat.add_sub_cancel_left,gV]
    show(Option.map _ (ms.getD j Sm.none).next[s]?).getD []=_;rw[lV hs,Option.map_some,Option.getD_some,lW (l:=(ms.getD j Sm.none).next),lV hs,Option.getD_some]
   ·rw[lW,gQ (by omega),s3,Nat.add_sub_cancel_left,gV]
    show(Option.map _ (ms.getD j Sm.none).rules[s]?).getD 0=_;rw[lV hs',Option.map_some,Option.getD_some,lW (l:=(ms.getD j Sm.none).rules),lV hs',Option.getD_some]
theorem zDf (ms:List Sm)(h:ModesOk ms)(acts pushed:List Int)(hold j s c:Nat)(hj:j<ms.length)(hs:s<(ms.getD j Sm.none).next.length)(hc:c<256):(zU ms acts pushed hold).go (zE ms j+s) c=zE ms j+(((ms.getD j Sm.none).next.getD s []).getD c 0).toNat∧0<=((ms.getD j Sm.none).next.getD s []).getD c 0∧((ms.getD j Sm.none).next.getD s []).getD c 0<((ms.getD j Sm.none).next.length:Int)∧((zU ms acts pushed hold).ends (zE ms j+s)=-1↔(ms.getD j Sm.none).rules.getD s 0=-1):=by
 obtain⟨l1,l2⟩:=zNd ms h (zB ms 256).1 ms.length lQ j s hj hs;have hg:ms.getD j Sm.none=ms[j]:=by rw[lW,lV hj,Option.getD_some]
 have hm:ms.getD j Sm.none∈ms:=by rw[hg];exact List.getElem_mem hj
 have hrow:(ms.getD j Sm.none).next.getD s []∈(ms.getD j Sm.none).next:=zS _ s [] hs
 obtain⟨_,w2⟩:=h.wide j hj _ (by rw[<-hg];exact hrow);obtain⟨w3,w4⟩:=w2 c hc;rw[<-hg] at w4;obtain⟨_,_,k3⟩:=zMd ms _ hm _ hrow (zE ms j:Nat) 256 lQ c hc;refine⟨?_,w3,w4,?_⟩
 ·show(((zQ (zB ms 256).1 ms ms.length).next.getD (zE ms j+s) []).getD ((zB ms 256).1.getD c 0).toNat 0).toNat=_
  rw[l1,k3];omega
 ·show(zQ (zB ms 256).1 ms ms.length).ends.getD (zE ms j+s) 0=-1↔_
  rw[l2];have hr:=(h.rules j hj)
  have hs':s<(ms.getD j Sm.none).rules.length:=by rw[hg,hr.1,<-hg];exact hs
  have:=(hr.2 _ (by rw[<-hg];exact zS _ s 0 hs')).1;unfold yF;split
  ·rename_i e;rw[e]
  ·rename_i e
   constructor
   ·intro e2;omega
   ·intro e2;exact absurd e2 e
theorem zK9 (p:Nat->Bool)(n:Nat)(h:(List.range n).findIdx p<n):p ((List.range n).findIdx p)=true:=by
 have h1:(List.range n).findIdx p<(List.range n).length:=by rw[List.length_range];exact h
 have h2:=List.findIdx_getElem (w:=h1);rw[List.getElem_range] at h2;exact h2
theorem zJy (n:Nat)(f:Nat->Bool)(h:jS n f<0):∀t,t<n->f t=false:=by
 intro t ht;unfold jS at h;split at h
 ·omega
 ·rename_i hn
  cases hf:f t with
  |false=>rfl
  |true=>
   exfalso
   apply hn;have:=List.findIdx_lt_length_of_exists (xs:=List.range n) (p:=f) ⟨t,List.mem_range.2 ht,hf⟩;rw[List.length_range] at this;exact this
theorem zLj (m:Sm)(h:0<=yA m):zAL m (yA m).toNat=true:=by
 unfold yA at h ⊢;split at h
 ·rename_i hl
  rw[if_pos hl,Int.toNat_natCast];exact zK9 (zAL m) _ hl
 ·omega
theorem zJw (m:Sm)(d:Nat)(h:zAL m d=true)(k:Nat):(∀t,t<m.next.length->qD m (xL m (d+k)) t=false):=by
 induction k with
 |zero=>exact zJy _ _ (of_decide_eq_true h)
 |succ k ih=>
  intro t ht;show((((t:Nat):Int) != 0)&&(List.range m.next.length).any fun i=>xL m (d+k+1) i&&_)=false;have:((List.range m.next.length).any fun i=>xL m (d+k+1) i&&(m.next.getD i []).any (·==(t:Int)))=false:=by
   rw[List.any_eq_false];intro i hi;have h1:=ih i (List.mem_range.1 hi);have h2:xL m (d+k+1) i=false:=by
    show qJ (qD m (xL m (d+k))) (tokF m) i=false;unfold qJ;rw[h1];rfl
   rw[h2];simp
  rw[this,Bool.and_false]
theorem zLC (ms:List Sm)(n:Nat)(h:0<=aheadTo ms n):∀j,j<n->0<=yA (ms.getD j Sm.none)∧yA (ms.getD j Sm.none)<=aheadTo ms n:=by
 induction n with
 |zero=>intro j hj;omega
 |succ n ih=>
  intro j hj;have e:aheadTo ms (n+1)=yO (aheadTo ms n) (yA (ms.getD n Sm.none)):=rfl;rw[e] at h ⊢;unfold yO at h ⊢;split at h
  ·omega
  ·rename_i h1
   rw[if_neg h1];by_cases hjn:j=n
   ·subst hjn
    split <;> omega
   ·have:=ih (by omega) j (by omega)
    split <;> omega
theorem zKL (m:Sm)(F:Nat->Bool)(s c:Nat)(hs:s<m.next.length)(hF:F s=true)(hc:c<(m.next.getD s []).length)(x:Nat)(hx:(m.next.getD s []).getD c 0=(x:Int))(h0:x≠0):qD m F x=true:=by
 show(((x:Nat):Int) != 0&&(List.range m.next.length).any fun i=>F i&&(m.next.getD i []).any (·==(x:Int)))=true;rw[Bool.and_eq_true];refine⟨by rw[bne_iff_ne];omega,List.any_eq_true.2 ⟨s,List.mem_range.2 hs,?_⟩⟩;rw[Bool.and_eq_true];refine⟨hF,List.any_eq_true.2 ⟨(m.next.getD s []).getD c 0,zS _ c 0 hc,?_⟩⟩;rw[hx];exact beq_self_eq_true _
theorem zIC (ms:List Sm)(h:ModesOk ms)(hz:∀m∈ms,m.Z)(hA:0<=aheadTo ms ms.length)(acts pushed:List Int)(hold:Nat):∃F N,(zU ms acts pushed hold).Fronts (aheadTo ms ms.length).toNat F N:=by
 have hm:∀j,j<ms.length->ms.getD j Sm.none=ms[j]?.getD Sm.none∧ms.getD j Sm.none∈ms:=fun j hj=>⟨lW,zS _ _ _ hj⟩
 have hw:∀j s,j<ms.length->s<(ms.getD j Sm.none).next.length->((ms.getD j Sm.none).next.getD s []).length=256:=fun j s hj hs=>by
  have hg:ms.getD j Sm.none=ms[j]:=by rw[lW,lV hj,Option.getD_some]
  rw[hg] at hs ⊢;exact(h.wide j hj _ (zS _ s [] hs)).1
 have hlead:∀i j s c,j<ms.length->s<(ms.getD j Sm.none).next.length->c<256->xL (ms.getD j Sm.none) i s=true->∃x:Nat,(zU ms acts pushed hold).go (zE ms j+s) c=zE ms j+x∧x<(ms.getD j Sm.none).next.length∧(x=0∨qD (ms.getD j Sm.none) (xL (ms.getD j Sm.none) i) x=true):=by
  intro i j s c hj hs hc hF;obtain⟨b1,b2,b3,_⟩:=zDf ms h acts pushed hold j s c hj hs hc;refine⟨_,b1,by omega,?_⟩;by_cases e:(((ms.getD j Sm.none).next.getD s []).getD c 0).toNat=0
  ·exact .inl e
  ·exact .inr (zKL _ _ s c hs hF (by rw[hw j s hj hs];exact hc) _ (Int.toNat_of_nonneg b2).symm e)
 refine⟨fun i q=>∃j s,j<ms.length∧s<(ms.getD j Sm.none).next.length∧q=zE ms j+s∧xL (ms.getD j Sm.none) i s=true,fun q=>∃j,j<ms.length∧q=zE ms j,?_,?_,?_,?_⟩
 ·intro q hq he
  obtain⟨j,s,hj,hs,rfl⟩:=zLN ms ms.length q hq;have b4:=(zDf ms h acts pushed hold j s 0 hj hs (by decide)).2.2.2;refine⟨j,s,hj,hs,rfl,?_⟩;show((ms.getD j Sm.none).rules.getD s 0 != -1)=true;rw[bne_iff_ne];exact fun e=>he (b4.2 e)
 ·rintro i q c hc ⟨j,s,hj,hs,rfl,hF⟩
  obtain⟨x,x1,x2,x3⟩:=hlead i j s c hj hs hc hF;rw[x1];rcases x3 with rfl|x3
  ·exact .inl ⟨j,hj,rfl⟩
  ·right
   have b4:=(zDf ms h acts pushed hold j x 0 hj x2 (by decide)).2.2.2;cases ht:tokF (ms.getD j Sm.none) x with
   |true=>
    left
    intro e;have ht':((ms.getD j Sm.none).rules.getD x 0 != -1)=true:=ht;rw[bne_iff_ne] at ht';exact ht' (b4.1 e)
   |false=>
    right
    refine⟨j,x,hj,x2,rfl,?_⟩;show(qD (ms.getD j Sm.none) (xL (ms.getD j Sm.none) i) x&& !tokF (ms.getD j Sm.none) x)=true;rw[x3,ht];rfl
 ·rintro q c hc ⟨j,s,hj,hs,rfl,hF⟩
  obtain⟨x,x1,x2,x3⟩:=hlead _ j s c hj hs hc hF;rw[x1];rcases x3 with rfl|x3
  ·exact⟨j,hj,rfl⟩
  ·obtain⟨d1,d2⟩:=zLC ms ms.length hA j hj
   have:=zJw _ _ (zLj _ d1) ((aheadTo ms ms.length).toNat-(yA (ms.getD j Sm.none)).toNat) x x2;rw[show (yA (ms.getD j Sm.none)).toNat+((aheadTo ms ms.length).toNat-(yA (ms.getD j Sm.none)).toNat)=(aheadTo ms ms.length).toNat by omega,x3] at this;cases this
 ·rintro q ⟨j,hj,rfl⟩
  obtain⟨z1,z2⟩:=hz _ (hm j hj).2;have hg:ms.getD j Sm.none=ms[j]:=by rw[lW,lV hj,Option.getD_some]
  have h1:0<(ms.getD j Sm.none).next.length:=by rw[hg];exact h.states1 j hj
  have hrow:(ms.getD j Sm.none).next.getD 0 []=zeros:=by
   cases e:(ms.getD j Sm.none).next with
   |nil=>rw[e] at z1;cases z1
   |cons y l=>rw[e] at z1;exact hU z1
  have hrule:(ms.getD j Sm.none).rules.getD 0 0=-1:=by
   cases e:(ms.getD j Sm.none).rules with
   |nil=>rw[e] at z2;cases z2
   |cons y l=>rw[e] at z2;exact hU z2
  refine⟨(zDf ms h acts pushed hold j 0 0 hj h1 (by decide)).2.2.2.2 hrule,fun c hc=>⟨j,hj,?_⟩⟩;have b1:=(zDf ms h acts pushed hold j 0 c hj h1 hc).1;have hzc:zeros.getD c 0=0:=by
   unfold zeros;rw[lW,List.getElem?_replicate,if_pos hc];rfl
  rw[hrow,hzc] at b1;exact b1
theorem zLv {t u:Tb}(h1:t.next=u.next)(h2:t.kind=u.kind)(h3:t.ends=u.ends)(cs:List Nat):∀q,t.best q cs=u.best q cs:=by
 have hg:∀q c,t.go q c=u.go q c:=fun q c=>by unfold Tb.go;rw[h1,h2]
 induction cs with
 |nil=>intro q;rfl
 |cons c cs ih=>intro q;rw[zAu,zAu,hg,ih,h3]
theorem zMj {t u:Tb}(h1:t.next=u.next)(h2:t.count=u.count)(h3:t.ends=u.ends)(ds:List Nat):∀q,t.hit q ds=u.hit q ds:=by
 induction ds with
 |nil=>intro q;rfl
 |cons d ds ih=>intro q;rw[Tb.hit,Tb.hit,h1,h2,h3,ih]
theorem zMT {t u:Tb}(h1:t.next=u.next)(h2:t.kind=u.kind)(h3:t.ends=u.ends)(h4:t.start=u.start)(h5:t.act=u.act)(h6:t.push=u.push)(xs:List Nat)(r:Rs):t.sp xs r=u.sp xs r:=by
 have ht:∀(r:Rs) rule a l c,r.tok t rule a l c=r.tok u rule a l c:=fun r rule a l c=>by unfold Rs.tok Rs.moved;rw[h4,h5,h6]
 unfold Tb.sp;generalize xs.length+1=n;induction n generalizing r with
 |zero=>rfl
 |succ n ih=>
  have hp:r.top t=r.top u:=by unfold Rs.top;rw[h4]
  rw[Tb.spec,Tb.spec,zLv h1 h2 h3,hp,h3];simp only[ht,ih]
theorem zGm {ms:List Sm}{acts pushed:List Int}{hold n:Nat}{fo:Bool}(hf:(((zU ms acts pushed hold).first.itr n).spreadTo (zE ms ms.length)).2=false)(ok:(qO ms acts pushed hold n fo).Ok):(qO ms acts pushed hold n fo).Dead:=by
 have hs:=zAe (zU ms acts pushed hold).first n
 refine zKU (t0:=zU ms acts pushed hold) n hf ok ?_ ?_ ?_ ?_ ?_ <;> unfold qO qK <;> split <;> first|rfl|(rw [hs];rfl)
theorem zDG (ms:List Sm)(acts pushed:List Int)(hold n:Nat)(fo:Bool):(qO ms acts pushed hold n fo).nst=(zU ms acts pushed hold).nst∧(qO ms acts pushed hold n fo).next=(zU ms acts pushed hold).next∧(qO ms acts pushed hold n fo).kind=(zU ms acts pushed hold).kind∧(qO ms acts pushed hold n fo).ends=(zU ms acts pushed hold).ends∧(qO ms acts pushed hold n fo).start=(zU ms acts pushed hold).start∧(qO ms acts pushed hold n fo).act=(zU ms acts pushed hold).act∧(qO ms acts pushed hold n fo).push=(zU ms acts pushed hold).push∧(qO ms acts pushed hold n fo).count=(zU ms acts pushed hold).count:=by
 have hs:=zAe (zU ms acts pushed hold).first n
 refine⟨?_,?_,?_,?_,?_,?_,?_,?_⟩ <;> unfold qO qK <;> split <;> rw[hs] <;> rfl
theorem zJu {x:List Sm×Sh}{hold n:Nat}{fo:Bool}(h:ModesOk x.1)(hz:∀m∈x.1,m.Z)(hst:zBd x fo=true)(hf:(((zU x.1 (ints x.2.acts) (x.2.pushesTo x.2.pushed.length) hold).first.itr n).spreadTo (zE x.1 x.1.length)).2=false)(ok:(qO x.1 (ints x.2.acts) (x.2.pushesTo x.2.pushed.length) hold n fo).Ok):(qO x.1 (ints x.2.acts) (x.2.pushesTo x.2.pushed.length) hold n fo).Sharp:=by
 have hd:=zGm hf ok;obtain⟨g1,g2,g3,g4,-,-,-,g8⟩:=zDG x.1 (ints x.2.acts) (x.2.pushesTo x.2.pushed.length) hold n fo;obtain⟨u,a,he,ha,hw,hA⟩:∃u a,qO x.1 (ints x.2.acts) (x.2.pushesTo x.2.pushed.length) hold n fo=Tb.looking u a∧a=(aheadTo x.1 x.1.length).toNat∧zF (zB x.1 256).2 a<=3000∧0<=aheadTo x.1 x.1.length:=by
  unfold zBd at hst;have hs2:=hst;unfold xO at hs2;simp only[Bool.and_eq_true,decide_eq_true_eq] at hs2;refine⟨{qK x.1 (ints x.2.acts) (x.2.pushesTo x.2.pushed.length) hold n with stream:=true},(aheadTo x.1 x.1.length).toNat,?_,rfl,hs2.2.2,hs2.2.1⟩;unfold qO;rw[if_pos hst]
 obtain⟨F,N,hF⟩:=zIC x.1 h hz hA (ints x.2.acts) (x.2.pushesTo x.2.pushed.length) hold;generalize qO x.1 (ints x.2.acts) (x.2.pushesTo x.2.pushed.length) hold n fo=t at *;have c1:t.ahead=a:=by rw[he];rfl
 have c2:zF t.count a<=3000:=by rw[g8];exact hw
 have c3:t.rows=zF t.count a:=by rw[he];rfl
 have u1:u.next=t.next:=by rw[he];rfl
 have u2:u.count=t.count:=by rw[he];rfl
 have u3:u.ends=t.ends:=by rw[he];rfl
 have u4:u.nst=t.nst:=by rw[he];rfl
 have hlong:∀q,q<t.nst->∀cs:List Nat,(∀c∈cs,c<256)->t.longer (val (t.count+1) (t.digs cs t.ahead)) q=t.hit q (t.digs cs t.ahead):=fun q hq cs hc=>by
  have:=zJm u (by rw[u4,u2,u1];exact ok.next) a (by rw[u2];exact c2) (t.digs cs t.ahead) q (by rw[zIp,c1]) (by rw[u2];exact zNu t ok cs hc _) (by rw[u4];exact hq);rw[<-he,u2,zMj u1 u2 u3] at this;exact this
 have hgo:∀q c,t.go q c=(zU x.1 (ints x.2.acts) (x.2.pushesTo x.2.pushed.length) hold).go q c:=fun q c=>by unfold Tb.go;rw[g2,g3]
 have hF2:t.Fronts t.ahead F N:=by
  rw[c1,ha];exact⟨fun q hq he=>hF.first q (by rw[<-g1];exact hq) (by rw[<-g4];exact he),fun i q c hc hq=>by rw[hgo,g4];exact hF.next i q c hc hq,fun q c hc hq=>by rw[hgo];exact hF.last q c hc hq,fun q hq=>⟨by rw[g4];exact(hF.none_ q hq).1,fun c hc=>by rw[hgo];exact(hF.none_ q hq).2 c hc⟩⟩
 refine⟨hd,by rw[c3,c1];exact zGx _ _ c2,fun q hq cs hc hl=>?_,fun q hq he cs hc hl=>?_⟩
 ·rw[hlong q hq cs hc] at hl
  exact zMk t ok _ cs q hc hl
 ·rw[hlong q hq cs hc] at hl
  exact zJx ok hF2 cs 0 q lX hc (hF2.first q hq he) (by rw[Nat.sub_zero];exact hl)
theorem zId (t:Tb)(n:Nat)(h:((t.itr n).spreadTo t.nst).2=false)(k:Nat):t.itr (n+k)=t.itr n:=by
 induction k with
 |zero=>rfl
 |succ k ih=>
  show((t.itr (n+k)).spreadTo t.nst).1=_;rw[ih,(zDP _ _ h).1]
theorem zM9 {ms:List Sm}{acts pushed:List Int}{hold n m:Nat}(hn:(((zU ms acts pushed hold).first.itr n).spreadTo (zE ms ms.length)).2=false)(hm:(((zU ms acts pushed hold).first.itr m).spreadTo (zE ms ms.length)).2=false):qK ms acts pushed hold n=qK ms acts pushed hold m:=by
 have key:(zU ms acts pushed hold).first.itr n=(zU ms acts pushed hold).first.itr m:=by
  rcases Nat.le_total n m with h|h
  ·obtain⟨k,rfl⟩:=Nat.exists_eq_add_of_le h
   exact(zId _ n hn k).symm
  ·obtain⟨k,rfl⟩:=Nat.exists_eq_add_of_le h
   exact zId _ m hm k
 unfold qK;rw[key]
def Rs.tabs (r:Rs)(p:Nat):Rs:={r with tp:=p}
def zAK (p:Nat)(f:Rs×List Ev):Rs×List Ev:=(f.1.tabs p,f.2)
theorem zLK (r:Rs)(p:Nat)(t:Tb)(rule a l c:Nat):(r.tabs p).tok t rule a l c=zAK p (r.tok t rule a l c):=by
 unfold Rs.tok Rs.moved
 repeat' split
 all_goals first|rfl|contradiction
theorem zF2 (r:Rs)(p i:Nat):(r.tabs p).lineTo i=r.lineTo i∧(r.tabs p).colTo i=r.colTo i:=by
 induction i with
 |zero=>exact⟨rfl,rfl⟩
 |succ i ih=>
  rw[Rs.lineTo,Rs.lineTo,Rs.colTo,Rs.colTo,ih.1,ih.2];exact⟨rfl,rfl⟩
theorem zF1 (r:Rs)(p:Nat)(t:Tb):(r.tabs p).long t=zAK p (r.long t):=by
 have e0:(r.tabs p).length=r.length:=rfl;unfold Rs.long;rw[e0,(zF2 r p _).1,(zF2 r p _).2];split
 ·rfl
 ·exact zLK r.cut p t _ _ _ _
theorem zKy (r:Rs)(p:Nat)(t:Tb):(r.tabs p).heldStep t=zAK p (r.heldStep t):=by
 have e:((r.tabs p).ate t).marked t=((r.ate t).marked t).tabs p:=by
  have e0:((r.tabs p).ate t).state=(r.ate t).state:=rfl;unfold Rs.marked;rw[e0];split <;> rfl
 unfold Rs.heldStep Rs.judged;rw[e,zF1];have e1:(((r.ate t).marked t).tabs p).state=((r.ate t).marked t).state:=rfl;rw[e1];split <;> rfl
theorem zEF (r:Rs)(p:Nat)(t:Tb)(n:Nat):(r.tabs p).heldN t n=zAK p (r.heldN t n):=by
 induction n with
 |zero=>rfl
 |succ n ih=>
  have e1:(zAK p (r.heldN t n)).1=(r.heldN t n).1.tabs p:=rfl;have e2:((r.heldN t n).1.tabs p).taken=(r.heldN t n).1.taken:=rfl;have e3:((r.heldN t n).1.tabs p).count=(r.heldN t n).1.count:=rfl;have e4:((r.heldN t n).1.tabs p).opn=(r.heldN t n).1.opn:=rfl;rw[Rs.heldN,Rs.heldN,ih,e1,e2,e3,e4,zKy];split <;> rfl
theorem zLL (r:Rs)(p:Nat)(t:Tb)(hs:t.stream=false)(c:Nat):(r.tabs p).eat t c=zAK p (r.eat t c):=by
 unfold Rs.eat
 rw[hs];show(r.tabs p).takeO t c=zAK p (r.takeO t c);unfold Rs.takeO;have e3:(r.tabs p).count=r.count:=rfl;rw[e3];split
 ·rfl
 ·exact zEF (r.added c) p t _
theorem zKz (p:Nat)(t:Tb)(hs:t.stream=false)(cs:List Nat):∀r:Rs,Rs.feed t cs (r.tabs p)=zAK p (Rs.feed t cs r):=by
 induction cs with
 |nil=>intro r;rfl
 |cons c cs ih=>
  intro r;have e4:(r.tabs p).opn=r.opn:=rfl;have e5:(zAK p (r.eat t c)).1=(r.eat t c).1.tabs p:=rfl;rw[Rs.feed,Rs.feed,e4,zLL r p t hs,e5,ih];split <;> rfl
theorem zKA (r:Rs)(p:Nat)(t:Tb)(n:Nat):(r.tabs p).endN t n=zAK p (r.endN t n):=by
 induction n with
 |zero=>rfl
 |succ n ih=>
  have e1:(zAK p (r.endN t n)).1=(r.endN t n).1.tabs p:=rfl;have e3:((r.endN t n).1.tabs p).count=(r.endN t n).1.count:=rfl;have e4:((r.endN t n).1.tabs p).opn=(r.endN t n).1.opn:=rfl;have e6:∀q:Rs,(q.tabs p).endO t=zAK p (q.endO t):=fun q=>by
   unfold Rs.endO Rs.heldAll;rw[zF1];have e7:(zAK p (q.long t)).1=(q.long t).1.tabs p:=rfl;have e8:((q.long t).1.tabs p).todo=(q.long t).1.todo:=rfl;rw[e7,e8,zEF];rfl
  rw[Rs.endN,Rs.endN,ih,e1,e3,e4,e6];split <;> rfl
theorem zIi (t:Tb)(hs:t.stream=false)(p p':Nat)(s:ByteArray):t.events p s=t.events p' s:=by
 have e0:Rs.born t p=(Rs.born t p').tabs p:=rfl;unfold Tb.events;rw[e0,zKz p t hs];generalize Rs.feed t (nats s) (Rs.born t p')=F;show F.2++((F.1.tabs p).shut t).2=F.2++(F.1.shut t).2
 congr 1
 unfold Rs.shut;have e4:(F.1.tabs p).opn=F.1.opn:=rfl;rw[e4,hs];split
 ·show((F.1.tabs p).closeO t).2=(F.1.closeO t).2
  unfold Rs.closeO Rs.endAll;have e3:(F.1.tabs p).count=F.1.count:=rfl;rw[e3,zKA];have e1:(zAK p (F.1.endN t (F.1.count+2))).1=(F.1.endN t (F.1.count+2)).1.tabs p:=rfl;have e5:((F.1.endN t (F.1.count+2)).1.tabs p).opn=(F.1.endN t (F.1.count+2)).1.opn:=rfl;rw[e1,e5];split <;> rfl
 ·rfl
theorem zHa {x:List Sm×Sh}{hold n m:Nat}(h:ModesOk x.1)(hz:∀m∈x.1,m.Z)(hn:(((zU x.1 (ints x.2.acts) (x.2.pushesTo x.2.pushed.length) hold).first.itr n).spreadTo (zE x.1 x.1.length)).2=false)(hm:(((zU x.1 (ints x.2.acts) (x.2.pushesTo x.2.pushed.length) hold).first.itr m).spreadTo (zE x.1 x.1.length)).2=false)(t u:Tb)(ht:t=qO x.1 (ints x.2.acts) (x.2.pushesTo x.2.pushed.length) hold n false)(hu:u=qO x.1 (ints x.2.acts) (x.2.pushesTo x.2.pushed.length) hold m true)(ft:t.Fine)(fu:u.Fine)(p p':Nat)(s:ByteArray):t.events p s=u.events p' s∨∃es e rest,u.events p' s=es++[e]∧e.kind=6∧t.events p s=es++rest:=by
 have hmade:∀k,qK x.1 (ints x.2.acts) (x.2.pushesTo x.2.pushed.length) hold k=Tb.looking (((zU x.1 (ints x.2.acts) (x.2.pushesTo x.2.pushed.length) hold).first.itr k)) 0:=fun k=>rfl;have hu2:u=qK x.1 (ints x.2.acts) (x.2.pushesTo x.2.pushed.length) hold m:=by rw[hu];unfold qO;rfl
 have hus:u.stream=false:=by
  rw[hu2,hmade,zAe];rfl
 cases hst:zBd x false with
 |false=>
  have ht2:t=qK x.1 (ints x.2.acts) (x.2.pushesTo x.2.pushed.length) hold n:=by
   rw[ht];unfold qO;unfold zBd at hst;rw[if_neg (by rw[hst];decide)]
  left
  rw[ht2,zM9 hn hm,<-hu2];exact zIi u hus p p' s
 |true=>
  have hts:t.stream=true:=by
   rw[ht];unfold qO;unfold zBd at hst;rw[if_pos hst];rfl
  have hT:t.Sharp:=by rw[ht];exact zJu h hz hst hn (by rw[<-ht];exact ft.ok)
  have hD:u.Dead:=by rw[hu];exact zGm hm (by rw[<-hu];exact fu.ok)
  obtain⟨-,a2,a3,a4,a5,a6,a7,-⟩:=zDG x.1 (ints x.2.acts) (x.2.pushesTo x.2.pushed.length) hold n false;obtain⟨-,b2,b3,b4,b5,b6,b7,-⟩:=zDG x.1 (ints x.2.acts) (x.2.pushesTo x.2.pushed.length) hold m true;rw[<-ht] at a2 a3 a4 a5 a6 a7;rw[<-hu] at b2 b3 b4 b5 b6 b7;have hsp:t.sp (nats s) (Rs.born t p)=u.sp (nats s) (Rs.born u p'):=by
   rw[zMT (a2.trans b2.symm) (a3.trans b3.symm) (a4.trans b4.symm) (a5.trans b5.symm) (a6.trans b6.symm) (a7.trans b7.symm)];exact Rs.Like.spec _ ⟨rfl,rfl,rfl,rfl,rfl,rfl⟩
  rw[zNo t ft hts hT p s,hsp];rcases zNp u fu hus hD p' s with e|e
  ·exact .inl e.symm
  ·exact .inr e.2
theorem zIk {A B:List Ev}(h:A=B∨∃es e rest,B=es++[e]∧e.kind=6∧A=es++rest)(M:Nat)(hM:B.length=M+1):(A=B∨(B.getD M ⟨0,0,0,0,0,0⟩).kind=6)∧∃es r1 r2,A=es++r1∧B=es++r2∧es.length=M:=by
 rcases h with rfl|⟨es,e,rest,rfl,h2,rfl⟩
 ·exact⟨.inl rfl,A.take M,A.drop M,A.drop M,(List.take_append_drop _ _).symm,(List.take_append_drop _ _).symm,by rw[List.length_take];omega⟩
 ·rw[kX] at hM
  have hl:es.length=M:=by simpa using hM
  refine⟨.inr ?_,es,rest,[e],rfl,rfl,hl⟩;rw[lW,gQ (by omega),hl,Nat.sub_self];exact h2
theorem zFT (w:World)(s d:ByteArray)(y:List Sm×Sh)(hl:zAd s=some y)(hs:s.size<=65536)(hd:d.size<=65536):Calls prog 18 #[string s,string d] w fun e w'=>e=returned (bool true)∧Grew w w':=by
 have hz:∀m∈y.1,m.Z:=by
  unfold zAd at hl;cases hg:zAk s 200 64 with
  |inl x=>
   rw[hg] at hl;cases hl
   exact zOv (ms:=y.1) (sh:=y.2) hg
  |inr e=>rw[hg] at hl;cases hl
 have HOF:Hid (∀w2 fo,Ca 16 #[string s,int i64 64,bool fo] w2 fun e w'=>Grew w2 w'∧∃L m0 m1 m2 s0 s1 s2 v0 v1 v2 AH ST LN,e=returned (tuple #[pointer (some ⟨L,0,none⟩),agg #[slice m0 m1 m2,slice s0 s1 s2,slice v0 v1 v2,int i64 AH,bool ST,int i64 LN]])∧∃t,Hid (LexIn w' w2.heap.size L y 64 fo t)):=fun w2 fo=>by
  refine(zH4 w2 s (by omega) 64 (by omega) (by omega) fo).mono ?_;rintro e w' ⟨hk,x,m0,m1,m2,s0,s1,s2,v0,v1,v2,AH,ST,LN,rfl,hq⟩;unfold OfQ at hq;rw[hl] at hq;obtain⟨L,t,rfl,-,-,hL⟩:=hq;exact⟨hk,L,m0,m1,m2,s0,s1,s2,v0,v1,v2,AH,ST,LN,rfl,t,hL⟩
 have HZ:=vl hz;clear hl hz;go_in;apply wp_cut;intro K0 J;go_wp2;apply J.out;clear J;apply wp_cut;intro K0 J;go_wp2_with (first|(go_at_call 16;refine(HOF.out _ _).mono ?_;rintro e w2 ⟨hk2,L,m0,m1,m2,s0,s1,s2,v0,v1,v2,AH,ST,LN,rfl,t,HL⟩))
 apply J.out;clear J;obtain⟨w3,hw3,HW3⟩:∃w3,w3=w2.alloc (.cells #[slice m0 m1 m2,slice s0 s1 s2,slice v0 v1 v2,int i64 AH,bool ST,int i64 LN] 30)∧Hid (Grew w w3∧Grew w2 w3):=⟨_,rfl,hk2.trans (kZ _ _ hk2.size),kZ _ _ lQ⟩
 rw[<-hw3];clear hw3 hk2;apply wp_cut;intro K0 J;go_wp2_with (first|(go_at_call 16;refine(HOF.out _ _).mono ?_;rintro e w4 ⟨hk4,L2,m0,m1,m2,s0,s1,s2,v0,v1,v2,AH,ST,LN,rfl,u,HL2⟩))
 apply J.out;clear J;obtain⟨w5,hw5,HW5⟩:∃w5,w5=w4.alloc (.cells #[slice m0 m1 m2,slice s0 s1 s2,slice v0 v1 v2,int i64 AH,bool ST,int i64 LN] 30)∧Hid (Grew w w5∧Grew w2 w5∧Grew w4 w5):=by
  have h45:Grew w4 (w4.alloc (.cells #[slice m0 m1 m2,slice s0 s1 s2,slice v0 v1 v2,int i64 AH,bool ST,int i64 LN] 30)):=kZ _ _ lQ;have h35:=hk4.trans (h45.lower hk4.size hk4.size);exact⟨_,rfl,HW3.out.1.trans (h35.lower HW3.out.1.size HW3.out.1.size),HW3.out.2.trans (h35.lower HW3.out.2.size HW3.out.2.size),h45⟩
 rw[<-hw5];obtain⟨S1,p1,hA1,-⟩:=HL.out.at_;obtain⟨S2,p2,hA2,-⟩:=HL2.out.at_;obtain⟨n1,ht,hn1⟩:=HL.out.made;obtain⟨n2,hu,hn2⟩:=HL2.out.made;have HEN:=vl (zHa HL.out.modes HZ.out hn1 hn2 t u ht hu HL.out.fine HL2.out.fine p1 p2 d);have HC1:=vl <| zDR (hA1.grown HW5.out.2.1) HL.out.fine d (by omega);have HC2:Hid (∀w6,Grew w5 w6->Ca 27 #[pointer (some ⟨L2,0,none⟩),string d] w6 fun e w'=>∃v,e=returned v∧EvsAt w' v (u.events p2 d)∧Grew w6 w'):=fun w6 hk=>zDR (hA2.grown (HW5.out.2.2.trans (hk.lower HW5.out.2.2.size HW5.out.2.2.size))) HL2.out.fine d (by omega);have hB0:=List.length_pos_iff.2 (u.events_some HL2.out.fine p2 d);generalize t.events p1 d=A at *;generalize u.events p2 d=B at *;clear hw5 hk4 HW3 HOF hA1 hA2 ht hn1 hu hn2 HL HL2 HZ;apply wp_cut;intro K0 J;go_wp2;apply J.out;clear J;apply wp_cut;intro K0 J;go_wp2_with (first|(go_at_call 27;refine HC1.out.mono ?_;rintro e w6 ⟨va,rfl,hea,hk6⟩))
 apply J.out;clear J;apply wp_cut;intro K0 J;go_wp2_with (first|(go_at_call 27;refine(HC2.out w6 hk6).mono ?_;rintro e w7 ⟨vb,rfl,heb,hk7⟩))
 apply J.out;clear J;have K7:Hid (Grew w w7∧EvsAt w7 va A∧EvsAt w7 vb B):=⟨(HW5.out.1.trans (hk6.lower HW5.out.1.size HW5.out.1.size)).trans (hk7.lower (lY HW5.out.1.size hk6.size) (lY HW5.out.1.size hk6.size)),hea.grown hk7,heb⟩
 clear hea heb hk6 hk7 HC1 HC2 HW5;obtain⟨M,hM⟩:∃M,B.length=M+1:=⟨B.length-1,by omega⟩
 obtain⟨hE,es,r1,r2,hr1,hr2,hes⟩:=zIk HEN.out M hM;obtain⟨aa,ca,rfl,ha1,ha2,-⟩:=id K7.out.2.1;obtain⟨ab,cb,rfl,hb1,hb2,hcb⟩:=id K7.out.2.2;obtain⟨gb,rfl,hgb,hcell⟩:=hcb M (by omega);have y0:w7.cell? ⟨gb,M*6,none⟩=some (int i64 (B.getD M ⟨0,0,0,0,0,0⟩).kind):=hcell 0 _ rfl;obtain⟨f1,f2,f3,f4⟩:A.length=(es++r1).length∧es.length<=A.length∧A.length<=ca∧EvsAt w7 (slice aa es.length ca) es:=EvsAt.pre (by rw[<-hr1];exact K7.out.2.1);obtain⟨g1,g2,g3,g4⟩:B.length=(es++r2).length∧es.length<=B.length∧B.length<=cb∧EvsAt w7 (slice (some ⟨gb,0,none⟩) es.length cb) es:=EvsAt.pre (by rw[<-hr2];exact K7.out.2.2);have HSA:Hid (∀n,Ca 32 #[slice aa M ca,slice (some ⟨gb,0,none⟩) M cb] (w7.drewN n) fun e w'=>e=returned (bool true)∧∃m,w'=w7.drewN m):=fun n=>by
  have hk:Grew w7 (w7.drewN n):=Keep.alike ⟨rfl,rfl,rfl⟩;rw[<-hes];refine(zEN (w7.drewN n) _ _ es (f4.grown hk) (g4.grown hk)).mono ?_;rintro e w' ⟨rfl,m,rfl⟩;exact⟨rfl,n+m,World.drewN_drewN _ _ _⟩
 have HSB:Hid (A=B->Ca 32 #[slice aa A.length ca,slice (some ⟨gb,0,none⟩) B.length cb] w7 fun e w'=>e=returned (bool true)∧Grew w7 w'):=fun h=>zI4 w7 _ _ A K7.out.2.1 (by rw[h];exact K7.out.2.2);have HKD:Hid (A=B∨(B.getD M ⟨0,0,0,0,0,0⟩).kind=6):=hE;have hAM:M<=A.length:=by omega
 have hm2:A.length<=9223372036854775807∧M+1<=9223372036854775807:=by unfold maxLen at ha2 hb2;omega
 have hcc:M+1<=cb∧A.length<=ca:=by omega
 rw[hM] at HSB ⊢;generalize (B.getD M ⟨0,0,0,0,0,0⟩).kind=k at *;have KW:Hid (Grew w w7):=K7.out.1;clear HEN hE hr1 hr2 hes f1 f2 f3 f4 g1 g2 g3 g4 hcell hgb hM hB0 ha1 hb1 ha2 hb2 K7 r1 r2;generalize A.length=NA at *;apply wp_cut;intro K0 J;go_wp2;apply J.out;clear J;have i1:(M:Int)<=(NA:Int):=by omega
 by_cases hk:k=6
 ·have i2:(k==6)=true:=by rw[beq_iff_eq];exact hk
  go_wp2;go_quiet ((go_at_call 32;exact HSA.out _));go_wp2;refine bodyPost_ret (results_tmp rfl _ _ _) rfl ?_;exact⟨rfl,KW.out.trans (Keep.alike (w':=w7.drewN nq) ⟨rfl,rfl,rfl⟩)⟩
 ·have i2:(k==6)=false:=by rw[hJ];exact hk
  have HS9:=vl (HSB.out (HKD.out.resolve_right hk));go_wp2_with (first|(go_at_call 32;refine HS9.out.mono ?_;rintro e w8 ⟨rfl,hk8⟩))
  refine bodyPost_ret (results_tmp rfl _ _ _) rfl ?_;exact⟨rfl,KW.out.trans (hk8.lower KW.out.size KW.out.size)⟩
theorem zIl (w:World)(s d:ByteArray):Calls prog 5 #[string s,string d] w fun e w'=>e=returned (bool true)∧Grew w w':=by
 rcases zLw w s d with HB|⟨y,hl,hs,hd,HB⟩
 ·have HBG:=vl HB
  clear HB;go_in;go_wp2_with (first|(go_at_call 14;refine HBG.out.mono ?_;rintro e w1 ⟨rfl,hk1⟩))
  refine bodyPost_ret (results_tmp rfl _ _ _) rfl ?_;exact⟨rfl,hk1⟩
 have HBG:=vl HB;have HEN:Hid (∀w2,Ca 18 #[string s,string d] w2 fun e w'=>e=returned (bool true)∧Grew w2 w'):=fun w2=>zFT w2 s d y hl hs hd;clear HB hl;go_in;go_wp2_with (first|(go_at_call 14;refine HBG.out.mono ?_;rintro e w1 ⟨rfl,hk1⟩)|(go_at_call 18;refine(HEN.out _).mono ?_;rintro e w2 ⟨rfl,hk2⟩))
 refine bodyPost_ret (results_tmp rfl _ _ _) rfl ?_;exact⟨rfl,hk1.trans (hk2.lower hk1.size hk1.size)⟩
section
open Go.ChangeShapes Go.WideShapes Go.ChangeAt Go.RowKit
open Go.ChangeMaps (open_string shut_string)
theorem zFm (os:Os)(started:os.Started)(H:Type)(enc:TypeId×Value->H):
  ReturnsInHanded {} checked os 5 .any (Rows.enginesSpec.pre6 enc prog f5 Rows.enginesRow.domain false) (Rows.enginesSpec.post enc prog f5 false true false false):=by
 refine returnsInHanded_of_change (C:=checked) own started (by kernel_rfl) func5
  (ChangeSpec.witness6 (enc:=enc) (C:=checked) false ⟨#[],#[.string ⟨#[]⟩,.string ⟨#[]⟩],[]⟩ 8 (by kernel_rfl) (by kernel_rfl) (by kernel_rfl) (by kernel_rfl)) ?_
 intro W base args ds gs before hval0 hW _ _;have hval:=hval0;have hW':=hW;obtain⟨p,q,hA0,hV,rfl,hfz,hnd⟩:=hW;have hA:=hA0;rw[params5] at hA hval;obtain⟨v0,vs0,d0,ds0,p0,q0,hargs,rfl,rfl,h0,r0⟩:=trodAll_cons hA;obtain⟨v1,vs1,d1,ds1,p1,q1,rfl,rfl,rfl,h1,r1⟩:=trodAll_cons r0;obtain⟨rfl,rfl,rfl⟩:=trodAll_nil r1;have hargs2:args=#[v0,v1]:=by cases args;simp_all
 subst hargs2;obtain⟨rfl,rfl⟩:=trodVars_none hV;obtain⟨a0,rfl,rfl,rfl,w0⟩:=open_string underlying9 (hval 0 9 v0 rfl rfl) h0;obtain⟨a1,rfl,rfl,rfl,w1⟩:=open_string underlying9 (hval 1 9 v1 rfl rfl) h1;simp only[List.append_nil] at hW';refine(zIl W a0 a1).mono fun e W' ⟨he,hk⟩=>?_;subst he;exact⟨_,rfl,zI8 hW' (fun _ _ _=>trodAll_mk1 (shut_bool underlying4 _)) (fun sp=>zJR (shut_string underlying9 w0) (zJR (shut_string underlying9 w1) (trodAll_mk0))) (fun _=>rfl)
  (hk.frame _) (ok_one (by kernel_rfl) rfl (okWide_bool_mk underlying4 _))⟩
theorem engines_holds:Rows.EnginesSaid:=
 OpenClaim.holds_of_wide 5 f5 rfl rfl rfl rfl rfl rfl rfl ⟨rfl,rfl,rfl,rfl,rfl⟩ rfl rfl rfl rfl rfl (by kernel_rfl) func5 (by kernel_rfl)
  (of_decide_eq_true (by kernel_rfl)) (by unfold Func.isWrapper;first|(rw [if_pos (by decide +kernel)];kernel_rfl)|(rw [if_neg (by decide +kernel)];exact⟨rfl,rfl⟩))
  (fun os started H enc _=>zFm os started H enc)
end
end Go.Proofs.YtbjcfkdnjaiclaaGreat
