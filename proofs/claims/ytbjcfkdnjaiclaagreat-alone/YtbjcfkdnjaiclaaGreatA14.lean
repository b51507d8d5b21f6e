import Derived.Deep.LoopGhost
import Derived.Test.YtbjcfkdnjaiclaaGreatA0
import Derived.Test.YtbjcfkdnjaiclaaGreatA1
import Derived.Test.YtbjcfkdnjaiclaaGreatA10
import Derived.Test.YtbjcfkdnjaiclaaGreatA11
import Derived.Test.YtbjcfkdnjaiclaaGreatA12
import Derived.Test.YtbjcfkdnjaiclaaGreatA13
/- Alone: of a specification of one mode that ends none, a token's text by itself is that token; for every specification and text (up to 65536 bytes, as the statement itself says). -/
set_option linter.unusedVariables false
set_option linter.unusedSimpArgs false
set_option maxHeartbeats 4000000
set_option maxRecDepth 100000
namespace Go.Proofs.YtbjcfkdnjaiclaaGreat
open Go.RowKit Go.Proofs.Tryz Go.World
open Go.Value (int slice bool pointer string agg tuple)
open Go.IntKind (i64)
open Go.Ending (returned)
section
variable {t:Tb} {xs:List Nat} {r q:Rs}
def Tb.go (t:Tb)(q c:Nat):Nat:=t.next q (t.kind c)
def Tb.best (t:Tb):Nat->List Nat->Option (Nat×Nat)
 |_,[]=>none
 |q,c::cs=>match t.best (t.go q c) cs with
  |some (n,e)=>some (n+1,e)
  |none=>if t.ends (t.go q c)=-1 then none else some (1,t.go q c)
def sh (k:Nat)(o:Option (Nat×Nat)):Option (Nat×Nat):=o.map fun p=>(p.1+k,p.2)
theorem zLX (a b:Nat)(o:Option (Nat×Nat)):sh a (sh b o)=sh (b+a) o:=by
 cases o with
 |none=>rfl
 |some p=>simp only[sh,Option.map_some,Nat.add_assoc]
theorem zGJ (o:Option (Nat×Nat)):sh 0 o=o:=by cases o <;> rfl
theorem zAy (t:Tb)(q c:Nat)(cs:List Nat):t.best q (c::cs)=match t.best (t.go q c) cs with|some (n,e)=>some (n+1,e)|none=>if t.ends (t.go q c)=-1 then none else some (1,t.go q c):=rfl
theorem zBt (t:Tb)(q c:Nat)(cs:List Nat)(h:t.ends (t.go q c)=-1∨t.best (t.go q c) cs≠none):t.best q (c::cs)=sh 1 (t.best (t.go q c) cs):=by
 rw[zAy];cases hb:t.best (t.go q c) cs with
 |some p=>rfl
 |none=>
  rcases h with h|h
  ·rw[h];rfl
  ·exact absurd hb h
theorem zFy (t:Tb)(q c:Nat)(cs:List Nat)(h:t.ends (t.go q c)≠-1)(hb:t.best (t.go q c) cs=none):t.best q (c::cs)=some (1,t.go q c):=by
 rw[zAy,hb];exact if_neg h
theorem zDi (t:Tb)(q:Nat)(cs:List Nat)(n e:Nat)(h:t.best q cs=some (n,e)):1<=n∧n<=cs.length∧t.ends e≠-1:=by
 induction cs generalizing q n with
 |nil=>cases h
 |cons c cs ih=>
  rw[zAy] at h;cases hb:t.best (t.go q c) cs with
  |some p=>
   rw[hb] at h;obtain⟨m,f⟩:=p;cases h
   have:=ih (t.go q c) m hb;rw[gZ];exact⟨by omega,by omega,this.2.2⟩
  |none=>
   rw[hb] at h;have h':(if t.ends (t.go q c)=-1 then none else some (1,t.go q c))=some (n,e):=h;split at h'
   ·cases h'
   ·cases h'
    exact⟨lQ,by rw[gZ];omega,by assumption⟩
def Rs.top (t:Tb)(r:Rs):Nat:=t.start (r.stack (r.depth-1))
def Tb.spec (t:Tb)(xs:List Nat):Nat->Rs->List Ev
 |0,_=>[]
 |n+1,r=>if r.bAt=xs.length then[r.lastEv 2] else match t.best (r.top t) (xs.drop r.bAt) with
  |none=>[r.lastEv 3]
  |some (k,e)=>(r.tok t (t.ends e).toNat (r.bAt+k) (lnT xs (r.bAt+k)) (clT xs (r.bAt+k))).2++if(r.tok t (t.ends e).toNat (r.bAt+k) (lnT xs (r.bAt+k)) (clT xs (r.bAt+k))).1.opn then t.spec xs n (r.tok t (t.ends e).toNat (r.bAt+k) (lnT xs (r.bAt+k)) (clT xs (r.bAt+k))).1 else[]
structure Rs.Like (r q:Rs):Prop where
 opn:r.opn=q.opn
 stack:r.stack=q.stack
 depth:r.depth=q.depth
 bAt:r.bAt=q.bAt
 bLine:r.bLine=q.bLine
 bCol:r.bCol=q.bCol
theorem Rs.Like.last (h:r.Like q)(k:Int):r.lastEv k=q.lastEv k:=by
 unfold Rs.lastEv;rw[h.bAt,h.bLine,h.bCol]
theorem Rs.Like.tok (h:r.Like q)(t:Tb)(rule a l c:Nat):(r.tok t rule a l c).1.Like (q.tok t rule a l c).1∧(r.tok t rule a l c).2=(q.tok t rule a l c).2:=by
 obtain⟨h1,h2,h3,h4,h5,h6⟩:=h;unfold Rs.tok Rs.moved Rs.lastEv;rw[h2,h3,h4,h5,h6]
 repeat' split
 all_goals refine⟨⟨?_,?_,?_,?_,?_,?_⟩,rfl⟩ <;> first|rfl|assumption
theorem Rs.Like.spec (n:Nat):∀{r q:Rs},r.Like q->t.spec xs n r=t.spec xs n q:=by
 induction n with
 |zero=>intro r q _;rfl
 |succ n ih=>
  intro r q h;have ht:r.top t=q.top t:=by unfold Rs.top;rw[h.stack,h.depth]
  rw[Tb.spec,Tb.spec,h.bAt,h.last,h.last,ht];split
  ·rfl
  ·split
   ·rfl
   ·rename_i k e _
    have:=h.tok t (t.ends e).toNat (q.bAt+k) (lnT xs (q.bAt+k)) (clT xs (q.bAt+k))
    rw[this.2,this.1.opn,ih this.1]
theorem Rs.tok_at (r:Rs)(t:Tb)(rule a l c:Nat)(h:(r.tok t rule a l c).1.opn=true):(r.tok t rule a l c).1.bAt=a∧(r.tok t rule a l c).1.state=(r.tok t rule a l c).1.top t:=by
 unfold Rs.tok at h ⊢;split at h
 ·cases h
 ·split at h
  ·cases h
  ·rename_i h1 h2
   rw[if_neg h1,if_neg h2];exact⟨rfl,rfl⟩
theorem zKJ (t:Tb)(xs:List Nat)(n:Nat):∀(m:Nat) (r:Rs),r.bAt<=xs.length->xs.length<r.bAt+n->xs.length<r.bAt+m->t.spec xs n r=t.spec xs m r:=by
 induction n with
 |zero=>intro m r h1 h2;omega
 |succ n ih=>
  intro m r h1 h2 h3;cases m with
  |zero=>omega
  |succ m=>
   rw[Tb.spec,Tb.spec];split
   ·rfl
   ·split
    ·rfl
    ·rename_i k e he
     have hp:=zDi t _ _ _ _ he;rw[List.length_drop] at hp;cases ho:(r.tok t (t.ends e).toNat (r.bAt+k) (lnT xs (r.bAt+k)) (clT xs (r.bAt+k))).1.opn with
     |false=>rfl
     |true=>
      have hb:=(r.tok_at t _ _ _ _ ho).1;rw[if_pos rfl,if_pos rfl,ih m _ (by omega) (by omega) (by omega)]
def Tb.sp (t:Tb)(xs:List Nat)(r:Rs):List Ev:=t.spec xs (xs.length+1) r
theorem zHJ (t:Tb)(xs:List Nat)(r:Rs)(hb:r.bAt<=xs.length):t.sp xs r=if r.bAt=xs.length then[r.lastEv 2] else match t.best (r.top t) (xs.drop r.bAt) with
  |none=>[r.lastEv 3]
  |some (k,e)=>(r.tok t (t.ends e).toNat (r.bAt+k) (lnT xs (r.bAt+k)) (clT xs (r.bAt+k))).2++if(r.tok t (t.ends e).toNat (r.bAt+k) (lnT xs (r.bAt+k)) (clT xs (r.bAt+k))).1.opn then t.sp xs (r.tok t (t.ends e).toNat (r.bAt+k) (lnT xs (r.bAt+k)) (clT xs (r.bAt+k))).1 else[]:=by
 unfold Tb.sp;rw[Tb.spec];split
 ·rfl
 ·split
  ·rfl
  ·rename_i k e he
   have hp:=zDi t _ _ _ _ he;rw[List.length_drop] at hp;cases ho:(r.tok t (t.ends e).toNat (r.bAt+k) (lnT xs (r.bAt+k)) (clT xs (r.bAt+k))).1.opn with
   |false=>rfl
   |true=>
    have hb:=(r.tok_at t _ _ _ _ ho).1;rw[if_pos rfl,if_pos rfl,zKJ t xs xs.length (xs.length+1) _ (by omega) (by omega) (by omega)]
def Foll (t:Tb)(xs:List Nat)(r:Rs)(f:Rs×List Ev):Prop:=t.sp xs r=f.2++if f.1.opn then t.sp xs f.1 else[]
theorem Foll.stay (h:r.Like q)(ho:r.opn=true):Foll t xs q (r,[]):=by
 show t.sp xs q=[]++if r.opn then t.sp xs r else[]
 rw[ho,if_pos rfl];exact(h.spec _).symm
theorem Foll.then {f g:Rs×List Ev}(h:Foll t xs r f)(ho:f.1.opn=true)(h2:Foll t xs f.1 g):Foll t xs r (g.1,f.2++g.2):=by
 unfold Foll at *;rw[ho,if_pos rfl] at h;rw[h,h2,gV]
theorem Foll.like {f:Rs×List Ev}(h:Foll t xs r f)(hl:r.Like q):Foll t xs q f:=by
 unfold Foll at *;rw[<-h];exact(hl.spec _).symm
theorem Foll.tok (hl:r.Like q)(hb:q.bAt<xs.length)(k e:Nat)(h:t.best (q.top t) (xs.drop q.bAt)=some (k,e))(rule a l c:Nat)(h1:rule=(t.ends e).toNat)(h2:a=q.bAt+k)(h3:l=lnT xs a)(h4:c=clT xs a):Foll t xs q (r.tok t rule a l c):=by
 unfold Foll;rw[zHJ t xs q (by omega),if_neg (by omega),h];subst h1 h2 h3 h4;have:=hl.tok t (t.ends e).toNat (q.bAt+k) (lnT xs (q.bAt+k)) (clT xs (q.bAt+k))
 show _++(if _ then _ else _)=_;rw[this.2,this.1.opn]
 congr 1
 split
 ·exact(this.1.spec _).symm
 ·rfl
theorem Foll.no (hl:r.Like q)(hb:q.bAt<xs.length)(h:t.best (q.top t) (xs.drop q.bAt)=none):Foll t xs q ({r with opn:=false},[r.lastEv 3]):=by
 unfold Foll;rw[zHJ t xs q (by omega),if_neg (by omega),h];show[q.lastEv 3]=[r.lastEv 3]++[];rw[hl.last];rfl
theorem Foll.fin (hl:r.Like q)(hb:q.bAt=xs.length):Foll t xs q ({r with opn:=false},[r.lastEv 2]):=by
 unfold Foll;rw[zHJ t xs q (by omega),if_pos hb];show[q.lastEv 2]=[r.lastEv 2]++[];rw[hl.last];rfl
end
section
variable {t:Tb} {xs:List Nat} {r:Rs}
def Tb.Dead (t:Tb):Prop:=∀q,q<t.nst->t.live q=false->t.ends q=-1∧∀cs:List Nat,(∀c∈cs,c<256)->t.best q cs=none
theorem zGt (xs:List Nat)(n:Nat)(h:n<xs.length):xs.drop n=xs.getD n 0::xs.drop (n+1):=by
 rw[List.drop_eq_getElem_cons h,lW,lV h];rfl
theorem zKo {xs:List Nat}(hx:∀c∈xs,c<256)(n:Nat):∀c∈xs.drop n,c<256:=fun c h=>hx c (List.mem_of_mem_drop h)
def Rs.rec_ (r:Rs)(e:Nat):Option (Nat×Nat):=if r.length=0 then none else some (r.length,e)
def Rs.OE (t:Tb)(xs:List Nat)(r:Rs):Prop:=∃e,(r.length=0∨t.ends e=r.rule)∧t.best (r.top t) (xs.drop r.bAt)=(sh r.taken (t.best r.state (xs.drop (r.bAt+r.taken)))).or (r.rec_ e)
theorem Rs.OE.new (h1:r.length=0)(h2:r.taken=0)(h3:r.state=r.top t):r.OE t xs:=by
 refine⟨0,.inl h1,?_⟩;unfold Rs.rec_;rw[h1,h2,h3,if_pos rfl,zGJ,Nat.add_zero,Option.or_none]
theorem Rs.OE.ate {P:Nat}{r:Rs}(h:r.OE t xs)(hI:r.OI xs P)(hl:r.taken<r.count):((r.ate t).marked t).OE t xs:=by
 obtain⟨e,h1,h2⟩:=h;have hp:=hI.hp;have hn:=hI.pn;have hc:=hI.by_ r.taken hl;rw[zGt xs (r.bAt+r.taken) (by omega)] at h2;have hs:(r.ate t).state=t.go r.state (xs.getD (r.bAt+r.taken) 0):=by rw[<-hc];rfl
 have h3:(r.ate t).taken=r.taken+1:=rfl;unfold Rs.marked;split
 ·rename_i he
  rw[hs] at he;refine⟨e,h1,?_⟩;show t.best (r.top t) (xs.drop r.bAt)=(sh (r.taken+1) (t.best (r.ate t).state (xs.drop (r.bAt+(r.taken+1))))).or (r.rec_ e);rw[h2,zBt t _ _ _ (.inl he),zLX,hs,Nat.add_comm 1,Nat.add_assoc]
 ·rename_i he
  refine⟨(r.ate t).state,.inr rfl,?_⟩;rw[hs] at he;show t.best (r.top t) (xs.drop r.bAt)=(sh (r.taken+1) (t.best (r.ate t).state (xs.drop (r.bAt+(r.taken+1))))).or (if r.taken+1=0 then none else some (r.taken+1,(r.ate t).state));rw[h2,if_neg (Nat.succ_ne_zero _),hs,<-Nat.add_assoc];cases hb:t.best (t.go r.state (xs.getD (r.bAt+r.taken) 0)) (xs.drop (r.bAt+r.taken+1)) with
  |some p=>
   rw[zBt t _ _ _ (.inr (by rw[hb];exact Option.some_ne_none _)),hb,zLX,Nat.add_comm 1];rfl
  |none=>
   rw[zFy t _ _ _ he hb];show some (1+r.taken,_)=some (r.taken+1,_);rw[Nat.add_comm]
theorem Rs.long_foll {P:Nat}{r:Rs}(h:r.OE t xs)(hI:r.OI xs P)(hl:r.length<=r.count)(hc:1<=r.count)(hb:t.best r.state (xs.drop (r.bAt+r.taken))=none):Foll t xs r (r.long t)∧((r.long t).1.opn=true->(r.long t).1.OE t xs):=by
 obtain⟨e,h1,h2⟩:=h;have hp:=hI.hp;have hn:=hI.pn;rw[hb] at h2;have h3:t.best (r.top t) (xs.drop r.bAt)=r.rec_ e:=h2;unfold Rs.rec_ at h3;unfold Rs.long;split
 ·rename_i h0
  rw[if_pos h0] at h3;exact⟨Foll.no (r:=r) (q:=r) ⟨rfl,rfl,rfl,rfl,rfl,rfl⟩ (by omega) h3,fun h=>by cases h⟩
 ·rename_i h0
  rw[if_neg h0] at h3;obtain⟨e1,e2⟩:=hI.line_to r.length hl;refine⟨Foll.tok (r:=r.cut) (q:=r) ⟨rfl,rfl,rfl,rfl,rfl,rfl⟩ (by omega) r.length e h3 _ _ _ _ (by rw[h1.resolve_left h0]) rfl e1 e2,fun ho=>?_⟩;obtain⟨_,_,⟨o3,o4⟩,_⟩:=r.cut.tok_opn t r.rule.toNat (r.bAt+r.length) (r.lineTo r.length) (r.colTo r.length)
  exact Rs.OE.new o4 o3 (r.cut.tok_at t _ _ _ _ ho).2
theorem Rs.held_foll {xs:List Nat}{P:Nat}{r:Rs}(ok:t.Ok)(hd:t.Dead)(hx:∀c∈xs,c<256)(h:r.OE t xs)(hI:r.OI xs P)(hO:r.Oth t P)(hl:r.taken<r.count)(ho:r.opn=true):Foll t xs r (r.heldStep t)∧((r.heldStep t).1.opn=true->(r.heldStep t).1.OE t xs):=by
 have hM:=(r.ate t).marked_oth t P ok (r.ate_oth t P ok hO hl);have hE:=h.ate hI hl;have hQ:((r.ate t).marked t).OI xs P∧((r.ate t).marked t).Like r∧((r.ate t).marked t).opn=true∧((r.ate t).marked t).count=r.count:=by
  unfold Rs.marked;split <;> exact⟨⟨hI.lc,hI.hp,hI.pn,hI.by_⟩,⟨rfl,rfl,rfl,rfl,rfl,rfl⟩,ho,rfl⟩
 unfold Rs.heldStep Rs.judged;generalize (r.ate t).marked t=q at *;split
 ·exact⟨Foll.stay hQ.2.1 hQ.2.2.1,fun _=>hE⟩
 ·rename_i hv
  obtain⟨g1,g2⟩:=Rs.long_foll hE hQ.1 (lY hM.len hM.tak) (by have:=hQ.2.2.2;omega) ((hd q.state hM.ok.state (by simpa using hv)).2 _ (zKo hx _));exact⟨g1.like hQ.2.1,g2⟩
theorem Rs.heldN_foll {xs:List Nat}{P:Nat}{r:Rs}(ok:t.Ok)(hd:t.Dead)(hx:∀c∈xs,c<256)(h:r.OE t xs)(hI:r.OI xs P)(hO:r.Oth t P)(ho:r.opn=true)(n:Nat):Foll t xs r (r.heldN t n)∧((r.heldN t n).1.opn=true->(r.heldN t n).1.OE t xs):=by
 induction n with
 |zero=>exact⟨Foll.stay ⟨rfl,rfl,rfl,rfl,rfl,rfl⟩ ho,fun _=>h⟩
 |succ n ih=>
  rw[Rs.heldN];split
  ·rename_i hc
   obtain⟨g1,g2⟩:=Rs.held_foll ok hd hx (ih.2 hc.2) ((Rs.heldN_goes t ok hI hO ho n).2 hc.2) (r.heldN_inv t P ok hO n).1 hc.1 hc.2;exact⟨ih.1.then hc.2 g1,g2⟩
  ·exact ih
theorem Rs.heldAll_all {P:Nat}{r:Rs}(ok:t.Ok)(hO:r.Oth t P)(ho:(r.heldAll t).1.opn=true):(r.heldAll t).1.taken=(r.heldAll t).1.count:=by
 have h1:=(r.heldN_inv t P ok hO (r.todo+1))
 have h2:¬((r.heldAll t).1.taken<(r.heldAll t).1.count∧(r.heldAll t).1.opn=true):=by
  rcases h1.2.2.2.2.1 with h|h
  ·exact h
  ·omega
 have h3:(r.heldAll t).1.taken<=(r.heldAll t).1.count:=h1.1.tak;rcases Nat.lt_or_ge (r.heldAll t).1.taken (r.heldAll t).1.count with h|h
 ·exact absurd ⟨h,ho⟩ h2
 ·omega
theorem Rs.endN_foll {xs:List Nat}{r:Rs}(ok:t.Ok)(hd:t.Dead)(hx:∀c∈xs,c<256)(h:r.OE t xs)(hI:r.OI xs xs.length)(hO:r.Oth t xs.length)(ho:r.opn=true)(ha:r.taken=r.count)(n:Nat):Foll t xs r (r.endN t n)∧((r.endN t n).1.opn=true->(r.endN t n).1.OE t xs∧(r.endN t n).1.taken=(r.endN t n).1.count):=by
 induction n with
 |zero=>exact⟨Foll.stay ⟨rfl,rfl,rfl,rfl,rfl,rfl⟩ ho,fun _=>⟨h,ha⟩⟩
 |succ n ih=>
  rw[Rs.endN];split
  ·rename_i hc
   have hO2:=(r.endN_inv t _ ok hO n).1;have hI2:=(Rs.endN_goes t ok hI hO ho n).2 hc.2;obtain⟨i1,i2⟩:=ih;obtain⟨i3,i4⟩:=i2 hc.2;generalize r.endN t n=f at *;have hL:=f.1.long_inv t _ ok hO2 hc.2 hc.1;have hp:=hI2.hp;obtain⟨g1,g2⟩:=Rs.long_foll i3 hI2 (lY hO2.len hO2.tak) hc.1 (by rw[List.drop_of_length_le (by omega)];rfl);have g3:=(Rs.long_goes t hI2 (lY hO2.len hO2.tak) hc.2).2;cases h1:(f.1.long t).1.opn with
   |true=>
    obtain⟨k1,k2⟩:=Rs.heldN_foll ok hd hx (g2 h1) (g3 h1) hL.1 h1 ((f.1.long t).1.todo+1);exact⟨i1.then hc.2 (g1.then h1 k1),fun hx=>⟨k2 hx,Rs.heldAll_all ok hL.1 hx⟩⟩
   |false=>
    have e:(f.1.long t).1.heldAll t=((f.1.long t).1,[]):=by
     refine Rs.heldN_stop _ t 0 _ ?_ lX;rintro⟨_,hx⟩;have hx':(f.1.long t).1.opn=true:=hx;rw[h1] at hx';cases hx'
    unfold Rs.endO;rw[e,dV];exact⟨i1.then hc.2 g1,fun hx=>by have hx':(f.1.long t).1.opn=true:=hx;rw[h1] at hx';cases hx'⟩
  ·exact ih
def FolO (t:Tb)(xs:List Nat)(r:Rs)(f:Rs×List Ev):Prop:=Foll t xs r f∨f.1.opn=false∧t.hold<xs.length∧∃es e rest,f.2=es++[e]∧e.kind=6∧t.sp xs r=es++rest
theorem FolO.then {f g:Rs×List Ev}(h:Foll t xs r f)(ho:f.1.opn=true)(h2:FolO t xs f.1 g):FolO t xs r (g.1,f.2++g.2):=by
 rcases h2 with h2|⟨o,oh,es,e,rest,h3,h4,h5⟩
 ·exact .inl (h.then ho h2)
 ·refine .inr ⟨o,oh,f.2++es,e,rest,by show f.2++g.2=_;rw[h3,gV],h4,?_⟩
  unfold Foll at h;rw[h,ho,if_pos rfl,h5,gV]
theorem Rs.feedO_foll {xs:List Nat}(ok:t.Ok)(hs:t.stream=false)(hd:t.Dead)(hx:∀c∈xs,c<256)(cs:List Nat):∀{r:Rs} {P:Nat},r.OE t xs->r.OI xs P->r.Oth t P->r.opn=true->r.taken=r.count->(∀j,j<cs.length->cs.getD j 0=xs.getD (P+j) 0)->P+cs.length<=xs.length->(∀c∈cs,c<256)->FolO t xs r (Rs.feed t cs r)∧((Rs.feed t cs r).1.opn=true->Foll t xs r (Rs.feed t cs r)∧(Rs.feed t cs r).1.OE t xs∧(Rs.feed t cs r).1.taken=(Rs.feed t cs r).1.count):=by
 induction cs with
 |nil=>intro r P h hI hO ho ha _ _ _;exact⟨.inl (Foll.stay ⟨rfl,rfl,rfl,rfl,rfl,rfl⟩ ho),fun _=>⟨Foll.stay ⟨rfl,rfl,rfl,rfl,rfl,rfl⟩ ho,h,ha⟩⟩
 |cons c cs ih=>
  intro r P h hI hO ho ha hj hP hb;rw[gZ] at hP;have hG:r.Good t P:=by unfold Rs.Good;rw[hs];exact hO
  have hS:r.Sure xs t P:=by unfold Rs.Sure;rw[hs];exact hI
  have hc:=hj 0 (Nat.succ_pos _);have hb0:=hb c gW;obtain⟨_,g2⟩:=Rs.eat_goes t ok hS hG c hc (by omega) hb0 ho;have hG2:=(r.eat_inv t P c ok hG hb0 ho).1;have he:r.eat t c=r.takeO t c:=by unfold Rs.eat;rw[hs];rfl
  rw[Rs.feed,if_pos ho];rw[he] at g2 hG2 ⊢;unfold Rs.takeO at g2 hG2 ⊢;split at g2
  ·rename_i hh
   rw[if_pos hh,Rs.feed_shut t cs _ rfl,dV];exact⟨.inr ⟨rfl,by have:=hI.hp;omega,[],r.lastEv 6,t.sp xs r,rfl,rfl,rfl⟩,fun hx=>by cases hx⟩
  ·rename_i hh
   rw[if_neg hh] at hG2;rw[if_neg hh];have h64:r.count<64:=by have:=ok.hold;omega
   have hp:=hI.hp;have hOa:=r.added_oth t P c hO hb0 h64;have hIa:(r.added c).OI xs (P+1):=⟨hI.lc,congrArg (·+1) hI.hp,by omega,Rs.added_by c r.bAt hI.by_ (by rw[hI.hp];exact hc) h64⟩
   obtain⟨k1,k2⟩:=Rs.heldN_foll (r:=r.added c) ok hd hx h hIa hOa ho ((r.added c).todo+1);have k1':Foll t xs r ((r.added c).heldAll t):=k1.like ⟨rfl,rfl,rfl,rfl,rfl,rfl⟩;cases h1:((r.added c).heldAll t).1.opn with
   |true=>
    have hI2:=g2 h1;unfold Rs.Sure at hI2;rw[hs] at hI2;unfold Rs.Good at hG2;rw[hs] at hG2;obtain⟨m1,m2⟩:=ih (k2 h1) hI2 hG2 h1 (Rs.heldAll_all ok hOa h1) (fun j hl=>by have:=hj (j+1) (Nat.succ_lt_succ hl);rw[show P+(j+1)=P+1+j by omega] at this;exact this) (by omega) fun x hx=>hb x (List.mem_cons_of_mem _ hx);exact⟨FolO.then k1' h1 m1,fun hx=>⟨k1'.then h1 (m2 hx).1,(m2 hx).2⟩⟩
   |false=>
    rw[Rs.feed_shut t cs _ h1,dV];exact⟨.inl k1',fun hx=>by have hx':((r.added c).heldAll t).1.opn=true:=hx;rw[h1] at hx';cases hx'⟩
theorem zKl (t:Tb)(ft:t.Fine)(hs:t.stream=false)(hd:t.Dead)(p:Nat)(s:ByteArray):t.events p s=t.sp (nats s) (Rs.born t p)∨t.hold<s.size∧∃es e rest,t.events p s=es++[e]∧e.kind=6∧t.sp (nats s) (Rs.born t p)=es++rest:=by
 have hx:=zCb s;have hI:(Rs.born t p).OI (nats s) 0:=⟨⟨rfl,rfl,lX⟩,rfl,lX,fun j hj=>absurd hj (Nat.not_lt_zero _)⟩
 have hG:=Rs.born_good t p ft;have hS:(Rs.born t p).Sure (nats s) t 0:=by unfold Rs.Sure;rw[hs];exact hI
 have hO:(Rs.born t p).Oth t 0:=by have h:=hG;unfold Rs.Good at h;rw[hs] at h;exact h
 obtain⟨_,g2⟩:=Rs.feed_goes t ft.ok (nats s) hS hG rfl ⟨rfl,rfl,lX⟩ (fun j _=>by rw[Nat.zero_add]) (by rw[Nat.zero_add];exact lQ) hx;obtain⟨f1,f2⟩:=Rs.feedO_foll ft.ok hs hd hx (nats s) (Rs.OE.new rfl rfl rfl) hI hO rfl rfl (fun j _=>by rw[Nat.zero_add]) (by rw[Nat.zero_add];exact lQ) hx;have hG2:=(Rs.feed_inv t ft.ok (nats s) (Rs.born t p) 0 hG hx).1;rw[Nat.zero_add] at g2 hG2;unfold Tb.events;generalize Rs.feed t (nats s) (Rs.born t p)=F at *;cases h1:F.1.opn with
 |false=>
  have e:F.1.shut t=(F.1,[]):=by unfold Rs.shut;rw[h1];rfl
  rw[e,dV];rcases f1 with f1|⟨_,oh,es,e,rest,h3,h4,h5⟩
  ·unfold Foll at f1
   rw[h1] at f1;exact .inl (by rw[f1];exact(dV _).symm)
  ·exact .inr ⟨by rw[vG] at oh;exact oh,es,e,rest,h3,h4,h5⟩
 |true=>
  obtain⟨f3,f4,f5⟩:=f2 h1;have hI2:=g2 h1;unfold Rs.Sure at hI2;rw[hs] at hI2;unfold Rs.Good at hG2;rw[hs] at hG2;obtain⟨k1,k2⟩:=Rs.endN_foll ft.ok hd hx f4 hI2 hG2 h1 f5 (F.1.count+2);have hi:=(F.1.endN_inv t _ ft.ok hG2 (F.1.count+2)).2.2.2.1;have hI3:=(Rs.endN_goes t ft.ok hI2 hG2 h1 (F.1.count+2)).2;have o1:xB F.1.opn<=1:=by unfold xB;split <;> omega
  left
  have key:Foll t (nats s) F.1 (F.1.shut t)∧(F.1.shut t).1.opn=false:=by
   refine⟨?_,(F.1.shut_end t _ ft.ok (by unfold Rs.Good;rw[hs];exact hG2) h1).1⟩;unfold Rs.shut;rw[if_pos h1,hs];show Foll t (nats s) F.1 (F.1.closeO t);unfold Rs.closeO Rs.endAll;generalize F.1.endN t (F.1.count+2)=d at *;cases h2:d.1.opn with
   |false=>rw[if_neg (by decide)];exact k1
   |true=>
    rw[if_pos rfl];have hp:=(hI3 h2).hp;refine k1.then h2 (Foll.fin (r:=d.1) (q:=d.1) ⟨rfl,rfl,rfl,rfl,rfl,rfl⟩ ?_)
    have:d.1.count=0:=by
     rcases hi with hi|hi
     ·rw[h2] at hi
      exact Nat.eq_zero_of_not_pos fun hx=>hi ⟨hx,rfl⟩
     ·omega
    omega
  have:=f3.then h1 key.1
  unfold Foll at this;rw[show ((F.1.shut t).1,F.2++(F.1.shut t).2).1.opn=false from key.2] at this;rw[this];exact(dV _).symm
end
section
variable (t:Tb) (xs:List Nat) (P e:Nat)
def val (K:Nat)(ds:List Nat):Nat:=ds.foldl (fun a d=>a*K+d) 0
theorem zEG (K:Nat)(ds:List Nat)(d:Nat):val K (ds++[d])=val K ds*K+d:=by
 unfold val;rw[List.foldl_append];rfl
theorem zLS (K:Nat)(bs:List Nat):∀a,bs.foldl (fun a d=>a*K+d) a=a*K^bs.length+val K bs:=by
 induction bs with
 |nil=>intro a;simp[val]
 |cons b bs ih=>
  intro a;unfold val;rw[List.foldl_cons,List.foldl_cons,ih,ih (0*K+b),gZ,Nat.pow_succ,Nat.zero_mul,Nat.zero_add,Nat.add_mul,Nat.add_assoc,Nat.mul_assoc,Nat.mul_comm K]
theorem zGB (K:Nat)(xs bs:List Nat):val K (xs++bs)=val K xs*K^bs.length+val K bs:=by
 unfold val;rw[List.foldl_append,zLS];rfl
theorem zIP (K:Nat)(bs:List Nat)(h:∀b∈bs,b<K):val K bs<K^bs.length:=by
 induction bs with
 |nil=>exact Nat.one_pos
 |cons b bs ih=>
  have h1:=ih fun x hx=>h x (List.mem_cons_of_mem _ hx);have h2:=h b gW;have e:val K (b::bs)=b*K^bs.length+val K bs:=by
   have:=zGB K [b] bs;rw[show val K [b]=b by simp[val]] at this;exact this
  rw[e,gZ,Nat.pow_succ,Nat.mul_comm (K^bs.length)]
  calc b*K^bs.length+val K bs<b*K^bs.length+K^bs.length:=Nat.add_lt_add_left h1 _
   _=(b+1)*K^bs.length:=by rw[Nat.add_mul,Nat.one_mul]
   _<=K*K^bs.length:=Nat.mul_le_mul_right _ h2
theorem zMY (K:Nat)(xs bs:List Nat)(h:∀b∈bs,b<K):val K (xs++bs)%K^bs.length=val K bs:=by
 rw[zGB,Nat.mul_comm,Nat.mul_add_mod,Nat.mod_eq_of_lt (zIP K bs h)]
def Tb.digs (t:Tb)(cs:List Nat)(m:Nat):List Nat:=(cs.map t.kind++List.replicate m t.count).take m
def Tb.came (t:Tb)(xs:List Nat)(P e:Nat):List Nat:=(xs.take P).map t.kind++List.replicate e t.count
theorem zLz (P e m n:Nat)(h:n+m=P+e)(hP:P<=xs.length)(he:e=0∨P=xs.length)(hn:n<=P):(t.came xs P e).drop n=t.digs (xs.drop n) m:=by
 unfold Tb.came Tb.digs;rw[List.drop_append_of_le_length (by rw[kV,List.length_take];omega),<-List.map_drop];rcases he with rfl|rfl
 ·rw[List.replicate_zero,dV,List.drop_take,List.take_append_of_le_length (by rw[kV,List.length_drop];omega),<-List.map_take,show P-n=m by omega]
 ·rw[List.take_of_length_le lQ,List.take_append,List.take_of_length_le (by rw[kV,List.length_drop];omega),kV,List.length_drop,List.take_replicate,show min (m-(xs.length-n)) m=e by omega]
theorem zMI (hP:P<=xs.length):(t.came xs P e).length=P+e:=by
 unfold Tb.came;rw[kX,kV,List.length_take,List.length_replicate,Nat.min_eq_left hP]
theorem zNB (ok:t.Ok)(xs:List Nat)(hx:∀c∈xs,c<256)(P e:Nat):∀d∈t.came xs P e,d<t.count+1:=by
 intro d hd;rcases kU.1 hd with hd|hd
 ·obtain⟨c,hc,rfl⟩:=List.mem_map.1 hd
  exact Nat.lt_succ_of_lt (ok.kind c (hx c (List.mem_of_mem_take hc)))
 ·rw[(List.mem_replicate.1 hd).2]
  exact Nat.lt_succ_self _
structure Tb.Sharp (t:Tb):Prop where
 dead:t.Dead
 rows:t.rows=(t.count+1)^t.ahead
 yes:∀q,q<t.nst->∀cs:List Nat,(∀c∈cs,c<256)->t.longer (val (t.count+1) (t.digs cs t.ahead)) q=true->t.best q cs≠none
 no:∀q,q<t.nst->t.ends q≠-1->∀cs:List Nat,(∀c∈cs,c<256)->t.longer (val (t.count+1) (t.digs cs t.ahead)) q=false->t.best q cs=none
structure Rs.SE (t:Tb)(xs:List Nat)(P e:Nat)(r:Rs):Prop where
 best:t.best (r.top t) (xs.drop r.bAt)=sh (r.hAt-r.bAt) (t.best r.state (xs.drop r.hAt))
 ahd:r.ahead=val (t.count+1) (t.came xs P e)%t.rows
theorem Rs.step_foll {t:Tb}{xs:List Nat}{P e:Nat}{r:Rs}(ok:t.Ok)(hT:t.Sharp)(hx:∀c∈xs,c<256)(h:r.SE t xs P e)(hI:r.SI xs P)(hk:r.Ok t)(hc:1<=r.count)(ho:r.opn=true)(hh:r.hAt+1+t.ahead=P+e)(he:e=0∨P=xs.length):Foll t xs r (r.step t)∧((r.step t).1.opn=true->(r.step t).1.SE t xs P e):=by
 have h0:=hI.by_ 0 hc;rw[Nat.add_zero,Nat.add_zero,Nat.mod_eq_of_lt hk.first] at h0;have hp:=hI.hp;have hn:=hI.pn;have hb:=hI.bh;obtain⟨hq,e1,e2,e3⟩:=Rs.took_si t hI hk.first hc
 have hkq:=r.took_ok t ok hk;have hs:(r.took t).state=t.go r.state (xs.getD r.hAt 0):=by rw[<-h0];rfl
 have hlike:(r.took t).Like r:=⟨rfl,rfl,rfl,rfl,rfl,rfl⟩
 have hah:(r.took t).ahead=val (t.count+1) (t.digs (xs.drop (r.hAt+1)) t.ahead):=by
  show r.ahead=_;have hcd:=zLz t xs P e t.ahead (r.hAt+1) hh hn he (by omega);have hln:((t.came xs P e).drop (r.hAt+1)).length=t.ahead:=by rw[List.length_drop,zMI t xs P e hn];omega
  have hv:=zMY (t.count+1) ((t.came xs P e).take (r.hAt+1)) ((t.came xs P e).drop (r.hAt+1)) fun d hd=>zNB t ok xs hx P e d (List.mem_of_mem_drop hd);rw[List.take_append_drop,hln,<-hT.rows,hcd] at hv;rw[h.ahd,hv]
 have hB:=h.best;rw[zGt xs r.hAt (by omega),<-e1] at hB;have ht:(r.took t).top t=r.top t:=rfl;rw[<-ht] at hB;have hfs:=(r.took t).fin_same t;have hrah:(r.took t).ahead=val (t.count+1) (t.came xs P e)%t.rows:=h.ahd;have hdr:=zKo hx (r.hAt+1);unfold Rs.step;generalize r.took t=q at *;unfold Rs.fin;split
 ·rename_i hend
  rw[hs] at hend;have hbn:=hT.no _ (by rw[<-hs];exact hkq.state) hend.1 _ hdr (by rw[<-hah];exact hend.2);rw[zFy t _ _ _ hend.1 hbn] at hB;have hB':t.best (q.top t) (xs.drop q.bAt)=some (1+(r.hAt-q.bAt),t.go r.state (xs.getD r.hAt 0)):=hB;have hf:=Foll.tok (r:=q) (q:=q) ⟨rfl,rfl,rfl,rfl,rfl,rfl⟩ (by omega) _ _ hB' (t.ends q.state).toNat q.hAt q.hLine q.hCol (by rw[hs]) (by omega) hq.hl hq.hc;refine⟨hf.like hlike,fun hop=>?_⟩;obtain⟨a1,a2⟩:=q.tok_at t _ _ _ _ hop;have a3:=q.tok_same t (t.ends q.state).toNat q.hAt q.hLine q.hCol;refine⟨?_,by rw[a3.ahead];exact hrah⟩;rw[a1,a2,a3.hAt,Nat.sub_self,zGJ]
 ·rename_i hne
  split
  ·rename_i hv
   obtain⟨d1,d2⟩:=hT.dead _ hkq.state hv;rw[hs] at d1 d2;rw[zBt t _ _ _ (.inl d1),d2 _ hdr] at hB;exact⟨(Foll.no (r:=q) (q:=q) ⟨rfl,rfl,rfl,rfl,rfl,rfl⟩ (by omega) hB).like hlike,fun h=>by cases h⟩
  ·refine⟨Foll.stay hlike (by rw[e3];exact ho),fun _=>⟨?_,hrah⟩⟩
   have hon:t.ends (t.go r.state (xs.getD r.hAt 0))=-1∨t.best (t.go r.state (xs.getD r.hAt 0)) (xs.drop (r.hAt+1))≠none:=by
    by_cases h1:t.ends (t.go r.state (xs.getD r.hAt 0))=-1
    ·exact .inl h1
    ·right
     refine hT.yes _ (by rw[<-hs];exact hkq.state) _ hdr ?_;rw[<-hah,<-hs];rw[<-hs] at h1;cases hlg:t.longer q.ahead q.state with
     |true=>rfl
     |false=>exact absurd ⟨h1,hlg⟩ hne
   rw[zBt t _ _ _ hon,zLX] at hB;show t.best (q.top t) (xs.drop q.bAt)=sh (q.hAt-q.bAt) (t.best q.state (xs.drop q.hAt));rw[hB,e2,hs,show 1+(r.hAt-q.bAt)=r.hAt+1-q.bAt by omega]
theorem zCL (a b d:Nat)(h:a=b%t.rows):t.further a d=(b*(t.count+1)+d)%t.rows:=by
 unfold Tb.further;rw[h,Nat.add_mod,Nat.mul_mod,Nat.mod_mod,<-Nat.mul_mod,<-Nat.add_mod]
theorem zIu:t.came xs P (e+1)=t.came xs P e++[t.count]:=by
 unfold Tb.came;rw[List.replicate_succ',gV]
theorem zLA (h:P<xs.length):t.came xs (P+1) 0=t.came xs P 0++[t.kind (xs.getD P 0)]:=by
 unfold Tb.came;rw[List.replicate_zero,dV,dV,List.take_add_one,List.map_append,lV h,lW,lV h];rfl
theorem Rs.feedS_foll {t:Tb}{xs:List Nat}(ok:t.Ok)(hs:t.stream=true)(hT:t.Sharp)(hx:∀c∈xs,c<256)(cs:List Nat):∀{r:Rs} {P:Nat},r.SE t xs P 0->r.SI xs P->r.Str t P->r.opn=true->(∀j,j<cs.length->cs.getD j 0=xs.getD (P+j) 0)->P+cs.length<=xs.length->(∀c∈cs,c<256)->Foll t xs r (Rs.feed t cs r)∧((Rs.feed t cs r).1.opn=true->(Rs.feed t cs r).1.SE t xs (P+cs.length) 0):=by
 induction cs with
 |nil=>intro r P h hI hO ho _ _ _;exact⟨Foll.stay ⟨rfl,rfl,rfl,rfl,rfl,rfl⟩ ho,fun _=>h⟩
 |cons c cs ih=>
  intro r P h hI hO ho hj hP hb;rw[gZ] at hP;have hG:r.Good t P:=by unfold Rs.Good;rw[if_pos hs];exact hO
  have hS:r.Sure xs t P:=by unfold Rs.Sure;rw[if_pos hs];exact hI
  have hc:c=xs.getD P 0:=hj 0 (Nat.succ_pos _);have hb0:=hb c gW;obtain⟨_,g2⟩:=Rs.eat_goes t ok hS hG c hc (by omega) hb0 ho;have hG2:=(r.eat_inv t P c ok hG hb0 ho).1;have he:r.eat t c=r.take t c:=by unfold Rs.eat;rw[if_pos hs]
  have hcn:=hO.cnt;have hp:=hI.hp;have h64:r.count<64:=by have:=ok.ahead;omega
  have hq:((r.added c).looked t (t.kind c)).SI xs (P+1):=Rs.looked_si (Rs.added_si hI c hc (by omega) h64) _;have hk:((r.added c).looked t (t.kind c)).Ok t:=let h:=r.added_ok t c hO.ok hb0 h64;⟨h.d1,h.d4,h.st,h.state,h.first,h.count,h.bytes⟩;have hE:((r.added c).looked t (t.kind c)).SE t xs (P+1) 0:=by
   refine⟨h.best,?_⟩;rw[zLA t xs P (by omega),zEG,<-hc];exact zCL t _ _ _ h.ahd
  have key:Foll t xs r (r.take t c)∧((r.take t c).1.opn=true->(r.take t c).1.SE t xs (P+1) 0):=by
   unfold Rs.take Rs.due;split
   ·rename_i hd
    have hd':t.ahead<r.count+1:=hd;obtain⟨k1,k2⟩:=Rs.step_foll ok hT hx hE hq hk (Nat.succ_le_succ lX) ho (by show r.hAt+1+t.ahead=P+1+0;omega) (.inl rfl);exact⟨k1.like ⟨rfl,rfl,rfl,rfl,rfl,rfl⟩,k2⟩
   ·exact⟨Foll.stay ⟨rfl,rfl,rfl,rfl,rfl,rfl⟩ ho,fun _=>hE⟩
  rw[Rs.feed,if_pos ho];rw[he] at g2 hG2 ⊢;cases h1:(r.take t c).1.opn with
  |true=>
   have hI2:=g2 h1;unfold Rs.Sure at hI2;rw[if_pos hs] at hI2;unfold Rs.Good at hG2;rw[if_pos hs] at hG2;obtain⟨m1,m2⟩:=ih (key.2 h1) hI2 hG2 h1 (fun j hl=>by have:=hj (j+1) (Nat.succ_lt_succ hl);rw[show P+(j+1)=P+1+j by omega] at this;exact this) (by omega) fun x hx=>hb x (List.mem_cons_of_mem _ hx);exact⟨key.1.then h1 m1,fun hx=>by rw[gZ,show P+(cs.length+1)=P+1+cs.length by omega];exact m2 hx⟩
  |false=>
   rw[Rs.feed_shut t cs _ h1,dV];exact⟨key.1,fun hx=>by have hx':(r.take t c).1.opn=true:=hx;rw[h1] at hx';cases hx'⟩
theorem Rs.drain_foll {t:Tb}{xs:List Nat}(ok:t.Ok)(hT:t.Sharp)(hx:∀c∈xs,c<256)(n:Nat):∀{r:Rs} {e:Nat},r.SE t xs xs.length e->r.SI xs xs.length->r.Ok t->r.count=n->r.opn=true->r.hAt+t.ahead=xs.length+e->Foll t xs r (Rs.drain t n r)∧((Rs.drain t n r).1.opn=true->∃e,(Rs.drain t n r).1.SE t xs xs.length e):=by
 induction n with
 |zero=>intro r e h hI hk hc ho hh;exact⟨Foll.stay ⟨rfl,rfl,rfl,rfl,rfl,rfl⟩ ho,fun _=>⟨e,h⟩⟩
 |succ n ih=>
  intro r e h hI hk hc ho hh;have hE:(r.look t).SE t xs xs.length (e+1):=by
   refine⟨h.best,?_⟩;rw[zIu,zEG];exact zCL t _ _ _ h.ahd
  have hI1:(r.look t).SI xs xs.length:=Rs.looked_si hI _;have hk1:=r.look_ok t hk;obtain⟨k1,k2⟩:=Rs.step_foll ok hT hx hE hI1 hk1 (by show 1<=r.count;omega) ho (by show r.hAt+1+t.ahead=_;omega) (.inr rfl);have k1':Foll t xs r ((r.look t).step t):=k1.like ⟨rfl,rfl,rfl,rfl,rfl,rfl⟩;obtain⟨_,g2⟩:=Rs.step_goes t hI1 hk.first (by show 1<=r.count;omega) ho
  have f1:=((r.look t).took t).fin_ok t ok ((r.look t).took_ok t ok hk1);have f2:=r.step_count t;have f3:((r.look t).step t).1.hAt=r.hAt+1:=(((r.look t).took t).fin_same t).hAt;rw[Rs.drain,if_neg (by rw[ho];decide)];cases h1:((r.look t).step t).1.opn with
  |true=>
   obtain⟨m1,m2⟩:=ih (r:=((r.look t).step t).1) (k2 h1) (g2 h1) f1 (by rw[f2,hc];rfl) h1 (by omega);exact⟨k1'.then h1 m1,m2⟩
  |false=>
   have e:Rs.drain t n ((r.look t).step t).1=(((r.look t).step t).1,[]):=by
    cases n with
    |zero=>rfl
    |succ n=>rw[Rs.drain,if_pos h1]
   rw[e,dV];exact⟨k1',fun hx=>by have hx':((r.look t).step t).1.opn=true:=hx;rw[h1] at hx';cases hx'⟩
theorem zM9 (a j:Nat)(h:a=val (t.count+1) (t.came xs P 0)%t.rows):t.aheadTo a j=val (t.count+1) (t.came xs P j)%t.rows:=by
 induction j with
 |zero=>exact h
 |succ j ih=>
  rw[Tb.aheadTo,zIu,zEG];exact zCL t _ _ _ ih
theorem zKk (ft:t.Fine)(hs:t.stream=true)(hT:t.Sharp)(p:Nat)(s:ByteArray):t.events p s=t.sp (nats s) (Rs.born t p):=by
 have hx:=zCb s;have hI:(Rs.born t p).SI (nats s) 0:=⟨⟨rfl,rfl,lX⟩,rfl,rfl,lQ,rfl,lX,fun j hj=>absurd hj (Nat.not_lt_zero _)⟩
 have hG:=Rs.born_good t p ft;have hS:(Rs.born t p).Sure (nats s) t 0:=by unfold Rs.Sure;rw[if_pos hs];exact hI
 have hO:(Rs.born t p).Str t 0:=by have h:=hG;unfold Rs.Good at h;rw[if_pos hs] at h;exact h
 have hE:(Rs.born t p).SE t (nats s) 0 0:=⟨by show _=sh 0 _;rw[zGJ];rfl,by show 0=0%t.rows;rw[Nat.zero_mod]⟩
 obtain⟨_,g2⟩:=Rs.feed_goes t ft.ok (nats s) hS hG rfl ⟨rfl,rfl,lX⟩ (fun j _=>by rw[Nat.zero_add]) (by rw[Nat.zero_add];exact lQ) hx;obtain⟨f1,f2⟩:=Rs.feedS_foll ft.ok hs hT hx (nats s) hE hI hO rfl (fun j _=>by rw[Nat.zero_add]) (by rw[Nat.zero_add];exact lQ) hx;have hG2:=(Rs.feed_inv t ft.ok (nats s) (Rs.born t p) 0 hG hx).1;rw[Nat.zero_add] at g2 hG2 f2;unfold Tb.events;generalize Rs.feed t (nats s) (Rs.born t p)=F at *;cases h1:F.1.opn with
 |false=>
  have e:F.1.shut t=(F.1,[]):=by unfold Rs.shut;rw[h1];rfl
  unfold Foll at f1;rw[h1] at f1;rw[e,f1];rfl
 |true=>
  have hI2:=g2 h1;unfold Rs.Sure at hI2;rw[if_pos hs] at hI2;have hO2:F.1.Str t (nats s).length:=by have h:=hG2;unfold Rs.Good at h;rw[if_pos hs] at h;exact h
  have hE2:=f2 h1;have hcn:=hO2.cnt;have hp:=hI2.hp;have key:Foll t (nats s) F.1 (F.1.shut t)∧(F.1.shut t).1.opn=false:=by
   refine⟨?_,(F.1.shut_end t _ ft.ok hG2 h1).1⟩;unfold Rs.shut;rw[if_pos h1,if_pos hs];obtain⟨k1,k2⟩:=Rs.drain_foll ft.ok hT hx F.1.count (r:=F.1.pad t (t.ahead-F.1.count)) (e:=t.ahead-F.1.count) ⟨hE2.best,zM9 t (nats s) _ _ _ hE2.ahd⟩ (Rs.looked_si hI2 _) (F.1.pad_ok t _ hO2.ok) rfl h1 (by show F.1.hAt+t.ahead=_;omega);obtain⟨_,m2⟩:=Rs.drain_goes t F.1.count (r:=F.1.pad t (t.ahead-F.1.count)) (Rs.looked_si hI2 _) hO2.ok.first rfl h1
   have k1':Foll t (nats s) F.1 (Rs.drain t F.1.count (F.1.pad t (t.ahead-F.1.count))):=k1.like ⟨rfl,rfl,rfl,rfl,rfl,rfl⟩;unfold Rs.closed;simp only;generalize Rs.drain t F.1.count (F.1.pad t (t.ahead-F.1.count))=d at *;unfold Rs.ended;cases h2:d.1.opn with
   |false=>
    rw[if_pos rfl,dV];exact k1'
   |true=>
    obtain⟨n1,n2⟩:=m2 h2;obtain⟨e,n3⟩:=k2 h2;have hp2:=n1.hp;have hb2:=n1.bh;rw[if_neg (by decide)];refine k1'.then h2 ?_
    split
    ·exact Foll.fin (r:=d.1) (q:=d.1) ⟨rfl,rfl,rfl,rfl,rfl,rfl⟩ (by omega)
    ·refine Foll.no (r:=d.1) (q:=d.1) ⟨rfl,rfl,rfl,rfl,rfl,rfl⟩ (by omega) ?_
     rw[n3.best,List.drop_of_length_le (by omega)];rfl
  have:=f1.then h1 key.1
  unfold Foll at this;rw[show ((F.1.shut t).1,F.2++(F.1.shut t).2).1.opn=false from key.2] at this;rw[this];exact(dV _).symm
end
section
variable (t:Tb) (c:Nat) (cs:List Nat) (m:Nat)
theorem zHC (u:Tb)(n:Nat)(h:(u.spreadTo n).2=false):u.spreadTo n=(u,false)∧∀s,s<n->u.live s=true∨u.anyTo s u.count=false:=by
 induction n with
 |zero=>exact⟨rfl,fun s hs=>absurd hs (Nat.not_lt_zero _)⟩
 |succ n ih=>
  unfold Tb.spreadTo at h ⊢;split at h
  ·cases h
  ·rename_i hc
   obtain⟨i1,i2⟩:=ih h;rw[if_neg hc];refine⟨i1,fun s hs=>?_⟩;by_cases e:s=n
   ·subst e
    rw[i1] at hc;cases h1:u.live s with
    |true=>exact .inl rfl
    |false=>
     right
     cases h2:u.anyTo s u.count with
     |false=>rfl
     |true=>
      refine absurd ?_ hc;show(!u.live s&&u.anyTo s u.count)=true;rw[h1,h2];rfl
   ·exact i2 s (by omega)
theorem zHF (u:Tb)(n s:Nat)(h:u.live s=true):(u.spreadTo n).1.live s=true:=by
 induction n with
 |zero=>exact h
 |succ n ih=>
  unfold Tb.spreadTo;split
  ·show(if s=n then true else(u.spreadTo n).1.live s)=true
   split
   ·rfl
   ·exact ih
  ·exact ih
theorem zMn (n s:Nat)(h:t.live s=true):(t.itr n).live s=true:=by
 induction n with
 |zero=>exact h
 |succ n ih=>exact zHF _ _ _ ih
theorem zNF (s n:Nat)(h:t.anyTo s n=false)(k:Nat)(hk:k<n):t.live (t.next s k)=false:=by
 induction n with
 |zero=>omega
 |succ n ih=>
  rw[Tb.anyTo,Bool.or_eq_false_iff] at h;by_cases e:k=n
  ·rw[e];exact h.2
  ·exact ih h.1 (by omega)
theorem Tb.dead_of {t:Tb}(ok:t.Ok)(hl:∀s,s<t.nst->t.live s=true∨∀k,k<t.count->t.live (t.next s k)=false)(he:∀s,t.live s=false->t.ends s=-1):t.Dead:=by
 intro q hq hv;refine⟨he q hv,fun cs=>?_⟩;induction cs generalizing q with
 |nil=>intro _;rfl
 |cons c cs ih=>
  intro hc;have hk:=ok.kind c (hc c gW);have h1:t.live (t.go q c)=false:=((hl q hq).resolve_left (by rw[hv];decide)) _ hk;rw[zBt t _ _ _ (.inl (he _ h1)),ih (t.go q c) (ok.next q _ hq hk) h1 fun x hx=>hc x (List.mem_cons_of_mem _ hx)];rfl
theorem zK0 {t0 t:Tb}(n:Nat)(hf:((t0.first.itr n).spreadTo t0.nst).2=false)(ok:t.Ok)(e1:t.nst=t0.nst)(e2:t.count=t0.count)(e3:t.next=t0.next)(e4:t.ends=t0.ends)(e5:t.live=(t0.first.itr n).live):t.Dead:=by
 obtain⟨_,h2⟩:=zHC _ _ hf;have hs:=vU t0.first n
 have s1:(t0.first.itr n).count=t0.count:=by rw[hs];rfl
 have s2:(t0.first.itr n).next=t0.next:=by rw[hs];rfl
 refine Tb.dead_of ok (fun s hs=>?_) (fun s hv=>?_)
 ·rw[e5,e2,e3]
  rcases h2 s (by omega) with h|h
  ·exact .inl h
  ·right
   intro k hk;rw[s1] at h;have:=zNF _ _ _ h k hk;rw[s2] at this;exact this
 ·rw[e5] at hv
  rw[e4];cases h1:decide (t0.ends s=-1) with
  |true=>exact of_decide_eq_true h1
  |false=>
   have h2:t0.first.live s=true:=by
    show(t0.ends s != -1)=true;rw[bne_iff_ne];exact of_decide_eq_false h1
   rw[zMn _ n s h2] at hv;cases hv
theorem zGA (k a:Nat)(h:zF k a<=3000):zF k a=(k+1)^a:=by
 induction a with
 |zero=>rfl
 |succ a ih=>
  rw[zF] at h ⊢;split at h
  ·rename_i h1
   rw[if_pos h1,ih h1,Nat.pow_succ]
  ·rename_i h1
   exact absurd h h1
theorem zMX (k a b:Nat)(hab:a<=b)(h:zF k b<=3000):zF k a<=3000:=by
 induction b with
 |zero=>rw[show a=0 by omega];exact h
 |succ b ih=>
  by_cases e:a=b+1
  ·rw[e];exact h
  ·rw[zF] at h
   split at h
   ·rename_i h1;exact ih (by omega) h1
   ·rename_i h1;exact absurd h h1
theorem zL7 (f:Nat->Bool)(n i:Nat)(hi:i<n):decide (xL f n (i/8)/2^(i%8)%2=1)=f i:=by
 induction n with
 |zero=>omega
 |succ n ih=>
  rw[xL];by_cases e:i=n
  ·subst e
   have h1:=zDx f i (i/8) (by omega) (by omega);rw[show i-8*(i/8)=i%8 by omega] at h1;have h0:0<2^(i%8):=Nat.pow_pos (by decide);cases hf:f i with
   |true=>
    rw[if_pos ⟨rfl,rfl⟩,Nat.add_div_right _ h0,Nat.div_eq_of_lt h1];rfl
   |false=>
    rw[if_neg (by rintro⟨h,_⟩;cases h),Nat.div_eq_of_lt h1];rfl
  ·rw[<-ih (by omega)]
   split
   ·rename_i h
    obtain⟨d,hd⟩:∃d,n%8=i%8+(d+1):=⟨n%8-i%8-1,by omega⟩
    have h0:0<2^(i%8):=Nat.pow_pos (by decide);rw[hd,Nat.pow_add,Nat.add_mul_div_left _ _ h0,Nat.pow_succ,Nat.mul_comm (2^d),Nat.add_mul_mod_self_left]
   ·rfl
def Tb.hit (t:Tb):Nat->List Nat->Bool
 |_,[]=>false
 |q,d::ds=>if d=t.count then false else(t.ends (t.next q d) != -1)||t.hit (t.next q d) ds
theorem zLJ (hn:∀s k,s<t.nst->k<t.count->t.next s k<t.nst)(m:Nat)(hw:zF t.count m<=3000):∀(ds:List Nat) (q:Nat),ds.length=m->(∀d∈ds,d<t.count+1)->q<t.nst->t.aheadF m (val (t.count+1) ds*t.nst+q)=t.hit q ds:=by
 induction m with
 |zero=>
  intro ds q hl _ _;rw[List.length_eq_zero_iff.1 hl];rfl
 |succ m ih=>
  intro ds q hl hd hq;cases ds with
  |nil=>rw[List.length_nil] at hl;omega
  |cons d ds=>
   rw[gZ] at hl;have hl':ds.length=m:=by omega
   have hw':=zMX t.count m (m+1) (by omega) hw;have hp:=zGA t.count m hw';have hv:val (t.count+1) (d::ds)=d*zF t.count m+val (t.count+1) ds:=by
    have:=zGB (t.count+1) [d] ds;rw[show val (t.count+1) [d]=d by simp[val],hl',<-hp] at this;exact this
   have hds:∀x∈ds,x<t.count+1:=fun x hx=>hd x (List.mem_cons_of_mem _ hx);have hlt:=zIP (t.count+1) ds hds;rw[hl',<-hp] at hlt;show t.more (zF t.count m) (t.aheadF m) _=_;rw[hv,Nat.add_mul,Nat.mul_assoc,zJ8 t _ _ d (val (t.count+1) ds) q hlt hq];unfold Tb.willEnd Tb.hit;split
   ·rfl
   ·rename_i hdc
    show((t.ends (t.next q d) != -1)||t.aheadF m (val (t.count+1) ds*t.nst+t.next q d))=_;rw[ih hw' ds _ hl' hds (hn q d hq (by have:=hd d gW;omega))]
theorem zJn (hn:∀s k,s<t.nst->k<t.count->t.next s k<t.nst)(a:Nat)(hw:zF t.count a<=3000)(ds:List Nat)(q:Nat)(hl:ds.length=a)(hd:∀d∈ds,d<t.count+1)(hq:q<t.nst):(t.looking a).longer (val (t.count+1) ds) q=t.hit q ds:=by
 have hlt:=zIP (t.count+1) ds hd;rw[hl,<-zGA t.count a hw] at hlt;have hb:val (t.count+1) ds*t.nst+q<zF t.count a*t.nst:=by
  calc val (t.count+1) ds*t.nst+q<val (t.count+1) ds*t.nst+t.nst:=Nat.add_lt_add_left hq _
   _=(val (t.count+1) ds+1)*t.nst:=by rw[Nat.add_mul,Nat.one_mul]
   _<=zF t.count a*t.nst:=Nat.mul_le_mul_right _ hlt
 rw[<-zLJ t hn a hw ds q hl hd hq];exact zL7 (t.aheadF a) _ _ hb
theorem zGu:t.digs (c::cs) (m+1)=t.kind c::t.digs cs m:=by
 unfold Tb.digs;rw[List.map_cons,List.cons_append,List.take_succ_cons,List.take_append,List.take_append,kV,List.take_replicate,List.take_replicate,show min (m-cs.length) (m+1)=min (m-cs.length) m by omega]
theorem zMF:t.digs [] (m+1)=t.count::t.digs [] m:=by
 unfold Tb.digs;rw[List.map_nil,List.nil_append,List.nil_append,List.replicate_succ,List.take_succ_cons,List.take_replicate]
theorem zIq:(t.digs cs m).length=m:=by
 unfold Tb.digs;rw[List.length_take,kX,List.length_replicate];omega
theorem zNz (ok:t.Ok)(cs:List Nat)(hc:∀c∈cs,c<256)(m:Nat):∀d∈t.digs cs m,d<t.count+1:=by
 intro d hd;rcases kU.1 (List.mem_of_mem_take hd) with hd|hd
 ·obtain⟨c,h,rfl⟩:=List.mem_map.1 hd
  exact Nat.lt_succ_of_lt (ok.kind c (hc c h))
 ·rw[(List.mem_replicate.1 hd).2]
  exact Nat.lt_succ_self _
theorem zMs (ok:t.Ok)(m:Nat):∀(cs:List Nat) (q:Nat),(∀c∈cs,c<256)->t.hit q (t.digs cs m)=true->t.best q cs≠none:=by
 induction m with
 |zero=>
  intro cs q _ h;have:t.digs cs 0=[]:=List.length_eq_zero_iff.1 (zIq t cs 0);rw[this] at h;cases h
 |succ m ih=>
  intro cs q hc h;cases cs with
  |nil=>
   rw[zMF,Tb.hit,if_pos rfl] at h;cases h
  |cons c cs=>
   have hk:=ok.kind c (hc c gW);rw[zGu,Tb.hit,if_neg (by omega)] at h;intro hb;rw[zAy] at hb;cases hb2:t.best (t.go q c) cs with
   |some p=>rw[hb2] at hb;cases hb
   |none=>
    rw[hb2] at hb;have hb':(if t.ends (t.go q c)=-1 then none else some (1,t.go q c))=none:=hb;split at hb'
    ·rename_i he
     have h':((t.ends (t.go q c) != -1)||t.hit (t.go q c) (t.digs cs m))=true:=h;rw[he] at h';exact ih cs _ (fun x hx=>hc x (List.mem_cons_of_mem _ hx)) h' hb2
    ·cases hb'
structure Tb.Fronts (t:Tb)(a:Nat)(F:Nat->Nat->Prop)(N:Nat->Prop):Prop where
 first:∀q,q<t.nst->t.ends q≠-1->F 0 q
 next:∀i q c,c<256->F i q->N (t.go q c)∨t.ends (t.go q c)≠-1∨F (i+1) (t.go q c)
 last:∀q c,c<256->F a q->N (t.go q c)
 none_:∀q,N q->t.ends q=-1∧∀c,c<256->N (t.go q c)
theorem zGe {t:Tb}{a:Nat}{F:Nat->Nat->Prop}{N:Nat->Prop}(h:t.Fronts a F N):∀(cs:List Nat) (q:Nat),(∀c∈cs,c<256)->N q->t.best q cs=none:=by
 intro cs;induction cs with
 |nil=>intro q _ _;rfl
 |cons c cs ih=>
  intro q hc hq;have h1:=(h.none_ q hq).2 c (hc c gW);rw[zBt t _ _ _ (.inl (h.none_ _ h1).1),ih _ (fun x hx=>hc x (List.mem_cons_of_mem _ hx)) h1];rfl
theorem zJz {t:Tb}{a:Nat}{F:Nat->Nat->Prop}{N:Nat->Prop}(ok:t.Ok)(h:t.Fronts a F N):∀(cs:List Nat) (i q:Nat),i<=a->(∀c∈cs,c<256)->F i q->t.hit q (t.digs cs (a-i))=false->t.best q cs=none:=by
 intro cs;induction cs with
 |nil=>intro i q _ _ _ _;rfl
 |cons c cs ih=>
  intro i q hi hc hF hh;have hc0:=hc c gW;have hcs:∀x∈cs,x<256:=fun x hx=>hc x (List.mem_cons_of_mem _ hx);have key:t.ends (t.go q c)=-1∧t.best (t.go q c) cs=none:=by
   by_cases e:i=a
   ·subst e
    have hN:=h.last q c hc0 hF;exact⟨(h.none_ _ hN).1,zGe h cs _ hcs hN⟩
   ·obtain⟨m,hm⟩:∃m,a-i=m+1:=⟨a-i-1,by omega⟩
    have hk:=ok.kind c hc0;rw[hm,zGu,Tb.hit,if_neg (by omega),Bool.or_eq_false_iff] at hh;have he:t.ends (t.go q c)=-1:=by
     have:=hh.1;rw[bne_eq_false_iff_eq] at this;exact this
    refine⟨he,?_⟩;rcases h.next i q c hc0 hF with hN|hN|hN
    ·exact zGe h cs _ hcs hN
    ·exact absurd he hN
    ·exact ih (i+1) _ (by omega) hcs hN (by rw[show a-(i+1)=m by omega];exact hh.2)
  rw[zBt t _ _ _ (.inl key.1),key.2];rfl
end
section
variable (k:Kd) (a:Ar) (most kind l:Nat)
def Mk.Z (m:Mk):Prop:=m.next.head? =some zeros∧m.rules.head? =some (-1)
theorem zIj {α:Type}{l k:List α}{x:α}(h:l.head? =some x):(l++k).head? =some x:=by
 cases l with
 |nil=>cases h
 |cons y l=>exact h
theorem Mk.Z.add {m:Mk}(h:m.Z)(most:Nat)(r:Int):(m.add most r).Z:=by
 unfold Mk.add;split
 ·exact h
 ·exact⟨zIj h.1,zIj h.2⟩
theorem Mk.Z.put {m:Mk}(h:m.Z)(s b:Nat)(x:Int)(hs:1<=s):(m.put s b x).Z:=by
 refine⟨?_,h.2⟩;show(m.next.set s _).head? =_;have h1:=h.1;obtain⟨k,rfl⟩:∃k,s=k+1:=⟨s-1,by omega⟩
 cases e:m.next with
 |nil=>rw[e] at h1;cases h1
 |cons y l=>rw[e] at h1;exact h1
theorem Mk.Z.fillTo {m:Mk}(h:m.Z)(s:Nat)(f:Nat->Int)(hs:1<=s)(j:Nat):(m.fillTo s f j).Z:=by
 induction j with
 |zero=>exact h
 |succ j ih=>exact ih.put _ _ _ hs
theorem Mk.Z.withM {m:Mk}(h:m.Z)(most:Nat)(f:Nat->Int):(m.withM most f).Z:=by
 unfold Mk.withM;split
 ·exact h
 ·split
  ·exact h
  ·split
   ·exact h.add _ _
   ·exact(h.add _ _).fillTo _ _ (by omega) _
def zIM (sub:Mk->Nat->Int×Mk):Prop:=∀m c,m.Z->(sub m c).2.Z
theorem zOg (most c:Nat):∀(m:Mk) (to:Int),m.Z->(Mk.even most c m to).2.Z:=by
 induction c with
 |zero=>exact fun m to h=>h
 |succ c ih=>exact fun m to h=>ih _ _ (h.withM _ _)
theorem zOt {sub:Mk->Nat->Int×Mk}(h:zIM sub)(step low:Nat){m:Mk}(hm:m.Z)(j:Nat):(yU sub step low m j).2.Z:=by
 induction j with
 |zero=>exact hm
 |succ j ih=>
  unfold yU;split
  ·exact ih
  ·exact h _ _ ih
theorem zGm (most kind cnt step:Nat){sub:Mk->Nat->Int×Mk}(h:zIM sub):zIM (jM k a most kind cnt step sub):=by
 intro m low hm;unfold jM;split
 ·exact zOg most cnt m _ hm
 ·exact(zOt h step low hm 64).withM _ _
theorem zFh:zIM (yG k a most kind l):=by
 induction l with
 |zero=>exact zGm k a most kind 1 1 fun m c hm=>hm
 |succ l ih=>exact zGm k a most kind (l+2) (qX (l+2)) ih
theorem zEx {sub:Mk->Nat->Int×Mk}(h:zIM sub)(s lo:Nat)(hs:1<=s){m:Mk}(hm:m.Z)(j:Nat):(qW sub s lo m j).Z:=by
 induction j with
 |zero=>exact hm
 |succ j ih=>exact(h _ _ ih).put _ _ _ hs
theorem zNu (most kind s:Nat)(hs:1<=s){m:Mk}(hm:m.Z):(zA9 k a most kind s m).Z:=by
 refine zEx (fun m c h=>zFh k a most kind 2 m _ h) s 240 hs (zEx (fun m c h=>zFh k a most kind 1 m _ h) s 224 hs (zEx (fun m c h=>zFh k a most kind 0 m _ h) s 194 hs (zEx (fun m c h=>h) s 0 hs hm 128) 30) 16) 5
theorem zJW (most n:Nat)(h:(zU k most n).full=false):(zU k most n).Z∧∀j,j<n->j≠k.dead->1<=(zU k most n).of.getD j 0:=by
 induction n with
 |zero=>
  refine⟨?_,fun j hj=>absurd hj (Nat.not_lt_zero _)⟩;have h':(Mk.blank.add most (-1)).full=false:=h;show(Mk.blank.add most (-1)).Z;unfold Mk.add at h' ⊢;split at h'
  ·cases h'
  ·rename_i e
   rw[if_neg e];exact⟨rfl,rfl⟩
 |succ n ih=>
  have hl:=(zB4 k most n).2;unfold zU at h ⊢;split at h
  ·rename_i hd
   rw[if_pos hd];obtain⟨i1,i2⟩:=ih h;refine⟨i1,fun j hj hjd=>?_⟩;show 1<=((zU k most n).of++[0]).getD j 0;rw[lW,kW (by omega),<-lW];exact i2 j (by omega) hjd
  ·rename_i hd
   rw[if_neg hd];have h1:=zBw (m:=zU k most n) (most:=most) (r:=k.rules.getD n 0) h;obtain⟨i1,i2⟩:=ih h1.1;have h3:=(zF3 k most n h1.1).one;refine⟨i1.add _ _,fun j hj hjd=>?_⟩;show 1<=((zU k most n).of++[_]).getD j 0;by_cases e:j<n
   ·rw[lW,kW (by omega),<-lW]
    exact i2 j e hjd
   ·rw[lW,gQ (by omega),show j-(zU k most n).of.length=0 by omega]
    show(1:Int)<=(((zU k most n).addN most:Nat):Int);have h2:((zU k most n).add most (k.rules.getD n 0)).full=false:=h;unfold Mk.add at h2;unfold Mk.addN;split at h2
    ·cases h2
    ·rename_i e2
     rw[if_neg e2];omega
theorem zN8 (most j:Nat)(hj:j<=k.rows.length)(h:(qM k a most j).full=false):(qM k a most j).Z:=by
 induction j with
 |zero=>exact(zJW k most _ h).1
 |succ j ih=>
  unfold qM at h ⊢;split at h
  ·rename_i hc
   rw[if_pos hc];obtain⟨_,m2,_,m4⟩:=zCc k a most j;have hz:=(zJW k most _ (m4 hc.2)).2 j (by omega) hc.1;rw[<-m2] at hz;exact zNu k a most j _ (by omega) (ih (by omega) hc.2)
  ·rename_i hc
   rw[if_neg hc];exact ih (by omega) h
def Sm.Z (m:Sm):Prop:=m.next.head? =some zeros∧m.rules.head? =some (-1)
theorem zN7 {D:Nat}{rules:List Tr}{most:Nat}{m:Sm}(h:zBO D rules most=some m):m.Z:=by
 unfold zBO at h;split at h
 ·cases h
 ·split at h
  ·cases h
  ·rename_i k _ hf
   cases h
   exact zN8 k _ most _ lQ (Bool.eq_false_iff.2 hf)
theorem zNf {D:Nat}{sh:Sh}(f:Nat):∀{j most:Nat} {ms:List Sm},xR D sh f j most=some ms->∀m∈ms,m.Z:=by
 induction f with
 |zero=>intro j most ms h m hm;cases h;cases hm
 |succ f ih=>
  intro j most ms h m hm;rw[xR] at h;split at h
  ·cases h
  ·rename_i x hx
   cases hr:xR D sh f (j+1) (most-x.next.length) with
   |none=>rw[hr] at h;cases h
   |some l=>
    rw[hr] at h;cases h
    rcases List.mem_cons.1 hm with rfl|hm
    ·exact zN7 hx
    ·exact ih hr m hm
theorem zOB {s:ByteArray}{st hold:Int}{ms:List Sm}{sh:Sh}(h:jY s st hold=.inl (ms,sh)):∀m∈ms,m.Z:=by
 unfold jY at h;split at h
 ·cases h
 ·cases hsp:vR s with
  |inr e=>rw[hsp] at h;cases h
  |inl sh2=>
   rw[hsp] at h;have h2:(match xR (1+6*s.size) sh2 sh2.modes.length 0 st.toNat with|none=>.inr (0,5)|some ms=>.inl (ms,sh2))=(.inl (ms,sh):(List Sm×Sh) ⊕ (Nat×Nat)):=h;split at h2
   ·cases h2
   ·rename_i l hl
    cases h2
    exact zNf _ hl
end
section
variable (ms:List Sm) (h:ModesOk ms) (K:List Int) (n:Nat)
theorem zGj (b n N:Nat)(hb:b<n)(hn:n<=N):(zB ms N).1.getD b 0=(zB ms n).1.getD b 0:=by
 induction N with
 |zero=>omega
 |succ N ih=>
  by_cases e:n=N+1
  ·rw[e]
  ·rw[<-ih (by omega)]
   have hl:=(qG ms N).1;rw[zB];split <;> rw[lW,kW (by omega),<-lW]
theorem zIk (h:qN ms n<n)(m:Sm)(hm:m∈ms)(row:List Int)(hr:row∈m.next):row.getD (qN ms n) 0=row.getD n 0:=by
 have h1:(List.range n).findIdx (fun a=>zBB ms a n)<(List.range n).length:=by rw[List.length_range];exact h
 have h2:=List.findIdx_getElem (w:=h1);rw[List.getElem_range] at h2;have h3:=List.all_eq_true.1 h2 m hm;have h4:=List.all_eq_true.1 h3 row hr;exact eq_of_beq h4
theorem zMl (m:Sm)(hm:m∈ms)(row:List Int)(hr:row∈m.next)(f:Int)(n:Nat)(hn:n<=256):∀b,b<n->0<=(zB ms 256).1.getD b 0∧(zB ms 256).1.getD b 0<((zB ms n).2:Int)∧(zP (zB ms 256).1 row f n).getD ((zB ms 256).1.getD b 0).toNat 0=f+row.getD b 0:=by
 induction n with
 |zero=>intro b hb;omega
 |succ n ih=>
  intro b hb;have hL:=zCx ms row f 256 n (by omega);have hk:=zGj ms n (n+1) 256 (by omega) hn;have hl:=(qG ms n).1;have ih':=ih (by omega);by_cases hf:qN ms n<n
  ·obtain⟨a1,a2,a3⟩:=ih' _ hf
   have hkn:(zB ms 256).1.getD n 0=(zB ms 256).1.getD (qN ms n) 0:=by
    rw[hk,zGj ms (qN ms n) n 256 hf (by omega),zB,if_pos hf];show((zB ms n).1++[_]).getD n 0=_;rw[lW,gQ (by omega),hl,Nat.sub_self];rfl
   have hc:(zB ms (n+1)).2=(zB ms n).2:=by rw[zB,if_pos hf]
   have hB:zP (zB ms 256).1 row f (n+1)=zP (zB ms 256).1 row f n:=by rw[zP,if_neg (by rw[hL,hkn];omega)]
   rw[hB,hc];by_cases e:b=n
   ·rw[e,hkn]
    exact⟨a1,a2,by rw[a3,zIk ms n hf m hm row hr]⟩
   ·exact ih' b (by omega)
  ·have hkn:(zB ms 256).1.getD n 0=((zB ms n).2:Int):=by
    rw[hk,zB,if_neg hf];show((zB ms n).1++[_]).getD n 0=_;rw[lW,gQ (by omega),hl,Nat.sub_self];rfl
   have hc:(zB ms (n+1)).2=(zB ms n).2+1:=by rw[zB,if_neg hf]
   have hB:zP (zB ms 256).1 row f (n+1)=zP (zB ms 256).1 row f n++[f+row.getD n 0]:=by rw[zP,if_pos (by rw[hL,hkn])]
   rw[hB,hc];by_cases e:b=n
   ·rw[e,hkn]
    refine⟨by omega,by omega,?_⟩;rw[lW,gQ (by rw[hL];omega),hL,Int.toNat_natCast,Nat.sub_self];rfl
   ·obtain⟨a1,a2,a3⟩:=ih' b (by omega)
    refine⟨a1,by omega,?_⟩;rw[lW,kW (by rw[hL];omega),<-lW,a3]
theorem zLU (n q:Nat)(h:q<zE ms n):∃j s,j<n∧s<(ms.getD j Sm.none).next.length∧q=zE ms j+s:=by
 induction n with
 |zero=>exact absurd h (Nat.not_lt_zero _)
 |succ n ih=>
  by_cases e:q<zE ms n
  ·obtain⟨j,s,h1,h2,h3⟩:=ih e
   exact⟨j,s,by omega,h2,h3⟩
  ·rw[zE] at h
   exact⟨n,q-zE ms n,by omega,by show _<(ms.getD n ⟨[],[],0,[]⟩).next.length;omega,by omega⟩
theorem zNk (h:ModesOk ms)(K:List Int)(n:Nat)(hn:n<=ms.length)(j s:Nat)(hj:j<n)(hs:s<(ms.getD j Sm.none).next.length):(zQ K ms n).next.getD (zE ms j+s) []=zP K ((ms.getD j Sm.none).next.getD s []) (zE ms j:Nat) 256∧(zQ K ms n).ends.getD (zE ms j+s) 0=yH (zQ K ms j).rules ((ms.getD j Sm.none).rules.getD s 0):=by
 induction n with
 |zero=>omega
 |succ n ih=>
  obtain⟨s1,s2,s3,s4⟩:=jX K ms h n (by omega);have hst:zE ms (j+1)=zE ms j+(ms.getD j Sm.none).next.length:=rfl
  rw[zQ];show((zQ K ms n).next++_).getD _ _=_∧((zQ K ms n).ends++_).getD _ _=_;by_cases e:j<n
  ·have hle:=yZ ms (j+1) n e
   obtain⟨i1,i2⟩:=ih (by omega) e;rw[lW,kW (by omega),<-lW,lW (l:=_++_),kW (by omega),<-lW];exact⟨i1,i2⟩
  ·have e2:j=n:=by omega
   subst e2;have hr:=(h.rules j (by omega)).1;have hg:ms.getD j Sm.none=ms[j]:=by rw[lW,lV (by omega),Option.getD_some]
   have hs':s<(ms.getD j Sm.none).rules.length:=by rw[hg,hr,<-hg];exact hs
   constructor
   ·rw[lW,gQ (by omega),s2,gX,gU]
    show(Option.map _ (ms.getD j Sm.none).next[s]?).getD []=_;rw[lV hs,Option.map_some,Option.getD_some,lW (l:=(ms.getD j Sm.none).next),lV hs,Option.getD_some]
   ·rw[lW,gQ (by omega),s3,gX,gU]
    show(Option.map _ (ms.getD j Sm.none).rules[s]?).getD 0=_;rw[lV hs',Option.map_some,Option.getD_some,lW (l:=(ms.getD j Sm.none).rules),lV hs',Option.getD_some]
theorem zDk (h:ModesOk ms)(acts pushed:List Int)(hold j s c:Nat)(hj:j<ms.length)(hs:s<(ms.getD j Sm.none).next.length)(hc:c<256):(zV ms acts pushed hold).go (zE ms j+s) c=zE ms j+(((ms.getD j Sm.none).next.getD s []).getD c 0).toNat∧0<=((ms.getD j Sm.none).next.getD s []).getD c 0∧((ms.getD j Sm.none).next.getD s []).getD c 0<((ms.getD j Sm.none).next.length:Int)∧((zV ms acts pushed hold).ends (zE ms j+s)=-1↔(ms.getD j Sm.none).rules.getD s 0=-1):=by
 obtain⟨l1,l2⟩:=zNk ms h (zB ms 256).1 ms.length lQ j s hj hs;have hg:ms.getD j Sm.none=ms[j]:=by rw[lW,lV hj,Option.getD_some]
 have hm:ms.getD j Sm.none∈ms:=by rw[hg];exact List.getElem_mem hj
 have hrow:(ms.getD j Sm.none).next.getD s []∈(ms.getD j Sm.none).next:=zS _ s [] hs
 obtain⟨_,w2⟩:=h.wide j hj _ (by rw[<-hg];exact hrow);obtain⟨w3,w4⟩:=w2 c hc;rw[<-hg] at w4;obtain⟨_,_,k3⟩:=zMl ms _ hm _ hrow (zE ms j:Nat) 256 lQ c hc;refine⟨?_,w3,w4,?_⟩
 ·show(((zQ (zB ms 256).1 ms ms.length).next.getD (zE ms j+s) []).getD ((zB ms 256).1.getD c 0).toNat 0).toNat=_
  rw[l1,k3];omega
 ·show(zQ (zB ms 256).1 ms ms.length).ends.getD (zE ms j+s) 0=-1↔_
  rw[l2];have hr:=(h.rules j hj)
  have hs':s<(ms.getD j Sm.none).rules.length:=by rw[hg,hr.1,<-hg];exact hs
  have:=(hr.2 _ (by rw[<-hg];exact zS _ s 0 hs')).1;unfold yH;split
  ·rename_i e;rw[e]
  ·rename_i e
   constructor
   ·intro e2;omega
   ·intro e2;exact absurd e2 e
theorem zLg (p:Nat->Bool)(n:Nat)(h:(List.range n).findIdx p<n):p ((List.range n).findIdx p)=true:=by
 have h1:(List.range n).findIdx p<(List.range n).length:=by rw[List.length_range];exact h
 have h2:=List.findIdx_getElem (w:=h1);rw[List.getElem_range] at h2;exact h2
theorem zJA (f:Nat->Bool)(h:jZ n f<0):∀t,t<n->f t=false:=by
 intro t ht;unfold jZ at h;split at h
 ·omega
 ·rename_i hn
  cases hf:f t with
  |false=>rfl
  |true=>
   exfalso
   apply hn;have:=List.findIdx_lt_length_of_exists (xs:=List.range n) (p:=f) ⟨t,List.mem_range.2 ht,hf⟩;rw[List.length_range] at this;exact this
theorem zLq (m:Sm)(h:0<=yC m):zAN m (yC m).toNat=true:=by
 unfold yC at h ⊢;split at h
 ·rename_i hl
  rw[if_pos hl,Int.toNat_natCast];exact zLg (zAN m) _ hl
 ·omega
theorem zJy (m:Sm)(d:Nat)(h:zAN m d=true)(k:Nat):(∀t,t<m.next.length->qE m (xM m (d+k)) t=false):=by
 induction k with
 |zero=>exact zJA _ _ (of_decide_eq_true h)
 |succ k ih=>
  intro t ht;show((((t:Nat):Int) != 0)&&(List.range m.next.length).any fun i=>xM m (d+k+1) i&&_)=false;have:((List.range m.next.length).any fun i=>xM m (d+k+1) i&&(m.next.getD i []).any (·==(t:Int)))=false:=by
   rw[List.any_eq_false];intro i hi;have h1:=ih i (List.mem_range.1 hi);have h2:xM m (d+k+1) i=false:=by
    show qJ (qE m (xM m (d+k))) (tokF m) i=false;unfold qJ;rw[h1];rfl
   rw[h2];simp
  rw[this,Bool.and_false]
theorem zLK (h:0<=aheadTo ms n):∀j,j<n->0<=yC (ms.getD j Sm.none)∧yC (ms.getD j Sm.none)<=aheadTo ms n:=by
 induction n with
 |zero=>intro j hj;omega
 |succ n ih=>
  intro j hj;have e:aheadTo ms (n+1)=yP (aheadTo ms n) (yC (ms.getD n Sm.none)):=rfl;rw[e] at h ⊢;unfold yP at h ⊢;split at h
  ·omega
  ·rename_i h1
   rw[if_neg h1];by_cases hjn:j=n
   ·subst hjn
    split <;> omega
   ·have:=ih (by omega) j (by omega)
    split <;> omega
theorem zKR (m:Sm)(F:Nat->Bool)(s c:Nat)(hs:s<m.next.length)(hF:F s=true)(hc:c<(m.next.getD s []).length)(x:Nat)(hx:(m.next.getD s []).getD c 0=(x:Int))(h0:x≠0):qE m F x=true:=by
 show(((x:Nat):Int) != 0&&(List.range m.next.length).any fun i=>F i&&(m.next.getD i []).any (·==(x:Int)))=true;rw[Bool.and_eq_true];refine⟨by rw[bne_iff_ne];omega,List.any_eq_true.2 ⟨s,List.mem_range.2 hs,?_⟩⟩;rw[Bool.and_eq_true];refine⟨hF,List.any_eq_true.2 ⟨(m.next.getD s []).getD c 0,zS _ c 0 hc,?_⟩⟩;rw[hx];exact beq_self_eq_true _
theorem zIB (h:ModesOk ms)(hz:∀m∈ms,m.Z)(hA:0<=aheadTo ms ms.length)(acts pushed:List Int)(hold:Nat):∃F N,(zV ms acts pushed hold).Fronts (aheadTo ms ms.length).toNat F N:=by
 have hm:∀j,j<ms.length->ms.getD j Sm.none=ms[j]?.getD Sm.none∧ms.getD j Sm.none∈ms:=fun j hj=>⟨lW,zS _ _ _ hj⟩
 have hw:∀j s,j<ms.length->s<(ms.getD j Sm.none).next.length->((ms.getD j Sm.none).next.getD s []).length=256:=fun j s hj hs=>by
  have hg:ms.getD j Sm.none=ms[j]:=by rw[lW,lV hj,Option.getD_some]
  rw[hg] at hs ⊢;exact(h.wide j hj _ (zS _ s [] hs)).1
 have hlead:∀i j s c,j<ms.length->s<(ms.getD j Sm.none).next.length->c<256->xM (ms.getD j Sm.none) i s=true->∃x:Nat,(zV ms acts pushed hold).go (zE ms j+s) c=zE ms j+x∧x<(ms.getD j Sm.none).next.length∧(x=0∨qE (ms.getD j Sm.none) (xM (ms.getD j Sm.none) i) x=true):=by
  intro i j s c hj hs hc hF;obtain⟨b1,b2,b3,_⟩:=zDk ms h acts pushed hold j s c hj hs hc;refine⟨_,b1,by omega,?_⟩;by_cases e:(((ms.getD j Sm.none).next.getD s []).getD c 0).toNat=0
  ·exact .inl e
  ·exact .inr (zKR _ _ s c hs hF (by rw[hw j s hj hs];exact hc) _ (Int.toNat_of_nonneg b2).symm e)
 refine⟨fun i q=>∃j s,j<ms.length∧s<(ms.getD j Sm.none).next.length∧q=zE ms j+s∧xM (ms.getD j Sm.none) i s=true,fun q=>∃j,j<ms.length∧q=zE ms j,?_,?_,?_,?_⟩
 ·intro q hq he
  obtain⟨j,s,hj,hs,rfl⟩:=zLU ms ms.length q hq;have b4:=(zDk ms h acts pushed hold j s 0 hj hs (by decide)).2.2.2;refine⟨j,s,hj,hs,rfl,?_⟩;show((ms.getD j Sm.none).rules.getD s 0 != -1)=true;rw[bne_iff_ne];exact fun e=>he (b4.2 e)
 ·rintro i q c hc ⟨j,s,hj,hs,rfl,hF⟩
  obtain⟨x,x1,x2,x3⟩:=hlead i j s c hj hs hc hF;rw[x1];rcases x3 with rfl|x3
  ·exact .inl ⟨j,hj,rfl⟩
  ·right
   have b4:=(zDk ms h acts pushed hold j x 0 hj x2 (by decide)).2.2.2;cases ht:tokF (ms.getD j Sm.none) x with
   |true=>
    left
    intro e;have ht':((ms.getD j Sm.none).rules.getD x 0 != -1)=true:=ht;rw[bne_iff_ne] at ht';exact ht' (b4.1 e)
   |false=>
    right
    refine⟨j,x,hj,x2,rfl,?_⟩;show(qE (ms.getD j Sm.none) (xM (ms.getD j Sm.none) i) x&& !tokF (ms.getD j Sm.none) x)=true;rw[x3,ht];rfl
 ·rintro q c hc ⟨j,s,hj,hs,rfl,hF⟩
  obtain⟨x,x1,x2,x3⟩:=hlead _ j s c hj hs hc hF;rw[x1];rcases x3 with rfl|x3
  ·exact⟨j,hj,rfl⟩
  ·obtain⟨d1,d2⟩:=zLK ms ms.length hA j hj
   have:=zJy _ _ (zLq _ d1) ((aheadTo ms ms.length).toNat-(yC (ms.getD j Sm.none)).toNat) x x2;rw[show (yC (ms.getD j Sm.none)).toNat+((aheadTo ms ms.length).toNat-(yC (ms.getD j Sm.none)).toNat)=(aheadTo ms ms.length).toNat by omega,x3] at this;cases this
 ·rintro q ⟨j,hj,rfl⟩
  obtain⟨z1,z2⟩:=hz _ (hm j hj).2;have hg:ms.getD j Sm.none=ms[j]:=by rw[lW,lV hj,Option.getD_some]
  have h1:0<(ms.getD j Sm.none).next.length:=by rw[hg];exact h.states1 j hj
  have hrow:(ms.getD j Sm.none).next.getD 0 []=zeros:=by
   cases e:(ms.getD j Sm.none).next with
   |nil=>rw[e] at z1;cases z1
   |cons y l=>rw[e] at z1;exact hU z1
  have hrule:(ms.getD j Sm.none).rules.getD 0 0=-1:=by
   cases e:(ms.getD j Sm.none).rules with
   |nil=>rw[e] at z2;cases z2
   |cons y l=>rw[e] at z2;exact hU z2
  refine⟨(zDk ms h acts pushed hold j 0 0 hj h1 (by decide)).2.2.2.2 hrule,fun c hc=>⟨j,hj,?_⟩⟩;have b1:=(zDk ms h acts pushed hold j 0 c hj h1 hc).1;have hzc:zeros.getD c 0=0:=by
   unfold zeros;rw[lW,List.getElem?_replicate,if_pos hc];rfl
  rw[hrow,hzc] at b1;exact b1
end
theorem zMr {t u:Tb}(h1:t.next=u.next)(h2:t.count=u.count)(h3:t.ends=u.ends)(ds:List Nat):∀q,t.hit q ds=u.hit q ds:=by
 induction ds with
 |nil=>intro q;rfl
 |cons d ds ih=>intro q;rw[Tb.hit,Tb.hit,h1,h2,h3,ih]
theorem zGp {ms:List Sm}{acts pushed:List Int}{hold n:Nat}{fo:Bool}(hf:(((zV ms acts pushed hold).first.itr n).spreadTo (zE ms ms.length)).2=false)(ok:(qV ms acts pushed hold n fo).Ok):(qV ms acts pushed hold n fo).Dead:=by
 have hs:=vU (zV ms acts pushed hold).first n
 refine zK0 (t0:=zV ms acts pushed hold) n hf ok ?_ ?_ ?_ ?_ ?_ <;> unfold qV vB <;> split <;> first|rfl|(rw [hs];rfl)
theorem zDM (ms:List Sm)(acts pushed:List Int)(hold n:Nat)(fo:Bool):(qV ms acts pushed hold n fo).nst=(zV ms acts pushed hold).nst∧(qV ms acts pushed hold n fo).next=(zV ms acts pushed hold).next∧(qV ms acts pushed hold n fo).kind=(zV ms acts pushed hold).kind∧(qV ms acts pushed hold n fo).ends=(zV ms acts pushed hold).ends∧(qV ms acts pushed hold n fo).start=(zV ms acts pushed hold).start∧(qV ms acts pushed hold n fo).act=(zV ms acts pushed hold).act∧(qV ms acts pushed hold n fo).push=(zV ms acts pushed hold).push∧(qV ms acts pushed hold n fo).count=(zV ms acts pushed hold).count:=by
 have hs:=vU (zV ms acts pushed hold).first n
 refine⟨?_,?_,?_,?_,?_,?_,?_,?_⟩ <;> unfold qV vB <;> split <;> rw[hs] <;> rfl
theorem zJw {x:List Sm×Sh}{hold n:Nat}{fo:Bool}(h:ModesOk x.1)(hz:∀m∈x.1,m.Z)(hst:zBg x fo=true)(hf:(((zV x.1 (ints x.2.acts) (x.2.pushesTo x.2.pushed.length) hold).first.itr n).spreadTo (zE x.1 x.1.length)).2=false)(ok:(qV x.1 (ints x.2.acts) (x.2.pushesTo x.2.pushed.length) hold n fo).Ok):(qV x.1 (ints x.2.acts) (x.2.pushesTo x.2.pushed.length) hold n fo).Sharp:=by
 have hd:=zGp hf ok;obtain⟨g1,g2,g3,g4,-,-,-,g8⟩:=zDM x.1 (ints x.2.acts) (x.2.pushesTo x.2.pushed.length) hold n fo;obtain⟨u,a,he,ha,hw,hA⟩:∃u a,qV x.1 (ints x.2.acts) (x.2.pushesTo x.2.pushed.length) hold n fo=Tb.looking u a∧a=(aheadTo x.1 x.1.length).toNat∧zF (zB x.1 256).2 a<=3000∧0<=aheadTo x.1 x.1.length:=by
  unfold zBg at hst;have hs2:=hst;unfold xP at hs2;simp only[Bool.and_eq_true,decide_eq_true_eq] at hs2;refine⟨{vB x.1 (ints x.2.acts) (x.2.pushesTo x.2.pushed.length) hold n with stream:=true},(aheadTo x.1 x.1.length).toNat,?_,rfl,hs2.2.2,hs2.2.1⟩;unfold qV;rw[if_pos hst]
 obtain⟨F,N,hF⟩:=zIB x.1 h hz hA (ints x.2.acts) (x.2.pushesTo x.2.pushed.length) hold;generalize qV x.1 (ints x.2.acts) (x.2.pushesTo x.2.pushed.length) hold n fo=t at *;have c1:t.ahead=a:=by rw[he];rfl
 have c2:zF t.count a<=3000:=by rw[g8];exact hw
 have c3:t.rows=zF t.count a:=by rw[he];rfl
 have u1:u.next=t.next:=by rw[he];rfl
 have u2:u.count=t.count:=by rw[he];rfl
 have u3:u.ends=t.ends:=by rw[he];rfl
 have u4:u.nst=t.nst:=by rw[he];rfl
 have hlong:∀q,q<t.nst->∀cs:List Nat,(∀c∈cs,c<256)->t.longer (val (t.count+1) (t.digs cs t.ahead)) q=t.hit q (t.digs cs t.ahead):=fun q hq cs hc=>by
  have:=zJn u (by rw[u4,u2,u1];exact ok.next) a (by rw[u2];exact c2) (t.digs cs t.ahead) q (by rw[zIq,c1]) (by rw[u2];exact zNz t ok cs hc _) (by rw[u4];exact hq);rw[<-he,u2,zMr u1 u2 u3] at this;exact this
 have hgo:∀q c,t.go q c=(zV x.1 (ints x.2.acts) (x.2.pushesTo x.2.pushed.length) hold).go q c:=fun q c=>by unfold Tb.go;rw[g2,g3]
 have hF2:t.Fronts t.ahead F N:=by
  rw[c1,ha];exact⟨fun q hq he=>hF.first q (by rw[<-g1];exact hq) (by rw[<-g4];exact he),fun i q c hc hq=>by rw[hgo,g4];exact hF.next i q c hc hq,fun q c hc hq=>by rw[hgo];exact hF.last q c hc hq,fun q hq=>⟨by rw[g4];exact(hF.none_ q hq).1,fun c hc=>by rw[hgo];exact(hF.none_ q hq).2 c hc⟩⟩
 refine⟨hd,by rw[c3,c1];exact zGA _ _ c2,fun q hq cs hc hl=>?_,fun q hq he cs hc hl=>?_⟩
 ·rw[hlong q hq cs hc] at hl
  exact zMs t ok _ cs q hc hl
 ·rw[hlong q hq cs hc] at hl
  exact zJz ok hF2 cs 0 q lX hc (hF2.first q hq he) (by rw[Nat.sub_zero];exact hl)
section
variable (r:Rs) (t:Tb) (P h:Nat) (ok:t.Ok) (hO:r.Oth t P)
theorem zLC (cs:List Nat):∀(q n e:Nat),t.best q cs=some (n,e)->t.best q (cs.take n)=some (n,e):=by
 induction cs with
 |nil=>intro q n e h;cases h
 |cons c cs ih=>
  intro q n e h;rw[zAy] at h;cases hb:t.best (t.go q c) cs with
  |some p=>
   rw[hb] at h;obtain⟨m,f⟩:=p;cases h
   rw[List.take_succ_cons,zAy,ih _ _ _ hb]
  |none=>
   rw[hb] at h;have h':(if t.ends (t.go q c)=-1 then none else some (1,t.go q c))=some (n,e):=h;split at h'
   ·cases h'
   ·rename_i he
    cases h'
    rw[List.take_succ_cons,List.take_zero];exact zFy t _ _ _ he rfl
def Rs.One (r:Rs):Prop:=∀j,j<r.depth->r.stack j=0
def zOD (t:Tb)(xs:List Nat)(ev:Ev):Prop:=∃f k e:Nat,t.best (t.start 0) (xs.drop f)=some (k,e)∧f+k<=xs.length∧ev.rule=((t.ends e).toNat:Nat)∧ev.from_=f∧ev.to=(f+k:Nat)∧t.act (t.ends e).toNat≠1
theorem Rs.One.tok {r:Rs}(h:r.One)(hd:1<=r.depth)(t:Tb)(hp:∀i,t.push i=0)(rule a l c:Nat)(ho:(r.tok t rule a l c).1.opn=true):(r.tok t rule a l c).1.One∧1<=(r.tok t rule a l c).1.depth:=by
 unfold Rs.tok at ho ⊢;split at ho
 ·cases ho
 ·rename_i h2
  split at ho
  ·cases ho
  ·rename_i h3
   rw[if_neg h2,if_neg h3];show(r.moved t rule).One∧1<=(r.moved t rule).depth;unfold Rs.moved;split
   ·exact⟨fun j hj=>h j (by have hj':j<r.depth-1:=hj;omega),by show 1<=r.depth-1;omega⟩
   ·split
    ·refine⟨fun j hj=>?_,by show 1<=r.depth+1;omega⟩
     have hj':j<r.depth+1:=hj;show(if j=r.depth then t.push rule else r.stack j)=0;split
     ·exact hp rule
     ·exact h j (by omega)
    ·exact⟨h,hd⟩
theorem zLV (xs:List Nat)(hp:∀i,t.push i=0)(n:Nat):∀r:Rs,r.One->1<=r.depth->r.bAt<=xs.length->∀ev∈t.spec xs n r,ev.kind=1->zOD t xs ev:=by
 induction n with
 |zero=>intro r _ _ _ ev he;cases he
 |succ n ih=>
  intro r h1 hd hb ev he hk;rw[Tb.spec] at he;split at he
  ·rw[kY.1 he] at hk;cases hk
  ·split at he
   ·rw[kY.1 he] at hk;cases hk
   ·rename_i k e hbest
    have htop:r.top t=t.start 0:=by unfold Rs.top;rw[h1 _ (by omega)]
    have hpos:=zDi t _ _ _ _ hbest;rw[List.length_drop] at hpos;rcases kU.1 he with he|he
    ·unfold Rs.tok at he
     split at he
     ·rw[kY.1 he] at hk;cases hk
     ·split at he
      ·rw[kY.1 he] at hk;cases hk
      ·have he':ev∈(if t.act (t.ends e).toNat=1 then[] else[⟨1,((t.ends e).toNat:Nat),r.bAt,(r.bAt+k:Nat),r.bLine,r.bCol⟩]:List Ev):=he
       split at he'
       ·cases he'
       ·rename_i ha
        rw[kY.1 he'];exact⟨r.bAt,k,e,by rw[<-htop];exact hbest,by omega,rfl,rfl,rfl,ha⟩
    ·split at he
     ·rename_i ho
      obtain⟨o1,o2⟩:=h1.tok hd t hp _ _ _ _ ho;exact ih _ o1 o2 (by rw[(r.tok_at t _ _ _ _ ho).1];omega) ev he hk
     ·cases he
theorem zI2 (p:Nat)(ys:List Nat)(e:Nat)(hy:1<=ys.length)(h:t.best (t.start 0) ys=some (ys.length,e))(h1:t.act (t.ends e).toNat≠1)(h3:t.act (t.ends e).toNat≠3):t.sp ys (Rs.born t p)=[⟨1,((t.ends e).toNat:Nat),0,ys.length,1,1⟩,⟨2,0,ys.length,ys.length,lnT ys ys.length,clT ys ys.length⟩]:=by
 have e0:(Rs.born t p).bAt=0:=rfl;have ht:(Rs.born t p).top t=t.start 0:=rfl;have htok:(Rs.born t p).tok t (t.ends e).toNat (0+ys.length) (lnT ys (0+ys.length)) (clT ys (0+ys.length))=({(Rs.born t p).moved t (t.ends e).toNat with bAt:=0+ys.length,bLine:=lnT ys (0+ys.length),bCol:=clT ys (0+ys.length),state:=t.start (((Rs.born t p).moved t (t.ends e).toNat).stack (((Rs.born t p).moved t (t.ends e).toNat).depth-1))},[⟨1,((t.ends e).toNat:Nat),0,(0+ys.length:Nat),1,1⟩]):=by
  unfold Rs.tok;rw[if_neg (by rintro⟨_,h⟩;cases h),if_neg (fun h=>h3 h.1),if_neg h1];rfl
 have hop:((Rs.born t p).moved t (t.ends e).toNat).opn=true:=by
  unfold Rs.moved;split
  ·rfl
  ·split <;> rfl
 rw[zHJ t ys _ lX,e0,if_neg (by omega),ht,List.drop_zero,h];show(Rs.tok _ _ _ _ _ _).2++(if (Rs.tok _ _ _ _ _ _).1.opn then t.sp ys (Rs.tok _ _ _ _ _ _).1 else[])=_;rw[htok];have hop2:({(Rs.born t p).moved t (t.ends e).toNat with bAt:=0+ys.length,bLine:=lnT ys (0+ys.length),bCol:=clT ys (0+ys.length),state:=t.start (((Rs.born t p).moved t (t.ends e).toNat).stack (((Rs.born t p).moved t (t.ends e).toNat).depth-1))}:Rs).opn=true:=hop;rw[if_pos hop2,zHJ t ys _ (by show 0+ys.length<=_;omega),if_pos (by show 0+ys.length=_;omega),Nat.zero_add];rfl
def Short (h:Nat)(es:List Ev):Prop:=∀ev∈es,ev.kind=1->ev.to-ev.from_<=(h:Int)
theorem Short.app {h:Nat}{a b:List Ev}(h1:Short h a)(h2:Short h b):Short h (a++b):=fun ev he=>(kU.1 he).elim (h1 ev) (h2 ev)
theorem Short.nil:Short h []:=fun ev he=>by cases he
theorem Short.last (r:Rs)(k:Int)(hk:k≠1):Short h [r.lastEv k]:=fun ev he h1=>by rw[kY.1 he] at h1;exact absurd h1 hk
theorem zE7 (hl:r.length<=h):Short h (r.long t).2:=by
 unfold Rs.long;split
 ·exact Short.last h r 3 (by decide)
 ·unfold Rs.tok
  split
  ·exact Short.last h r.cut 4 (by decide)
  ·split
   ·exact Short.last h r.cut 5 (by decide)
   ·intro ev he _
    have he':ev∈(if t.act r.rule.toNat=1 then[] else[⟨1,(r.rule.toNat:Nat),r.bAt,(r.bAt+r.length:Nat),r.bLine,r.bCol⟩]:List Ev):=he;split at he'
    ·cases he'
    ·rw[kY.1 he']
     show(((r.bAt+r.length:Nat):Int))-(r.bAt:Int)<=(h:Int);omega
theorem zD8 (ok:t.Ok)(hO:r.Oth t P)(hc:r.count<=h)(n:Nat):Short h (r.heldN t n).2:=by
 induction n with
 |zero=>exact Short.nil h
 |succ n ih=>
  rw[Rs.heldN];split
  ·rename_i hx
   obtain⟨i1,-,-,i4,-⟩:=r.heldN_inv t P ok hO n;refine ih.app ?_;unfold Rs.heldStep Rs.judged;have hM:=((r.heldN t n).1.ate t).marked_oth t P ok ((r.heldN t n).1.ate_oth t P ok i1 hx.1);have hm:=((r.heldN t n).1.ate t).marked_same t;split
   ·exact Short.nil h
   ·refine zE7 _ t h ?_
    have h1:=hM.len;have h2:=hM.tak;have h3:(((r.heldN t n).1.ate t).marked t).count=(r.heldN t n).1.count:=hm.1;omega
  ·exact ih
theorem zJI (ok:t.Ok)(hO:r.Oth t P)(hc:r.count<=h)(n:Nat):Short h (r.endN t n).2:=by
 induction n with
 |zero=>exact Short.nil h
 |succ n ih=>
  rw[Rs.endN];split
  ·rename_i hx
   obtain⟨i1,i2,-,-,i6⟩:=r.endN_inv t P ok hO n;rw[hx.2,i6 hx.2] at i2;have hO2:=(r.endN t n).1.long_inv t P ok i1 hx.2 hx.1;have hc2:(r.endN t n).1.count<=h:=by omega
   refine ih.app (Short.app (zE7 _ t h (lY (lY i1.len i1.tak) hc2)) (zD8 _ t P h ok hO2.1 ?_ _));rcases hO2.2.2.2 with h|h <;> omega
  ·exact ih
theorem zJF (ok:t.Ok)(hs:t.stream=false)(cs:List Nat):∀(r:Rs) (P:Nat),r.Oth t P->r.count<=t.hold->(∀c∈cs,c<256)->Short t.hold (Rs.feed t cs r).2∧((Rs.feed t cs r).1.opn=true->(Rs.feed t cs r).1.count<=t.hold):=by
 induction cs with
 |nil=>intro r P _ hc _;exact⟨Short.nil _,fun _=>hc⟩
 |cons c cs ih=>
  intro r P hO hc hb;rw[Rs.feed];split
  ·rename_i ho
   have he:r.eat t c=r.takeO t c:=by unfold Rs.eat;rw[hs];rfl
   have hb0:=hb c gW;have hO2:=(r.takeO_inv t P c ok hO hb0 ho).1;rw[he];unfold Rs.takeO at hO2 ⊢;split
   ·rw[Rs.feed_shut t cs _ rfl]
    exact⟨(Short.last _ r 6 (by decide)).app (Short.nil _),fun hx=>by cases hx⟩
   ·rename_i hh
    rw[if_neg hh] at hO2;have h64:r.count<64:=by have:=ok.hold;omega
    have hOa:=r.added_oth t P c hO hb0 h64;have hca:(r.added c).count<=t.hold:=by show r.count+1<=t.hold;omega
    obtain⟨k1,k2⟩:=ih ((r.added c).heldAll t).1 (P+1) hO2 (lY ((r.added c).heldAll_inv t (P+1) ok hOa).2.2.2.1 hca) fun x hx=>hb x (List.mem_cons_of_mem _ hx);exact⟨(zD8 (r.added c) t (P+1) t.hold ok hOa hca _).app k1,k2⟩
  ·exact⟨Short.nil _,fun hx=>hc⟩
theorem zHd (ft:t.Fine)(hs:t.stream=false)(p:Nat)(s:ByteArray):Short t.hold (t.events p s):=by
 have hG:=Rs.born_good t p ft;have hO:(Rs.born t p).Oth t 0:=by have h:=hG;unfold Rs.Good at h;rw[hs] at h;exact h
 obtain⟨f1,f2⟩:=zJF t ft.ok hs (nats s) (Rs.born t p) 0 hO lX (zCb s);have hG2:=(Rs.feed_inv t ft.ok (nats s) (Rs.born t p) 0 hG (zCb s)).1;unfold Tb.events;refine f1.app ?_;unfold Rs.shut;split
 ·rename_i ho
  unfold Rs.Good at hG2;rw[hs] at hG2 ⊢;have key:=zJI _ t _ t.hold ft.ok hG2 (f2 ho) ((Rs.feed t (nats s) (Rs.born t p)).1.count+2);show Short t.hold (Rs.closeO _ t).2;unfold Rs.closeO;split
  ·exact key.app (Short.last _ _ 2 (by decide))
  ·exact key
 ·exact Short.nil _
theorem zJg (s:ByteArray)(f k:Nat)(h:f+k<=s.size):nats (s.extract f (f+k))=((nats s).drop f).take k:=by
 unfold nats;rw[<-List.map_drop,<-List.map_take]
 congr 1
 rw[ByteArray.data_extract,Array.toList_extract,List.extract_eq_take_drop,gX]
theorem zJT (ft:t.Fine)(hd:t.Dead)(hS:t.stream=true->t.Sharp)(hp:∀i,t.push i=0)(h3:∀i,t.act i≠3)(p:Nat)(s:ByteArray)(ev:Ev)(he:ev∈t.events p s)(hk:ev.kind=1):
  ∃f k:Nat,ev.from_=f∧ev.to=(f+k:Nat)∧f+k<=s.size∧t.events p (s.extract f (f+k))=[⟨1,ev.rule,0,k,1,1⟩,⟨2,0,k,k,lnT (nats (s.extract f (f+k))) k,clT (nats (s.extract f (f+k))) k⟩]:=by
 have hone:(Rs.born t p).One:=fun j _=>rfl;have hsp:ev∈t.sp (nats s) (Rs.born t p)∧(t.stream=false->ev.to-ev.from_<=(t.hold:Int)):=by
  cases hs:t.stream with
  |true=>exact⟨by rw[<-zKk t ft hs (hS hs) p s];exact he,fun h=>by cases h⟩
  |false=>
   refine⟨?_,fun _=>zHd t ft hs p s ev he hk⟩;rcases zKl t ft hs hd p s with e|⟨_,es,e,rest,h4,h5,h6⟩
   ·rw[<-e];exact he
   ·rw[h4] at he
    rcases kU.1 he with he|he
    ·rw[h6];exact kU.2 (.inl he)
    ·rw[kY.1 he,h5] at hk;cases hk
 obtain⟨f,k,e,b1,b2,b3,b4,b5,b6⟩:=zLV t (nats s) hp _ _ hone lQ lX ev hsp.1 hk;rw[vG] at b2;have hpos:=zDi t _ _ _ _ b1;have hz:(s.extract f (f+k)).size=k:=by rw[ByteArray.size_extract];omega
 have hl:(nats (s.extract f (f+k))).length=k:=by rw[vG,hz]
 have hbt:=zLC t _ _ _ _ b1;rw[<-zJg s f k b2] at hbt;refine⟨f,k,b4,b5,b2,?_⟩;have key:=zI2 t p (nats (s.extract f (f+k))) e (by omega) (by rw[hl];exact hbt) b6 (h3 _);rw[hl] at key;rw[b3,<-key];cases hs:t.stream with
 |true=>exact zKk t ft hs (hS hs) p _
 |false=>
  rcases zKl t ft hs hd p (s.extract f (f+k)) with e|⟨h7,_⟩
  ·exact e
  ·have:=hsp.2 hs
   omega
end
theorem zKn {a b:ByteArray}(h:eqS a b=true):a.size=b.size∧∀i,byt a i=byt b i:=by
 unfold eqS at h;have h2:=eq_of_beq h;rw[ByteArray.toList_eq,ByteArray.toList_eq] at h2;refine⟨?_,fun i=>by unfold byt;rw[h2]⟩;have:a.data.toList.length=b.data.toList.length:=by rw[h2]
 rw[Array.length_toList,Array.length_toList] at this;exact this
theorem zMD {a b:ByteArray}(h:a.size=b.size)(hb:∀i,i<a.size->byt a i=byt b i):eqS a b=true:=by
 unfold eqS;rw[ByteArray.toList_eq,ByteArray.toList_eq,beq_iff_eq];have l1:a.data.toList.length=a.size:=Array.length_toList;have l2:b.data.toList.length=b.size:=Array.length_toList;refine List.ext_getElem (by omega) fun i h1 h2=>?_;have:=hb i (by omega);unfold byt at this;rw[lW,lW,lV h1,lV h2] at this;exact UInt8.toNat_inj.1 this
theorem vJ (s:ByteArray)(a b j:Nat)(hb:b<=s.size)(hj:a+j<b):byt (s.extract a b) j=byt s (a+j):=by
 unfold byt;rw[ByteArray.data_extract,lW,lW,Array.getElem?_toList,Array.getElem?_toList,Array.getElem?_extract,if_pos (by have:s.data.size=s.size:=rfl;omega)]
theorem zJL {s:ByteArray}{c:Nat}(h:jS s c=true):jO s c<s.size∧byt s (jO s c)=c∧xX s c=s.extract 0 (jO s c)∧yK s c=s.extract (jO s c+1) s.size:=by
 have h1:jO s c<s.size:=of_decide_eq_true h;refine⟨h1,?_,by unfold xX;rw[if_pos h],by unfold yK;rw[if_pos h]⟩;have h2:(List.range s.size).findIdx (fun i=>byt s i==c)<(List.range s.size).length:=by rw[List.length_range];exact h1
 have h3:=List.findIdx_getElem (w:=h2);rw[List.getElem_range] at h3;exact eq_of_beq h3
def mdB (s:ByteArray)(i:Nat):Bool:=(decide (i=0)||decide (byt s (i-1)=10))&&(decide (5<s.size-i)&&eqS (s.extract i (i+5)) ⟨#[109,111,100,101,32]⟩)
def pdB (s:ByteArray)(i:Nat):Bool:=decide (3<s.size-i)&&eqS (s.extract i (i+3)) ⟨#[32,60,32]⟩
def qT (s:ByteArray):Nat->Nat
 |0=>0
 |i+1=>if mdB s i then qT s i+1 else qT s i
def zA2 (s:ByteArray):Nat->Bool
 |0=>false
 |i+1=>zA2 s i||pdB s i
theorem zE6 (s:ByteArray)(a b:Nat)(h:a<=b):qT s a<=qT s b:=by
 induction b with
 |zero=>rw[show a=0 by omega];exact lQ
 |succ b ih=>
  by_cases e:a=b+1
  ·rw[e];exact lQ
  ·have:=ih (by omega)
   rw[qT];split <;> omega
theorem zL5 (s:ByteArray)(i n:Nat)(h:i<n)(hp:pdB s i=true):zA2 s n=true:=by
 induction n with
 |zero=>omega
 |succ n ih=>
  rw[zA2];by_cases e:i=n
  ·rw[<-e,hp,Bool.or_true]
  ·rw[ih (by omega),Bool.true_or]
theorem zLM {s:ByteArray}(h:(zAv s).act=3):eqS s ⟨#[60]⟩=true:=by
 unfold zAv at h;split at h
 ·cases h
 ·split at h
  ·cases h
  ·split at h
   ·cases h
   ·split at h
    ·assumption
    ·unfold zGa at h
     split at h <;> cases h
theorem zK5 (S:ByteArray)(o c:Nat)(ho:o=0∨byt S (o-1)=10)(hc:o+c<S.size){sh sh':Sh}(h:xK sh (S.extract o (o+c))=some sh'):(sh'.modes.length<=sh.modes.length+if mdB S o then 1 else 0)∧(3∈sh'.acts->3∈sh.acts∨zA2 S S.size=true)∧(sh.pushed.length=sh.acts.length->sh'.pushed.length=sh'.acts.length):=by
 obtain⟨L,hL⟩:∃L,L=S.extract o (o+c):=⟨_,rfl⟩
 have hz:L.size=c:=by rw[hL,ByteArray.size_extract];omega
 have hby:∀j,j<c->byt L j=byt S (o+j):=fun j hj=>by rw[hL];exact vJ S o (o+c) j (by omega) (by omega)
 rw[<-hL] at h;unfold xK at h;split at h
 ·rename_i hk
  obtain⟨b1,b2,b3,b4⟩:=zJL hk;rw[hz] at b1;have hA:∀j,j<jO L 32->byt (xX L 32) j=byt S (o+j):=fun j hj=>by rw[b3,vJ L 0 _ j (by omega) (by omega),Nat.zero_add];exact hby j (by omega)
  have hAz:(xX L 32).size=jO L 32:=by rw[b3,ByteArray.size_extract];omega
  have hBz:(yK L 32).size=c-(jO L 32+1):=by rw[b4,ByteArray.size_extract];omega
  have hB:∀j,jO L 32+1+j<c->byt (yK L 32) j=byt S (o+(jO L 32+1+j)):=fun j hj=>by rw[b4,vJ L _ _ j lQ (by omega)];exact hby _ hj
  have hbl:byt S (o+jO L 32)=32:=by rw[<-hby _ b1];exact b2
  split at h
  ·rename_i hm
   obtain⟨m1,m2⟩:=zKn hm;have m3:jO L 32=4:=by rw[<-hAz,m1];rfl
   unfold yA at h;split at h
   ·cases h
   ·split at h
    ·cases h
    ·split at h
     ·rename_i hn
      cases h
      have hn0:0<(yK L 32).size:=by
       unfold xD at hn;rw[Bool.and_eq_true] at hn;exact of_decide_eq_true hn.1
      have hmd:mdB S o=true:=by
       unfold mdB;rw[Bool.and_eq_true,Bool.and_eq_true,Bool.or_eq_true];refine⟨ho.imp (fun e=>dW e) (fun e=>dW e),dW (by omega),zMD ?_ fun i hi=>?_⟩
       ·rw[ByteArray.size_extract]
        show min (o+5) S.size-o=5;omega
       ·rw[ByteArray.size_extract] at hi
        have hi5:i<5:=by omega
        rw[vJ S o (o+5) i (by omega) (by omega)];by_cases e4:i=4
        ·rw[e4,<-m3,hbl]
         rw[m3];rfl
        ·rw[<-hA i (by omega),m2 i]
         match i,hi5,e4 with
         |0,_,_=>rfl
         |1,_,_=>rfl
         |2,_,_=>rfl
         |3,_,_=>rfl
         |4,_,h=>exact absurd rfl h
      rw[if_pos hmd];exact⟨by show(sh.modes++[_]).length<=_;rw[kX];exact lQ,fun h3=>.inl h3,id⟩
     ·cases h
  ·split at h
   ·unfold vD at h
    split at h
    ·split at h
     ·cases h
     ·split at h
      ·cases h
      ·split at h
       ·split at h
        ·cases h
        ·cases h
         exact⟨Nat.le_add_right _ _,fun h3=>.inl h3,id⟩
       ·cases h
    ·cases h
   ·unfold qK at h
    split at h
    ·rename_i hk2
     split at h
     ·cases h
     ·split at h
      ·cases h
      ·split at h
       ·split at h
        ·split at h
         ·cases h
         ·cases h
          refine⟨by show(sh.modes.set _ _).length<=_;rw[List.length_set];exact Nat.le_add_right _ _,fun h3=>?_,fun h=>by show(sh.pushed++[_]).length=(sh.acts++[_]).length;rw[kX,kX,h];rfl⟩;have h3':3∈sh.acts++[(zAv (xX (yK L 32) 32)).act]:=h3;rcases kU.1 h3' with h3'|h3'
          ·exact .inl h3'
          ·right
           obtain⟨e1,e2⟩:=zKn (zLM (kY.1 h3').symm);obtain⟨d1,d2,d3,d4⟩:=zJL hk2;have d5:jO (yK L 32) 32=1:=by
            have:(xX (yK L 32) 32).size=jO (yK L 32) 32:=by rw[d3,ByteArray.size_extract];omega
            rw[<-this,e1];rfl
           rw[d5] at d1 d2 d3;have f1:byt S (o+(jO L 32+1))=60:=by
            have:=hB 0 (by omega);rw[Nat.add_zero] at this;rw[<-this];have g:=e2 0;rw[d3,vJ _ 0 1 0 (by omega) (by omega)] at g;exact g
           have f2:byt S (o+(jO L 32+2))=32:=by
            have:=hB 1 (by omega);rw[<-this];exact d2
           refine zL5 S (o+jO L 32) _ (by omega) ?_;unfold pdB;rw[Bool.and_eq_true];refine⟨dW (by omega),zMD ?_ fun i hi=>?_⟩
           ·rw[ByteArray.size_extract]
            show min (o+jO L 32+3) S.size-(o+jO L 32)=3;omega
           ·rw[ByteArray.size_extract] at hi
            have hi3:i<3:=by omega
            rw[vJ S _ _ i (by omega) (by omega)]
            match i,hi3 with
            |0,_=>rw[Nat.add_zero,hbl];rfl
            |1,_=>rw[Nat.add_assoc,f1];rfl
            |2,_=>rw[Nat.add_assoc,f2];rfl
        ·cases h
       ·cases h
    ·cases h
 ·cases h
theorem zJo (S:ByteArray)(f:Nat):∀(sh sh':Sh) (n o:Nat),o<=S.size->(o=0∨byt S (o-1)=10)->vQ f sh n (S.extract o S.size)=.inl sh'->sh'.modes.length+qT S o<=sh.modes.length+qT S S.size∧(3∈sh'.acts->3∈sh.acts∨zA2 S S.size=true)∧(sh.pushed.length=sh.acts.length->sh'.pushed.length=sh'.acts.length):=by
 induction f with
 |zero=>
  intro sh sh' n o ho _ h;cases h
  have:=zE6 S o S.size ho;exact⟨by omega,.inl,id⟩
 |succ f ih=>
  intro sh sh' n o ho hl h;rw[vQ] at h;have hz:(S.extract o S.size).size=S.size-o:=by rw[ByteArray.size_extract];omega
  split at h
  ·cases h
   have:=zE6 S o S.size ho;exact⟨by omega,.inl,id⟩
  ·split at h
   ·rename_i hk
    obtain⟨b1,b2,b3,b4⟩:=zJL hk;rw[hz] at b1;generalize hc:jO (S.extract o S.size) 10=c at *;have e1:xX (S.extract o S.size) 10=S.extract o (o+c):=by rw[b3,ByteArray.extract_extract];congr 1 <;> omega
    have e2:yK (S.extract o S.size) 10=S.extract (o+c+1) S.size:=by rw[b4,hz,ByteArray.extract_extract];congr 1 <;> omega
    rw[vJ S o S.size c lQ (by omega)] at b2;rw[e1,e2] at h;cases hr:xK sh (S.extract o (o+c)) with
    |none=>rw[hr] at h;cases h
    |some sh1=>
     rw[hr] at h;obtain⟨s1,s2,s3⟩:=zK5 S o c hl (by omega) hr;obtain⟨i1,i2,i3⟩:=ih sh1 sh' (n+1) (o+c+1) (by omega) (.inr b2) h;have hm:=zE6 S (o+1) (o+c+1) (by omega);rw[qT] at hm;refine⟨?_,fun h3=>(i2 h3).elim s2 .inr,fun h=>i3 (s3 h)⟩;split at hm <;> rename_i hmd <;> simp only[hmd] at s1 <;> simp at s1 <;> omega
   ·cases h
theorem zDE {s:ByteArray}{y:List Sm×Sh}(h:jR s=some y):y.1.length<=qT s s.size∧(zA2 s s.size=false->3∉y.2.acts)∧y.2.pushed.length=y.2.acts.length:=by
 unfold jR at h;cases hg:jY s 200 64 with
 |inr e=>rw[hg] at h;cases h
 |inl x=>
  rw[hg] at h;cases h
  unfold jY at hg;split at hg
  ·cases hg
  ·cases hsp:vR s with
   |inr e=>rw[hsp] at hg;cases hg
   |inl sh2=>
    rw[hsp] at hg;have h2:(match xR (1+6*s.size) sh2 sh2.modes.length 0 (200:Int).toNat with|none=>.inr (0,5)|some ms=>.inl (ms,sh2))=(.inl y:(List Sm×Sh) ⊕ (Nat×Nat)):=hg;split at h2
    ·cases h2
    ·rename_i l hl
     cases h2
     have hlen:l.length=sh2.modes.length:=zCD _ _ _ _ _ _ hl;unfold vR at hsp;split at hsp
     ·cases hsp
     ·split at hsp
      ·cases hsp
      ·rename_i sh3 hls
       have h4:sh3=sh2:=by
        split at hsp
        ·split at hsp
         ·cases hsp;rfl
         ·cases hsp
        ·cases hsp
       subst h4;have h5:=zJo s (s.size+1) Sh.none sh3 1 0 lX (.inl rfl) (by rw[ByteArray.extract_zero_size];exact hls);refine⟨by show l.length<=_;rw[hlen];have h6:=h5.1;have:qT s 0=0:=rfl;have:Sh.none.modes.length=0:=rfl;omega,fun hp h3=>?_,h5.2.2 rfl⟩;rcases h5.2.1 h3 with h6|h6
       ·cases h6
       ·rw[hp] at h6;cases h6
theorem zDP (w:World)(s:ByteArray)(hs:s.size<=65536):Calls prog 39 #[string s] w fun e w'=>e=returned (tuple #[int i64 (qT s s.size:Nat),bool (zA2 s s.size)])∧w'=w:=by
 have hm5:(⟨#[109,111,100,101,32]⟩:ByteArray).toList=[109,111,100,101,32]:=by rw[ByteArray.toList_eq]
 have hm3:(⟨#[32,60,32]⟩:ByteArray).toList=[32,60,32]:=by rw[ByteArray.toList_eq]
 have HM:Hid (∀j,mdB s j=((decide (j=0)||decide (byt s (j-1)=10))&&(decide (5<s.size-j)&&((s.extract j (j+5)).toList==[109,111,100,101,32])))):=fun j=>by rw[<-hm5];rfl
 have HP:Hid (∀j,pdB s j=(decide (3<s.size-j)&&((s.extract j (j+3)).toList==[32,60,32]))):=fun j=>by rw[<-hm3];rfl
 have HM1:Hid (∀j,qT s (j+1)=if mdB s j then qT s j+1 else qT s j):=fun j=>rfl;have HP1:Hid (∀j,zA2 s (j+1)=(zA2 s j||pdB s j)):=fun j=>rfl;have HLE:Hid (∀j,qT s j<=j):=fun j=>by
  show qT s j<=j;induction j with
  |zero=>exact lQ
  |succ j ih=>rw[qT];split <;> omega
 have HM0:Hid (qT s 0=0∧zA2 s 0=false):=⟨rfl,rfl⟩
 clear hm5 hm3;generalize qT s=mt at *;generalize zA2 s=pt at *;generalize mdB s=md at *;generalize pdB s=pd at *;go_in;go_wp2;go_loopg [4,5,6] s.size (fun q n p i wr=>∃j:Nat,q=s.size-j∧j<=s.size∧n=int i64 (mt j:Nat)∧p=bool (pt j)∧i=int i64 (j:Int)∧wr=w)
 case atStart=>exact⟨0,rfl,lX,by rw[HM0.out.1];rfl,by rw[HM0.out.2],rfl,rfl⟩
 case round=>
  obtain⟨j,hgk,hj,rfl,rfl,rfl,rfl⟩:=hrel;have HG:=vl hgk;clear hgk;have hle:=HLE.out j;by_cases hj2:j<s.size
  ·have i1:(j:Int)<(s.size:Int):=by omega
   have m0:=HM.out j;have p0:=HP.out j;have m1:=HM1.out j;have p1:=HP1.out j;have HMP:Hid (qT s=mt->True):=fun _=>trivial;generalize mt j=n at *;generalize pt j=pb at *;obtain⟨k,hk⟩:∃k,k=j-1:=⟨_,rfl⟩
   rw[<-hk] at m0;have hjk:((j:Int)==0)=false->(j:Int)-1=(k:Int):=by
    intro h;rw[hJ] at h;omega
   have hk2:(k:Int)<(s.size:Int)∧0<=(k:Int):=by omega
   have hk3:k<s.size:=by omega
   have hbe:=zDQ s k hk3;have a1:decide (j=0)=((j:Int)==0):=by rw[Bool.eq_iff_iff,decide_eq_true_eq,beq_iff_eq];omega
   have a2:decide (byt s k=10)=((byt s k:Int)==10):=by rw[Bool.eq_iff_iff,decide_eq_true_eq,beq_iff_eq];omega
   rw[a1,a2] at m0;clear hk a1 a2;have HK:Hid (mt (j+1)=(if md j then n+1 else n)∧pt (j+1)=(pb||pd j)):=⟨m1,p1⟩
   rw[m0,p0] at HK;clear m0 p0 m1 p1 HMP HM HP HM1 HP1 HLE HM0;generalize byt s k=x at *;generalize hb0:((j:Int)==0)=b0 at *;generalize hb1:((x:Int)==10)=b1 at *;generalize hb2:decide (5<s.size-j)=b2 at *;generalize hb3:((s.extract j (j+5)).toList==[109,111,100,101,32])=b3 at *;generalize hb4:decide (3<s.size-j)=b4 at *;generalize hb5:((s.extract j (j+3)).toList==[32,60,32])=b5 at *;have hc6:(b0=false∧b1=false)∨((b0=true∨b0=false∧b1=true)∧(b2=false∨b2=true∧(b3=false∨b3=true))):=by cases b0 <;> cases b1 <;> cases b2 <;> cases b3 <;> simp
   have hc8:pb=true∨pb=false∧(b4=false∨b4=true∧(b5=false∨b5=true)):=by cases pb <;> cases b4 <;> cases b5 <;> simp
   have h5:b2=true->(5:Int)<(s.size:Int)-(j:Int):=by rw[<-hb2,decide_eq_true_eq];omega
   have h5n:b2=false->¬((5:Int)<(s.size:Int)-(j:Int)):=by rw[<-hb2,decide_eq_false_iff_not];omega
   have h3:b4=true->(3:Int)<(s.size:Int)-(j:Int):=by rw[<-hb4,decide_eq_true_eq];omega
   have h3n:b4=false->¬((3:Int)<(s.size:Int)-(j:Int)):=by rw[<-hb4,decide_eq_false_iff_not];omega
   clear hb2 hb4;rcases hc6 with⟨rfl,rfl⟩|⟨rfl|⟨rfl,rfl⟩,rfl|⟨rfl,rfl|rfl⟩⟩ <;> rcases hc8 with rfl|⟨rfl,rfl|⟨rfl,rfl|rfl⟩⟩
   all_goals
    try replace hjk:=hjk rfl
    try replace h5:=h5 rfl
    try replace h5n:=h5n rfl
    try replace h3:=h3 rfl
    try replace h3n:=h3n rfl
    go_wp2;go_roundg (s.size-(j+1))
    case measure=>rw[HG.out];omega
    case rel=>exact⟨j+1,rfl,by omega,by rw[HK.out.1];go_num,by rw[HK.out.2];rfl,by go_num,rfl⟩
  ·have i1:¬(j:Int)<(s.size:Int):=by omega
   have he:j=s.size:=by omega
   subst he;go_wp2;refine dZ (results_tmp2 rfl _ _ _) rfl ?_;exact⟨rfl,rfl⟩
theorem EvsAt.at {w:World}{v:Value}{es:List Ev}(h:EvsAt w v es)(i:Nat)(hi:i<es.length):∃g cap,v=slice (some ⟨g,0,none⟩) es.length cap∧w.cell? ⟨g,i*6,none⟩=some (int i64 (es.getD i ⟨0,0,0,0,0,0⟩).kind)∧w.cell? ⟨g,i*6+1,none⟩=some (int i64 (es.getD i ⟨0,0,0,0,0,0⟩).rule)∧w.cell? ⟨g,i*6+2,none⟩=some (int i64 (es.getD i ⟨0,0,0,0,0,0⟩).from_)∧w.cell? ⟨g,i*6+3,none⟩=some (int i64 (es.getD i ⟨0,0,0,0,0,0⟩).to)∧w.cell? ⟨g,i*6+4,none⟩=some (int i64 (es.getD i ⟨0,0,0,0,0,0⟩).line)∧w.cell? ⟨g,i*6+5,none⟩=some (int i64 (es.getD i ⟨0,0,0,0,0,0⟩).col):=by
 obtain⟨ao,cap,rfl,-,-,h3⟩:=h;obtain⟨g,rfl,-,h4⟩:=h3 i hi;exact⟨g,cap,rfl,h4 0 _ rfl,h4 1 _ rfl,h4 2 _ rfl,h4 3 _ rfl,h4 4 _ rfl,h4 5 _ rfl⟩
theorem zIG (w:World)(s d:ByteArray)(S:Nat->Prop)(L p:Nat)(t:Tb)(hL:LexAt w S L p t)(ft:t.Fine)(hs:s.size<=65536)(hd:d.size<=65536)(hA:qT s s.size=1->zA2 s s.size=false->t.Dead∧(t.stream=true->t.Sharp)∧(∀i,t.push i=0)∧∀i,t.act i≠3):
  Calls prog 24 #[string s,pointer (some ⟨L,0,none⟩),string d] w fun e w'=>e=returned (bool true)∧Grew w w':=by
 have HMO:=vl (zDP w s hs);have HSC:Hid (∀w2 s,Grew w w2->s.size<=1048576->Ca 27 #[pointer (some ⟨L,0,none⟩),string s] w2 fun e w'=>∃v,e=returned v∧EvsAt w' v (t.events p s)∧Grew w2 w'):=fun w2 s hk h=>zHP (hL.grown hk) ft s h;have HA:=vl hA;have hle:qT s s.size<=s.size:=by
  have:∀j,qT s j<=j:=fun j=>by
   induction j with
   |zero=>exact lQ
   |succ j ih=>rw[qT];split <;> omega
  exact this _
 generalize qT s s.size=n at *;generalize zA2 s s.size=pb at *;by_cases hn:n=1∧pb=false
 rotate_left
 ·have hc:¬((n:Int)=1)∨n=1∧pb=true:=by
   by_cases h1:n=1
   ·cases pb with
    |true=>exact .inr ⟨h1,rfl⟩
    |false=>exact absurd ⟨h1,rfl⟩ hn
   ·exact .inl (by omega)
  clear hn HA hL hA;go_in;rcases hc with hc|⟨rfl,rfl⟩
  all_goals
   go_wp2_with (first|(go_at_call 39;refine HMO.out.mono ?_;rintro e w0 ⟨rfl,hw0⟩;have hw8:=hw0.symm;subst hw8))
   refine dZ (results_tmp rfl _ _ _) rfl ?_;exact⟨rfl,Keep.refl _ _ _⟩
 obtain⟨hn1,hn2⟩:=hn;obtain⟨a1,a2,a3,a4⟩:=HA.out hn1 hn2;have HAP:=vl (zJT t ft a1 a2 a3 a4 p);subst hn1 hn2;clear a1 a2 a3 a4 HA hL hA;go_in;apply wp_cut;intro K0 J;go_wp2;apply J.out;clear J;apply wp_cut;intro K0 J;go_wp2_with (first|(go_at_call 39;refine HMO.out.mono ?_;rintro e w0 ⟨rfl,hw0⟩;have hw8:=hw0.symm;subst hw8))
 apply J.out;clear J HMO;apply wp_cut;intro K0 J;go_wp2;apply J.out;clear J;apply wp_cut;intro K0 J;go_wp2_with (first|(go_at_call 27;refine(HSC.out w d (Keep.refl _ _ _) (by omega)).mono ?_;rintro e w1 ⟨v,rfl,he1,hk1⟩))
 apply J.out;clear J;have HE1:=vl he1;have HK1:=vl hk1;obtain⟨ao,cap,rfl,h1,h2,-⟩:=he1;clear hk1;have hm:(t.events p d).length<=9223372036854775807:=by unfold maxLen at h2;omega
 have HMEM:Hid (∀j,j<(t.events p d).length->(t.events p d).getD j ⟨0,0,0,0,0,0⟩∈t.events p d):=fun j hj=>by
  rw[lW,lV hj,Option.getD_some];exact List.getElem_mem hj
 have HAD:=vl (HAP.out d);generalize t.events p d=E at *;go_wp2;go_loopg [10] E.length (fun q i wr=>∃j:Nat,q=E.length-j∧j<=E.length∧i=int i64 (j:Int)∧Grew w1 wr)
 case atStart=>exact⟨0,rfl,lX,rfl,Keep.refl _ _ _⟩
 case round=>
  obtain⟨j,hgk,hj,rfl,hk⟩:=hrel;have HG:=vl (And.intro hgk hk);clear hgk hk;by_cases hj2:j<E.length
  ·have i1:(j:Int)<(E.length:Int):=by omega
   obtain⟨gE,cE,hv,y0,y1,y2,y3,y4,y5⟩:=(HE1.out.grown HG.out.2).at j hj2;injection hv with e1 e2 e3;subst e1 e3;have HCE:Hid (∀w4,Grew w1 w4->w4.cell? ⟨gE,j*6+1,none⟩=some (int i64 (E.getD j ⟨0,0,0,0,0,0⟩).rule)∧w4.cell? ⟨gE,j*6+2,none⟩=some (int i64 (E.getD j ⟨0,0,0,0,0,0⟩).from_)∧w4.cell? ⟨gE,j*6+3,none⟩=some (int i64 (E.getD j ⟨0,0,0,0,0,0⟩).to)):=fun w4 hk=>by
    obtain⟨g,c,hv,_,x1,x2,x3,_⟩:=(HE1.out.grown hk).at j hj2;injection hv with e1;injection e1 with e1;injection e1 with e1;subst e1;exact⟨x1,x2,x3⟩
   have HEV:=vl (HAD.out _ (HMEM.out j hj2));generalize E.getD j ⟨0,0,0,0,0,0⟩=ev at *;obtain⟨k0,k1,k2,k3,k4,k5⟩:=ev;by_cases hk0:k0=1
   ·obtain⟨f,k,g1,g2,g3,g4⟩:=HEV.out hk0
    subst hk0;have g1':k2=(f:Int):=g1;have g2':k3=((f+k:Nat):Int):=g2;subst g1' g2';obtain⟨g,hg⟩:∃g,g=f+k:=⟨_,rfl⟩
    have HEV2:=vl g4;rw[<-hg] at y3 HEV2 g3 HCE;have hgk:(g:Int)-(f:Int)=(k:Int):=by omega
    have j1:(0:Int)<=(f:Int):=by omega
    have j2:(f:Int)<=(g:Int):=by omega
    have j3:(g:Int)<=(d.size:Int):=by omega
    have hz:(d.extract f g).size<=1048576:=by rw[ByteArray.size_extract];omega
    have HSD:Hid (Ca 27 #[pointer (some ⟨L,0,none⟩),string (d.extract f g)] wr.drew fun e w'=>∃v,e=returned v∧EvsAt w' v (t.events p (d.extract f g))∧Grew wr w'):=(HSC.out wr.drew _ ((HK1.out.trans (HG.out.2.lower HK1.out.size HK1.out.size)).trans (Keep.drew _)) hz).mono (by rintro e w' ⟨v,rfl,h1,h2⟩;exact⟨v,rfl,h1,h2.undrew⟩);rw[HEV2.out] at HSD;clear HEV hg g1 g2 g4 HEV2 HSC;generalize lnT (nats (d.extract f g)) k=ln at *;generalize clT (nats (d.extract f g)) k=cl at *;go_wp2;go_region_with ((go_at_call 27;go_must ((refine HSD.out.mono ?_;rintro e w4 ⟨vm,rfl,hem,hk4⟩))))
    all_goals
     have hk5:Grew w1 w4:=HG.out.2.trans (hk4.lower HG.out.2.size HG.out.2.size);obtain⟨x1,x2,x3⟩:=HCE.out w4 hk5;have HK5:=vl hk5;obtain⟨am,cm,rfl,-,-,hcm⟩:=hem;obtain⟨gm,rfl,-,hc0⟩:=hcm 0 (Nat.succ_pos _);obtain⟨gm2,hgm,-,hc1⟩:=hcm 1 (Nat.lt_succ_self _);injection hgm with hgm;injection hgm with hgm;subst hgm;have z1:w4.cell? ⟨gm,1,none⟩=some (int i64 k1):=hc0 1 _ rfl;have z3:w4.cell? ⟨gm,3,none⟩=some (int i64 (k:Int)):=hc0 3 _ rfl;have z6:w4.cell? ⟨gm,6,none⟩=some (int i64 2):=hc1 0 _ rfl;clear hcm hc0 hc1 hk4 hk5 HSD y0 y1 y2 y3 y4 y5;go_wp2;go_quiet (fail);go_wp2;go_roundg (E.length-(j+1))
     case measure=>rw[HG.out.1];omega
     case rel=>exact⟨j+1,rfl,by omega,by go_num,HK5.out.trans (Keep.alike (w':=w4.drewN nq) ⟨rfl,rfl,rfl⟩)⟩
   ·have hk0':(k0==1)=false:=by rw[hJ];exact hk0
    clear hk0;go_wp2;go_roundg (E.length-(j+1))
    case measure=>rw[HG.out.1];omega
    case rel=>exact⟨j+1,rfl,by omega,by go_num,HG.out.2⟩
  ·have i1:¬(j:Int)<(E.length:Int):=by omega
   go_wp2;refine dZ (results_tmp rfl _ _ _) rfl ?_;exact⟨rfl,HK1.out.trans (HG.out.2.lower HK1.out.size HK1.out.size)⟩
theorem zOz {s:ByteArray}{y:List Sm×Sh}(hl:jR s=some y):∀m∈y.1,m.Z:=by
 unfold jR at hl;cases hg:jY s 200 64 with
 |inl x=>
  rw[hg] at hl;cases hl
  exact zOB (ms:=y.1) (sh:=y.2) hg
 |inr e=>rw[hg] at hl;cases hl
theorem zLH (w:World)(s d:ByteArray):Calls prog 11 #[string s,string d] w fun e w'=>e=returned (bool true)∧Grew w w':=by
 rcases zLD w s d with HB|⟨y,hl,hs,hd,HB⟩
 ·have HBG:=vl HB
  clear HB;go_in;go_wp2_with (first|(go_at_call 14;refine HBG.out.mono ?_;rintro e w1 ⟨rfl,hk1⟩))
  refine dZ (results_tmp rfl _ _ _) rfl ?_;exact⟨rfl,hk1⟩
 have HBG:=vl HB;have HZ:Hid (∀m∈y.1,m.Z):=zOz hl;have HPL:Hid (y.2.pushed.length=(ints y.2.acts).length):=by show _=_;rw[zN];exact(zDE hl).2.2
 have HOF:Hid (∀w2,Ca 16 #[string s,int i64 64,bool false] w2 fun e w'=>Grew w2 w'∧∃L m0 m1 m2 s0 s1 s2 v0 v1 v2 AH ST LN,e=returned (tuple #[pointer (some ⟨L,0,none⟩),agg #[slice m0 m1 m2,slice s0 s1 s2,slice v0 v1 v2,int i64 AH,bool ST,int i64 LN]])∧Hid (∀w3,Grew w' w3->Ca 24 #[string s,pointer (some ⟨L,0,none⟩),string d] w3 fun e w4=>e=returned (bool true)∧Grew w3 w4)):=fun w2=>by
  refine(zH9 w2 s (by omega) 64 (by omega) (by omega) false).mono ?_;rintro e w' ⟨hk,x,m0,m1,m2,s0,s1,s2,v0,v1,v2,AH,ST,LN,rfl,hq⟩;unfold OfQ at hq;rw[hl] at hq;obtain⟨L,t,rfl,-,-,hL⟩:=hq;refine⟨hk,L,m0,m1,m2,s0,s1,s2,v0,v1,v2,AH,ST,LN,rfl,fun w3 hk3=>?_⟩;obtain⟨S,p,hA,-⟩:=hL.at_;obtain⟨n,ht,hn⟩:=hL.made;have hd1:t.Dead:=by rw[ht];exact zGp hn (by rw[<-ht];exact hL.fine.ok)
  refine zIG w3 s d S L p t (hA.grown hk3) hL.fine hs hd fun hm hp=>⟨hd1,fun hst=>?_,fun i=>?_,fun i=>?_⟩
  ·have hst2:zBg y false=true:=by
    cases e:zBg y false with
    |true=>rfl
    |false=>
     rw[ht] at hst;unfold qV at hst;unfold zBg at e;rw[if_neg (by rw[e];decide)] at hst;unfold vB at hst;rw[vU] at hst;cases hst
   rw[ht];exact zJw hL.modes HZ.out hst2 hn (by rw[<-ht];exact hL.fine.ok)
  ·have h1:=(zDE hl).1
   rw[hm] at h1;have g7:=(zDM y.1 (ints y.2.acts) (y.2.pushesTo y.2.pushed.length) 64 n false).2.2.2.2.2.2.1;have gm:t.nmode=y.1.length:=by rw[ht];unfold qV vB;split <;> rw[vU] <;> rfl
   have gr:t.nrule=(ints y.2.acts).length:=by rw[ht];unfold qV vB;split <;> rw[vU] <;> rfl
   by_cases hi:i<t.nrule
   ·have:=hL.fine.ok.push i hi
    omega
   ·rw[ht,g7]
    show((y.2.pushesTo y.2.pushed.length).getD i 0).toNat=0;have hlen:(y.2.pushesTo y.2.pushed.length).length<=i:=by
     rw[yR];have:=HPL.out;omega
    rw[lW,List.getElem?_eq_none hlen];rfl
  ·have g6:=(zDM y.1 (ints y.2.acts) (y.2.pushesTo y.2.pushed.length) 64 n false).2.2.2.2.2.1
   rw[ht,g6];show((ints y.2.acts).getD i 0).toNat≠3;intro h3;refine(zDE hl).2.1 hp ?_;unfold ints at h3;rw[lW,gU] at h3;cases e:y.2.acts[i]? with
   |none=>rw[e] at h3;cases h3
   |some a=>
    rw[e] at h3;have:a=3:=by simpa using h3
    rw[<-this];exact List.mem_of_getElem? e
 clear HB hl;go_in;apply wp_cut;intro K0 J;go_wp2;apply J.out;clear J;apply wp_cut;intro K0 J;go_wp2_with (first|(go_at_call 14;refine HBG.out.mono ?_;rintro e w1 ⟨rfl,hk1⟩))
 apply J.out;clear J;apply wp_cut;intro K0 J;go_wp2;apply J.out;clear J;apply wp_cut;intro K0 J;go_wp2_with (first|(go_at_call 16;refine(HOF.out _).mono ?_;rintro e w2 ⟨hk2,L,m0,m1,m2,s0,s1,s2,v0,v1,v2,AH,ST,LN,rfl,HS1⟩))
 apply J.out;clear J;obtain⟨w3,hw3,HW3⟩:∃w3,w3=w2.alloc (.cells #[slice m0 m1 m2,slice s0 s1 s2,slice v0 v1 v2,int i64 AH,bool ST,int i64 LN] 30)∧Hid (Grew w w3∧Grew w2 w3):=⟨_,rfl,(hk1.trans (hk2.lower hk1.size hk1.size)).trans (kZ _ _ (lY hk1.size hk2.size)),kZ _ _ lQ⟩
 have HC1:=vl (HS1.out w3 HW3.out.2);rw[<-hw3];clear hw3 hk2 hk1 HBG HS1 HOF;go_wp2_with (first|(go_at_call 24;refine HC1.out.mono ?_;rintro e w4 ⟨rfl,hk4⟩))
 refine dZ (results_tmp rfl _ _ _) rfl ?_;exact⟨rfl,HW3.out.1.trans (hk4.lower HW3.out.1.size HW3.out.1.size)⟩
section
open Go.ChangeShapes Go.WideShapes Go.ChangeAt Go.RowKit
open Go.ChangeMaps (open_string shut_string)
theorem zHj (os:Os)(started:os.Started)(H:Type)(enc:TypeId×Value->H):
  ReturnsInHanded {} checked os 11 .any (Rows.aloneSpec.pre6 enc prog f11 Rows.aloneRow.domain false) (Rows.aloneSpec.post enc prog f11 false true false false):=by
 refine returnsInHanded_of_change (C:=checked) own started (by kernel_rfl) func11
  (ChangeSpec.witness6 (enc:=enc) (C:=checked) false ⟨#[],#[.string ⟨#[]⟩,.string ⟨#[]⟩],[]⟩ 8 (by kernel_rfl) (by kernel_rfl) (by kernel_rfl) (by kernel_rfl)) ?_
 intro W base args ds gs before hval0 hW _ _;have hval:=hval0;have hW':=hW;obtain⟨p,q,hA0,hV,rfl,hfz,hnd⟩:=hW;have hA:=hA0;rw[params11] at hA hval;obtain⟨v0,vs0,d0,ds0,p0,q0,hargs,rfl,rfl,h0,r0⟩:=trodAll_cons hA;obtain⟨v1,vs1,d1,ds1,p1,q1,rfl,rfl,rfl,h1,r1⟩:=trodAll_cons r0;obtain⟨rfl,rfl,rfl⟩:=trodAll_nil r1;have hargs2:args=#[v0,v1]:=by cases args;simp_all
 subst hargs2;obtain⟨rfl,rfl⟩:=trodVars_none hV;obtain⟨a0,rfl,rfl,rfl,w0⟩:=open_string underlying9 (hval 0 9 v0 rfl rfl) h0;obtain⟨a1,rfl,rfl,rfl,w1⟩:=open_string underlying9 (hval 1 9 v1 rfl rfl) h1;simp only[dV] at hW';refine(zLH W a0 a1).mono fun e W' ⟨he,hk⟩=>?_;subst he;exact⟨_,rfl,zI8 hW' (fun _ _ _=>trodAll_mk1 (shut_bool underlying4 _)) (fun sp=>zJX (shut_string underlying9 w0) (zJX (shut_string underlying9 w1) (trodAll_mk0))) (fun _=>rfl)
  (hk.frame _) (ok_one (by kernel_rfl) rfl (okWide_bool_mk underlying4 _))⟩
theorem alone_holds:Rows.AloneSaid:=
 OpenClaim.holds_of_wide 11 f11 rfl rfl rfl rfl rfl rfl rfl ⟨rfl,rfl,rfl,rfl,rfl⟩ rfl rfl rfl rfl rfl (by kernel_rfl) func11 (by kernel_rfl)
  (of_decide_eq_true (by kernel_rfl)) (by unfold Func.isWrapper;first|(rw [if_pos (by decide +kernel)];kernel_rfl)|(rw [if_neg (by decide +kernel)];exact⟨rfl,rfl⟩))
  (fun os started H enc _=>zHj os started H enc)
end
end Go.Proofs.YtbjcfkdnjaiclaaGreat
