import Derived.Test.YtbjcfkdnjaiclaaGreatS0
import Derived.Test.YtbjcfkdnjaiclaaGreatS4
import Derived.Test.YtbjcfkdnjaiclaaGreatS5
import Derived.Test.YtbjcfkdnjaiclaaGreatS6
import Derived.Test.YtbjcfkdnjaiclaaGreatS25
import Derived.Test.YtbjcfkdnjaiclaaGreatS26
import Derived.Test.YtbjcfkdnjaiclaaGreatS29
/- Saved: a lexer that was written as bytes and read again tells the same events and is written as the same bytes, and its bytes with one less or one more are none; for every specification, text, hold and engine (texts of up to 65536 bytes, as the statement itself says). -/
set_option linter.unusedVariables false
set_option linter.unusedSimpArgs false
set_option maxHeartbeats 4000000
set_option maxRecDepth 100000
namespace Go.Proofs.YtbjcfkdnjaiclaaGreat
open Go.RowKit Go.Proofs.Tryz Go.World
open Go.Value (int slice bool pointer string agg tuple)
open Go.IntKind (i64)
open Go.Ending (returned)
theorem zC1 (s:ByteArray)(p n:Nat):(seg s p n).length=n:=by simp[seg]
theorem zKP {r:ByteArray}{l:List Nat}(a:r.data.toList=sealed l)(d:∀x∈l,x<256):r.size=l.length+4/\seg r 0 l.length=l/\zI6 r=true:=by
 have c:r.size=l.length+4:=by
  have:=congrArg List.length a;simpa[sealed,u8s,four] using this
 have f:seg r 0 l.length=l:=by
  apply List.ext_getElem
  ·rw[zC1]
  ·intro i k b
   simp only[seg,List.getElem_map,List.getElem_range,Nat.zero_add];unfold byt;rw[a,lW];unfold sealed u8s;rw[kW (by rw[kV];exact b),gQ,lV b];exact UInt8.toNat_ofNat_of_lt (d _ (List.getElem_mem b))
 refine⟨c,f,?_⟩;have g:=zI5 r (by omega);show(zKJ (r.extract 0 (r.size-4))==zIF (r.extract (r.size-4) r.size))=true;rw[<-g,beq_iff_eq,ByteArray.toList_eq];have e:(r.extract (r.size-4) r.size).data.toList=r.data.toList.drop (r.size-4):=by
  simp[List.take_of_length_le]
 have j:r.size-4=(u8s l).length:=by rw[c];simp[u8s]
 rw[e,j,a];unfold sealed;rw[List.drop_left,List.take_left]
theorem zIg {s:ByteArray}{p n:Nat}{f:Nat->Nat}(a:(List.range n).map f=seg s p n)(i:Nat)(b:i<n):byt s (p+i)=f i:=by
 have:=congrArg (λl=>l[i]?) a;simpa[seg,b] using this.symm
theorem zJB {s:ByteArray}{p n:Nat}{f g:Nat->Nat}(b:(List.range n).flatMap (λi=>[f i,g i])=seg s p (2*n))(i:Nat)(d:i<n):byt s (p+2*i)=f i/\byt s (p+2*i+1)=g i:=by
 induction n with
 |zero=>omega
 |succ n a=>
  have j:((List.range n).flatMap λi=>[f i,g i]).length=2*n:=by
   clear a b d;induction n with
   |zero=>rfl
   |succ n a=>rw[vR,kX,a];show 2*n+2=_;omega
  rw[vR,Nat.mul_succ,zBr] at b;obtain⟨k,l⟩:=List.append_inj b (by rw[j,zC1]);by_cases e:i=n
  ·subst e
   have m:[f i,g i]=[byt s (p+2*i+0),byt s (p+2*i+1)]:=l;injection m with o c;injection c with c;exact⟨o.symm,c.symm⟩
  ·exact a k (by omega)
theorem zLM {s:ByteArray}{p n:Nat}{f:Nat->Nat}(a:(List.range n).flatMap (λi=>two (f i))=seg s p (2*n))(i:Nat)(b:i<n)(e:f i<65536):xZ s (p+2*i)=f i:=by
 obtain⟨c,d⟩:=zJB (f:=λi=>f i/256%256) (g:=λi=>f i%256) a i b;unfold xZ;rw[c,d];omega
structure ReadsAs (r:ByteArray)(t:Tb):Prop where
 size:r.size=13+2*t.nmode+2*t.nrule+256+2*t.count*t.nst+t.nst+t.nlong+4
 sum:zI6 r=true
 b0:byt r 0=76
 b1:byt r 1=88
 b2:byt r 2=qK t
 b3:byt r 3=t.ahead
 b4:byt r 4=t.hold
 modes:xZ r 5=t.nmode
 rules:xZ r 7=t.nrule
 states:xZ r 9=t.nst
 kinds:xZ r 11=t.count
 start:∀i,i<t.nmode->xZ r (13+2*i)=t.start i
 rule:∀i,i<t.nrule->byt r (13+2*t.nmode+2*i)=t.act i/\byt r (13+2*t.nmode+2*i+1)=t.push i
 kind:∀i,i<256->byt r (13+2*t.nmode+2*t.nrule+i)=t.kind i
 next:∀i,i<t.nst->∀k,k<t.count->xZ r (13+2*t.nmode+2*t.nrule+256+2*t.count*i+2*k)=t.next i k
 ends:∀i,i<t.nst->(byt r (13+2*t.nmode+2*t.nrule+256+2*t.count*t.nst+i):Int)=t.ends i+1
 long:∀i,i<t.nlong->byt r (13+2*t.nmode+2*t.nrule+256+2*t.count*t.nst+t.nst+i)=t.long i
theorem zN5 {s:ByteArray}{t:Tb}{p n:Nat}(b:∀i,i<n->∀k,k<t.count->t.next i k<65536)(a:t.nextL n=seg s p (2*t.count*n))(i:Nat)(c:i<n)(k:Nat)(d:k<t.count):xZ s (p+2*t.count*i+2*k)=t.next i k:=by
 induction n with
 |zero=>omega
 |succ n f=>
  unfold Tb.nextL at a;rw[vR,Nat.mul_succ,zBr] at a;obtain⟨g,j⟩:=List.append_inj a (by rw[zC1];exact zBL t n);by_cases e:i=n
  ·subst e
   exact zLM j k d (b i c k d)
  ·exact f (λi c=>b i (by omega)) g (by omega)
theorem zDA {r:ByteArray}{t:Tb}(e:t.Fine)(s:r.data.toList=sealed t.bytesL):ReadsAs r t:=by
 have ok:=e.ok;have C:=e.mode2;have D:=e.rule2;have E:=ok.ahead;have F:=ok.hold;have G:=ok.nst;have H:=ok.count;have u:∀x∈t.bytesL,x<256:=by
  have j:qK t<256:=by unfold qK;split <;> omega
  unfold Tb.bytesL;refine qJ (qJ (qJ (qJ (qJ (qJ ?_ λx c=>zGw _ _ _ c) λx c=>zHj _ _ _ c) λx c=>zFA _ _ _ c) λx c=>zJK _ _ _ c) λx c=>zFA _ _ _ c) λx c=>?_
  ·unfold Tb.headL
   refine qJ (qJ (qJ (qJ (λx c=>?_) (zBW _)) (zBW _)) (zBW _)) (zBW _);simp at c;rcases c with rfl|rfl|rfl|rfl|rfl <;> omega
  ·obtain⟨i,a,rfl⟩:=List.mem_map.1 c
   exact ok.longB i (List.mem_range.1 a)
 obtain⟨v,d,w⟩:=zKP s u;have l:t.bytesL.length=13+2*t.nmode+2*t.nrule+256+2*t.count*t.nst+t.nst+t.nlong:=by
  unfold Tb.bytesL;simp only[kX,zBq,zB3,zBL];simp[Tb.headL,two,Tb.kindsL,Tb.endsL,Tb.longL]
 rw[l,zBr,zBr,zBr,zBr,zBr,zBr] at d;unfold Tb.bytesL at d;obtain⟨d,m⟩:=List.append_inj' d (by simp[seg,Tb.longL]);obtain⟨d,o⟩:=List.append_inj' d (by simp[seg,Tb.endsL]);obtain⟨d,p⟩:=List.append_inj' d (by rw[zC1,zBL]);obtain⟨d,q⟩:=List.append_inj' d (by simp[seg,Tb.kindsL]);obtain⟨d,s2⟩:=List.append_inj' d (by rw[zC1,zB3]);obtain⟨s0,s1⟩:=List.append_inj' d (by rw[zC1,zBq]);simp only[Nat.zero_add] at s1 s2 q p o m;have g:∀i x,t.headL[i]? =some x->i<13->byt r i=x:=λi x c a=>by
  rw[<-s0] at c;simpa[seg,a] using c
 have b:∀i,i<11+1->∀x y,t.headL[i]? =some x->t.headL[i+1]? =some y->xZ r i=256*x+y:=λi a x y j z=>by
  unfold xZ;rw[g i x j (by omega),g (i+1) y z (by omega)]
 refine⟨by rw[v,l],w,g 0 _ rfl (by decide),g 1 _ rfl (by decide),g 2 _ rfl (by decide),?_,?_,?_,?_,?_,?_,λi a=>?_,λi a=>?_,λi a=>?_,λi a k f=>?_,λi a=>?_,λi a=>zIg m.symm i a⟩
 ·exact(g 3 _ rfl (by decide)).trans (Nat.mod_eq_of_lt (by omega))
 ·exact(g 4 _ rfl (by decide)).trans (Nat.mod_eq_of_lt (by omega))
 ·rw[b 5 (by decide) _ _ rfl rfl];omega
 ·rw[b 7 (by decide) _ _ rfl rfl];omega
 ·rw[b 9 (by decide) _ _ rfl rfl];omega
 ·rw[b 11 (by decide) _ _ rfl rfl];omega
 ·exact zLM s1.symm i a (by have:=ok.start i a;omega)
 ·have I:=e.act i a
  have J:=ok.push i a;obtain⟨A,B⟩:=zJB s2.symm i a;rw[A,B];omega
 ·rw[zIg q.symm i a]
  have:=ok.kind i a;omega
 ·exact zN5 (λi a k f=>by have:=ok.next i k a f;omega) p.symm i a k f
 ·have:=ok.ends i a
  rw[zIg o.symm i a];unfold Tb.endN;omega
def zEE (f:Nat->Nat):Nat->Nat
 |0=>0
 |i+1=>if f i=zEE f i then zEE f i+1 else zEE f i
structure Tb.Whole (t:Tb):Prop where
 ways:t.rows=zF t.count t.ahead
 strm:t.stream=true\/t.ahead=0
 nlong:t.nlong=(t.nst*t.rows+7)/8
 met:∀i,i<256->t.kind i<=zEE t.kind i
 all:zEE t.kind 256=t.count
 bits:∀i,i<t.nlong->t.long i<=jV (t.nst*t.rows) i
structure Alike2 (u t:Tb):Prop where
 stream:u.stream=t.stream
 ahead:u.ahead=t.ahead
 hold:u.hold=t.hold
 count:u.count=t.count
 rows:u.rows=t.rows
 nst:u.nst=t.nst
 nmode:u.nmode=t.nmode
 nrule:u.nrule=t.nrule
 nlong:u.nlong=t.nlong
 start:∀i,i<t.nmode->u.start i=t.start i
 act:∀i,i<t.nrule->u.act i=t.act i
 push:∀i,i<t.nrule->u.push i=t.push i
 kind:∀i,i<256->u.kind i=t.kind i
 next:∀i,i<t.nst->∀k,k<t.count->u.next i k=t.next i k
 ends:∀i,i<t.nst->u.ends i=t.ends i
 long:∀i,i<t.nlong->u.long i=t.long i
structure Heads (r:ByteArray)(t:Tb):Prop where
 stream:xH r=qK t
 ahead:xL r=t.ahead
 hold:jG r=t.hold
 modes:zW r=t.nmode
 rules:xB r=t.nrule
 states:zG r=t.nst
 kinds:zT r=t.count
 ways:xV r=t.rows
theorem zJY {r:ByteArray}{t:Tb}(a:t.Fine)(d:t.Whole)(b2:byt r 2=qK t)(e:byt r 3=t.ahead)(f:byt r 4=t.hold)(m:xZ r 5=t.nmode)(g:xZ r 7=t.nrule)(h:xZ r 9=t.nst)(i:xZ r 11=t.count):Heads r t:=by
 have ok:=a.ok;have j:qK t<=1:=by unfold qK;split <;> omega
 have k:=ok.ahead;have l:=ok.hold;have o:=ok.hold0;have p:=ok.nmode;have q:=a.mode2;have s:=a.rule1;have u:=a.rule2;have v:=a.nst;have w:=ok.nst;have x:=a.count;have y:=ok.count;have b:xL r=t.ahead:=by unfold xL;rw[e];exact zR (by omega)
 have c:zT r=t.count:=by unfold zT;rw[i];exact zR (by omega)
 refine⟨by unfold xH;rw[b2];exact zR (by omega),b,by unfold jG;rw[f];exact zR (by omega),by unfold zW;rw[m];exact zR (by omega),by unfold xB;rw[g];exact zR (by omega),by unfold zG;rw[h];exact zR (by omega),c,?_⟩;unfold xV;rw[b,c,d.ways]
theorem ReadsAs.heads {r:ByteArray}{t:Tb}(a:ReadsAs r t)(b:t.Fine)(c:t.Whole):Heads r t:=zJY b c a.b2 a.b3 a.b4 a.modes a.rules a.states a.kinds
theorem zED {s:ByteArray}{p n:Nat}{f:Nat->Nat}(a:∀i,i<n->byt s (p+i)=f i)(b:∀i,i<n->f i<=zEE f i):yT s p n=zEE f n:=by
 induction n with
 |zero=>rfl
 |succ n c=>
  have:=c (λi d=>a i (by omega)) λi d=>b i (by omega);have e:within (byt s (p+n)) 0 (yT s p n)=f n:=by rw[a n (by omega),this];exact zR ⟨lX,b n (by omega)⟩
  rw[yT,e,this,zEE]
theorem zMb {r:ByteArray}{t:Tb}(a:Heads r t)(b:t.Whole)(n:Nat)(c:n=13+2*t.nmode+2*t.nrule+256+2*t.count*t.nst+t.nst+t.nlong+4):qL (zW r) (xB r) (zG r) (zT r) (xV r)+4=n:=by
 rw[a.modes,a.rules,a.states,a.kinds,a.ways,c,b.nlong];have d:2*t.count*t.nst=2*t.nst*t.count:=by rw[Nat.mul_assoc,Nat.mul_comm t.count,<-Nat.mul_assoc]
 have e:t.nst*t.rows=t.rows*t.nst:=Nat.mul_comm _ _;rw[d,e];unfold qL;omega
theorem zNJ {r:ByteArray}{t:Tb}(f:t.Fine)(d:t.Whole)(b:ReadsAs r t):zAl r=true:=by
 have c:=b.heads f d;have ok:=f.ok;have F:=ok.ahead;have G:=ok.hold;have H:=ok.hold0;have I:=ok.nmode;have J:=f.mode2;have K:=f.rule1;have L:=f.rule2;have M:=f.nst;have N:=ok.nst;have O:=f.count;have P:=ok.count;have w:=ok.rows;have x:=b.size;have y:qK t<=1:=by unfold qK;split <;> omega
 have z:=zED (s:=r) (p:=13+2*t.nmode+2*t.nrule) (n:=256) b.kind d.met;have g:q2 r=13+2*t.nmode:=by unfold q2;rw[c.modes]
 have l:q3 r=13+2*t.nmode+2*t.nrule:=by unfold q3;rw[g,c.rules]
 have m:q4 r=13+2*t.nmode+2*t.nrule+256:=by unfold q4;rw[l]
 have o:q5 r=13+2*t.nmode+2*t.nrule+256+2*t.count*t.nst:=by unfold q5;rw[m,c.kinds,c.states]
 have A:q6 r=13+2*t.nmode+2*t.nrule+256+2*t.count*t.nst+t.nst:=by unfold q6;rw[o,c.states]
 have B:nbit r=t.nst*t.rows:=by unfold nbit;rw[c.states,c.ways]
 rw[zBV];simp only[Bool.and_eq_true];refine⟨⟨⟨(zBg r).2 ⟨by omega,b.b0,b.b1,by rw[b.b2];exact y,by rw[b.b4];omega,by rw[b.modes];omega,by rw[b.rules];omega,by rw[b.states];omega,by rw[b.kinds];omega,by rw[c.ways];exact w,?_⟩,gJ (zMb c d r.size x).symm⟩,b.sum⟩,?_⟩
 ·rw[c.stream,c.ahead]
  unfold qK;rcases d.strm with e|e
  ·rw[e];exact .inl rfl
  ·exact .inr e
 ·unfold zF2
  simp only[Bool.and_eq_true,decide_eq_true_iff];rw[zHL,zHk,zB7,zHq,zJ3,zKf,g,l,m,o,A,B,c.modes,c.rules,c.states,c.kinds];refine⟨⟨⟨⟨⟨λi a=>?_,λi a=>?_⟩,λi a=>?_,z.trans d.all⟩,λi a k q=>?_⟩,λi a=>?_⟩,λi a=>?_⟩
  ·have:=ok.start i a
   rw[b.start i a];omega
  ·have u:=f.act i a
   have v:=ok.push i a;obtain⟨C,D⟩:=b.rule i a;rw[C,D];omega
  ·have e:=zED (s:=r) (p:=13+2*t.nmode+2*t.nrule) (n:=i) (λj E=>b.kind j (by omega)) λj E=>d.met j (by omega)
   rw[b.kind i a,e];exact⟨by omega,d.met i a⟩
  ·have u:=ok.next i k a q
   have v:2*t.count*i+2*k+1<2*t.count*t.nst:=by
    have:=Nat.mul_le_mul_left (2*t.count) (show i+1<=t.nst from a);rw[Nat.mul_succ] at this;omega
   rw[b.next i a k q];omega
  ·have u:=ok.ends i a
   have v:=b.ends i a;omega
  ·rw[<-d.nlong] at a
   rw[b.long i a];exact⟨by omega,d.bits i a⟩
theorem zOI {r:ByteArray}{t:Tb}(e:t.Fine)(d:t.Whole)(c:ReadsAs r t):Alike2 (zAy r) t:=by
 have a:=c.heads e d;have ok:=e.ok;have u:=e.nst;have v:=ok.nmode;have f:q2 r=13+2*t.nmode:=by unfold q2;rw[a.modes]
 have g:q3 r=13+2*t.nmode+2*t.nrule:=by unfold q3;rw[f,a.rules]
 have l:q4 r=13+2*t.nmode+2*t.nrule+256:=by unfold q4;rw[g]
 have m:q5 r=13+2*t.nmode+2*t.nrule+256+2*t.count*t.nst:=by unfold q5;rw[l,a.kinds,a.states]
 have q:q6 r=13+2*t.nmode+2*t.nrule+256+2*t.count*t.nst+t.nst:=by unfold q6;rw[m,a.states]
 have o:nbit r=t.nst*t.rows:=by unfold nbit;rw[a.states,a.ways]
 refine⟨?_,a.ahead,a.hold,a.kinds,a.ways,a.states,a.modes,a.rules,?_,λi b=>?_,λi b=>?_,λi b=>?_,λi b=>?_,λi b k p=>?_,λi b=>?_,λi b=>?_⟩
 ·show decide (xH r=1)=_
  rw[a.stream];unfold qK;cases t.stream <;> rfl
 ·show(nbit r+7)/8=_
  rw[o,d.nlong]
 ·have:=ok.start i b
  show toF r 13 (zG r) i=_;unfold toF;rw[c.start i b,a.states];exact zR (by omega)
 ·have:=e.act i b
  show zDe r (q2 r) i=_;unfold zDe;rw[f,(c.rule i b).1];exact zR (by omega)
 ·have:=ok.push i b
  show zAJ r (q2 r) (zW r) i=_;unfold zAJ;rw[f,(c.rule i b).2,a.modes];exact zR (by omega)
 ·show zBe r (q3 r) i=_
  unfold zBe;rw[g,c.kind i b,zED (λj s=>c.kind j (by omega)) λj s=>d.met j (by omega)];exact zR ⟨lX,d.met i b⟩
 ·have:=ok.next i k b p
  show toF r (q4 r+2*zT r*i) (zG r) k=_;unfold toF;rw[l,a.kinds,c.next i b k p,a.states];exact zR (by omega)
 ·have w:=ok.ends i b
  have x:=c.ends i b;show((zES r (q5 r) (xB r) i:Nat):Int)-1=_;unfold zES;rw[m,a.rules,zR (by omega)];omega
 ·show zCQ r (q6 r) (nbit r) i=_
  unfold zCQ;rw[q,o,c.long i b];exact zR ⟨lX,d.bits i b⟩
theorem zMn {r q:ByteArray}{t:Tb}(d:t.Fine)(c:t.Whole)(a:ReadsAs r t)(b:∀i,i<13->byt q i=byt r i)(f:q.size≠r.size):zAl q=false:=by
 have b2:∀i,i<12->xZ q i=xZ r i:=λi g=>by unfold xZ;rw[b i (by omega),b (i+1) (by omega)]
 have e:Heads q t:=zJY d c ((b 2 (by decide)).trans a.b2) ((b 3 (by decide)).trans a.b3) ((b 4 (by decide)).trans a.b4) ((b2 5 (by decide)).trans a.modes) ((b2 7 (by decide)).trans a.rules) ((b2 9 (by decide)).trans a.states) ((b2 11 (by decide)).trans a.kinds);have j:=zMb e c r.size a.size;have:zJZ q=false:=by
  unfold zJZ;rw[decide_eq_false_iff_not];omega
 rw[zBV,this];simp
theorem zI8 (u:Tb)(n:Nat)(a:(u.spreadTo n).2=false):u.spreadTo n=(u,false)/\∀s,s<n->u.live s=true\/u.anyTo s u.count=false:=by
 induction n with
 |zero=>exact⟨rfl,λs c=>absurd c (Nat.not_lt_zero _)⟩
 |succ n f=>
  unfold Tb.spreadTo at a ⊢;split at a
  ·cases a
  ·rename_i b
   obtain⟨d,g⟩:=f a;rw[if_neg b];refine⟨d,λs c=>?_⟩;by_cases e:s=n
   ·subst e
    rw[d] at b;cases i:u.live s with
    |true=>exact .inl rfl
    |false=>
     right
     cases j:u.anyTo s u.count with
     |false=>rfl
     |true=>
      refine absurd ?_ b;show(!u.live s&&u.anyTo s u.count)=true;rw[i,j];rfl
   ·exact g s (by omega)
theorem zM6 (ms:List Sm)(acts pushed:List Int)(hold n:Nat)(a:Bool):(jH ms acts pushed hold n a).nst=(zS ms acts pushed hold).nst/\(jH ms acts pushed hold n a).next=(zS ms acts pushed hold).next/\(jH ms acts pushed hold n a).kind=(zS ms acts pushed hold).kind/\(jH ms acts pushed hold n a).ends=(zS ms acts pushed hold).ends/\(jH ms acts pushed hold n a).start=(zS ms acts pushed hold).start/\(jH ms acts pushed hold n a).act=(zS ms acts pushed hold).act/\(jH ms acts pushed hold n a).push=(zS ms acts pushed hold).push/\(jH ms acts pushed hold n a).count=(zS ms acts pushed hold).count:=by
 have b:=vN (zS ms acts pushed hold).first n
 refine⟨?_,?_,?_,?_,?_,?_,?_,?_⟩ <;> unfold jH zAm <;> split <;> rw[b] <;> rfl
theorem zJW (t:Tb)(n:Nat)(a:((t.itr n).spreadTo t.nst).2=false)(k:Nat):t.itr (n+k)=t.itr n:=by
 induction k with
 |zero=>rfl
 |succ k b=>
  show((t.itr (n+k)).spreadTo t.nst).1=_;rw[b,(zI8 _ _ a).1]
def Rs.tabs (r:Rs)(p:Nat):Rs:={r with tp:=p}
def vZ (p:Nat)(f:Rs×List Ev):Rs×List Ev:=(f.1.tabs p,f.2)
theorem zI3 (r:Rs)(p:Nat)(t:Tb)(rule a l c:Nat):(r.tabs p).tok t rule a l c=vZ p (r.tok t rule a l c):=by
 unfold Rs.tok Rs.moved
 repeat' split
 all_goals first|rfl|contradiction
theorem zHf (r:Rs)(p i:Nat):(r.tabs p).lineTo i=r.lineTo i/\(r.tabs p).colTo i=r.colTo i:=by
 induction i with
 |zero=>exact⟨rfl,rfl⟩
 |succ i a=>
  rw[Rs.lineTo,Rs.lineTo,Rs.colTo,Rs.colTo,a.1,a.2];exact⟨rfl,rfl⟩
theorem zHe (r:Rs)(p:Nat)(t:Tb):(r.tabs p).long t=vZ p (r.long t):=by
 have a:(r.tabs p).length=r.length:=rfl;unfold Rs.long;rw[a,(zHf r p _).1,(zHf r p _).2];split
 ·rfl
 ·exact zI3 r.cut p t _ _ _ _
theorem zMv (r:Rs)(p:Nat)(t:Tb):(r.tabs p).heldStep t=vZ p (r.heldStep t):=by
 have e:((r.tabs p).ate t).marked t=((r.ate t).marked t).tabs p:=by
  have a:((r.tabs p).ate t).state=(r.ate t).state:=rfl;unfold Rs.marked;rw[a];split <;> rfl
 unfold Rs.heldStep Rs.judged;rw[e,zHe];have b:(((r.ate t).marked t).tabs p).state=((r.ate t).marked t).state:=rfl;rw[b];split <;> rfl
theorem zFQ (r:Rs)(p:Nat)(t:Tb)(n:Nat):(r.tabs p).heldN t n=vZ p (r.heldN t n):=by
 induction n with
 |zero=>rfl
 |succ n a=>
  have b:(vZ p (r.heldN t n)).1=(r.heldN t n).1.tabs p:=rfl;have c:((r.heldN t n).1.tabs p).taken=(r.heldN t n).1.taken:=rfl;have d:((r.heldN t n).1.tabs p).count=(r.heldN t n).1.count:=rfl;have e:((r.heldN t n).1.tabs p).opn=(r.heldN t n).1.opn:=rfl;rw[Rs.heldN,Rs.heldN,a,b,c,d,e,zMv];split <;> rfl
theorem zI4 (r:Rs)(p:Nat)(t:Tb)(a:t.stream=false)(c:Nat):(r.tabs p).eat t c=vZ p (r.eat t c):=by
 unfold Rs.eat
 rw[a];show(r.tabs p).takeO t c=vZ p (r.takeO t c);unfold Rs.takeO;have b:(r.tabs p).count=r.count:=rfl;rw[b];split
 ·rfl
 ·exact zFQ (r.added c) p t _
theorem zMw (p:Nat)(t:Tb)(a:t.stream=false)(cs:List Nat):∀r:Rs,Rs.feed t cs (r.tabs p)=vZ p (Rs.feed t cs r):=by
 induction cs with
 |nil=>intro r;rfl
 |cons c cs b=>
  intro r;have d:(r.tabs p).opn=r.opn:=rfl;have e:(vZ p (r.eat t c)).1=(r.eat t c).1.tabs p:=rfl;rw[Rs.feed,Rs.feed,d,zI4 r p t a,e,b];split <;> rfl
theorem zMx (r:Rs)(p:Nat)(t:Tb)(n:Nat):(r.tabs p).endN t n=vZ p (r.endN t n):=by
 induction n with
 |zero=>rfl
 |succ n a=>
  have b:(vZ p (r.endN t n)).1=(r.endN t n).1.tabs p:=rfl;have c:((r.endN t n).1.tabs p).count=(r.endN t n).1.count:=rfl;have d:((r.endN t n).1.tabs p).opn=(r.endN t n).1.opn:=rfl;have e:∀q:Rs,(q.tabs p).endO t=vZ p (q.endO t):=λq=>by
   unfold Rs.endO Rs.heldAll;rw[zHe];have f:(vZ p (q.long t)).1=(q.long t).1.tabs p:=rfl;have g:((q.long t).1.tabs p).todo=(q.long t).1.todo:=rfl;rw[f,g,zFQ];rfl
  rw[Rs.endN,Rs.endN,a,b,c,d,e];split <;> rfl
theorem zJ1 (t:Tb)(c:t.stream=false)(p b:Nat)(s:ByteArray):t.events p s=t.events b s:=by
 have d:Rs.born t p=(Rs.born t b).tabs p:=rfl;unfold Tb.events;rw[d,zMw p t c];generalize Rs.feed t (nats s) (Rs.born t b)=a;show a.2++((a.1.tabs p).shut t).2=a.2++(a.1.shut t).2
 congr 1
 unfold Rs.shut;have e:(a.1.tabs p).opn=a.1.opn:=rfl;rw[e,c];split
 ·show((a.1.tabs p).closeO t).2=(a.1.closeO t).2
  unfold Rs.closeO Rs.endAll;have f:(a.1.tabs p).count=a.1.count:=rfl;rw[f,zMx];have g:(vZ p (a.1.endN t (a.1.count+2))).1=(a.1.endN t (a.1.count+2)).1.tabs p:=rfl;have h:((a.1.endN t (a.1.count+2)).1.tabs p).opn=(a.1.endN t (a.1.count+2)).1.opn:=rfl;rw[g,h];split <;> rfl
 ·rfl
theorem zLg (ms:List Sm)(n:Nat)(k:n<=256):zEE (λi=>((zB ms 256).1.getD i 0).toNat) n=(zB ms n).2/\∀i,i<n->((zB ms 256).1.getD i 0).toNat<=zEE (λi=>((zB ms 256).1.getD i 0).toNat) i:=by
 induction n with
 |zero=>exact⟨rfl,λi b=>absurd b (Nat.not_lt_zero _)⟩
 |succ n g=>
  obtain⟨c,h⟩:=g (by omega);obtain⟨d,f⟩:=zEK ms n 256 (by omega);have j:=zC7 ms (n+1) n (by omega);rw[<-zDo ms (n+1) 256 n (by omega) (by omega)] at j;have l:(zB ms (n+1)).2<=(zB ms n).2+1:=by rw[f];split <;> omega
  refine⟨?_,λi b=>?_⟩
  ·rw[zEE,c,f]
   by_cases a:jR ms n<n
   ·rw[if_pos a,if_neg λe=>d.1 (by omega) a]
   ·rw[if_neg a,if_pos (by rw[d.2 a];rfl)]
  ·by_cases e:i=n
   ·subst e
    rw[c];omega
   ·exact h i (by omega)
theorem zDn (u:Tb)(a:Nat)(d:u.stream=true\/a=0)(e:∀i,i<256->u.kind i<=zEE u.kind i)(f:zEE u.kind 256=u.count):(u.looking a).Whole:=by
 have b:u.nst*zF u.count a=zF u.count a*u.nst:=Nat.mul_comm _ _;refine⟨rfl,d,by show(zF u.count a*u.nst+7)/8=(u.nst*zF u.count a+7)/8;rw[b],e,f,λi g=>?_⟩;have h:i<(zF u.count a*u.nst+7)/8:=g;show yB (u.aheadF a) (zF u.count a*u.nst) i<=jV (u.nst*zF u.count a) i;rw[b];generalize zF u.count a*u.nst=c at *;have j:=zCy (u.aheadF a) c i;unfold jV;split
 ·have:=zEA (u.aheadF a) c i (by omega) (by omega)
  omega
 ·omega
theorem zLm (ms:List Sm)(acts pushed:List Int)(hold n:Nat)(c:Bool):(jH ms acts pushed hold n c).Whole:=by
 obtain⟨a,b⟩:=zLg ms 256 lQ;unfold jH zAm;split
 ·rw[vN]
  exact zDn _ _ (.inl rfl) b a
 ·rw[vN]
  exact zDn _ _ (.inr rfl) b a
theorem zNz {u t:Tb}(s n k:Nat)(a:∀j,j<k->u.next s j=t.next s j/\t.next s j<n)(b:∀q,q<n->u.live q=t.live q):u.anyTo s k=t.anyTo s k:=by
 induction k with
 |zero=>rfl
 |succ k c=>
  obtain⟨d,e⟩:=a k (by omega);rw[Tb.anyTo,Tb.anyTo,c λj f=>a j (by omega),d,b _ e]
theorem zDV {u t:Tb}(n:Nat)(b:u.count=t.count)(c:∀s,s<n->∀j,j<t.count->u.next s j=t.next s j/\t.next s j<n)(d:∀q,q<n->u.live q=t.live q)(k:Nat)(m:k<=n):(∀q,q<n->(u.spreadTo k).1.live q=(t.spreadTo k).1.live q)/\(u.spreadTo k).2=(t.spreadTo k).2:=by
 induction k with
 |zero=>exact⟨d,rfl⟩
 |succ k f=>
  obtain⟨a,g⟩:=f (by omega);have e:(u.spreadTo k).1.anyTo k u.count=(t.spreadTo k).1.anyTo k t.count:=by
   rw[b];refine zNz k n t.count (λj i=>?_) a;rw[vP u k,vP t k];exact c k (by omega) j i
  rw[Tb.spreadTo,Tb.spreadTo,e,a k (by omega)];split
  ·refine⟨λq l=>?_,rfl⟩
   show(if q=k then true else _)=if q=k then true else _
   rw[a q l]
  ·exact⟨a,g⟩
theorem zM0 {u t:Tb}(b:u.nst=t.nst)(c:u.count=t.count)(d:∀s,s<t.nst->∀j,j<t.count->u.next s j=t.next s j/\t.next s j<t.nst)(e:∀q,q<t.nst->u.live q=t.live q)(n:Nat):∀q,q<t.nst->(u.itr n).live q=(t.itr n).live q:=by
 induction n with
 |zero=>exact e
 |succ n f=>
  rw[Tb.itr,Tb.itr,b];exact(zDV t.nst (by rw[vF,vF,c]) (λs g j a=>by rw[vF] at a;rw[vN u,vN t];exact d s g j a) f t.nst lQ).1
theorem zMX {r:ByteArray}{ms:List Sm}{acts pushed:List Int}{hold n m:Nat}{b:Bool}(ok:(jH ms acts pushed hold n b).Ok)(d:Alike2 (zAy r) (jH ms acts pushed hold n b))(w:(((zS ms acts pushed hold).first.itr n).spreadTo (zN ms ms.length)).2=false)(l:(((zAy r).first.itr m).spreadTo (zG r)).2=false):∀q,q<(jH ms acts pushed hold n b).nst->(zE1 r m).live q=(jH ms acts pushed hold n b).live q:=by
 obtain⟨e,x,-,y,-,-,-,g⟩:=zM6 ms acts pushed hold n b;have z:(jH ms acts pushed hold n b).live=((zS ms acts pushed hold).first.itr n).live:=by unfold jH zAm;split <;> rfl
 have o:(zAy r).nst=(zS ms acts pushed hold).nst:=d.nst.trans e;have p:∀s,s<(zS ms acts pushed hold).nst->∀j,j<(zS ms acts pushed hold).count->(zAy r).next s j=(zS ms acts pushed hold).next s j/\(zS ms acts pushed hold).next s j<(zS ms acts pushed hold).nst:=λs a j c=>by
  rw[<-e] at a ⊢;rw[<-g] at c;rw[<-x];exact⟨d.next s a j c,ok.next s j a c⟩
 have A:∀q,q<(zS ms acts pushed hold).nst->(zAy r).first.live q=(zS ms acts pushed hold).first.live q:=λq f=>by
  show((zAy r).ends q != -1)=((zS ms acts pushed hold).ends q != -1);rw[<-e] at f;rw[<-y,d.ends q f]
 have v:=zM0 (u:=(zAy r).first) (t:=(zS ms acts pushed hold).first) o (d.count.trans g) p A m;have a:=(zDV (u:=(zAy r).first.itr m) (t:=(zS ms acts pushed hold).first.itr m) (zS ms acts pushed hold).nst (by rw[vF,vF];exact d.count.trans g) (λs a j c=>by rw[vF] at c;rw[vN (zAy r).first,vN (zS ms acts pushed hold).first];exact p s a j c) v _ lQ).2;have B:(((zS ms acts pushed hold).first.itr m).spreadTo (zN ms ms.length)).2=false:=by
  rw[show zG r=(zS ms acts pushed hold).nst from o] at l;exact a.symm.trans l
 have C:(zS ms acts pushed hold).first.itr m=(zS ms acts pushed hold).first.itr n:=by
  rcases Nat.le_total n m with i|i
  ·obtain⟨k,rfl⟩:=Nat.exists_eq_add_of_le i
   exact zJW _ n w k
  ·obtain⟨k,rfl⟩:=Nat.exists_eq_add_of_le i
   exact(zJW _ m B k).symm
 intro q f;rw[z,<-C];exact v q (Nat.lt_of_lt_of_eq f e)
theorem IntsAt.as {w:World}{S:Nat->Prop}{v:Value}{n:Nat}{f g:Nat->Int}(c:IntsAt w S v n f)(e:∀i,i<n->f i=g i):IntsAt w S v n g:=by
 obtain⟨b,o,cap,d,rfl,j,k,l⟩:=c;exact⟨b,o,cap,d,rfl,j,k,λi a=>by rw[<-e i a];exact l i a⟩
theorem TabAt.agree {w:World}{S:Nat->Prop}{p:Nat}{u t:Tb}(B:TabAt w S p u)(a:Alike2 u t)(C:∀q,q<t.nst->u.live q=t.live q):TabAt w S p t:=by
 obtain⟨D,c0,c1,c2,⟨E,F,l⟩,⟨G,H,m⟩,⟨I,J,r⟩,⟨K,L,M⟩,s,⟨N,O,j⟩,⟨P,Q,v⟩,⟨R,T,y⟩,z,⟨U,V,A⟩⟩:=B;rw[a.stream] at c0;rw[a.ahead] at c1;rw[a.hold] at c2;rw[a.nmode] at l;rw[a.nrule] at m r;rw[a.count] at s j;rw[a.nst] at j v y;rw[a.rows] at z;rw[a.nlong] at A;refine⟨D,c0,c1,c2,⟨E,F,l.as λi c=>?_⟩,⟨G,H,m.as λi c=>?_⟩,⟨I,J,r.as λi c=>?_⟩,⟨K,L,M.as λi c=>?_⟩,s,⟨N,O,?_⟩,⟨P,Q,v.as λi c=>a.ends i c⟩,⟨R,T,?_⟩,z,⟨U,V,?_⟩⟩
 ·rw[a.start i c]
 ·rw[a.act i c]
 ·rw[a.push i c]
 ·rw[a.kind i c]
 ·obtain⟨b,o,cap,d,rfl,e,f,g⟩:=j
  refine⟨b,o,cap,d,rfl,e,f,λi c=>?_⟩;obtain⟨x,W,X⟩:=g i c;exact⟨x,W,X.as λk Y=>congrArg Int.ofNat (a.next i c k Y)⟩
 ·obtain⟨b,o,cap,d,rfl,e,f,g⟩:=y
  exact⟨b,o,cap,d,rfl,e,f,λi c=>(g i c).trans (congrArg (λx=>some (Value.bool x)) (C i c))⟩
 ·obtain⟨b,o,cap,d,rfl,e,f,g⟩:=A
  exact⟨b,o,cap,d,rfl,e,f,λi c=>(g i c).trans (congrArg (λx:Nat=>some (Value.int .u8 x)) (a.long i c))⟩
theorem zNL (r:Rs)(p:Nat)(t:Tb):(r.tabs p).fin t=vZ p (r.fin t):=by
 have a:(r.tabs p).state=r.state:=rfl;have b:(r.tabs p).ahead=r.ahead:=rfl;unfold Rs.fin;rw[a,b];split
 ·exact zI3 r p t _ _ _ _
 ·split <;> rfl
theorem zHd (r:Rs)(p:Nat)(t:Tb):(r.tabs p).step t=vZ p (r.step t):=zNL (r.took t) p t
theorem zMy (r:Rs)(p:Nat)(t:Tb)(c:Nat):(r.tabs p).eat t c=vZ p (r.eat t c):=by
 cases a:t.stream with
 |false=>exact zI4 r p t a c
 |true=>
  unfold Rs.eat
  rw[a];show(((r.added c).looked t (t.kind c)).tabs p).due t=vZ p (((r.added c).looked t (t.kind c)).due t);generalize (r.added c).looked t (t.kind c)=q;have e:(q.tabs p).count=q.count:=rfl;unfold Rs.due;rw[e];split
  ·exact zHd q p t
  ·rfl
theorem zKG (p:Nat)(t:Tb)(cs:List Nat):∀r:Rs,Rs.feed t cs (r.tabs p)=vZ p (Rs.feed t cs r):=by
 induction cs with
 |nil=>intro r;rfl
 |cons c cs a=>
  intro r;have b:(r.tabs p).opn=r.opn:=rfl;have d:(vZ p (r.eat t c)).1=(r.eat t c).1.tabs p:=rfl;rw[Rs.feed,Rs.feed,b,zMy,d,a];split <;> rfl
theorem zKH (p:Nat)(t:Tb)(n:Nat):∀r:Rs,Rs.drain t n (r.tabs p)=vZ p (Rs.drain t n r):=by
 induction n with
 |zero=>intro r;rfl
 |succ n a=>
  intro r;have b:(r.tabs p).opn=r.opn:=rfl;have c:((r.tabs p).look t).step t=vZ p ((r.look t).step t):=zHd (r.look t) p t;have d:(vZ p ((r.look t).step t)).1=((r.look t).step t).1.tabs p:=rfl;rw[Rs.drain,Rs.drain,b,c,d,a];split <;> rfl
theorem zIx (t:Tb)(p b:Nat)(s:ByteArray):t.events p s=t.events b s:=by
 cases c:t.stream with
 |false=>exact zJ1 t c p b s
 |true=>
  have d:Rs.born t p=(Rs.born t b).tabs p:=rfl;unfold Tb.events;rw[d,zKG];generalize Rs.feed t (nats s) (Rs.born t b)=a;show a.2++((a.1.tabs p).shut t).2=a.2++(a.1.shut t).2
  congr 1
  unfold Rs.shut;have e:(a.1.tabs p).opn=a.1.opn:=rfl;rw[e,c];split
  ·have f:(a.1.tabs p).count=a.1.count:=rfl
   have g:(a.1.tabs p).pad t (t.ahead-a.1.count)=(a.1.pad t (t.ahead-a.1.count)).tabs p:=rfl;have h:∀q:Rs,(q.tabs p).ended.2=q.ended.2:=λq=>by
    have i:(q.tabs p).opn=q.opn:=rfl;unfold Rs.ended;rw[i];split <;> rfl
   show((a.1.tabs p).closed t).2=(a.1.closed t).2;unfold Rs.closed;rw[f,g,zKH];generalize Rs.drain t a.1.count (a.1.pad t (t.ahead-a.1.count))=D;show D.2++(D.1.tabs p).ended.2=D.2++D.1.ended.2;rw[h]
  ·rfl
theorem zKb {a b:ByteArray}(c:a.data.toList=b.data.toList):a=b:=by
 cases a;cases b
 rw[ByteArray.mk.injEq];exact Array.toList_inj.1 c
theorem zF3 {r:ByteArray}{t:Tb}(a:t.Fine)(b:ReadsAs r t):17<=r.size/\r.size<=1000000:=by
 have c:=b.size;have d:2*t.count*t.nst<=2*256*200:=Nat.mul_le_mul (Nat.mul_le_mul lQ a.ok.count) a.ok.nst;have:=a.mode2;have:=a.rule2;have:=a.ok.nst;have:=a.long2;omega
theorem zNs (a b:ByteArray)(c:∀i,i<13->b.data.toList[i]? =a.data.toList[i]?):∀i,i<13->byt b i=byt a i:=λi d=>by
 unfold byt;rw[lW,lW,c i d]
theorem zJk (w:World)(ax F:Nat)(y:List Sm×Sh)(hold:Nat)(ay:Bool)(t:Tb)(N:LexIn w ax F y hold ay t)(G:ByteArray)(aI:G.size<=65536):Calls prog 22 #[pX F,string G] w λe w'=>e=returned (bool true)/\Grew w w':=by
 obtain⟨S,p,I,-⟩:=N.at_;obtain⟨n,O,ad⟩:=N.made;have g:=N.fine;have J:t.Whole:=by rw[O];exact zLm _ _ _ _ _ _
 have az:=vl (And.intro g (And.intro J I));have ae:Hid (Ca 36 #[pX F] w λe w'=>∃r:ByteArray,e=returned (string r)/\r.data.toList=sealed t.bytesL/\Grew w w'):=(zCD F p S t w I.cell I.tab I.safe g).mono (by rintro e w' ⟨⟨r,rfl,A⟩,j⟩;exact⟨r,rfl,A,j⟩);have af:Hid (∀r:ByteArray,r.data.toList=sealed t.bytesL->∀w1,Ca 37 #[string r] w1 λe w'=>∃x k o,e=returned (tuple #[pX x,iX 0])/\LexAt w' o x k t/\Grew w1 w'):=λr s w1=>by
  have U:=zDA g s;refine(zGh r w1 (by have:=(zF3 g U).2;omega)).mono ?_;rintro e w' ⟨V,-,j⟩;obtain⟨x,k,m,o,aA,-,H,-,W⟩:=j (zNJ g J U);have f:=zOI g J U;have aB:Alike2 (zE1 r m) t:=by rw[zFR];exact⟨f.stream,f.ahead,f.hold,f.count,f.rows,f.nst,f.nmode,f.nrule,f.nlong,f.start,f.act,f.push,f.kind,f.next,f.ends,f.long⟩
  refine⟨x,k,o,aA,⟨H.cell,H.lt,H.tab.agree aB ?_,H.safe⟩,V⟩;rw[O] at f ⊢;exact zMX (by rw[<-O];exact g.ok) f ad W
 have X:Hid (∀r:ByteArray,r.data.toList=sealed t.bytesL->∀q:ByteArray,(∀i,i<13->q.data.toList[i]? =r.data.toList[i]?)->q.size≠r.size->q.size<=1048576->∀w1,Ca 37 #[string q] w1 λe w'=>e=returned (tuple #[pointer none,iX 7])/\Grew w1 w'):=λr s q A j H w1=>by
  refine(zGh q w1 H).mono ?_;rintro e w' ⟨V,W,-⟩;exact⟨W (zMn g J (zDA g s) (zNs r q A) j),V⟩
 have ag:Hid (∀r:ByteArray,r.data.toList=sealed t.bytesL->17<=r.size/\r.size<=1000000):=λr s=>zF3 g (zDA g s);have ah:Hid (∀w1 o x k,LexAt w1 o x k t->Ca 36 #[pX x] w1 λe w'=>∃r:ByteArray,e=returned (string r)/\r.data.toList=sealed t.bytesL/\Grew w1 w'):=λw1 o x k C=>(zCD x k o t w1 C.cell C.tab C.safe g).mono (by rintro e w' ⟨⟨r,rfl,A⟩,j⟩;exact⟨r,rfl,A,j⟩);have Y:Hid (∀w1 o x k,LexAt w1 o x k t->Ca 27 #[pX x,string G] w1 λe w'=>∃v,e=returned v/\EvsAt w' v (t.events p G)/\Grew w1 w'):=λw1 o x k C=>(zJj C g G (by omega)).mono (by rintro e w' ⟨v,rfl,A,j⟩;exact⟨v,rfl,by rw[zIx t p k G];exact A,j⟩);clear O ad J N g I;go_in;apply wp_cut;intro u b;go_wp2;apply b.out;clear b;apply wp_cut;intro u b;go_wp2_with (first|(go_at_call 36;refine ae.mono ?_;rintro e w1 ⟨r,rfl,s,D⟩))
 apply b.out;clear b ae;have P:=vl s;have aJ:=ag r s;clear s ag;apply wp_cut;intro u b;go_wp2_with (first|(go_at_call 37;refine(af r P w1).mono ?_;rintro e w2 ⟨x,ai,aj,rfl,ak,aa⟩))
 apply b.out;clear b af;have E:Hid (Grew w w2/\LexAt w2 aj x ai t/\LexAt w2 S F p t):=⟨D.trans (aa.lower D.size D.size),ak,az.2.2.grown (D.trans (aa.lower D.size D.size))⟩
 clear ak D aa;have aC:(r.toList==[])=false:=by
  rw[ByteArray.toList_eq];cases C:r.data.toList with
  |nil=>
   have:r.data.toList.length=0:=by rw[C];rfl
   have j:r.data.toList.length=r.size:=Array.length_toList;omega
  |cons a l=>rfl
 apply wp_cut;intro u b;go_wp2;apply b.out;clear b aC;apply wp_cut;intro u b;go_wp2_with (first|(go_at_call 36;refine(ah _ _ _ _ E.2.1).mono ?_;rintro e ab ⟨c,rfl,al,Q⟩))
 apply b.out;clear b ah;have aD:c=r:=zKb (al.trans P.symm);subst aD;have z:Hid (Grew w ab/\LexAt ab aj x ai t/\LexAt ab S F p t):=⟨E.1.trans (Q.lower E.1.size E.1.size),E.2.1.grown Q,E.2.2.grown Q⟩
 clear al Q E;apply wp_cut;intro u b;go_wp2_with (first|(go_at_call 27;refine(Y _ _ _ _ z.2.2).mono ?_;rintro e aK ⟨aE,rfl,am,K⟩))
 apply b.out;clear b;have an:=vl (z.2.1.grown K);apply wp_cut;intro u b;go_wp2_with (first|(go_at_call 27;refine(Y _ _ _ _ an).mono ?_;rintro e ao ⟨aF,rfl,ap,ac⟩))
 apply b.out;clear b Y an;have R:Hid (Grew w ao):=(z.1.trans (K.lower z.1.size z.1.size)).trans (ac.lower (lY z.1.size K.size) (lY z.1.size K.size));have aq:=vl (zKR ao aE aF _ (am.grown ac) ap);clear am ap K ac z;apply wp_cut;intro u b;go_wp2_with (first|(go_at_call 32;refine aq.mono ?_;rintro e aL ⟨rfl,ar⟩))
 apply b.out;clear b aq;have M:=vl (R.trans (ar.lower R.size R.size));clear ar R;have aM:(c.size:Int)-1=((c.size-1:Nat):Int):=by omega
 have aN:c.size-1<=c.size:=by omega
 have au:Hid (∀w1,Ca 37 #[string (c.extract 0 (c.size-1))] w1 λe w'=>e=returned (tuple #[pointer none,iX 7])/\Grew w1 w'):=λw1=>X c P _ (λi aG=>by
  have j:c.data.toList.length=c.size:=Array.length_toList;have e:(c.extract 0 (c.size-1)).data.toList=c.data.toList.take (c.size-1):=by simp;rw[List.dropLast_eq_take,j]
  rw[e,List.getElem?_take,if_pos (by omega)]) (by rw[ByteArray.size_extract];omega) (by rw[ByteArray.size_extract];omega) w1
 have av:Hid (∀w1,Ca 37 #[string (c++⟨#[0]⟩)] w1 λe w'=>e=returned (tuple #[pointer none,iX 7])/\Grew w1 w'):=λw1=>X c P _ (λi aG=>by
  have j:c.data.toList.length=c.size:=Array.length_toList;have e:(c++⟨#[0]⟩).data.toList=c.data.toList++[0]:=by simp
  rw[e,kW (by omega)]) (by rw[ByteArray.size_append];show c.size+1≠_;omega) (by rw[ByteArray.size_append];show c.size+1<=_;omega) w1
 clear X;apply wp_cut;intro u b;go_wp2_with (first|(go_at_call 37;refine(au _).mono ?_;rintro e aO ⟨rfl,T⟩))
 apply b.out;clear b au;apply wp_cut;intro u b;go_wp2_with (first|(go_at_call 37;refine(av _).mono ?_;rintro e aP ⟨rfl,aw⟩))
 apply b.out;clear b av;have aH:=vl ((M.trans (T.lower M.size M.size)).trans (aw.lower (lY M.size T.size) (lY M.size T.size)));clear T aw;go_wp2;refine gV (results_tmp rfl _ _ _) rfl ?_;exact⟨by simp,aH⟩
theorem zMG (w:World)(s j:ByteArray)(hold:Int)(k:Bool)(u:-9223372036854775808<=hold)(v:hold<=9223372036854775807):Calls prog 9 #[string s,string j,iX hold,bool k] w λe w'=>e=returned (bool true)/\Grew w w':=by
 rcases zNv w s j with i|⟨y,z,P,G,i⟩
 ·have l:=vl i
  clear i;go_in;go_wp2_with (first|(go_at_call 14;refine l.mono ?_;rintro e w1 ⟨rfl,f⟩))
  refine gV (results_tmp rfl _ _ _) rfl ?_;exact⟨rfl,f⟩
 have l:=vl i;obtain⟨c,o⟩:∃c,c=zGb hold 64:=⟨_,rfl⟩
 have Q:c<64:=by rw[o];exact zNX _ _ (by decide)
 have A:Hid (∀w2,Ca 15 #[iX hold,iX 64] w2 λe w'=>e=returned (iX (c:Nat))/\w'=w2):=λw2=>by rw[o];exact zKX w2 hold u v 64 (by decide) (by decide)
 have B:Hid (∀w2,Ca 16 #[string s,iX (1+(c:Int)),bool k] w2 λe w'=>Grew w2 w'/\∃g m0 m1 m2 s0 s1 s2 v0 v1 v2 AH ST LN,e=returned (tuple #[pX g,agg #[slice m0 m1 m2,slice s0 s1 s2,slice v0 v1 v2,iX AH,bool ST,iX LN]])/\Hid (∀a,Grew w' a->Ca 22 #[pX g,string j] a λe C=>e=returned (bool true)/\Grew a C)):=λw2=>by
  have D:=zJJ w2 s (by omega) (1+c) (by omega) (by omega) k;rw[show ((1+c:Nat):Int)=1+(c:Int) by omega] at D;refine D.mono ?_;rintro e w' ⟨H,x,m0,m1,m2,s0,s1,s2,v0,v1,v2,AH,ST,LN,rfl,p⟩;unfold OfQ at p;rw[z] at p;obtain⟨g,t,rfl,-,-,I⟩:=p;exact⟨H,g,m0,m1,m2,s0,s1,s2,v0,v1,v2,AH,ST,LN,rfl,λa J=>zJk a _ g y _ k t (I.grown J) j G⟩
 clear o u v z i;go_in;apply wp_cut;intro q b;go_wp2;apply b.out;clear b;apply wp_cut;intro q b;go_wp2_with (first|(go_at_call 14;refine l.mono ?_;rintro e w1 ⟨rfl,f⟩))
 apply b.out;clear b;apply wp_cut;intro q b;go_wp2;apply b.out;clear b;apply wp_cut;intro q b;go_wp2_with (first|(go_at_call 15;refine(A _).mono ?_;rintro e R ⟨rfl,K⟩;have M:=K.symm;subst M)|(go_at_call 16;refine(B _).mono ?_;rintro e w2 ⟨r,g,m0,m1,m2,s0,s1,s2,v0,v1,v2,AH,ST,LN,rfl,E⟩))
 apply b.out;clear b;obtain⟨a,F,m⟩:∃a,a=w2.alloc (.cells #[slice m0 m1 m2,slice s0 s1 s2,slice v0 v1 v2,iX AH,bool ST,iX LN] 30)/\Hid (Grew w a/\Grew w2 a):=⟨_,rfl,(f.trans (r.lower f.size f.size)).trans (kZ _ _ (lY f.size r.size)),kZ _ _ lQ⟩
 have N:=vl (E a m.2);rw[<-F];clear F r f l E B A;go_wp2_with (first|(go_at_call 22;refine N.mono ?_;rintro e C ⟨rfl,O⟩))
 refine gV (results_tmp rfl _ _ _) rfl ?_;exact⟨rfl,m.1.trans (O.lower m.1.size m.1.size)⟩
section
open Go.ChangeShapes Go.WideShapes Go.ChangeAt Go.RowKit
open Go.ChangeMaps (open_string shut_string)
theorem zHT (os:Os)(started:os.Started)(H:Type)(enc:TypeId×Value->H):
  ReturnsInHanded {} checked os 9 .any (Rows.savedSpec.pre6 enc prog f9 Rows.savedRow.domain false) (Rows.savedSpec.post enc prog f9 false true false false):=by
 refine returnsInHanded_of_change (C:=checked) own started (by kernel_rfl) func9
  (ChangeSpec.witness6 (enc:=enc) (C:=checked) false ⟨#[],#[.string ⟨#[]⟩,.string ⟨#[]⟩,.int .i64 0,.bool false],[]⟩ 8 (by kernel_rfl) (by kernel_rfl) (by kernel_rfl) (by kernel_rfl)) ?_
 intro W base args ds gs before hval0 hW _ _;have hval:=hval0;have hW':=hW;obtain⟨p,q,hA0,hV,rfl,hfz,hnd⟩:=hW;have hA:=hA0;rw[params9] at hA hval;obtain⟨v0,vs0,d0,ds0,p0,q0,hargs,rfl,rfl,h0,r0⟩:=trodAll_cons hA;obtain⟨v1,vs1,d1,ds1,p1,q1,rfl,rfl,rfl,h1,r1⟩:=trodAll_cons r0;obtain⟨v2,vs2,d2,ds2,p2,q2,rfl,rfl,rfl,h2,r2⟩:=trodAll_cons r1;obtain⟨v3,vs3,d3,ds3,p3,q3,rfl,rfl,rfl,h3,r3⟩:=trodAll_cons r2;obtain⟨rfl,rfl,rfl⟩:=trodAll_nil r3;have hargs2:args=#[v0,v1,v2,v3]:=by cases args;simp_all
 subst hargs2;obtain⟨rfl,rfl⟩:=trodVars_none hV;obtain⟨a0,rfl,rfl,rfl,w0⟩:=open_string underlying9 (hval 0 9 v0 rfl rfl) h0;obtain⟨a1,rfl,rfl,rfl,w1⟩:=open_string underlying9 (hval 1 9 v1 rfl rfl) h1;obtain⟨a2,rfl,rfl,rfl,w2⟩:=open_int underlying3 (hval 2 3 v2 rfl rfl) h2;obtain⟨l2,u2⟩:=zP2 w2;obtain⟨a3,rfl,rfl,rfl⟩:=open_bool underlying4 (hval 3 4 v3 rfl rfl) h3;simp only[gG] at hW';refine(zMG W a0 a1 a2 a3 l2 u2).mono fun e W' ⟨he,hk⟩=>?_;subst he;exact⟨_,rfl,zKV hW' (fun _ _ _=>trodAll_mk1 (shut_bool underlying4 _)) (fun sp=>zFv (shut_string underlying9 w0) (zFv (shut_string underlying9 w1) (zFv (shut_int underlying3 w2) (zFv (shut_bool underlying4 a3) (trodAll_mk0))))) (fun _=>rfl)
  (hk.frame _) (ok_one (by kernel_rfl) rfl (okWide_bool_mk underlying4 _))⟩
theorem saved_holds:Rows.SavedSaid:=
 OpenClaim.holds_of_wide 9 f9 rfl rfl rfl rfl rfl rfl rfl ⟨rfl,rfl,rfl,rfl,rfl⟩ rfl rfl rfl rfl rfl (by kernel_rfl) func9 (by kernel_rfl)
  (of_decide_eq_true (by kernel_rfl)) (by unfold Func.isWrapper;first|(rw [if_pos (by decide +kernel)];kernel_rfl)|(rw [if_neg (by decide +kernel)];exact⟨rfl,rfl⟩))
  (fun os started H enc _=>zHT os started H enc)
end
end Go.Proofs.YtbjcfkdnjaiclaaGreat
