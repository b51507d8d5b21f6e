import Derived.Deep.DrawnRows
import Derived.Deep.RegionHeld3
import Derived.Deep.RegionLaw
import Derived.Test.YtbjcfkdnjaiclaaGreatS0
import Derived.Test.YtbjcfkdnjaiclaaGreatS24
/- Parts of the proof. -/
set_option linter.unusedVariables false
set_option linter.unusedSimpArgs false
set_option maxHeartbeats 4000000
set_option maxRecDepth 100000
namespace Go.Proofs.YtbjcfkdnjaiclaaGreat
open Go.RowKit Go.Proofs.Tryz Go.World
open Go.Value (int slice bool pointer string agg tuple)
open Go.IntKind (i64)
open Go.Ending (returned)
def yJ (l:List (ByteArray×List Tr)):Nat->Nat
 |0=>0
 |j+1=>yJ l j+(l.getD j (⟨#[]⟩,[])).2.length
theorem zCM (l a:List (ByteArray×List Tr))(j:Nat)(b:∀i,i<j->(l.getD i (⟨#[]⟩,[])).2.length=(a.getD i (⟨#[]⟩,[])).2.length):yJ l j=yJ a j:=by
 induction j with
 |zero=>rfl
 |succ j c=>
  show yJ l j+_=yJ a j+_;rw[c λi d=>b i (by omega),b j (by omega)]
def zCo (sh:Sh):Prop:=yJ sh.modes sh.modes.length=sh.acts.length/\∀a∈sh.acts,a<4
theorem zIB (l:List (ByteArray×List Tr))(k:Nat)(x:ByteArray×List Tr)(b:x.2.length=(l.getD k (⟨#[]⟩,[])).2.length+1)(j:Nat)(f:k<j)(g:j<=l.length):yJ (l.set k x) j=yJ l j+1:=by
 induction j with
 |zero=>omega
 |succ j c=>
  show yJ (l.set k x) j+((l.set k x).getD j (⟨#[]⟩,[])).2.length=yJ l j+(l.getD j (⟨#[]⟩,[])).2.length+1;by_cases e:k=j
  ·subst e
   have d:yJ (l.set k x) k=yJ l k:=zCM _ _ k λi h=>by rw[lW,lW,List.getElem?_set_ne (by omega)]
   have a:(l.set k x).getD k (⟨#[]⟩,[])=x:=by rw[lW,List.getElem?_set_self (by omega)];rfl
   rw[d,a,b];omega
  ·have a:(l.set k x).getD j (⟨#[]⟩,[])=l.getD j (⟨#[]⟩,[]):=by rw[lW,lW,List.getElem?_set_ne e]
   rw[c (by omega) (by omega),a];omega
theorem zPx (s:ByteArray):(zBH s).act<4:=by
 unfold zBH zJx
 repeat' split
 all_goals (dsimp only;omega)
theorem zHZ {sh c:Sh}{a:ByteArray}(b:yW sh a=some c)(s:zCo sh):zCo c:=by
 unfold yW at b;split at b
 ·cases b
 split at b
 ·cases b
 split at b
 ·have e:=hQ b
  subst e;refine⟨?_,s.2⟩;show yJ (sh.modes++[(a,[])]) (sh.modes++[(a,[])]).length=sh.acts.length;rw[kX];show yJ (sh.modes++[(a,[])]) sh.modes.length+((sh.modes++[(a,[])]).getD sh.modes.length (⟨#[]⟩,[])).2.length=_;have d:(sh.modes++[(a,[])]).getD sh.modes.length (⟨#[]⟩,[])=(a,[]):=by simp
  have f:yJ (sh.modes++[(a,[])]) sh.modes.length=yJ sh.modes sh.modes.length:=zCM _ _ _ λi g=>by rw[lW,lW,kW g]
  rw[d,f];exact s.1
 ·cases b
theorem zJr {sh b:Sh}{s:ByteArray}(a:jU sh s=some b)(d:zCo sh):zCo b:=by
 unfold jU at a;split at a
 ·split at a
  ·cases a
  split at a
  ·cases a
  split at a
  ·cases c:jN (vA s 32) sh.defs with
   |none=>rw[c] at a;cases a
   |some t=>
    rw[c] at a;have e:=hQ a;subst e;exact d
  ·cases a
 ·cases a
theorem zHY {sh d:Sh}{i s:ByteArray}(b:vQ sh i s=some d)(f:zCo sh):zCo d:=by
 unfold vQ at b;split at b
 ·split at b
  ·cases b
  split at b
  ·cases b
  split at b
  ·split at b
   ·rename_i m _ _ _
    cases g:jN (vA s 32) sh.defs with
    |none=>rw[g] at b;cases b
    |some t=>
     rw[g] at b;have e:=hQ b;subst e;have j:=zPx (qD s 32);generalize (zBH (qD s 32))=k at *;refine⟨?_,λa l=>by rcases kU.1 l with c|c;exact f.2 a c;rw[kY.1 c];exact j⟩;show yJ (sh.modes.set (sh.modes.length-1) ((sh.mode (sh.modes.length-1)).1,(sh.mode (sh.modes.length-1)).2++[t])) (sh.modes.set (sh.modes.length-1) _).length=(sh.acts++[k.act]).length;rw[List.length_set,kX,zIB sh.modes _ _ (by show((sh.mode (sh.modes.length-1)).2++[t]).length=_;rw[kX];rfl) sh.modes.length (by omega) lQ,f.1];rfl
   ·cases b
  ·cases b
 ·cases b
theorem zH0 {sh c:Sh}{s:ByteArray}(a:yK sh s=some c)(b:zCo sh):zCo c:=by
 unfold yK at a;split at a
 ·split at a
  ·exact zHZ a b
  split at a
  ·exact zJr a b
  ·exact zHY a b
 ·cases a
theorem zHt:∀f sh n s b,zAs f sh n s=.inl b->zCo sh->zCo b
 |0,_,_,_,_,d,c=>by cases d;exact c
 |f+1,sh,n,s,b,d,c=>by
  have a:(if s.size=0 then .inl sh else if zAD s 10 then(match yK sh (qD s 10) with|none=>.inr n|some b=>zAs f b (n+1) (vA s 10)) else .inr n)=(.inl b:Sh ⊕ Nat):=d;split at a
  ·cases a;exact c
  split at a
  ·cases e:yK sh (qD s 10) with
   |none=>rw[e] at a;cases a
   |some g=>
    rw[e] at a;exact zHt f g (n+1) _ b a (zH0 e c)
  ·cases a
theorem zJc {s:ByteArray}{sh:Sh}(b:zAw s=.inl sh):zCo sh:=by
 unfold zAw at b;split at b
 ·cases b
 cases e:zAs (s.size+1) Sh.none 1 s with
 |inr n=>rw[e] at b;cases b
 |inl d=>
  rw[e] at b;have c:(if d.there&&d.haveB then(if d.fitB then .inl d else .inr (0,4)) else .inr (0,3))=(.inl sh:Sh ⊕ (Nat×Nat)):=b;split at c
  ·split at c
   ·cases c
    exact zHt _ _ _ _ _ e ⟨rfl,λa f=>(List.not_mem_nil f).elim⟩
   ·cases c
  ·cases c
structure SmOk (m:Sm)(mo nr:Nat):Prop where
 one:1<=m.next.length
 few:m.next.length<=mo
 wide:∀row∈m.next,row.length=256/\∀x∈row,0<=x/\x<(m.next.length:Int)
 same:m.rules.length=m.next.length
 rules:∀r∈m.rules,-1<=r/\r<(m.empty.length:Int)
 start:0<=m.start/\m.start<(m.next.length:Int)
 len:m.empty.length=nr
theorem zN7 {D:Nat}{rules:List Tr}{a:Nat}{m:Sm}(b:zD6 D rules a=some m)(f:ModeFacts D rules):SmOk m a rules.length:=by
 have d:=zB6 D rules rules.length f.cnt;have l:=f.ok;have o:=f.fit;unfold zD6 at b;generalize yA D rules rules.length=n at *;cases g:n.sort a with
 |none=>rw[g] at b;cases b
 |some k=>
  rw[g] at b;obtain⟨p,-,q⟩:=zLR g l o;have c:(if (yP k n.areas a).full then none else some ⟨(yP k n.areas a).next,(yP k n.areas a).rules,(yP k n.areas a).of.getD k.start 0,n.empty⟩)=some m:=b;cases i:(yP k n.areas a).full with
  |true=>rw[i] at c;cases c
  |false=>
   rw[i] at c;have e:=hQ c;obtain⟨t,j⟩:=zHs k n.areas a (nr:=(n.rules.length:Int)) (by omega) q p.lens i;have s:n.empty.length=n.rules.length:=by rw[d.elen,d.rlen]
   subst e;exact⟨t.one,j.few,t.wide,j.same,λr u=>by have:=t.rules r u;show -1<=r/\r<(n.empty.length:Int);rw[s];exact this,zLW t _,d.elen⟩
theorem zHr (D:Nat)(sh:Sh)(t:∀j,j<sh.modes.length->ModeFacts D (sh.mode j).2):∀f j d ms,yO D sh f j d=some ms->j+f<=sh.modes.length->ms.length=f/\(∀i,i<f->∃g,g<=d/\SmOk (ms.getD i ⟨[],[],0,[]⟩) g (sh.mode (j+i)).2.length)/\zN ms f<=d
 |0,_,_,ms,p,_=>by
  have e:=hQ p;subst e;exact⟨rfl,λi u=>absurd u (Nat.not_lt_zero _),lX⟩
 |f+1,j,d,ms,p,y=>by
  have k:(match zD6 D (sh.mode j).2 d with|none=>none|some m=>(yO D sh f (j+1) (d-m.next.length)).map (m::·))=some ms:=p;cases r:zD6 D (sh.mode j).2 d with
  |none=>rw[r] at k;cases k
  |some m=>
   rw[r] at k;have ok:=zN7 r (t j (by omega));have o:(yO D sh f (j+1) (d-m.next.length)).map (m::·)=some ms:=k;cases s:yO D sh f (j+1) (d-m.next.length) with
   |none=>rw[s] at o;cases o
   |some l=>
    rw[s] at o;have e:=hQ o;have e:=e;subst e;obtain⟨a,b,c⟩:=zHr D sh t f (j+1) _ l s (by omega);have v:∀q,zN (m::l) (q+1)=m.next.length+zN l q:=λq=>by
     induction q with
     |zero=>show 0+m.next.length=m.next.length+0;omega
     |succ q w=>
      show zN (m::l) (q+1)+((m::l).getD (q+1) ⟨[],[],0,[]⟩).next.length=m.next.length+(zN l q+(l.getD q ⟨[],[],0,[]⟩).next.length)
      rw[w,show(m::l).getD (q+1) ⟨[],[],0,[]⟩=l.getD q ⟨[],[],0,[]⟩ from rfl];omega
    refine⟨by rw[List.length_cons,a],λi u=>?_,?_⟩
    ·cases i with
     |zero=>exact⟨d,lQ,ok⟩
     |succ i=>
      obtain⟨g,z,x⟩:=b i (by omega);refine⟨g,by omega,?_⟩;rw[show j+(i+1)=j+1+i by omega];exact x
    ·rw[v]
     have:=ok.few;omega
theorem zJl (D:Nat)(sh:Sh)(ms:List Sm)(a:∀i,i<sh.modes.length->(ms.getD i ⟨[],[],0,[]⟩).empty.length=(sh.mode i).2.length)(j:Nat)(c:j<=sh.modes.length):zU ms j=yJ sh.modes j:=by
 induction j with
 |zero=>rfl
 |succ j b=>
  show zU ms j+(ms.getD j ⟨[],[],0,[]⟩).empty.length=yJ sh.modes j+(sh.modes.getD j (⟨#[]⟩,[])).2.length;rw[b (by omega),a j (by omega)];rfl
theorem zN6 {w:World}{D:Nat}{p r s:Value}{sh:Sh}(g:SpecIs w D p r s sh)(t:zCo sh){most:Nat}(C:most<=200){ms:List Sm}(u:yO D sh sh.modes.length 0 most=some ms):ModesOk ms/\zU ms ms.length=sh.acts.length:=by
 obtain⟨a,b,c⟩:=zHr D sh (λj v=>g.facts v) sh.modes.length 0 most ms u (by omega);have l:=g.have_;unfold Sh.haveB at l;obtain⟨m,x⟩:=of_decide_eq_true l;have o:∀i (d:i<ms.length),ms.getD i ⟨[],[],0,[]⟩=ms[i]:=λi d=>by rw[lW,lV d];rfl
 have ok:∀i (d:i<ms.length),∃e,SmOk ms[i] e (sh.mode i).2.length:=λi d=>by
  obtain⟨e,-,k⟩:=b i (by omega);rw[o i d,Nat.zero_add] at k;exact⟨e,k⟩
 have y:zU ms ms.length=sh.acts.length:=by
  rw[a,zJl D sh ms (λi d=>by obtain⟨e,k⟩:=ok i (by omega);rw[o i (by omega)];exact k.len) _ lQ];exact t.1
 have k:1<=sh.acts.length:=by
  have E:=g.few 0 m;have F:=x 0 m;omega
 refine⟨⟨by omega,by have:=g.ok.modes;omega,λi d=>?_,λi d row z=>?_,λi d=>?_,λi d=>?_,by rw[a];omega,by omega,by have:=g.ok.acts;omega⟩,y⟩
 ·obtain⟨e,f⟩:=ok i d;exact f.one
 ·obtain⟨e,f⟩:=ok i d
  obtain⟨A,B⟩:=f.wide row z;refine⟨A,λq G=>B _ ?_⟩;rw[lW,lV (by omega:q<row.length)];exact List.getElem_mem _
 ·obtain⟨e,f⟩:=ok i d;exact⟨f.same,f.rules⟩
 ·obtain⟨e,f⟩:=ok i d;exact f.start
def yZ (st ho:Int):Bool:=decide (st<1)||decide (200<st)||decide (ho<1)||decide (64<ho)
def zBm (s:ByteArray)(st ho:Int):(List Sm×Sh) ⊕ (Nat×Nat):=
 if yZ st ho then .inr (0,6) else
 match zAw s with
 | .inr e=>.inr e
 | .inl sh=>match yO (1+6*s.size) sh sh.modes.length 0 st.toNat with
  |none=>.inr (0,5)
  |some ms=>.inl (ms,sh)
def zKu (w:World)(n k:Nat)(e:Ending)(w':World):Prop:=Grew w w'/\e=returned (tuple #[pointer none,agg #[slice none 0 0,slice none 0 0,slice none 0 0,int i64 0,bool false,int i64 (n:Int)],int i64 (k:Int)])
theorem vM (w:World)(q i:Nat)(v:Value)(c:Array Value)(t:TypeId)(b:w.heap[q]? =some (.cells c t)):∃a,a=w.setCell ⟨q,i,none⟩ v/\a.heap[q]? =some (.cells (c.setIfInBounds i v) t)/\a.heap.size=w.heap.size/\a.os=w.os/\a.output=w.output/\∀k,k≠q->a.heap[k]? =w.heap[k]? :=⟨_,rfl,by simp[setCell,lU,b],by rw[zC],rfl,rfl,λk d=>lJ _ _ _ _ d⟩
theorem zEu (w w2:World)(v0 v1 v2 d e f:Value)(l:w2.heap[w.heap.size+1]? =some (.cells #[slice none 0 0,slice none 0 0,slice none 0 0,iX 0,bool false,iX 0] 30))(m:Grew w w2):
  ∃a:World,a=((((((w2.setCell ⟨w.heap.size+1,0,none⟩ v0).setCell ⟨w.heap.size+1,1,none⟩ v1).setCell ⟨w.heap.size+1,2,none⟩ v2).setCell ⟨w.heap.size+1,3,none⟩ d).setCell ⟨w.heap.size+1,4,none⟩ e).setCell ⟨w.heap.size+1,5,none⟩ f)/\a.cell? ⟨w.heap.size+1,0,none⟩=some v0/\a.cell? ⟨w.heap.size+1,1,none⟩=some v1/\a.cell? ⟨w.heap.size+1,2,none⟩=some v2/\a.cell? ⟨w.heap.size+1,3,none⟩=some d/\a.cell? ⟨w.heap.size+1,4,none⟩=some e/\a.cell? ⟨w.heap.size+1,5,none⟩=some f/\Hid (Grew w a/\a.heap.size=w2.heap.size/\a.os=w2.os/\a.output=w2.output/\∀k,k≠w.heap.size+1->a.heap[k]? =w2.heap[k]?):=by
 obtain⟨o,p,c1,W,q,u1,r⟩:=vM w2 (w.heap.size+1) 0 v0 _ _ l;have s:=c1;obtain⟨t,u,c2,X,v,u2,x⟩:=vM o (w.heap.size+1) 1 v1 _ _ s;have b2:=c2;obtain⟨y,z,A,Y,B,u3,C⟩:=vM t (w.heap.size+1) 2 v2 _ _ b2;have D:=A;obtain⟨E,F,G,aa,H,u4,I⟩:=vM y (w.heap.size+1) 3 d _ _ D;have J:=G;obtain⟨K,L,M,ab,N,u5,O⟩:=vM E (w.heap.size+1) 4 e _ _ J;have P:=M;obtain⟨b,Q,R,ac,S,u6,T⟩:=vM K (w.heap.size+1) 5 f _ _ P;have U:b.heap[w.heap.size+1]? =some (.cells #[v0,v1,v2,d,e,f] 30):=R;have g:∀i,i≠w.heap.size+1->b.heap[i]? =w2.heap[i]? :=λi c=>(T i c).trans ((O i c).trans ((I i c).trans ((C i c).trans ((x i c).trans (r i c)))));have V:b.heap.size=w2.heap.size:=by omega
 have h:b.os=w2.os:=S.trans (N.trans (H.trans (B.trans (v.trans q))));have j:b.output=w2.output:=u6.trans (u5.trans (u4.trans (u3.trans (u2.trans u1))));refine⟨b,by rw[Q,L,F,z,u,p],?_,?_,?_,?_,?_,?_,m.trans ⟨h,j,by omega,λk ad _=>g k (by omega)⟩,V,h,j,g⟩
 all_goals (unfold cell?;rw[U];rfl)
theorem zHX {w w2:World}{c d:Int}{e:Bool}(a:Keep (w.heap.size+2) (w.heap.size+2) ((w.alloc (.cells #[iX c,iX d,bool e] 58)).alloc (.cells #[slice none 0 0,slice none 0 0,slice none 0 0,iX 0,bool false,iX 0] 30)) w2):w2.heap[w.heap.size+1]? =some (.cells #[slice none 0 0,slice none 0 0,slice none 0 0,iX 0,bool false,iX 0] 30)/\w2.cell? ⟨w.heap.size,0,none⟩=some (iX c)/\w2.cell? ⟨w.heap.size,1,none⟩=some (iX d)/\w2.cell? ⟨w.heap.size,2,none⟩=some (bool e)/\Grew w w2:=by
 have s1:(w.alloc (.cells #[iX c,iX d,bool e] 58)).heap.size=w.heap.size+1:=by simp
 have g:=gX w (.cells #[iX c,iX d,bool e] 58);have f:=gX (w.alloc (.cells #[iX c,iX d,bool e] 58)) (.cells #[slice none 0 0,slice none 0 0,slice none 0 0,iX 0,bool false,iX 0] 30);rw[s1] at f;have h:=(a.block w.heap.size (by omega) (by omega)).trans ((lG _ _ _ (by rw[s1];omega)).trans g);have i:=(a.block (w.heap.size+1) (by omega) (by omega)).trans f;refine⟨i,?_,?_,?_,((kZ (H:=w.heap.size) (b:=w.heap.size) _ _ lQ).trans (kZ _ _ (by rw[s1];omega))).trans ⟨a.os,a.output,a.size,λk g f=>a.block k (by omega) (by omega)⟩⟩
 all_goals (unfold cell?;rw[h];rfl)
theorem zAf {w:World}{q:Nat}(a:w.heap[q]? =some (.cells #[slice none 0 0,slice none 0 0,slice none 0 0,iX 0,bool false,iX 0] 30)):w.cell? ⟨q,0,none⟩=some (slice none 0 0)/\w.cell? ⟨q,1,none⟩=some (slice none 0 0)/\w.cell? ⟨q,2,none⟩=some (slice none 0 0)/\w.cell? ⟨q,3,none⟩=some (iX 0)/\w.cell? ⟨q,4,none⟩=some (bool false)/\w.cell? ⟨q,5,none⟩=some (iX 0)/\w.frozen? ⟨q,0,none⟩=false/\w.frozen? ⟨q,1,none⟩=false/\w.frozen? ⟨q,2,none⟩=false/\w.frozen? ⟨q,3,none⟩=false/\w.frozen? ⟨q,4,none⟩=false/\w.frozen? ⟨q,5,none⟩=false:=by
 refine⟨?_,?_,?_,?_,?_,?_,?_,?_,?_,?_,?_,?_⟩
 all_goals first|(unfold cell?;rw[a];rfl)|(unfold frozen?;rw[a];rfl)
theorem zHx (w:World)(b c:Int)(d:Bool):∃w2,w2=(w.alloc (.cells #[iX b,iX c,bool d] 58)).alloc (.cells #[slice none 0 0,slice none 0 0,slice none 0 0,iX 0,bool false,iX 0] 30)/\Hid (∀a,Keep (w.heap.size+2) (w.heap.size+2) w2 a->a.heap[w.heap.size+1]? =some (.cells #[slice none 0 0,slice none 0 0,slice none 0 0,iX 0,bool false,iX 0] 30)/\a.cell? ⟨w.heap.size,0,none⟩=some (iX b)/\a.cell? ⟨w.heap.size,1,none⟩=some (iX c)/\a.cell? ⟨w.heap.size,2,none⟩=some (bool d)/\Grew w a):=⟨_,rfl,λa e=>zHX e⟩
theorem zFC (w:World)(s:ByteArray)(a b:Int)(f:Bool)(j:a<1\/1<=a/\200<a\/1<=a/\a<=200/\b<1\/1<=a/\a<=200/\1<=b/\64<b):Calls prog 30 #[string s,agg #[iX a,iX b,bool f]] w (zKu w 0 6):=by
 obtain⟨w2,c,k⟩:=zHx w a b f;have y:Hid (w2.heap.size=w.heap.size+2):=by show _=_;rw[c];simp
 go_in;apply wp_cut;intro z g;go_wp2_with fail;apply g.out;clear g;rw[<-c];clear c;obtain⟨d,A,B,C,h⟩:=k w2 (Keep.refl _ _ _);obtain⟨D,E,F,G,H,I,J,K,L,M,N,O⟩:=zAf d;obtain⟨P,l,m,o,p,q,r,t,u⟩:=zEu w w2 (slice none 0 0) (slice none 0 0) (slice none 0 0) (iX 0) (bool false) (iX (0)) d h;clear d h;rcases j with e|⟨e,i⟩|⟨e,i,x⟩|⟨e,i,x,Q⟩
 all_goals
  go_wp2;rw[<-l];refine gV (v:=tuple #[pointer none,agg #[slice none 0 0,slice none 0 0,slice none 0 0,iX 0,bool false,iX (0)],iX 6]) (by simp[results,results30,go_sem,m,o,p,q,r,t]) rfl ?_;exact⟨u.1,rfl⟩
theorem zOl (w:World)(s:ByteArray)(c d:Int)(i:Bool)(t:s.size<=1048576)(L:1<=c)(M:c<=200)(N:1<=d)(O:d<=64)(n k:Nat)(u:k≠0)(j:zAw s=.inr (n,k)):Calls prog 30 #[string s,agg #[iX c,iX d,bool i]] w (zKu w n k):=by
 obtain⟨w2,f,l⟩:=zHx w c d i;have m:Hid (w2.heap.size=w.heap.size+2):=by show _=_;rw[f];simp
 have x:Hid (Ca 43 #[string s] w2 (zFE w2 (1+6*s.size) (.inr (n,k)))):=by have:=zA5 w2 s t;rw[j] at this;exact this
 have P:((k:Int) != 0)=true:=by simp;omega
 clear j u;go_in;apply wp_cut;intro o a;go_wp2_with fail;apply a.out;clear a;rw[<-f];clear f;obtain⟨-,y,z,A,-⟩:=l w2 (Keep.refl _ _ _);apply wp_cut;intro o a;go_wp2;apply a.out;clear a;clear y z A;apply wp_cut;intro o a;go_wp2_with (first|(go_at_call 43;refine x.mono ?_;rintro e p ⟨g,rfl⟩))
 apply a.out;clear a;obtain⟨b,q,B⟩:∃b,b=p.alloc (.cells #[slice none 0 0,slice none 0 0,slice none 0 0] 79)/\Hid (Keep (w.heap.size+2) (w.heap.size+2) w2 b):=by
  have C:Keep (w.heap.size+2) (w.heap.size+2) w2 p:=by rw[<-m.out];exact g
  refine⟨_,rfl,C.trans (kZ _ _ (by have:=g.size;rw[m.out] at this;omega))⟩
 rw[<-q];clear q g;obtain⟨h,Q,R,S,r⟩:=l b (B);obtain⟨T,U,V,W,X,Y,aa,ab,ac,ad,ae,af⟩:=zAf h;obtain⟨ag,D,E,F,G,H,I,J,K⟩:=zEu w b (slice none 0 0) (slice none 0 0) (slice none 0 0) (iX 0) (bool false) (iX ((n:Int))) h r;clear h r;go_wp2;rw[<-D];refine gV (v:=tuple #[pointer none,agg #[slice none 0 0,slice none 0 0,slice none 0 0,iX 0,bool false,iX ((n:Int))],iX (k:Int)]) (by simp[results,results30,go_sem,E,F,G,H,I,J]) rfl ?_;exact⟨K.1,rfl⟩
theorem SpecIs.grown {w w2:World}{D:Nat}{e f g:Value}{sh:Sh}(a:SpecIs w D e f g sh)(d:Grew w w2):SpecIs w2 D e f g sh:=by
 obtain⟨X,S,dv,i,rv,j,k,l⟩:=a.sheet;exact⟨⟨X,S,dv,i,rv,j,k,l.grown d⟩,(a.pushes.keep λb c=>d.block b c (kJ c)).mono λb c=>lZ c d.size,a.ok,a.few,a.there,a.have_,a.fit⟩
theorem SpecIs.forms {w:World}{D:Nat}{b d e:Value}{sh:Sh}(f:SpecIs w D b d e sh):(∃a c,b=slice a sh.modes.length c)/\(∃a c,d=slice a sh.acts.length c)/\∃a c,e=slice a sh.pushed.length c:=by
 obtain⟨X,S,dv,l,rv,m,o,g⟩:=f.sheet;obtain⟨j,k,i,-⟩:=f.pushes;rw[qR] at i;exact⟨zE g.mOwn,zE g.aOwn,j,k,i⟩
theorem SpecIs.acts {w:World}{D:Nat}{c a d:Value}{sh:Sh}(e:SpecIs w D c a d sh):Ints w (In w) a (ints sh.acts):=by
 obtain⟨X,S,dv,j,rv,k,l,f⟩:=e.sheet;have b:w.ownsRow (S+1) 3 1 a (ints sh.acts).length ((ints sh.acts).map λx=>iX x):=by
  rw[zO];unfold ints;rw[List.map_map];exact f.aOwn
 exact zCz b λg i=>(b.lt g i).2
theorem zLl (w:World)(s:ByteArray)(x:Bool)(L:s.size<=1048576)(m d:Nat)(ao:1<=m)(M:m<=200)(aq:1<=d)(ar:d<=64)(sh:Sh)(E:zAw s=.inl sh)(F:yO (1+6*s.size) sh sh.modes.length 0 m=none):Calls prog 30 #[string s,agg #[iX (m:Int),iX (d:Int),bool x]] w (zKu w 0 5):=by
 obtain⟨w2,y,z⟩:∃w2,w2=(w.alloc (.cells #[iX (m:Int),iX (d:Int),bool x] 58)).alloc (.cells #[slice none 0 0,slice none 0 0,slice none 0 0,iX 0,bool false,iX 0] 30)/\Hid (∀b,Keep (w.heap.size+2) (w.heap.size+2) w2 b->b.heap[w.heap.size+1]? =some (.cells #[slice none 0 0,slice none 0 0,slice none 0 0,iX 0,bool false,iX 0] 30)/\b.cell? ⟨w.heap.size,0,none⟩=some (iX (m:Int))/\b.cell? ⟨w.heap.size,1,none⟩=some (iX (d:Int))/\b.cell? ⟨w.heap.size,2,none⟩=some (bool x)/\Grew w b):=⟨_,rfl,λb N=>zHX N⟩
 have G:Hid (w2.heap.size=w.heap.size+2):=by show _=_;rw[y];simp
 have H:Hid (Ca 43 #[string s] w2 (zFE w2 (1+6*s.size) (.inl sh))):=by have:=zA5 w2 s L;rw[E] at this;exact this
 have au:(1:Int)<=(m:Int):=by omega
 have aw:(m:Int)<=200:=by omega
 have ax:(1:Int)<=(d:Int):=by omega
 have ay:(d:Int)<=64:=by omega
 have O:Hid (∀a i j k,SpecIs a (1+6*s.size) i j k sh->Ca 44 #[agg #[i,j,k],iX (m:Int)] a (zOM a (none))):=λa i j k d=>by have:=zDm a (1+6*s.size) i j k sh d m M;rw[F] at this;exact this
 clear E F;go_in;apply wp_cut;intro A c;go_wp2;apply c.out;clear c;rw[<-y];clear y;obtain⟨-,P,Q,R,-⟩:=z w2 (Keep.refl _ _ _);apply wp_cut;intro A c;go_wp2;apply c.out;clear c;clear P Q R;apply wp_cut;intro A c;go_wp2_with (first|(go_at_call 43;refine H.mono ?_;rintro e b ⟨C,i,j,k,rfl,D⟩;obtain⟨⟨l,o,S⟩,⟨p,q,T⟩,⟨r,t,U⟩⟩:=D.forms;subst S T U))
 apply c.out;clear c;obtain⟨a,I,V,W,X,g⟩:∃a,a=b.alloc (.cells #[slice l sh.modes.length o,slice p sh.acts.length q,slice r sh.pushed.length t] 79)/\a.cell? ⟨b.heap.size,0,none⟩=some (slice l sh.modes.length o)/\a.cell? ⟨b.heap.size,1,none⟩=some (slice p sh.acts.length q)/\a.cell? ⟨b.heap.size,2,none⟩=some (slice r sh.pushed.length t)/\Hid (Keep (w.heap.size+2) (w.heap.size+2) w2 a/\SpecIs a (1+6*s.size) (slice l sh.modes.length o) (slice p sh.acts.length q) (slice r sh.pushed.length t) sh/\b.heap.size<a.heap.size/\w.heap.size+2<=a.heap.size):=by
  have Y:Keep (w.heap.size+2) (w.heap.size+2) w2 b:=by rw[<-G.out];exact C
  have ab:w.heap.size+2<=b.heap.size:=by have:=C.size;rw[G.out] at this;exact this
  have ac:=gX b (.cells #[slice l sh.modes.length o,slice p sh.acts.length q,slice r sh.pushed.length t] 79);refine⟨_,rfl,?_,?_,?_,Y.trans (kZ _ _ ab),D.grown (kZ _ _ lQ),by simp,by simp;omega⟩
  all_goals (unfold cell?;rw[ac];rfl)
 rw[<-I];clear I C D H;apply wp_cut;intro A c;go_wp2;apply c.out;clear c;obtain⟨-,ad,-,-,-⟩:=z a g.1;obtain⟨u,f⟩:∃u,u=b.heap.size:=⟨_,rfl⟩
 have az:Hid (u<a.heap.size):=by show u<_;rw[f];exact g.2.2.1
 rw[<-f] at V W X ⊢;clear f;go_wp2_with (first|(go_at_call 44;refine(O a _ _ _ g.2.1).mono ?_;rintro e J ⟨ae,rfl⟩;obtain⟨f,ad,aA,aB,K⟩:=z J (g.1.trans (ae.lower g.2.2.2 g.2.2.2));obtain⟨aC,aD,aE,aF,aG,aH,aI,aJ,aK,aL,aM,aN⟩:=zAf f;obtain⟨aO,af,ag,ah,ai,aj,ak,al,an⟩:=zEu w J (slice none 0 0) (slice none 0 0) (slice none 0 0) (iX 0) (bool false) (iX (0)) f K;clear f K))
 rw[<-af];refine gV (v:=tuple #[pointer none,agg #[slice none 0 0,slice none 0 0,slice none 0 0,iX 0,bool false,iX (0)],iX 5]) (by simp[results,results30,go_sem,ag,ah,ai,aj,ak,al]) rfl ?_;exact⟨an.1,rfl⟩
theorem zFw (w2:World)(q:Nat)(c d e f g h:Value)(j:w2.heap[q]? =some (.cells #[slice none 0 0,slice none 0 0,slice none 0 0,iX 0,bool false,iX 0] 30)):
  ∃a:World,a=((((((w2.setCell ⟨q,0,none⟩ c).setCell ⟨q,1,none⟩ d).setCell ⟨q,2,none⟩ e).setCell ⟨q,3,none⟩ f).setCell ⟨q,4,none⟩ g).setCell ⟨q,5,none⟩ h)/\a.heap[q]? =some (.cells #[c,d,e,f,g,h] 30)/\a.heap.size=w2.heap.size/\a.os=w2.os/\a.output=w2.output/\∀k,k≠q->a.heap[k]? =w2.heap[k]? :=by
 obtain⟨l,m,c1,U,o,u1,p⟩:=vM w2 q 0 c _ _ j;have r:=c1;obtain⟨s,t,c2,V,u,u2,v⟩:=vM l q 1 d _ _ r;have b2:=c2;obtain⟨w,x,y,W,z,u3,A⟩:=vM s q 2 e _ _ b2;have B:=y;obtain⟨C,D,E,X,F,u4,G⟩:=vM w q 3 f _ _ B;have H:=E;obtain⟨I,J,K,Y,L,u5,M⟩:=vM C q 4 g _ _ H;have N:=K;obtain⟨O,P,Q,aa,R,u6,S⟩:=vM I q 5 h _ _ N;have T:=Q;exact⟨O,by rw[P,J,D,x,t,m],T,by omega,R.trans (L.trans (F.trans (z.trans (u.trans o)))),u6.trans (u5.trans (u4.trans (u3.trans (u2.trans u1)))),λi b=>(S i b).trans ((M i b).trans ((G i b).trans ((A i b).trans ((v i b).trans (p i b)))))⟩
theorem zOm (w a:World)(m:Ending->World->Prop)(p d:Nat)(m0 s0 v0:Option Addr)(m1 m2 s1 s2 v1 v2:Nat)(AH:Int)(ST:Bool)(l:a.heap[w.heap.size+1]? =some (.cells #[slice none 0 0,slice none 0 0,slice none 0 0,iX 0,bool false,iX 0] 30))(ai:d≠w.heap.size+1)(f:d<a.heap.size)
  (q:a.cell? ⟨d,0,none⟩=some (slice m0 m1 m2)) (r:a.cell? ⟨d,1,none⟩=some (slice s0 s1 s2)) (s:a.cell? ⟨d,2,none⟩=some (slice v0 v1 v2)) (t:a.cell? ⟨d,3,none⟩=some (iX AH)) (u:a.cell? ⟨d,4,none⟩=some (bool ST)) (x:a.cell? ⟨d,5,none⟩=some (iX 0))
  (y:∀b j,b.os=a.os->b.output=a.output->a.heap.size<=j->j<b.heap.size->(∀k,k<a.heap.size->k≠w.heap.size+1->b.heap[k]? =a.heap[k]?)->b.cell? ⟨j,0,none⟩=some (pX p)->m (returned (tuple #[pX j,agg #[slice m0 m1 m2,slice s0 s1 s2,slice v0 v1 v2,iX AH,bool ST,iX 0],iX 0])) b)
  {u0 u1 u2 u3 u4 u6 u7 u8 u9 u10 u11 u14 u15 u16 u17 u18 u19 u20 u21 u22 u23 u24 u25 u26 u27 u28 u29 u30 u31 u32 u33 u34 u35 u36 u37 u38 u39 u40 u41 u42 u43 u44 u45 u46 u47 u48 u49 u50 u51 u52 u53 u54 u55 u56 u57 u58 u59 u60 u61 u62 u63 u64 u65 u66 u67 u68 u69 u70 u71 u72 u73 u74 u75 u76 u77 u78 u79:Value}:
  Code.wp prog (xO 9 ((f30.body).getD .skip)) (bodyPost prog f30 m) ⟨(u0::u1::u2::u3::u4::pointer (some ⟨w.heap.size+1,0,none⟩)::u6::u7::u8::u9::u10::u11::pX p::pX d::u14::u15::u16::u17::u18::u19::u20::u21::u22::u23::u24::u25::u26::u27::u28::u29::u30::u31::u32::u33::u34::u35::u36::u37::u38::u39::u40::u41::u42::u43::u44::u45::u46::u47::u48::u49::u50::u51::u52::u53::u54::u55::u56::u57::u58::u59::u60::u61::u62::u63::u64::u65::u66::u67::u68::u69::u70::u71::u72::u73::u74::u75::u76::u77::u78::u79::[]).toArray,[]⟩ a:=by
 conv=>arg 2;whnf
 obtain⟨z,A,B,C,D,E,F,G,H,I,J,K⟩:=zAf l;have e:w.heap.size+1<a.heap.size:=(kQ.1 l).1;have M:=vl l;have N:=vl y;generalize w.heap.size+1=c at *;have aj:(a.alloc (Obj.cells #[pX p] 93)).cell? ⟨c,0,none⟩=some (slice none 0 0):=(gW _ _ _ e).trans z;have ak:(a.alloc (Obj.cells #[pX p] 93)).frozen? ⟨c,0,none⟩=false:=(frozen?_alloc_past _ _ _ e).trans F;have al:(a.alloc (Obj.cells #[pX p] 93)).cell? ⟨c,1,none⟩=some (slice none 0 0):=(gW _ _ _ e).trans A;have am:(a.alloc (Obj.cells #[pX p] 93)).frozen? ⟨c,1,none⟩=false:=(frozen?_alloc_past _ _ _ e).trans G;have q2:(a.alloc (Obj.cells #[pX p] 93)).cell? ⟨c,2,none⟩=some (slice none 0 0):=(gW _ _ _ e).trans B;have an:(a.alloc (Obj.cells #[pX p] 93)).frozen? ⟨c,2,none⟩=false:=(frozen?_alloc_past _ _ _ e).trans H;have q3:(a.alloc (Obj.cells #[pX p] 93)).cell? ⟨c,3,none⟩=some (iX 0):=(gW _ _ _ e).trans C;have ao:(a.alloc (Obj.cells #[pX p] 93)).frozen? ⟨c,3,none⟩=false:=(frozen?_alloc_past _ _ _ e).trans I;have q4:(a.alloc (Obj.cells #[pX p] 93)).cell? ⟨c,4,none⟩=some (bool false):=(gW _ _ _ e).trans D;have ap:(a.alloc (Obj.cells #[pX p] 93)).frozen? ⟨c,4,none⟩=false:=(frozen?_alloc_past _ _ _ e).trans J;have q5:(a.alloc (Obj.cells #[pX p] 93)).cell? ⟨c,5,none⟩=some (iX 0):=(gW _ _ _ e).trans E;have aq:(a.alloc (Obj.cells #[pX p] 93)).frozen? ⟨c,5,none⟩=false:=(frozen?_alloc_past _ _ _ e).trans K;have ar:(a.alloc (Obj.cells #[pX p] 93)).cell? ⟨d,0,none⟩=some (slice m0 m1 m2):=(gW _ _ _ f).trans q;have au:(a.alloc (Obj.cells #[pX p] 93)).cell? ⟨d,1,none⟩=some (slice s0 s1 s2):=(gW _ _ _ f).trans r;have av:(a.alloc (Obj.cells #[pX p] 93)).cell? ⟨d,2,none⟩=some (slice v0 v1 v2):=(gW _ _ _ f).trans s;have y3:(a.alloc (Obj.cells #[pX p] 93)).cell? ⟨d,3,none⟩=some (iX AH):=(gW _ _ _ f).trans t;have aw:(a.alloc (Obj.cells #[pX p] 93)).cell? ⟨d,4,none⟩=some (bool ST):=(gW _ _ _ f).trans u;have y5:(a.alloc (Obj.cells #[pX p] 93)).cell? ⟨d,5,none⟩=some (iX 0):=(gW _ _ _ f).trans x;apply wp_cut;intro O P;go_region
 all_goals
  obtain⟨h,S,T,U,V,W,X⟩:=zFw a c (slice m0 m1 m2) (slice s0 s1 s2) (slice v0 v1 v2) (iX AH) (bool ST) (iX 0) M;rw[<-S];obtain⟨b,Y,aa,ab,ac,ad,ae,af,i⟩:∃b,b=(h.alloc (Obj.cells #[pX p] 93)).drew/\b.cell? ⟨c,0,none⟩=some (slice m0 m1 m2)/\b.cell? ⟨c,1,none⟩=some (slice s0 s1 s2)/\b.cell? ⟨c,2,none⟩=some (slice v0 v1 v2)/\b.cell? ⟨c,3,none⟩=some (iX AH)/\b.cell? ⟨c,4,none⟩=some (bool ST)/\b.cell? ⟨c,5,none⟩=some (iX 0)/\Hid (b.os=a.os/\b.output=a.output/\a.heap.size<b.heap.size/\(∀k,k<a.heap.size->k≠c->b.heap[k]? =a.heap[k]?)/\b.cell? ⟨a.heap.size,0,none⟩=some (pX p)):=by
   have o:=gX h (Obj.cells #[pX p] 93);rw[U] at o;have g:(h.alloc (Obj.cells #[pX p] 93)).drew.heap[c]? =some (.cells #[slice m0 m1 m2,slice s0 s1 s2,slice v0 v1 v2,iX AH,bool ST,iX 0] 30):=(lG _ _ _ (by omega)).trans T;have ag:(h.alloc (Obj.cells #[pX p] 93)).drew.heap[a.heap.size]? =some (Obj.cells #[pX p] 93):=o;refine⟨_,rfl,?_,?_,?_,?_,?_,?_,V,W,?_,λk ax ah=>(lG _ _ _ (by omega)).trans (X k ah),?_⟩
   ·unfold cell?;rw[g];rfl
   ·unfold cell?;rw[g];rfl
   ·unfold cell?;rw[g];rfl
   ·unfold cell?;rw[g];rfl
   ·unfold cell?;rw[g];rfl
   ·unfold cell?;rw[g];rfl
   ·show a.heap.size<(h.alloc _).heap.size
    simp;omega
   ·unfold cell?;rw[ag];rfl
  rw[<-Y];show O _ _;apply P.out;go_wp2;refine gV (v:=tuple #[pX a.heap.size,agg #[slice m0 m1 m2,slice s0 s1 s2,slice v0 v1 v2,iX AH,bool ST,iX 0],iX 0]) (by simp[results,results30,go_sem,aa,ab,ac,ad,ae,af]) rfl ?_;exact N b a.heap.size i.1 i.2.1 lQ i.2.2.1 i.2.2.2.1 i.2.2.2.2
theorem zP6 (w a:World)(j:Ending->World->Prop)(m:World->Prop)(p b:Nat)(m0 s0 v0:Option Addr)(m1 m2 s1 s2 v1 v2:Nat)(AH:Int)(ST:Bool)(q:a.heap[w.heap.size+1]? =some (.cells #[slice none 0 0,slice none 0 0,slice none 0 0,iX 0,bool false,iX 0] 30))(A:b≠w.heap.size+1)(B:b<a.heap.size)(C:b≠p)(D:w.heap.size+1≠p)
  (r:a.cell? ⟨b,0,none⟩=some (slice m0 m1 m2)) (s:a.cell? ⟨b,1,none⟩=some (slice s0 s1 s2)) (t:a.cell? ⟨b,2,none⟩=some (slice v0 v1 v2)) (u:a.cell? ⟨b,3,none⟩=some (iX AH)) (v:a.cell? ⟨b,4,none⟩=some (bool ST)) (x:a.cell? ⟨b,5,none⟩=some (iX 0))
  (E:ST=true->Calls prog 47 #[pX p,iX AH] a (λe c=>e=returned (tuple #[])/\m c/\Keep a.heap.size p a c)) (F:ST=false->m a)
  (G:∀c d g,Keep a.heap.size p a c->m c->d.os=c.os->d.output=c.output->c.heap.size<=g->g<d.heap.size->(∀k,k<c.heap.size->k≠w.heap.size+1->d.heap[k]? =c.heap[k]?)->d.cell? ⟨g,0,none⟩=some (pX p)->j (returned (tuple #[pX g,agg #[slice m0 m1 m2,slice s0 s1 s2,slice v0 v1 v2,iX AH,bool ST,iX 0],iX 0])) d)
  {u0 u1 u2 u3 u4 u6 u7 u8 u9 u10 u11 u14 u15 u16 u17 u18 u19 u20 u21 u22 u23 u24 u25 u26 u27 u28 u29 u30 u31 u32 u33 u34 u35 u36 u37 u38 u39 u40 u41 u42 u43 u44 u45 u46 u47 u48 u49 u50 u51 u52 u53 u54 u55 u56 u57 u58 u59 u60 u61 u62 u63 u64 u65 u66 u67 u68 u69 u70 u71 u72 u73 u74 u75 u76 u77 u78 u79:Value}:
  Code.wp prog (xO 8 ((f30.body).getD .skip)) (bodyPost prog f30 j) ⟨(u0::u1::u2::u3::u4::pointer (some ⟨w.heap.size+1,0,none⟩)::u6::u7::u8::u9::u10::u11::pX p::pX b::u14::u15::u16::u17::u18::u19::u20::u21::u22::u23::u24::u25::u26::u27::u28::u29::u30::u31::u32::u33::u34::u35::u36::u37::u38::u39::u40::u41::u42::u43::u44::u45::u46::u47::u48::u49::u50::u51::u52::u53::u54::u55::u56::u57::u58::u59::u60::u61::u62::u63::u64::u65::u66::u67::u68::u69::u70::u71::u72::u73::u74::u75::u76::u77::u78::u79::[]).toArray,[]⟩ a:=by
 conv=>arg 2;whnf
 have y:=vl G;have f:Hid (a.heap[w.heap.size+1]? =some (.cells #[slice none 0 0,slice none 0 0,slice none 0 0,iX 0,bool false,iX 0] 30)/\b≠w.heap.size+1/\b<a.heap.size/\b≠p/\w.heap.size+1≠p/\w.heap.size+1<a.heap.size):=⟨q,A,B,C,D,(kQ.1 q).1⟩
 apply wp_cut;intro K z;cases ST with
 |false=>
  have o:=F rfl;go_wp2;apply z.out;exact zOm w a j p b m0 s0 v0 m1 m2 s1 s2 v1 v2 AH false f.1 f.2.1 f.2.2.1 r s t u v x (λd g=>y a d g (Keep.refl _ _ _) o)
 |true=>
  have H:=vl <| E rfl;go_wp2_with (first|(go_at_call 47;refine H.mono ?_;rintro e c ⟨rfl,o,l⟩))
  apply z.out;have I:=l.block (w.heap.size+1) f.2.2.2.2.2 f.2.2.2.2.1;have J:=l.block b f.2.2.1 f.2.2.2.1;have h:∀i,cX c b i=cX a b i:=λi=>gZ J;exact zOm w c j p b m0 s0 v0 m1 m2 s1 s2 v1 v2 AH true (I.trans f.1) f.2.1 (lZ f.2.2.1 l.size) ((h 0).trans r) ((h 1).trans s) ((h 2).trans t) ((h 3).trans u) ((h 4).trans v) ((h 5).trans x) (λd g=>y c d g l o)
theorem zP7 (w a:World)(o:Ending->World->Prop)(q:World->Prop)(p:Nat)(v:Option Addr)(x y t:Nat)(AH:Int)(ST u:Bool)(E:a.heap[w.heap.size+1]? =some (.cells #[slice none 0 0,slice none 0 0,slice none 0 0,iX 0,bool false,iX 0] 30))(bR:w.heap.size+2<=a.heap.size)(F:p<a.heap.size)(G:w.heap.size+1≠p)
  (H:a.cell? ⟨p,7,none⟩=some (iX (t:Nat))) (I:a.cell? ⟨w.heap.size,2,none⟩=some (bool u))
  (J:∀m,Grew a m->Calls prog 46 #[slice v x y,iX (t:Nat),bool u] (m) (λe w'=>∃m0 m1 m2 s0 s1 s2 v0 v1 v2,e=returned (agg #[slice m0 m1 m2,slice s0 s1 s2,slice v0 v1 v2,iX AH,bool ST,iX 0])/\Keep (m).heap.size (m).heap.size (m) w'))
  (z:∀c,Grew a c->(ST=true->Calls prog 47 #[pX p,iX AH] c (λe f=>e=returned (tuple #[])/\q f/\Keep c.heap.size p c f))/\(ST=false->q c))
  (K:∀m0 m1 m2 s0 s1 s2 v0 v1 v2 c f i j,Grew a c->Keep c.heap.size p c f->q f->i.os=f.os->i.output=f.output->f.heap.size<=j->j<i.heap.size->(∀k,k<f.heap.size->k≠w.heap.size+1->i.heap[k]? =f.heap[k]?)->i.cell? ⟨j,0,none⟩=some (pX p)->o (returned (tuple #[pX j,agg #[slice m0 m1 m2,slice s0 s1 s2,slice v0 v1 v2,iX AH,bool ST,iX 0],iX 0])) i)
  {u0 u1 u2 u4 u6 u7 u8 u9 u11 u13 u14 u15 u16 u17 u18 u19 u20 u21 u22 u23 u24 u25 u26 u27 u28 u29 u30 u31 u32 u33 u34 u35 u36 u37 u38 u39 u40 u41 u42 u43 u44 u45 u46 u47 u48 u49 u50 u51 u52 u53 u54 u55 u56 u57 u58 u59 u60 u61 u62 u63 u64 u65 u66 u67 u68 u69 u70 u71 u72 u73 u74 u75 u76 u77 u78 u79:Value}:
  Code.wp prog (xO 7 ((f30.body).getD .skip)) (bodyPost prog f30 o) ⟨(u0::u1::u2::pX w.heap.size::u4::pointer (some ⟨w.heap.size+1,0,none⟩)::u6::u7::u8::u9::slice v x y::u11::pX p::u13::u14::u15::u16::u17::u18::u19::u20::u21::u22::u23::u24::u25::u26::u27::u28::u29::u30::u31::u32::u33::u34::u35::u36::u37::u38::u39::u40::u41::u42::u43::u44::u45::u46::u47::u48::u49::u50::u51::u52::u53::u54::u55::u56::u57::u58::u59::u60::u61::u62::u63::u64::u65::u66::u67::u68::u69::u70::u71::u72::u73::u74::u75::u76::u77::u78::u79::[]).toArray,[]⟩ a:=by
 conv=>arg 2;whnf
 have l:Grew a (a.alloc (.cells #[slice none 0 0,slice none 0 0,slice none 0 0,iX 0,bool false,iX 0] 30)):=kZ _ _ lQ;have M:=vl J;have N:Hid (Grew a a.drew):=Keep.drew _;have O:Hid (Grew a (a.alloc (.cells #[slice none 0 0,slice none 0 0,slice none 0 0,iX 0,bool false,iX 0] 30)).drew):=⟨l.os,l.output,l.size,l.block⟩
 have P:Hid (∀b,Grew a.drew b->Grew a b):=λb d=>Keep.undrew d;have A:Hid (∀b,Keep ((a.alloc (.cells #[slice none 0 0,slice none 0 0,slice none 0 0,iX 0,bool false,iX 0] 30)).drew).heap.size ((a.alloc (.cells #[slice none 0 0,slice none 0 0,slice none 0 0,iX 0,bool false,iX 0] 30)).drew).heap.size ((a.alloc (.cells #[slice none 0 0,slice none 0 0,slice none 0 0,iX 0,bool false,iX 0] 30)).drew) b->b.heap[a.heap.size]? =some (.cells #[slice none 0 0,slice none 0 0,slice none 0 0,iX 0,bool false,iX 0] 30)):=λb d=>(d.block a.heap.size (by show a.heap.size<(a.alloc _).heap.size;simp) (by show a.heap.size≠(a.alloc _).heap.size;simp)).trans (gX a _);have S:Hid (∀b,Keep ((a.alloc (.cells #[slice none 0 0,slice none 0 0,slice none 0 0,iX 0,bool false,iX 0] 30)).drew).heap.size ((a.alloc (.cells #[slice none 0 0,slice none 0 0,slice none 0 0,iX 0,bool false,iX 0] 30)).drew).heap.size ((a.alloc (.cells #[slice none 0 0,slice none 0 0,slice none 0 0,iX 0,bool false,iX 0] 30)).drew) b->Grew a b):=λb d=>l.trans ⟨d.os,d.output,d.size,λk T bS=>d.block k (by show k<(a.alloc _).heap.size;simp;omega) (by show k≠(a.alloc _).heap.size;simp;omega)⟩;have r:Hid (∀b,Grew a b->b.cell? ⟨p,7,none⟩=some (iX (t:Nat))/\b.cell? ⟨w.heap.size,2,none⟩=some (bool u)):=λb d=>⟨zA H F d,zA I (show w.heap.size<a.heap.size by omega) d⟩
 have B:Hid (∀g c m0 m1 m2 s0 s1 s2 v0 v1 v2,Grew a c->a.heap.size<=g->g<c.heap.size->c.cell? ⟨g,0,none⟩=some (slice m0 m1 m2)->c.cell? ⟨g,1,none⟩=some (slice s0 s1 s2)->c.cell? ⟨g,2,none⟩=some (slice v0 v1 v2)->c.cell? ⟨g,3,none⟩=some (iX AH)->c.cell? ⟨g,4,none⟩=some (bool ST)->c.cell? ⟨g,5,none⟩=some (iX 0)->∀(U V b2 W X Y aa ab ac ad ae af ag ah ai aj ak al am an ao ap aq ar au av aw ax ay az aA aB aC aD aE aF aG aH aI aJ aK aL aM aN aO aP aQ aR aS aT aU aV aW aX aY aZ a0 a1 a2 a3 a4 a6 a7 a8 a9 ba bb bc bd be bf bg bh bi bj bk bl:Value),Code.wp prog (xO 8 ((f30.body).getD .skip)) (bodyPost prog f30 o) ⟨(U::V::b2::W::X::pointer (some ⟨w.heap.size+1,0,none⟩)::Y::aa::ab::ac::ad::ae::pX p::pX g::af::ag::ah::ai::aj::ak::al::am::an::ao::ap::aq::ar::au::av::aw::ax::ay::az::aA::aB::aC::aD::aE::aF::aG::aH::aI::aJ::aK::aL::aM::aN::aO::aP::aQ::aR::aS::aT::aU::aV::aW::aX::aY::aZ::a0::a1::a2::a3::a4::a6::a7::a8::a9::ba::bb::bc::bd::be::bf::bg::bh::bi::bj::bk::bl::[]).toArray,[]⟩ c):=λg c m0 m1 m2 s0 s1 s2 v0 v1 v2 d bT bm bn bo bp bq br bs _ _ _ _ _ _ _ _ _ _ _ _ _ _ _ _ _ _ _ _ _ _ _ _ _ _ _ _ _ _ _ _ _ _ _ _ _ _ _ _ _ _ _ _ _ _ _ _ _ _ _ _ _ _ _ _ _ _ _ _ _ _ _ _ _ _ _ _ _ _ _ _ _ _ _ _ _=>zP6 w c o q p g m0 s0 v0 m1 m2 s1 s2 v1 v2 AH ST ((d.block _ (by omega) (by omega)).trans E) (by omega) bm (by omega) G bn bo bp bq br bs (z c d).1 (z c d).2 (λf i j bt bu=>K m0 m1 m2 s0 s1 s2 v0 v1 v2 c f i j d bt bu);obtain⟨bU,bV⟩:=r (a.alloc (.cells #[slice none 0 0,slice none 0 0,slice none 0 0,iX 0,bool false,iX 0] 30)) l;refine wp_seq_k ?_;intro bv hK0;have bw:=vl hK0;go_region_with ((go_at_call 46;go_must ((refine (M _ (by first|exact N|exact O)).mono ?_;rintro e b ⟨m0,m1,m2,s0,s1,s2,v0,v1,v2,rfl,s⟩;first|(have h:=P b s;obtain⟨bx,bz⟩:=r b h;obtain⟨bA,bB,bC,bD,bE,bF,bG,bH,bI,bJ,bK,bL⟩:=zAf (gX b (.cells #[slice none 0 0,slice none 0 0,slice none 0 0,iX 0,bool false,iX 0] 30));obtain⟨bW,bX⟩:=r (b.alloc (.cells #[slice none 0 0,slice none 0 0,slice none 0 0,iX 0,bool false,iX 0] 30)) (h.trans (kZ _ _ h.size)))|(have h:=S b s;obtain⟨bA,bB,bC,bD,bE,bF,bG,bH,bI,bJ,bK,bL⟩:=zAf (A b s);obtain⟨bx,bz⟩:=r b h)))))
 all_goals
  show bv _ _;apply bw.out
  first
  |(obtain ⟨bM,bN,C,bY,bO,bP,bQ⟩:=zFw b a.heap.size (slice m0 m1 m2) (slice s0 s1 s2) (slice v0 v1 v2) (iX AH) (bool ST) (iX 0) (A b s);rw[<-bN];refine B a.heap.size bM m0 m1 m2 s0 s1 s2 v0 v1 v2 (h.trans ⟨bO,bP,by omega,λk T _=>bQ k (by omega)⟩) lQ (kQ.1 C).1 ?_ ?_ ?_ ?_ ?_ ?_ _ _ _ _ _ _ _ _ _ _ _ _ _ _ _ _ _ _ _ _ _ _ _ _ _ _ _ _ _ _ _ _ _ _ _ _ _ _ _ _ _ _ _ _ _ _ _ _ _ _ _ _ _ _ _ _ _ _ _ _ _ _ _ _ _ _ _ _ _ _ _ _ _ _ _ _ _;all_goals (unfold cell?;rw[C];rfl))
  |(have D:=gX b (.cells #[slice m0 m1 m2,slice s0 s1 s2,slice v0 v1 v2,iX AH,bool ST,iX 0] 30);refine B b.heap.size _ m0 m1 m2 s0 s1 s2 v0 v1 v2 (h.trans (kZ _ _ h.size)) h.size (kQ.1 D).1 ?_ ?_ ?_ ?_ ?_ ?_ _ _ _ _ _ _ _ _ _ _ _ _ _ _ _ _ _ _ _ _ _ _ _ _ _ _ _ _ _ _ _ _ _ _ _ _ _ _ _ _ _ _ _ _ _ _ _ _ _ _ _ _ _ _ _ _ _ _ _ _ _ _ _ _ _ _ _ _ _ _ _ _ _ _ _ _ _;all_goals (unfold cell?;rw[D];rfl))
def jH (ms:List Sm)(acts pushed:List Int)(hold n:Nat)(fo:Bool):Tb:=if !fo&&yG (aheadTo ms ms.length) (zB ms 256).2 then{zAm ms acts pushed hold n with stream:=true}.looking (aheadTo ms ms.length).toNat else zAm ms acts pushed hold n
def zOO (w:World)(ms:List Sm)(acts pushed:List Int)(hold:Nat)(fo:Bool)(e:Ending)(w':World):Prop:=
 Grew w w'/\∃L p H c n m0 m1 m2 s0 s1 s2 v0 v1 v2,e=returned (tuple #[pointer (some ⟨L,0,none⟩),agg #[slice m0 m1 m2,slice s0 s1 s2,slice v0 v1 v2,int i64 (aheadTo ms ms.length),bool (!fo&&yG (aheadTo ms ms.length) (zB ms 256).2),int i64 0],int i64 0])/\w'.cell? ⟨L,0,none⟩=some (pointer (some ⟨p,0,none⟩))/\L<w'.heap.size/\w.heap.size<=L/\w.heap.size<=H/\w.heap.size<=p/\Mem w' H p c (jH ms acts pushed hold n fo)/\(((zS ms acts pushed hold).first.itr n).spreadTo (zN ms ms.length)).2=false/\ModesOk ms/\acts.length=zU ms ms.length/\pushed.length=acts.length
theorem ModesAt.grown {w w2:World}{v:Value}{ms:List Sm}(d:ModesAt w (In w) v ms)(a:Grew w w2):ModesAt w2 (In w2) v ms:=by
 have e:=d.keep (w':=w2) λb c=>a.block b c (kJ c);obtain⟨ao,cap,f,j,k,l⟩:=e;refine⟨ao,cap,f,j,k,λi p=>?_⟩;obtain⟨b,o,u0,u1,u3,q,r,s,t,u,x,y,z,A⟩:=l i p;have m:∀g,In w g->In w2 g:=λg B=>lZ B a.size;exact⟨b,o,u0,u1,u3,q,m _ r,s,t,u,x,y.mono m,z.mono m,A.mono m⟩
theorem zKt (l:List Nat):∀i,i<(ints l).length->0<=(ints l).getD i 0:=λi a=>by
 unfold ints at a ⊢;rw[lW,lV a,List.getElem_map];show(0:Int)<=((l[i]'(by simpa using a):Nat):Int);omega
theorem zJw {sh:Sh}(b:sh.there=true):∀i,i<(sh.pushesTo sh.pushed.length).length->0<=(sh.pushesTo sh.pushed.length).getD i 0:=λi a=>by
 have c:=a;rw[qR] at c;unfold Sh.there at b;have d:=(of_decide_eq_true b) i c;unfold Sh.pushesTo at a ⊢;rw[lW,lV a,List.getElem_map,List.getElem_range];exact d
theorem zP5 (w:World)(s:ByteArray)(fo:Bool)(hs:s.size<=1048576)(m h:Nat)(h1:1<=m)(h2:m<=200)(h3:1<=h)(h4:h<=64)(sh:Sh)(hsp:zAw s=.inl sh)(ms:List Sm)(hmo:yO (1+6*s.size) sh sh.modes.length 0 m=some ms):Calls prog 30 #[string s,agg #[iX (m:Int),iX (h:Int),bool fo]] w (zOO w ms (ints sh.acts) (sh.pushesTo sh.pushed.length) h fo):=by
 obtain⟨w2,hw2,HK1⟩:∃w2,w2=(w.alloc (.cells #[iX (m:Int),iX (h:Int),bool fo] 58)).alloc (.cells #[slice none 0 0,slice none 0 0,slice none 0 0,iX 0,bool false,iX 0] 30)/\Hid (∀w3,Keep (w.heap.size+2) (w.heap.size+2) w2 w3->w3.heap[w.heap.size+1]? =some (.cells #[slice none 0 0,slice none 0 0,slice none 0 0,iX 0,bool false,iX 0] 30)/\w3.cell? ⟨w.heap.size,0,none⟩=some (iX (m:Int))/\w3.cell? ⟨w.heap.size,1,none⟩=some (iX (h:Int))/\w3.cell? ⟨w.heap.size,2,none⟩=some (bool fo)/\Grew w w3):=⟨_,rfl,λw3 hk=>zHX hk⟩
 have HZ2:Hid (w2.heap.size=w.heap.size+2):=by show _=_;rw[hw2];simp
 have HRD:Hid (Ca 43 #[string s] w2 (zFE w2 (1+6*s.size) (.inl sh))):=by have:=zA5 w2 s hs;rw[hsp] at this;exact this
 have k1:(1:Int)<=(m:Int):=by omega
 have k2:(m:Int)<=200:=by omega
 have k3:(1:Int)<=(h:Int):=by omega
 have k4:(h:Int)<=64:=by omega
 have HMO:Hid (∀w4 mv av pv,SpecIs w4 (1+6*s.size) mv av pv sh->Ca 44 #[agg #[mv,av,pv],iX (m:Int)] w4 (zOM w4 (some ms))):=λw4 mv av pv h=>by have:=zDm w4 (1+6*s.size) mv av pv sh h m h2;rw[hmo] at this;exact this
 have hsum:=zJc hsp;have HMK:Hid (∀w5 v mv av pv,SpecIs w5 (1+6*s.size) mv av pv sh->ModesAt w5 (In w5) v ms->Ca 45 #[v,av,pv,iX (h:Int)] w5 (λe w'=>Made w5 w' e ms (ints sh.acts) (sh.pushesTo sh.pushed.length) h)/\ModesOk ms/\(ints sh.acts).length=zU ms ms.length/\(sh.pushesTo sh.pushed.length).length=(ints sh.acts).length):=λw5 v mv av pv hsi hM=>by
  obtain⟨hok,hrt⟩:=zN6 hsi hsum h2 hmo;exact⟨zK9 w5 (In w5) v av pv ms (ints sh.acts) (sh.pushesTo sh.pushed.length) h hM hsi.acts hsi.pushes (λk hk=>hk) hok (by rw[zO,hrt]) (by rw[zO,qR];exact hsi.ok.same) (zKt _) (zJw hsi.there),hok,by rw[zO,hrt],by rw[zO,qR];exact hsi.ok.same⟩
 clear hsp hmo hsum;go_in;apply wp_cut;intro K0 HK0;go_wp2;apply HK0.out;clear HK0;rw[<-hw2];clear hw2;obtain⟨-,p0,p1,p2,-⟩:=HK1 w2 (Keep.refl _ _ _);apply wp_cut;intro K0 HK0;go_wp2;apply HK0.out;clear HK0;clear p0 p1 p2;apply wp_cut;intro K0 HK0;go_wp2_with (first|(go_at_call 43;refine HRD.mono ?_;rintro e w3 ⟨hk3,mv,av,pv,rfl,hsi⟩;obtain⟨⟨am,cm,e1⟩,⟨aa,ca,e2⟩,⟨ap,cp,e3⟩⟩:=hsi.forms;subst e1 e2 e3))
 apply HK0.out;clear HK0;obtain⟨w4,hw4,y0,y1,y2,K4⟩:∃w4,w4=w3.alloc (.cells #[slice am sh.modes.length cm,slice aa sh.acts.length ca,slice ap sh.pushed.length cp] 79)/\w4.cell? ⟨w3.heap.size,0,none⟩=some (slice am sh.modes.length cm)/\w4.cell? ⟨w3.heap.size,1,none⟩=some (slice aa sh.acts.length ca)/\w4.cell? ⟨w3.heap.size,2,none⟩=some (slice ap sh.pushed.length cp)/\Hid (Keep (w.heap.size+2) (w.heap.size+2) w2 w4/\SpecIs w4 (1+6*s.size) (slice am sh.modes.length cm) (slice aa sh.acts.length ca) (slice ap sh.pushed.length cp) sh/\w3.heap.size<w4.heap.size/\w.heap.size+2<=w4.heap.size):=by
  have h5:Keep (w.heap.size+2) (w.heap.size+2) w2 w3:=by rw[<-HZ2.out];exact hk3
  have h6:w.heap.size+2<=w3.heap.size:=by have:=hk3.size;rw[HZ2.out] at this;exact this
  have hn:=gX w3 (.cells #[slice am sh.modes.length cm,slice aa sh.acts.length ca,slice ap sh.pushed.length cp] 79);refine⟨_,rfl,?_,?_,?_,h5.trans (kZ _ _ h6),hsi.grown (kZ _ _ lQ),by simp,by simp;omega⟩
  all_goals (unfold cell?;rw[hn];rfl)
 rw[<-hw4];clear hw4 hk3 hsi HRD;apply wp_cut;intro K0 HK0;go_wp2;apply HK0.out;clear HK0;obtain⟨-,l0,-,-,-⟩:=HK1 w4 K4.1;obtain⟨B,hB⟩:∃B,B=w3.heap.size:=⟨_,rfl⟩
 have HBL:Hid (B<w4.heap.size):=by show B<_;rw[hB];exact K4.2.2.1
 rw[<-hB] at y0 y1 y2 ⊢;clear hB;apply wp_cut;intro K0 HK0;go_wp2_with (first|(go_at_call 44;refine(HMO w4 _ _ _ K4.2.1).mono ?_;rintro e w5 ⟨hk5,v5,rfl,hM5⟩;obtain⟨a5,c5,e5,-⟩:=id hM5;subst e5))
 apply HK0.out;clear HK0;apply wp_cut;intro K0 HK0;go_wp2;apply HK0.out;clear HK0;have K5:Hid (Keep (w.heap.size+2) (w.heap.size+2) w2 w5/\SpecIs w5 (1+6*s.size) (slice am sh.modes.length cm) (slice aa sh.acts.length ca) (slice ap sh.pushed.length cp) sh/\w.heap.size+2<=w5.heap.size/\ModesAt w5 (In w5) (slice a5 ms.length c5) ms):=⟨K4.1.trans (hk5.lower K4.2.2.2 K4.2.2.2),K4.2.1.grown hk5,lY K4.2.2.2 hk5.size,hM5⟩
 have x1:=zA y1 HBL hk5;have x2:=zA y2 HBL hk5;obtain⟨-,-,l1,-,-⟩:=HK1 w5 K5.1;obtain⟨hmk,hok,hal⟩:=HMK w5 _ _ _ _ K5.2.1 hM5;have HMK2:=vl hmk;have HOK:Hid (ModesOk ms/\(ints sh.acts).length=zU ms ms.length/\(sh.pushesTo sh.pushed.length).length=(ints sh.acts).length):=⟨hok,hal⟩
 clear l0 y0 y1 y2 hk5 hM5 HMO HMK hmk hok hal K4 HBL;apply wp_cut;intro K0 HK0;go_wp2_with (first|(go_at_call 45;refine HMK2.mono ?_;rintro e w6 ⟨p,H,cc,n,rfl,hp6,hH6,hMem,hsp6,hk6⟩))
 apply HK0.out;clear HK0;have K6:Hid (Keep (w.heap.size+2) (w.heap.size+2) w2 w6/\w.heap.size+2<=w6.heap.size/\ModesAt w6 (In w6) (slice a5 ms.length c5) ms/\w.heap.size+2<=p/\w.heap.size+2<=H/\Mem w6 H p cc (zAm ms (ints sh.acts) (sh.pushesTo sh.pushed.length) h n)/\(((zS ms (ints sh.acts) (sh.pushesTo sh.pushed.length) h).first.itr n).spreadTo (zN ms ms.length)).2=false):=⟨K5.1.trans (hk6.lower K5.2.2.1 K5.2.2.1),lY K5.2.2.1 hk6.size,K5.2.2.2.grown hk6,lY K5.2.2.1 hp6,lY K5.2.2.1 hH6,hMem,hsp6⟩
 have y7:w6.cell? ⟨p,7,none⟩=some (iX ((zB ms 256).2:Nat)):=by
  have e7:=hMem.tp.get_count;rw[hMem.count] at e7;have ec:(zAm ms (ints sh.acts) (sh.pushesTo sh.pushed.length) h n).count=(zB ms 256).2:=by
   show((zS ms (ints sh.acts) (sh.pushesTo sh.pushed.length) h).first.itr n).count=_;rw[vF];rfl
  rw[ec] at e7;exact e7
 obtain⟨-,-,-,l2,-⟩:=HK1 w6 K6.1;have HRP:Hid (∀wq,Grew w6 wq->Ca 46 #[slice a5 ms.length c5,iX ((zB ms 256).2:Nat),bool fo] wq λe w'=>∃m0 m1 m2 s0 s1 s2 v0 v1 v2,e=returned (agg #[slice m0 m1 m2,slice s0 s1 s2,slice v0 v1 v2,iX (aheadTo ms ms.length),bool (!fo&&yG (aheadTo ms ms.length) (zB ms 256).2),iX 0])/\Grew wq w'):=λwq hq=>(zHW wq _ ms (K6.2.2.1.grown hq) HOK.1 (zB ms 256).2 (jE ms 256).2 fo).mono (by rintro e w7 ⟨mo,sv,ev,rfl,hsv,hev,hk7,a,n,c,rfl⟩;obtain⟨s0,s1,rfl⟩:=OwnB.form hsv;obtain⟨v0,v1,rfl⟩:=OwnB.form hev;exact⟨a,n,c,s0,_,s1,v0,_,v1,rfl,hk7⟩);have HQ:Hid (∀w8,Grew w6 w8->((!fo&&yG (aheadTo ms ms.length) (zB ms 256).2)=true->Ca 47 #[pX p,iX (aheadTo ms ms.length)] w8 (λe w9=>e=returned (tuple #[])/\(λw9=>∃c,Mem w9 H p c (jH ms (ints sh.acts) (sh.pushesTo sh.pushed.length) h n fo)) w9/\Keep w8.heap.size p w8 w9))/\((!fo&&yG (aheadTo ms ms.length) (zB ms 256).2)=false->(λw9=>∃c,Mem w9 H p c (jH ms (ints sh.acts) (sh.pushesTo sh.pushed.length) h n fo)) w8)):=λw8 hk8=>by
  refine⟨λhst=>?_,λhst=>?_⟩
  ·have hgt:jH ms (ints sh.acts) (sh.pushesTo sh.pushed.length) h n fo={zAm ms (ints sh.acts) (sh.pushesTo sh.pushed.length) h n with stream:=true}.looking (aheadTo ms ms.length).toNat:=by unfold jH;rw[if_pos hst]
   have h5:=hst;rw[Bool.and_eq_true] at h5;have h6:=h5.2;unfold yG at h6;rw[Bool.and_eq_true] at h6;have h7:0<=aheadTo ms ms.length:=of_decide_eq_true h6.1;have h8:zF (zB ms 256).2 (aheadTo ms ms.length).toNat<=3000:=of_decide_eq_true h6.2;have h9:=(zGK ms HOK.1 ms.length lQ).2;have hok:=zLh (t:=(zS ms (ints sh.acts) (sh.pushesTo sh.pushed.length) h).first) ((zDx ms (ints sh.acts) (sh.pushesTo sh.pushed.length) h HOK.1 HOK.2.1).withLive _) n;have hcn:(zAm ms (ints sh.acts) (sh.pushesTo sh.pushed.length) h n).count=(zB ms 256).2:=by
    show((zS ms (ints sh.acts) (sh.pushesTo sh.pushed.length) h).first.itr n).count=_;rw[vF];rfl
   have hst1:1<=(zAm ms (ints sh.acts) (sh.pushesTo sh.pushed.length) h n).nst:=by
    show 1<=((zS ms (ints sh.acts) (sh.pushesTo sh.pushed.length) h).first.itr n).nst;rw[zIo];exact lY (HOK.1.states1 0 HOK.1.one) (by have:=vI ms 1 ms.length HOK.1.one;have e:zN ms 1=(ms[0]'HOK.1.one).next.length:=(by simp[zN,lW,lV HOK.out.1.one]);rw[e] at this;exact this)
   have:=zEH w8 H p cc _ (K6.2.2.2.2.2.1.grown hk8) ⟨hok.1,hok.2,hok.3,hok.4⟩ hst1 (by rw[hcn];exact zDD ms 256 (by decide)) (aheadTo ms ms.length).toNat (by omega) (by rw[hcn];exact h8)
   rw[Int.toNat_of_nonneg h7] at this;refine this.mono ?_;rintro e w9 ⟨rfl,c',hM,hk⟩;exact⟨rfl,⟨c',by rw[hgt];exact hM⟩,hk⟩
  ·have hgt:jH ms (ints sh.acts) (sh.pushesTo sh.pushed.length) h n fo=zAm ms (ints sh.acts) (sh.pushesTo sh.pushed.length) h n:=by unfold jH;rw[if_neg (by rw[hst];decide)]
   exact⟨cc,by rw[hgt];exact K6.2.2.2.2.2.1.grown hk8⟩
 obtain⟨hB6,-⟩:=HK1 w6 K6.1;refine zP7 w w6 _ (λw9=>∃c,Mem w9 H p c (jH ms (ints sh.acts) (sh.pushesTo sh.pushed.length) h n fo)) p a5 ms.length c5 (zB ms 256).2 (aheadTo ms ms.length) (!fo&&yG (aheadTo ms ms.length) (zB ms 256).2) fo hB6 K6.2.1 K6.2.2.2.2.2.1.tp.lt (by have:=K6.2.2.2.1;omega) y7 l2 HRP HQ ?_;intro m0 m1 m2 s0 s1 s2 v0 v1 v2 w8 w9 wz L hk8 hk9 hq ho hu hL1 hL2 hblk hcell;obtain⟨c9,hM9⟩:=hq;obtain⟨-,-,-,-,hkw⟩:=HK1 w6 K6.1;have hp2:=K6.2.2.2.1;have hH2:=K6.2.2.2.2.1;have hs6:=K6.2.1;have hs8:=hk8.size;have hs9:=hk9.size;refine⟨hkw.trans ⟨ho.trans (hk9.os.trans hk8.os),hu.trans (hk9.output.trans hk8.output),by omega,λk k1 _=>(hblk k (by omega) (by omega)).trans ((hk9.block k (by omega) (by omega)).trans (hk8.block k (by omega) (by omega)))⟩,L,p,H,c9,n,m0,m1,m2,s0,s1,s2,v0,v1,v2,rfl,hcell,hL2,by omega,by omega,by omega,?_,K6.2.2.2.2.2.2,HOK.1,HOK.2.1,HOK.2.2⟩;exact hM9.keep (hblk p hM9.tp.lt (by omega)) (λk k1 k2=>hblk k k2 (by omega)) (by omega)
theorem zFT {s:ByteArray}{n k:Nat}(a:zAw s=.inr (n,k)):k≠0:=by
 unfold zAw at a;split at a
 ·cases a;decide
 split at a
 ·cases a;decide
 split at a
 ·split at a
  ·cases a
  ·cases a;decide
 ·cases a;decide
def zOP (w:World)(G:(List Sm×Sh) ⊕ (Nat×Nat))(hold:Nat)(fo:Bool)(e:Ending)(w':World):Prop:=match G with
 | .inr (n,k)=>k≠0/\zKu w n k e w'
 | .inl (ms,sh)=>zOO w ms (ints sh.acts) (sh.pushesTo sh.pushed.length) hold fo e w'
theorem zCH (w:World)(s:ByteArray)(o:s.size<=1048576)(b a:Int)(c:Bool):Calls prog 30 #[string s,agg #[iX b,iX a,bool c]] w (zOP w (zBm s b a) a.toNat c):=by
 have i:∀{n k:Nat},k≠0->zBm s b a=.inr (n,k)->Calls prog 30 #[string s,agg #[iX b,iX a,bool c]] w (zKu w n k)->Calls prog 30 #[string s,agg #[iX b,iX a,bool c]] w (zOP w (zBm s b a) a.toNat c):=by
  intro n k y f z;rw[f];exact z.mono λe w' d=>⟨y,d⟩
 by_cases p:b<1
 ·exact i (by decide) (by unfold zBm yZ;rw[if_pos (by simp[p])]) (zFC w s b a c (.inl p))
 have j:1<=b:=by omega
 by_cases q:200<b
 ·exact i (by decide) (by unfold zBm yZ;rw[if_pos (by simp[q])]) (zFC w s b a c (.inr (.inl ⟨j,q⟩)))
 have r:b<=200:=by omega
 by_cases t:a<1
 ·exact i (by decide) (by unfold zBm yZ;rw[if_pos (by simp[t])]) (zFC w s b a c (.inr (.inr (.inl ⟨j,r,t⟩))))
 have x:1<=a:=by omega
 by_cases u:64<a
 ·exact i (by decide) (by unfold zBm yZ;rw[if_pos (by simp[u])]) (zFC w s b a c (.inr (.inr (.inr ⟨j,r,x,u⟩))))
 have A:a<=64:=by omega
 have B:yZ b a=false:=by unfold yZ;simp[p,q,t,u]
 have f:zBm s b a=match zAw s with
   | .inr e=>.inr e
   | .inl sh=>match yO (1+6*s.size) sh sh.modes.length 0 b.toNat with
    |none=>.inr (0,5)
    |some ms=>.inl (ms,sh):=by
  unfold zBm;rw[B];rfl
 obtain⟨m,rfl⟩:∃m:Nat,b=m:=⟨b.toNat,by omega⟩
 obtain⟨d,rfl⟩:∃d:Nat,a=d:=⟨a.toNat,by omega⟩
 cases g:zAw s with
 |inr e=>
  obtain⟨n,k⟩:=e;rw[g] at f;exact i (zFT g) f (zOl w s m d c o j r x A n k (zFT g) g)
 |inl sh=>
  rw[g] at f;cases l:yO (1+6*s.size) sh sh.modes.length 0 m with
  |none=>
   have v:zBm s m d=.inr (0,5):=by rw[f];show(match yO (1+6*s.size) sh sh.modes.length 0 m with|none=>_|some ms=>_)=_;rw[l]
   exact i (by decide) v (zLl w s c o m d (by omega) (by omega) (by omega) (by omega) sh g l)
  |some ms=>
   have v:zBm s m d=.inl (ms,sh):=by rw[f];show(match yO (1+6*s.size) sh sh.modes.length 0 m with|none=>_|some ms=>_)=_;rw[l]
   rw[v];exact zP5 w s c o m d (by omega) (by omega) (by omega) (by omega) sh g ms l
end Go.Proofs.YtbjcfkdnjaiclaaGreat
