import Derived.Deep.DrawnRows
import Derived.Deep.RegionLaw
import Derived.Test.YtbjcfkdnjaiclaaGreatB0
import Derived.Test.YtbjcfkdnjaiclaaGreatB15
import Derived.Test.YtbjcfkdnjaiclaaGreatB26
/- Parts of the proof. -/
set_option linter.unusedVariables false
set_option linter.unusedSimpArgs false
set_option maxHeartbeats 4000000
set_option maxRecDepth 100000
namespace Go.Proofs.YtbjcfkdnjaiclaaGreat
open Go.RowKit Go.Proofs.Tryz Go.World
section
structure Mk.Tab (m:Mk)(nr:Int):Prop where
 one:1<=m.next.length
 wide:∀row∈m.next,row.length=256∧∀x∈row,0<=x∧x<(m.next.length:Int)
 rules:∀r∈m.rules,-1<=r∧r<nr
 of:∀x∈m.of,0<=x∧x<(m.next.length:Int)
def Mk.Inr (m:Mk)(x:Int):Prop:=0<=x∧x<(m.next.length:Int)
theorem Mk.Inr.grow {m m':Mk}{x:Int}(h:m.Inr x)(hg:m.next.length<=m'.next.length):m'.Inr x:=⟨h.1,by have:=h.2;omega⟩
theorem zHn (x:Int)(h:x∈zeros):x=0:=List.eq_of_mem_replicate h
section
variable {m:Mk} {nr:Int} {most:Nat}
theorem zJ2 (h:m.Tab nr){r:Int}(hr:-1<=r∧r<nr):(m.add most r).Tab nr:=by
 unfold Mk.add;split
 ·exact⟨h.one,h.wide,h.rules,h.of⟩
 ·have hl:(m.next++[zeros]).length=m.next.length+1:=by simp
  refine⟨by show 1<=(m.next++[zeros]).length;omega,fun row hrow=>?_,fun q hq=>?_,fun x hx=>?_⟩
  ·show _∧∀x∈row,0<=x∧x<((m.next++[zeros]).length:Int)
   rcases kU.1 hrow with h1|h1
   ·obtain⟨a,b⟩:=h.wide row h1
    exact⟨a,fun x hx=>by have:=b x hx;omega⟩
   ·rw[kY.1 h1]
    exact⟨by unfold zeros;exact List.length_replicate,fun x hx=>by rw[zHn x hx];omega⟩
  ·rcases kU.1 hq with h1|h1
   ·exact h.rules q h1
   ·rw[kY.1 h1];exact hr
  ·show 0<=x∧x<((m.next++[zeros]).length:Int)
   have:=h.of x hx;omega
theorem zHl (h:m.Tab nr)(r:Int):(m.add most r).Inr (m.addN most:Int):=by
 have:=h.one;unfold Mk.add Mk.addN Mk.Inr;split
 ·show(0:Int)<=((0:Nat):Int)∧((0:Nat):Int)<(m.next.length:Int)
  omega
 ·show(0:Int)<=(m.next.length:Int)∧(m.next.length:Int)<((m.next++[zeros]).length:Int)
  have hl:(m.next++[zeros]).length=m.next.length+1:=by simp
  omega
theorem zJH (h:m.Tab nr)(s b:Nat){x:Int}(hx:m.Inr x):(m.put s b x).Tab nr:=by
 have hl:=zC7 m s b x;refine⟨by rw[hl];exact h.one,fun row hrow=>?_,h.rules,fun y hy=>by rw[hl];exact h.of y hy⟩;rw[hl];have hr:row∈m.next.set s ((m.next.getD s []).set b x):=hrow
 rcases List.mem_or_eq_of_mem_set hr with h1|h1
 ·exact h.wide row h1
 ·by_cases hs:s<m.next.length
  ·have hm:m.next.getD s []∈m.next:=by
    rw[lW,lV hs];exact List.getElem_mem _
   obtain⟨a,c⟩:=h.wide _ hm;rw[h1];refine⟨by rw[List.length_set];exact a,fun y hy=>?_⟩;rcases List.mem_or_eq_of_mem_set hy with h2|h2
   ·exact c y h2
   ·rw[h2];exact hx
  ·rw[List.set_eq_of_length_le (by omega)] at hr
   exact h.wide row hr
theorem zJm (h:m.Tab nr)(s:Nat){f:Nat->Int}(hf:∀i,i<64->m.Inr (f i))(j:Nat)(hj:j<=64):(m.fillTo s f j).Tab nr:=by
 induction j with
 |zero=>exact h
 |succ j ih=>
  rw[Mk.fillTo];exact zJH (ih (by omega)) _ _ ((hf j (by omega)).grow (by rw[zBt];omega))
theorem zHp (h:m.Tab nr)(hnr:0<=nr){f:Nat->Int}(hf:∀i,i<64->m.Inr (f i)):(m.withM most f).Tab nr∧(m.withM most f).Inr (m.withN most f:Int):=by
 have h1:=h.one;unfold Mk.withM Mk.withN;split
 ·exact⟨h,by unfold Mk.Inr;omega⟩
 split
 ·exact⟨h,by unfold Mk.Inr;omega⟩
 have ha:(m.add most (-1)).Tab nr:=zJ2 h ⟨by omega,by omega⟩;split
 ·exact⟨ha,zHl h (-1)⟩
 ·exact⟨zJm ha _ (fun i hi=>(hf i hi).grow (zD0 m most (-1))) 64 lQ,(zHl h (-1)).grow (by rw[zBt];omega)⟩
end
def zFI (nr:Int)(sub:Mk->Nat->Int×Mk):Prop:=∀m c,m.Tab nr->(sub m c).2.Tab nr∧(sub m c).2.Inr (sub m c).1
theorem zLS (most:Nat)(nr:Int)(hnr:0<=nr)(c:Nat):∀(m:Mk) (to:Int),m.Tab nr->m.Inr to->(Mk.even most c m to).2.Tab nr∧(Mk.even most c m to).2.Inr (Mk.even most c m to).1:=by
 induction c with
 |zero=>exact fun m to h ht=>⟨h,ht⟩
 |succ c ih=>
  intro m to h ht;obtain⟨a,b⟩:=zHp (most:=most) h hnr (f:=fun _=>to) fun _ _=>ht;exact ih (m.withM most fun _=>to) ((m.withN most fun _=>to:Nat):Int) a b
theorem zJJ {m:Mk}{nr:Int}(h:m.Tab nr)(i:Nat):m.Inr (m.of.getD i 0):=by
 rw[lW];by_cases hi:i<m.of.length
 ·rw[lV hi]
  exact h.of _ (List.getElem_mem _)
 ·rw[List.getElem?_eq_none (by omega)]
  have:=h.one;exact⟨Int.le_refl _,by show(0:Int)<_;omega⟩
theorem zMj {nr:Int}{sub:Mk->Nat->Int×Mk}(h:zFI nr sub)(g:Grows sub)(step low:Nat){m:Mk}(hm:m.Tab nr)(j:Nat):(xD sub step low m j).2.Tab nr∧∀i,(xD sub step low m j).2.Inr ((xD sub step low m j).1 i):=by
 induction j with
 |zero=>
  have:=hm.one;exact⟨hm,fun i=>⟨Int.le_refl _,by show(0:Int)<_;show(0:Int)<(m.next.length:Int);omega⟩⟩
 |succ j ih=>
  obtain⟨a,b⟩:=ih;have h1:=a.one;unfold xD;split
  ·refine⟨a,fun i=>?_⟩
   show Mk.Inr _ (if i=j then 0 else _);split
   ·exact⟨Int.le_refl _,by show(0:Int)<((xD sub step low m j).2.next.length:Int);omega⟩
   ·exact b i
  ·obtain⟨c,d⟩:=h (xD sub step low m j).2 (low+j*step) a
   refine⟨c,fun i=>?_⟩;show Mk.Inr _ (if i=j then _ else _);split
   ·exact d
   ·exact(b i).grow (g _ _)
theorem zEh (k:Kd)(a:Ar)(most kind cnt step:Nat){nr:Int}(hnr:0<=nr){sub:Mk->Nat->Int×Mk}(h:zFI nr sub)(g:Grows sub):zFI nr (jK k a most kind cnt step sub):=fun m low hm=>by
 unfold jK;split
 ·exact zLS most nr hnr cnt m _ hm (by unfold Mk.behind;exact zJJ hm _)
 ·obtain⟨b,c⟩:=zMj h g step low hm 64
  exact zHp b hnr fun i _=>c i
theorem zCO (k:Kd)(a:Ar)(most kind:Nat){nr:Int}(hnr:0<=nr)(l:Nat):zFI nr (zV k a most kind l):=by
 induction l with
 |zero=>exact zEh k a most kind 1 1 hnr (fun m c hm=>⟨hm,by unfold Mk.behind;exact zJJ hm _⟩) fun m c=>lQ
 |succ l ih=>exact zEh k a most kind (l+2) (vK (l+2)) hnr ih (zAr k a most kind l)
theorem zCk {nr:Int}{sub:Mk->Nat->Int×Mk}(h:zFI nr sub)(s lo:Nat){m:Mk}(hm:m.Tab nr)(j:Nat):(vJ sub s lo m j).Tab nr:=by
 induction j with
 |zero=>exact hm
 |succ j ih=>
  obtain⟨a,b⟩:=h (vJ sub s lo m j) (lo+j) ih;unfold vJ;exact zJH a _ _ b
theorem zKO (k:Kd)(a:Ar)(most kind s:Nat){nr:Int}(hnr:0<=nr){m:Mk}(hm:m.Tab nr):(zBF k a most kind s m).Tab nr:=by
 unfold zBF;refine zCk (fun m c hm=>?_) _ _ ?_ _
 ·unfold zCF;exact zCO k a most kind hnr 2 m _ hm
 unfold zBc;refine zCk (fun m c hm=>?_) _ _ ?_ _
 ·unfold zCG;exact zCO k a most kind hnr 1 m _ hm
 unfold zBd;refine zCk (fun m c hm=>?_) _ _ ?_ _
 ·unfold zCH;exact zCO k a most kind hnr 0 m _ hm
 unfold zBe;exact zCk (fun m c hm=>⟨hm,by unfold zDB Mk.behind;exact zJJ hm _⟩) _ _ hm _
theorem zJ4 (k:Kd)(most:Nat)(h1:1<=most){nr:Int}(hnr:0<=nr)(hr:∀r∈k.rules,-1<=r∧r<nr)(j:Nat)(hj:j<=k.rules.length):(zZ k most j).Tab nr:=by
 induction j with
 |zero=>
  have e:zZ k most 0=⟨[zeros],[-1],[],false⟩:=by
   show Mk.blank.add most (-1)=_;unfold Mk.add Mk.blank;rw[if_neg (by show¬most<=0;omega)];rfl
  rw[e];refine⟨lQ,fun row hrow=>?_,fun r hr=>?_,fun x hx=>by cases hx⟩
  ·rw[kY.1 hrow]
   exact⟨by unfold zeros;exact List.length_replicate,fun x hx=>by rw[zHn x hx];exact⟨Int.le_refl _,by show(0:Int)<1;omega⟩⟩
  ·rw[kY.1 hr];omega
 |succ j ih=>
  have ih:=ih (by omega);have ho:=ih.one;unfold zZ;split
  ·refine⟨ih.one,ih.wide,ih.rules,fun x hx=>?_⟩
   have hx2:=hx;rcases kU.1 hx2 with h2|h2
   ·exact ih.of x h2
   ·rw[kY.1 h2];exact⟨Int.le_refl _,by show(0:Int)<((zZ k most j).next.length:Int);omega⟩
  ·have hrj:-1<=k.rules.getD j 0∧k.rules.getD j 0<nr:=by
    rw[lW,lV (by omega:j<k.rules.length)];exact hr _ (List.getElem_mem _)
   have ha:((zZ k most j).add most (k.rules.getD j 0)).Tab nr:=zJ2 ih hrj;have hn:((zZ k most j).add most (k.rules.getD j 0)).Inr ((zZ k most j).addN most:Int):=zHl ih _;refine⟨ha.one,ha.wide,ha.rules,fun x hx=>?_⟩;have hx2:=hx;rcases kU.1 hx2 with h2|h2
   ·rw[<-zCU (zZ k most j) most (k.rules.getD j 0)] at h2
    exact ha.of x h2
   ·rw[kY.1 h2];exact hn
theorem zLB (k:Kd)(a:Ar)(most:Nat)(h1:1<=most){nr:Int}(hnr:0<=nr)(hr:∀r∈k.rules,-1<=r∧r<nr)(hl:k.rules.length=k.rows.length)(j:Nat):(qY k a most j).Tab nr:=by
 induction j with
 |zero=>exact zJ4 k most h1 hnr hr k.rows.length (by omega)
 |succ j ih=>
  unfold qY;split
  ·exact zKO k a most _ _ hnr ih
  ·exact ih
theorem zGi (k:Kd)(a:Ar)(most:Nat){nr:Int}(hnr:0<=nr)(hr:∀r∈k.rules,-1<=r∧r<nr)(hl:k.rules.length=k.rows.length)(hf:(yA k a most).full=false):(yA k a most).Tab nr∧(yA k a most).Fit most:=by
 have h1:=(zH9 k a most k.rows.length hf).1.one;have h2:=(zDK k a most k.rows.length).1;have h3:=h2.few;exact⟨zLB k a most (by omega) hnr hr hl _,h2⟩
end
def RowsOk (len top:Nat)(rows:List (List Nat)):Prop:=∀row∈rows,row.length=len∧∀x∈row,x<top
theorem RowsOk.up {len top top':Nat}{rows:List (List Nat)}(h:RowsOk len top rows)(ht:top<=top'):RowsOk len top' rows:=fun row hr=>⟨(h row hr).1,fun x hx=>lZ ((h row hr).2 x hx) ht⟩
theorem RowsOk.snoc {len top:Nat}{rows:List (List Nat)}{row:List Nat}(h:RowsOk len top rows)(h1:row.length=len∧∀x∈row,x<top):RowsOk len top (rows++[row]):=fun r hr=>by
 rcases kU.1 hr with h2|h2
 ·exact h r h2
 ·rw[kY.1 h2];exact h1
theorem zGa (s:Sq)(ahead:Nat->Nat)(ends most:Nat):∀f i d rows rules d' rows' rules',s.sortGo ahead ends most f i d rows rules=some (d',rows',rules')->1<=f->i+f=most+1->rows.length=i->rules.length=i->i<=d.found.length->RowsOk s.sets.length d.found.length rows->(∀r∈rules,-1<=r∧r<(s.rules.length:Int))->
  rows'.length=d'.found.length∧rules'.length=rows'.length∧d.found.length<=d'.found.length∧rows'.length<=most+1∧RowsOk s.sets.length d'.found.length rows'∧∀r∈rules',-1<=r∧r<(s.rules.length:Int)
 |0,_,_,_,_,_,_,_,_,h1,_,_,_,_,_,_=>absurd h1 (by omega)
 |f+1,i,d,rows,rules,d',rows',rules',h,_,hif,hr,hl,hi,hro,hru=>by
  have h2:(if i<d.found.length then(if d.found.length>most then none else s.sortGo ahead ends most f (i+1) (s.rowTo (zAp ahead (d.found.getD i 0)) d s.sets.length).2 (rows++[(s.rowTo (zAp ahead (d.found.getD i 0)) d s.sets.length).1]) (rules++[qT s.rules (d.found.getD i 0&&&ends)])) else some (d,rows,rules))=some (d',rows',rules'):=h;by_cases h3:i<d.found.length
  ·rw[if_pos h3] at h2
   by_cases h4:d.found.length>most
   ·rw[if_pos h4] at h2;cases h2
   ·rw[if_neg h4] at h2
    obtain⟨e1,-,-,e4⟩:=s.rowTo_len (zAp ahead (d.found.getD i 0)) d s.sets.length;have e5:=s.rowTo_lt (zAp ahead (d.found.getD i 0)) d s.sets.length;have e6:=zIU s.rules (d.found.getD i 0&&&ends);obtain⟨a,b,c,dd,ee,ff⟩:=zGa s ahead ends most f (i+1) _ _ _ d' rows' rules' h2 (by omega) (by omega) (by rw[kX,hr];rfl) (by rw[kX,hl];rfl) (by omega) ((hro.up e4).snoc ⟨e1,e5⟩) (fun r hr=>by
     rcases kU.1 hr with h5|h5
     ·exact hru r h5
     ·rw[kY.1 h5];exact e6)
    exact⟨a,b,lY e4 c,dd,ee,ff⟩
  ·rw[if_neg h3] at h2
   have e:=hU h2;have e1:d=d':=congrArg Prod.fst e;have e2:rows=rows':=congrArg (fun x=>x.2.1) e;have e3:rules=rules':=congrArg (fun x=>x.2.2) e;subst e1 e2 e3;exact⟨by omega,by omega,lQ,by omega,hro,hru⟩
theorem zJD {n:Nt}{most:Nat}{k:Kd}(h:n.sort most=some k)(ok:n.Ok)(fit:n.Fits):k.Ok n.areas∧k.rows.length<=most+2∧∀r∈k.rules,-1<=r∧r<(n.rules.length:Int):=by
 obtain⟨g1,g2,g3,g4⟩:=zBp n.sets;have hf:=fit.few;have hsl:n.areas.sets.length=n.letters.length:=by
  have:=Ar.setsN_ints g1;show(xY n.sets).sets.length=(xY n.sets).setsN.length;rw[this,zM]
 unfold Nt.sort at h;cases hg:n.sq.sortGo n.ahead n.ends most (most+1) 0 n.start.2 [] [] with
 |none=>rw[hg] at h;cases h
 |some g=>
  obtain⟨d,rows,rules⟩:=g;rw[hg] at h;have e:=hU h;have e:=e;obtain⟨a,b,c,dd,ee,ff⟩:=zGa n.sq n.ahead n.ends most (most+1) 0 n.start.2 [] [] d rows rules hg (by omega) (by omega) rfl rfl lX (fun r hr=>by cases hr) (fun r hr=>by cases hr);have hs1:=(n.sq.rowTo_len n.first ⟨[],[]⟩ n.letters.length).1;have hs2:∀x∈n.start.1,x<n.start.2.found.length:=n.sq.rowTo_lt n.first ⟨[],[]⟩ n.letters.length
  have hlk:=zJN (rows.map ints) rules (ints n.start.1);rw[kV] at hlk;have good:n.areas.Good 24:=⟨fun x hx=>by
   obtain⟨u,v⟩:=g1.sets x hx;have h24:(2:Nat)^n.sets.length<=2^24:=kG (by omega) ok.len;exact⟨u,by omega⟩,g1.letters,g1.lens⟩
  have getIn:∀{l:List (List Nat)} {top:Nat},RowsOk n.letters.length top l->∀i q,i<l.length->q<n.areas.sets.length->(l.getD i []).getD q 0<top:=fun{l top} hro i q hi hq=>by
   have hm:l.getD i []∈l:=by
    rw[lW,lV hi];exact List.getElem_mem _
   obtain⟨u,v⟩:=hro _ hm;have hq2:q<(l.getD i []).length:=by rw[u];omega
   have e2:(l.getD i []).getD q 0=(l.getD i [])[q]:=by rw[lW,lV hq2];rfl
   rw[e2];exact v _ (List.getElem_mem _)
  have getLen:∀{l:List (List Nat)} {top:Nat},RowsOk n.letters.length top l->∀i,i<l.length->(l.getD i []).length=n.areas.sets.length:=fun{l top} hro i hi=>by
   have hm:l.getD i []∈l:=by
    rw[lW,lV hi];exact List.getElem_mem _
   rw[(hro _ hm).1,hsl]
  have ee2:RowsOk n.letters.length d.found.length rows:=ee;subst e;unfold Nt.ended;split
  ·rename_i hq
   have hlen:(rows++[n.start.1]).length=rows.length+1:=by simp
   have hro:RowsOk n.letters.length (rows.length+1) (rows++[n.start.1]):=(ee2.up (by omega)).snoc ⟨hs1,fun x hx=>by have:=hs2 x hx;omega⟩;refine⟨⟨g2,by show(xY n.sets).lows.length<=_;omega,good,?_,fun i hi=>getLen hro i hi,fun i q hi hq=>?_,?_⟩,?_,fun r hr=>?_⟩
   ·show(rules++[-1]).length=(rows++[n.start.1]).length
    rw[hlen,kX,b];rfl
   ·show _<(rows++[n.start.1]).length
    rw[hlen];exact getIn hro i q hi hq
   ·show zAn _ _ _<(rows++[n.start.1]).length
    omega
   ·show(rows++[n.start.1]).length<=_
    omega
   ·have hr2:r∈rules++[-1]:=hr
    rcases kU.1 hr2 with h5|h5
    ·exact ff r h5
    ·rw[kY.1 h5];omega
  ·rename_i hq
   refine⟨⟨g2,by show(xY n.sets).lows.length<=_;omega,good,b,fun i hi=>getLen ee2 i hi,fun i q hi hq2=>?_,?_⟩,by show rows.length<=_;omega,ff⟩
   ·show _<rows.length
    rw[a];exact getIn ee2 i q hi hq2
   ·show zAn _ _ _<rows.length
    omega
def qS (l:List Cs):Prop:=∀c∈l,zLf c
theorem zDM (n:Nt)(a b:Nat):(n.link a b).sets=n.sets:=(zBW n a b n.follow.length).1
theorem zGy {l:List Tr}{j:Nat}(hj:j<l.length):l.getD j Tr.none∈l:=by
 rw[lW,lV hj];exact List.getElem_mem _
theorem zEX {sub:Lay}{P:Tr->Prop}(h:∀n t,P t->qS n.sets->qS (sub n t).1.sets){parts:List Tr}(hp:∀t∈parts,P t){n:Nt}(hn:qS n.sets)(j:Nat)(hj:j<=parts.length):qS (rowTo sub n parts j).1.sets:=by
 induction j with
 |zero=>exact hn
 |succ j ih=>
  show qS ((sub (rowTo sub n parts j).1 (parts.getD j Tr.none)).1.link _ _).sets;rw[zDM];exact h _ _ (hp _ (zGy (by omega))) (ih (by omega))
theorem zIi {sub:Lay}{P:Tr->Prop}(h:∀n t,P t->qS n.sets->qS (sub n t).1.sets){parts:List Tr}(hp:∀t∈parts,P t){n:Nt}(hn:qS n.sets)(j:Nat)(hj:j<=parts.length):qS (vY sub n parts j).1.sets:=by
 induction j with
 |zero=>exact hn
 |succ j ih=>exact h _ _ (hp _ (zGy (by omega))) (ih (by omega))
theorem zJa (t:Tr)(j:Nat)(q:Nt×Sn):(jP t j q).sets=q.1.sets:=by
 unfold jP;split
 ·exact zDM _ _ _
 ·rfl
theorem zHh {sub:Lay}{P:Tr->Prop}(h:∀n t,P t->qS n.sets->qS (sub n t).1.sets){t:Tr}(hp:∀u∈t.parts,P u){n:Nt}(hn:qS n.sets)(j:Nat):qS (xS sub n t j).1.sets:=by
 induction j with
 |zero=>exact hn
 |succ j ih=>
  show qS ((jP t j (rowTo sub (xS sub n t j).1 t.parts t.parts.length)).link _ _).sets;rw[zDM,zJa];exact zEX h hp ih _ lQ
theorem zCh:∀d n t,TrOk d t->qS n.sets->qS (xC d n t).1.sets
 |0,_,_,h,_=>False.elim h
 |d+1,n,t,h,hn=>by
  unfold xC;split
  ·intro c hc
   have hc2:=hc;rcases kU.1 hc2 with h1|h1
   ·exact hn c h1
   ·rw[kY.1 h1];exact h.1
  split
  ·exact zEX (P:=TrOk d) (fun n t ht hs=>zCh d n t ht hs) h.2.1 hn _ lQ
  split
  ·exact zIi (P:=TrOk d) (fun n t ht hs=>zCh d n t ht hs) h.2.1 hn _ lQ
  split
  ·exact zHh (P:=TrOk d) (fun n t ht hs=>zCh d n t ht hs) h.2.1 hn _
  ·exact hn
theorem zJe (d:Nat)(rules:List Tr)(h:∀t∈rules,TrOk d t)(j:Nat)(hj:j<=rules.length):qS (xK d rules j).sets:=by
 induction j with
 |zero=>exact fun c hc=>by cases hc
 |succ j ih=>
  have e:(xK d rules (j+1)).sets=(xC d (xK d rules j) (rules.getD j Tr.none)).1.sets:=rfl;rw[e];exact zCh d _ _ (h _ (zGy (by omega))) (ih (by omega))
theorem zKr (l:List Cs)(M:Nat)(h:∀c∈l,c.ranges.length<=M):yC l<=l.length*M:=by
 induction l with
 |nil=>exact lX
 |cons c l ih=>
  have h1:=h c gV;have h2:=ih fun x hx=>h x (List.mem_cons_of_mem _ hx);show c.ranges.length+yC l<=(l.length+1)*M;rw[Nat.add_mul];omega
theorem zLk {n:Nt}(h:qS n.sets)(hl:n.sets.length<=24):n.Fits:=by
 refine⟨?_,fun c hc r hr=>?_⟩
 ·have h1:=zKr n.sets 10000000 fun c hc=>(h c hc).1
  have h2:n.sets.length*10000000<=24*10000000:=Nat.mul_le_mul_right _ hl;omega
 ·have:=(h c hc).2 r hr
  omega
theorem zK4 (d:Nat)(l:List Tr)(h:∀t∈l,TrOk d t)(j:Nat)(hj:j<=l.length)(hc:yI l j<=24):zW (yN d) l j=yI l j:=by
 induction j with
 |zero=>rfl
 |succ j ih=>
  have hc2:yI l j+(l.getD j Tr.none).chars<=24:=hc;have h1:=(h _ (zGy (show j<l.length by omega))).chars;show zW (yN d) l j+yN d (l.getD j Tr.none)=yI l j+(l.getD j Tr.none).chars;rw[ih (by omega) (by omega)];have h2:xJ (yN d (l.getD j Tr.none))<=24:=by omega
  unfold xJ at h1 h2;split at h1
  ·rename_i hb
   rw[if_pos hb] at h2;omega
  ·omega
def zA6 (a b c d:Nat->Value)(n:Nat):List Value:=(List.range n).flatMap fun i=>[a i,b i,c i,d i]
theorem zAE (a b c d:Nat->Value)(n:Nat):zA6 a b c d (n+1)=zA6 a b c d n++[a n,b n,c n,d n]:=by
 unfold zA6;rw[List.range_succ,List.flatMap_append];rfl
theorem zKs (a b c d:Nat->Value)(n:Nat):(zA6 a b c d n).length=n*4:=by
 induction n with
 |zero=>rfl
 |succ n ih=>rw[zAE,kX,ih];show n*4+4=_;omega
theorem zKt (a b c d:Nat->Value)(n i:Nat)(hi:i<n):(zA6 a b c d n)[i*4]? =some (a i)∧(zA6 a b c d n)[i*4+1]? =some (b i)∧(zA6 a b c d n)[i*4+2]? =some (c i)∧(zA6 a b c d n)[i*4+3]? =some (d i):=by
 induction n with
 |zero=>omega
 |succ n ih=>
  rw[zAE];have hl:=zKs a b c d n;by_cases h:i<n
  ·rw[kW (by omega),kW (by omega),kW (by omega),kW (by omega)]
   exact ih h
  ·have e:i=n:=by omega
   subst e;rw[gX (by omega),gX (by omega),gX (by omega),gX (by omega),hl,Nat.sub_self,show i*4+1-i*4=1 by omega,show i*4+2-i*4=2 by omega,show i*4+3-i*4=3 by omega];exact⟨rfl,rfl,rfl,rfl⟩
theorem zHS (a b c d a' b' c' d':Nat->Value)(n:Nat)(h:∀i,i<n->a i=a' i∧b i=b' i∧c i=c' i∧d i=d' i):zA6 a b c d n=zA6 a' b' c' d' n:=by
 induction n with
 |zero=>rfl
 |succ n ih=>rw[zAE,zAE,ih fun i hi=>h i (by omega),(h n (by omega)).1,(h n (by omega)).2.1,(h n (by omega)).2.2.1,(h n (by omega)).2.2.2]
def Sm.nil:Sm:=⟨[],[],0,[]⟩
structure Lm (w:World)(H:Nat)(v:Value)(ms:List Sm)(a b d:Nat->Value):Prop where
 own:w.ownsRow H 134 4 v ms.length (zA6 a b (fun i=>.int .i64 (ms.getD i Sm.nil).start) d ms.length)
 next:∀i,i<ms.length->IntRows w (fun g=>H<=g∧g<w.heap.size∧some g≠v.ownBlock) (a i) (ms.getD i Sm.nil).next
 rules:∀i,i<ms.length->Ints w (fun g=>H<=g∧g<w.heap.size∧some g≠v.ownBlock) (b i) (ms.getD i Sm.nil).rules
 empty:∀i,i<ms.length->Bools w (fun g=>H<=g∧g<w.heap.size∧some g≠v.ownBlock) (d i) (ms.getD i Sm.nil).empty
def zLe (w:World)(H:Nat)(v:Value)(ms:List Sm):Prop:=∃a b d,Lm w H v ms a b d
theorem Lm.nil (w:World)(H:Nat):zLe w H (.slice none 0 0) []:=⟨fun _=>.slice none 0 0,fun _=>.slice none 0 0,fun _=>.slice none 0 0,ownsRow_nil _ _ _ _,fun i hi=>absurd hi (Nat.not_lt_zero _),fun i hi=>absurd hi (Nat.not_lt_zero _),fun i hi=>absurd hi (Nat.not_lt_zero _)⟩
theorem Lm.grown {w w2:World}{H:Nat}{v:Value}{ms:List Sm}{a b d:Nat->Value}(h:Lm w H v ms a b d)(hk:Grew w w2):Lm w2 H v ms a b d:=by
 have e:∀g,(H<=g∧g<w.heap.size∧some g≠v.ownBlock)->w2.heap[g]? =w.heap[g]? :=fun g hg=>hk.block g hg.2.1 (kJ hg.2.1);have m:∀g,(H<=g∧g<w.heap.size∧some g≠v.ownBlock)->(H<=g∧g<w2.heap.size∧some g≠v.ownBlock):=fun g hg=>⟨hg.1,lZ hg.2.1 hk.size,hg.2.2⟩
 exact⟨zJ h.own hk,fun i hi=>((h.next i hi).keep e).mono m,fun i hi=>((h.rules i hi).keep e).mono m,fun i hi=>((h.empty i hi).keep e).mono m⟩
theorem Lm.modes {w:World}{H:Nat}{v:Value}{ms:List Sm}(h:zLe w H v ms):ModesAt w (In w) v ms:=by
 obtain⟨a,b,d,h⟩:=h;obtain⟨ao,cap,hv,h1,h2⟩:=zDa h.own;refine⟨ao,cap,hv,h1,h2,fun i hi=>?_⟩;obtain⟨g,cap2,hv2,-,hg,-,-,hc,-⟩:=qH h.own (by omega);rw[hv] at hv2;injection hv2 with e1 e2 e3;obtain⟨q0,q1,q2,q3⟩:=zKt a b (fun i=>.int .i64 (ms.getD i Sm.nil).start) d ms.length i hi;have em:ms.getD i Sm.nil=ms[i]:=by rw[lW,lV hi];rfl
 have hin:∀g,(H<=g∧g<w.heap.size∧some g≠v.ownBlock)->In w g:=fun g hg=>hg.2.1;refine⟨g,0,a i,b i,d i,e1,hg,?_,?_,?_,?_,?_,?_,?_⟩
 ·rw[Nat.zero_add];exact hc _ _ q0
 ·rw[Nat.zero_add];exact hc _ _ q1
 ·rw[Nat.zero_add,<-em];exact hc _ _ q2
 ·rw[Nat.zero_add];exact hc _ _ q3
 ·rw[<-em];exact(h.next i hi).mono hin
 ·rw[<-em];exact(h.rules i hi).mono hin
 ·rw[<-em];exact(h.empty i hi).mono hin
theorem Lm.app {w w2:World}{H:Nat}{v:Value}{ms:List Sm}{a b d:Nat->Value}{o:Obj}{g cap:Nat}{m:Sm}{x y z:Value}(h:Lm w H v ms a b d)(hH:H<=w.heap.size)(hx:IntRows w (fun g=>H<=g∧g<w.heap.size∧some g≠v.ownBlock) x m.next)(hy:Ints w (fun g=>H<=g∧g<w.heap.size∧some g≠v.ownBlock) y m.rules)(hz:Bools w (fun g=>H<=g∧g<w.heap.size∧some g≠v.ownBlock) z m.empty)(hown:w2.ownsRow H 134 4 (.slice (some ⟨g,0,none⟩) (ms.length+1) cap) (ms.length+1) (zA6 a b (fun i=>.int .i64 (ms.getD i Sm.nil).start) d ms.length++[x,y,.int .i64 m.start,z]))(hg:(w.alloc o).grownBy w2 v.ownBlock)(hat:v.ownBlock=some g∨w.heap.size<=g):
  zLe w2 H (.slice (some ⟨g,0,none⟩) (ms.length+1) cap) (ms++[m])∧Keep H H w w2:=by
 have hsz:w.heap.size<=w2.heap.size:=lY (by simp) hg.size;have e:∀q,(H<=q∧q<w.heap.size∧some q≠v.ownBlock)->w2.heap[q]? =w.heap[q]? :=fun q hq=>(hg.block q (by simp;omega) hq.2.2).trans (lG _ _ _ hq.2.1);have mo:∀q,(H<=q∧q<w.heap.size∧some q≠v.ownBlock)->(H<=q∧q<w2.heap.size∧some q≠(Value.slice (some ⟨g,0,none⟩) (ms.length+1) cap).ownBlock):=fun q hq=>⟨hq.1,lZ hq.2.1 hsz,fun e2=>by
  have e3:q=g:=by simpa[Value.ownBlock] using e2
  rcases hat with ha|ha
  ·exact hq.2.2 (by rw[ha,e3])
  ·have:=hq.2.1;omega⟩
 have hl:(ms++[m]).length=ms.length+1:=by simp
 have hold:∀i,i<ms.length->(ms++[m]).getD i Sm.nil=ms.getD i Sm.nil:=fun i hi=>by rw[lW,lW,kW hi]
 have hnew:(ms++[m]).getD ms.length Sm.nil=m:=by simp
 refine⟨⟨fun i=>if i=ms.length then x else a i,fun i=>if i=ms.length then y else b i,fun i=>if i=ms.length then z else d i,?_,fun i hi=>?_,fun i hi=>?_,fun i hi=>?_⟩,xN (xP h.own hg hH)⟩
 ·rw[hl,zAE,if_pos rfl,if_pos rfl,if_pos rfl,hnew,zHS (fun i=>if i=ms.length then x else a i) (fun i=>if i=ms.length then y else b i) (fun i=>.int .i64 ((ms++[m]).getD i Sm.nil).start) (fun i=>if i=ms.length then z else d i) a b (fun i=>.int .i64 (ms.getD i Sm.nil).start) d ms.length fun i hi=>⟨if_neg (by omega),if_neg (by omega),by rw[hold i hi],if_neg (by omega)⟩]
  exact hown
 ·rw[hl] at hi
  by_cases ei:i=ms.length
  ·subst ei;rw[hnew];simp only[if_pos];exact(hx.keep e).mono mo
  ·rw[hold i (by omega)];simp only[if_neg ei];exact((h.next i (by omega)).keep e).mono mo
 ·rw[hl] at hi
  by_cases ei:i=ms.length
  ·subst ei;rw[hnew];simp only[if_pos];exact(hy.keep e).mono mo
  ·rw[hold i (by omega)];simp only[if_neg ei];exact((h.rules i (by omega)).keep e).mono mo
 ·rw[hl] at hi
  by_cases ei:i=ms.length
  ·subst ei;rw[hnew];simp only[if_pos];exact(hz.keep e).mono mo
  ·rw[hold i (by omega)];simp only[if_neg ei];exact((h.empty i (by omega)).keep e).mono mo
theorem Sw.treesAt {w:World}{X:Nat->Prop}{S D:Nat}{sh:Sh}{mv dv av pv:Value}{rv:Nat->Value}{ps:Nat->List Nat}{dp:Nat->Nat}(h:Sw w X S D sh mv dv av pv rv ps dp){j:Nat}(hj:j<sh.modes.length):zJ3 w D (rv j) (sh.mode j).2:=by
 obtain⟨ao,cap,hv,h1,h2⟩:=zDa (h.rOwn j hj);refine⟨ao,cap,hv,h1,h2,fun i hi=>?_⟩;obtain⟨g,cap2,hv2,-,hg,-,-,hc,-⟩:=qH (h.rOwn j hj) (by omega);rw[hv] at hv2;injection hv2 with e1 e2 e3;have hpl:(ps j).length=(sh.mode j).2.length:=by
  have:=(h.rOwn j hj).1;unfold xT at this;rw[kV] at this;omega
 have e4:(xT (ps j))[i]? =some (.pointer (some ⟨(ps j).getD i 0,0,none⟩)):=by
  unfold xT;rw[gJ,lV (by omega:i<(ps j).length),lW,lV (by omega:i<(ps j).length)];rfl
 refine⟨g,0,(ps j).getD i 0,e1,hg,?_,(h.rTree j hj i hi).at⟩;rw[Nat.zero_add];exact hc _ _ e4
def zDe (D:Nat)(rules:List Tr)(most:Nat):Option Sm:=
 match (xK D rules rules.length).sort most with
 |none=>none
 |some k=>if(yA k (xK D rules rules.length).areas most).full then none else some ⟨(yA k (xK D rules rules.length).areas most).next,(yA k (xK D rules rules.length).areas most).rules,(yA k (xK D rules rules.length).areas most).of.getD k.start 0,(xK D rules rules.length).empty⟩
def xZ (D:Nat)(sh:Sh):Nat->Nat->Nat->Option (List Sm)
 |0,_,_=>some []
 |f+1,j,most=>match zDe D (sh.mode j).2 most with
  |none=>none
  |some m=>(xZ D sh f (j+1) (most-m.next.length)).map (m::·)
section
attribute [local go_sem ↓] Go.wp_at_zero Go.wp_at_succ
theorem zJg:(prog.info? 134).map (fun i=>(i.zero,i.size,i.bytes))=some (some (.agg #[.slice none 0 0,.slice none 0 0,.int .i64 0,.slice none 0 0]),4,80):=by kernel_rfl
def zL9 (w:World)(G:Option (List Sm))(e:Ending)(w':World):Prop:=
 Grew w w'∧match G with
 |none=>e=.returned (.tuple #[.slice none 0 0,.bool false])
 |some ms=>∃v,e=.returned (.tuple #[v,.bool true])∧ModesAt w' (In w') v ms
structure ModeFacts (D:Nat)(rules:List Tr):Prop where
 cnt:zW (yN D) rules rules.length<=24
 eight:rules.length<=8
 ok:(xK D rules rules.length).Ok
 fit:(xK D rules rules.length).Fits
theorem SpecIs.facts {w:World}{D:Nat}{mv av pv:Value}{sh:Sh}(h:SpecIs w D mv av pv sh){j:Nat}(hj:j<sh.modes.length):ModeFacts D (sh.mode j).2:=by
 have h8:=lY (h.few j hj) h.ok.acts;have hf:yI (sh.mode j).2 (sh.mode j).2.length<=24:=by
  have:=h.fit;unfold Sh.fitB at this;exact(of_decide_eq_true this) j hj
 have hc:zW (yN D) (sh.mode j).2 (sh.mode j).2.length<=24:=by rw[zK4 D _ (h.ok.rules j hj) _ lQ hf];exact hf
 have hok:=zNj D (sh.mode j).2 hc h8;exact⟨hc,h8,hok,zLk (zJe D _ (h.ok.rules j hj) _ lQ) hok.len⟩
theorem zH8 (D:Nat)(sh:Sh)(j mo:Nat)(ms:List Sm)(hj:j<sh.modes.length):(xZ D sh (sh.modes.length-j) j mo).map (ms++·)=match zDe D (sh.mode j).2 mo with
  |none=>none
  |some m=>(xZ D sh (sh.modes.length-(j+1)) (j+1) (mo-m.next.length)).map ((ms++[m])++·):=by
 rw[show sh.modes.length-j=(sh.modes.length-(j+1))+1 by omega]
 conv=>lhs;unfold xZ
 cases zDe D (sh.mode j).2 mo with
 |none=>rfl
 |some m=>
  show((xZ D sh (sh.modes.length-(j+1)) (j+1) (mo-m.next.length)).map (m::·)).map (ms++·)=_;rw[Option.map_map]
  congr 1
  funext l
  simp
theorem zCu (w:World)(D:Nat)(mv av pv:Value)(sh:Sh)(h:SpecIs w D mv av pv sh)(most:Nat)(hmost:most<=200):
  Calls prog 44 #[.agg #[mv,av,pv],.int .i64 (most:Int)] w (zL9 w (xZ D sh sh.modes.length 0 most)):=by
 obtain⟨i0,hi0,hz0,hz1,hz2⟩:=info_parts zJg;obtain⟨X,S,dv,qv,rv,ps,dp,hS⟩:=h.sheet;obtain⟨am,cm,hmv⟩:=zE hS.mOwn;obtain⟨aa,ca,hav⟩:=zE hS.aOwn;obtain⟨ap,cp,hpv,-⟩:=h.pushes;rw[yX] at hpv;subst hmv hav hpv;have HS:=vl hS;have HF:Hid (∀j,j<sh.modes.length->ModeFacts D (sh.mode j).2):=fun j hj=>h.facts hj;have hm3:=h.ok.modes;obtain⟨w1,hw1,y0,K1⟩:∃w1,w1=w.alloc (.cells #[.slice am sh.modes.length cm,.slice aa sh.acts.length ca,.slice ap sh.pushed.length cp] 79)∧w1.cell? ⟨w.heap.size,0,none⟩=some (.slice am sh.modes.length cm)∧Hid (Grew w w1):=by
  have hb:=gG w (.cells #[.slice am sh.modes.length cm,.slice aa sh.acts.length ca,.slice ap sh.pushed.length cp] 79);refine⟨_,rfl,?_,kZ _ _ lQ⟩;unfold cell?;rw[hb];rfl
 have K1z:Hid (w1.heap.size=w.heap.size+1):=by show _=_;rw[hw1];simp
 obtain⟨G,hG⟩:∃G,G=xZ D sh sh.modes.length 0 most:=⟨_,rfl⟩
 have HG:Hid ((xZ D sh (sh.modes.length-0) 0 most).map (([]:List Sm)++·)=G):=by
  show _=_;rw[hG,Nat.sub_zero];cases xZ D sh sh.modes.length 0 most with
  |none=>rfl
  |some l=>rfl
 rw[<-hG];clear h hS hG;go_in;apply wp_cut;intro K0 J;go_wp2;apply J.out;clear J;rw[<-hw1];clear hw1;go_wp2;clear y0;go_loopg [1,6,17] sh.modes.length (fun q v1 v6 i wr=>∃(j mo:Nat) (ms:List Sm),q=sh.modes.length-j∧j<=sh.modes.length∧v1=.int .i64 (mo:Int)∧i=.int .i64 (j:Int)∧mo<=200∧ms.length=j∧zLe wr (w.heap.size+1) v6 ms∧Grew w wr∧w.heap.size+1<=wr.heap.size∧(xZ D sh (sh.modes.length-j) j mo).map (ms++·)=G)
 case atStart=>exact⟨0,most,[],rfl,lX,rfl,rfl,hmost,rfl,Lm.nil _ _,K1.out,by rw[K1z.out];exact lQ,HG.out⟩
 case round=>
  obtain⟨j,mo,ms,hgk,hj,rfl,rfl,hmo,hml,hLm,hk,hwz,hGo⟩:=hrel;obtain⟨ua,ub,ud,hL⟩:=hLm;obtain⟨ao,cap0,hv6⟩:=zE hL.own;rw[hml] at hv6;subst hv6;have HA:Hid (gk=sh.modes.length-j∧Lm wr (w.heap.size+1) (.slice ao j cap0) ms ua ub ud∧Grew w wr∧ms.length=j):=⟨hgk,hL,hk,hml⟩
  clear hgk hL;by_cases hj2:j<sh.modes.length
  ·have i1:(j:Int)<(sh.modes.length:Int):=by omega
   obtain⟨mg,ra,rc,rfl,hrv,y0,y1⟩:=zCM HS.out hj2 hk;rw[zH8 D sh j mo ms hj2] at hGo;have F:=HF.out j hj2;have HLY:Hid (∀wa,Grew w wa->Calls prog 60 #[.slice ra (sh.mode j).2.length rc] wa fun e w'=>∃nb,e=.returned (.pointer (some ⟨nb,0,none⟩))∧NwIs wa w' nb (xK D (sh.mode j).2 (sh.mode j).2.length)):=fun wa hka=>by
    have:=zKE wa D (rv j) (sh.mode j).2 ((HS.out.grown hka).treesAt hj2) F.eight F.cnt;rw[hrv] at this;exact this
   have hMM:zDe D (sh.mode j).2 mo=match (xK D (sh.mode j).2 (sh.mode j).2.length).sort mo with
     |none=>none
     |some k=>if(yA k (xK D (sh.mode j).2 (sh.mode j).2.length).areas mo).full then none else some ⟨(yA k (xK D (sh.mode j).2 (sh.mode j).2.length).areas mo).next,(yA k (xK D (sh.mode j).2 (sh.mode j).2.length).areas mo).rules,(yA k (xK D (sh.mode j).2 (sh.mode j).2.length).areas mo).of.getD k.start 0,(xK D (sh.mode j).2 (sh.mode j).2.length).empty⟩:=rfl
   rw[hMM] at hGo;clear hMM;obtain⟨hok,hfit⟩:(xK D (sh.mode j).2 (sh.mode j).2.length).Ok∧(xK D (sh.mode j).2 (sh.mode j).2.length).Fits:=⟨F.ok,F.fit⟩
   clear F hrv;generalize hn:xK D (sh.mode j).2 (sh.mode j).2.length=n at *;clear hn;have HSO:Hid (∀wa w2 nb,NwIs wa w2 nb n->Calls prog 61 #[.pointer (some ⟨nb,0,none⟩),.int .i64 (mo:Int)] w2 (zBz w2 n mo)):=fun wa w2 nb hw=>by
    obtain⟨sv,fv,rv2,ev,ps2,hw⟩:=hw;exact zIS w2 nb n sv fv rv2 ev hw.netAt hok hfit mo (by omega)
   obtain⟨wa,hwa,z1,HKa⟩:∃wa,wa=wr.alloc (.cells #[.string (sh.mode j).1,.slice ra (sh.mode j).2.length rc] 120)∧wa.cell? ⟨wr.heap.size,1,none⟩=some (.slice ra (sh.mode j).2.length rc)∧Hid (Grew w wa∧Lm wa (w.heap.size+1) (.slice ao j cap0) ms ua ub ud∧w.heap.size+1<=wa.heap.size):=by
    have hb2:=gG wr (.cells #[.string (sh.mode j).1,.slice ra (sh.mode j).2.length rc] 120);refine⟨_,rfl,?_,hk.trans (kZ _ _ (by omega)),HA.out.2.1.grown (kZ _ _ lQ),by simp;omega⟩;unfold cell?;rw[hb2];rfl
   clear hk;apply wp_cut;intro K2 HK2;go_wp2;apply HK2.out;clear HK2;apply wp_cut;intro K2 HK2;go_wp2;apply HK2.out;clear HK2;apply wp_cut;intro KB HKB;refine wp_block ?_;apply wp_cut;intro K2 HK2;go_wp2;apply HK2.out;clear HK2;rw[<-hwa];clear hwa y0 y1;apply wp_cut;intro K2 HK2;go_wp2_with (first|(go_at_call 60;refine(HLY.out wa HKa.out.1).mono ?_;rintro e w2 ⟨nb,rfl,hnw⟩))
   apply HK2.out;clear HK2 HLY;obtain⟨sv2,fv2,rv2,ev2,ps2,hNw⟩:=hnw;have HK2w:Hid (Grew w w2∧Lm w2 (w.heap.size+1) (.slice ao j cap0) ms ua ub ud∧w.heap.size+1<=w2.heap.size∧Nw wa w2 nb n sv2 fv2 rv2 ev2 ps2):=⟨HKa.out.1.trans (hNw.keep.lower HKa.out.1.size HKa.out.1.size),HKa.out.2.1.grown hNw.keep,lY HKa.out.2.2 hNw.keep.size,hNw⟩
   have HS2:=HSO.out wa w2 nb ⟨sv2,fv2,rv2,ev2,ps2,hNw⟩;unfold zBz at HS2;clear hNw z1 HSO;cases hso:n.sort mo with
   |none=>
    rw[hso] at HS2 hGo;have HS3:=vl HS2;have HG2:=vl hGo.symm;clear HS2 hGo hso;go_wp2_with (first|(go_at_call 61;refine HS3.out.mono ?_;rintro e w3 ⟨rfl,hk3⟩))
    rw[HG2.out];refine bodyPost_ret (results_tmp2 rfl _ _ _) rfl ?_;exact⟨HK2w.out.1.trans (hk3.lower HK2w.out.1.size HK2w.out.1.size),rfl⟩
   |some k=>
    obtain⟨kok,krl,kru⟩:=zJD hso hok hfit;rw[hso] at HS2 hGo;have HS3:=vl HS2;have HMK:Hid (∀w3 kb,KdAt w3 kb n.areas k->Calls prog 62 #[.pointer (some ⟨kb,0,none⟩),.int .i64 (mo:Int)] w3 (zDw w3 k n.areas mo)):=fun w3 kb hkd=>zGB w3 kb mo (by omega) k n.areas hkd kok (by omega);have HTB:Hid ((yA k n.areas mo).full=false->(yA k n.areas mo).next.length<=mo):=fun hf=>(zGi k n.areas mo (nr:=(n.rules.length:Int)) (by omega) kru kok.lens hf).2.few;clear HS2 hso kok krl kru;apply wp_cut;intro K2 HK2;go_wp2_with (first|(go_at_call 61;refine HS3.out.mono ?_;rintro e w3 ⟨kb,rfl,hkd,hk3⟩))
    apply HK2.out;clear HK2;have HM4:=HMK.out w3 kb hkd;have HK3w:Hid (Grew w w3∧Lm w3 (w.heap.size+1) (.slice ao j cap0) ms ua ub ud∧w.heap.size+1<=w3.heap.size∧Nw wa w3 nb n sv2 fv2 rv2 ev2 ps2):=⟨HK2w.out.1.trans (hk3.lower HK2w.out.1.size HK2w.out.1.size),HK2w.out.2.1.grown hk3,lY HK2w.out.2.2.1 hk3.size,HK2w.out.2.2.2.grown hk3⟩
    clear hkd hk3 HMK HS3 HK2w;unfold zDw at HM4;cases hfl:(yA k n.areas mo).full with
    |true=>
     rw[hfl] at HM4 hGo;have HG2:Hid (G=none):=hGo.symm;have HM5:Hid (Calls prog 62 #[.pointer (some ⟨kb,0,none⟩),.int .i64 (mo:Int)] w3 fun e w'=>e=.returned (.tuple #[.agg #[.slice none 0 0,.slice none 0 0,.int .i64 0],.bool false])∧Grew w3 w'):=HM4.mono fun e w' h4=>by
      rcases h4.2 with h5|h5
      ·exact⟨h5.2,h4.1⟩
      ·exact absurd h5.1 (by decide)
     clear HM4 hGo hfl HTB;go_wp2_with (first|(go_at_call 62;refine HM5.out.mono ?_;rintro e w4 ⟨rfl,hk4⟩))
     rw[HG2.out];refine bodyPost_ret (results_tmp2 rfl _ _ _) rfl ?_;have h1:=HK3w.out.1.trans (hk4.lower HK3w.out.1.size HK3w.out.1.size);exact⟨h1.trans (kZ _ _ h1.size),rfl⟩
    |false=>
     rw[hfl] at HM4 hGo;have hnl:=HTB.out hfl;have HM5:Hid (Calls prog 62 #[.pointer (some ⟨kb,0,none⟩),.int .i64 (mo:Int)] w3 fun e w'=>∃nv rvv,e=.returned (.tuple #[.agg #[nv,rvv,.int .i64 ((yA k n.areas mo).of.getD k.start 0)],.bool true])∧IntRows w' (fun g=>w3.heap.size<=g∧g<w'.heap.size) nv (yA k n.areas mo).next∧Ints w' (fun g=>w3.heap.size<=g∧g<w'.heap.size) rvv (yA k n.areas mo).rules∧Grew w3 w'):=HM4.mono fun e w' h4=>by
      rcases h4.2 with h5|⟨-,nv,rvv,h5,h6,h7⟩
      ·exact absurd h5.1 (by decide)
      ·exact⟨nv,rvv,h5,h6,h7,h4.1⟩
     have HG2:Hid ((xZ D sh (sh.modes.length-(j+1)) (j+1) (mo-(yA k n.areas mo).next.length)).map ((ms++[⟨(yA k n.areas mo).next,(yA k n.areas mo).rules,(yA k n.areas mo).of.getD k.start 0,n.empty⟩])++·)=G):=hGo;clear HM4 hGo hfl HTB;generalize (yA k n.areas mo).next=NX at *
     generalize (yA k n.areas mo).rules=RL at *;generalize (yA k n.areas mo).of.getD k.start 0=ST at *;apply wp_cut;intro K2 HK2;go_wp2;apply HK2.out;clear HK2;apply wp_cut;intro K2 HK2;go_wp2_with (first|(go_at_call 62;refine HM5.out.mono ?_;rintro e w4 ⟨nv,rvv,rfl,hnv,hrv4,hk4⟩;obtain⟨an,cn,hnv2,-⟩:=id hnv;obtain⟨ar,cr,hrv5,-⟩:=id hrv4;subst hnv2 hrv5))
     apply HK2.out;clear HK2;obtain⟨wt,hwt,t0,t1,t2,HT⟩:∃wt,wt=w4.alloc (.cells #[.slice an NX.length cn,.slice ar RL.length cr,.int .i64 ST] 127)∧wt.cell? ⟨w4.heap.size,0,none⟩=some (.slice an NX.length cn)∧wt.cell? ⟨w4.heap.size,1,none⟩=some (.slice ar RL.length cr)∧wt.cell? ⟨w4.heap.size,2,none⟩=some (.int .i64 ST)∧Hid (Grew w wt∧Lm wt (w.heap.size+1) (.slice ao j cap0) ms ua ub ud∧w.heap.size+1<=wt.heap.size∧Nw wa wt nb n sv2 fv2 rv2 ev2 ps2∧IntRows wt (fun g=>w3.heap.size<=g∧g<wt.heap.size) (.slice an NX.length cn) NX∧Ints wt (fun g=>w3.heap.size<=g∧g<wt.heap.size) (.slice ar RL.length cr) RL):=by
      have hb2:=gG w4 (.cells #[.slice an NX.length cn,.slice ar RL.length cr,.int .i64 ST] 127);have ka:Grew w4 (w4.alloc (.cells #[.slice an NX.length cn,.slice ar RL.length cr,.int .i64 ST] 127)):=kZ _ _ lQ;have h1:=HK3w.out.1.trans (hk4.lower HK3w.out.1.size HK3w.out.1.size);have e:∀g,(w3.heap.size<=g∧g<w4.heap.size)->(w4.alloc (.cells #[.slice an NX.length cn,.slice ar RL.length cr,.int .i64 ST] 127)).heap[g]? =w4.heap[g]? :=fun g hg=>ka.block g hg.2 (kJ hg.2);have mo2:∀g,(w3.heap.size<=g∧g<w4.heap.size)->(w3.heap.size<=g∧g<(w4.alloc (.cells #[.slice an NX.length cn,.slice ar RL.length cr,.int .i64 ST] 127)).heap.size):=fun g hg=>⟨hg.1,by simp;omega⟩
      refine⟨_,rfl,?_,?_,?_,h1.trans (ka.lower h1.size h1.size),(HK3w.out.2.1.grown hk4).grown ka,by have:=hk4.size;have:=HK3w.out.2.2.1;simp;omega,(HK3w.out.2.2.2.grown hk4).grown ka,(hnv.keep e).mono mo2,(hrv4.keep e).mono mo2⟩
      all_goals (unfold cell?;rw[hb2];rfl)
     rw[<-hwt];have hz34:w3.heap.size<=w4.heap.size:=hk4.size;clear hwt hnv hrv4 hk4 HM5;obtain⟨B,hB⟩:∃B,B=w4.heap.size:=⟨_,rfl⟩
     rw[<-hB] at t0 t1 t2 ⊢;clear hB hz34;apply wp_cut;intro K2 HK2;go_wp2;apply HK2.out;clear HK2;apply wp_cut;intro K2 HK2;go_wp2;apply HK2.out;clear HK2;obtain⟨ae,ce,hev⟩:=zE HT.out.2.2.2.1.eOwn;subst hev;have c5:wt.cell? ⟨nb,5,none⟩=some (.slice ae n.empty.length ce):=HT.out.2.2.2.1.netAt.c5;obtain⟨Q,hQ⟩:∃Q,Q=zA6 ua ub (fun i=>.int .i64 (ms.getD i Sm.nil).start) ud j:=⟨_,rfl⟩
     have OW:wt.ownsRow (w.heap.size+1) 134 4 (.slice ao j cap0) j Q:=by
      have:=HT.out.2.1.own;rw[HA.out.2.2.2,<-hQ] at this;exact this
     have hwtz:w.heap.size+1<=wt.heap.size:=HT.out.2.2.1;have HFIN:Hid (∀gg cap w5,w5.ownsRow (w.heap.size+1) 134 4 (.slice (some ⟨gg,0,none⟩) (j+1) cap) (j+1) (Q++[.slice an NX.length cn,.slice ar RL.length cr,.int .i64 ST,.slice ae n.empty.length ce])->(wt.drew.alloc (Obj.cells #[.slice an NX.length cn,.slice ar RL.length cr,.int .i64 ST,.slice ae n.empty.length ce] 134)).grownBy w5 (Value.slice ao j cap0).ownBlock->((Value.slice ao j cap0).ownBlock=some gg∨wt.heap.size<=gg)->zLe w5 (w.heap.size+1) (.slice (some ⟨gg,0,none⟩) (j+1) cap) (ms++[⟨NX,RL,ST,n.empty⟩])∧Grew w w5∧w.heap.size+1<=w5.heap.size):=fun gg cap w5 ho hg ha=>by
      have hjm:=HA.out.2.2.2;have kd:Grew wt wt.drew:=Keep.drew _;have hd:Lm wt.drew (w.heap.size+1) (.slice ao j cap0) ms ua ub ud:=HT.out.2.1.grown kd;have o3:=HK3w.out.2.1.own;have oa:=HKa.out.2.1.own;have z3:=HK3w.out.2.2.1;have za:=HKa.out.2.2;have hx:IntRows wt.drew (fun g=>w.heap.size+1<=g∧g<wt.drew.heap.size∧some g≠(Value.slice ao j cap0).ownBlock) (.slice an NX.length cn) NX:=(HT.out.2.2.2.2.1.keep (w':=wt.drew) fun _ _=>rfl).mono fun g hg2=>⟨by omega,hg2.2,fun e=>by have:=(o3.lt g e.symm).2;omega⟩
      have hy:Ints wt.drew (fun g=>w.heap.size+1<=g∧g<wt.drew.heap.size∧some g≠(Value.slice ao j cap0).ownBlock) (.slice ar RL.length cr) RL:=(HT.out.2.2.2.2.2.keep (w':=wt.drew) fun _ _=>rfl).mono fun g hg2=>⟨by omega,hg2.2,fun e=>by have:=(o3.lt g e.symm).2;omega⟩
      have eo:OwnB wt.drew wa.heap.size (.slice ae n.empty.length ce) n.empty:=zJ HT.out.2.2.2.1.eOwn kd;have hz:Bools wt.drew (fun g=>w.heap.size+1<=g∧g<wt.drew.heap.size∧some g≠(Value.slice ao j cap0).ownBlock) (.slice ae n.empty.length ce) n.empty:=zGg eo fun g hg2=>⟨by have:=(eo.lt g hg2).1;omega,(eo.lt g hg2).2,fun e=>by have:=(oa.lt g e.symm).2;have:=(eo.lt g hg2).1;omega⟩
      rw[<-hjm] at ho ha ⊢;rw[hQ,<-hjm] at ho;rw[<-hjm] at hg hx hy hz hd;obtain⟨q1,q2⟩:=Lm.app (m:=⟨NX,RL,ST,n.empty⟩) hd (show w.heap.size+1<=wt.heap.size from hwtz) hx hy hz ho hg ha;exact⟨q1,HT.out.1.trans ⟨q2.os,q2.output,q2.size,fun k h1 h2=>q2.block k (by omega) (by omega)⟩,lY hwtz q2.size⟩
     clear hQ;go_region_law ((refine step_append_lies _ (by rfl) (.tmp 45) (.tmp 52) 82 (by rfl) (w.heap.size+1) 134 i0 _ 4 80 underlying82 hi0 hz0 hz1 hz2 rfl (by decide) (.slice ao j cap0) j Q (by simp[Act.eval,Act.put]) ((OW.alloc _).drew) ⟨wt.heap.size,0,none⟩ 1 1 [.slice an NX.length cn,.slice ar RL.length cr,.int .i64 ST,.slice ae n.empty.length ce] (by simp[Act.eval,Act.put]) (by rfl) (news_of_block (cs:=#[.slice an NX.length cn,.slice ar RL.length cr,.int .i64 ST,.slice ae n.empty.length ce]) (t:=134) (fr:=(0,0)) (gG wt _)) (by simp[Value.oneCell']) (by decide) (by unfold maxLen;omega) (by omega) (by simp;omega) (wt.heap.size+1) (by simp) ?_;intro gg cap w5 hown hgrow hat hlt))
     all_goals
      have H5:Hid (zLe w5 (w.heap.size+1) (.slice (some ⟨gg,0,none⟩) (j+1) cap) (ms++[⟨NX,RL,ST,n.empty⟩])∧Grew w w5∧w.heap.size+1<=w5.heap.size):=HFIN.out gg cap w5 hown hgrow (by rcases hat with ha|ha;exact .inl ha;right;show wt.heap.size<=gg;omega);clear hown hgrow hat hlt HFIN OW t0 t1 t2 c5;show KB _ _;apply HKB.out;clear HKB;have hsub:((mo:Int)-(NX.length:Int))=((mo-NX.length:Nat):Int):=by omega
      rw[hsub];clear hsub;go_wp2;go_roundg (sh.modes.length-(j+1))
      case measure=>rw[HA.out.1];omega
      case rel=>exact⟨j+1,mo-NX.length,ms++[⟨NX,RL,ST,n.empty⟩],rfl,by omega,rfl,by go_num,by omega,by rw[kX,HA.out.2.2.2];rfl,H5.out.1,H5.out.2.1,H5.out.2.2,HG2.out⟩
  ·have i1:(sh.modes.length:Int)<=(j:Int):=by omega
   have e:j=sh.modes.length:=by omega
   have HG2:Hid (G=some ms):=by
    show _=_;rw[<-hGo,e,Nat.sub_self];show some (ms++[])=_;rw[List.append_nil]
   clear hGo e;go_wp2;rw[HG2.out];refine bodyPost_ret (results_tmp2 rfl _ _ _) rfl ?_;exact⟨HA.out.2.2.1,_,rfl,Lm.modes ⟨ua,ub,ud,HA.out.2.1⟩⟩
end
end Go.Proofs.YtbjcfkdnjaiclaaGreat
