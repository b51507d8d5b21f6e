import Derived.Deep.DrawnRows
import Derived.Deep.RegionHeld3
import Derived.Deep.RegionLaw
import Derived.Test.YtbjcfkdnjaiclaaGreatE0
import Derived.Test.YtbjcfkdnjaiclaaGreatE1
import Derived.Test.YtbjcfkdnjaiclaaGreatE10
/- Parts of the proof. -/
set_option linter.unusedVariables false
set_option linter.unusedSimpArgs false
set_option maxHeartbeats 4000000
set_option maxRecDepth 100000
namespace Go.Proofs.YtbjcfkdnjaiclaaGreat
open Go.RowKit Go.Proofs.Tryz Go.World
open Go.Value (int slice bool pointer string agg tuple)
open Go.IntKind (i64)
open Go.Ending (returned)
def qZ (l:List Cs):Prop:=∀c∈l,zLG c
theorem zDx (n:Nt)(a b:Nat):(n.link a b).sets=n.sets:=(zBN n a b n.follow.length).1
theorem zGB {l:List Tr}{j:Nat}(hj:j<l.length):l.getD j Tr.none∈l:=by
 rw[lW,lV hj];exact List.getElem_mem _
theorem zEQ {sub:Lay}{P:Tr->Prop}(h:∀n t,P t->qZ n.sets->qZ (sub n t).1.sets){parts:List Tr}(hp:∀t∈parts,P t){n:Nt}(hn:qZ n.sets)(j:Nat)(hj:j<=parts.length):qZ (rowTo sub n parts j).1.sets:=by
 induction j with
 |zero=>exact hn
 |succ j ih=>
  show qZ ((sub (rowTo sub n parts j).1 (parts.getD j Tr.none)).1.link _ _).sets;rw[zDx];exact h _ _ (hp _ (zGB (by omega))) (ih (by omega))
theorem zIn {sub:Lay}{P:Tr->Prop}(h:∀n t,P t->qZ n.sets->qZ (sub n t).1.sets){parts:List Tr}(hp:∀t∈parts,P t){n:Nt}(hn:qZ n.sets)(j:Nat)(hj:j<=parts.length):qZ (vV sub n parts j).1.sets:=by
 induction j with
 |zero=>exact hn
 |succ j ih=>exact h _ _ (hp _ (zGB (by omega))) (ih (by omega))
theorem zJk (t:Tr)(j:Nat)(q:Nt×Sn):(jM t j q).sets=q.1.sets:=by
 unfold jM;split
 ·exact zDx _ _ _
 ·rfl
theorem zHh {sub:Lay}{P:Tr->Prop}(h:∀n t,P t->qZ n.sets->qZ (sub n t).1.sets){t:Tr}(hp:∀u∈t.parts,P u){n:Nt}(hn:qZ n.sets)(j:Nat):qZ (xS sub n t j).1.sets:=by
 induction j with
 |zero=>exact hn
 |succ j ih=>
  show qZ ((jM t j (rowTo sub (xS sub n t j).1 t.parts t.parts.length)).link _ _).sets;rw[zDx,zJk];exact zEQ h hp ih _ lQ
theorem zCa:∀d n t,TrOk d t->qZ n.sets->qZ (xC d n t).1.sets
 |0,_,_,h,_=>False.elim h
 |d+1,n,t,h,hn=>by
  unfold xC;split
  ·intro c hc
   have hc2:=hc;rcases kU.1 hc2 with h1|h1
   ·exact hn c h1
   ·rw[kY.1 h1];exact h.1
  split
  ·exact zEQ (P:=TrOk d) (fun n t ht hs=>zCa d n t ht hs) h.2.1 hn _ lQ
  split
  ·exact zIn (P:=TrOk d) (fun n t ht hs=>zCa d n t ht hs) h.2.1 hn _ lQ
  split
  ·exact zHh (P:=TrOk d) (fun n t ht hs=>zCa d n t ht hs) h.2.1 hn _
  ·exact hn
theorem zJp (d:Nat)(rules:List Tr)(h:∀t∈rules,TrOk d t)(j:Nat)(hj:j<=rules.length):qZ (xJ d rules j).sets:=by
 induction j with
 |zero=>exact fun c hc=>by cases hc
 |succ j ih=>
  have e:(xJ d rules (j+1)).sets=(xC d (xJ d rules j) (rules.getD j Tr.none)).1.sets:=rfl;rw[e];exact zCa d _ _ (h _ (zGB (by omega))) (ih (by omega))
theorem zKM (l:List Cs)(M:Nat)(h:∀c∈l,c.ranges.length<=M):yC l<=l.length*M:=by
 induction l with
 |nil=>exact lX
 |cons c l ih=>
  have h1:=h c gY;have h2:=ih fun x hx=>h x (List.mem_cons_of_mem _ hx);show c.ranges.length+yC l<=(l.length+1)*M;rw[Nat.add_mul];omega
theorem zLR {n:Nt}(h:qZ n.sets)(hl:n.sets.length<=24):n.Fits:=by
 refine⟨?_,fun c hc r hr=>?_⟩
 ·have h1:=zKM n.sets 10000000 fun c hc=>(h c hc).1
  have h2:n.sets.length*10000000<=24*10000000:=Nat.mul_le_mul_right _ hl;omega
 ·have:=(h c hc).2 r hr
  omega
theorem zLp (d:Nat)(l:List Tr)(h:∀t∈l,TrOk d t)(j:Nat)(hj:j<=l.length)(hc:yK l j<=24):zW (yP d) l j=yK l j:=by
 induction j with
 |zero=>rfl
 |succ j ih=>
  have hc2:yK l j+(l.getD j Tr.none).chars<=24:=hc;have h1:=(h _ (zGB (show j<l.length by omega))).chars;show zW (yP d) l j+yP d (l.getD j Tr.none)=yK l j+(l.getD j Tr.none).chars;rw[ih (by omega) (by omega)];have h2:xI (yP d (l.getD j Tr.none))<=24:=by omega
  unfold xI at h1 h2;split at h1
  ·rename_i hb
   rw[if_pos hb] at h2;omega
  ·omega
def zA0 (a b c d:Nat->Value)(n:Nat):List Value:=(List.range n).flatMap fun i=>[a i,b i,c i,d i]
theorem zAz (a b c d:Nat->Value)(n:Nat):zA0 a b c d (n+1)=zA0 a b c d n++[a n,b n,c n,d n]:=by
 unfold zA0;rw[List.range_succ,List.flatMap_append];rfl
theorem zKN (a b c d:Nat->Value)(n:Nat):(zA0 a b c d n).length=n*4:=by
 induction n with
 |zero=>rfl
 |succ n ih=>rw[zAz,kX,ih];show n*4+4=_;omega
theorem zKO (a b c d:Nat->Value)(n i:Nat)(hi:i<n):(zA0 a b c d n)[i*4]? =some (a i)∧(zA0 a b c d n)[i*4+1]? =some (b i)∧(zA0 a b c d n)[i*4+2]? =some (c i)∧(zA0 a b c d n)[i*4+3]? =some (d i):=by
 induction n with
 |zero=>omega
 |succ n ih=>
  rw[zAz];have hl:=zKN a b c d n;by_cases h:i<n
  ·rw[kW (by omega),kW (by omega),kW (by omega),kW (by omega)]
   exact ih h
  ·have e:i=n:=by omega
   subst e;rw[gQ (by omega),gQ (by omega),gQ (by omega),gQ (by omega),hl,Nat.sub_self,show i*4+1-i*4=1 by omega,show i*4+2-i*4=2 by omega,show i*4+3-i*4=3 by omega];exact⟨rfl,rfl,rfl,rfl⟩
theorem zHU (a b c d a' b' c' d':Nat->Value)(n:Nat)(h:∀i,i<n->a i=a' i∧b i=b' i∧c i=c' i∧d i=d' i):zA0 a b c d n=zA0 a' b' c' d' n:=by
 induction n with
 |zero=>rfl
 |succ n ih=>rw[zAz,zAz,ih fun i hi=>h i (by omega),(h n (by omega)).1,(h n (by omega)).2.1,(h n (by omega)).2.2.1,(h n (by omega)).2.2.2]
def Sm.nil:Sm:=⟨[],[],0,[]⟩
structure Lm (w:World)(H:Nat)(v:Value)(ms:List Sm)(a b d:Nat->Value):Prop where
 own:w.ownsRow H 134 4 v ms.length (zA0 a b (fun i=>int i64 (ms.getD i Sm.nil).start) d ms.length)
 next:∀i,i<ms.length->IntRows w (fun g=>H<=g∧g<w.heap.size∧some g≠v.ownBlock) (a i) (ms.getD i Sm.nil).next
 rules:∀i,i<ms.length->Ints w (fun g=>H<=g∧g<w.heap.size∧some g≠v.ownBlock) (b i) (ms.getD i Sm.nil).rules
 empty:∀i,i<ms.length->Bools w (fun g=>H<=g∧g<w.heap.size∧some g≠v.ownBlock) (d i) (ms.getD i Sm.nil).empty
def zLF (w:World)(H:Nat)(v:Value)(ms:List Sm):Prop:=∃a b d,Lm w H v ms a b d
theorem Lm.nil (w:World)(H:Nat):zLF w H (slice none 0 0) []:=⟨fun _=>slice none 0 0,fun _=>slice none 0 0,fun _=>slice none 0 0,ownsRow_nil _ _ _ _,fun i hi=>absurd hi (Nat.not_lt_zero _),fun i hi=>absurd hi (Nat.not_lt_zero _),fun i hi=>absurd hi (Nat.not_lt_zero _)⟩
theorem Lm.grown {w w2:World}{H:Nat}{v:Value}{ms:List Sm}{a b d:Nat->Value}(h:Lm w H v ms a b d)(hk:Grew w w2):Lm w2 H v ms a b d:=by
 have e:∀g,(H<=g∧g<w.heap.size∧some g≠v.ownBlock)->w2.heap[g]? =w.heap[g]? :=fun g hg=>hk.block g hg.2.1 (kJ hg.2.1);have m:∀g,(H<=g∧g<w.heap.size∧some g≠v.ownBlock)->(H<=g∧g<w2.heap.size∧some g≠v.ownBlock):=fun g hg=>⟨hg.1,lZ hg.2.1 hk.size,hg.2.2⟩
 exact⟨zK h.own hk,fun i hi=>((h.next i hi).keep e).mono m,fun i hi=>((h.rules i hi).keep e).mono m,fun i hi=>((h.empty i hi).keep e).mono m⟩
theorem Lm.modes {w:World}{H:Nat}{v:Value}{ms:List Sm}(h:zLF w H v ms):ModesAt w (In w) v ms:=by
 obtain⟨a,b,d,h⟩:=h;obtain⟨ao,cap,hv,h1,h2⟩:=zCZ h.own;refine⟨ao,cap,hv,h1,h2,fun i hi=>?_⟩;obtain⟨g,cap2,hv2,-,hg,-,-,hc,-⟩:=qL h.own (by omega);rw[hv] at hv2;injection hv2 with e1 e2 e3;obtain⟨q0,q1,q2,q3⟩:=zKO a b (fun i=>int i64 (ms.getD i Sm.nil).start) d ms.length i hi;have em:ms.getD i Sm.nil=ms[i]:=by rw[lW,lV hi];rfl
 have hin:∀g,(H<=g∧g<w.heap.size∧some g≠v.ownBlock)->In w g:=fun g hg=>hg.2.1;refine⟨g,0,a i,b i,d i,e1,hg,?_,?_,?_,?_,?_,?_,?_⟩
 ·rw[Nat.zero_add];exact hc _ _ q0
 ·rw[Nat.zero_add];exact hc _ _ q1
 ·rw[Nat.zero_add,<-em];exact hc _ _ q2
 ·rw[Nat.zero_add];exact hc _ _ q3
 ·rw[<-em];exact(h.next i hi).mono hin
 ·rw[<-em];exact(h.rules i hi).mono hin
 ·rw[<-em];exact(h.empty i hi).mono hin
theorem Lm.app {w w2:World}{H:Nat}{v:Value}{ms:List Sm}{a b d:Nat->Value}{o:Obj}{g cap:Nat}{m:Sm}{x y z:Value}(h:Lm w H v ms a b d)(hH:H<=w.heap.size)(hx:IntRows w (fun g=>H<=g∧g<w.heap.size∧some g≠v.ownBlock) x m.next)(hy:Ints w (fun g=>H<=g∧g<w.heap.size∧some g≠v.ownBlock) y m.rules)(hz:Bools w (fun g=>H<=g∧g<w.heap.size∧some g≠v.ownBlock) z m.empty)(hown:w2.ownsRow H 134 4 (slice (some ⟨g,0,none⟩) (ms.length+1) cap) (ms.length+1) (zA0 a b (fun i=>int i64 (ms.getD i Sm.nil).start) d ms.length++[x,y,int i64 m.start,z]))(hg:(w.alloc o).grownBy w2 v.ownBlock)(hat:v.ownBlock=some g∨w.heap.size<=g):
  zLF w2 H (slice (some ⟨g,0,none⟩) (ms.length+1) cap) (ms++[m])∧Keep H H w w2:=by
 have hsz:w.heap.size<=w2.heap.size:=lY (by simp) hg.size;have e:∀q,(H<=q∧q<w.heap.size∧some q≠v.ownBlock)->w2.heap[q]? =w.heap[q]? :=fun q hq=>(hg.block q (by simp;omega) hq.2.2).trans (lG _ _ _ hq.2.1);have mo:∀q,(H<=q∧q<w.heap.size∧some q≠v.ownBlock)->(H<=q∧q<w2.heap.size∧some q≠(Value.slice (some ⟨g,0,none⟩) (ms.length+1) cap).ownBlock):=fun q hq=>⟨hq.1,lZ hq.2.1 hsz,fun e2=>by
  have e3:q=g:=by simpa[Value.ownBlock] using e2
  rcases hat with ha|ha
  ·exact hq.2.2 (by rw[ha,e3])
  ·have:=hq.2.1;omega⟩
 have hl:(ms++[m]).length=ms.length+1:=by simp
 have hold:∀i,i<ms.length->(ms++[m]).getD i Sm.nil=ms.getD i Sm.nil:=fun i hi=>by rw[lW,lW,kW hi]
 have hnew:(ms++[m]).getD ms.length Sm.nil=m:=by simp
 refine⟨⟨fun i=>if i=ms.length then x else a i,fun i=>if i=ms.length then y else b i,fun i=>if i=ms.length then z else d i,?_,fun i hi=>?_,fun i hi=>?_,fun i hi=>?_⟩,xN (xP h.own hg hH)⟩
 ·rw[hl,zAz,if_pos rfl,if_pos rfl,if_pos rfl,hnew,zHU (fun i=>if i=ms.length then x else a i) (fun i=>if i=ms.length then y else b i) (fun i=>int i64 ((ms++[m]).getD i Sm.nil).start) (fun i=>if i=ms.length then z else d i) a b (fun i=>int i64 (ms.getD i Sm.nil).start) d ms.length fun i hi=>⟨if_neg (by omega),if_neg (by omega),by rw[hold i hi],if_neg (by omega)⟩]
  exact hown
 ·rw[hl] at hi
  by_cases ei:i=ms.length
  ·subst ei;rw[hnew];simp only[if_pos];exact(hx.keep e).mono mo
  ·rw[hold i (by omega)];simp only[if_neg ei];exact((h.next i (by omega)).keep e).mono mo
 ·rw[hl] at hi
  by_cases ei:i=ms.length
  ·subst ei;rw[hnew];simp only[if_pos];exact(hy.keep e).mono mo
  ·rw[hold i (by omega)];simp only[if_neg ei];exact((h.rules i (by omega)).keep e).mono mo
 ·rw[hl] at hi
  by_cases ei:i=ms.length
  ·subst ei;rw[hnew];simp only[if_pos];exact(hz.keep e).mono mo
  ·rw[hold i (by omega)];simp only[if_neg ei];exact((h.empty i (by omega)).keep e).mono mo
theorem Sw.treesAt {w:World}{X:Nat->Prop}{S D:Nat}{sh:Sh}{mv dv av pv:Value}{rv:Nat->Value}{ps:Nat->List Nat}{dp:Nat->Nat}(h:Sw w X S D sh mv dv av pv rv ps dp){j:Nat}(hj:j<sh.modes.length):zKl w D (rv j) (sh.mode j).2:=by
 obtain⟨ao,cap,hv,h1,h2⟩:=zCZ (h.rOwn j hj);refine⟨ao,cap,hv,h1,h2,fun i hi=>?_⟩;obtain⟨g,cap2,hv2,-,hg,-,-,hc,-⟩:=qL (h.rOwn j hj) (by omega);rw[hv] at hv2;injection hv2 with e1 e2 e3;have hpl:(ps j).length=(sh.mode j).2.length:=by
  have:=(h.rOwn j hj).1;unfold xT at this;rw[kV] at this;omega
 have e4:(xT (ps j))[i]? =some (pointer (some ⟨(ps j).getD i 0,0,none⟩)):=by
  unfold xT;rw[gV,lV (by omega:i<(ps j).length),lW,lV (by omega:i<(ps j).length)];rfl
 refine⟨g,0,(ps j).getD i 0,e1,hg,?_,(h.rTree j hj i hi).at⟩;rw[Nat.zero_add];exact hc _ _ e4
def zBL (D:Nat)(rules:List Tr)(most:Nat):Option Sm:=
 match (xJ D rules rules.length).sort most with
 |none=>none
 |some k=>if(xZ k (xJ D rules rules.length).areas most).full then none else some ⟨(xZ k (xJ D rules rules.length).areas most).next,(xZ k (xJ D rules rules.length).areas most).rules,(xZ k (xJ D rules rules.length).areas most).of.getD k.start 0,(xJ D rules rules.length).empty⟩
def xR (D:Nat)(sh:Sh):Nat->Nat->Nat->Option (List Sm)
 |0,_,_=>some []
 |f+1,j,most=>match zBL D (sh.mode j).2 most with
  |none=>none
  |some m=>(xR D sh f (j+1) (most-m.next.length)).map (m::·)
section
attribute [local go_sem ↓] Go.wp_at_zero Go.wp_at_succ
theorem zJr:(prog.info? 134).map (fun i=>(i.zero,i.size,i.bytes))=some (some (agg #[slice none 0 0,slice none 0 0,int i64 0,slice none 0 0]),4,80):=by kernel_rfl
def zMJ (w:World)(G:Option (List Sm))(e:Ending)(w':World):Prop:=
 Grew w w'∧match G with
 |none=>e=returned (tuple #[slice none 0 0,bool false])
 |some ms=>∃v,e=returned (tuple #[v,bool true])∧ModesAt w' (In w') v ms
structure ModeFacts (D:Nat)(rules:List Tr):Prop where
 cnt:zW (yP D) rules rules.length<=24
 eight:rules.length<=8
 ok:(xJ D rules rules.length).Ok
 fit:(xJ D rules rules.length).Fits
theorem SpecIs.facts {w:World}{D:Nat}{mv av pv:Value}{sh:Sh}(h:SpecIs w D mv av pv sh){j:Nat}(hj:j<sh.modes.length):ModeFacts D (sh.mode j).2:=by
 have h8:=lY (h.few j hj) h.ok.acts;have hf:yK (sh.mode j).2 (sh.mode j).2.length<=24:=by
  have:=h.fit;unfold Sh.fitB at this;exact(of_decide_eq_true this) j hj
 have hc:zW (yP D) (sh.mode j).2 (sh.mode j).2.length<=24:=by rw[zLp D _ (h.ok.rules j hj) _ lQ hf];exact hf
 have hok:=zN4 D (sh.mode j).2 hc h8;exact⟨hc,h8,hok,zLR (zJp D _ (h.ok.rules j hj) _ lQ) hok.len⟩
theorem zH7 (D:Nat)(sh:Sh)(j mo:Nat)(ms:List Sm)(hj:j<sh.modes.length):(xR D sh (sh.modes.length-j) j mo).map (ms++·)=match zBL D (sh.mode j).2 mo with
  |none=>none
  |some m=>(xR D sh (sh.modes.length-(j+1)) (j+1) (mo-m.next.length)).map ((ms++[m])++·):=by
 rw[show sh.modes.length-j=(sh.modes.length-(j+1))+1 by omega]
 conv=>lhs;unfold xR
 cases zBL D (sh.mode j).2 mo with
 |none=>rfl
 |some m=>
  show((xR D sh (sh.modes.length-(j+1)) (j+1) (mo-m.next.length)).map (m::·)).map (ms++·)=_;rw[Option.map_map]
  congr 1
  funext l
  simp
theorem zCm (w:World)(D:Nat)(mv av pv:Value)(sh:Sh)(h:SpecIs w D mv av pv sh)(most:Nat)(hmost:most<=200):
  Calls prog 44 #[agg #[mv,av,pv],int i64 (most:Int)] w (zMJ w (xR D sh sh.modes.length 0 most)):=by
 obtain⟨i0,hi0,hz0,hz1,hz2⟩:=info_parts zJr;obtain⟨X,S,dv,qv,rv,ps,dp,hS⟩:=h.sheet;obtain⟨am,cm,hmv⟩:=zG hS.mOwn;obtain⟨aa,ca,hav⟩:=zG hS.aOwn;obtain⟨ap,cp,hpv,-⟩:=h.pushes;rw[yY] at hpv;subst hmv hav hpv;have HS:=vl hS;have HF:Hid (∀j,j<sh.modes.length->ModeFacts D (sh.mode j).2):=fun j hj=>h.facts hj;have hm3:=h.ok.modes;obtain⟨w1,hw1,y0,K1⟩:∃w1,w1=w.alloc (.cells #[slice am sh.modes.length cm,slice aa sh.acts.length ca,slice ap sh.pushed.length cp] 79)∧w1.cell? ⟨w.heap.size,0,none⟩=some (slice am sh.modes.length cm)∧Hid (Grew w w1):=by
  have hb:=gU w (.cells #[slice am sh.modes.length cm,slice aa sh.acts.length ca,slice ap sh.pushed.length cp] 79);refine⟨_,rfl,?_,kZ _ _ lQ⟩;unfold cell?;rw[hb];rfl
 have K1z:Hid (w1.heap.size=w.heap.size+1):=by show _=_;rw[hw1];simp
 obtain⟨G,hG⟩:∃G,G=xR D sh sh.modes.length 0 most:=⟨_,rfl⟩
 have HG:Hid ((xR D sh (sh.modes.length-0) 0 most).map (([]:List Sm)++·)=G):=by
  show _=_;rw[hG,Nat.sub_zero];cases xR D sh sh.modes.length 0 most with
  |none=>rfl
  |some l=>rfl
 rw[<-hG];clear h hS hG;go_in;apply wp_cut;intro K0 J;go_wp2;apply J.out;clear J;rw[<-hw1];clear hw1;go_wp2;clear y0;go_loopg [1,6,17] sh.modes.length (fun q v1 v6 i wr=>∃(j mo:Nat) (ms:List Sm),q=sh.modes.length-j∧j<=sh.modes.length∧v1=int i64 (mo:Int)∧i=int i64 (j:Int)∧mo<=200∧ms.length=j∧zLF wr (w.heap.size+1) v6 ms∧Grew w wr∧w.heap.size+1<=wr.heap.size∧(xR D sh (sh.modes.length-j) j mo).map (ms++·)=G)
 case atStart=>exact⟨0,most,[],rfl,lX,rfl,rfl,hmost,rfl,Lm.nil _ _,K1.out,by rw[K1z.out];exact lQ,HG.out⟩
 case round=>
  obtain⟨j,mo,ms,hgk,hj,rfl,rfl,hmo,hml,hLm,hk,hwz,hGo⟩:=hrel;obtain⟨ua,ub,ud,hL⟩:=hLm;obtain⟨ao,cap0,hv6⟩:=zG hL.own;rw[hml] at hv6;subst hv6;have HA:Hid (gk=sh.modes.length-j∧Lm wr (w.heap.size+1) (slice ao j cap0) ms ua ub ud∧Grew w wr∧ms.length=j):=⟨hgk,hL,hk,hml⟩
  clear hgk hL;by_cases hj2:j<sh.modes.length
  ·have i1:(j:Int)<(sh.modes.length:Int):=by omega
   obtain⟨mg,ra,rc,rfl,hrv,y0,y1⟩:=zCz HS.out hj2 hk;rw[zH7 D sh j mo ms hj2] at hGo;have F:=HF.out j hj2;have HLY:Hid (∀wa,Grew w wa->Ca 60 #[slice ra (sh.mode j).2.length rc] wa fun e w'=>∃nb,e=returned (pointer (some ⟨nb,0,none⟩))∧NwIs wa w' nb (xJ D (sh.mode j).2 (sh.mode j).2.length)):=fun wa hka=>by
    have:=zK0 wa D (rv j) (sh.mode j).2 ((HS.out.grown hka).treesAt hj2) F.eight F.cnt;rw[hrv] at this;exact this
   have hMM:zBL D (sh.mode j).2 mo=match (xJ D (sh.mode j).2 (sh.mode j).2.length).sort mo with
     |none=>none
     |some k=>if(xZ k (xJ D (sh.mode j).2 (sh.mode j).2.length).areas mo).full then none else some ⟨(xZ k (xJ D (sh.mode j).2 (sh.mode j).2.length).areas mo).next,(xZ k (xJ D (sh.mode j).2 (sh.mode j).2.length).areas mo).rules,(xZ k (xJ D (sh.mode j).2 (sh.mode j).2.length).areas mo).of.getD k.start 0,(xJ D (sh.mode j).2 (sh.mode j).2.length).empty⟩:=rfl
   rw[hMM] at hGo;clear hMM;obtain⟨hok,hfit⟩:(xJ D (sh.mode j).2 (sh.mode j).2.length).Ok∧(xJ D (sh.mode j).2 (sh.mode j).2.length).Fits:=⟨F.ok,F.fit⟩
   clear F hrv;generalize hn:xJ D (sh.mode j).2 (sh.mode j).2.length=n at *;clear hn;have HSO:Hid (∀wa w2 nb,NwIs wa w2 nb n->Ca 61 #[pointer (some ⟨nb,0,none⟩),int i64 (mo:Int)] w2 (zBu w2 n mo)):=fun wa w2 nb hw=>by
    obtain⟨sv,fv,rv2,ev,ps2,hw⟩:=hw;exact zI2 w2 nb n sv fv rv2 ev hw.netAt hok hfit mo (by omega)
   obtain⟨wa,hwa,z1,HKa⟩:∃wa,wa=wr.alloc (.cells #[string (sh.mode j).1,slice ra (sh.mode j).2.length rc] 120)∧wa.cell? ⟨wr.heap.size,1,none⟩=some (slice ra (sh.mode j).2.length rc)∧Hid (Grew w wa∧Lm wa (w.heap.size+1) (slice ao j cap0) ms ua ub ud∧w.heap.size+1<=wa.heap.size):=by
    have hb2:=gU wr (.cells #[string (sh.mode j).1,slice ra (sh.mode j).2.length rc] 120);refine⟨_,rfl,?_,hk.trans (kZ _ _ (by omega)),HA.out.2.1.grown (kZ _ _ lQ),by simp;omega⟩;unfold cell?;rw[hb2];rfl
   clear hk;apply wp_cut;intro K2 HK2;go_wp2;apply HK2.out;clear HK2;apply wp_cut;intro K2 HK2;go_wp2;apply HK2.out;clear HK2;apply wp_cut;intro KB HKB;refine wp_block ?_;apply wp_cut;intro K2 HK2;go_wp2;apply HK2.out;clear HK2;rw[<-hwa];clear hwa y0 y1;apply wp_cut;intro K2 HK2;go_wp2_with (first|(go_at_call 60;refine(HLY.out wa HKa.out.1).mono ?_;rintro e w2 ⟨nb,rfl,hnw⟩))
   apply HK2.out;clear HK2 HLY;obtain⟨sv2,fv2,rv2,ev2,ps2,hNw⟩:=hnw;have HK2w:Hid (Grew w w2∧Lm w2 (w.heap.size+1) (slice ao j cap0) ms ua ub ud∧w.heap.size+1<=w2.heap.size∧Nw wa w2 nb n sv2 fv2 rv2 ev2 ps2):=⟨HKa.out.1.trans (hNw.keep.lower HKa.out.1.size HKa.out.1.size),HKa.out.2.1.grown hNw.keep,lY HKa.out.2.2 hNw.keep.size,hNw⟩
   have HS2:=HSO.out wa w2 nb ⟨sv2,fv2,rv2,ev2,ps2,hNw⟩;unfold zBu at HS2;clear hNw z1 HSO;cases hso:n.sort mo with
   |none=>
    rw[hso] at HS2 hGo;have HS3:=vl HS2;have HG2:=vl hGo.symm;clear HS2 hGo hso;go_wp2_with (first|(go_at_call 61;refine HS3.out.mono ?_;rintro e w3 ⟨rfl,hk3⟩))
    rw[HG2.out];refine bodyPost_ret (results_tmp2 rfl _ _ _) rfl ?_;exact⟨HK2w.out.1.trans (hk3.lower HK2w.out.1.size HK2w.out.1.size),rfl⟩
   |some k=>
    obtain⟨kok,krl,kru⟩:=zJT hso hok hfit;rw[hso] at HS2 hGo;have HS3:=vl HS2;have HMK:Hid (∀w3 kb,KdAt w3 kb n.areas k->Ca 62 #[pointer (some ⟨kb,0,none⟩),int i64 (mo:Int)] w3 (zDj w3 k n.areas mo)):=fun w3 kb hkd=>zGE w3 kb mo (by omega) k n.areas hkd kok (by omega);have HTB:Hid ((xZ k n.areas mo).full=false->(xZ k n.areas mo).next.length<=mo):=fun hf=>(zGd k n.areas mo (nr:=(n.rules.length:Int)) (by omega) kru kok.lens hf).2.few;clear HS2 hso kok krl kru;apply wp_cut;intro K2 HK2;go_wp2_with (first|(go_at_call 61;refine HS3.out.mono ?_;rintro e w3 ⟨kb,rfl,hkd,hk3⟩))
    apply HK2.out;clear HK2;have HM4:=HMK.out w3 kb hkd;have HK3w:Hid (Grew w w3∧Lm w3 (w.heap.size+1) (slice ao j cap0) ms ua ub ud∧w.heap.size+1<=w3.heap.size∧Nw wa w3 nb n sv2 fv2 rv2 ev2 ps2):=⟨HK2w.out.1.trans (hk3.lower HK2w.out.1.size HK2w.out.1.size),HK2w.out.2.1.grown hk3,lY HK2w.out.2.2.1 hk3.size,HK2w.out.2.2.2.grown hk3⟩
    clear hkd hk3 HMK HS3 HK2w;unfold zDj at HM4;cases hfl:(xZ k n.areas mo).full with
    |true=>
     rw[hfl] at HM4 hGo;have HG2:Hid (G=none):=hGo.symm;have HM5:Hid (Ca 62 #[pointer (some ⟨kb,0,none⟩),int i64 (mo:Int)] w3 fun e w'=>e=returned (tuple #[agg #[slice none 0 0,slice none 0 0,int i64 0],bool false])∧Grew w3 w'):=HM4.mono fun e w' h4=>by
      rcases h4.2 with h5|h5
      ·exact⟨h5.2,h4.1⟩
      ·exact absurd h5.1 (by decide)
     clear HM4 hGo hfl HTB;go_wp2_with (first|(go_at_call 62;refine HM5.out.mono ?_;rintro e w4 ⟨rfl,hk4⟩))
     rw[HG2.out];refine bodyPost_ret (results_tmp2 rfl _ _ _) rfl ?_;have h1:=HK3w.out.1.trans (hk4.lower HK3w.out.1.size HK3w.out.1.size);exact⟨h1.trans (kZ _ _ h1.size),rfl⟩
    |false=>
     rw[hfl] at HM4 hGo;have hnl:=HTB.out hfl;have HM5:Hid (Ca 62 #[pointer (some ⟨kb,0,none⟩),int i64 (mo:Int)] w3 fun e w'=>∃nv rvv,e=returned (tuple #[agg #[nv,rvv,int i64 ((xZ k n.areas mo).of.getD k.start 0)],bool true])∧IntRows w' (fun g=>w3.heap.size<=g∧g<w'.heap.size) nv (xZ k n.areas mo).next∧Ints w' (fun g=>w3.heap.size<=g∧g<w'.heap.size) rvv (xZ k n.areas mo).rules∧Grew w3 w'):=HM4.mono fun e w' h4=>by
      rcases h4.2 with h5|⟨-,nv,rvv,h5,h6,h7⟩
      ·exact absurd h5.1 (by decide)
      ·exact⟨nv,rvv,h5,h6,h7,h4.1⟩
     have HG2:Hid ((xR D sh (sh.modes.length-(j+1)) (j+1) (mo-(xZ k n.areas mo).next.length)).map ((ms++[⟨(xZ k n.areas mo).next,(xZ k n.areas mo).rules,(xZ k n.areas mo).of.getD k.start 0,n.empty⟩])++·)=G):=hGo;clear HM4 hGo hfl HTB;generalize (xZ k n.areas mo).next=NX at *
     generalize (xZ k n.areas mo).rules=RL at *;generalize (xZ k n.areas mo).of.getD k.start 0=ST at *;apply wp_cut;intro K2 HK2;go_wp2;apply HK2.out;clear HK2;apply wp_cut;intro K2 HK2;go_wp2_with (first|(go_at_call 62;refine HM5.out.mono ?_;rintro e w4 ⟨nv,rvv,rfl,hnv,hrv4,hk4⟩;obtain⟨an,cn,hnv2,-⟩:=id hnv;obtain⟨ar,cr,hrv5,-⟩:=id hrv4;subst hnv2 hrv5))
     apply HK2.out;clear HK2;obtain⟨wt,hwt,t0,t1,t2,HT⟩:∃wt,wt=w4.alloc (.cells #[slice an NX.length cn,slice ar RL.length cr,int i64 ST] 127)∧wt.cell? ⟨w4.heap.size,0,none⟩=some (slice an NX.length cn)∧wt.cell? ⟨w4.heap.size,1,none⟩=some (slice ar RL.length cr)∧wt.cell? ⟨w4.heap.size,2,none⟩=some (int i64 ST)∧Hid (Grew w wt∧Lm wt (w.heap.size+1) (slice ao j cap0) ms ua ub ud∧w.heap.size+1<=wt.heap.size∧Nw wa wt nb n sv2 fv2 rv2 ev2 ps2∧IntRows wt (fun g=>w3.heap.size<=g∧g<wt.heap.size) (slice an NX.length cn) NX∧Ints wt (fun g=>w3.heap.size<=g∧g<wt.heap.size) (slice ar RL.length cr) RL):=by
      have hb2:=gU w4 (.cells #[slice an NX.length cn,slice ar RL.length cr,int i64 ST] 127);have ka:Grew w4 (w4.alloc (.cells #[slice an NX.length cn,slice ar RL.length cr,int i64 ST] 127)):=kZ _ _ lQ;have h1:=HK3w.out.1.trans (hk4.lower HK3w.out.1.size HK3w.out.1.size);have e:∀g,(w3.heap.size<=g∧g<w4.heap.size)->(w4.alloc (.cells #[slice an NX.length cn,slice ar RL.length cr,int i64 ST] 127)).heap[g]? =w4.heap[g]? :=fun g hg=>ka.block g hg.2 (kJ hg.2);have mo2:∀g,(w3.heap.size<=g∧g<w4.heap.size)->(w3.heap.size<=g∧g<(w4.alloc (.cells #[slice an NX.length cn,slice ar RL.length cr,int i64 ST] 127)).heap.size):=fun g hg=>⟨hg.1,by simp;omega⟩
      refine⟨_,rfl,?_,?_,?_,h1.trans (ka.lower h1.size h1.size),(HK3w.out.2.1.grown hk4).grown ka,by have:=hk4.size;have:=HK3w.out.2.2.1;simp;omega,(HK3w.out.2.2.2.grown hk4).grown ka,(hnv.keep e).mono mo2,(hrv4.keep e).mono mo2⟩
      all_goals (unfold cell?;rw[hb2];rfl)
     rw[<-hwt];have hz34:w3.heap.size<=w4.heap.size:=hk4.size;clear hwt hnv hrv4 hk4 HM5;obtain⟨B,hB⟩:∃B,B=w4.heap.size:=⟨_,rfl⟩
     rw[<-hB] at t0 t1 t2 ⊢;clear hB hz34;apply wp_cut;intro K2 HK2;go_wp2;apply HK2.out;clear HK2;apply wp_cut;intro K2 HK2;go_wp2;apply HK2.out;clear HK2;obtain⟨ae,ce,hev⟩:=zG HT.out.2.2.2.1.eOwn;subst hev;have c5:wt.cell? ⟨nb,5,none⟩=some (slice ae n.empty.length ce):=HT.out.2.2.2.1.netAt.c5;obtain⟨Q,hQ⟩:∃Q,Q=zA0 ua ub (fun i=>int i64 (ms.getD i Sm.nil).start) ud j:=⟨_,rfl⟩
     have OW:wt.ownsRow (w.heap.size+1) 134 4 (slice ao j cap0) j Q:=by
      have:=HT.out.2.1.own;rw[HA.out.2.2.2,<-hQ] at this;exact this
     have hwtz:w.heap.size+1<=wt.heap.size:=HT.out.2.2.1;have HFIN:Hid (∀gg cap w5,w5.ownsRow (w.heap.size+1) 134 4 (slice (some ⟨gg,0,none⟩) (j+1) cap) (j+1) (Q++[slice an NX.length cn,slice ar RL.length cr,int i64 ST,slice ae n.empty.length ce])->(wt.drew.alloc (Obj.cells #[slice an NX.length cn,slice ar RL.length cr,int i64 ST,slice ae n.empty.length ce] 134)).grownBy w5 (Value.slice ao j cap0).ownBlock->((Value.slice ao j cap0).ownBlock=some gg∨wt.heap.size<=gg)->zLF w5 (w.heap.size+1) (slice (some ⟨gg,0,none⟩) (j+1) cap) (ms++[⟨NX,RL,ST,n.empty⟩])∧Grew w w5∧w.heap.size+1<=w5.heap.size):=fun gg cap w5 ho hg ha=>by
      have hjm:=HA.out.2.2.2;have kd:Grew wt wt.drew:=Keep.drew _;have hd:Lm wt.drew (w.heap.size+1) (slice ao j cap0) ms ua ub ud:=HT.out.2.1.grown kd;have o3:=HK3w.out.2.1.own;have oa:=HKa.out.2.1.own;have z3:=HK3w.out.2.2.1;have za:=HKa.out.2.2;have hx:IntRows wt.drew (fun g=>w.heap.size+1<=g∧g<wt.drew.heap.size∧some g≠(Value.slice ao j cap0).ownBlock) (slice an NX.length cn) NX:=(HT.out.2.2.2.2.1.keep (w':=wt.drew) fun _ _=>rfl).mono fun g hg2=>⟨by omega,hg2.2,fun e=>by have:=(o3.lt g e.symm).2;omega⟩
      have hy:Ints wt.drew (fun g=>w.heap.size+1<=g∧g<wt.drew.heap.size∧some g≠(Value.slice ao j cap0).ownBlock) (slice ar RL.length cr) RL:=(HT.out.2.2.2.2.2.keep (w':=wt.drew) fun _ _=>rfl).mono fun g hg2=>⟨by omega,hg2.2,fun e=>by have:=(o3.lt g e.symm).2;omega⟩
      have eo:OwnB wt.drew wa.heap.size (slice ae n.empty.length ce) n.empty:=zK HT.out.2.2.2.1.eOwn kd;have hz:Bools wt.drew (fun g=>w.heap.size+1<=g∧g<wt.drew.heap.size∧some g≠(Value.slice ao j cap0).ownBlock) (slice ae n.empty.length ce) n.empty:=zGa eo fun g hg2=>⟨by have:=(eo.lt g hg2).1;omega,(eo.lt g hg2).2,fun e=>by have:=(oa.lt g e.symm).2;have:=(eo.lt g hg2).1;omega⟩
      rw[<-hjm] at ho ha ⊢;rw[hQ,<-hjm] at ho;rw[<-hjm] at hg hx hy hz hd;obtain⟨q1,q2⟩:=Lm.app (m:=⟨NX,RL,ST,n.empty⟩) hd (show w.heap.size+1<=wt.heap.size from hwtz) hx hy hz ho hg ha;exact⟨q1,HT.out.1.trans ⟨q2.os,q2.output,q2.size,fun k h1 h2=>q2.block k (by omega) (by omega)⟩,lY hwtz q2.size⟩
     clear hQ;go_region_law ((refine step_append_lies _ (by rfl) (.tmp 45) (.tmp 52) 82 (by rfl) (w.heap.size+1) 134 i0 _ 4 80 underlying82 hi0 hz0 hz1 hz2 rfl (by decide) (slice ao j cap0) j Q (by simp[Act.eval,Act.put]) ((OW.alloc _).drew) ⟨wt.heap.size,0,none⟩ 1 1 [slice an NX.length cn,slice ar RL.length cr,int i64 ST,slice ae n.empty.length ce] (by simp[Act.eval,Act.put]) (by rfl) (news_of_block (cs:=#[slice an NX.length cn,slice ar RL.length cr,int i64 ST,slice ae n.empty.length ce]) (t:=134) (fr:=(0,0)) (gU wt _)) (by simp[Value.oneCell']) (by decide) (by unfold maxLen;omega) (by omega) (by simp;omega) (wt.heap.size+1) (by simp) ?_;intro gg cap w5 hown hgrow hat hlt))
     all_goals
      have H5:Hid (zLF w5 (w.heap.size+1) (slice (some ⟨gg,0,none⟩) (j+1) cap) (ms++[⟨NX,RL,ST,n.empty⟩])∧Grew w w5∧w.heap.size+1<=w5.heap.size):=HFIN.out gg cap w5 hown hgrow (by rcases hat with ha|ha;exact .inl ha;right;show wt.heap.size<=gg;omega);clear hown hgrow hat hlt HFIN OW t0 t1 t2 c5;show KB _ _;apply HKB.out;clear HKB;have hsub:((mo:Int)-(NX.length:Int))=((mo-NX.length:Nat):Int):=by omega
      rw[hsub];clear hsub;go_wp2;go_roundg (sh.modes.length-(j+1))
      case measure=>rw[HA.out.1];omega
      case rel=>exact⟨j+1,mo-NX.length,ms++[⟨NX,RL,ST,n.empty⟩],rfl,by omega,rfl,by go_num,by omega,by rw[kX,HA.out.2.2.2];rfl,H5.out.1,H5.out.2.1,H5.out.2.2,HG2.out⟩
  ·have i1:(sh.modes.length:Int)<=(j:Int):=by omega
   have e:j=sh.modes.length:=by omega
   have HG2:Hid (G=some ms):=by
    show _=_;rw[<-hGo,e,Nat.sub_self];show some (ms++[])=_;rw[List.append_nil]
   clear hGo e;go_wp2;rw[HG2.out];refine bodyPost_ret (results_tmp2 rfl _ _ _) rfl ?_;exact⟨HA.out.2.2.1,_,rfl,Lm.modes ⟨ua,ub,ud,HA.out.2.1⟩⟩
end
def xU (l:List (ByteArray×List Tr)):Nat->Nat
 |0=>0
 |j+1=>xU l j+(l.getD j (⟨#[]⟩,[])).2.length
theorem zBS (l l':List (ByteArray×List Tr))(j:Nat)(h:∀i,i<j->(l.getD i (⟨#[]⟩,[])).2.length=(l'.getD i (⟨#[]⟩,[])).2.length):xU l j=xU l' j:=by
 induction j with
 |zero=>rfl
 |succ j ih=>
  show xU l j+_=xU l' j+_;rw[ih fun i hi=>h i (by omega),h j (by omega)]
def zBB (sh:Sh):Prop:=xU sh.modes sh.modes.length=sh.acts.length∧∀a∈sh.acts,a<4
theorem zHe (l:List (ByteArray×List Tr))(k:Nat)(x:ByteArray×List Tr)(hx:x.2.length=(l.getD k (⟨#[]⟩,[])).2.length+1)(j:Nat)(hk:k<j)(hj:j<=l.length):xU (l.set k x) j=xU l j+1:=by
 induction j with
 |zero=>omega
 |succ j ih=>
  show xU (l.set k x) j+((l.set k x).getD j (⟨#[]⟩,[])).2.length=xU l j+(l.getD j (⟨#[]⟩,[])).2.length+1;by_cases e:k=j
  ·subst e
   have e1:xU (l.set k x) k=xU l k:=zBS _ _ k fun i hi=>by rw[lW,lW,List.getElem?_set_ne (by omega)]
   have e2:(l.set k x).getD k (⟨#[]⟩,[])=x:=by rw[lW,List.getElem?_set_self (by omega)];rfl
   rw[e1,e2,hx];omega
  ·have e2:(l.set k x).getD j (⟨#[]⟩,[])=l.getD j (⟨#[]⟩,[]):=by rw[lW,lW,List.getElem?_set_ne e]
   rw[ih (by omega) (by omega),e2];omega
theorem zNB (s:ByteArray):(zAY s).act<4:=by
 unfold zAY zHW
 repeat' split
 all_goals (dsimp only;omega)
theorem zGO {sh sh':Sh}{nm:ByteArray}(h:yI sh nm=some sh')(s:zBB sh):zBB sh':=by
 unfold yI at h;split at h
 ·cases h
 split at h
 ·cases h
 split at h
 ·have e:=hU h
  subst e;refine⟨?_,s.2⟩;show xU (sh.modes++[(nm,[])]) (sh.modes++[(nm,[])]).length=sh.acts.length;rw[kX];show xU (sh.modes++[(nm,[])]) sh.modes.length+((sh.modes++[(nm,[])]).getD sh.modes.length (⟨#[]⟩,[])).2.length=_;have e1:(sh.modes++[(nm,[])]).getD sh.modes.length (⟨#[]⟩,[])=(nm,[]):=by simp
  have e2:xU (sh.modes++[(nm,[])]) sh.modes.length=xU sh.modes sh.modes.length:=zBS _ _ _ fun i hi=>by rw[lW,lW,kW hi]
  rw[e1,e2];exact s.1
 ·cases h
theorem zHQ {sh sh':Sh}{s:ByteArray}(h:vO sh s=some sh')(hs:zBB sh):zBB sh':=by
 unfold vO at h;split at h
 ·split at h
  ·cases h
  split at h
  ·cases h
  split at h
  ·cases hr:vK (qH s 32) sh.defs with
   |none=>rw[hr] at h;cases h
   |some t=>
    rw[hr] at h;have e:=hU h;subst e;exact hs
  ·cases h
 ·cases h
theorem zGN {sh sh':Sh}{nm s:ByteArray}(h:qW sh nm s=some sh')(hs:zBB sh):zBB sh':=by
 unfold qW at h;split at h
 ·split at h
  ·cases h
  split at h
  ·cases h
  split at h
  ·split at h
   ·rename_i h0 _ _ _
    cases hr:vK (qH s 32) sh.defs with
    |none=>rw[hr] at h;cases h
    |some t=>
     rw[hr] at h;have e:=hU h;subst e;have hac:=zNB (yN s 32);generalize (zAY (yN s 32))=ac at *;refine⟨?_,fun a ha=>by rcases kU.1 ha with h1|h1;exact hs.2 a h1;rw[kY.1 h1];exact hac⟩;show xU (sh.modes.set (sh.modes.length-1) ((sh.mode (sh.modes.length-1)).1,(sh.mode (sh.modes.length-1)).2++[t])) (sh.modes.set (sh.modes.length-1) _).length=(sh.acts++[ac.act]).length;rw[List.length_set,kX,zHe sh.modes _ _ (by show((sh.mode (sh.modes.length-1)).2++[t]).length=_;rw[kX];rfl) sh.modes.length (by omega) lQ,hs.1];rfl
   ·cases h
  ·cases h
 ·cases h
theorem zGP {sh sh':Sh}{s:ByteArray}(h:xV sh s=some sh')(hs:zBB sh):zBB sh':=by
 unfold xV at h;split at h
 ·split at h
  ·exact zGO h hs
  split at h
  ·exact zHQ h hs
  ·exact zGN h hs
 ·cases h
theorem zGe:∀f sh n s sh',jG f sh n s=.inl sh'->zBB sh->zBB sh'
 |0,_,_,_,_,h,hs=>by cases h;exact hs
 |f+1,sh,n,s,sh',h,hs=>by
  have h2:(if s.size=0 then .inl sh else if jU s 10 then(match xV sh (yN s 10) with|none=>.inr n|some sh'=>jG f sh' (n+1) (qH s 10)) else .inr n)=(.inl sh':Sh ⊕ Nat):=h;split at h2
  ·cases h2;exact hs
  split at h2
  ·cases hm:xV sh (yN s 10) with
   |none=>rw[hm] at h2;cases h2
   |some sh1=>
    rw[hm] at h2;exact zGe f sh1 (n+1) _ sh' h2 (zGP hm hs)
  ·cases h2
theorem zHD {s:ByteArray}{sh:Sh}(h:jE s=.inl sh):zBB sh:=by
 unfold jE at h;split at h
 ·cases h
 cases hn:jG (s.size+1) Sh.none 1 s with
 |inr n=>rw[hn] at h;cases h
 |inl sh1=>
  rw[hn] at h;have h2:(if sh1.there&&sh1.haveB then(if sh1.fitB then .inl sh1 else .inr (0,4)) else .inr (0,3))=(.inl sh:Sh ⊕ (Nat×Nat)):=h;split at h2
  ·split at h2
   ·cases h2
    exact zGe _ _ _ _ _ hn ⟨rfl,fun a ha=>(List.not_mem_nil ha).elim⟩
   ·cases h2
  ·cases h2
structure SmOk (m:Sm)(mo nr:Nat):Prop where
 one:1<=m.next.length
 few:m.next.length<=mo
 wide:∀row∈m.next,row.length=256∧∀x∈row,0<=x∧x<(m.next.length:Int)
 same:m.rules.length=m.next.length
 rules:∀r∈m.rules,-1<=r∧r<(m.empty.length:Int)
 start:0<=m.start∧m.start<(m.next.length:Int)
 len:m.empty.length=nr
theorem zL7 {D:Nat}{rules:List Tr}{mo:Nat}{m:Sm}(h:zBL D rules mo=some m)(f:ModeFacts D rules):SmOk m mo rules.length:=by
 have hl:=zBk D rules rules.length f.cnt;have hok:=f.ok;have hfit:=f.fit;unfold zBL at h;generalize xJ D rules rules.length=n at *;cases hs:n.sort mo with
 |none=>rw[hs] at h;cases h
 |some k=>
  rw[hs] at h;obtain⟨kok,-,kru⟩:=zJT hs hok hfit;have h2:(if (xZ k n.areas mo).full then none else some ⟨(xZ k n.areas mo).next,(xZ k n.areas mo).rules,(xZ k n.areas mo).of.getD k.start 0,n.empty⟩)=some m:=h;cases hf:(xZ k n.areas mo).full with
  |true=>rw[hf] at h2;cases h2
  |false=>
   rw[hf] at h2;have e:=hU h2;obtain⟨t,fi⟩:=zGd k n.areas mo (nr:=(n.rules.length:Int)) (by omega) kru kok.lens hf;have he:n.empty.length=n.rules.length:=by rw[hl.elen,hl.rlen]
   subst e;exact⟨t.one,fi.few,t.wide,fi.same,fun r hr=>by have:=t.rules r hr;show -1<=r∧r<(n.empty.length:Int);rw[he];exact this,zJZ t _,hl.elen⟩
theorem zGc (D:Nat)(sh:Sh)(hF:∀j,j<sh.modes.length->ModeFacts D (sh.mode j).2):∀f j mo ms,xR D sh f j mo=some ms->j+f<=sh.modes.length->ms.length=f∧(∀i,i<f->∃mo',mo'<=mo∧SmOk (ms.getD i ⟨[],[],0,[]⟩) mo' (sh.mode (j+i)).2.length)∧zE ms f<=mo
 |0,_,_,ms,h,_=>by
  have e:=hU h;subst e;exact⟨rfl,fun i hi=>absurd hi (Nat.not_lt_zero _),lX⟩
 |f+1,j,mo,ms,h,hj=>by
  have h2:(match zBL D (sh.mode j).2 mo with|none=>none|some m=>(xR D sh f (j+1) (mo-m.next.length)).map (m::·))=some ms:=h;cases hm:zBL D (sh.mode j).2 mo with
  |none=>rw[hm] at h2;cases h2
  |some m=>
   rw[hm] at h2;have ok:=zL7 hm (hF j (by omega));have h3:(xR D sh f (j+1) (mo-m.next.length)).map (m::·)=some ms:=h2;cases hr:xR D sh f (j+1) (mo-m.next.length) with
   |none=>rw[hr] at h3;cases h3
   |some l=>
    rw[hr] at h3;have e:=hU h3;have e:=e;subst e;obtain⟨a,b,c⟩:=zGc D sh hF f (j+1) _ l hr (by omega);have hst:∀q,zE (m::l) (q+1)=m.next.length+zE l q:=fun q=>by
     induction q with
     |zero=>show 0+m.next.length=m.next.length+0;omega
     |succ q ih=>
      show zE (m::l) (q+1)+((m::l).getD (q+1) ⟨[],[],0,[]⟩).next.length=m.next.length+(zE l q+(l.getD q ⟨[],[],0,[]⟩).next.length)
      rw[ih,show(m::l).getD (q+1) ⟨[],[],0,[]⟩=l.getD q ⟨[],[],0,[]⟩ from rfl];omega
    refine⟨by rw[gX,a],fun i hi=>?_,?_⟩
    ·cases i with
     |zero=>exact⟨mo,lQ,ok⟩
     |succ i=>
      obtain⟨mo',h5,h6⟩:=b i (by omega);refine⟨mo',by omega,?_⟩;rw[show j+(i+1)=j+1+i by omega];exact h6
    ·rw[hst]
     have:=ok.few;omega
theorem zHK (D:Nat)(sh:Sh)(ms:List Sm)(h:∀i,i<sh.modes.length->(ms.getD i ⟨[],[],0,[]⟩).empty.length=(sh.mode i).2.length)(j:Nat)(hj:j<=sh.modes.length):zT ms j=xU sh.modes j:=by
 induction j with
 |zero=>rfl
 |succ j ih=>
  show zT ms j+(ms.getD j ⟨[],[],0,[]⟩).empty.length=xU sh.modes j+(sh.modes.getD j (⟨#[]⟩,[])).2.length;rw[ih (by omega),h j (by omega)];rfl
theorem zL6 {w:World}{D:Nat}{mv av pv:Value}{sh:Sh}(h:SpecIs w D mv av pv sh)(hsum:zBB sh){most:Nat}(hmost:most<=200){ms:List Sm}(hm:xR D sh sh.modes.length 0 most=some ms):ModesOk ms∧zT ms ms.length=sh.acts.length:=by
 obtain⟨a,b,c⟩:=zGc D sh (fun j hj=>h.facts hj) sh.modes.length 0 most ms hm (by omega);have hh:=h.have_;unfold Sh.haveB at hh;obtain⟨hp,hr⟩:=of_decide_eq_true hh;have hg:∀i (hi:i<ms.length),ms.getD i ⟨[],[],0,[]⟩=ms[i]:=fun i hi=>by rw[lW,lV hi];rfl
 have ok:∀i (hi:i<ms.length),∃mo,SmOk ms[i] mo (sh.mode i).2.length:=fun i hi=>by
  obtain⟨mo,-,h1⟩:=b i (by omega);rw[hg i hi,Nat.zero_add] at h1;exact⟨mo,h1⟩
 have hrt:zT ms ms.length=sh.acts.length:=by
  rw[a,zHK D sh ms (fun i hi=>by obtain⟨mo,h1⟩:=ok i (by omega);rw[hg i (by omega)];exact h1.len) _ lQ];exact hsum.1
 have h1:1<=sh.acts.length:=by
  have h3:=h.few 0 hp;have h4:=hr 0 hp;omega
 refine⟨⟨by omega,by have:=h.ok.modes;omega,fun i hi=>?_,fun i hi row hrow=>?_,fun i hi=>?_,fun i hi=>?_,by rw[a];omega,by omega,by have:=h.ok.acts;omega⟩,hrt⟩
 ·obtain⟨mo,h5⟩:=ok i hi;exact h5.one
 ·obtain⟨mo,h5⟩:=ok i hi
  obtain⟨h6,h7⟩:=h5.wide row hrow;refine⟨h6,fun q hq=>h7 _ ?_⟩;rw[lW,lV (by omega:q<row.length)];exact List.getElem_mem _
 ·obtain⟨mo,h5⟩:=ok i hi;exact⟨h5.same,h5.rules⟩
 ·obtain⟨mo,h5⟩:=ok i hi;exact h5.start
def yL (st ho:Int):Bool:=decide (st<1)||decide (200<st)||decide (ho<1)||decide (64<ho)
def zAk (s:ByteArray)(st ho:Int):(List Sm×Sh) ⊕ (Nat×Nat):=
 if yL st ho then .inr (0,6) else
 match jE s with
 | .inr e=>.inr e
 | .inl sh=>match xR (1+6*s.size) sh sh.modes.length 0 st.toNat with
  |none=>.inr (0,5)
  |some ms=>.inl (ms,sh)
def zIN (w:World)(n k:Nat)(e:Ending)(w':World):Prop:=Grew w w'∧e=returned (tuple #[pointer none,agg #[slice none 0 0,slice none 0 0,slice none 0 0,int i64 0,bool false,int i64 (n:Int)],int i64 (k:Int)])
theorem qS (w:World)(q i:Nat)(v:Value)(c:Array Value)(t:TypeId)(h:w.heap[q]? =some (.cells c t)):∃w3,w3=w.setCell ⟨q,i,none⟩ v∧w3.heap[q]? =some (.cells (c.setIfInBounds i v) t)∧w3.heap.size=w.heap.size∧w3.os=w.os∧w3.output=w.output∧∀k,k≠q->w3.heap[k]? =w.heap[k]? :=⟨_,rfl,by simp[setCell,lU,h],by rw[zC],rfl,rfl,fun k hk=>lJ _ _ _ _ hk⟩
theorem zDn (w w2:World)(v0 v1 v2 v3 v4 v5:Value)(hB:w2.heap[w.heap.size+1]? =some (.cells #[slice none 0 0,slice none 0 0,slice none 0 0,int i64 0,bool false,int i64 0] 30))(hk:Grew w w2):
  ∃w3:World,w3=((((((w2.setCell ⟨w.heap.size+1,0,none⟩ v0).setCell ⟨w.heap.size+1,1,none⟩ v1).setCell ⟨w.heap.size+1,2,none⟩ v2).setCell ⟨w.heap.size+1,3,none⟩ v3).setCell ⟨w.heap.size+1,4,none⟩ v4).setCell ⟨w.heap.size+1,5,none⟩ v5)∧w3.cell? ⟨w.heap.size+1,0,none⟩=some v0∧w3.cell? ⟨w.heap.size+1,1,none⟩=some v1∧w3.cell? ⟨w.heap.size+1,2,none⟩=some v2∧w3.cell? ⟨w.heap.size+1,3,none⟩=some v3∧w3.cell? ⟨w.heap.size+1,4,none⟩=some v4∧w3.cell? ⟨w.heap.size+1,5,none⟩=some v5∧Hid (Grew w w3∧w3.heap.size=w2.heap.size∧w3.os=w2.os∧w3.output=w2.output∧∀k,k≠w.heap.size+1->w3.heap[k]? =w2.heap[k]?):=by
 obtain⟨a1,e1,c1,z1,o1,u1,n1⟩:=qS w2 (w.heap.size+1) 0 v0 _ _ hB;have b1:=c1;obtain⟨a2,e2,c2,z2,o2,u2,n2⟩:=qS a1 (w.heap.size+1) 1 v1 _ _ b1;have b2:=c2;obtain⟨a3,e3,c3,z3,o3,u3,n3⟩:=qS a2 (w.heap.size+1) 2 v2 _ _ b2;have b3:=c3;obtain⟨a4,e4,c4,z4,o4,u4,n4⟩:=qS a3 (w.heap.size+1) 3 v3 _ _ b3;have b4:=c4;obtain⟨a5,e5,c5,z5,o5,u5,n5⟩:=qS a4 (w.heap.size+1) 4 v4 _ _ b4;have b5:=c5;obtain⟨a6,e6,c6,z6,o6,u6,n6⟩:=qS a5 (w.heap.size+1) 5 v5 _ _ b5;have b6:a6.heap[w.heap.size+1]? =some (.cells #[v0,v1,v2,v3,v4,v5] 30):=c6;have hne:∀i,i≠w.heap.size+1->a6.heap[i]? =w2.heap[i]? :=fun i hi=>(n6 i hi).trans ((n5 i hi).trans ((n4 i hi).trans ((n3 i hi).trans ((n2 i hi).trans (n1 i hi)))));have hz:a6.heap.size=w2.heap.size:=by omega
 have ho:a6.os=w2.os:=o6.trans (o5.trans (o4.trans (o3.trans (o2.trans o1))));have hu:a6.output=w2.output:=u6.trans (u5.trans (u4.trans (u3.trans (u2.trans u1))));refine⟨a6,by rw[e6,e5,e4,e3,e2,e1],?_,?_,?_,?_,?_,?_,hk.trans ⟨ho,hu,by omega,fun k h1 _=>hne k (by omega)⟩,hz,ho,hu,hne⟩
 all_goals (unfold cell?;rw[b6];rfl)
theorem zGM {w w2:World}{st ho:Int}{fo:Bool}(hk:Keep (w.heap.size+2) (w.heap.size+2) ((w.alloc (.cells #[int i64 st,int i64 ho,bool fo] 58)).alloc (.cells #[slice none 0 0,slice none 0 0,slice none 0 0,int i64 0,bool false,int i64 0] 30)) w2):w2.heap[w.heap.size+1]? =some (.cells #[slice none 0 0,slice none 0 0,slice none 0 0,int i64 0,bool false,int i64 0] 30)∧w2.cell? ⟨w.heap.size,0,none⟩=some (int i64 st)∧w2.cell? ⟨w.heap.size,1,none⟩=some (int i64 ho)∧w2.cell? ⟨w.heap.size,2,none⟩=some (bool fo)∧Grew w w2:=by
 have s1:(w.alloc (.cells #[int i64 st,int i64 ho,bool fo] 58)).heap.size=w.heap.size+1:=by simp
 have h1:=gU w (.cells #[int i64 st,int i64 ho,bool fo] 58);have h2:=gU (w.alloc (.cells #[int i64 st,int i64 ho,bool fo] 58)) (.cells #[slice none 0 0,slice none 0 0,slice none 0 0,int i64 0,bool false,int i64 0] 30);rw[s1] at h2;have b0:=(hk.block w.heap.size (by omega) (by omega)).trans ((lG _ _ _ (by rw[s1];omega)).trans h1);have b1:=(hk.block (w.heap.size+1) (by omega) (by omega)).trans h2;refine⟨b1,?_,?_,?_,((kZ (H:=w.heap.size) (b:=w.heap.size) _ _ lQ).trans (kZ _ _ (by rw[s1];omega))).trans ⟨hk.os,hk.output,hk.size,fun k h1 h2=>hk.block k (by omega) (by omega)⟩⟩
 all_goals (unfold cell?;rw[b0];rfl)
theorem vW {w:World}{q:Nat}(h:w.heap[q]? =some (.cells #[slice none 0 0,slice none 0 0,slice none 0 0,int i64 0,bool false,int i64 0] 30)):w.cell? ⟨q,0,none⟩=some (slice none 0 0)∧w.cell? ⟨q,1,none⟩=some (slice none 0 0)∧w.cell? ⟨q,2,none⟩=some (slice none 0 0)∧w.cell? ⟨q,3,none⟩=some (int i64 0)∧w.cell? ⟨q,4,none⟩=some (bool false)∧w.cell? ⟨q,5,none⟩=some (int i64 0)∧w.frozen? ⟨q,0,none⟩=false∧w.frozen? ⟨q,1,none⟩=false∧w.frozen? ⟨q,2,none⟩=false∧w.frozen? ⟨q,3,none⟩=false∧w.frozen? ⟨q,4,none⟩=false∧w.frozen? ⟨q,5,none⟩=false:=by
 refine⟨?_,?_,?_,?_,?_,?_,?_,?_,?_,?_,?_,?_⟩
 all_goals first|(unfold cell?;rw[h];rfl)|(unfold frozen?;rw[h];rfl)
theorem zGl (w:World)(st ho:Int)(fo:Bool):∃w2,w2=(w.alloc (.cells #[int i64 st,int i64 ho,bool fo] 58)).alloc (.cells #[slice none 0 0,slice none 0 0,slice none 0 0,int i64 0,bool false,int i64 0] 30)∧Hid (∀w3,Keep (w.heap.size+2) (w.heap.size+2) w2 w3->w3.heap[w.heap.size+1]? =some (.cells #[slice none 0 0,slice none 0 0,slice none 0 0,int i64 0,bool false,int i64 0] 30)∧w3.cell? ⟨w.heap.size,0,none⟩=some (int i64 st)∧w3.cell? ⟨w.heap.size,1,none⟩=some (int i64 ho)∧w3.cell? ⟨w.heap.size,2,none⟩=some (bool fo)∧Grew w w3):=⟨_,rfl,fun w3 hk=>zGM hk⟩
theorem zEp (w:World)(s:ByteArray)(st ho:Int)(fo:Bool)(hb:st<1∨1<=st∧200<st∨1<=st∧st<=200∧ho<1∨1<=st∧st<=200∧1<=ho∧64<ho):Calls prog 30 #[string s,agg #[int i64 st,int i64 ho,bool fo]] w (zIN w 0 6):=by
 obtain⟨w2,hw2,HK1⟩:=zGl w st ho fo;have HZ2:Hid (w2.heap.size=w.heap.size+2):=by show _=_;rw[hw2];simp
 go_in;apply wp_cut;intro K0 J;go_wp2_with fail;apply J.out;clear J;rw[<-hw2];clear hw2;obtain⟨hB,l0,l1,l2,hkk⟩:=HK1.out w2 (Keep.refl _ _ _);obtain⟨r0,r1,r2,r3,r4,r5,g0,g1,g2,g3,g4,g5⟩:=vW hB;obtain⟨w7,hw7,z0,z1,z2,z3,z4,z5,HZ⟩:=zDn w w2 (slice none 0 0) (slice none 0 0) (slice none 0 0) (int i64 0) (bool false) (int i64 (0)) hB hkk;clear hB hkk;rcases hb with h1|⟨h1,h2⟩|⟨h1,h2,h3⟩|⟨h1,h2,h3,h4⟩
 all_goals
  go_wp2;rw[<-hw7];refine bodyPost_ret (v:=tuple #[pointer none,agg #[slice none 0 0,slice none 0 0,slice none 0 0,int i64 0,bool false,int i64 (0)],int i64 6]) (by simp[results,results30,go_sem,z0,z1,z2,z3,z4,z5]) rfl ?_;exact⟨HZ.out.1,rfl⟩
theorem zMm (w:World)(s:ByteArray)(st ho:Int)(fo:Bool)(hs:s.size<=1048576)(h1:1<=st)(h2:st<=200)(h3:1<=ho)(h4:ho<=64)(n k:Nat)(hk0:k≠0)(hsp:jE s=.inr (n,k)):Calls prog 30 #[string s,agg #[int i64 st,int i64 ho,bool fo]] w (zIN w n k):=by
 obtain⟨w2,hw2,HK1⟩:=zGl w st ho fo;have HZ2:Hid (w2.heap.size=w.heap.size+2):=by show _=_;rw[hw2];simp
 have HRD:Hid (Ca 43 #[string s] w2 (zEs w2 (1+6*s.size) (.inr (n,k)))):=by have:=zAw w2 s hs;rw[hsp] at this;exact this
 have ek:((k:Int) != 0)=true:=by simp;omega
 clear hsp hk0;go_in;apply wp_cut;intro K0 J;go_wp2_with fail;apply J.out;clear J;rw[<-hw2];clear hw2;obtain⟨-,p0,p1,p2,-⟩:=HK1.out w2 (Keep.refl _ _ _);apply wp_cut;intro K0 J;go_wp2;apply J.out;clear J;clear p0 p1 p2;apply wp_cut;intro K0 J;go_wp2_with (first|(go_at_call 43;refine HRD.out.mono ?_;rintro e w3 ⟨hk3,rfl⟩))
 apply J.out;clear J;obtain⟨w4,hw4,K4⟩:∃w4,w4=w3.alloc (.cells #[slice none 0 0,slice none 0 0,slice none 0 0] 79)∧Hid (Keep (w.heap.size+2) (w.heap.size+2) w2 w4):=by
  have h5:Keep (w.heap.size+2) (w.heap.size+2) w2 w3:=by rw[<-HZ2.out];exact hk3
  refine⟨_,rfl,h5.trans (kZ _ _ (by have:=hk3.size;rw[HZ2.out] at this;omega))⟩
 rw[<-hw4];clear hw4 hk3;obtain⟨hB,l0,l1,l2,hkk⟩:=HK1.out w4 (K4.out);obtain⟨r0,r1,r2,r3,r4,r5,g0,g1,g2,g3,g4,g5⟩:=vW hB;obtain⟨w7,hw7,z0,z1,z2,z3,z4,z5,HZ⟩:=zDn w w4 (slice none 0 0) (slice none 0 0) (slice none 0 0) (int i64 0) (bool false) (int i64 ((n:Int))) hB hkk;clear hB hkk;go_wp2;rw[<-hw7];refine bodyPost_ret (v:=tuple #[pointer none,agg #[slice none 0 0,slice none 0 0,slice none 0 0,int i64 0,bool false,int i64 ((n:Int))],int i64 (k:Int)]) (by simp[results,results30,go_sem,z0,z1,z2,z3,z4,z5]) rfl ?_;exact⟨HZ.out.1,rfl⟩
theorem SpecIs.grown {w w2:World}{D:Nat}{mv av pv:Value}{sh:Sh}(h:SpecIs w D mv av pv sh)(hk:Grew w w2):SpecIs w2 D mv av pv sh:=by
 obtain⟨X,S,dv,qv,rv,ps,dp,hS⟩:=h.sheet;exact⟨⟨X,S,dv,qv,rv,ps,dp,hS.grown hk⟩,(h.pushes.keep fun b hb=>hk.block b hb (kJ hb)).mono fun b hb=>lZ hb hk.size,h.ok,h.few,h.there,h.have_,h.fit⟩
theorem SpecIs.forms {w:World}{D:Nat}{mv av pv:Value}{sh:Sh}(h:SpecIs w D mv av pv sh):(∃a c,mv=slice a sh.modes.length c)∧(∃a c,av=slice a sh.acts.length c)∧∃a c,pv=slice a sh.pushed.length c:=by
 obtain⟨X,S,dv,qv,rv,ps,dp,hS⟩:=h.sheet;obtain⟨ap,cp,hpv,-⟩:=h.pushes;rw[yY] at hpv;exact⟨zG hS.mOwn,zG hS.aOwn,ap,cp,hpv⟩
theorem SpecIs.acts {w:World}{D:Nat}{mv av pv:Value}{sh:Sh}(h:SpecIs w D mv av pv sh):Ints w (In w) av (ints sh.acts):=by
 obtain⟨X,S,dv,qv,rv,ps,dp,hS⟩:=h.sheet;have h1:w.ownsRow (S+1) 3 1 av (ints sh.acts).length ((ints sh.acts).map fun x=>int i64 x):=by
  rw[zN];unfold ints;rw[List.map_map];exact hS.aOwn
 exact zBJ h1 fun g hg=>(h1.lt g hg).2
theorem zJt (w:World)(s:ByteArray)(fo:Bool)(hs:s.size<=1048576)(m h:Nat)(h1:1<=m)(h2:m<=200)(h3:1<=h)(h4:h<=64)(sh:Sh)(hsp:jE s=.inl sh)(hmo:xR (1+6*s.size) sh sh.modes.length 0 m=none):Calls prog 30 #[string s,agg #[int i64 (m:Int),int i64 (h:Int),bool fo]] w (zIN w 0 5):=by
 obtain⟨w2,hw2,HK1⟩:∃w2,w2=(w.alloc (.cells #[int i64 (m:Int),int i64 (h:Int),bool fo] 58)).alloc (.cells #[slice none 0 0,slice none 0 0,slice none 0 0,int i64 0,bool false,int i64 0] 30)∧Hid (∀w3,Keep (w.heap.size+2) (w.heap.size+2) w2 w3->w3.heap[w.heap.size+1]? =some (.cells #[slice none 0 0,slice none 0 0,slice none 0 0,int i64 0,bool false,int i64 0] 30)∧w3.cell? ⟨w.heap.size,0,none⟩=some (int i64 (m:Int))∧w3.cell? ⟨w.heap.size,1,none⟩=some (int i64 (h:Int))∧w3.cell? ⟨w.heap.size,2,none⟩=some (bool fo)∧Grew w w3):=⟨_,rfl,fun w3 hk=>zGM hk⟩
 have HZ2:Hid (w2.heap.size=w.heap.size+2):=by show _=_;rw[hw2];simp
 have HRD:Hid (Ca 43 #[string s] w2 (zEs w2 (1+6*s.size) (.inl sh))):=by have:=zAw w2 s hs;rw[hsp] at this;exact this
 have k1:(1:Int)<=(m:Int):=by omega
 have k2:(m:Int)<=200:=by omega
 have k3:(1:Int)<=(h:Int):=by omega
 have k4:(h:Int)<=64:=by omega
 have HMO:Hid (∀w4 mv av pv,SpecIs w4 (1+6*s.size) mv av pv sh->Ca 44 #[agg #[mv,av,pv],int i64 (m:Int)] w4 (zMJ w4 (none))):=fun w4 mv av pv h=>by have:=zCm w4 (1+6*s.size) mv av pv sh h m h2;rw[hmo] at this;exact this
 clear hsp hmo;go_in;apply wp_cut;intro K0 J;go_wp2;apply J.out;clear J;rw[<-hw2];clear hw2;obtain⟨-,p0,p1,p2,-⟩:=HK1.out w2 (Keep.refl _ _ _);apply wp_cut;intro K0 J;go_wp2;apply J.out;clear J;clear p0 p1 p2;apply wp_cut;intro K0 J;go_wp2_with (first|(go_at_call 43;refine HRD.out.mono ?_;rintro e w3 ⟨hk3,mv,av,pv,rfl,hsi⟩;obtain⟨⟨am,cm,e1⟩,⟨aa,ca,e2⟩,⟨ap,cp,e3⟩⟩:=hsi.forms;subst e1 e2 e3))
 apply J.out;clear J;obtain⟨w4,hw4,y0,y1,y2,K4⟩:∃w4,w4=w3.alloc (.cells #[slice am sh.modes.length cm,slice aa sh.acts.length ca,slice ap sh.pushed.length cp] 79)∧w4.cell? ⟨w3.heap.size,0,none⟩=some (slice am sh.modes.length cm)∧w4.cell? ⟨w3.heap.size,1,none⟩=some (slice aa sh.acts.length ca)∧w4.cell? ⟨w3.heap.size,2,none⟩=some (slice ap sh.pushed.length cp)∧Hid (Keep (w.heap.size+2) (w.heap.size+2) w2 w4∧SpecIs w4 (1+6*s.size) (slice am sh.modes.length cm) (slice aa sh.acts.length ca) (slice ap sh.pushed.length cp) sh∧w3.heap.size<w4.heap.size∧w.heap.size+2<=w4.heap.size):=by
  have h5:Keep (w.heap.size+2) (w.heap.size+2) w2 w3:=by rw[<-HZ2.out];exact hk3
  have h6:w.heap.size+2<=w3.heap.size:=by have:=hk3.size;rw[HZ2.out] at this;exact this
  have hn:=gU w3 (.cells #[slice am sh.modes.length cm,slice aa sh.acts.length ca,slice ap sh.pushed.length cp] 79);refine⟨_,rfl,?_,?_,?_,h5.trans (kZ _ _ h6),hsi.grown (kZ _ _ lQ),by simp,by simp;omega⟩
  all_goals (unfold cell?;rw[hn];rfl)
 rw[<-hw4];clear hw4 hk3 hsi HRD;apply wp_cut;intro K0 J;go_wp2;apply J.out;clear J;obtain⟨-,l0,-,-,-⟩:=HK1.out w4 K4.out.1;obtain⟨B,hB⟩:∃B,B=w3.heap.size:=⟨_,rfl⟩
 have HBL:Hid (B<w4.heap.size):=by show B<_;rw[hB];exact K4.out.2.2.1
 rw[<-hB] at y0 y1 y2 ⊢;clear hB;go_wp2_with (first|(go_at_call 44;refine(HMO.out w4 _ _ _ K4.out.2.1).mono ?_;rintro e w5 ⟨hk5,rfl⟩;obtain⟨hB,l0,l1,l2,hkk⟩:=HK1.out w5 (K4.out.1.trans (hk5.lower K4.out.2.2.2 K4.out.2.2.2));obtain⟨r0,r1,r2,r3,r4,r5,g0,g1,g2,g3,g4,g5⟩:=vW hB;obtain⟨w7,hw7,z0,z1,z2,z3,z4,z5,HZ⟩:=zDn w w5 (slice none 0 0) (slice none 0 0) (slice none 0 0) (int i64 0) (bool false) (int i64 (0)) hB hkk;clear hB hkk))
 rw[<-hw7];refine bodyPost_ret (v:=tuple #[pointer none,agg #[slice none 0 0,slice none 0 0,slice none 0 0,int i64 0,bool false,int i64 (0)],int i64 5]) (by simp[results,results30,go_sem,z0,z1,z2,z3,z4,z5]) rfl ?_;exact⟨HZ.out.1,rfl⟩
theorem zEk (w2:World)(q:Nat)(a0 a1 a2 a3 a4 a5:Value)(hB:w2.heap[q]? =some (.cells #[slice none 0 0,slice none 0 0,slice none 0 0,int i64 0,bool false,int i64 0] 30)):
  ∃w3:World,w3=((((((w2.setCell ⟨q,0,none⟩ a0).setCell ⟨q,1,none⟩ a1).setCell ⟨q,2,none⟩ a2).setCell ⟨q,3,none⟩ a3).setCell ⟨q,4,none⟩ a4).setCell ⟨q,5,none⟩ a5)∧w3.heap[q]? =some (.cells #[a0,a1,a2,a3,a4,a5] 30)∧w3.heap.size=w2.heap.size∧w3.os=w2.os∧w3.output=w2.output∧∀k,k≠q->w3.heap[k]? =w2.heap[k]? :=by
 obtain⟨x1,e1,c1,z1,o1,u1,n1⟩:=qS w2 q 0 a0 _ _ hB;have b1:=c1;obtain⟨x2,e2,c2,z2,o2,u2,n2⟩:=qS x1 q 1 a1 _ _ b1;have b2:=c2;obtain⟨x3,e3,c3,z3,o3,u3,n3⟩:=qS x2 q 2 a2 _ _ b2;have b3:=c3;obtain⟨x4,e4,c4,z4,o4,u4,n4⟩:=qS x3 q 3 a3 _ _ b3;have b4:=c4;obtain⟨x5,e5,c5,z5,o5,u5,n5⟩:=qS x4 q 4 a4 _ _ b4;have b5:=c5;obtain⟨x6,e6,c6,z6,o6,u6,n6⟩:=qS x5 q 5 a5 _ _ b5;have b6:=c6;exact⟨x6,by rw[e6,e5,e4,e3,e2,e1],b6,by omega,o6.trans (o5.trans (o4.trans (o3.trans (o2.trans o1)))),u6.trans (u5.trans (u4.trans (u3.trans (u2.trans u1)))),fun i hi=>(n6 i hi).trans ((n5 i hi).trans ((n4 i hi).trans ((n3 i hi).trans ((n2 i hi).trans (n1 i hi)))))⟩
theorem zMn (w w9:World)(post:Ending->World->Prop)(p R:Nat)(m0 s0 v0:Option Addr)(m1 m2 s1 s2 v1 v2:Nat)(AH:Int)(ST:Bool)(hB:w9.heap[w.heap.size+1]? =some (.cells #[slice none 0 0,slice none 0 0,slice none 0 0,int i64 0,bool false,int i64 0] 30))(hR:R≠w.heap.size+1)(hRl:R<w9.heap.size)
  (x0:w9.cell? ⟨R,0,none⟩=some (slice m0 m1 m2)) (x1:w9.cell? ⟨R,1,none⟩=some (slice s0 s1 s2)) (x2:w9.cell? ⟨R,2,none⟩=some (slice v0 v1 v2)) (x3:w9.cell? ⟨R,3,none⟩=some (int i64 AH)) (x4:w9.cell? ⟨R,4,none⟩=some (bool ST)) (x5:w9.cell? ⟨R,5,none⟩=some (int i64 0))
  (hfin:∀wz L,wz.os=w9.os->wz.output=w9.output->w9.heap.size<=L->L<wz.heap.size->(∀k,k<w9.heap.size->k≠w.heap.size+1->wz.heap[k]? =w9.heap[k]?)->wz.cell? ⟨L,0,none⟩=some (pointer (some ⟨p,0,none⟩))->post (returned (tuple #[pointer (some ⟨L,0,none⟩),agg #[slice m0 m1 m2,slice s0 s1 s2,slice v0 v1 v2,int i64 AH,bool ST,int i64 0],int i64 0])) wz)
  {u0 u1 u2 u3 u4 u6 u7 u8 u9 u10 u11 u14 u15 u16 u17 u18 u19 u20 u21 u22 u23 u24 u25 u26 u27 u28 u29 u30 u31 u32 u33 u34 u35 u36 u37 u38 u39 u40 u41 u42 u43 u44 u45 u46 u47 u48 u49 u50 u51 u52 u53 u54 u55 u56 u57 u58 u59 u60 u61 u62 u63 u64 u65 u66 u67 u68 u69 u70 u71 u72 u73 u74 u75 u76 u77 u78 u79:Value}:
  Code.wp prog (yQ 9 ((f30.body).getD .skip)) (bodyPost prog f30 post) ⟨(u0::u1::u2::u3::u4::pointer (some ⟨w.heap.size+1,0,none⟩)::u6::u7::u8::u9::u10::u11::pointer (some ⟨p,0,none⟩)::pointer (some ⟨R,0,none⟩)::u14::u15::u16::u17::u18::u19::u20::u21::u22::u23::u24::u25::u26::u27::u28::u29::u30::u31::u32::u33::u34::u35::u36::u37::u38::u39::u40::u41::u42::u43::u44::u45::u46::u47::u48::u49::u50::u51::u52::u53::u54::u55::u56::u57::u58::u59::u60::u61::u62::u63::u64::u65::u66::u67::u68::u69::u70::u71::u72::u73::u74::u75::u76::u77::u78::u79::[]).toArray,[]⟩ w9:=by
 conv=>arg 2;whnf
 obtain⟨r0,r1,r2,r3,r4,r5,g0,g1,g2,g3,g4,g5⟩:=vW hB;have hbl:w.heap.size+1<w9.heap.size:=(kQ.1 hB).1;have HB:=vl hB;have HFI:=vl hfin;generalize w.heap.size+1=Q at *;have q0:(w9.alloc (Obj.cells #[pointer (some ⟨p,0,none⟩)] 93)).cell? ⟨Q,0,none⟩=some (slice none 0 0):=(cell?_alloc_past _ _ _ hbl).trans r0;have f0:(w9.alloc (Obj.cells #[pointer (some ⟨p,0,none⟩)] 93)).frozen? ⟨Q,0,none⟩=false:=(frozen?_alloc_past _ _ _ hbl).trans g0;have q1:(w9.alloc (Obj.cells #[pointer (some ⟨p,0,none⟩)] 93)).cell? ⟨Q,1,none⟩=some (slice none 0 0):=(cell?_alloc_past _ _ _ hbl).trans r1;have f1:(w9.alloc (Obj.cells #[pointer (some ⟨p,0,none⟩)] 93)).frozen? ⟨Q,1,none⟩=false:=(frozen?_alloc_past _ _ _ hbl).trans g1;have q2:(w9.alloc (Obj.cells #[pointer (some ⟨p,0,none⟩)] 93)).cell? ⟨Q,2,none⟩=some (slice none 0 0):=(cell?_alloc_past _ _ _ hbl).trans r2;have f2:(w9.alloc (Obj.cells #[pointer (some ⟨p,0,none⟩)] 93)).frozen? ⟨Q,2,none⟩=false:=(frozen?_alloc_past _ _ _ hbl).trans g2;have q3:(w9.alloc (Obj.cells #[pointer (some ⟨p,0,none⟩)] 93)).cell? ⟨Q,3,none⟩=some (int i64 0):=(cell?_alloc_past _ _ _ hbl).trans r3;have f3:(w9.alloc (Obj.cells #[pointer (some ⟨p,0,none⟩)] 93)).frozen? ⟨Q,3,none⟩=false:=(frozen?_alloc_past _ _ _ hbl).trans g3;have q4:(w9.alloc (Obj.cells #[pointer (some ⟨p,0,none⟩)] 93)).cell? ⟨Q,4,none⟩=some (bool false):=(cell?_alloc_past _ _ _ hbl).trans r4;have f4:(w9.alloc (Obj.cells #[pointer (some ⟨p,0,none⟩)] 93)).frozen? ⟨Q,4,none⟩=false:=(frozen?_alloc_past _ _ _ hbl).trans g4;have q5:(w9.alloc (Obj.cells #[pointer (some ⟨p,0,none⟩)] 93)).cell? ⟨Q,5,none⟩=some (int i64 0):=(cell?_alloc_past _ _ _ hbl).trans r5;have f5:(w9.alloc (Obj.cells #[pointer (some ⟨p,0,none⟩)] 93)).frozen? ⟨Q,5,none⟩=false:=(frozen?_alloc_past _ _ _ hbl).trans g5;have y0:(w9.alloc (Obj.cells #[pointer (some ⟨p,0,none⟩)] 93)).cell? ⟨R,0,none⟩=some (slice m0 m1 m2):=(cell?_alloc_past _ _ _ hRl).trans x0;have y1:(w9.alloc (Obj.cells #[pointer (some ⟨p,0,none⟩)] 93)).cell? ⟨R,1,none⟩=some (slice s0 s1 s2):=(cell?_alloc_past _ _ _ hRl).trans x1;have y2:(w9.alloc (Obj.cells #[pointer (some ⟨p,0,none⟩)] 93)).cell? ⟨R,2,none⟩=some (slice v0 v1 v2):=(cell?_alloc_past _ _ _ hRl).trans x2;have y3:(w9.alloc (Obj.cells #[pointer (some ⟨p,0,none⟩)] 93)).cell? ⟨R,3,none⟩=some (int i64 AH):=(cell?_alloc_past _ _ _ hRl).trans x3;have y4:(w9.alloc (Obj.cells #[pointer (some ⟨p,0,none⟩)] 93)).cell? ⟨R,4,none⟩=some (bool ST):=(cell?_alloc_past _ _ _ hRl).trans x4;have y5:(w9.alloc (Obj.cells #[pointer (some ⟨p,0,none⟩)] 93)).cell? ⟨R,5,none⟩=some (int i64 0):=(cell?_alloc_past _ _ _ hRl).trans x5;apply wp_cut;intro K0 J;go_region
 all_goals
  obtain⟨wa,hwa,hblk,hz,ho,hu,hne⟩:=zEk w9 Q (slice m0 m1 m2) (slice s0 s1 s2) (slice v0 v1 v2) (int i64 AH) (bool ST) (int i64 0) HB.out;rw[<-hwa];obtain⟨wz,hwz,d0,d1,d2,d3,d4,d5,HW⟩:∃wz,wz=(wa.alloc (Obj.cells #[pointer (some ⟨p,0,none⟩)] 93)).drew∧wz.cell? ⟨Q,0,none⟩=some (slice m0 m1 m2)∧wz.cell? ⟨Q,1,none⟩=some (slice s0 s1 s2)∧wz.cell? ⟨Q,2,none⟩=some (slice v0 v1 v2)∧wz.cell? ⟨Q,3,none⟩=some (int i64 AH)∧wz.cell? ⟨Q,4,none⟩=some (bool ST)∧wz.cell? ⟨Q,5,none⟩=some (int i64 0)∧Hid (wz.os=w9.os∧wz.output=w9.output∧w9.heap.size<wz.heap.size∧(∀k,k<w9.heap.size->k≠Q->wz.heap[k]? =w9.heap[k]?)∧wz.cell? ⟨w9.heap.size,0,none⟩=some (pointer (some ⟨p,0,none⟩))):=by
   have hn:=gU wa (Obj.cells #[pointer (some ⟨p,0,none⟩)] 93);rw[hz] at hn;have hb2:(wa.alloc (Obj.cells #[pointer (some ⟨p,0,none⟩)] 93)).drew.heap[Q]? =some (.cells #[slice m0 m1 m2,slice s0 s1 s2,slice v0 v1 v2,int i64 AH,bool ST,int i64 0] 30):=(lG _ _ _ (by omega)).trans hblk;have hn2:(wa.alloc (Obj.cells #[pointer (some ⟨p,0,none⟩)] 93)).drew.heap[w9.heap.size]? =some (Obj.cells #[pointer (some ⟨p,0,none⟩)] 93):=hn;refine⟨_,rfl,?_,?_,?_,?_,?_,?_,ho,hu,?_,fun k k1 k2=>(lG _ _ _ (by omega)).trans (hne k k2),?_⟩
   ·unfold cell?;rw[hb2];rfl
   ·unfold cell?;rw[hb2];rfl
   ·unfold cell?;rw[hb2];rfl
   ·unfold cell?;rw[hb2];rfl
   ·unfold cell?;rw[hb2];rfl
   ·unfold cell?;rw[hb2];rfl
   ·show w9.heap.size<(wa.alloc _).heap.size
    simp;omega
   ·unfold cell?;rw[hn2];rfl
  rw[<-hwz];show K0 _ _;apply J.out;go_wp2;refine bodyPost_ret (v:=tuple #[pointer (some ⟨w9.heap.size,0,none⟩),agg #[slice m0 m1 m2,slice s0 s1 s2,slice v0 v1 v2,int i64 AH,bool ST,int i64 0],int i64 0]) (by simp[results,results30,go_sem,d0,d1,d2,d3,d4,d5]) rfl ?_;exact HFI.out wz w9.heap.size HW.out.1 HW.out.2.1 lQ HW.out.2.2.1 HW.out.2.2.2.1 HW.out.2.2.2.2
theorem zN9 (w w8:World)(post:Ending->World->Prop)(Q:World->Prop)(p R:Nat)(m0 s0 v0:Option Addr)(m1 m2 s1 s2 v1 v2:Nat)(AH:Int)(ST:Bool)(hB:w8.heap[w.heap.size+1]? =some (.cells #[slice none 0 0,slice none 0 0,slice none 0 0,int i64 0,bool false,int i64 0] 30))(hR:R≠w.heap.size+1)(hRl:R<w8.heap.size)(hRp:R≠p)(hpp:w.heap.size+1≠p)
  (x0:w8.cell? ⟨R,0,none⟩=some (slice m0 m1 m2)) (x1:w8.cell? ⟨R,1,none⟩=some (slice s0 s1 s2)) (x2:w8.cell? ⟨R,2,none⟩=some (slice v0 v1 v2)) (x3:w8.cell? ⟨R,3,none⟩=some (int i64 AH)) (x4:w8.cell? ⟨R,4,none⟩=some (bool ST)) (x5:w8.cell? ⟨R,5,none⟩=some (int i64 0))
  (hMS:ST=true->Calls prog 47 #[pointer (some ⟨p,0,none⟩),int i64 AH] w8 (fun e w9=>e=returned (tuple #[])∧Q w9∧Keep w8.heap.size p w8 w9)) (hQ:ST=false->Q w8)
  (hfin:∀w9 wz L,Keep w8.heap.size p w8 w9->Q w9->wz.os=w9.os->wz.output=w9.output->w9.heap.size<=L->L<wz.heap.size->(∀k,k<w9.heap.size->k≠w.heap.size+1->wz.heap[k]? =w9.heap[k]?)->wz.cell? ⟨L,0,none⟩=some (pointer (some ⟨p,0,none⟩))->post (returned (tuple #[pointer (some ⟨L,0,none⟩),agg #[slice m0 m1 m2,slice s0 s1 s2,slice v0 v1 v2,int i64 AH,bool ST,int i64 0],int i64 0])) wz)
  {u0 u1 u2 u3 u4 u6 u7 u8 u9 u10 u11 u14 u15 u16 u17 u18 u19 u20 u21 u22 u23 u24 u25 u26 u27 u28 u29 u30 u31 u32 u33 u34 u35 u36 u37 u38 u39 u40 u41 u42 u43 u44 u45 u46 u47 u48 u49 u50 u51 u52 u53 u54 u55 u56 u57 u58 u59 u60 u61 u62 u63 u64 u65 u66 u67 u68 u69 u70 u71 u72 u73 u74 u75 u76 u77 u78 u79:Value}:
  Code.wp prog (yQ 8 ((f30.body).getD .skip)) (bodyPost prog f30 post) ⟨(u0::u1::u2::u3::u4::pointer (some ⟨w.heap.size+1,0,none⟩)::u6::u7::u8::u9::u10::u11::pointer (some ⟨p,0,none⟩)::pointer (some ⟨R,0,none⟩)::u14::u15::u16::u17::u18::u19::u20::u21::u22::u23::u24::u25::u26::u27::u28::u29::u30::u31::u32::u33::u34::u35::u36::u37::u38::u39::u40::u41::u42::u43::u44::u45::u46::u47::u48::u49::u50::u51::u52::u53::u54::u55::u56::u57::u58::u59::u60::u61::u62::u63::u64::u65::u66::u67::u68::u69::u70::u71::u72::u73::u74::u75::u76::u77::u78::u79::[]).toArray,[]⟩ w8:=by
 conv=>arg 2;whnf
 have HFI:=vl hfin;have HBB:Hid (w8.heap[w.heap.size+1]? =some (.cells #[slice none 0 0,slice none 0 0,slice none 0 0,int i64 0,bool false,int i64 0] 30)∧R≠w.heap.size+1∧R<w8.heap.size∧R≠p∧w.heap.size+1≠p∧w.heap.size+1<w8.heap.size):=⟨hB,hR,hRl,hRp,hpp,(kQ.1 hB).1⟩
 apply wp_cut;intro K0 J;cases ST with
 |false=>
  have hq:=hQ rfl;go_wp2;apply J.out;exact zMn w w8 post p R m0 s0 v0 m1 m2 s1 s2 v1 v2 AH false HBB.out.1 HBB.out.2.1 HBB.out.2.2.1 x0 x1 x2 x3 x4 x5 (fun wz L=>HFI.out w8 wz L (Keep.refl _ _ _) hq)
 |true=>
  have HC:=vl <| hMS rfl;go_wp2_with (first|(go_at_call 47;refine HC.out.mono ?_;rintro e w9 ⟨rfl,hq,hk9⟩))
  apply J.out;have hb:=hk9.block (w.heap.size+1) HBB.out.2.2.2.2.2 HBB.out.2.2.2.2.1;have hr:=hk9.block R HBB.out.2.2.1 HBB.out.2.2.2.1;have hc:∀i,w9.cell? ⟨R,i,none⟩=w8.cell? ⟨R,i,none⟩:=fun i=>cell?_of_block hr;exact zMn w w9 post p R m0 s0 v0 m1 m2 s1 s2 v1 v2 AH true (hb.trans HBB.out.1) HBB.out.2.1 (lZ HBB.out.2.2.1 hk9.size) ((hc 0).trans x0) ((hc 1).trans x1) ((hc 2).trans x2) ((hc 3).trans x3) ((hc 4).trans x4) ((hc 5).trans x5) (fun wz L=>HFI.out w9 wz L hk9 hq)
theorem zOa (w w6:World)(post:Ending->World->Prop)(Q:World->Prop)(p:Nat)(a5:Option Addr)(l5 c5 CN:Nat)(AH:Int)(ST fo:Bool)(hB:w6.heap[w.heap.size+1]? =some (.cells #[slice none 0 0,slice none 0 0,slice none 0 0,int i64 0,bool false,int i64 0] 30))(hl:w.heap.size+2<=w6.heap.size)(hp:p<w6.heap.size)(hpp:w.heap.size+1≠p)
  (y7:w6.cell? ⟨p,7,none⟩=some (int i64 (CN:Nat))) (l2:w6.cell? ⟨w.heap.size,2,none⟩=some (bool fo))
  (HRP:∀wq,Grew w6 wq->Calls prog 46 #[slice a5 l5 c5,int i64 (CN:Nat),bool fo] (wq) (fun e w'=>∃m0 m1 m2 s0 s1 s2 v0 v1 v2,e=returned (agg #[slice m0 m1 m2,slice s0 s1 s2,slice v0 v1 v2,int i64 AH,bool ST,int i64 0])∧Keep (wq).heap.size (wq).heap.size (wq) w'))
  (hMS:∀w8,Grew w6 w8->(ST=true->Calls prog 47 #[pointer (some ⟨p,0,none⟩),int i64 AH] w8 (fun e w9=>e=returned (tuple #[])∧Q w9∧Keep w8.heap.size p w8 w9))∧(ST=false->Q w8))
  (hfin:∀m0 m1 m2 s0 s1 s2 v0 v1 v2 w8 w9 wz L,Grew w6 w8->Keep w8.heap.size p w8 w9->Q w9->wz.os=w9.os->wz.output=w9.output->w9.heap.size<=L->L<wz.heap.size->(∀k,k<w9.heap.size->k≠w.heap.size+1->wz.heap[k]? =w9.heap[k]?)->wz.cell? ⟨L,0,none⟩=some (pointer (some ⟨p,0,none⟩))->post (returned (tuple #[pointer (some ⟨L,0,none⟩),agg #[slice m0 m1 m2,slice s0 s1 s2,slice v0 v1 v2,int i64 AH,bool ST,int i64 0],int i64 0])) wz)
  {u0 u1 u2 u4 u6 u7 u8 u9 u11 u13 u14 u15 u16 u17 u18 u19 u20 u21 u22 u23 u24 u25 u26 u27 u28 u29 u30 u31 u32 u33 u34 u35 u36 u37 u38 u39 u40 u41 u42 u43 u44 u45 u46 u47 u48 u49 u50 u51 u52 u53 u54 u55 u56 u57 u58 u59 u60 u61 u62 u63 u64 u65 u66 u67 u68 u69 u70 u71 u72 u73 u74 u75 u76 u77 u78 u79:Value}:
  Code.wp prog (yQ 7 ((f30.body).getD .skip)) (bodyPost prog f30 post) ⟨(u0::u1::u2::pointer (some ⟨w.heap.size,0,none⟩)::u4::pointer (some ⟨w.heap.size+1,0,none⟩)::u6::u7::u8::u9::slice a5 l5 c5::u11::pointer (some ⟨p,0,none⟩)::u13::u14::u15::u16::u17::u18::u19::u20::u21::u22::u23::u24::u25::u26::u27::u28::u29::u30::u31::u32::u33::u34::u35::u36::u37::u38::u39::u40::u41::u42::u43::u44::u45::u46::u47::u48::u49::u50::u51::u52::u53::u54::u55::u56::u57::u58::u59::u60::u61::u62::u63::u64::u65::u66::u67::u68::u69::u70::u71::u72::u73::u74::u75::u76::u77::u78::u79::[]).toArray,[]⟩ w6:=by
 conv=>arg 2;whnf
 have ka6:Grew w6 (w6.alloc (.cells #[slice none 0 0,slice none 0 0,slice none 0 0,int i64 0,bool false,int i64 0] 30)):=kZ _ _ lQ;have HR1:=vl HRP;have KA1:Hid (Grew w6 w6.drew):=Keep.drew _;have KA2:Hid (Grew w6 (w6.alloc (.cells #[slice none 0 0,slice none 0 0,slice none 0 0,int i64 0,bool false,int i64 0] 30)).drew):=⟨ka6.os,ka6.output,ka6.size,ka6.block⟩
 have KU1:Hid (∀w7,Grew w6.drew w7->Grew w6 w7):=fun w7 hk=>Keep.undrew hk;have HPB:Hid (∀w7,Keep ((w6.alloc (.cells #[slice none 0 0,slice none 0 0,slice none 0 0,int i64 0,bool false,int i64 0] 30)).drew).heap.size ((w6.alloc (.cells #[slice none 0 0,slice none 0 0,slice none 0 0,int i64 0,bool false,int i64 0] 30)).drew).heap.size ((w6.alloc (.cells #[slice none 0 0,slice none 0 0,slice none 0 0,int i64 0,bool false,int i64 0] 30)).drew) w7->w7.heap[w6.heap.size]? =some (.cells #[slice none 0 0,slice none 0 0,slice none 0 0,int i64 0,bool false,int i64 0] 30)):=fun w7 hk=>(hk.block w6.heap.size (by show w6.heap.size<(w6.alloc _).heap.size;simp) (by show w6.heap.size≠(w6.alloc _).heap.size;simp)).trans (gU w6 _);have HUP:Hid (∀w7,Keep ((w6.alloc (.cells #[slice none 0 0,slice none 0 0,slice none 0 0,int i64 0,bool false,int i64 0] 30)).drew).heap.size ((w6.alloc (.cells #[slice none 0 0,slice none 0 0,slice none 0 0,int i64 0,bool false,int i64 0] 30)).drew).heap.size ((w6.alloc (.cells #[slice none 0 0,slice none 0 0,slice none 0 0,int i64 0,bool false,int i64 0] 30)).drew) w7->Grew w6 w7):=fun w7 hk=>ka6.trans ⟨hk.os,hk.output,hk.size,fun k k1 k2=>hk.block k (by show k<(w6.alloc _).heap.size;simp;omega) (by show k≠(w6.alloc _).heap.size;simp;omega)⟩;have HZF:Hid (∀w7,Grew w6 w7->w7.cell? ⟨p,7,none⟩=some (int i64 (CN:Nat))∧w7.cell? ⟨w.heap.size,2,none⟩=some (bool fo)):=fun w7 hk=>⟨zA y7 hp hk,zA l2 (show w.heap.size<w6.heap.size by omega) hk⟩
 have HGO:Hid (∀R w8 m0 m1 m2 s0 s1 s2 v0 v1 v2,Grew w6 w8->w6.heap.size<=R->R<w8.heap.size->w8.cell? ⟨R,0,none⟩=some (slice m0 m1 m2)->w8.cell? ⟨R,1,none⟩=some (slice s0 s1 s2)->w8.cell? ⟨R,2,none⟩=some (slice v0 v1 v2)->w8.cell? ⟨R,3,none⟩=some (int i64 AH)->w8.cell? ⟨R,4,none⟩=some (bool ST)->w8.cell? ⟨R,5,none⟩=some (int i64 0)->∀(b0 b1 b2 b3 b4 b6 b7 b8 b9 b10 b11 b14 b15 b16 b17 b18 b19 b20 b21 b22 b23 b24 b25 b26 b27 b28 b29 b30 b31 b32 b33 b34 b35 b36 b37 b38 b39 b40 b41 b42 b43 b44 b45 b46 b47 b48 b49 b50 b51 b52 b53 b54 b55 b56 b57 b58 b59 b60 b61 b62 b63 b64 b65 b66 b67 b68 b69 b70 b71 b72 b73 b74 b75 b76 b77 b78 b79:Value),Code.wp prog (yQ 8 ((f30.body).getD .skip)) (bodyPost prog f30 post) ⟨(b0::b1::b2::b3::b4::pointer (some ⟨w.heap.size+1,0,none⟩)::b6::b7::b8::b9::b10::b11::pointer (some ⟨p,0,none⟩)::pointer (some ⟨R,0,none⟩)::b14::b15::b16::b17::b18::b19::b20::b21::b22::b23::b24::b25::b26::b27::b28::b29::b30::b31::b32::b33::b34::b35::b36::b37::b38::b39::b40::b41::b42::b43::b44::b45::b46::b47::b48::b49::b50::b51::b52::b53::b54::b55::b56::b57::b58::b59::b60::b61::b62::b63::b64::b65::b66::b67::b68::b69::b70::b71::b72::b73::b74::b75::b76::b77::b78::b79::[]).toArray,[]⟩ w8):=fun R w8 m0 m1 m2 s0 s1 s2 v0 v1 v2 hk hR1 hR2 x0 x1 x2 x3 x4 x5 _ _ _ _ _ _ _ _ _ _ _ _ _ _ _ _ _ _ _ _ _ _ _ _ _ _ _ _ _ _ _ _ _ _ _ _ _ _ _ _ _ _ _ _ _ _ _ _ _ _ _ _ _ _ _ _ _ _ _ _ _ _ _ _ _ _ _ _ _ _ _ _ _ _ _ _ _=>zN9 w w8 post Q p R m0 s0 v0 m1 m2 s1 s2 v1 v2 AH ST ((hk.block _ (by omega) (by omega)).trans hB) (by omega) hR2 (by omega) hpp x0 x1 x2 x3 x4 x5 (hMS w8 hk).1 (hMS w8 hk).2 (fun w9 wz L hk9 hq=>hfin m0 m1 m2 s0 s1 s2 v0 v1 v2 w8 w9 wz L hk hk9 hq);obtain⟨y7a,l2a⟩:=HZF.out (w6.alloc (.cells #[slice none 0 0,slice none 0 0,slice none 0 0,int i64 0,bool false,int i64 0] 30)) ka6;refine wp_seq_k ?_;intro K0 hK0;have J:=vl hK0;go_region_with ((go_at_call 46;go_must ((refine (HR1.out _ (by first|exact KA1.out|exact KA2.out)).mono ?_;rintro e w7 ⟨m0,m1,m2,s0,s1,s2,v0,v1,v2,rfl,hk7⟩;first|(have hk8:=KU1.out w7 hk7;obtain⟨z0,z1⟩:=HZF.out w7 hk8;obtain⟨r0,r1,r2,r3,r4,r5,g0,g1,g2,g3,g4,g5⟩:=vW (gU w7 (.cells #[slice none 0 0,slice none 0 0,slice none 0 0,int i64 0,bool false,int i64 0] 30));obtain⟨z2,z3⟩:=HZF.out (w7.alloc (.cells #[slice none 0 0,slice none 0 0,slice none 0 0,int i64 0,bool false,int i64 0] 30)) (hk8.trans (kZ _ _ hk8.size)))|(have hk8:=HUP.out w7 hk7;obtain⟨r0,r1,r2,r3,r4,r5,g0,g1,g2,g3,g4,g5⟩:=vW (HPB.out w7 hk7);obtain⟨z0,z1⟩:=HZF.out w7 hk8)))))
 all_goals
  show K0 _ _;apply J.out
  first
  |(obtain ⟨wa,hwa,hblk,hz,ho,hu,hne⟩:=zEk w7 w6.heap.size (slice m0 m1 m2) (slice s0 s1 s2) (slice v0 v1 v2) (int i64 AH) (bool ST) (int i64 0) (HPB.out w7 hk7);rw[<-hwa];refine HGO.out w6.heap.size wa m0 m1 m2 s0 s1 s2 v0 v1 v2 (hk8.trans ⟨ho,hu,by omega,fun k k1 _=>hne k (by omega)⟩) lQ (kQ.1 hblk).1 ?_ ?_ ?_ ?_ ?_ ?_ _ _ _ _ _ _ _ _ _ _ _ _ _ _ _ _ _ _ _ _ _ _ _ _ _ _ _ _ _ _ _ _ _ _ _ _ _ _ _ _ _ _ _ _ _ _ _ _ _ _ _ _ _ _ _ _ _ _ _ _ _ _ _ _ _ _ _ _ _ _ _ _ _ _ _ _ _;all_goals (unfold cell?;rw[hblk];rfl))
  |(have hn:=gU w7 (.cells #[slice m0 m1 m2,slice s0 s1 s2,slice v0 v1 v2,int i64 AH,bool ST,int i64 0] 30);refine HGO.out w7.heap.size _ m0 m1 m2 s0 s1 s2 v0 v1 v2 (hk8.trans (kZ _ _ hk8.size)) hk8.size (kQ.1 hn).1 ?_ ?_ ?_ ?_ ?_ ?_ _ _ _ _ _ _ _ _ _ _ _ _ _ _ _ _ _ _ _ _ _ _ _ _ _ _ _ _ _ _ _ _ _ _ _ _ _ _ _ _ _ _ _ _ _ _ _ _ _ _ _ _ _ _ _ _ _ _ _ _ _ _ _ _ _ _ _ _ _ _ _ _ _ _ _ _ _;all_goals (unfold cell?;rw[hn];rfl))
def qO (ms:List Sm)(acts pushed:List Int)(hold n:Nat)(fo:Bool):Tb:=if !fo&&xO (aheadTo ms ms.length) (zB ms 256).2 then{qK ms acts pushed hold n with stream:=true}.looking (aheadTo ms ms.length).toNat else qK ms acts pushed hold n
def zMK (w:World)(ms:List Sm)(acts pushed:List Int)(hold:Nat)(fo:Bool)(e:Ending)(w':World):Prop:=
 Grew w w'∧∃L p H c n m0 m1 m2 s0 s1 s2 v0 v1 v2,e=returned (tuple #[pointer (some ⟨L,0,none⟩),agg #[slice m0 m1 m2,slice s0 s1 s2,slice v0 v1 v2,int i64 (aheadTo ms ms.length),bool (!fo&&xO (aheadTo ms ms.length) (zB ms 256).2),int i64 0],int i64 0])∧w'.cell? ⟨L,0,none⟩=some (pointer (some ⟨p,0,none⟩))∧L<w'.heap.size∧w.heap.size<=L∧w.heap.size<=H∧w.heap.size<=p∧Mem w' H p c (qO ms acts pushed hold n fo)∧(((zU ms acts pushed hold).first.itr n).spreadTo (zE ms ms.length)).2=false∧ModesOk ms∧acts.length=zT ms ms.length∧pushed.length=acts.length
theorem ModesAt.grown {w w2:World}{v:Value}{ms:List Sm}(h:ModesAt w (In w) v ms)(hk:Grew w w2):ModesAt w2 (In w2) v ms:=by
 have h2:=h.keep (w':=w2) fun b hb=>hk.block b hb (kJ hb);obtain⟨ao,cap,hv,h3,h4,h5⟩:=h2;refine⟨ao,cap,hv,h3,h4,fun i hi=>?_⟩;obtain⟨b,o,u0,u1,u3,e1,e2,e3,e4,e5,e6,e7,e8,e9⟩:=h5 i hi;have m:∀g,In w g->In w2 g:=fun g hg=>lZ hg hk.size;exact⟨b,o,u0,u1,u3,e1,m _ e2,e3,e4,e5,e6,e7.mono m,e8.mono m,e9.mono m⟩
theorem zIL (l:List Nat):∀i,i<(ints l).length->0<=(ints l).getD i 0:=fun i hi=>by
 unfold ints at hi ⊢;rw[lW,lV hi,List.getElem_map];show(0:Int)<=((l[i]'(by simpa using hi):Nat):Int);omega
theorem zHV {sh:Sh}(h:sh.there=true):∀i,i<(sh.pushesTo sh.pushed.length).length->0<=(sh.pushesTo sh.pushed.length).getD i 0:=fun i hi=>by
 have h2:=hi;rw[yY] at h2;unfold Sh.there at h;have h3:=(of_decide_eq_true h) i h2;unfold Sh.pushesTo at hi ⊢;rw[lW,lV hi,List.getElem_map,List.getElem_range];exact h3
theorem zN8 (w:World)(s:ByteArray)(fo:Bool)(hs:s.size<=1048576)(m h:Nat)(h1:1<=m)(h2:m<=200)(h3:1<=h)(h4:h<=64)(sh:Sh)(hsp:jE s=.inl sh)(ms:List Sm)(hmo:xR (1+6*s.size) sh sh.modes.length 0 m=some ms):Calls prog 30 #[string s,agg #[int i64 (m:Int),int i64 (h:Int),bool fo]] w (zMK w ms (ints sh.acts) (sh.pushesTo sh.pushed.length) h fo):=by
 obtain⟨w2,hw2,HK1⟩:∃w2,w2=(w.alloc (.cells #[int i64 (m:Int),int i64 (h:Int),bool fo] 58)).alloc (.cells #[slice none 0 0,slice none 0 0,slice none 0 0,int i64 0,bool false,int i64 0] 30)∧Hid (∀w3,Keep (w.heap.size+2) (w.heap.size+2) w2 w3->w3.heap[w.heap.size+1]? =some (.cells #[slice none 0 0,slice none 0 0,slice none 0 0,int i64 0,bool false,int i64 0] 30)∧w3.cell? ⟨w.heap.size,0,none⟩=some (int i64 (m:Int))∧w3.cell? ⟨w.heap.size,1,none⟩=some (int i64 (h:Int))∧w3.cell? ⟨w.heap.size,2,none⟩=some (bool fo)∧Grew w w3):=⟨_,rfl,fun w3 hk=>zGM hk⟩
 have HZ2:Hid (w2.heap.size=w.heap.size+2):=by show _=_;rw[hw2];simp
 have HRD:Hid (Ca 43 #[string s] w2 (zEs w2 (1+6*s.size) (.inl sh))):=by have:=zAw w2 s hs;rw[hsp] at this;exact this
 have k1:(1:Int)<=(m:Int):=by omega
 have k2:(m:Int)<=200:=by omega
 have k3:(1:Int)<=(h:Int):=by omega
 have k4:(h:Int)<=64:=by omega
 have HMO:Hid (∀w4 mv av pv,SpecIs w4 (1+6*s.size) mv av pv sh->Ca 44 #[agg #[mv,av,pv],int i64 (m:Int)] w4 (zMJ w4 (some ms))):=fun w4 mv av pv h=>by have:=zCm w4 (1+6*s.size) mv av pv sh h m h2;rw[hmo] at this;exact this
 have hsum:=zHD hsp;have HMK:Hid (∀w5 v mv av pv,SpecIs w5 (1+6*s.size) mv av pv sh->ModesAt w5 (In w5) v ms->Ca 45 #[v,av,pv,int i64 (h:Int)] w5 (fun e w'=>Made w5 w' e ms (ints sh.acts) (sh.pushesTo sh.pushed.length) h)∧ModesOk ms∧(ints sh.acts).length=zT ms ms.length∧(sh.pushesTo sh.pushed.length).length=(ints sh.acts).length):=fun w5 v mv av pv hsi hM=>by
  obtain⟨hok,hrt⟩:=zL6 hsi hsum h2 hmo;exact⟨zJj w5 (In w5) v av pv ms (ints sh.acts) (sh.pushesTo sh.pushed.length) h hM hsi.acts hsi.pushes (fun k hk=>hk) hok (by rw[zN,hrt]) (by rw[zN,yY];exact hsi.ok.same) (zIL _) (zHV hsi.there),hok,by rw[zN,hrt],by rw[zN,yY];exact hsi.ok.same⟩
 clear hsp hmo hsum;go_in;apply wp_cut;intro K0 J;go_wp2;apply J.out;clear J;rw[<-hw2];clear hw2;obtain⟨-,p0,p1,p2,-⟩:=HK1.out w2 (Keep.refl _ _ _);apply wp_cut;intro K0 J;go_wp2;apply J.out;clear J;clear p0 p1 p2;apply wp_cut;intro K0 J;go_wp2_with (first|(go_at_call 43;refine HRD.out.mono ?_;rintro e w3 ⟨hk3,mv,av,pv,rfl,hsi⟩;obtain⟨⟨am,cm,e1⟩,⟨aa,ca,e2⟩,⟨ap,cp,e3⟩⟩:=hsi.forms;subst e1 e2 e3))
 apply J.out;clear J;obtain⟨w4,hw4,y0,y1,y2,K4⟩:∃w4,w4=w3.alloc (.cells #[slice am sh.modes.length cm,slice aa sh.acts.length ca,slice ap sh.pushed.length cp] 79)∧w4.cell? ⟨w3.heap.size,0,none⟩=some (slice am sh.modes.length cm)∧w4.cell? ⟨w3.heap.size,1,none⟩=some (slice aa sh.acts.length ca)∧w4.cell? ⟨w3.heap.size,2,none⟩=some (slice ap sh.pushed.length cp)∧Hid (Keep (w.heap.size+2) (w.heap.size+2) w2 w4∧SpecIs w4 (1+6*s.size) (slice am sh.modes.length cm) (slice aa sh.acts.length ca) (slice ap sh.pushed.length cp) sh∧w3.heap.size<w4.heap.size∧w.heap.size+2<=w4.heap.size):=by
  have h5:Keep (w.heap.size+2) (w.heap.size+2) w2 w3:=by rw[<-HZ2.out];exact hk3
  have h6:w.heap.size+2<=w3.heap.size:=by have:=hk3.size;rw[HZ2.out] at this;exact this
  have hn:=gU w3 (.cells #[slice am sh.modes.length cm,slice aa sh.acts.length ca,slice ap sh.pushed.length cp] 79);refine⟨_,rfl,?_,?_,?_,h5.trans (kZ _ _ h6),hsi.grown (kZ _ _ lQ),by simp,by simp;omega⟩
  all_goals (unfold cell?;rw[hn];rfl)
 rw[<-hw4];clear hw4 hk3 hsi HRD;apply wp_cut;intro K0 J;go_wp2;apply J.out;clear J;obtain⟨-,l0,-,-,-⟩:=HK1.out w4 K4.out.1;obtain⟨B,hB⟩:∃B,B=w3.heap.size:=⟨_,rfl⟩
 have HBL:Hid (B<w4.heap.size):=by show B<_;rw[hB];exact K4.out.2.2.1
 rw[<-hB] at y0 y1 y2 ⊢;clear hB;apply wp_cut;intro K0 J;go_wp2_with (first|(go_at_call 44;refine(HMO.out w4 _ _ _ K4.out.2.1).mono ?_;rintro e w5 ⟨hk5,v5,rfl,hM5⟩;obtain⟨a5,c5,e5,-⟩:=id hM5;subst e5))
 apply J.out;clear J;apply wp_cut;intro K0 J;go_wp2;apply J.out;clear J;have K5:Hid (Keep (w.heap.size+2) (w.heap.size+2) w2 w5∧SpecIs w5 (1+6*s.size) (slice am sh.modes.length cm) (slice aa sh.acts.length ca) (slice ap sh.pushed.length cp) sh∧w.heap.size+2<=w5.heap.size∧ModesAt w5 (In w5) (slice a5 ms.length c5) ms):=⟨K4.out.1.trans (hk5.lower K4.out.2.2.2 K4.out.2.2.2),K4.out.2.1.grown hk5,lY K4.out.2.2.2 hk5.size,hM5⟩
 have x1:=zA y1 HBL.out hk5;have x2:=zA y2 HBL.out hk5;obtain⟨-,-,l1,-,-⟩:=HK1.out w5 K5.out.1;obtain⟨hmk,hok,hal⟩:=HMK.out w5 _ _ _ _ K5.out.2.1 hM5;have HMK2:=vl hmk;have HOK:Hid (ModesOk ms∧(ints sh.acts).length=zT ms ms.length∧(sh.pushesTo sh.pushed.length).length=(ints sh.acts).length):=⟨hok,hal⟩
 clear l0 y0 y1 y2 hk5 hM5 HMO HMK hmk hok hal K4 HBL;apply wp_cut;intro K0 J;go_wp2_with (first|(go_at_call 45;refine HMK2.out.mono ?_;rintro e w6 ⟨p,H,cc,n,rfl,hp6,hH6,hMem,hsp6,hk6⟩))
 apply J.out;clear J;have K6:Hid (Keep (w.heap.size+2) (w.heap.size+2) w2 w6∧w.heap.size+2<=w6.heap.size∧ModesAt w6 (In w6) (slice a5 ms.length c5) ms∧w.heap.size+2<=p∧w.heap.size+2<=H∧Mem w6 H p cc (qK ms (ints sh.acts) (sh.pushesTo sh.pushed.length) h n)∧(((zU ms (ints sh.acts) (sh.pushesTo sh.pushed.length) h).first.itr n).spreadTo (zE ms ms.length)).2=false):=⟨K5.out.1.trans (hk6.lower K5.out.2.2.1 K5.out.2.2.1),lY K5.out.2.2.1 hk6.size,K5.out.2.2.2.grown hk6,lY K5.out.2.2.1 hp6,lY K5.out.2.2.1 hH6,hMem,hsp6⟩
 have y7:w6.cell? ⟨p,7,none⟩=some (int i64 ((zB ms 256).2:Nat)):=by
  have e7:=hMem.tp.get_count;rw[hMem.count] at e7;have ec:(qK ms (ints sh.acts) (sh.pushesTo sh.pushed.length) h n).count=(zB ms 256).2:=by
   show((zU ms (ints sh.acts) (sh.pushesTo sh.pushed.length) h).first.itr n).count=_;rw[zA2];rfl
  rw[ec] at e7;exact e7
 obtain⟨-,-,-,l2,-⟩:=HK1.out w6 K6.out.1;have HRP:Hid (∀wq,Grew w6 wq->Ca 46 #[slice a5 ms.length c5,int i64 ((zB ms 256).2:Nat),bool fo] wq fun e w'=>∃m0 m1 m2 s0 s1 s2 v0 v1 v2,e=returned (agg #[slice m0 m1 m2,slice s0 s1 s2,slice v0 v1 v2,int i64 (aheadTo ms ms.length),bool (!fo&&xO (aheadTo ms ms.length) (zB ms 256).2),int i64 0])∧Grew wq w'):=fun wq hq=>(zGL wq _ ms (K6.out.2.2.1.grown hq) HOK.out.1 (zB ms 256).2 (qF ms 256).2 fo).mono (by rintro e w7 ⟨mo,sv,ev,rfl,hsv,hev,hk7,a,n,c,rfl⟩;obtain⟨s0,s1,rfl⟩:=OwnB.form hsv;obtain⟨v0,v1,rfl⟩:=OwnB.form hev;exact⟨a,n,c,s0,_,s1,v0,_,v1,rfl,hk7⟩);have HQ:Hid (∀w8,Grew w6 w8->((!fo&&xO (aheadTo ms ms.length) (zB ms 256).2)=true->Ca 47 #[pointer (some ⟨p,0,none⟩),int i64 (aheadTo ms ms.length)] w8 (fun e w9=>e=returned (tuple #[])∧(fun w9=>∃c,Mem w9 H p c (qO ms (ints sh.acts) (sh.pushesTo sh.pushed.length) h n fo)) w9∧Keep w8.heap.size p w8 w9))∧((!fo&&xO (aheadTo ms ms.length) (zB ms 256).2)=false->(fun w9=>∃c,Mem w9 H p c (qO ms (ints sh.acts) (sh.pushesTo sh.pushed.length) h n fo)) w8)):=fun w8 hk8=>by
  refine⟨fun hst=>?_,fun hst=>?_⟩
  ·have hgt:qO ms (ints sh.acts) (sh.pushesTo sh.pushed.length) h n fo={qK ms (ints sh.acts) (sh.pushesTo sh.pushed.length) h n with stream:=true}.looking (aheadTo ms ms.length).toNat:=by unfold qO;rw[if_pos hst]
   have h5:=hst;rw[Bool.and_eq_true] at h5;have h6:=h5.2;unfold xO at h6;rw[Bool.and_eq_true] at h6;have h7:0<=aheadTo ms ms.length:=of_decide_eq_true h6.1;have h8:zF (zB ms 256).2 (aheadTo ms ms.length).toNat<=3000:=of_decide_eq_true h6.2;have h9:=(zFy ms HOK.out.1 ms.length lQ).2;have hok:=zJq (t:=(zU ms (ints sh.acts) (sh.pushesTo sh.pushed.length) h).first) ((zCw ms (ints sh.acts) (sh.pushesTo sh.pushed.length) h HOK.out.1 HOK.out.2.1).withLive _) n;have hcn:(qK ms (ints sh.acts) (sh.pushesTo sh.pushed.length) h n).count=(zB ms 256).2:=by
    show((zU ms (ints sh.acts) (sh.pushesTo sh.pushed.length) h).first.itr n).count=_;rw[zA2];rfl
   have hst1:1<=(qK ms (ints sh.acts) (sh.pushesTo sh.pushed.length) h n).nst:=by
    show 1<=((zU ms (ints sh.acts) (sh.pushesTo sh.pushed.length) h).first.itr n).nst;rw[zG3];exact lY (HOK.out.1.states1 0 HOK.out.1.one) (by have:=yX ms 1 ms.length HOK.out.1.one;have e:zE ms 1=(ms[0]'HOK.out.1.one).next.length:=(by simp[zE,lW,lV HOK.out.1.one]);rw[e] at this;exact this)
   have:=zDw w8 H p cc _ (K6.out.2.2.2.2.2.1.grown hk8) ⟨hok.1,hok.2,hok.3,hok.4⟩ hst1 (by rw[hcn];exact zCA ms 256 (by decide)) (aheadTo ms ms.length).toNat (by omega) (by rw[hcn];exact h8)
   rw[Int.toNat_of_nonneg h7] at this;refine this.mono ?_;rintro e w9 ⟨rfl,c',hM,hk⟩;exact⟨rfl,⟨c',by rw[hgt];exact hM⟩,hk⟩
  ·have hgt:qO ms (ints sh.acts) (sh.pushesTo sh.pushed.length) h n fo=qK ms (ints sh.acts) (sh.pushesTo sh.pushed.length) h n:=by unfold qO;rw[if_neg (by rw[hst];decide)]
   exact⟨cc,by rw[hgt];exact K6.out.2.2.2.2.2.1.grown hk8⟩
 obtain⟨hB6,-⟩:=HK1.out w6 K6.out.1;refine zOa w w6 _ (fun w9=>∃c,Mem w9 H p c (qO ms (ints sh.acts) (sh.pushesTo sh.pushed.length) h n fo)) p a5 ms.length c5 (zB ms 256).2 (aheadTo ms ms.length) (!fo&&xO (aheadTo ms ms.length) (zB ms 256).2) fo hB6 K6.out.2.1 K6.out.2.2.2.2.2.1.tp.lt (by have:=K6.out.2.2.2.1;omega) y7 l2 HRP.out HQ.out ?_;intro m0 m1 m2 s0 s1 s2 v0 v1 v2 w8 w9 wz L hk8 hk9 hq ho hu hL1 hL2 hblk hcell;obtain⟨c9,hM9⟩:=hq;obtain⟨-,-,-,-,hkw⟩:=HK1.out w6 K6.out.1;have hp2:=K6.out.2.2.2.1;have hH2:=K6.out.2.2.2.2.1;have hs6:=K6.out.2.1;have hs8:=hk8.size;have hs9:=hk9.size;refine⟨hkw.trans ⟨ho.trans (hk9.os.trans hk8.os),hu.trans (hk9.output.trans hk8.output),by omega,fun k k1 _=>(hblk k (by omega) (by omega)).trans ((hk9.block k (by omega) (by omega)).trans (hk8.block k (by omega) (by omega)))⟩,L,p,H,c9,n,m0,m1,m2,s0,s1,s2,v0,v1,v2,rfl,hcell,hL2,by omega,by omega,by omega,?_,K6.out.2.2.2.2.2.2,HOK.out.1,HOK.out.2.1,HOK.out.2.2⟩;exact hM9.keep (hblk p hM9.tp.lt (by omega)) (fun k k1 k2=>hblk k k2 (by omega)) (by omega)
theorem zEH {s:ByteArray}{n k:Nat}(h:jE s=.inr (n,k)):k≠0:=by
 unfold jE at h;split at h
 ·cases h;decide
 split at h
 ·cases h;decide
 split at h
 ·split at h
  ·cases h
  ·cases h;decide
 ·cases h;decide
def zML (w:World)(G:(List Sm×Sh) ⊕ (Nat×Nat))(hold:Nat)(fo:Bool)(e:Ending)(w':World):Prop:=match G with
 | .inr (n,k)=>k≠0∧zIN w n k e w'
 | .inl (ms,sh)=>zMK w ms (ints sh.acts) (sh.pushesTo sh.pushed.length) hold fo e w'
theorem zBQ (w:World)(s:ByteArray)(hs:s.size<=1048576)(st ho:Int)(fo:Bool):Calls prog 30 #[string s,agg #[int i64 st,int i64 ho,bool fo]] w (zML w (zAk s st ho) ho.toNat fo):=by
 have hno:∀{n k:Nat},k≠0->zAk s st ho=.inr (n,k)->Calls prog 30 #[string s,agg #[int i64 st,int i64 ho,bool fo]] w (zIN w n k)->Calls prog 30 #[string s,agg #[int i64 st,int i64 ho,bool fo]] w (zML w (zAk s st ho) ho.toNat fo):=by
  intro n k hk hg hc;rw[hg];exact hc.mono fun e w' h=>⟨hk,h⟩
 by_cases h1:st<1
 ·exact hno (by decide) (by unfold zAk yL;rw[if_pos (by simp[h1])]) (zEp w s st ho fo (.inl h1))
 have h1':1<=st:=by omega
 by_cases h2:200<st
 ·exact hno (by decide) (by unfold zAk yL;rw[if_pos (by simp[h2])]) (zEp w s st ho fo (.inr (.inl ⟨h1',h2⟩)))
 have h2':st<=200:=by omega
 by_cases h3:ho<1
 ·exact hno (by decide) (by unfold zAk yL;rw[if_pos (by simp[h3])]) (zEp w s st ho fo (.inr (.inr (.inl ⟨h1',h2',h3⟩))))
 have h3':1<=ho:=by omega
 by_cases h4:64<ho
 ·exact hno (by decide) (by unfold zAk yL;rw[if_pos (by simp[h4])]) (zEp w s st ho fo (.inr (.inr (.inr ⟨h1',h2',h3',h4⟩))))
 have h4':ho<=64:=by omega
 have hb:yL st ho=false:=by unfold yL;simp[h1,h2,h3,h4]
 have hg:zAk s st ho=match jE s with
   | .inr e=>.inr e
   | .inl sh=>match xR (1+6*s.size) sh sh.modes.length 0 st.toNat with
    |none=>.inr (0,5)
    |some ms=>.inl (ms,sh):=by
  unfold zAk;rw[hb];rfl
 obtain⟨m,rfl⟩:∃m:Nat,st=m:=⟨st.toNat,by omega⟩
 obtain⟨h,rfl⟩:∃h:Nat,ho=h:=⟨ho.toNat,by omega⟩
 cases hsp:jE s with
 |inr e=>
  obtain⟨n,k⟩:=e;rw[hsp] at hg;exact hno (zEH hsp) hg (zMm w s m h fo hs h1' h2' h3' h4' n k (zEH hsp) hsp)
 |inl sh=>
  rw[hsp] at hg;cases hmo:xR (1+6*s.size) sh sh.modes.length 0 m with
  |none=>
   have hg2:zAk s m h=.inr (0,5):=by rw[hg];show(match xR (1+6*s.size) sh sh.modes.length 0 m with|none=>_|some ms=>_)=_;rw[hmo]
   exact hno (by decide) hg2 (zJt w s fo hs m h (by omega) (by omega) (by omega) (by omega) sh hsp hmo)
  |some ms=>
   have hg2:zAk s m h=.inl (ms,sh):=by rw[hg];show(match xR (1+6*s.size) sh sh.modes.length 0 m with|none=>_|some ms=>_)=_;rw[hmo]
   rw[hg2];exact zN8 w s fo hs m h (by omega) (by omega) (by omega) (by omega) sh hsp ms hmo
theorem zHr (kinds:Nat)(hk:1<=kinds)(a:Nat)(h:zF kinds a<=3000):2^a<=zF kinds a:=by
 induction a with
 |zero=>exact lQ
 |succ a ih=>
  rw[zF] at h ⊢;split at h
  ·rename_i h1
   rw[if_pos h1];have:=ih h1;rw[Nat.pow_succ];exact Nat.mul_le_mul this (by omega)
  ·exact absurd h (by assumption)
theorem zLI (kinds:Nat)(hk:1<=kinds)(a:Nat)(h:zF kinds a<=3000):a<12:=by
 have h1:=zHr kinds hk a h;by_cases e:a<12
 ·exact e
 ·have h2:2^12<=2^a:=kG (by decide) (by omega)
  have h3:(2:Nat)^12=4096:=by decide
  omega
structure Tb.Made0 (t:Tb):Prop where
 ok:t.OkN
 hold0:1<=t.hold
 hold:t.hold<=64
 nst:1<=t.nst
 count:1<=t.count
 mode1:1<=t.nmode
 mode2:t.nmode<=3
 rule1:1<=t.nrule
 rule2:t.nrule<=8
 act:∀i,i<t.nrule->t.act i<4
 start:∀i,i<t.nmode->t.start i<t.nst
 push:∀i,i<t.nrule->t.push i<t.nmode
 kind:∀c,c<256->t.kind c<t.count
theorem Tb.Made0.fine {t:Tb}(h:t.Made0)(a:Nat)(hw:zF t.count a<=3000):(t.looking a).Fine:=by
 have h1:=zHr t.count h.count a hw;have h2:=zLI t.count h.count a hw;have h3:1<=2^a:=Nat.one_le_two_pow;have h4:=Nat.mul_le_mul hw h.ok.nst;have h5:1*1<=zF t.count a*t.nst:=Nat.mul_le_mul (by omega) h.nst;refine⟨⟨?_,h.hold0,h.hold,h.ok.count,?_,hw,h.ok.nst,h.mode1,?_,h.start,h.push,h.kind,h.ok.next,h.ok.ends,fun i _=>zDX _ _ _⟩,h.nst,h.count,?_,?_,h.rule1,h.rule2,h.mode2,h.act⟩
 ·show a<64
  omega
 ·show 1<=zF t.count a
  omega
 ·show zF t.count a*t.nst<=8*((zF t.count a*t.nst+7)/8)
  omega
 ·show 1<=(zF t.count a*t.nst+7)/8
  omega
 ·show(zF t.count a*t.nst+7)/8<=75000
  omega
theorem zI0 {ms:List Sm}(h:ModesOk ms):1<=zE ms ms.length:=by
 have h1:=yX ms 1 ms.length h.one;have e:zE ms 1=(ms[0]'h.one).next.length:=by simp[zE,lW,lV h.one]
 have:=h.states1 0 h.one;omega
theorem zLx {ms:List Sm}{acts pushed:List Int}{hold:Nat}(h:ModesOk ms)(ha:acts.length=zT ms ms.length)(h1:1<=hold)(h2:hold<=64)(h3:∀i,i<acts.length->(acts.getD i 0).toNat<4)(h4:∀i,i<acts.length->(pushed.getD i 0).toNat<ms.length)(f:Nat->Bool):({zU ms acts pushed hold with live:=f}:Tb).Made0:=by
 have ok:=(zCw ms acts pushed hold h ha).withLive f;obtain⟨b1,-,-⟩:=zBO ms h ms.length lQ;obtain⟨s1,-⟩:=jR (zB ms 256).1 ms h ms.length lQ;refine⟨ok,h1,h2,zI0 h,zCA ms 256 (by decide),h.one,h.three,?_,?_,h3,fun i hi=>?_,h4,fun c hc=>?_⟩
 ·show 1<=acts.length
  rw[ha];exact h.rules1
 ·show acts.length<=8
  rw[ha];exact h.rules8
 ·have hi':i<ms.length:=hi
  have:=b1 _ (zS (zQ (zB ms 256).1 ms ms.length).starts i 0 (by omega));show((zQ (zB ms 256).1 ms ms.length).starts.getD i 0).toNat<zE ms ms.length;omega
 ·have:=zDz ms 256 c hc
  show((zB ms 256).1.getD c 0).toNat<(zB ms 256).2;omega
theorem zK6 {ms:List Sm}{acts pushed:List Int}{hold:Nat}(h:ModesOk ms)(ha:acts.length=zT ms ms.length)(h1:1<=hold)(h2:hold<=64)(h3:∀i,i<acts.length->(acts.getD i 0).toNat<4)(h4:∀i,i<acts.length->(pushed.getD i 0).toNat<ms.length)(n:Nat)(fo:Bool):(qO ms acts pushed hold n fo).Fine:=by
 have hb:((zU ms acts pushed hold).first.itr n).Made0:=by rw[zAe];exact zLx h ha h1 h2 h3 h4 _
 have hc:((zU ms acts pushed hold).first.itr n).count=(zB ms 256).2:=by rw[zA2];rfl
 unfold qO;split
 ·rename_i hs
  rw[Bool.and_eq_true] at hs;have h5:=hs.2;unfold xO at h5;rw[Bool.and_eq_true] at h5;have h6:({qK ms acts pushed hold n with stream:=true}:Tb).Made0:=⟨⟨hb.ok.1,hb.ok.2,hb.ok.3,hb.ok.4⟩,hb.2,hb.3,hb.4,hb.5,hb.6,hb.7,hb.8,hb.9,hb.10,hb.11,hb.12,hb.13⟩
  exact h6.fine _ (by show zF ((zU ms acts pushed hold).first.itr n).count _<=3000;rw[hc];exact of_decide_eq_true h5.2)
 ·exact hb.fine 0 (by rw[zBC];decide)
theorem zHA (t:Tb)(s:Nat)(h:(t.spreadTo s).2=false):(t.spreadTo s).1=t:=by
 induction s with
 |zero=>rfl
 |succ s ih=>
  rw[Tb.spreadTo] at h ⊢;split at h
  ·cases h
  ·rename_i h1
   rw[if_neg h1];exact ih h
theorem zGi (t:Tb)(n:Nat)(h:((t.itr n).spreadTo t.nst).2=false)(k:Nat):t.itr (n+k)=t.itr n:=by
 induction k with
 |zero=>rfl
 |succ k ih=>
  show((t.itr (n+k)).spreadTo t.nst).1=t.itr n;rw[ih];exact zHA _ _ h
theorem zNe (t:Tb)(n m:Nat)(hn:((t.itr n).spreadTo t.nst).2=false)(hm:((t.itr m).spreadTo t.nst).2=false):t.itr n=t.itr m:=by
 rcases Nat.le_total n m with h|h
 ·have:=zGi t n hn (m-n)
  rw[show n+(m-n)=m by omega] at this;exact this.symm
 ·have:=zGi t m hm (n-m)
  rw[show m+(n-m)=n by omega] at this;exact this
theorem zMo (ms:List Sm)(acts pushed:List Int)(hold:Nat)(fo:Bool)(n m:Nat)(hn:(((zU ms acts pushed hold).first.itr n).spreadTo (zE ms ms.length)).2=false)(hm:(((zU ms acts pushed hold).first.itr m).spreadTo (zE ms ms.length)).2=false):qO ms acts pushed hold n fo=qO ms acts pushed hold m fo:=by
 have:=zNe (zU ms acts pushed hold).first n m hn hm
 unfold qO qK;rw[this]
theorem zE1 (D:Nat)(sh:Sh):∀f j mo ms,xR D sh f j mo=some ms->ms.length=f
 |0,_,_,ms,h=>by have e:=hU h;subst e;rfl
 |f+1,j,mo,ms,h=>by
  have h2:(match zBL D (sh.mode j).2 mo with|none=>none|some m=>(xR D sh f (j+1) (mo-m.next.length)).map (m::·))=some ms:=h;split at h2
  ·cases h2
  ·obtain⟨l,h3,h4⟩:=Option.map_eq_some_iff.1 h2
   subst h4;exact congrArg (·+1) (zE1 D sh f _ _ l h3)
theorem zK5 {s:ByteArray}{st ho:Int}{ms:List Sm}{sh:Sh}(h:zAk s st ho=.inl (ms,sh)):(∀i,i<(ints sh.acts).length->((ints sh.acts).getD i 0).toNat<4)∧(∀i,i<sh.pushed.length->((sh.pushesTo sh.pushed.length).getD i 0).toNat<ms.length)∧yL st ho=false:=by
 unfold zAk at h;split at h
 ·cases h
 rename_i hb
 have hb':yL st ho=false:=by cases e:yL st ho;rfl;exact absurd e hb
 cases hsp:jE s with
 |inr e=>rw[hsp] at h;cases h
 |inl sh1=>
  rw[hsp] at h;have h2:(match xR (1+6*s.size) sh1 sh1.modes.length 0 st.toNat with|none=>.inr (0,5)|some ms=>.inl (ms,sh1))=(.inl (ms,sh):(List Sm×Sh) ⊕ (Nat×Nat)):=h;split at h2
  ·cases h2
  rename_i ms1 hm
  cases h2
  have hl:=zE1 _ _ _ _ _ _ hm;have hsum:=zHD hsp;unfold jE at hsp;split at hsp
  ·cases hsp
  split at hsp
  ·cases hsp
  split at hsp
  ·rename_i h3
   rw[Bool.and_eq_true] at h3;split at hsp
   ·have hsp2:=Sum.inl.inj hsp
    rw[hsp2] at h3;refine⟨fun i hi=>?_,fun i hi=>?_,hb'⟩
    ·rw[zN] at hi
     have:(ints sh.acts).getD i 0=((sh.acts[i]:Nat):Int):=by unfold ints;rw[lW,lV (by rw[kV];exact hi),List.getElem_map];rfl
     rw[this];exact hsum.2 _ (List.getElem_mem hi)
    ·have hp:=h3.2
     unfold Sh.haveB at hp;have hp:=(of_decide_eq_true hp).1;have:(sh.pushesTo sh.pushed.length).getD i 0=sh.pushI (sh.push i):=by unfold Sh.pushesTo;rw[lW,lV (by rw[kV,List.length_range];exact hi),List.getElem_map,List.getElem_range];rfl
     rw[this,hl];unfold Sh.pushI;split
     ·exact hp
     ·unfold Sh.modeI
      split
      ·rename_i h5;exact h5
      ·exact hp
   ·cases hsp
  ·cases hsp
def zAd (s:ByteArray):Option (List Sm×Sh):=match zAk s 200 64 with
 | .inl x=>some x
 | .inr _=>none
theorem zK7 (s:ByteArray)(h:Int)(h1:1<=h)(h2:h<=64):zAk s 200 h=zAk s 200 64:=by
 have hb:yL 200 h=yL 200 64:=by
  unfold yL;rw[decide_eq_false (show¬h<1 by omega),decide_eq_false (show¬64<h by omega)];rfl
 unfold zAk;rw[hb]
structure LexIn (w:World)(B L:Nat)(x:List Sm×Sh)(hold:Nat)(fo:Bool)(t:Tb):Prop where
 fine:t.Fine
 made:∃n,t=qO x.1 (ints x.2.acts) (x.2.pushesTo x.2.pushed.length) hold n fo∧(((zU x.1 (ints x.2.acts) (x.2.pushesTo x.2.pushed.length) hold).first.itr n).spreadTo (zE x.1 x.1.length)).2=false
 modes:ModesOk x.1
 from_:B<=L
 at_:∃S p,LexAt w S L p t∧∀k,S k->B<=k
theorem LexIn.keep {w w':World}{B L:Nat}{x:List Sm×Sh}{hold:Nat}{fo:Bool}{t:Tb}(h:LexIn w B L x hold fo t)(e:∀k,B<=k->k<w.heap.size->w'.heap[k]? =w.heap[k]?)(hs:w.heap.size<=w'.heap.size):LexIn w' B L x hold fo t:=by
 obtain⟨S,p,hL,hS⟩:=h.at_;exact⟨h.fine,h.made,h.modes,h.from_,S,p,⟨(cell?_of_block (e L h.from_ hL.lt)).trans hL.cell,lZ hL.lt hs,hL.tab.keep fun k hk=>e k (hS k hk) (hL.safe k hk),fun k hk=>lZ (hL.safe k hk) hs⟩,hS⟩
theorem LexIn.grown {w w':World}{B L:Nat}{x:List Sm×Sh}{hold:Nat}{fo:Bool}{t:Tb}(h:LexIn w B L x hold fo t)(e:Grew w w'):LexIn w' B L x hold fo t:=h.keep (fun k _ hk=>e.block k hk (by omega)) e.size
theorem LexIn.less {w:World}{B C L:Nat}{x:List Sm×Sh}{hold:Nat}{fo:Bool}{t:Tb}(h:LexIn w B L x hold fo t)(hc:C<=B):LexIn w C L x hold fo t:=by
 obtain⟨S,p,hL,hS⟩:=h.at_;exact⟨h.fine,h.made,h.modes,lY hc h.from_,S,p,hL,fun k hk=>lY hc (hS k hk)⟩
theorem LexIn.of {w w':World}{s:ByteArray}{st:Int}{ms:List Sm}{sh:Sh}{hold:Nat}{fo:Bool}(hg:zAk s st hold=.inl (ms,sh)){L p H n:Nat}{c:Tc}(h1:w'.cell? ⟨L,0,none⟩=some (pointer (some ⟨p,0,none⟩)))(h2:L<w'.heap.size)(h3:w.heap.size<=L)(h4:w.heap.size<=H)(h5:w.heap.size<=p)(h6:Mem w' H p c (qO ms (ints sh.acts) (sh.pushesTo sh.pushed.length) hold n fo))(h7:(((zU ms (ints sh.acts) (sh.pushesTo sh.pushed.length) hold).first.itr n).spreadTo (zE ms ms.length)).2=false)(h8:ModesOk ms)(h9:(ints sh.acts).length=zT ms ms.length)(h10:(sh.pushesTo sh.pushed.length).length=(ints sh.acts).length):LexIn w' w.heap.size L (ms,sh) hold fo (qO ms (ints sh.acts) (sh.pushesTo sh.pushed.length) hold n fo):=by
 obtain⟨f1,f2,f3⟩:=zK5 hg;have hb:1<=hold∧hold<=64:=by
  unfold yL at f3;simp only[Bool.or_eq_false_iff,decide_eq_false_iff_not] at f3;omega
 have hf:=zK6 h8 h9 hb.1 hb.2 f1 (fun i hi=>f2 i (by rw[<-h10,yY] at hi;exact hi)) n fo;refine⟨hf,⟨n,rfl,h7⟩,h8,h3,Mem.blocks w' H p,p,⟨h1,h2,h6.tabAt hf.ok.nmode hf.rule1 hf.nst hf.count hf.long1,fun k hk=>?_⟩,fun k hk=>?_⟩
 ·rcases hk with rfl|hk
  ·exact h6.tp.lt
  ·exact hk.2
 ·rcases hk with rfl|hk
  ·exact h5
  ·exact lY h4 hk.1
def zBd (x:List Sm×Sh)(fo:Bool):Bool:=!fo&&xO (aheadTo x.1 x.1.length) (zB x.1 256).2
def zNK (w:World)(s:ByteArray)(h:Nat)(fo:Bool)(k:Int)(Q:Option Addr->Int->Bool->World->Prop):Prop:=
 Calls prog 30 #[string s,agg #[int i64 200,int i64 (h:Int),bool fo]] w fun e w'=>Grew w w'∧∃x m0 m1 m2 s0 s1 s2 v0 v1 v2 AH ST LN,e=returned (tuple #[pointer x,agg #[slice m0 m1 m2,slice s0 s1 s2,slice v0 v1 v2,int i64 AH,bool ST,int i64 LN],int i64 k])∧Q x AH ST w'
theorem zNG (w:World):∃w0,w0=w.alloc (Obj.cells #[slice none 0 0,slice none 0 0,slice none 0 0,int i64 0,bool false,int i64 0] 30)∧Hid (∀w3,Grew w0 w3->w3.heap[w.heap.size]? =some (Obj.cells #[slice none 0 0,slice none 0 0,slice none 0 0,int i64 0,bool false,int i64 0] 30))∧Hid (w0.heap.size=w.heap.size+1∧Grew w w0):=⟨_,rfl,fun w3 hk=>(hk.block w.heap.size (by simp) (by simp)).trans (gU w _),by simp,kZ _ _ lQ⟩
theorem zNF {w w0 w1:World}{m0 s0 v0:Option Addr}{m1 m2 s1 s2 v1 v2:Nat}{AH LN:Int}{ST:Bool}(hk1:Grew w0 w1)(HZ0:Hid (w0.heap.size=w.heap.size+1∧Grew w w0)):∃w2,w2=w1.alloc (.cells #[slice m0 m1 m2,slice s0 s1 s2,slice v0 v1 v2,int i64 AH,bool ST,int i64 LN] 30)∧w2.cell? ⟨w1.heap.size,0,none⟩=some (slice m0 m1 m2)∧w2.cell? ⟨w1.heap.size,1,none⟩=some (slice s0 s1 s2)∧w2.cell? ⟨w1.heap.size,2,none⟩=some (slice v0 v1 v2)∧w2.cell? ⟨w1.heap.size,3,none⟩=some (int i64 AH)∧w2.cell? ⟨w1.heap.size,4,none⟩=some (bool ST)∧w2.cell? ⟨w1.heap.size,5,none⟩=some (int i64 LN)∧Hid (Grew w0 w2∧Grew w1 w2∧w.heap.size<w1.heap.size):=by
 have hn:=gU w1 (.cells #[slice m0 m1 m2,slice s0 s1 s2,slice v0 v1 v2,int i64 AH,bool ST,int i64 LN] 30);have ha:Grew w1 (w1.alloc (.cells #[slice m0 m1 m2,slice s0 s1 s2,slice v0 v1 v2,int i64 AH,bool ST,int i64 LN] 30)):=kZ _ _ lQ;have hz:=hk1.size;rw[HZ0.out.1] at hz;refine⟨_,rfl,?_,?_,?_,?_,?_,?_,hk1.trans (ha.lower hk1.size hk1.size),ha,by omega⟩
 all_goals (unfold cell?;rw[hn];rfl)
theorem zNE {w w2 wa:World}{m0 s0 v0:Option Addr}{m1 m2 s1 s2 v1 v2:Nat}{AH LN:Int}{ST:Bool}(hblk:wa.heap[w.heap.size]? =some (.cells #[slice m0 m1 m2,slice s0 s1 s2,slice v0 v1 v2,int i64 AH,bool ST,int i64 LN] 30))(hz:wa.heap.size=w2.heap.size)(ho:wa.os=w2.os)(hu:wa.output=w2.output)(hne:∀k,k≠w.heap.size->wa.heap[k]? =w2.heap[k]?):∃wz,wz=wa.drew∧wz.cell? ⟨w.heap.size,0,none⟩=some (slice m0 m1 m2)∧wz.cell? ⟨w.heap.size,1,none⟩=some (slice s0 s1 s2)∧wz.cell? ⟨w.heap.size,2,none⟩=some (slice v0 v1 v2)∧wz.cell? ⟨w.heap.size,3,none⟩=some (int i64 AH)∧wz.cell? ⟨w.heap.size,4,none⟩=some (bool ST)∧wz.cell? ⟨w.heap.size,5,none⟩=some (int i64 LN)∧Hid (wz.os=w2.os∧wz.output=w2.output∧wz.heap.size=w2.heap.size∧(∀k,k≠w.heap.size->wz.heap[k]? =w2.heap[k]?)):=by
 have hb2:wa.drew.heap[w.heap.size]? =some (.cells #[slice m0 m1 m2,slice s0 s1 s2,slice v0 v1 v2,int i64 AH,bool ST,int i64 LN] 30):=hblk;refine⟨_,rfl,?_,?_,?_,?_,?_,?_,ho,hu,hz,hne⟩
 all_goals (unfold cell?;rw[hb2];rfl)
theorem zN1 (w:World)(s:ByteArray)(h:Nat)(fo:Bool)(Q:Option Addr->Int->Bool->World->Prop)(HG:zNK (w.alloc (Obj.cells #[slice none 0 0,slice none 0 0,slice none 0 0,int i64 0,bool false,int i64 0] 30)) s h fo 0 Q)
  (hQ:∀x AH ST w1 w',Q x AH ST w1->(∀k,w.heap.size<k->k<w1.heap.size->w'.heap[k]? =w1.heap[k]?)->w1.heap.size<=w'.heap.size->Q x AH ST w'):
  Calls prog 16 #[string s,int i64 (h:Int),bool fo] w fun e w'=>Grew w w'∧∃x m0 m1 m2 s0 s1 s2 v0 v1 v2 AH ST LN,e=returned (tuple #[pointer x,agg #[slice m0 m1 m2,slice s0 s1 s2,slice v0 v1 v2,int i64 AH,bool ST,int i64 LN]])∧Q x AH ST w':=by
 obtain⟨w0,hw0,HB0,HZ0⟩:=zNG w;rw[<-hw0] at HG;have HGH:=vl HG;clear HG;go_in;apply wp_cut;intro K0 J;go_wp2;rw[<-hw0];apply J.out;clear J hw0;apply wp_cut;intro K0 J;go_wp2_with (first|(go_at_call 30;refine HGH.out.mono ?_;rintro e w1 ⟨hk1,x,m0,m1,m2,s0,s1,s2,v0,v1,v2,AH,ST,LN,rfl,hq⟩))
 obtain⟨w2,hw2,x0,x1,x2,x3,x4,x5,HW2⟩:=zNF (m0:=m0) (s0:=s0) (v0:=v0) (m1:=m1) (m2:=m2) (s1:=s1) (s2:=s2) (v1:=v1) (v2:=v2) (AH:=AH) (LN:=LN) (ST:=ST) hk1 HZ0;rw[<-hw2];apply J.out;clear J hw2 HGH;have HQ:=vl hq;clear hq;apply wp_cut;intro K0 J;go_wp2;apply J.out;clear J;obtain⟨r0,r1,r2,r3,r4,r5,g0,g1,g2,g3,g4,g5⟩:=vW (HB0.out w2 HW2.out.1);have HNE:Hid (w1.heap.size≠w.heap.size):=by have:=HW2.out.2.2;show _≠_;omega
 have HQQ:=vl hQ;clear hQ;apply wp_cut;intro K0 J;go_region
 all_goals
  obtain⟨wa,hwa,hblk,hz,ho,hu,hne⟩:=zEk w2 w.heap.size (slice m0 m1 m2) (slice s0 s1 s2) (slice v0 v1 v2) (int i64 AH) (bool ST) (int i64 LN) (HB0.out w2 HW2.out.1);rw[<-hwa];obtain⟨wz,hwz,d0,d1,d2,d3,d4,d5,HW⟩:=zNE hblk hz ho hu hne;rw[<-hwz];clear hwa hwz hblk hz ho hu hne;show K0 _ _;apply J.out;clear J;go_wp2;refine bodyPost_ret (v:=tuple #[pointer x,agg #[slice m0 m1 m2,slice s0 s1 s2,slice v0 v1 v2,int i64 AH,bool ST,int i64 LN]]) (by simp[results,results16,go_sem,d0,d1,d2,d3,d4,d5]) rfl ?_;have hs1:=HW2.out.1.size;have hs2:=HW2.out.2.1.size;refine⟨HZ0.out.2.trans ⟨HW.out.1.trans HW2.out.1.os,HW.out.2.1.trans HW2.out.1.output,by rw[HW.out.2.2.1];exact hs1,fun k k1 k2=>(HW.out.2.2.2 k (by omega)).trans (HW2.out.1.block k (by rw[HZ0.out.1];omega) (by rw[HZ0.out.1];omega))⟩,x,m0,m1,m2,s0,s1,s2,v0,v1,v2,AH,ST,LN,rfl,?_⟩;exact HQQ.out _ _ _ w1 wz HQ.out (fun k k1 k2=>(HW.out.2.2.2 k (by omega)).trans (HW2.out.2.1.block k k2 (by omega))) (by rw[HW.out.2.2.1];exact hs2)
theorem zOt (w:World)(s:ByteArray)(h:Nat)(fo:Bool)(k:Nat)(hk0:(k:Int)≠0)(Q:Option Addr->Int->Bool->World->Prop)(HG:zNK (w.alloc (Obj.cells #[slice none 0 0,slice none 0 0,slice none 0 0,int i64 0,bool false,int i64 0] 30)) s h fo (k:Int) (fun _ AH ST w'=>Q none AH ST w'))
  (hQ:∀x AH ST w1 w',Q x AH ST w1->(∀k,w.heap.size<k->k<w1.heap.size->w'.heap[k]? =w1.heap[k]?)->w1.heap.size<=w'.heap.size->Q x AH ST w'):
  Calls prog 16 #[string s,int i64 (h:Int),bool fo] w fun e w'=>Grew w w'∧∃x m0 m1 m2 s0 s1 s2 v0 v1 v2 AH ST LN,e=returned (tuple #[pointer x,agg #[slice m0 m1 m2,slice s0 s1 s2,slice v0 v1 v2,int i64 AH,bool ST,int i64 LN]])∧Q x AH ST w':=by
 obtain⟨w0,hw0,HB0,HZ0⟩:=zNG w;rw[<-hw0] at HG;have HGH:=vl HG;clear HG;go_in;apply wp_cut;intro K0 J;go_wp2;rw[<-hw0];apply J.out;clear J hw0;apply wp_cut;intro K0 J;go_wp2_with (first|(go_at_call 30;refine HGH.out.mono ?_;rintro e w1 ⟨hk1,x,m0,m1,m2,s0,s1,s2,v0,v1,v2,AH,ST,LN,rfl,hq⟩))
 obtain⟨w2,hw2,x0,x1,x2,x3,x4,x5,HW2⟩:=zNF (m0:=m0) (s0:=s0) (v0:=v0) (m1:=m1) (m2:=m2) (s1:=s1) (s2:=s2) (v1:=v1) (v2:=v2) (AH:=AH) (LN:=LN) (ST:=ST) hk1 HZ0;rw[<-hw2];apply J.out;clear J hw2 HGH;have HQ:=vl hq;clear hq;apply wp_cut;intro K0 J;obtain⟨r0,r1,r2,r3,r4,r5,g0,g1,g2,g3,g4,g5⟩:=vW (HB0.out w2 HW2.out.1);have HNE:Hid (w1.heap.size≠w.heap.size):=by have:=HW2.out.2.2;show _≠_;omega
 have HQQ:=vl hQ;clear hQ;go_wp2;go_region
 all_goals
  obtain⟨wa,hwa,hblk,hz,ho,hu,hne⟩:=zEk w2 w.heap.size (slice m0 m1 m2) (slice s0 s1 s2) (slice v0 v1 v2) (int i64 AH) (bool ST) (int i64 LN) (HB0.out w2 HW2.out.1);rw[<-hwa];obtain⟨wz,hwz,d0,d1,d2,d3,d4,d5,HW⟩:=zNE hblk hz ho hu hne;rw[<-hwz];clear hwa hwz hblk hz ho hu hne;go_wp2;refine bodyPost_ret (v:=tuple #[pointer none,agg #[slice m0 m1 m2,slice s0 s1 s2,slice v0 v1 v2,int i64 AH,bool ST,int i64 LN]]) (by simp[results,results16,go_sem,d0,d1,d2,d3,d4,d5]) rfl ?_;have hs1:=HW2.out.1.size;have hs2:=HW2.out.2.1.size;refine⟨HZ0.out.2.trans ⟨HW.out.1.trans HW2.out.1.os,HW.out.2.1.trans HW2.out.1.output,by rw[HW.out.2.2.1];exact hs1,fun k k1 k2=>(HW.out.2.2.2 k (by omega)).trans (HW2.out.1.block k (by rw[HZ0.out.1];omega) (by rw[HZ0.out.1];omega))⟩,none,m0,m1,m2,s0,s1,s2,v0,v1,v2,AH,ST,LN,rfl,?_⟩;exact HQQ.out _ _ _ w1 wz HQ.out (fun k k1 k2=>(HW.out.2.2.2 k (by omega)).trans (HW2.out.2.1.block k k2 (by omega))) (by rw[HW.out.2.2.1];exact hs2)
theorem zNm {s:ByteArray}{st ho:Int}{n k:Nat}(h:zAk s st ho=.inr (n,k)):k≠0:=by
 unfold zAk at h;split at h
 ·cases h;decide
 cases hsp:jE s with
 |inr e=>rw[hsp] at h;have h:=Sum.inr.inj h;subst h;exact zEH hsp
 |inl sh=>
  rw[hsp] at h;have h2:(match xR (1+6*s.size) sh sh.modes.length 0 st.toNat with|none=>.inr (0,5)|some ms=>.inl (ms,sh))=(.inr (n,k):(List Sm×Sh) ⊕ (Nat×Nat)):=h;split at h2
  ·cases h2;decide
  ·cases h2
def OfQ (s:ByteArray)(h:Nat)(fo:Bool)(B:Nat)(x:Option Addr)(AH:Int)(ST:Bool)(w':World):Prop:=match zAd s with
 |none=>x=none
 |some y=>∃L t,x=some ⟨L,0,none⟩∧AH=aheadTo y.1 y.1.length∧ST=zBd y fo∧LexIn w' B L y h fo t
theorem OfQ.keep {s:ByteArray}{h:Nat}{fo:Bool}{B C:Nat}{x:Option Addr}{AH:Int}{ST:Bool}{w w':World}(q:OfQ s h fo B x AH ST w)(e:∀k,B<=k->k<w.heap.size->w'.heap[k]? =w.heap[k]?)(hs:w.heap.size<=w'.heap.size)(hc:C<=B):OfQ s h fo C x AH ST w':=by
 unfold OfQ at q ⊢;cases hl:zAd s with
 |none=>rw[hl] at q;exact q
 |some y=>
  rw[hl] at q;obtain⟨L,t,h1,h2,h3,h4⟩:=q;exact⟨L,t,h1,h2,h3,(h4.keep e hs).less hc⟩
def zOw (w:World)(s:ByteArray)(h:Nat)(fo:Bool)(e:Ending)(w':World):Prop:=Grew w w'∧∃x m0 m1 m2 s0 s1 s2 v0 v1 v2 AH ST LN,e=returned (tuple #[pointer x,agg #[slice m0 m1 m2,slice s0 s1 s2,slice v0 v1 v2,int i64 AH,bool ST,int i64 LN]])∧OfQ s h fo w.heap.size x AH ST w'
theorem zH4 (w:World)(s:ByteArray)(hs:s.size<=1048576)(h:Nat)(h1:1<=h)(h2:h<=64)(fo:Bool):Calls prog 16 #[string s,int i64 (h:Int),bool fo] w (zOw w s h fo):=by
 have hg:=zBQ (w.alloc (Obj.cells #[slice none 0 0,slice none 0 0,slice none 0 0,int i64 0,bool false,int i64 0] 30)) s hs 200 (h:Int) fo;have e1:=zK7 s (h:Int) (by omega) (by omega);have hz:(w.alloc (Obj.cells #[slice none 0 0,slice none 0 0,slice none 0 0,int i64 0,bool false,int i64 0] 30)).heap.size=w.heap.size+1:=by simp
 have hQ:∀x AH ST w1 w',OfQ s h fo (w.heap.size+1) x AH ST w1->(∀k,w.heap.size<k->k<w1.heap.size->w'.heap[k]? =w1.heap[k]?)->w1.heap.size<=w'.heap.size->OfQ s h fo (w.heap.size+1) x AH ST w':=fun x AH ST w1 w' q e hs=>q.keep (fun k k1 k2=>e k (by omega) k2) hs lQ;cases hm:zAk s 200 64 with
 |inr er=>
  obtain⟨n,k⟩:=er;rw[e1,hm] at hg;have hl:zAd s=none:=by unfold zAd;rw[hm]
  ·have hk:=zNm hm
   refine(zOt w s h fo k (by omega) (OfQ s h fo (w.heap.size+1)) (hg.mono ?_) hQ).mono ?_
   ·rintro e w' ⟨-,hk',rfl⟩
    exact⟨hk',none,none,0,0,none,0,0,none,0,0,0,false,(n:Int),rfl,by unfold OfQ;rw[hl]⟩
   ·rintro e w' ⟨hk',x,m0,m1,m2,s0,s1,s2,v0,v1,v2,AH,ST,LN,rfl,hq⟩
    exact⟨hk',x,m0,m1,m2,s0,s1,s2,v0,v1,v2,AH,ST,LN,rfl,hq.keep (fun _ _ _=>rfl) lQ (by omega)⟩
 |inl y=>
  obtain⟨ms,sh⟩:=y;rw[e1,hm] at hg;have hl:zAd s=some (ms,sh):=by unfold zAd;rw[hm]
  refine(zN1 w s h fo (OfQ s h fo (w.heap.size+1)) (hg.mono ?_) hQ).mono ?_
  ·rintro e w' ⟨hk',L,p,H,c,n,m0,m1,m2,s0,s1,s2,v0,v1,v2,rfl,c1,c2,c3,c4,c5,c6,c7,c8,c9,c10⟩
   refine⟨hk',_,m0,m1,m2,s0,s1,s2,v0,v1,v2,_,_,_,rfl,?_⟩;unfold OfQ;rw[hl];have hi:=LexIn.of (w:=w.alloc (Obj.cells #[slice none 0 0,slice none 0 0,slice none 0 0,int i64 0,bool false,int i64 0] 30)) (e1.trans hm) c1 c2 c3 c4 c5 c6 c7 c8 c9 c10;rw[hz] at hi;exact⟨L,_,rfl,rfl,rfl,hi⟩
  ·rintro e w' ⟨hk',x,m0,m1,m2,s0,s1,s2,v0,v1,v2,AH,ST,LN,rfl,hq⟩
   exact⟨hk',x,m0,m1,m2,s0,s1,s2,v0,v1,v2,AH,ST,LN,rfl,hq.keep (fun _ _ _=>rfl) lQ (by omega)⟩
theorem zJe (w:World)(s:ByteArray)(hs:s.size<=1048576):Calls prog 29 #[string s] w fun e w'=>e=returned (tuple #[bool (zAd s).isNone,bool true])∧Grew w w':=by
 have hg:=zBQ w s hs 200 64 false;cases hm:zAk s 200 64 with
 |inr er=>
  obtain⟨n,k⟩:=er;rw[hm] at hg;have HG:=vl hg;have hl:zAd s=none:=by unfold zAd;rw[hm]
  rw[hl];go_in;go_wp2_with (first|(go_at_call 30;refine HG.out.mono ?_;rintro e w1 ⟨hk0,hk1,rfl⟩;have hkb:((k:Int) != 0)=true:=by simpa using hk0))
  refine bodyPost_ret (results_tmp2 rfl _ _ _) rfl ?_;exact⟨by simp only[hkb];rfl,hk1.trans (kZ _ _ hk1.size)⟩
 |inl y=>
  obtain⟨ms,sh⟩:=y;rw[hm] at hg;have HG:=vl hg;have hl:zAd s=some (ms,sh):=by unfold zAd;rw[hm]
  rw[hl];go_in;go_wp2_with (first|(go_at_call 30;refine HG.out.mono ?_;rintro e w1 ⟨hk1,L,p,H,c,n,m0,m1,m2,s0,s1,s2,v0,v1,v2,rfl,-⟩))
  refine bodyPost_ret (results_tmp2 rfl _ _ _) rfl ?_;exact⟨rfl,hk1.trans (kZ _ _ hk1.size)⟩
end Go.Proofs.YtbjcfkdnjaiclaaGreat
