import Derived.Deep.DrawnRows
import Derived.Deep.RegionLaw
import Derived.Test.YtbjcfkdnjaiclaaGreatE0
import Derived.Test.YtbjcfkdnjaiclaaGreatE6
import Derived.Test.YtbjcfkdnjaiclaaGreatE9
/- Parts of the proof. -/
set_option linter.unusedVariables false
set_option linter.unusedSimpArgs false
set_option maxHeartbeats 4000000
set_option maxRecDepth 100000
namespace Go.Proofs.YtbjcfkdnjaiclaaGreat
open Go.RowKit Go.Proofs.Tryz Go.World
open Go.Value (int slice bool pointer string agg tuple)
open Go.IntKind (i64)
open Go.Ending (returned)
def Sh.addRule (sh:Sh)(k:Nat)(t:Tr):Sh:={sh with modes:=sh.modes.set k ((sh.mode k).1,(sh.mode k).2++[t])}
theorem zD7 (sh:Sh)(k:Nat)(t:Tr):(sh.addRule k t).modes.length=sh.modes.length:=by unfold Sh.addRule;simp
theorem zAg (sh:Sh)(k:Nat)(t:Tr)(i:Nat)(hi:i≠k):(sh.addRule k t).mode i=sh.mode i:=by
 unfold Sh.addRule
 conv=>lhs;unfold Sh.mode
 conv=>rhs;unfold Sh.mode
 rw[lW,lW];show((sh.modes.set k _)[i]?).getD _=_;rw[List.getElem?_set_ne (Ne.symm hi),lW]
theorem zAT (sh:Sh)(k:Nat)(t:Tr)(hk:k<sh.modes.length):(sh.addRule k t).mode k=((sh.mode k).1,(sh.mode k).2++[t]):=by
 unfold Sh.addRule
 conv=>lhs;unfold Sh.mode
 rw[lW];show((sh.modes.set k _)[k]?).getD _=_;rw[List.getElem?_set_self hk];rfl
theorem zHk (sh:Sh)(k:Nat)(t:Tr)(hk:k<sh.modes.length)(i:Nat):((sh.addRule k t).mode i).1=(sh.mode i).1:=by
 by_cases e:i=k
 ·subst e;rw[zAT sh i t hk]
 ·rw[zAg sh k t i e]
theorem Sw.appRule {w w2:World}{X:Nat->Prop}{S D:Nat}{sh:Sh}{dv av pv:Value}{rv:Nat->Value}{ps:Nat->List Nat}{dp:Nat->Nat}{o:Obj}{g cap mg mc k q0:Nat}{t:Tr}(h:Sw w X S D sh (slice (some ⟨mg,0,none⟩) sh.modes.length mc) dv av pv rv ps dp)(hk:k<sh.modes.length)(ht:TreeIn X w D q0 t)(hown:w2.ownsRow (S+1) 158 1 (slice (some ⟨g,0,none⟩) ((sh.mode k).2.length+1) cap) ((sh.mode k).2.length+1) (xT (ps k)++[pointer (some ⟨q0,0,none⟩)]))(hg:(w.alloc o).grownBy w2 (rv k).ownBlock)(hat:(rv k).ownBlock=some g∨w.heap.size<=g):
  Sw (w2.setCell ⟨mg,k*2+1,none⟩ (slice (some ⟨g,0,none⟩) ((sh.mode k).2.length+1) cap)) X S D (sh.addRule k t) (slice (some ⟨mg,0,none⟩) sh.modes.length mc) dv av pv (fun i=>if i=k then slice (some ⟨g,0,none⟩) ((sh.mode k).2.length+1) cap else rv i) (fun i=>if i=k then ps k++[q0] else ps i) dp∧KeepO mg (rv k) (slice (some ⟨g,0,none⟩) ((sh.mode k).2.length+1) cap) w (w2.setCell ⟨mg,k*2+1,none⟩ (slice (some ⟨g,0,none⟩) ((sh.mode k).2.length+1) cap)):=by
 have hS:=h.lt;have hmg:=h.mOwn.lt mg rfl;have hmr:=zZ h.mOwn (h.rOwn k hk) (by decide) mg rfl;have hsz:w.heap.size<=w2.heap.size:=lY (by simp) hg.size;have hgm:g≠mg:=fun e=>by
  rcases hat with ha|ha
  ·exact hmr (by rw[ha,e])
  ·omega
 have bl:∀j,j<w.heap.size->some j≠(rv k).ownBlock->w2.heap[j]? =w.heap[j]? :=fun j hj hne=>(hg.block j (by simp;omega) hne).trans (lG _ _ _ hj);have a2:KeepO mg (rv k) (slice (some ⟨g,0,none⟩) ((sh.mode k).2.length+1) cap) w (w2.setCell ⟨mg,k*2+1,none⟩ (slice (some ⟨g,0,none⟩) ((sh.mode k).2.length+1) cap)):=⟨hg.os,hg.output,by rw[zC];exact hsz,fun j h1 h2 h3=>⟨(lJ _ _ _ _ h2).trans (bl j h1 h3),fun e=>by
  have e2:j=g:=by simpa[Value.ownBlock] using e
  rcases hat with ha|ha
  ·exact h3 (by rw[ha,e2])
  ·omega⟩⟩
 have ne:∀{e z n v xs},w.ownsRow (S+1) e z v n xs->e≠120->∀q,v.ownBlock=some q->q≠mg:=fun ho he q hq e2=>zZ ho h.mOwn he q hq (by rw[e2];rfl);have kd:=zB7 a2 h.dOwn (ne h.dOwn (by decide)) (zZ h.dOwn (h.rOwn k hk) (by decide));have ka:=zB7 a2 h.aOwn (ne h.aOwn (by decide)) (zZ h.aOwn (h.rOwn k hk) (by decide));have kp:=zB7 a2 h.pOwn (ne h.pOwn (by decide)) (zZ h.pOwn (h.rOwn k hk) (by decide));have kr:=fun i (hi:i<sh.modes.length) (hik:i≠k)=>zB7 a2 (h.rOwn i hi) (ne (h.rOwn i hi) (by decide)) (fun q hq=>h.rApart i k q hi hk hik hq);have hX:∀q,X q->q≠mg∧some q≠(rv k).ownBlock:=fun q hq=>⟨fun e=>(h.xm q hq).1 (by rw[e];rfl),h.xr q k hq hk⟩
 have tk:∀d b t,TreeIn X w d b t->TreeIn X (w2.setCell ⟨mg,k*2+1,none⟩ (slice (some ⟨g,0,none⟩) ((sh.mode k).2.length+1) cap)) d b t:=fun d b t ht=>vT a2 ht hX;have hlen:=zD7 sh k t;refine⟨⟨?_,?_,kd.1,ka.1,kp.1,fun i hi=>?_,fun i j q hi hj hij hq=>?_,fun i hi j hj=>?_,fun i hi=>tk _ _ _ (h.dTree i hi),fun q hq=>⟨(h.xlt q hq).1,lZ (h.xlt q hq).2 a2.size⟩,h.xm,fun q i hq hi=>?_,lZ hS a2.size⟩,a2⟩
 ·exact(a2.block S hS (by omega) fun e=>by have:=((h.rOwn k hk).lt S e.symm).1;omega).1.trans h.blk
 ·have h1:=zD h.mOwn fun q _ hq hv=>bl q hq (by
   have e:mg=q:=by simpa[Value.ownBlock] using hv
   rw[<-e];exact hmr)
  have h2:=h1.stored (k*2+1) (slice (some ⟨g,0,none⟩) ((sh.mode k).2.length+1) cap);rw[zKP _ _ _ _ _ hk] at h2;rw[hlen,zAO (fun i=>string ((sh.addRule k t).mode i).1) _ (fun i=>string (sh.mode i).1) (fun i=>if i=k then slice (some ⟨g,0,none⟩) ((sh.mode k).2.length+1) cap else rv i) _ fun i _=>⟨by rw[zHk sh k t hk],rfl⟩];exact h2.1
 ·rw[hlen] at hi
  by_cases e:i=k
  ·subst e
   rw[zAT sh i t hk];simp only[if_pos];have e2:((sh.mode i).2++[t]).length=(sh.mode i).2.length+1:=by simp
   have e3:xT (ps i++[q0])=xT (ps i)++[pointer (some ⟨q0,0,none⟩)]:=by simp[xT]
   show World.ownsRow _ _ _ _ _ ((sh.mode i).2++[t]).length _;rw[e2,e3];exact zD hown fun q _ _ hv=>lJ _ _ _ _ (by
    have e4:g=q:=by simpa[Value.ownBlock] using hv
    rw[<-e4];exact hgm)
  ·rw[zAg sh k t i e]
   simp only[if_neg e];exact(kr i hi e).1
 ·rw[hlen] at hi hj
  by_cases e:i=k
  ·simp only[if_pos e] at hq
   have e2:j≠k:=fun e2=>hij (by rw[e,e2]);simp only[if_neg e2];exact fun e3=>(kr j hj e2).2 q e3.symm (hq.symm)
  ·simp only[if_neg e] at hq
   by_cases e2:j=k
   ·simp only[if_pos e2]
    exact(kr i hi e).2 q hq
   ·simp only[if_neg e2]
    exact h.rApart i j q hi hj hij hq
 ·rw[hlen] at hi
  by_cases e:i=k
  ·subst e
   rw[zAT sh i t hk] at hj ⊢;simp only[if_pos];have hpl:(ps i).length=(sh.mode i).2.length:=by
    have:=(h.rOwn i hi).1;unfold xT at this;rw[kV] at this;omega
   have hj2:j<(sh.mode i).2.length+1:=by simpa using hj
   show TreeIn X _ D ((ps i++[q0]).getD j 0) (((sh.mode i).2++[t]).getD j Tr.none);by_cases hj3:j<(sh.mode i).2.length
   ·have e1:(ps i++[q0]).getD j 0=(ps i).getD j 0:=by rw[lW,lW,kW (by omega)]
    have e2:((sh.mode i).2++[t]).getD j Tr.none=(sh.mode i).2.getD j Tr.none:=by rw[lW,lW,kW hj3]
    rw[e1,e2];exact tk _ _ _ (h.rTree i hi j hj3)
   ·have e5:j=(sh.mode i).2.length:=by omega
    subst e5;have e1:(ps i++[q0]).getD (sh.mode i).2.length 0=q0:=by rw[<-hpl];simp
    have e2:((sh.mode i).2++[t]).getD (sh.mode i).2.length Tr.none=t:=by simp
    rw[e1,e2];exact tk _ _ _ ht
  ·rw[zAg sh k t i e] at hj ⊢
   simp only[if_neg e];exact tk _ _ _ (h.rTree i hi j hj)
 ·rw[hlen] at hi
  by_cases e:i=k
  ·simp only[if_pos e]
   exact(a2.block q (h.xlt q hq).2 (hX q hq).1 (hX q hq).2).2
  ·simp only[if_neg e]
   exact h.xr q i hq hi
theorem qL {w:World}{H e z n:Nat}{v:Value}{xs:List Value}(h:w.ownsRow H e z v n xs)(hn:0<n):∃g cap,v=slice (some ⟨g,0,none⟩) n cap∧H<=g∧g<w.heap.size∧n<=cap∧cap<=maxLen∧(∀j u,xs[j]? =some u->w.cell? ⟨g,j,none⟩=some u)∧∀j,w.frozen? ⟨g,j,none⟩=false:=by
 rcases h.2 with⟨-,h0⟩|⟨g,cap,cur,hv,hH,hh,h1,h2,-⟩
 ·omega
 ·have hl:=h.lt g (by rw[hv];rfl)
  refine⟨g,cap,hv,hH,hl.2,h1,h2,fun j u hu=>?_,fun j=>?_⟩
  ·have:=h.cells (g:=g) (by rw[hv];rfl) j u hu
   rw[Addr.add_lit,Nat.zero_add] at this;exact this
  ·unfold frozen?;rw[hh];simp
theorem zCZ {w:World}{H e z n:Nat}{v:Value}{xs:List Value}(h:w.ownsRow H e z v n xs):∃ao cap,v=slice ao n cap∧n<=cap∧cap<=maxLen:=by
 rcases h.2 with⟨hv,h0⟩|⟨g,cap,cur,hv,hH,hh,h1,h2,-⟩
 ·exact⟨none,0,by rw[hv,h0],by omega,by unfold maxLen;omega⟩
 ·exact⟨_,cap,hv,h1,h2⟩
theorem zGo {α:Type}(l:List α)(p:α->Bool)(d:α)(j:Nat)(hj:j<l.length)(h:p (l.getD j d)=true)(hn:∀i,i<j->p (l.getD i d)=false):l.findIdx p=j:=by
 have hg:∀i (hi:i<l.length),l.getD i d=l[i]:=fun i hi=>by rw[lW,lV hi];rfl
 rw[List.findIdx_eq hj];refine⟨by rw[<-hg j hj];exact h,fun k hk=>?_⟩;rw[<-hg k (by omega)];exact hn k hk
theorem zIh {α:Type}(l:List α)(p:α->Bool)(d:α)(hn:∀i,i<l.length->p (l.getD i d)=false):l.findIdx p=l.length:=by
 apply List.findIdx_eq_length_of_false;intro x hx;obtain⟨i,hi,e⟩:=List.getElem_of_mem hx;have:=hn i hi;rw[lW,lV hi] at this;rw[<-e];exact this
def Sh.modeIx (sh:Sh)(nm:ByteArray):Nat:=sh.modes.findIdx fun m=>eqS m.1 nm
def Sh.modeI (sh:Sh)(nm:ByteArray):Int:=if sh.modeIx nm<sh.modes.length then(sh.modeIx nm:Int) else -1
def Sh.hasDefB (sh:Sh)(nm:ByteArray):Bool:=decide ((sh.defs.findIdx fun m=>eqS m.1 nm)<sh.defs.length)
theorem zC2 (w:World)(X:Nat->Prop)(S D:Nat)(sh:Sh)(mv dv av pv:Value)(rv:Nat->Value)(ps:Nat->List Nat)(dp:Nat->Nat)(h:Sw w X S D sh mv dv av pv rv ps dp)(hlen:sh.modes.length<=1000000)(nm:ByteArray):
  Calls prog 88 #[pointer (some ⟨S,0,none⟩),string nm] w fun e w'=>e=returned (int i64 (sh.modeI nm))∧Grew w w':=by
 have H1:Hid (∀j,j<sh.modes.length->eqS (sh.mode j).1 nm=true->(∀i,i<j->eqS (sh.mode i).1 nm=false)->sh.modeI nm=(j:Int)):=fun j hj hh hn=>by
  have e:sh.modeIx nm=j:=zGo sh.modes _ (⟨#[]⟩,[]) j hj hh hn;unfold Sh.modeI;rw[e,if_pos hj]
 have H2:Hid ((∀i,i<sh.modes.length->eqS (sh.mode i).1 nm=false)->sh.modeI nm=-1):=fun hn=>by
  have e:sh.modeIx nm=sh.modes.length:=zIh sh.modes _ (⟨#[]⟩,[]) hn;unfold Sh.modeI;rw[e,if_neg (by omega)]
 generalize sh.modeI nm=V at *;obtain⟨ao,cap0,hmv⟩:=zG h.mOwn;obtain⟨c0,-,-,-,-⟩:=h.cells;have HS:=vl h;have HMV:=vl hmv;rw[hmv] at c0;go_in;go_wp2;go_loopg [12] sh.modes.length (fun q i wr=>∃j:Nat,q=sh.modes.length-j∧j<=sh.modes.length∧i=int i64 (j:Int)∧(∀k,k<j->eqS (sh.mode k).1 nm=false)∧Grew w wr)
 case atStart=>exact⟨0,rfl,lX,rfl,fun k hk=>by omega,Keep.refl _ _ _⟩
 case round=>
  obtain⟨j,hgk,hj,rfl,hno,hk⟩:=hrel;have HA:Hid (gk=sh.modes.length-j∧(∀k,k<j->eqS (sh.mode k).1 nm=false)∧Grew w wr∧w.heap.size<=wr.heap.size):=⟨hgk,hno,hk,hk.size⟩
  by_cases hj2:j<sh.modes.length
  ·have i1:(j:Int)<(sh.modes.length:Int):=by omega
   obtain⟨mg,mc,hmv2,-,hmgl,-,-,hcl,-⟩:=qL HS.out.mOwn (by omega);rw[HMV.out] at hmv2;injection hmv2 with ea eb ec;subst ea ec;obtain⟨e1,e2⟩:=zA1 (fun i=>string (sh.mode i).1) rv sh.modes.length j hj2;have y0:=zA (hcl _ _ e1) hmgl hk;have y1:=zA (hcl _ _ e2) hmgl hk;obtain⟨ra,rc,hrv⟩:=zG (HS.out.rOwn j hj2);rw[hrv] at y1;obtain⟨wa,hwa,z0,HKa⟩:∃wa,wa=wr.alloc (.cells #[string (sh.mode j).1,(slice ra (sh.mode j).2.length rc)] 120)∧wa.cell? ⟨wr.heap.size,0,none⟩=some (string (sh.mode j).1)∧Hid (Grew w wa):=by
    have hb2:=gU wr (.cells #[string (sh.mode j).1,(slice ra (sh.mode j).2.length rc)] 120);refine⟨_,rfl,?_,HA.out.2.2.1.trans (kZ _ _ HA.out.2.2.2)⟩;unfold cell?;rw[hb2];rfl
   have HH1:Hid (eqS (sh.mode j).1 nm=true->V=(j:Int)):=fun hh=>H1.out j hj2 hh HA.out.2.1;have HNO:Hid (eqS (sh.mode j).1 nm=false->∀k,k<j+1->eqS (sh.mode k).1 nm=false):=fun hh k hk=>by
    by_cases e:k=j
    ·rw[e];exact hh
    ·exact HA.out.2.1 k (by omega)
   apply wp_cut;intro K1 HK1;go_wp2;apply HK1.out;apply wp_cut;intro K1 HK1;go_wp2;apply HK1.out;apply wp_cut;intro KB HKB;refine wp_block ?_;apply wp_cut;intro K1 HK1;go_wp2;apply HK1.out;clear HK1;rw[<-hwa];clear hwa y0 y1;cases hc:eqS (sh.mode j).1 nm with
   |true=>
    have HV:=vl <| HH1.out hc;have hc2:((sh.mode j).1.toList==nm.toList)=true:=hc;clear HH1 HNO hc;go_wp2;go_ret;exact⟨by rw[HV.out];rfl,HKa.out⟩
   |false=>
    have HN2:=HNO.out hc;have hc2:((sh.mode j).1.toList==nm.toList)=false:=hc;clear HH1 HNO hc;go_wp2;apply HKB.out;clear HKB;go_wp2;go_roundg (sh.modes.length-(j+1))
    case measure=>rw[HA.out.1];omega
    case rel=>exact⟨j+1,rfl,by omega,by go_num,HN2,HKa.out⟩
  ·have i1:(sh.modes.length:Int)<=(j:Int):=by omega
   have HV:=vl <| H2.out fun k hk=>hno k (by omega);clear hgk hno hk;go_wp2;go_ret;exact⟨by rw[HV.out];rfl,HA.out.2.2.1⟩
theorem zC6 (w:World)(X:Nat->Prop)(S D:Nat)(sh:Sh)(mv dv av pv:Value)(rv:Nat->Value)(ps:Nat->List Nat)(dp:Nat->Nat)(h:Sw w X S D sh mv dv av pv rv ps dp)(hlen:sh.defs.length<=1000000)(nm:ByteArray):
  Calls prog 161 #[pointer (some ⟨S,0,none⟩),string nm] w fun e w'=>e=returned (bool (sh.hasDefB nm))∧Grew w w':=by
 have H1:Hid (∀j,j<sh.defs.length->eqS (sh.defn j).1 nm=true->(∀i,i<j->eqS (sh.defn i).1 nm=false)->sh.hasDefB nm=true):=fun j hj hh hn=>by
  have e:(sh.defs.findIdx fun m=>eqS m.1 nm)=j:=zGo sh.defs _ (⟨#[]⟩,Tr.none) j hj hh hn;unfold Sh.hasDefB;rw[e];exact decide_eq_true hj
 have H2:Hid ((∀i,i<sh.defs.length->eqS (sh.defn i).1 nm=false)->sh.hasDefB nm=false):=fun hn=>by
  have e:(sh.defs.findIdx fun m=>eqS m.1 nm)=sh.defs.length:=zIh sh.defs _ (⟨#[]⟩,Tr.none) hn;unfold Sh.hasDefB;rw[e];exact decide_eq_false (by omega)
 generalize sh.hasDefB nm=V at *;obtain⟨ao,cap0,hmv⟩:=zG h.dOwn;obtain⟨-,c0,-,-,-⟩:=h.cells;have HS:=vl h;have HMV:=vl hmv;rw[hmv] at c0;go_in;go_wp2;go_loopg [12] sh.defs.length (fun q i wr=>∃j:Nat,q=sh.defs.length-j∧j<=sh.defs.length∧i=int i64 (j:Int)∧(∀k,k<j->eqS (sh.defn k).1 nm=false)∧Grew w wr)
 case atStart=>exact⟨0,rfl,lX,rfl,fun k hk=>by omega,Keep.refl _ _ _⟩
 case round=>
  obtain⟨j,hgk,hj,rfl,hno,hk⟩:=hrel;have HA:Hid (gk=sh.defs.length-j∧(∀k,k<j->eqS (sh.defn k).1 nm=false)∧Grew w wr∧w.heap.size<=wr.heap.size):=⟨hgk,hno,hk,hk.size⟩
  by_cases hj2:j<sh.defs.length
  ·have i1:(j:Int)<(sh.defs.length:Int):=by omega
   obtain⟨mg,mc,hmv2,-,hmgl,-,-,hcl,-⟩:=qL HS.out.dOwn (by omega);rw[HMV.out] at hmv2;injection hmv2 with ea eb ec;subst ea ec;obtain⟨e1,e2⟩:=zA1 (fun i=>string (sh.defn i).1) (fun i=>pointer (some ⟨dp i,0,none⟩)) sh.defs.length j hj2;have y0:=zA (hcl _ _ e1) hmgl hk;have y1:=zA (hcl _ _ e2) hmgl hk;obtain⟨wa,hwa,z0,HKa⟩:∃wa,wa=wr.alloc (.cells #[string (sh.defn j).1,(pointer (some ⟨dp j,0,none⟩))] 233)∧wa.cell? ⟨wr.heap.size,0,none⟩=some (string (sh.defn j).1)∧Hid (Grew w wa):=by
    have hb2:=gU wr (.cells #[string (sh.defn j).1,(pointer (some ⟨dp j,0,none⟩))] 233);refine⟨_,rfl,?_,HA.out.2.2.1.trans (kZ _ _ HA.out.2.2.2)⟩;unfold cell?;rw[hb2];rfl
   have HH1:Hid (eqS (sh.defn j).1 nm=true->V=true):=fun hh=>H1.out j hj2 hh HA.out.2.1;have HNO:Hid (eqS (sh.defn j).1 nm=false->∀k,k<j+1->eqS (sh.defn k).1 nm=false):=fun hh k hk=>by
    by_cases e:k=j
    ·rw[e];exact hh
    ·exact HA.out.2.1 k (by omega)
   apply wp_cut;intro K1 HK1;go_wp2;apply HK1.out;apply wp_cut;intro K1 HK1;go_wp2;apply HK1.out;apply wp_cut;intro KB HKB;refine wp_block ?_;apply wp_cut;intro K1 HK1;go_wp2;apply HK1.out;clear HK1;rw[<-hwa];clear hwa y0 y1;cases hc:eqS (sh.defn j).1 nm with
   |true=>
    have HV:=vl <| HH1.out hc;have hc2:((sh.defn j).1.toList==nm.toList)=true:=hc;clear HH1 HNO hc;go_wp2;go_ret;exact⟨by rw[HV.out];rfl,HKa.out⟩
   |false=>
    have HN2:=HNO.out hc;have hc2:((sh.defn j).1.toList==nm.toList)=false:=hc;clear HH1 HNO hc;go_wp2;apply HKB.out;clear HKB;go_wp2;go_roundg (sh.defs.length-(j+1))
    case measure=>rw[HA.out.1];omega
    case rel=>exact⟨j+1,rfl,by omega,by go_num,HN2,HKa.out⟩
  ·have i1:(sh.defs.length:Int)<=(j:Int):=by omega
   have HV:=vl <| H2.out fun k hk=>hno k (by omega);clear hgk hno hk;go_wp2;go_ret;exact⟨by rw[HV.out];rfl,HA.out.2.2.1⟩
theorem zJs:(prog.info? 120).map (fun i=>(i.zero,i.size,i.bytes))=some (some (agg #[string ⟨#[]⟩,slice none 0 0]),2,40):=by kernel_rfl
def yI (sh:Sh)(nm:ByteArray):Option Sh:=if 3<=sh.modes.length then none else if 0<=sh.modeI nm then none else if xF nm then some (sh.addMode nm) else none
def LnAns (w:World)(S D:Nat)(a:Option Sh)(e:Ending)(w':World):Prop:=
 Keep S S w w'∧match a with
 |none=>e=returned (bool false)
 |some sh=>e=returned (bool true)∧SwIs w' S D sh
theorem zDY (sh:Sh)(nm:ByteArray):sh.modeI nm=-1∨(0<=sh.modeI nm∧sh.modeI nm<sh.modes.length):=by
 unfold Sh.modeI;split
 ·right;omega
 ·left;rfl
theorem zET (w:World)(X:Nat->Prop)(S D:Nat)(sh:Sh)(mv dv av pv:Value)(rv:Nat->Value)(ps:Nat->List Nat)(dp:Nat->Nat)(h:Sw w X S D sh mv dv av pv rv ps dp)(hlen:sh.modes.length<=1000000)(nm:ByteArray)(hs:nm.size<=1048576):
  Calls prog 120 #[pointer (some ⟨S,0,none⟩),string nm] w (LnAns w S D (yI sh nm)):=by
 obtain⟨i0,hi0,hz0,hz1,hz2⟩:=info_parts zJs;obtain⟨ao,cap0,hmv⟩:=zG h.mOwn;subst hmv;obtain⟨c0,-,-,-,-⟩:=h.cells;have HMO:=vl <| zC2 w X S D sh _ dv av pv rv ps dp h hlen nm;have HNM:Hid (∀w,Ca 160 #[string nm] w fun e w'=>e=returned (bool (xF nm))∧w'=w):=fun w=>vI w nm hs;have HS:=vl h;have hlS:=h.lt;have HLS:Hid (∀w1,Grew w w1->Keep S S w w1):=fun w1 hk=>hk.lower (Nat.le_of_lt hlS) (Nat.le_of_lt hlS);have HM:Hid (yI sh nm=if 3<=sh.modes.length then none else if 0<=sh.modeI nm then none else if xF nm then some (sh.addMode nm) else none):=rfl;by_cases h3:3<=sh.modes.length
 ·have HV:Hid (yI sh nm=none):=by show _=_;rw[HM.out,if_pos h3]
  have j3:(3:Int)<=(sh.modes.length:Int):=by omega
  rw[HV.out];go_in;go_wp2;go_ret;exact⟨Keep.refl _ _ _,rfl⟩
 have j3:(sh.modes.length:Int)<3:=by omega
 rcases zDY sh nm with hmi|⟨hmi,-⟩
 ·rw[hmi] at HMO
  have HMO2:=vl HMO;cases hn:xF nm with
  |false=>
   rw[hn] at HNM;have HNM2:=vl HNM;have HV:Hid (yI sh nm=none):=by show _=_;rw[HM.out,if_neg h3,if_neg (by rw[hmi];decide),hn];rfl
   rw[HV.out];go_in;go_wp2_with (first|(go_at_call 88;refine HMO2.out.mono ?_;rintro e w1 ⟨rfl,hk1⟩)|(go_at_call 160;refine(HNM2.out _).mono ?_;rintro e w9 ⟨rfl,hw9⟩;have hw8:=hw9.symm;subst hw8))
   go_ret;exact⟨HLS.out _ hk1,rfl⟩
  |true=>
   rw[hn] at HNM;have HNM2:=vl HNM;have HV:Hid (yI sh nm=some (sh.addMode nm)):=by show _=_;rw[HM.out,if_neg h3,if_neg (by rw[hmi];decide),hn];rfl
   rw[HV.out];go_in;apply wp_cut;intro K0 J;go_wp2;apply J.out;apply wp_cut;intro K0 J;go_wp2_with (first|(go_at_call 88;refine HMO2.out.mono ?_;rintro e w1 ⟨rfl,hk1⟩)|(go_at_call 160;refine(HNM2.out _).mono ?_;rintro e w9 ⟨rfl,hw9⟩;have hw8:=hw9.symm;subst hw8))
   apply J.out;have h1:=HS.out.grown hk1;have H1:Hid (Sw w1 X S D sh (slice ao sh.modes.length cap0) dv av pv rv ps dp∧Keep S S w w1):=⟨h1,HLS.out _ hk1⟩
   obtain⟨x0,-,-,-,xf⟩:=h1.cells;have xf0:=xf 0;have OW:=h1.mOwn;have hlt1:=h1.lt;have HNP:=vl <| zM h1.mOwn h1.blk (by decide);apply wp_cut;intro K0 J;go_wp2_with (first|(at_builtin;refine wpList_append_lies _ rfl _ _ 77 rfl (S+1) 120 i0 (agg #[string ⟨#[]⟩,slice none 0 0]) 2 40 underlying77 hi0 hz0 hz1 hz2 rfl (by decide) _ _ _ rfl (OW.alloc _) ⟨w1.heap.size,0,none⟩ 1 1 [string nm,slice none 0 0] rfl rfl (news_of_block (cs:=#[string nm,slice none 0 0]) (t:=120) (fr:=(0,0)) (gU w1 _)) (by simp[Value.oneCell']) (by decide) (by unfold maxLen;omega) (by omega) (by simp;omega) _ rfl ?_;intro gg cap w2 hown hgrow hat hlt;have hPB:=hgrow.block S (by simp;omega) HNP.out;have x0b:=(cell?_of_block hPB).trans ((cell?_alloc_past _ _ _ hlt1).trans x0);have xf0b:=(frozen?_of_block hPB).trans ((frozen?_alloc_past _ _ _ hlt1).trans xf0)))
   apply J.out;obtain⟨w3,hw3,H3⟩:∃w3,w3=w2.setCell ⟨S,0,none⟩ (slice (some ⟨gg,0,none⟩) (sh.modes.length+1) cap)∧Hid (SwIs w3 S D (sh.addMode nm)∧Keep S S w w3):=by
    obtain⟨q1,q2⟩:=H1.out.1.appMode hown hgrow (by rcases hat with ha|ha;exact .inl ha;right;rw[ha];simp);exact⟨_,rfl,⟨X,_,dv,av,pv,_,_,dp,q1⟩,H1.out.2.trans ((q2.keep H1.out.1.mOwn H1.out.1.lt).lower (Nat.le_succ S) (Nat.le_refl S))⟩
   rw[<-hw3];go_wp2;go_ret;exact⟨H3.out.2,rfl,H3.out.1⟩
 ·have HV:Hid (yI sh nm=none):=by show _=_;rw[HM.out,if_neg h3,if_pos hmi]
  rw[HV.out];generalize sh.modeI nm=mi at *;go_in;go_wp2_with (first|(go_at_call 88;refine HMO.out.mono ?_;rintro e w1 ⟨rfl,hk1⟩))
  go_ret;exact⟨HLS.out _ hk1,rfl⟩
theorem zNi:(prog.info? 233).map (fun i=>(i.zero,i.size,i.bytes))=some (some (agg #[string ⟨#[]⟩,pointer none]),2,24):=by kernel_rfl
structure ShOk (sh:Sh)(D:Nat):Prop where
 modes:sh.modes.length<=3
 defs:sh.defs.length<=4
 acts:sh.acts.length<=8
 same:sh.pushed.length=sh.acts.length
 names:∀i,i<sh.defs.length->(sh.defn i).1.size<=6
 trees:zAZ D sh.defs
 rules:∀i,i<sh.modes.length->∀t∈(sh.mode i).2,TrOk D t
theorem Sw.defsIn {w:World}{X:Nat->Prop}{S D:Nat}{sh:Sh}{mv dv av pv:Value}{rv:Nat->Value}{ps:Nat->List Nat}{dp:Nat->Nat}(h:Sw w X S D sh mv dv av pv rv ps dp)(hn:∀i,i<sh.defs.length->(sh.defn i).1.size<=6):DefsIn w.heap.size X w D dv sh.defs:=by
 obtain⟨ao,cap,hv,h1,h2⟩:=zCZ h.dOwn;refine⟨ao,cap,hv,h1,h2,fun i hi=>?_⟩;obtain⟨g,cap2,hv2,-,hg,-,-,hc,-⟩:=qL h.dOwn (by omega);rw[hv] at hv2;injection hv2 with e1 e2 e3;obtain⟨p1,p2⟩:=zA1 (fun i=>string (sh.defn i).1) (fun i=>pointer (some ⟨dp i,0,none⟩)) sh.defs.length i hi;refine⟨g,0,dp i,e1,hg,hg,?_,?_,h.dTree i hi,lY (hn i hi) (by omega)⟩
 ·rw[Nat.zero_add];exact hc _ _ p1
 ·rw[Nat.zero_add];exact hc _ _ p2
theorem zBl {w w1 w2:World}(h1:Grew w w1)(h2:Grew w1 w2):Grew w w2:=h1.trans (h2.lower h1.size h1.size)
def vO (sh:Sh)(s:ByteArray):Option Sh:=
 if jU s 32 then if 4<=sh.defs.length then none else if sh.hasDefB (yN s 32) then none else if xF (yN s 32) then(match vK (qH s 32) sh.defs with
  |none=>none
  |some t=>some (sh.addDef (yN s 32) t)) else none else none
theorem zDI (s:ByteArray)(c:Nat):(yN s c).size<=s.size:=by
 unfold yN;split
 ·rw[ByteArray.size_extract];omega
 ·exact lQ
theorem vX (s:ByteArray)(c:Nat):(qH s c).size<=s.size:=by
 unfold qH;split
 ·rw[ByteArray.size_extract];omega
 ·exact lX
theorem zMb (w:World)(X:Nat->Prop)(S D:Nat)(sh:Sh)(mv dv av pv:Value)(rv:Nat->Value)(ps:Nat->List Nat)(dp:Nat->Nat)(h:Sw w X S D sh mv dv av pv rv ps dp)(ok:ShOk sh D)(s:ByteArray)(hs:s.size<=1000)(A B:ByteArray)(K:Bool)(hA:A.size<=1000)(hB:B.size<=1000)(hcut:∀w,Calls prog 86 #[string s,int .u8 32] w fun e w'=>e=returned (tuple #[string A,string B,bool K])∧Grew w w')(hno:¬(K=true∧¬4<=sh.defs.length∧sh.hasDefB A=false∧xF A=true∧∃t,vK B sh.defs=some t)):
  Calls prog 121 #[pointer (some ⟨S,0,none⟩),string s] w (LnAns w S (D+2+4*s.size) (none)):=by
 obtain⟨ao,cap0,hdv⟩:=zG h.dOwn;subst hdv;have hlS:=h.lt;have HLS:Hid (∀w1,Grew w w1->Keep S S w w1):=fun w1 hk=>hk.lower (Nat.le_of_lt hlS) (Nat.le_of_lt hlS);have HSG:Hid (∀w1,Grew w w1->Sw w1 X S D sh mv (slice ao sh.defs.length cap0) av pv rv ps dp):=fun w1 hk=>h.grown hk;have HTR:=vl fun w1 w2=>zBl (w:=w) (w1:=w1) (w2:=w2);have HCU:=vl (hcut w);have OK:=vl ok;have j4:=Nat.lt_or_ge sh.defs.length 4;have HHD:=vl fun(w1:World) (hk:Grew w w1)=>zC6 w1 X S D sh _ _ av pv rv ps dp (HSG.out w1 hk) (by have:=OK.out.defs;omega) A;have HNM:=vl fun w=>vI w A (by omega);have HRD:=vl fun(w2:World) (hk:Grew w w2)=>jJ w2 X B (slice ao sh.defs.length cap0) (by omega) D sh.defs ((HSG.out w2 hk).defsIn OK.out.names) (by have:=OK.out.defs;omega) OK.out.trees;go_in;rcases K with _|_;rotate_left;rcases j4 with j4|j4;rcases hhd:sh.hasDefB A with _|_;rcases hnm:xF A with _|_;rotate_left;rcases hrm:vK B sh.defs with _|t;rotate_left
 ·exact absurd ⟨rfl,by omega,hhd,hnm,t,hrm⟩ hno
 all_goals
  try rw[hhd] at HHD
  try rw[hnm] at HNM
  try rw[hrm] at HRD
  try have i4:(sh.defs.length:Int)<4:=by omega
  try have i4:(4:Int)<=(sh.defs.length:Int):=by omega
  go_wp2_with (first|(go_at_call 86;refine HCU.out.mono ?_;rintro e w1 ⟨rfl,hk1⟩;have c1b:=(HSG.out w1 hk1).cells.2.1)|(go_at_call 161;refine(HHD.out w1 hk1).mono ?_;rintro e w2 ⟨rfl,hk2⟩;have HK2:=vl (HTR.out _ _ hk1 hk2);have d1:=(HSG.out w2 HK2.out).cells.2.1)|(go_at_call 160;refine(HNM.out _).mono ?_;rintro e w9 ⟨rfl,hw9⟩;have hw8:=hw9.symm;subst hw8)|(go_at_call 162;refine(HRD.out w2 HK2.out).mono ?_;rintro e w3 ⟨hk3,rfl⟩))
  go_ret
  first|exact⟨HLS.out _ (HTR.out _ _ HK2.out hk3),rfl⟩|exact⟨HLS.out _ HK2.out,rfl⟩|exact⟨HLS.out _ hk1,rfl⟩
theorem zOu (w:World)(X:Nat->Prop)(S D:Nat)(sh:Sh)(mv dv av pv:Value)(rv:Nat->Value)(ps:Nat->List Nat)(dp:Nat->Nat)(h:Sw w X S D sh mv dv av pv rv ps dp)(ok:ShOk sh D)(s:ByteArray)(hs:s.size<=1000)(A B:ByteArray)(K:Bool)(hA:A.size<=1000)(hB:B.size<=1000)(hcut:∀w,Calls prog 86 #[string s,int .u8 32] w fun e w'=>e=returned (tuple #[string A,string B,bool K])∧Grew w w')(hBs:B.size<=s.size)(hK:K=true)(h4:¬4<=sh.defs.length)(hhd:sh.hasDefB A=false)(hnm:xF A=true)(t:Tr)(hrm:vK B sh.defs=some t):
  Calls prog 121 #[pointer (some ⟨S,0,none⟩),string s] w (LnAns w S (D+2+4*s.size) (some (sh.addDef A t))):=by
 obtain⟨ao,cap0,hdv⟩:=zG h.dOwn;subst hdv;have hlS:=h.lt;have HLS:Hid (∀w1,Grew w w1->Keep S S w w1):=fun w1 hk=>hk.lower (Nat.le_of_lt hlS) (Nat.le_of_lt hlS);have HSG:Hid (∀w1,Grew w w1->Sw w1 X S D sh mv (slice ao sh.defs.length cap0) av pv rv ps dp):=fun w1 hk=>h.grown hk;have HTR:=vl fun w1 w2=>zBl (w:=w) (w1:=w1) (w2:=w2);have HCU:=vl (hcut w);have OK:=vl ok;subst hK;obtain⟨i0,hi0,hz0,hz1,hz2⟩:=info_parts zNi;have j4:(sh.defs.length:Int)<4:=by omega
 have HHD:Hid (∀w1,Grew w w1->Ca 161 #[pointer (some ⟨S,0,none⟩),string A] w1 fun e w'=>e=returned (bool false)∧Grew w1 w'):=fun w1 hk=>by have:=zC6 w1 X S D sh _ _ av pv rv ps dp (HSG.out w1 hk) (by have:=OK.out.defs;omega) A;rw[hhd] at this;exact this
 have HNM:Hid (∀w,Ca 160 #[string A] w fun e w'=>e=returned (bool true)∧w'=w):=fun w=>by have:=vI w A (by omega);rw[hnm] at this;exact this
 have HRD:Hid (∀w2,Grew w w2->Ca 162 #[string B,slice ao sh.defs.length cap0] w2 (zHm w2 X (D+2+4*B.size) (some t))):=fun w2 hk=>by have:=jJ w2 X B _ (by omega) D sh.defs ((HSG.out w2 hk).defsIn OK.out.names) (by have:=OK.out.defs;omega) OK.out.trees;rw[hrm] at this;exact this
 go_in;apply wp_cut;intro K0 J;go_wp2;apply J.out;apply wp_cut;intro K0 J;go_wp2_with (first|(go_at_call 86;refine HCU.out.mono ?_;rintro e w1 ⟨rfl,hk1⟩;have c1b:=(HSG.out w1 hk1).cells.2.1))
 apply J.out;apply wp_cut;intro K0 J;go_wp2_with (first|(go_at_call 161;refine(HHD.out w1 hk1).mono ?_;rintro e w2 ⟨rfl,hk2⟩)|(go_at_call 160;refine(HNM.out _).mono ?_;rintro e w9 ⟨rfl,hw9⟩;have hw8:=hw9.symm;subst hw8))
 apply J.out;have HK2:=vl <| HTR.out _ _ hk1 hk2;have d1:=(HSG.out w2 HK2.out).cells.2.1;apply wp_cut;intro K0 J;go_wp2_with (first|(go_at_call 162;refine(HRD.out w2 HK2.out).mono ?_;rintro e w3 ⟨hk3,p,rfl,ht3⟩))
 apply J.out;apply wp_cut;intro K0 J;go_wp2;apply J.out;obtain⟨Y,H3⟩:∃Y,Hid (Sw w3 Y S (D+2+4*s.size) sh mv (slice ao sh.defs.length cap0) av pv rv ps dp∧TreeIn Y w3 (D+2+4*s.size) p t∧Keep S S w w3):=by
  refine⟨_,((HSG.out w2 HK2.out).more hk3).deep (by omega),(TreeIn.deep ht3 (by omega)).mono fun i hi hx=>?_,HLS.out _ (HTR.out _ _ HK2.out hk3)⟩;rcases hx with hx|hx
  ·exact .inl hx.1
  ·exact .inr ⟨hx,hi⟩
 obtain⟨-,x1,-,-,xf⟩:=H3.out.1.cells;have xf1:=xf 1;have OW:=H3.out.1.dOwn;have hlt1:=H3.out.1.lt;have HNP:=vl <| zM H3.out.1.dOwn H3.out.1.blk (by decide);apply wp_cut;intro K0 J;go_wp2_with (first|(at_builtin;refine wpList_append_lies _ rfl _ _ 112 rfl (S+1) 233 i0 (agg #[string ⟨#[]⟩,pointer none]) 2 24 underlying112 hi0 hz0 hz1 hz2 rfl (by decide) _ _ _ rfl (OW.alloc _) ⟨w3.heap.size,0,none⟩ 1 1 [string A,pointer (some ⟨p,0,none⟩)] rfl rfl (news_of_block (cs:=#[string A,pointer (some ⟨p,0,none⟩)]) (t:=233) (fr:=(0,0)) (gU w3 _)) (by simp[Value.oneCell']) (by decide) (by unfold maxLen;omega) (by omega) (by simp;omega) _ rfl ?_;intro gg cap w4 hown hgrow hat hlt;have hPB:=hgrow.block S (by simp;omega) HNP.out;have x1b:=(cell?_of_block hPB).trans ((cell?_alloc_past _ _ _ hlt1).trans x1);have xf1b:=(frozen?_of_block hPB).trans ((frozen?_alloc_past _ _ _ hlt1).trans xf1)))
 apply J.out;obtain⟨w5,hw5,H5⟩:∃w5,w5=w4.setCell ⟨S,1,none⟩ (slice (some ⟨gg,0,none⟩) (sh.defs.length+1) cap)∧Hid (SwIs w5 S (D+2+4*s.size) (sh.addDef A t)∧Keep S S w w5):=by
  obtain⟨q1,q2⟩:=H3.out.1.appDef H3.out.2.1 hown hgrow (by rcases hat with ha|ha;exact .inl ha;right;rw[ha];simp);exact⟨_,rfl,⟨Y,mv,_,av,pv,rv,ps,_,q1⟩,H3.out.2.2.trans ((q2.keep H3.out.1.dOwn H3.out.1.lt).lower (Nat.le_succ S) (Nat.le_refl S))⟩
 rw[<-hw5];go_wp2;go_ret;exact⟨H5.out.2,rfl,H5.out.1⟩
theorem zFI (w:World)(X:Nat->Prop)(S D:Nat)(sh:Sh)(mv dv av pv:Value)(rv:Nat->Value)(ps:Nat->List Nat)(dp:Nat->Nat)(h:Sw w X S D sh mv dv av pv rv ps dp)(ok:ShOk sh D)(s:ByteArray)(hs:s.size<=1000):
  Calls prog 121 #[pointer (some ⟨S,0,none⟩),string s] w (LnAns w S (D+2+4*s.size) (vO sh s)):=by
 have hA:=lY (zDI s 32) hs;have hB:=lY (vX s 32) hs;have hcut:∀w,Calls prog 86 #[string s,int .u8 32] w fun e w'=>e=returned (tuple #[string (yN s 32),string (qH s 32),bool (jU s 32)])∧Grew w w':=fun w=>zCe w s (by omega) 32;have no:=zMb w X S D sh mv dv av pv rv ps dp h ok s hs _ _ _ hA hB hcut;unfold vO;cases hK:jU s 32 with
 |false=>exact no fun g=>by rw[hK] at g;exact Bool.noConfusion g.1
 |true=>
 rw[if_pos rfl];by_cases h4:4<=sh.defs.length
 ·rw[if_pos h4]
  exact no fun g=>g.2.1 h4
 rw[if_neg h4];cases hhd:sh.hasDefB (yN s 32) with
 |true=>exact no fun g=>by rw[hhd] at g;exact Bool.noConfusion g.2.2.1
 |false=>
 rw[if_neg (by decide)];cases hnm:xF (yN s 32) with
 |false=>exact no fun g=>by rw[hnm] at g;exact Bool.noConfusion g.2.2.2.1
 |true=>
 rw[if_pos rfl];cases hrm:vK (qH s 32) sh.defs with
 |none=>exact no fun g=>by obtain⟨t,ht⟩:=g.2.2.2.2;rw[hrm] at ht;cases ht
 |some t=>exact zOu w X S D sh mv dv av pv rv ps dp h ok s hs _ _ _ hA hB hcut (vX s 32) hK h4 hhd hnm t hrm
def qW (sh:Sh)(nm s:ByteArray):Option Sh:=
 if jU s 32 then if sh.modes.length=0 then none else if 8<=sh.acts.length then none else if xF nm then(if (zAY (yN s 32)).ok then(match vK (qH s 32) sh.defs with
  |none=>none
  |some t=>some (((sh.addAct (zAY (yN s 32)).act).addPush (zAY (yN s 32)).name).addRule (sh.modes.length-1) t)) else none) else none else none
theorem zHS (w:World)(X:Nat->Prop)(S D:Nat)(sh:Sh)(mv dv av pv:Value)(rv:Nat->Value)(ps:Nat->List Nat)(dp:Nat->Nat)(h:Sw w X S D sh mv dv av pv rv ps dp)(ok:ShOk sh D)(nm s:ByteArray)(hs:s.size<=1000)(hnz:nm.size<=1000)(A B:ByteArray)(K:Bool)(hA:A.size<=1000)(hB:B.size<=1000)(hcut:∀w,Calls prog 86 #[string s,int .u8 32] w fun e w'=>e=returned (tuple #[string A,string B,bool K])∧Grew w w')(hno:¬(K=true∧¬sh.modes.length=0∧¬8<=sh.acts.length∧xF nm=true∧(zAY A).ok=true∧∃t,vK B sh.defs=some t)):
  Calls prog 122 #[pointer (some ⟨S,0,none⟩),string nm,string s] w (LnAns w S (D+2+4*s.size) (none)):=by
 obtain⟨am,cm,hmv⟩:=zG h.mOwn;obtain⟨ad,cd,hdv⟩:=zG h.dOwn;obtain⟨aa,ca,hav⟩:=zG h.aOwn;obtain⟨ap,cp,hpv⟩:=zG h.pOwn;subst hmv hdv hav hpv;have hlS:=h.lt;have HLS:Hid (∀w1,Grew w w1->Keep S S w w1):=fun w1 hk=>hk.lower (Nat.le_of_lt hlS) (Nat.le_of_lt hlS);have HSG:Hid (∀w1,Grew w w1->Sw w1 X S D sh (slice am sh.modes.length cm) (slice ad sh.defs.length cd) (slice aa sh.acts.length ca) (slice ap sh.pushed.length cp) rv ps dp):=fun w1 hk=>h.grown hk;have HTR:=vl fun w1 w2=>zBl (w:=w) (w1:=w1) (w2:=w2);have HCU:=vl (hcut w);have OK:=vl ok;have hmb:=ok.modes;have hab:=ok.acts;have j0:=Nat.eq_zero_or_pos sh.modes.length;have j8:=Nat.lt_or_ge sh.acts.length 8;have HNM:=vl fun w=>vI w nm (by omega);have HAC:=vl fun w=>zCh w A (by omega);have HRD:=vl fun(w2:World) (hk:Grew w w2)=>jJ w2 X B (slice ad sh.defs.length cd) (by omega) D sh.defs ((HSG.out w2 hk).defsIn OK.out.names) (by have:=OK.out.defs;omega) OK.out.trees;generalize zAY A=ac at *;go_in;rcases K with _|_;rotate_left;rcases j0 with j0|j0;rotate_left;rcases j8 with j8|j8;rcases hnm:xF nm with _|_;rotate_left;rcases hok:ac.ok with _|_;rcases hrm:vK B sh.defs with _|t;rotate_left 2;rcases hrm:vK B sh.defs with _|t;rotate_left
 ·exact absurd ⟨rfl,by omega,by omega,hnm,hok,t,hrm⟩ hno
 all_goals
  try rw[hnm] at HNM
  try rw[hok] at HAC
  try rw[hrm] at HRD
  try have i0:((sh.modes.length:Int)-1)<0:=by omega
  try have i0:¬((sh.modes.length:Int)-1)<0:=by omega
  try have i8:(sh.acts.length:Int)<8:=by omega
  try have i8:(8:Int)<=(sh.acts.length:Int):=by omega
  go_wp2_with (first|(go_at_call 86;refine HCU.out.mono ?_;rintro e w1 ⟨rfl,hk1⟩;have c0b:=(HSG.out w1 hk1).cells.1;have c2b:=(HSG.out w1 hk1).cells.2.2.1)|(go_at_call 160;refine(HNM.out _).mono ?_;rintro e w9 ⟨rfl,hw9⟩;have hw8:=hw9.symm;subst hw8)|(go_at_call 163;refine(HAC.out w1).mono ?_;rintro e w2 ⟨rfl,hk2⟩;have HK2:=vl <| HTR.out _ _ hk1 hk2;have d1:=(HSG.out w2 HK2.out).cells.2.1)|(go_at_call 162;refine(HRD.out w2 HK2.out).mono ?_;first|rintro e w3 ⟨hk3,rfl⟩|rintro e w3 ⟨hk3,p,rfl,ht3⟩))
  go_ret
  first|exact⟨HLS.out _ (HTR.out _ _ HK2.out hk3),rfl⟩|exact⟨HLS.out _ hk1,rfl⟩
section
attribute [local go_sem ↓] Go.wp_at_zero Go.wp_at_succ
theorem zNY (w:World)(X:Nat->Prop)(S D:Nat)(sh:Sh)(mv dv av pv:Value)(rv:Nat->Value)(ps:Nat->List Nat)(dp:Nat->Nat)(h:Sw w X S D sh mv dv av pv rv ps dp)(ok:ShOk sh D)(nm s:ByteArray)(hs:s.size<=1000)(hnz:nm.size<=1000)(A B:ByteArray)(K:Bool)(hA:A.size<=1000)(hB:B.size<=1000)(hcut:∀w,Calls prog 86 #[string s,int .u8 32] w fun e w'=>e=returned (tuple #[string A,string B,bool K])∧Grew w w')(hBs:B.size<=s.size)(hK:K=true)(k:Nat)(hk:sh.modes.length=k+1)(hrb:(sh.mode k).2.length<=1000000)(h8:¬8<=sh.acts.length)(hnm:xF nm=true)(ac:Ac)(hac:zAY A=ac)(hok:ac.ok=true)(t:Tr)(hrm:vK B sh.defs=some t):
  Calls prog 122 #[pointer (some ⟨S,0,none⟩),string nm,string s] w (LnAns w S (D+2+4*s.size) (some (((sh.addAct ac.act).addPush ac.name).addRule k t))):=by
 obtain⟨am,cm,hmv⟩:=zG h.mOwn;obtain⟨ad,cd,hdv⟩:=zG h.dOwn;obtain⟨aa,ca,hav⟩:=zG h.aOwn;obtain⟨ap,cp,hpv⟩:=zG h.pOwn;subst hmv hdv hav hpv;have hlS:S<w.heap.size:=h.lt;have HLS:Hid (∀w1,Grew w w1->Keep S S w w1):=fun w1 hk=>hk.lower (Nat.le_of_lt hlS) (Nat.le_of_lt hlS);have HSG:Hid (∀w1,Grew w w1->Sw w1 X S D sh (slice am sh.modes.length cm) (slice ad sh.defs.length cd) (slice aa sh.acts.length ca) (slice ap sh.pushed.length cp) rv ps dp):=fun w1 hk=>h.grown hk;have HTR:=vl fun w1 w2=>zBl (w:=w) (w1:=w1) (w2:=w2);have HCU:=vl (hcut w);have OK:=vl ok;have hmb:=ok.modes;have hab:=ok.acts;subst hK;have j0:¬((k:Int))<0:=by omega
 have HEK:Hid (((sh.modes.length:Int)-1)=(k:Int)):=by show _=_;omega
 have hkl:k<sh.modes.length:=by omega
 have i2:(k:Int)<(sh.modes.length:Int):=by omega
 have HPO:Hid (0<sh.modes.length):=by show 0<_;omega
 clear hk;obtain⟨i0,hi0,hz0,hz1,hz2⟩:=info_parts yJ;have j8:(sh.acts.length:Int)<8:=by omega
 clear h8;have HNM:Hid (∀w,Ca 160 #[string nm] w fun e w'=>e=returned (bool true)∧w'=w):=fun w=>by have:=vI w nm (by omega);rw[hnm] at this;exact this
 have HAC:Hid (∀w,Ca 163 #[string A] w fun e w'=>e=returned (tuple #[int i64 (ac.act:Int),string ac.name,bool true])∧Grew w w'):=fun w=>by have:=zCh w A (by omega);rw[hac,hok] at this;exact this
 have HRD:Hid (∀w2,Grew w w2->Ca 162 #[string B,slice ad sh.defs.length cd] w2 (zHm w2 X (D+2+4*B.size) (some t))):=fun w2 hk=>by have:=jJ w2 X B _ (by omega) D sh.defs ((HSG.out w2 hk).defsIn OK.out.names) (by have:=OK.out.defs;omega) OK.out.trees;rw[hrm] at this;exact this
 clear hnm hac hok hrm;clear h hlS hcut ok;go_in;apply wp_cut;intro K0 J;go_wp2;apply J.out;clear J;apply wp_cut;intro K0 J;go_wp2_with (first|(go_at_call 86;refine HCU.out.mono ?_;rintro e w1 ⟨rfl,hk1⟩;have c0b:w1.cell? ⟨S,0,none⟩=some (slice am sh.modes.length cm):=(HSG.out w1 hk1).cells.1;have c2b:w1.cell? ⟨S,2,none⟩=some (slice aa sh.acts.length ca):=(HSG.out w1 hk1).cells.2.2.1))
 apply J.out;clear J;apply wp_cut;intro K0 J;go_wp2;apply J.out;clear J;rw[HEK.out];apply wp_cut;intro K0 J;go_wp2_with (first|(go_at_call 160;refine(HNM.out _).mono ?_;rintro e w9 ⟨rfl,hw9⟩;have hw8:=hw9.symm;subst hw8))
 apply J.out;clear J;apply wp_cut;intro K0 J;go_wp2_with (first|(go_at_call 163;refine(HAC.out w1).mono ?_;rintro e w2 ⟨rfl,hk2⟩;have HK2:=vl <| HTR.out _ _ hk1 hk2;have d1:w2.cell? ⟨S,1,none⟩=some (slice ad sh.defs.length cd):=(HSG.out w2 HK2.out).cells.2.1))
 apply J.out;clear J;clear c0b c2b hk1 hk2;apply wp_cut;intro K0 J;go_wp2_with (first|(go_at_call 162;refine(HRD.out w2 HK2.out).mono ?_;rintro e w3 ⟨hk3,p,rfl,ht3⟩))
 apply J.out;clear J;apply wp_cut;intro K0 J;go_wp2;apply J.out;clear J;obtain⟨Y,H3⟩:∃Y,Hid (Sw w3 Y S (D+2+4*s.size) sh (slice am sh.modes.length cm) (slice ad sh.defs.length cd) (slice aa sh.acts.length ca) (slice ap sh.pushed.length cp) rv ps dp∧TreeIn Y w3 (D+2+4*s.size) p t∧Keep S S w w3):=by
  refine⟨_,((HSG.out w2 HK2.out).more hk3).deep (by omega),(TreeIn.deep ht3 (by omega)).mono fun i hi hx=>?_,HLS.out _ (HTR.out _ _ HK2.out hk3)⟩;rcases hx with hx|hx
  ·exact .inl hx.1
  ·exact .inr ⟨hx,hi⟩
 clear d1 hk3 ht3;obtain⟨-,-,xx,-,xf⟩:=H3.out.1.cells;have xf2:=xf 2;have OW:w3.ownsRow (S+1) 3 1 (slice aa sh.acts.length ca) sh.acts.length (sh.acts.map fun x:Nat=>int i64 (x:Int)):=H3.out.1.aOwn;have hlt1:S<w3.heap.size:=H3.out.1.lt;have HNP:=vl <| zM H3.out.1.aOwn H3.out.1.blk (by decide);clear xf;apply wp_cut;intro K0 J;go_wp2_with (first|(at_builtin;refine wpList_append_lies _ rfl _ _ 45 rfl (S+1) 3 i0 (int i64 0) 1 8 underlying45 hi0 hz0 hz1 hz2 rfl (by decide) _ _ _ rfl (OW.alloc _) ⟨w3.heap.size,0,none⟩ 1 1 [int i64 (ac.act:Int)] rfl rfl (cell_one_new _ _ _) (by intro u hu;simp at hu;subst hu;rfl) (by decide) (by unfold maxLen;omega) (by omega) (by simp;omega) _ rfl ?_;intro gg cap w4 hown hgrow hat hlt;have hPB:=hgrow.block S (by simp;omega) HNP.out;have xxb:w4.cell? ⟨S,2,none⟩=some (slice aa sh.acts.length ca):=(cell?_of_block hPB).trans ((cell?_alloc_past _ _ _ hlt1).trans xx);have xfb:w4.frozen? ⟨S,2,none⟩=false:=(frozen?_of_block hPB).trans ((frozen?_alloc_past _ _ _ hlt1).trans xf2)))
 apply J.out;clear J;obtain⟨w5,hw5,v5,H5⟩:∃w5,w5=w4.setCell ⟨S,2,none⟩ (slice (some ⟨gg,0,none⟩) (sh.acts.length+1) cap)∧∃v5,Hid (Sw w5 Y S (D+2+4*s.size) (sh.addAct ac.act) (slice am sh.modes.length cm) (slice ad sh.defs.length cd) v5 (slice ap sh.pushed.length cp) rv ps dp∧TreeIn Y w5 (D+2+4*s.size) p t∧Keep S S w w5):=by
  obtain⟨q1,q2⟩:=H3.out.1.appAct (x:=ac.act) hown hgrow (by rcases hat with ha|ha;exact .inl ha;right;rw[ha];simp);exact⟨_,rfl,_,q1,vT q2 H3.out.2.1 (fun q hq=>⟨Nat.ne_of_gt (H3.out.1.xlt q hq).1,(H3.out.1.xm q hq).2.2.1⟩),H3.out.2.2.trans ((q2.keep H3.out.1.aOwn H3.out.1.lt).lower (Nat.le_succ S) (Nat.le_refl S))⟩
 rw[<-hw5];clear hw5 hown hgrow hat hlt hPB xxb xfb OW HNP hlt1 xx xf2 H3;obtain⟨-,-,-,xx,xf⟩:=H5.out.1.cells;have xf2:=xf 3;have OW:w5.ownsRow (S+1) 9 1 (slice ap sh.pushed.length cp) sh.pushed.length (sh.pushed.map fun x=>string x):=H5.out.1.pOwn;have hlt1:S<w5.heap.size:=H5.out.1.lt;have HNP:=vl <| zM H5.out.1.pOwn H5.out.1.blk (by decide);have hpb:sh.pushed.length<=8:=by have:=OK.out.same;omega
 clear xf;obtain⟨i0,hi0,hz0,hz1,hz2⟩:=info_parts zJ7;apply wp_cut;intro K0 J;go_wp2_with (first|(at_builtin;refine wpList_append_lies _ rfl _ _ 108 rfl (S+1) 9 i0 (string ⟨#[]⟩) 1 16 underlying108 hi0 hz0 hz1 hz2 rfl (by decide) _ _ _ rfl (OW.alloc _) ⟨w5.heap.size,0,none⟩ 1 1 [string ac.name] rfl rfl (cell_one_new _ _ _) (by intro u hu;simp at hu;subst hu;rfl) (by decide) (by unfold maxLen;omega) (by omega) (by simp;omega) _ rfl ?_;intro gg cap w4 hown hgrow hat hlt;have hPB:=hgrow.block S (by simp;omega) HNP.out;have xxb:w4.cell? ⟨S,3,none⟩=some (slice ap sh.pushed.length cp):=(cell?_of_block hPB).trans ((cell?_alloc_past _ _ _ hlt1).trans xx);have xfb:w4.frozen? ⟨S,3,none⟩=false:=(frozen?_of_block hPB).trans ((frozen?_alloc_past _ _ _ hlt1).trans xf2)))
 apply J.out;clear J;obtain⟨w7,hw7,v7,H7⟩:∃w7,w7=w4.setCell ⟨S,3,none⟩ (slice (some ⟨gg,0,none⟩) (sh.pushed.length+1) cap)∧∃v7,Hid (Sw w7 Y S (D+2+4*s.size) ((sh.addAct ac.act).addPush ac.name) (slice am sh.modes.length cm) (slice ad sh.defs.length cd) v5 v7 rv ps dp∧TreeIn Y w7 (D+2+4*s.size) p t∧Keep S S w w7):=by
  obtain⟨q1,q2⟩:=H5.out.1.appPush (x:=ac.name) hown hgrow (by rcases hat with ha|ha;exact .inl ha;right;rw[ha];simp);exact⟨_,rfl,_,q1,vT q2 H5.out.2.1 (fun q hq=>⟨Nat.ne_of_gt (H5.out.1.xlt q hq).1,(H5.out.1.xm q hq).2.2.2⟩),H5.out.2.2.trans ((q2.keep H5.out.1.pOwn H5.out.1.lt).lower (Nat.le_succ S) (Nat.le_refl S))⟩
 rw[<-hw7];clear hw7 hown hgrow hat hlt hPB xxb xfb OW HNP hlt1 xx xf2 H5 hi0 hz0 hz1 hz2;obtain⟨i1,hi1,hy0,hy1,hy2⟩:=info_parts zDC;obtain⟨mg,mc,hmv2,-,hmgl,-,-,hcl,hfz⟩:=qL H7.out.1.mOwn (show 0<((sh.addAct ac.act).addPush ac.name).modes.length from HPO.out);injection hmv2 with ea eb ec;subst ea ec;clear eb;obtain⟨ra,rc,hrv⟩:=zG (H7.out.1.rOwn k hkl);have y1:w7.cell? ⟨mg,k*2+1,none⟩=some (slice ra (sh.mode k).2.length rc):=by
  have e2:=(zA1 (fun i=>string (((sh.addAct ac.act).addPush ac.name).mode i).1) rv sh.modes.length k hkl).2;rw[hrv] at e2;exact hcl _ _ e2
 have yf:=hfz (k*2+1);obtain⟨x0,-,-,-,-⟩:=H7.out.1.cells;have OR:=H7.out.1.rOwn k hkl;rw[hrv] at OR;have OW:w7.ownsRow (S+1) 158 1 (slice ra (sh.mode k).2.length rc) (sh.mode k).2.length (xT (ps k)):=OR;have HNM2:=vl <| zZ H7.out.1.mOwn OW (by decide) mg rfl;have HRV:Hid (rv k=slice ra (sh.mode k).2.length rc):=hrv;have hrl:(sh.mode k).2.length<=1000000:=hrb;have hlt7:mg<w7.heap.size:=hmgl;have hS7:S+1<=w7.heap.size:=H7.out.1.lt;clear hcl hfz hrv OR hmgl;generalize hrL:(sh.mode k).2.length=rl at *;have hSr:some S≠(Value.slice ra rl rc).ownBlock:=fun e=>by have:=(OW.lt S e.symm).1;omega
 have HSR:Hid (some S≠(Value.slice ra rl rc).ownBlock):=hSr;have hS8:S<w7.heap.size:=by omega
 clear hSr;have HFIN:Hid (∀gg cap w8,w8.ownsRow (S+1) 158 1 (slice (some ⟨gg,0,none⟩) (rl+1) cap) (rl+1) (xT (ps k)++[pointer (some ⟨p,0,none⟩)])->(w7.drew.alloc (Obj.cells #[pointer (some ⟨p,0,none⟩)] 158)).grownBy w8 (Value.slice ra rl rc).ownBlock->((Value.slice ra rl rc).ownBlock=some gg∨w7.heap.size<=gg)->SwIs (w8.setCell ⟨mg,k*2+1,none⟩ (slice (some ⟨gg,0,none⟩) (rl+1) cap)) S (D+2+4*s.size) (((sh.addAct ac.act).addPush ac.name).addRule k t)∧Keep S S w (w8.setCell ⟨mg,k*2+1,none⟩ (slice (some ⟨gg,0,none⟩) (rl+1) cap))):=fun gg cap w8 ho hg ha=>by
  subst hrL;rw[<-HRV.out] at hg ha;have hmS:=(H7.out.1.mOwn.lt mg rfl).1;obtain⟨q1,q2⟩:=Sw.appRule (w:=w7.drew) (sh:=(sh.addAct ac.act).addPush ac.name) (H7.out.1.grown (Keep.drew _)) hkl (H7.out.2.1.go ⟨rfl,rfl,lQ,fun _ _ _=>rfl⟩) ho hg ha;refine⟨⟨Y,_,_,v5,v7,_,_,dp,q1⟩,H7.out.2.2.trans ⟨q2.os,q2.output,q2.size,fun j h1 _=>?_⟩⟩;exact(q2.block j (by show j<w7.heap.size;omega) (by omega) fun e=>by have:=((H7.out.1.rOwn k hkl).lt j e.symm).1;omega).1
 apply wp_cut;intro K0 J;go_region_law ((refine step_append_lies _ (by rfl) (.tmp 100) (.tmp 102) 118 (by rfl) (S+1) 158 i1 _ 1 8 underlying118 hi1 hy0 hy1 hy2 rfl (by decide) (slice ra rl rc) rl (xT (ps k)) (by simp[Act.eval,Act.put]) ((OW.alloc _).drew) ⟨w7.heap.size,0,none⟩ 1 1 [pointer (some ⟨p,0,none⟩)] (by simp[Act.eval,Act.put]) (by rfl) (news_of_block (cs:=#[pointer (some ⟨p,0,none⟩)]) (t:=158) (fr:=(0,0)) (gU w7 _)) (by simp[Value.oneCell']) (by decide) (by unfold maxLen;omega) (by omega) (by simp;omega) (w7.heap.size+1) (by simp) ?_;intro gg cap w8 hown hgrow hat hlt;have hPB:=hgrow.block mg (by simp;omega) HNM2.out;have y1b:w8.cell? ⟨mg,k*2+1,none⟩=some (slice ra rl rc):=(cell?_of_block hPB).trans ((cell?_alloc_past _ _ _ hlt7).trans y1);have yfb:w8.frozen? ⟨mg,k*2+1,none⟩=false:=(frozen?_of_block hPB).trans ((frozen?_alloc_past _ _ _ hlt7).trans yf);have hPS:=hgrow.block S (by simp;omega) HSR.out;have x0b:w8.cell? ⟨S,0,none⟩=some (slice (some ⟨mg,0,none⟩) sh.modes.length cm):=(cell?_of_block hPS).trans ((cell?_alloc_past _ _ _ hS8).trans x0)))
 all_goals
  obtain⟨w9,hw9,H9⟩:∃w9,w9=w8.setCell ⟨mg,k*2+1,none⟩ (slice (some ⟨gg,0,none⟩) (rl+1) cap)∧Hid (SwIs w9 S (D+2+4*s.size) (((sh.addAct ac.act).addPush ac.name).addRule k t)∧Keep S S w w9):=⟨_,rfl,HFIN.out gg cap w8 hown hgrow (by rcases hat with ha|ha;exact .inl ha;right;show w7.heap.size<=gg;omega)⟩
  rw[<-hw9];clear hw9 hown hgrow hat hlt hPB y1b yfb hPS x0b;show K0 _ _;apply J.out;clear J;go_wp2;go_ret;exact⟨H9.out.2,rfl,H9.out.1⟩
theorem zES (w:World)(X:Nat->Prop)(S D:Nat)(sh:Sh)(mv dv av pv:Value)(rv:Nat->Value)(ps:Nat->List Nat)(dp:Nat->Nat)(h:Sw w X S D sh mv dv av pv rv ps dp)(ok:ShOk sh D)(hrb:∀k,k<sh.modes.length->(sh.mode k).2.length<=1000000)(nm s:ByteArray)(hs:s.size<=1000)(hnz:nm.size<=1000):
  Calls prog 122 #[pointer (some ⟨S,0,none⟩),string nm,string s] w (LnAns w S (D+2+4*s.size) (qW sh nm s)):=by
 have hA:=lY (zDI s 32) hs;have hB:=lY (vX s 32) hs;have hcut:∀w,Calls prog 86 #[string s,int .u8 32] w fun e w'=>e=returned (tuple #[string (yN s 32),string (qH s 32),bool (jU s 32)])∧Grew w w':=fun w=>zCe w s (by omega) 32;have no:=zHS w X S D sh mv dv av pv rv ps dp h ok nm s hs hnz _ _ _ hA hB hcut;unfold qW;cases hK:jU s 32 with
 |false=>exact no fun g=>by rw[hK] at g;exact Bool.noConfusion g.1
 |true=>
 rw[if_pos rfl];by_cases h0:sh.modes.length=0
 ·rw[if_pos h0]
  exact no fun g=>g.2.1 h0
 rw[if_neg h0];by_cases h8:8<=sh.acts.length
 ·rw[if_pos h8]
  exact no fun g=>g.2.2.1 h8
 rw[if_neg h8];cases hnm:xF nm with
 |false=>exact no fun g=>by rw[hnm] at g;exact Bool.noConfusion g.2.2.2.1
 |true=>
 rw[if_pos rfl];cases hok:(zAY (yN s 32)).ok with
 |false=>exact no fun g=>by rw[hok] at g;exact Bool.noConfusion g.2.2.2.2.1
 |true=>
  rw[if_pos rfl];cases hrm:vK (qH s 32) sh.defs with
  |none=>exact no fun g=>by obtain⟨t,ht⟩:=g.2.2.2.2.2;rw[hrm] at ht;cases ht
  |some t=>exact zNY w X S D sh mv dv av pv rv ps dp h ok nm s hs hnz _ _ _ hA hB hcut (vX s 32) hK (sh.modes.length-1) (by omega) (hrb _ (by omega)) h8 hnm _ rfl hok t hrm
end
def xV (sh:Sh)(s:ByteArray):Option Sh:=if jU s 32 then(if eqS (yN s 32) ⟨#[109,111,100,101]⟩ then yI sh (qH s 32) else if eqS (yN s 32) ⟨#[108,101,116]⟩ then vO sh (qH s 32) else qW sh (yN s 32) (qH s 32)) else none
def vQ (sh:Sh):Prop:=∀i,i<sh.modes.length->(sh.mode i).2.length<=sh.acts.length
theorem SwIs.deep {w:World}{S D E:Nat}{sh:Sh}(h:SwIs w S D sh)(he:D<=E):SwIs w S E sh:=by
 obtain⟨X,mv,dv,av,pv,rv,ps,dp,h⟩:=h;exact⟨X,mv,dv,av,pv,rv,ps,dp,h.deep he⟩
theorem LnAns.deep {w w':World}{S D E:Nat}{a:Option Sh}{e:Ending}(h:LnAns w S D a e w')(he:D<=E):LnAns w S E a e w':=by
 refine⟨h.1,?_⟩;cases a with
 |none=>exact h.2
 |some sh=>exact⟨h.2.1,h.2.2.deep he⟩
theorem LnAns.from {w w1 w':World}{S D:Nat}{a:Option Sh}{e:Ending}(h:LnAns w1 S D a e w')(hk:Keep S S w w1):LnAns w S D a e w':=⟨hk.trans h.1,h.2⟩
theorem zEU (w:World)(X:Nat->Prop)(S D:Nat)(sh:Sh)(mv dv av pv:Value)(rv:Nat->Value)(ps:Nat->List Nat)(dp:Nat->Nat)(h:Sw w X S D sh mv dv av pv rv ps dp)(ok:ShOk sh D)(few:vQ sh)(s:ByteArray)(hs:s.size<=1000):
  Calls prog 87 #[pointer (some ⟨S,0,none⟩),string s] w (LnAns w S (D+2+4*s.size) (xV sh s)):=by
 have hA:=lY (zDI s 32) hs;have hBs:=vX s 32;have hB:=lY hBs hs;have HCU:=vl <| zCe w s (by omega) 32;have HM:Hid (xV sh s=if jU s 32 then(if eqS (yN s 32) ⟨#[109,111,100,101]⟩ then yI sh (qH s 32) else if eqS (yN s 32) ⟨#[108,101,116]⟩ then vO sh (qH s 32) else qW sh (yN s 32) (qH s 32)) else none):=rfl;have hlS:=h.lt;have HLS:Hid (∀w1,Grew w w1->Keep S S w w1):=fun w1 hk=>hk.lower (Nat.le_of_lt hlS) (Nat.le_of_lt hlS);generalize xV sh s=V at *;generalize jU s 32=K at *;have HMO:Hid (∀w1,Grew w w1->Ca 120 #[pointer (some ⟨S,0,none⟩),string (qH s 32)] w1 (LnAns w S (D+2+4*s.size) (yI sh (qH s 32)))):=fun w1 hk=>(zET w1 X S D sh _ _ _ _ rv ps dp (h.grown hk) (by have:=ok.modes;omega) (qH s 32) (by omega)).mono fun e w2 h2=>(h2.from (HLS.out w1 hk)).deep (by omega);have HLE:Hid (∀w1,Grew w w1->Ca 121 #[pointer (some ⟨S,0,none⟩),string (qH s 32)] w1 (LnAns w S (D+2+4*s.size) (vO sh (qH s 32)))):=fun w1 hk=>(zFI w1 X S D sh _ _ _ _ rv ps dp (h.grown hk) ok (qH s 32) hB).mono fun e w2 h2=>(h2.from (HLS.out w1 hk)).deep (by omega);have HRU:Hid (∀w1,Grew w w1->Ca 122 #[pointer (some ⟨S,0,none⟩),string (yN s 32),string (qH s 32)] w1 (LnAns w S (D+2+4*s.size) (qW sh (yN s 32) (qH s 32)))):=fun w1 hk=>(zES w1 X S D sh _ _ _ _ rv ps dp (h.grown hk) ok (fun k hkk=>by have:=few k hkk;have:=ok.acts;omega) (yN s 32) (qH s 32) hB hA).mono fun e w2 h2=>(h2.from (HLS.out w1 hk)).deep (by omega);generalize yN s 32=A at *;generalize qH s 32=B at *;have hm:(⟨#[109,111,100,101]⟩:ByteArray).toList=[109,111,100,101]:=by rw[ByteArray.toList_eq]
 have hl:(⟨#[108,101,116]⟩:ByteArray).toList=[108,101,116]:=by rw[ByteArray.toList_eq]
 cases K with
 |false=>
  have HV:=vl HM.out;rw[HV.out];go_in;go_wp2_with (first|(go_at_call 86;refine HCU.out.mono ?_;rintro e w1 ⟨rfl,hk1⟩))
  go_ret;exact⟨HLS.out _ hk1,rfl⟩
 |true=>
 cases e1:eqS A ⟨#[109,111,100,101]⟩ with
 |true=>
  rw[e1] at HM;have HV:=vl HM.out;have f1:(A.toList==[109,111,100,101])=true:=by rw[<-hm];exact e1
  rw[HV.out];generalize yI sh B=R at *;go_in;go_wp2_with (first|(go_at_call 86;refine HCU.out.mono ?_;rintro e w1 ⟨rfl,hk1⟩)|(go_at_call 120;refine(HMO.out w1 hk1).mono ?_;intro e w2 h2;obtain⟨v2,hv2⟩:∃v2,e=returned (bool v2):=(by have:=h2.2;cases R with|none=>exact⟨false,this⟩|some x=>exact⟨true,this.1⟩);subst hv2))
  go_ret;exact h2
 |false=>
 have f1:(A.toList==[109,111,100,101])=false:=by rw[<-hm];exact e1
 rw[e1] at HM;cases e2:eqS A ⟨#[108,101,116]⟩ with
 |true=>
  rw[e2] at HM;have HV:=vl HM.out;have f2:(A.toList==[108,101,116])=true:=by rw[<-hl];exact e2
  rw[HV.out];generalize vO sh B=R at *;go_in;go_wp2_with (first|(go_at_call 86;refine HCU.out.mono ?_;rintro e w1 ⟨rfl,hk1⟩)|(go_at_call 121;refine(HLE.out w1 hk1).mono ?_;intro e w2 h2;obtain⟨v2,hv2⟩:∃v2,e=returned (bool v2):=(by have:=h2.2;cases R with|none=>exact⟨false,this⟩|some x=>exact⟨true,this.1⟩);subst hv2))
  go_ret;exact h2
 |false=>
  rw[e2] at HM;have HV:=vl HM.out;have f2:(A.toList==[108,101,116])=false:=by rw[<-hl];exact e2
  rw[HV.out];generalize qW sh A B=R at *;go_in;go_wp2_with (first|(go_at_call 86;refine HCU.out.mono ?_;rintro e w1 ⟨rfl,hk1⟩)|(go_at_call 122;refine(HRU.out w1 hk1).mono ?_;intro e w2 h2;obtain⟨v2,hv2⟩:∃v2,e=returned (bool v2):=(by have:=h2.2;cases R with|none=>exact⟨false,this⟩|some x=>exact⟨true,this.1⟩);subst hv2))
  go_ret;exact h2
theorem zHO {s:ByteArray}{D:Nat}{defs:List (ByteArray×Tr)}{t:Tr}(hs:s.size<=1048576)(hd:zAZ D defs)(h:vK s defs=some t):TrOk (D+2+4*s.size) t:=by
 unfold vK at h;cases hm:zBo s defs 8 0 false with
 |none=>rw[hm] at h;cases h
 |some g=>
  obtain⟨u,q⟩:=g;rw[hm] at h;have h2:(if q=s.size then some u else none)=some t:=h;split at h2
  ·rename_i e
   have e1:=hU h2;obtain⟨-,-,hk⟩:=jT hs hd 8 false 0 u q hm;rw[<-e1,<-e];exact hk
  ·cases h2
theorem ShOk.deep {sh:Sh}{D E:Nat}(h:ShOk sh D)(he:D<=E):ShOk sh E:=⟨h.modes,h.defs,h.acts,h.same,h.names,fun d hd=>(h.trees d hd).deep he,fun i hi t ht=>(h.rules i hi t ht).deep he⟩
theorem zJg {s:ByteArray}(h:xF s=true):s.size<=6:=by
 unfold xF at h;rw[Bool.and_eq_true,Bool.and_eq_true] at h;exact of_decide_eq_true h.2.1
theorem zHN {sh sh':Sh}{nm:ByteArray}{D:Nat}(h:yI sh nm=some sh')(ok:ShOk sh D)(few:vQ sh):ShOk sh' D∧vQ sh':=by
 unfold yI at h;split at h
 ·cases h
 split at h
 ·cases h
 split at h
 ·rename_i h3 _ _
  have e:=hU h;subst e;have hl:=vZ sh nm;refine⟨⟨by omega,ok.defs,ok.acts,ok.same,ok.names,ok.trees,fun i hi t ht=>?_⟩,fun i hi=>?_⟩
  ·by_cases e:i=sh.modes.length
   ·subst e;rw[zAi] at ht;cases ht
   ·rw[zAh sh nm i (by omega)] at ht;exact ok.rules i (by omega) t ht
  ·by_cases e:i=sh.modes.length
   ·subst e;rw[zAi];exact lX
   ·rw[zAh sh nm i (by omega)];exact few i (by omega)
 ·cases h
theorem zI6 {sh sh':Sh}{s:ByteArray}{D:Nat}(h:vO sh s=some sh')(hs:s.size<=1000)(ok:ShOk sh D)(few:vQ sh):ShOk sh' (D+2+4*s.size)∧vQ sh':=by
 have hBs:=vX s 32;unfold vO at h;split at h
 ·split at h
  ·cases h
  split at h
  ·cases h
  split at h
  ·rename_i h4 _ hn
   cases hr:vK (qH s 32) sh.defs with
   |none=>rw[hr] at h;cases h
   |some t=>
    rw[hr] at h;have e:=hU h;subst e;have hl:=zCK sh (yN s 32) t;have ht:=(zHO (by omega) ok.trees hr).deep (show _<=D+2+4*s.size by omega);have ok2:=ok.deep (show D<=D+2+4*s.size by omega);refine⟨⟨ok2.modes,by omega,ok2.acts,ok2.same,fun i hi=>?_,fun d hd=>?_,ok2.rules⟩,few⟩
    ·by_cases e:i=sh.defs.length
     ·subst e;rw[zCJ];exact zJg hn
     ·rw[zCI sh _ t i (by omega)];exact ok.names i (by omega)
    ·have hd2:=hd
     rcases kU.1 hd2 with h1|h1
     ·exact ok2.trees d h1
     ·rw[kY.1 h1];exact ht
  ·cases h
 ·cases h
theorem zHM {sh sh':Sh}{nm s:ByteArray}{D:Nat}(h:qW sh nm s=some sh')(hs:s.size<=1000)(ok:ShOk sh D)(few:vQ sh):ShOk sh' (D+2+4*s.size)∧vQ sh':=by
 have hBs:=vX s 32;unfold qW at h;split at h
 ·split at h
  ·cases h
  split at h
  ·cases h
  split at h
  ·split at h
   ·rename_i h0 h8 _ _
    cases hr:vK (qH s 32) sh.defs with
    |none=>rw[hr] at h;cases h
    |some t=>
     rw[hr] at h;have e:=hU h;subst e;have ht:=(zHO (by omega) ok.trees hr).deep (show _<=D+2+4*s.size by omega);have ok2:=ok.deep (show D<=D+2+4*s.size by omega);generalize (zAY (yN s 32))=ac at *;have hkl:sh.modes.length-1<sh.modes.length:=by omega
     have hl:=zD7 ((sh.addAct ac.act).addPush ac.name) (sh.modes.length-1) t;have hl2:((sh.addAct ac.act).addPush ac.name).modes.length=sh.modes.length:=rfl;have hal:(((sh.addAct ac.act).addPush ac.name).addRule (sh.modes.length-1) t).acts.length=sh.acts.length+1:=by show(sh.acts++[ac.act]).length=_;rw[kX];rfl
     have hpl:(((sh.addAct ac.act).addPush ac.name).addRule (sh.modes.length-1) t).pushed.length=sh.pushed.length+1:=by show(sh.pushed++[ac.name]).length=_;rw[kX];rfl
     have hnew:=zAT ((sh.addAct ac.act).addPush ac.name) (sh.modes.length-1) t hkl;refine⟨⟨by have:=ok.modes;omega,ok2.defs,by omega,by have:=ok.same;omega,ok2.names,ok2.trees,fun i hi u hu=>?_⟩,fun i hi=>?_⟩
     ·by_cases e:i=sh.modes.length-1
      ·rw[e,hnew] at hu
       rcases kU.1 hu with h1|h1
       ·exact ok2.rules _ hkl u h1
       ·rw[kY.1 h1];exact ht
      ·rw[zAg _ _ t i e] at hu
       exact ok2.rules i (by omega) u hu
     ·rw[hal]
      by_cases e:i=sh.modes.length-1
      ·rw[e,hnew]
       show((sh.mode (sh.modes.length-1)).2++[t]).length<=_;rw[kX];have:=few _ hkl;show(sh.mode (sh.modes.length-1)).2.length+1<=_;omega
      ·rw[zAg _ _ t i e]
       have:=few i (by omega);show(sh.mode i).2.length<=_;omega
   ·cases h
  ·cases h
 ·cases h
theorem zHP {sh sh':Sh}{s:ByteArray}{D:Nat}(h:xV sh s=some sh')(hs:s.size<=1000)(ok:ShOk sh D)(few:vQ sh):ShOk sh' (D+2+4*s.size)∧vQ sh':=by
 have hBs:=vX s 32;unfold xV at h;split at h
 ·split at h
  ·obtain⟨a,b⟩:=zHN h ok few
   exact⟨a.deep (by omega),b⟩
  split at h
  ·obtain⟨a,b⟩:=zI6 h (by omega) ok few
   exact⟨a.deep (by omega),b⟩
  ·obtain⟨a,b⟩:=zHM h (by omega) ok few
   exact⟨a.deep (by omega),b⟩
 ·cases h
theorem zLl {s:ByteArray}{c:Nat}(h:jU s c=true):(qH s c).size+(yN s c).size+1=s.size:=by
 have hi:zHd s c<s.size:=by unfold jU at h;exact of_decide_eq_true h
 unfold yN qH;rw[if_pos h,if_pos h,ByteArray.size_extract,ByteArray.size_extract];omega
def jG:Nat->Sh->Nat->ByteArray->Sh ⊕ Nat
 |0,sh,_,_=>.inl sh
 |f+1,sh,n,s=>if s.size=0 then .inl sh else if jU s 10 then(match xV sh (yN s 10) with
  |none=>.inr n
  |some sh'=>jG f sh' (n+1) (qH s 10)) else .inr n
def zNJ (w:World)(S D:Nat)(G:Sh ⊕ Nat)(e:Ending)(w':World):Prop:=
 Keep S S w w'∧match G with
 | .inl sh=>e=returned (int i64 0)∧SwIs w' S D sh∧ShOk sh D∧vQ sh
 | .inr n=>e=returned (int i64 (n:Int))
theorem zEa (w:World)(S D:Nat)(sh:Sh)(h:SwIs w S D sh)(ok:ShOk sh D)(few:vQ sh)(s:ByteArray)(hs:s.size<=1000):
  Calls prog 56 #[pointer (some ⟨S,0,none⟩),string s] w (zNJ w S (D+6*s.size) (jG (s.size+1) sh 1 s)):=by
 obtain⟨G,hG⟩:∃G,G=jG (s.size+1) sh 1 s:=⟨_,rfl⟩
 have HG:=vl hG.symm;rw[<-hG];have HS:Hid (SwIs w S D sh∧ShOk sh D∧vQ sh):=⟨h,ok,few⟩
 go_in;go_wp2;go_loopg [5,6] (s.size+1) (fun n v5 v6 wr=>∃f sh num rest,n=f∧v5=int i64 (num:Nat)∧v6=string rest∧rest.size<=s.size∧rest.size+1<=f∧num+rest.size<=s.size+1∧jG f sh num rest=G∧SwIs wr S (D+6*(s.size-rest.size)) sh∧ShOk sh (D+6*(s.size-rest.size))∧vQ sh∧Keep S S w wr)
 case atStart=>exact⟨s.size+1,sh,1,s,rfl,rfl,rfl,lQ,lQ,by omega,HG.out,by rw[Nat.sub_self];exact HS.out.1,by rw[Nat.sub_self];exact HS.out.2.1,HS.out.2.2,Keep.refl _ _ _⟩
 case round=>
  obtain⟨f,sh1,num,rest,hgk,rfl,rfl,hrs,hf,hnum,hGo,hSw,hok,hfew,hk⟩:=hrel;cases f with
  |zero=>omega
  |succ f=>
  have hE:=zAp rest;have hGo2:(if rest.size=0 then .inl sh1 else if jU rest 10 then(match xV sh1 (yN rest 10) with|none=>.inr num|some sh'=>jG f sh' (num+1) (qH rest 10)) else .inr num)=G:=hGo;obtain⟨X,mv,dv,av,pv,rv,ps,dp,hS1⟩:=hSw;have HA:Hid (Sw wr X S (D+6*(s.size-rest.size)) sh1 mv dv av pv rv ps dp∧ShOk sh1 (D+6*(s.size-rest.size))∧vQ sh1∧Keep S S w wr∧gk=f+1):=⟨hS1,hok,hfew,hk,hgk⟩
  by_cases h0:rest.size=0
  ·rw[if_pos h0] at hGo2
   have HG2:=vl hGo2.symm;rw[decide_eq_true h0] at hE;have HR0:=vl h0;go_wp2;go_ret;refine⟨HA.out.2.2.2.1,?_⟩;rw[HG2.out];have e0:D+6*(s.size-rest.size)=D+6*s.size:=by rw[HR0.out];rfl
   refine⟨rfl,⟨X,mv,dv,av,pv,rv,ps,dp,?_⟩,?_,HA.out.2.2.1⟩
   ·rw[<-e0];exact HA.out.1
   ·rw[<-e0];exact HA.out.2.1
  rw[if_neg h0] at hGo2;rw[decide_eq_false h0] at hE;have HCU:=vl <| zCe wr rest (by omega) 10;have hcs:jU rest 10=true->(qH rest 10).size+(yN rest 10).size+1=rest.size:=zLl;have HLN:Hid ((yN rest 10).size<=1000->∀w1,Grew wr w1->Ca 87 #[pointer (some ⟨S,0,none⟩),string (yN rest 10)] w1 (LnAns wr S (D+6*(s.size-rest.size)+2+4*(yN rest 10).size) (xV sh1 (yN rest 10)))):=fun hz w1 hk1=>(zEU w1 X S _ sh1 mv dv av pv rv ps dp (HA.out.1.grown hk1) HA.out.2.1 HA.out.2.2.1 (yN rest 10) hz).mono fun e w2 h2=>h2.from (hk1.lower (Nat.le_of_lt HA.out.1.lt) (Nat.le_of_lt HA.out.1.lt))
  have HLO:Hid (∀sh',xV sh1 (yN rest 10)=some sh'->(yN rest 10).size<=1000->ShOk sh' (D+6*(s.size-rest.size)+2+4*(yN rest 10).size)∧vQ sh'):=fun sh' e hz=>zHP e hz HA.out.2.1 HA.out.2.2.1;have HKS:Hid (∀w1,Grew wr w1->Keep S S wr w1):=fun w1 hk1=>hk1.lower (Nat.le_of_lt HA.out.1.lt) (Nat.le_of_lt HA.out.1.lt);generalize yN rest 10=A at *;generalize qH rest 10=B at *;generalize jU rest 10=K at *;cases K with
  |false=>
   have HG2:=vl hGo2.symm;go_wp2_with (first|(go_at_call 86;refine HCU.out.mono ?_;rintro e w1 ⟨rfl,hk1⟩))
   go_ret;refine⟨HA.out.2.2.2.1.trans (HKS.out w1 hk1),?_⟩;rw[HG2.out];rfl
  |true=>
   have hsz:=hcs rfl;have HL2:=HLN.out (by omega);rw[if_pos rfl] at hGo2;cases hm:xV sh1 A with
   |none=>
    rw[hm] at hGo2 HL2;have HL3:=vl HL2;have HG2:=vl hGo2.symm;go_wp2_with (first|(go_at_call 86;refine HCU.out.mono ?_;rintro e w1 ⟨rfl,hk1⟩)|(go_at_call 87;refine(HL3.out w1 hk1).mono ?_;rintro e w2 ⟨hk2,rfl⟩))
    go_ret;refine⟨HA.out.2.2.2.1.trans hk2,?_⟩;rw[HG2.out];rfl
   |some sh2=>
    have HO2:=HLO.out sh2 hm (by omega);rw[hm] at hGo2 HL2;have HL3:=vl HL2;have HG2:Hid (jG f sh2 (num+1) B=G∧ShOk sh2 (D+6*(s.size-rest.size)+2+4*A.size)∧vQ sh2):=⟨hGo2,HO2⟩
    go_wp2_with (first|(go_at_call 86;refine HCU.out.mono ?_;rintro e w1 ⟨rfl,hk1⟩)|(go_at_call 87;refine(HL3.out w1 hk1).mono ?_;rintro e w2 ⟨hk2,rfl,hs2⟩))
    go_roundg f
    case measure=>rw[HA.out.2.2.2.2];omega
    case rel=>exact⟨f,sh2,num+1,B,rfl,by go_num,rfl,by omega,by omega,by omega,HG2.out.1,hs2.deep (by omega),HG2.out.2.1.deep (by omega),HG2.out.2.2,HA.out.2.2.2.1.trans hk2⟩
def Sh.pushI (sh:Sh)(nm:ByteArray):Int:=if nm.size=0 then 0 else sh.modeI nm
def Sh.push (sh:Sh)(i:Nat):ByteArray:=sh.pushed.getD i ⟨#[]⟩
def Sh.there (sh:Sh):Bool:=decide (∀i,i<sh.pushed.length->0<=sh.pushI (sh.push i))
def Sh.pushesTo (sh:Sh)(j:Nat):List Int:=(List.range j).map fun i=>sh.pushI (sh.push i)
theorem yY (sh:Sh)(j:Nat):(sh.pushesTo j).length=j:=by unfold Sh.pushesTo;rw[kV,List.length_range]
theorem zFJ (sh:Sh)(j:Nat):sh.pushesTo (j+1)=sh.pushesTo j++[sh.pushI (sh.push j)]:=by unfold Sh.pushesTo;rw[List.range_succ,List.map_append];rfl
theorem zCX (w:World)(X:Nat->Prop)(S D:Nat)(sh:Sh)(mv dv av pv:Value)(rv:Nat->Value)(ps:Nat->List Nat)(dp:Nat->Nat)(h:Sw w X S D sh mv dv av pv rv ps dp)(hm3:sh.modes.length<=3)(h8:sh.pushed.length<=8):
  Calls prog 57 #[pointer (some ⟨S,0,none⟩)] w fun e w'=>∃v,e=returned (tuple #[v,bool sh.there])∧(∃a n c,v=slice a n c)∧(sh.there=true->OwnI w' w.heap.size v (sh.pushesTo sh.pushed.length))∧Grew w w':=by
 obtain⟨i0,hi0,hz0,hz1,hz2⟩:=info_parts yJ;obtain⟨ap,cp,hpv⟩:=zG h.pOwn;subst hpv;obtain⟨-,-,-,c3,-⟩:=h.cells;have HS:=vl h;have HTH:Hid (sh.there=decide (∀i,i<sh.pushed.length->0<=sh.pushI (sh.push i))):=rfl;generalize sh.there=T at *;go_in;go_wp2;go_loopg [4,13] sh.pushed.length (fun q v4 i wr=>∃j:Nat,q=sh.pushed.length-j∧j<=sh.pushed.length∧i=int i64 (j:Int)∧(∀k,k<j->0<=sh.pushI (sh.push k))∧OwnI wr w.heap.size v4 (sh.pushesTo j)∧Grew w wr)
 case atStart=>exact⟨0,rfl,lX,rfl,fun k hk=>by omega,OwnI.nil _ _,Keep.refl _ _ _⟩
 case round=>
  obtain⟨j,hgk,hj,rfl,hno,hOw,hk⟩:=hrel;obtain⟨ao,cap0,hv4⟩:=OwnI.form hOw;rw[yY] at hv4;subst hv4;have HA:Hid (gk=sh.pushed.length-j∧(∀k,k<j->0<=sh.pushI (sh.push k))∧OwnI wr w.heap.size (slice ao j cap0) (sh.pushesTo j)∧Grew w wr∧w.heap.size<=wr.heap.size):=⟨hgk,hno,hOw,hk,hk.size⟩
  by_cases hj2:j<sh.pushed.length
  ·have i1:(j:Int)<(sh.pushed.length:Int):=by omega
   obtain⟨mg,mc,hmv2,-,hmgl,-,-,hcl,-⟩:=qL HS.out.pOwn (by omega);injection hmv2 with ea eb ec;subst ea ec;clear eb;have e1:(sh.pushed.map fun x=>Value.string x)[j]? =some (string (sh.push j)):=by
    unfold Sh.push;rw[gV,lV hj2,lW,lV hj2];rfl
   have y0:=zA (hcl _ _ e1) hmgl hk;have hE:=zAp (sh.push j);have HMO:=vl <| zC2 wr X S D sh mv dv av _ rv ps dp (HS.out.grown hk) (by omega) (sh.push j);have HPI:Hid (sh.pushI (sh.push j)=if(sh.push j).size=0 then 0 else sh.modeI (sh.push j)):=rfl;have HNO:Hid (0<=sh.pushI (sh.push j)->∀k,k<j+1->0<=sh.pushI (sh.push k)):=fun hh k hk=>by
    by_cases e:k=j
    ·rw[e];exact hh
    ·exact HA.out.2.1 k (by omega)
   have HNV:Hid (sh.pushI (sh.push j)<0->T=false):=fun hh=>by
    rw[HTH.out];exact decide_eq_false fun h2=>by have:=h2 j hj2;omega
   have HPS:=vl <| zFJ sh j;have HPL:=vl <| yY sh j;have hmi:=zDY sh (sh.push j);clear hgk hno hOw hk e1 hcl hmgl;generalize sh.push j=nm at *;generalize sh.modeI nm=mi at *;generalize sh.pushI nm=pi at *;generalize hP:sh.pushesTo j=L at *;clear hP;by_cases h0:nm.size=0
   ·rw[decide_eq_true h0] at hE
    have HP0:Hid (pi=0):=by show _=_;rw[HPI.out,if_pos h0]
    have OR:Hid (wr.ownsRow w.heap.size 3 1 (slice ao j cap0) j (L.map fun x=>int i64 x)):=by have:=HA.out.2.2.1;unfold OwnI at this;rw[HPL.out] at this;exact this
    have hszr:w.heap.size<=wr.heap.size:=HA.out.2.2.2.2;clear h0 HMO;go_wp2_with (first|(at_builtin;refine wpList_append_lies _ rfl _ _ 45 rfl (w.heap.size) 3 i0 (int i64 0) 1 8 underlying45 hi0 hz0 hz1 hz2 rfl (by decide) _ _ _ rfl (OR.out.alloc _) ⟨wr.heap.size,0,none⟩ 1 1 [int i64 0] rfl rfl (cell_one_new _ _ _) (by intro u hu;simp at hu;subst hu;rfl) (by decide) (by unfold maxLen;omega) (by omega) (by simp;omega) _ rfl ?_;intro gg cap w2 hown hgrow hat hlt2;have hB:=xP OR.out hgrow hszr;have O2:Hid (OwnI w2 w.heap.size (slice (some ⟨gg,0,none⟩) (j+1) cap) (L++[0])∧Grew w w2):=⟨by unfold OwnI;rw[kX,HPL.out,List.map_append];exact hown,HA.out.2.2.2.1.trans (xN hB)⟩;clear hown hgrow hB hat hlt2))
    go_roundg (sh.pushed.length-(j+1))
    case measure=>rw[HA.out.1];omega
    case rel=>exact⟨j+1,rfl,by omega,by go_num,HNO.out (by rw[HP0.out];omega),by rw[HPS.out,HP0.out];exact O2.out.1,O2.out.2⟩
   ·rw[decide_eq_false h0] at hE
    have HP0:Hid (pi=mi):=by show _=_;rw[HPI.out,if_neg h0]
    clear h0;rcases hmi with hmi|⟨hmi,-⟩
    ·subst hmi
     have HV:=vl <| HNV.out (by rw[HP0.out];omega);go_wp2_with (first|(go_at_call 88;refine HMO.out.mono ?_;rintro e w1 ⟨rfl,hk1⟩))
     refine bodyPost_ret (results_tmp2 rfl _ _ _) rfl ?_;exact⟨_,by rw[HV.out];rfl,⟨none,0,0,rfl⟩,fun h=>(by rw[HV.out] at h;cases h),HA.out.2.2.2.1.trans (hk1.lower HA.out.2.2.2.2 HA.out.2.2.2.2)⟩
    ·apply wp_cut
     intro K1 HK1;go_wp2;apply HK1.out;clear HK1;apply wp_cut;intro K1 HK1;go_wp2;apply HK1.out;clear HK1;go_wp2_with (first|(go_at_call 88;refine HMO.out.mono ?_;rintro e w1 ⟨rfl,hk1⟩;have OR:Hid (w1.ownsRow w.heap.size 3 1 (slice ao j cap0) j (L.map fun x=>int i64 x)∧Grew w w1):=⟨by have:=zK HA.out.2.2.1 hk1;unfold OwnI at this;rw[HPL.out] at this;exact this,HA.out.2.2.2.1.trans (hk1.lower HA.out.2.2.2.2 HA.out.2.2.2.2)⟩;have hszr:w.heap.size<=w1.heap.size:=OR.out.2.size;clear hk1)|(at_builtin;refine wpList_append_lies _ rfl _ _ 45 rfl (w.heap.size) 3 i0 (int i64 0) 1 8 underlying45 hi0 hz0 hz1 hz2 rfl (by decide) _ _ _ rfl (OR.out.1.alloc _) ⟨w1.heap.size,0,none⟩ 1 1 [int i64 mi] rfl rfl (cell_one_new _ _ _) (by intro u hu;simp at hu;subst hu;rfl) (by decide) (by unfold maxLen;omega) (by omega) (by simp;omega) _ rfl ?_;intro gg cap w2 hown hgrow hat hlt2;have hB:=xP OR.out.1 hgrow hszr;have O2:Hid (OwnI w2 w.heap.size (slice (some ⟨gg,0,none⟩) (j+1) cap) (L++[mi])∧Grew w w2):=⟨by unfold OwnI;rw[kX,HPL.out,List.map_append];exact hown,OR.out.2.trans (xN hB)⟩;clear hown hgrow hB hat hlt2))
     go_roundg (sh.pushed.length-(j+1))
     case measure=>rw[HA.out.1];omega
     case rel=>exact⟨j+1,rfl,by omega,by go_num,HNO.out (by rw[HP0.out];omega),by rw[HPS.out,HP0.out];exact O2.out.1,O2.out.2⟩
  ·have i1:(sh.pushed.length:Int)<=(j:Int):=by omega
   have e:j=sh.pushed.length:=by omega
   have HV:Hid (T=true):=by
    show _=_;rw[HTH.out];exact decide_eq_true fun i hi=>hno i (by omega)
   have HE:=vl e;clear hgk hno hOw hk e;go_wp2;refine bodyPost_ret (results_tmp2 rfl _ _ _) rfl ?_;refine⟨_,by rw[HV.out];rfl,⟨_,_,_,rfl⟩,fun _=>?_,HA.out.2.2.2.1⟩;rw[<-HE.out];exact HA.out.2.2.1
def Sh.haveB (sh:Sh):Bool:=decide (0<sh.modes.length∧∀i,i<sh.modes.length->0<(sh.mode i).2.length)
def yK (l:List Tr):Nat->Nat
 |0=>0
 |j+1=>yK l j+(l.getD j Tr.none).chars
def Sh.fitB (sh:Sh):Bool:=decide (∀i,i<sh.modes.length->yK (sh.mode i).2 (sh.mode i).2.length<=24)
theorem zCz {w:World}{X:Nat->Prop}{S D:Nat}{sh:Sh}{dv av pv:Value}{rv:Nat->Value}{ps:Nat->List Nat}{dp:Nat->Nat}{ao:Option Addr}{cap0 j:Nat}(h:Sw w X S D sh (slice ao sh.modes.length cap0) dv av pv rv ps dp)(hj:j<sh.modes.length){wr:World}(hk:Grew w wr):
  ∃mg ra rc,ao=some ⟨mg,0,none⟩∧rv j=slice ra (sh.mode j).2.length rc∧wr.cell? ⟨mg,j*2,none⟩=some (string (sh.mode j).1)∧wr.cell? ⟨mg,j*2+1,none⟩=some (slice ra (sh.mode j).2.length rc):=by
 obtain⟨mg,mc,hmv2,-,hmgl,-,-,hcl,-⟩:=qL h.mOwn (by omega);injection hmv2 with ea eb ec;obtain⟨ra,rc,hrv⟩:=zG (h.rOwn j hj);obtain⟨e1,e2⟩:=zA1 (fun i=>string (sh.mode i).1) rv sh.modes.length j hj;rw[hrv] at e2;exact⟨mg,ra,rc,ea,hrv,zA (hcl _ _ e1) hmgl hk,zA (hcl _ _ e2) hmgl hk⟩
theorem zEe (w:World)(X:Nat->Prop)(S D:Nat)(sh:Sh)(mv dv av pv:Value)(rv:Nat->Value)(ps:Nat->List Nat)(dp:Nat->Nat)(h:Sw w X S D sh mv dv av pv rv ps dp)(hm3:sh.modes.length<=3):
  Calls prog 58 #[pointer (some ⟨S,0,none⟩)] w fun e w'=>e=returned (bool sh.haveB)∧Grew w w':=by
 obtain⟨ao,cap0,hmv⟩:=zG h.mOwn;subst hmv;obtain⟨c0,-,-,-,-⟩:=h.cells;have HS:=vl h;have HTH:Hid (sh.haveB=decide (0<sh.modes.length∧∀i,i<sh.modes.length->0<(sh.mode i).2.length)):=rfl;generalize sh.haveB=T at *;have hSl:S<w.heap.size:=h.lt;have C0:Hid (∀wr,Grew w wr->wr.cell? ⟨S,0,none⟩=some (slice ao sh.modes.length cap0)):=fun wr hk=>zA c0 hSl hk;go_in;go_wp2;go_loopg [10] sh.modes.length (fun q i wr=>∃j:Nat,q=sh.modes.length-j∧j<=sh.modes.length∧i=int i64 (j:Int)∧(∀k,k<j->0<(sh.mode k).2.length)∧Grew w wr)
 case atStart=>exact⟨0,rfl,lX,rfl,fun k hk=>by omega,Keep.refl _ _ _⟩
 case round=>
  obtain⟨j,hgk,hj,rfl,hno,hk⟩:=hrel;have HA:Hid (gk=sh.modes.length-j∧(∀k,k<j->0<(sh.mode k).2.length)∧Grew w wr∧w.heap.size<=wr.heap.size):=⟨hgk,hno,hk,hk.size⟩
  by_cases hj2:j<sh.modes.length
  ·have i1:(j:Int)<(sh.modes.length:Int):=by omega
   obtain⟨mg,ra,rc,rfl,-,y0,y1⟩:=zCz HS.out hj2 hk;obtain⟨wa,hwa,z1,HKa⟩:∃wa,wa=wr.alloc (.cells #[string (sh.mode j).1,slice ra (sh.mode j).2.length rc] 120)∧wa.cell? ⟨wr.heap.size,1,none⟩=some (slice ra (sh.mode j).2.length rc)∧Hid (Grew w wa):=by
    have hb2:=gU wr (.cells #[string (sh.mode j).1,slice ra (sh.mode j).2.length rc] 120);refine⟨_,rfl,?_,HA.out.2.2.1.trans (kZ _ _ HA.out.2.2.2)⟩;unfold cell?;rw[hb2];rfl
   have HNO:Hid (0<(sh.mode j).2.length->∀k,k<j+1->0<(sh.mode k).2.length):=fun hh k hk=>by
    by_cases e:k=j
    ·rw[e];exact hh
    ·exact HA.out.2.1 k (by omega)
   have HNV:Hid ((sh.mode j).2.length=0->T=false):=fun hh=>by
    rw[HTH.out];exact decide_eq_false fun h2=>by have:=h2.2 j hj2;omega
   generalize (sh.mode j).2.length=rl at *;apply wp_cut;intro K1 HK1;go_wp2;apply HK1.out;apply wp_cut;intro K1 HK1;go_wp2;apply HK1.out;apply wp_cut;intro KB HKB;refine wp_block ?_;apply wp_cut;intro K1 HK1;go_wp2;apply HK1.out;rw[<-hwa];clear hwa y0 y1;by_cases h0:rl=0
   ·have HV:=vl <| HNV.out h0
    have e0:((rl:Int)==0)=true:=by rw[h0];rfl
    clear h0;go_wp2;go_ret;exact⟨by rw[HV.out];rfl,HKa.out⟩
   ·have HN2:=HNO.out (by omega)
    have e0:((rl:Int)==0)=false:=by rw[hJ];omega
    clear h0;go_wp2;apply HKB.out;clear HKB;go_wp2;go_roundg (sh.modes.length-(j+1))
    case measure=>rw[HA.out.1];omega
    case rel=>exact⟨j+1,rfl,by omega,by go_num,HN2,HKa.out⟩
  ·have i1:(sh.modes.length:Int)<=(j:Int):=by omega
   have c0:=C0.out wr hk;have HV:Hid (T=decide (0<sh.modes.length)):=by
    show _=_;rw[HTH.out];by_cases e:0<sh.modes.length
    ·rw[decide_eq_true e];exact decide_eq_true ⟨e,fun i hi=>hno i (by omega)⟩
    ·rw[decide_eq_false e];exact decide_eq_false fun h2=>e h2.1
   clear hgk hno hk;by_cases e:0<sh.modes.length
   ·have i2:(0:Int)<(sh.modes.length:Int):=by omega
    have HV2:Hid (T=true):=by show _=_;rw[HV.out];exact decide_eq_true e
    clear e;go_wp2;go_ret;exact⟨by rw[HV2.out];first|rfl|(simp;done)|(simp;omega),HA.out.2.2.1⟩
   ·have i2:(sh.modes.length:Int)<=0:=by omega
    have HV2:Hid (T=false):=by show _=_;rw[HV.out];exact decide_eq_false e
    clear e;go_wp2;go_ret;exact⟨by rw[HV2.out];first|rfl|(simp;done)|(simp;omega)|(simp;exact List.length_eq_zero_iff.1 (by omega)),HA.out.2.2.1⟩
theorem zJH (l:List Tr)(h:∀t∈l,t.chars<=25)(j:Nat)(hj:j<=l.length):yK l j<=25*j:=by
 induction j with
 |zero=>exact lQ
 |succ j ih=>
  have h1:=ih (by omega);have hm:l.getD j Tr.none∈l:=by
   rw[lW,lV (by omega:j<l.length)];exact List.getElem_mem _
  have h2:=h _ hm;show yK l j+(l.getD j Tr.none).chars<=_;omega
theorem zFq (w:World)(X:Nat->Prop)(S D:Nat)(sh:Sh)(mv dv av pv:Value)(rv:Nat->Value)(ps:Nat->List Nat)(dp:Nat->Nat)(h:Sw w X S D sh mv dv av pv rv ps dp)(ok:ShOk sh D)(few:vQ sh):
  Calls prog 59 #[pointer (some ⟨S,0,none⟩)] w fun e w'=>e=returned (bool sh.fitB)∧Grew w w':=by
 obtain⟨ao,cap0,hmv⟩:=zG h.mOwn;subst hmv;obtain⟨c0,-,-,-,-⟩:=h.cells;have HS:Hid (Sw w X S D sh (slice ao sh.modes.length cap0) dv av pv rv ps dp∧ShOk sh D∧vQ sh):=⟨h,ok,few⟩
 have hm3:=ok.modes;have HTH:Hid (sh.fitB=decide (∀i,i<sh.modes.length->yK (sh.mode i).2 (sh.mode i).2.length<=24)):=rfl;generalize sh.fitB=T at *;go_in;go_wp2;go_loopg [13] sh.modes.length (fun q i wr=>∃j:Nat,q=sh.modes.length-j∧j<=sh.modes.length∧i=int i64 (j:Int)∧(∀k,k<j->yK (sh.mode k).2 (sh.mode k).2.length<=24)∧Grew w wr)
 case atStart=>exact⟨0,rfl,lX,rfl,fun k hk=>by omega,Keep.refl _ _ _⟩
 case round=>
  obtain⟨j,hgk,hj,rfl,hno,hk⟩:=hrel;have HA:Hid (gk=sh.modes.length-j∧(∀k,k<j->yK (sh.mode k).2 (sh.mode k).2.length<=24)∧Grew w wr∧w.heap.size<=wr.heap.size):=⟨hgk,hno,hk,hk.size⟩
  by_cases hj2:j<sh.modes.length
  ·have i1:(j:Int)<(sh.modes.length:Int):=by omega
   obtain⟨mg,ra,rc,rfl,hrv,y0,y1⟩:=zCz HS.out.1 hj2 hk;obtain⟨wa,hwa,z1,HKa⟩:∃wa,wa=wr.alloc (.cells #[string (sh.mode j).1,slice ra (sh.mode j).2.length rc] 120)∧wa.cell? ⟨wr.heap.size,1,none⟩=some (slice ra (sh.mode j).2.length rc)∧Hid (Grew w wa):=by
    have hb2:=gU wr (.cells #[string (sh.mode j).1,slice ra (sh.mode j).2.length rc] 120);refine⟨_,rfl,?_,HA.out.2.2.1.trans (kZ _ _ HA.out.2.2.2)⟩;unfold cell?;rw[hb2];rfl
   have HNO:Hid (yK (sh.mode j).2 (sh.mode j).2.length<=24->∀k,k<j+1->yK (sh.mode k).2 (sh.mode k).2.length<=24):=fun hh k hk=>by
    by_cases e:k=j
    ·rw[e];exact hh
    ·exact HA.out.2.1 k (by omega)
   have HNV:Hid (24<yK (sh.mode j).2 (sh.mode j).2.length->T=false):=fun hh=>by
    rw[HTH.out];exact decide_eq_false fun h2=>by have:=h2 j hj2;omega
   have HRC:Hid (∀i,i<(sh.mode j).2.length->∃rg p,ra=some ⟨rg,0,none⟩∧wa.cell? ⟨rg,i,none⟩=some (pointer (some ⟨p,0,none⟩))∧wa.cell? ⟨p,7,none⟩=some (int i64 (((sh.mode j).2.getD i Tr.none).chars:Int))∧((sh.mode j).2.getD i Tr.none).chars<=25):=fun i hi=>by
    obtain⟨rg,rc2,hr2,-,hrgl,-,-,hcl,-⟩:=qL (HS.out.1.rOwn j hj2) (by omega);rw[hrv] at hr2;injection hr2 with ea eb ec;have hpl:(ps j).length=(sh.mode j).2.length:=by
     have:=(HS.out.1.rOwn j hj2).1;unfold xT at this;rw[kV] at this;omega
    have e1:(xT (ps j))[i]? =some (pointer (some ⟨(ps j).getD i 0,0,none⟩)):=by
     unfold xT;rw[gV,lV (by omega:i<(ps j).length),lW,lV (by omega:i<(ps j).length)];rfl
    have ht:=HS.out.1.rTree j hj2 i hi;have hpw:In w ((ps j).getD i 0):=by
     cases D with
     |zero=>exact False.elim ht.at
     |succ d=>exact ht.at.1
    have hm:(sh.mode j).2.getD i Tr.none∈(sh.mode j).2:=by
     rw[lW,lV hi];exact List.getElem_mem _
    exact⟨rg,_,ea,zA (hcl _ _ e1) hrgl HKa.out,zA ht.chars hpw HKa.out,(HS.out.2.1.rules j hj2 _ hm).few⟩
   have hrl:(sh.mode j).2.length<=8:=lY (HS.out.2.2 j hj2) HS.out.2.1.acts;have HCL:=vl <| zJH _ fun t ht=>(HS.out.2.1.rules j hj2 t ht).few;generalize (sh.mode j).2=L at *;apply wp_cut;intro K1 HK1;go_wp2;apply HK1.out;clear HK1;apply wp_cut;intro K1 HK1;go_wp2;apply HK1.out;clear HK1;apply wp_cut;intro KB HKB;refine wp_block ?_;apply wp_cut;intro K1 HK1;go_wp2;apply HK1.out;clear HK1;rw[<-hwa];clear hwa y0 y1;go_wp2;clear z1;go_loopg [5,20] L.length (fun q c i w2=>∃k:Nat,q=L.length-k∧k<=L.length∧c=int i64 (yK L k:Nat)∧i=int i64 (k:Int)∧w2=wa)
   case atStart=>exact⟨0,rfl,lX,rfl,rfl,rfl⟩
   case round=>
    obtain⟨k,hgk2,hk,rfl,rfl,rfl⟩:=hrel;have HGK:=vl hgk2;by_cases hk2:k<L.length
    ·have i2:(k:Int)<(L.length:Int):=by omega
     obtain⟨rg,p,rfl,x0,x1,hc25⟩:=HRC.out k hk2;have hcb:=HCL.out k (by omega);have HCS:Hid (yK L (k+1)=yK L k+(L.getD k Tr.none).chars):=rfl;clear hgk2;generalize (L.getD k Tr.none).chars=cc at *;generalize yK L k=sum at *;go_wp2;go_roundg (L.length-(k+1))
     case measure=>rw[HGK.out];omega
     case rel=>exact⟨k+1,rfl,by omega,by rw[HCS.out];go_num,by go_num,rfl⟩
    ·have i2:(L.length:Int)<=(k:Int):=by omega
     have e:k=L.length:=by omega
     subst e;have hcb:=HCL.out L.length lQ;clear hgk2;generalize yK L L.length=sum at *;by_cases h24:24<sum
     ·have HV:=vl <| HNV.out h24
      have j24:(24:Int)<(sum:Int):=by omega
      clear h24;go_wp2;go_ret;exact⟨by rw[HV.out];rfl,HKa.out⟩
     ·have HN2:=vl <| HNO.out (by omega)
      have j24:(sum:Int)<=24:=by omega
      clear h24;go_wp2;apply HKB.out;clear HKB;go_wp2;go_roundg (sh.modes.length-(j+1))
      case measure=>rw[HA.out.1];omega
      case rel=>exact⟨j+1,rfl,by omega,by go_num,HN2.out,HKa.out⟩
  ·have i1:(sh.modes.length:Int)<=(j:Int):=by omega
   have HV:Hid (T=true):=by
    show _=_;rw[HTH.out];exact decide_eq_true fun i hi=>hno i (by omega)
   clear hgk hno hk;go_wp2;go_ret;exact⟨by rw[HV.out];rfl,HA.out.2.2.1⟩
def jE (s:ByteArray):Sh ⊕ (Nat×Nat):=
 if 400<s.size then .inr (0,1) else
 match jG (s.size+1) Sh.none 1 s with
 | .inr n=>.inr (n,2)
 | .inl sh=>if sh.there&&sh.haveB then(if sh.fitB then .inl sh else .inr (0,4)) else .inr (0,3)
theorem zGf:∀f sh n s m,jG f sh n s=.inr m->n<=m
 |0,_,_,_,_,h=>by cases h
 |f+1,sh,n,s,m,h=>by
  have h2:(if s.size=0 then .inl sh else if jU s 10 then(match xV sh (yN s 10) with|none=>.inr n|some sh'=>jG f sh' (n+1) (qH s 10)) else .inr n)=(.inr m:Sh ⊕ Nat):=h;split at h2
  ·cases h2
  split at h2
  ·cases hm:xV sh (yN s 10) with
   |none=>rw[hm] at h2;cases h2;exact lQ
   |some sh'=>
    rw[hm] at h2;exact Nat.le_of_succ_le (zGf f sh' (n+1) _ m h2)
  ·cases h2;exact lQ
theorem Sw.low {w w2:World}{X:Nat->Prop}{S D:Nat}{sh:Sh}{mv dv av pv:Value}{rv:Nat->Value}{ps:Nat->List Nat}{dp:Nat->Nat}(h:Sw w X S D sh mv dv av pv rv ps dp)(ho:w2.os=w.os)(hu:w2.output=w.output)(hz:w.heap.size<=w2.heap.size)(hb:∀k,S<=k->k<w.heap.size->w2.heap[k]? =w.heap[k]?):Sw w2 X S D sh mv dv av pv rv ps dp:=by
 have hr:∀{e z n v xs},w.ownsRow (S+1) e z v n xs->w2.ownsRow (S+1) e z v n xs:=fun ho=>zD ho fun g h1 hg _=>hb g (by omega) hg;have ha:Agree X w w2:=⟨ho,hu,hz,fun i hi hx=>hb i (Nat.le_of_lt (h.xlt i hx).1) hi⟩
 exact⟨(hb S lQ h.lt).trans h.blk,hr h.mOwn,hr h.dOwn,hr h.aOwn,hr h.pOwn,fun i hi=>hr (h.rOwn i hi),h.rApart,fun i hi k hk2=>(h.rTree i hi k hk2).go ha,fun i hi=>(h.dTree i hi).go ha,fun g hg=>⟨(h.xlt g hg).1,lZ (h.xlt g hg).2 hz⟩,h.xm,h.xr,lZ h.lt hz⟩
structure SpecIs (w:World)(D:Nat)(mv av pv:Value)(sh:Sh):Prop where
 sheet:∃X S dv qv rv ps dp,Sw w X S D sh mv dv av qv rv ps dp
 pushes:Ints w (In w) pv (sh.pushesTo sh.pushed.length)
 ok:ShOk sh D
 few:vQ sh
 there:sh.there=true
 have_:sh.haveB=true
 fit:sh.fitB=true
def zEs (w:World)(D:Nat)(G:Sh ⊕ (Nat×Nat))(e:Ending)(w':World):Prop:=
 Grew w w'∧match G with
 | .inr (n,k)=>e=returned (tuple #[agg #[slice none 0 0,slice none 0 0,slice none 0 0],int i64 (n:Int),int i64 (k:Int)])
 | .inl sh=>∃mv av pv,e=returned (tuple #[agg #[mv,av,pv],int i64 0,int i64 0])∧SpecIs w' D mv av pv sh
def zOl (w w2:World):Prop:=Hid (w2.heap[w.heap.size]? =some (.cells #[slice none 0 0,slice none 0 0,slice none 0 0] 79)∧Grew w w2)∧w2.cell? ⟨w.heap.size,0,none⟩=some (slice none 0 0)∧w2.cell? ⟨w.heap.size,1,none⟩=some (slice none 0 0)∧w2.cell? ⟨w.heap.size,2,none⟩=some (slice none 0 0)∧w2.frozen? ⟨w.heap.size,0,none⟩=false∧w2.frozen? ⟨w.heap.size,1,none⟩=false∧w2.frozen? ⟨w.heap.size,2,none⟩=false
theorem zBe (w w2:World)(u v q:Value)(hB:Hid (w2.heap[w.heap.size]? =some (.cells #[slice none 0 0,slice none 0 0,slice none 0 0] 79)∧Grew w w2)):
  ∃w3,w3=((w2.setCell ⟨w.heap.size,0,none⟩ u).setCell ⟨w.heap.size,1,none⟩ v).setCell ⟨w.heap.size,2,none⟩ q∧w3.cell? ⟨w.heap.size,0,none⟩=some u∧w3.cell? ⟨w.heap.size,1,none⟩=some v∧w3.cell? ⟨w.heap.size,2,none⟩=some q∧Hid (Grew w w3∧w3.heap.size=w2.heap.size∧w3.os=w2.os∧w3.output=w2.output∧∀k,k≠w.heap.size->w3.heap[k]? =w2.heap[k]?):=by
 obtain⟨hB,hk⟩:=hB;have h2:(((w2.setCell ⟨w.heap.size,0,none⟩ u).setCell ⟨w.heap.size,1,none⟩ v).setCell ⟨w.heap.size,2,none⟩ q).heap[w.heap.size]? =some (.cells #[u,v,q] 79):=by
  simp[setCell,lU,hB]
 have hne:∀i,i≠w.heap.size->(((w2.setCell ⟨w.heap.size,0,none⟩ u).setCell ⟨w.heap.size,1,none⟩ v).setCell ⟨w.heap.size,2,none⟩ q).heap[i]? =w2.heap[i]? :=fun i hi2=>by
  simp[setCell,lU,Ne.symm hi2]
 refine⟨_,rfl,?_,?_,?_,hk.trans ⟨rfl,rfl,by simp[World.setCell],fun k h1 _=>hne k (by omega)⟩,by simp[World.setCell],rfl,rfl,hne⟩
 all_goals (unfold cell?;rw[h2];rfl)
theorem zHE {w w2:World}(hk:Keep (w.heap.size+1) (w.heap.size+1) (w.alloc (.cells #[slice none 0 0,slice none 0 0,slice none 0 0] 79)) w2):zOl w w2:=by
 have h1:=gU w (.cells #[slice none 0 0,slice none 0 0,slice none 0 0] 79);have h2:=(hk.block w.heap.size (by omega) (by omega)).trans h1;refine⟨⟨h2,(kZ (H:=w.heap.size) (b:=w.heap.size) _ _ lQ).trans ⟨hk.os,hk.output,hk.size,fun k h1 h2=>hk.block k (by omega) (by omega)⟩⟩,?_,?_,?_,?_,?_,?_⟩
 all_goals first|(unfold cell?;rw[h2];rfl)|(unfold frozen?;rw[h2];simp)
theorem zKH (w:World):SwIs (w.alloc (.cells #[slice none 0 0,slice none 0 0,slice none 0 0,slice none 0 0] 114)) w.heap.size 1 Sh.none:=by
 refine⟨fun _=>False,_,_,_,_,fun _=>slice none 0 0,fun _=>[],fun _=>0,gU _ _,ownsRow_nil _ _ _ _,ownsRow_nil _ _ _ _,ownsRow_nil _ _ _ _,ownsRow_nil _ _ _ _,fun i hi=>absurd hi (Nat.not_lt_zero _),fun i j g hi=>absurd hi (Nat.not_lt_zero _),fun i hi=>absurd hi (Nat.not_lt_zero _),fun i hi=>absurd hi (Nat.not_lt_zero _),fun g hg=>hg.elim,fun g hg=>hg.elim,fun g i hg=>hg.elim,by simp⟩
theorem zKS (D:Nat):ShOk Sh.none D:=⟨by show 0<=3;omega,by show 0<=4;omega,by show 0<=8;omega,rfl,fun i hi=>absurd hi (Nat.not_lt_zero _),fun d hd=>(by cases hd),fun i hi=>absurd hi (Nat.not_lt_zero _)⟩
theorem zJd:vQ Sh.none:=fun i hi=>absurd hi (Nat.not_lt_zero _)
theorem zI1 (w:World)(s:ByteArray):∃w1 w2,w1=w.alloc (.cells #[slice none 0 0,slice none 0 0,slice none 0 0] 79)∧w2=w1.alloc (.cells #[slice none 0 0,slice none 0 0,slice none 0 0,slice none 0 0] 114)∧Hid (∀v,Keep (w.heap.size+1) (w.heap.size+1) w2 v->zOl w v)∧Hid (w1.heap.size=w.heap.size+1)∧Hid (zOl w w1)∧(s.size<=400->Hid (Calls prog 56 #[pointer (some ⟨w.heap.size+1,0,none⟩),string s] w2 (zNJ w2 (w.heap.size+1) (1+6*s.size) (jG (s.size+1) Sh.none 1 s)))):=by
 have hz:(w.alloc (.cells #[slice none 0 0,slice none 0 0,slice none 0 0] 79)).heap.size=w.heap.size+1:=by simp
 refine⟨_,_,rfl,rfl,fun v hk=>zHE ((kZ _ _ (by rw[hz];omega)).trans hk),hz,zHE (Keep.refl _ _ _),fun h4=>?_⟩;have:=zKH (w.alloc (.cells #[slice none 0 0,slice none 0 0,slice none 0 0] 79));rw[hz] at this;exact zEa _ _ 1 Sh.none this (zKS 1) zJd s (by omega)
theorem SwIs.grew {w2 v v':World}{S D:Nat}{sh:Sh}(h:SwIs v S D sh)(hK:Keep S S w2 v)(hk:Grew v v'):SwIs v' S D sh∧Keep S S w2 v'∧S<v.heap.size:=by
 obtain⟨X,mv,dv,av,pv,rv,ps,dp,h⟩:=h;exact⟨⟨X,mv,dv,av,pv,rv,ps,dp,h.grown hk⟩,hK.trans (hk.lower (Nat.le_of_lt h.lt) (Nat.le_of_lt h.lt)),h.lt⟩
theorem zNZ {v:World}{S D:Nat}{sh:Sh}(h:SwIs v S D sh)(ok:ShOk sh D):Calls prog 57 #[pointer (some ⟨S,0,none⟩)] v fun e w'=>∃u,e=returned (tuple #[u,bool sh.there])∧(∃a n c,u=slice a n c)∧(sh.there=true->OwnI w' v.heap.size u (sh.pushesTo sh.pushed.length))∧Grew v w':=by
 obtain⟨X,mv,dv,av,pv,rv,ps,dp,h⟩:=h;exact zCX v X _ _ sh mv dv av pv rv ps dp h ok.modes (by rw[ok.same];exact ok.acts)
theorem zN7 {v:World}{S D:Nat}{sh:Sh}(h:SwIs v S D sh)(ok:ShOk sh D):Calls prog 58 #[pointer (some ⟨S,0,none⟩)] v fun e w'=>e=returned (bool sh.haveB)∧Grew v w':=by
 obtain⟨X,mv,dv,av,pv,rv,ps,dp,h⟩:=h;exact zEe v X _ _ sh mv dv av pv rv ps dp h ok.modes
theorem zOd {v:World}{S D:Nat}{sh:Sh}(h:SwIs v S D sh)(ok:ShOk sh D)(few:vQ sh):Calls prog 59 #[pointer (some ⟨S,0,none⟩)] v fun e w'=>e=returned (bool sh.fitB)∧Grew v w':=by
 obtain⟨X,mv,dv,av,pv,rv,ps,dp,h⟩:=h;exact zFq v X _ _ sh mv dv av pv rv ps dp h ok few
theorem zAw (w:World)(s:ByteArray)(hs:s.size<=1048576):Calls prog 43 #[string s] w (zEs w (1+6*s.size) (jE s)):=by
 obtain⟨w1,w2,hw1,hw2,HK1,HZ1,HB1,hrl⟩:=zI1 w s;obtain⟨G,hG⟩:∃G,G=jE s:=⟨_,rfl⟩
 have HG:=vl hG;rw[<-hG];go_in;apply wp_cut;intro K0 J;go_wp2;apply J.out;rcases Nat.lt_or_ge 400 s.size with h4|h4
 ·have HG2:G=.inr (0,1):=by rw[HG.out];unfold jE;rw[if_pos h4]
  rw[HG2,<-hw1];clear hw1;have i4:(400:Int)<(s.size:Int):=by omega
  obtain⟨HB,c0,c1,c2,f0,f1,f2⟩:=HB1.out;go_wp2;obtain⟨w7,hw7,z0,z1,z2,HZ⟩:=zBe w w1 (slice none 0 0) (slice none 0 0) (slice none 0 0) HB;rw[<-hw7];refine bodyPost_ret (v:=tuple #[agg #[slice none 0 0,slice none 0 0,slice none 0 0],int i64 0,int i64 1]) (by simp[results,results43,go_sem,z0,z1,z2]) rfl ?_;exact⟨HZ.out.1,rfl⟩
 have i4:(s.size:Int)<=400:=by omega
 have HRL:=hrl h4;clear hrl;apply wp_cut;intro K0 J;go_wp2;apply J.out;clear J;apply wp_cut;intro K0 J;go_wp2;apply J.out;rw[<-hw1,<-hw2];clear hw1 hw2 J HB1;rcases hn:jG (s.size+1) Sh.none 1 s with sh|n;rotate_left
 ·rw[hn] at HRL
  have HG2:G=.inr (n,2):=by rw[HG.out];unfold jE;rw[if_neg (by omega),hn]
  rw[HG2];have hn1:(0:Int)<(n:Int):=by have:=zGf _ _ _ _ _ hn;omega
  clear hn;go_wp2_with (first|(go_at_call 56;refine HRL.out.mono ?_;rintro e v ⟨hK,rfl⟩;obtain⟨HB,c0,c1,c2,f0,f1,f2⟩:=HK1.out v hK))
  obtain⟨w7,hw7,z0,z1,z2,HZ⟩:=zBe w v (slice none 0 0) (slice none 0 0) (slice none 0 0) HB;rw[<-hw7];refine bodyPost_ret (v:=tuple #[agg #[slice none 0 0,slice none 0 0,slice none 0 0],int i64 (n:Int),int i64 2]) (by simp[results,results43,go_sem,z0,z1,z2]) rfl ?_;exact⟨HZ.out.1,rfl⟩
 rw[hn] at HRL;have HG2:Hid (G=if sh.there&&sh.haveB then(if sh.fitB then .inl sh else .inr (0,4)) else .inr (0,3)):=by show _=_;rw[HG.out];unfold jE;rw[if_neg (by omega),hn]
 clear hn HG;have HPM:=vl fun v h ok=>zNZ (v:=v) (S:=w.heap.size+1) (D:=1+6*s.size) (sh:=sh) h ok;have HHR:=vl fun v h ok=>zN7 (v:=v) (S:=w.heap.size+1) (D:=1+6*s.size) (sh:=sh) h ok;have HCF:=vl fun v h ok few=>zOd (v:=v) (S:=w.heap.size+1) (D:=1+6*s.size) (sh:=sh) h ok few;rcases hth:sh.there with _|_;rotate_left;rcases hhv:sh.haveB with _|_;rotate_left;rcases hft:sh.fitB with _|_;rotate_left
 ·rw[hth] at HPM
  rw[hhv] at HHR;rw[hft] at HCF;rw[hth,hhv,hft] at HG2;have HTT:=vl (And.intro hth (And.intro hhv hft));clear hth hhv hft;apply wp_cut;intro K0 J;go_wp2_with (first|(go_at_call 56;refine HRL.out.mono ?_;rintro e w3 ⟨hk3,rfl,hS3,hO3,hF3⟩))
  apply J.out;clear J;apply wp_cut;intro K0 J;go_wp2;apply J.out;clear J;apply wp_cut;intro K0 J;go_wp2_with (first|(go_at_call 57;refine(HPM.out w3 hS3 hO3).mono ?_;rintro e w4 ⟨v4,rfl,⟨a4,n4,c4,rfl⟩,hv4,hk4⟩;obtain⟨hS4,hK4,hl3⟩:=hS3.grew hk3 hk4))
  apply J.out;clear J;apply wp_cut;intro K0 J;go_wp2_with (first|(go_at_call 58;refine(HHR.out w4 hS4 hO3).mono ?_;rintro e w5 ⟨rfl,hk5⟩;obtain⟨hS5,hK5,-⟩:=hS4.grew hK4 hk5))
  apply J.out;clear J;apply wp_cut;intro K0 J;go_wp2_with (first|(go_at_call 59;refine(HCF.out w5 hS5 hO3 hF3).mono ?_;rintro e w6 ⟨rfl,hk6⟩;obtain⟨hS6,hK6,-⟩:=hS5.grew hK5 hk6))
  apply J.out;clear J;obtain⟨X,mv,dv,av,qv,rv,ps,dp,h6⟩:=hS6;obtain⟨am,cm,hmv⟩:=zG h6.mOwn;obtain⟨aa,ca,hav⟩:=zG h6.aOwn;subst hmv hav;obtain⟨x0,-,x2,-,-⟩:=h6.cells;obtain⟨HB,c0,c1,c2,f0,f1,f2⟩:=HK1.out w6 hK6;obtain⟨w7,hw7,z0,z1,z2,HZ⟩:=zBe w w6 (slice am sh.modes.length cm) (slice aa sh.acts.length ca) (slice a4 n4 c4) HB;have HOW:=vl (zK (zK (hv4 trivial) hk5) hk6);have H6:=vl (And.intro h6 (And.intro hO3 (And.intro hF3 hl3)));clear HB h6 hv4 hk4 hk5 hk6 hS3 hO3 hF3 hk3 hS4 hS5 hK4 hK5 hK6 hl3 HRL HPM HHR HCF HK1;apply wp_cut;intro K0 J;go_region
  all_goals
   rw[<-hw7];obtain⟨w8,hw8,y0,y1,y2,H8⟩:∃w8,w8=w7.drew∧w8.cell? ⟨w.heap.size,0,none⟩=some (slice am sh.modes.length cm)∧w8.cell? ⟨w.heap.size,1,none⟩=some (slice aa sh.acts.length ca)∧w8.cell? ⟨w.heap.size,2,none⟩=some (slice a4 n4 c4)∧Hid (Grew w w8∧SpecIs w8 (1+6*s.size) (slice am sh.modes.length cm) (slice aa sh.acts.length ca) (slice a4 n4 c4) sh):=by
    obtain⟨k1,k2,k3,k4,k5⟩:=HZ.out;have k6:w7.drew.heap.size=w6.heap.size:=k2;refine⟨_,rfl,z0,z1,z2,⟨k1.os,k1.output,k1.size,k1.block⟩,⟨⟨X,_,dv,qv,rv,ps,dp,H6.out.1.low k3 k4 (by omega) fun k h1 _=>k5 k (by omega)⟩,zAA (H:=w3.heap.size) (zD HOW.out fun g h1 _ _=>k5 g (by have:=H6.out.2.2.2;omega)),H6.out.2.1,H6.out.2.2.1,HTT.out.1,HTT.out.2.1,HTT.out.2.2⟩⟩
   rw[<-hw8];show K0 _ _;apply J.out;clear J;clear hw7 hw8 z0 z1 z2 x0 x2 c0 c1 c2 f0 f1 f2;go_wp2;refine bodyPost_ret (v:=tuple #[agg #[slice am sh.modes.length cm,slice aa sh.acts.length ca,slice a4 n4 c4],int i64 0,int i64 0]) (by simp[results,results43,go_sem,y0,y1,y2]) rfl ?_;rw[HG2.out];exact⟨H8.out.1,_,_,_,rfl,H8.out.2⟩
 all_goals
  rw[hth] at HPM HG2
  try rw[hhv] at HHR HG2
  try rw[hft] at HCF HG2
  clear hth
  try clear hhv
  try clear hft
  go_wp2_with ((first|(go_at_call 56;refine HRL.out.mono ?_;rintro e v ⟨hK,rfl,hS,hO,hF⟩)|(go_at_call 57;refine(HPM.out v hS hO).mono ?_;rintro e v ⟨v4,rfl,⟨a4,n4,c4,rfl⟩,-,hk4⟩;obtain⟨hS,hK,-⟩:=hS.grew hK hk4)|(go_at_call 58;refine(HHR.out v hS hO).mono ?_;rintro e v ⟨rfl,hk4⟩;obtain⟨hS,hK,-⟩:=hS.grew hK hk4)|(go_at_call 59;refine(HCF.out v hS hO hF).mono ?_;rintro e v ⟨rfl,hk4⟩;obtain⟨hS,hK,-⟩:=hS.grew hK hk4));obtain⟨HB,c0,c1,c2,f0,f1,f2⟩:=HK1.out v hK)
  obtain⟨w7,hw7,z0,z1,z2,HZ⟩:=zBe w v (slice none 0 0) (slice none 0 0) (slice none 0 0) HB;rw[<-hw7]
  first
  |(refine bodyPost_ret (v:=tuple #[agg #[slice none 0 0,slice none 0 0,slice none 0 0],int i64 0,int i64 3]) (by simp[results,results43,go_sem,z0,z1,z2];done) rfl ?_;rw[HG2.out];exact⟨HZ.out.1,rfl⟩)
  |(refine bodyPost_ret (v:=tuple #[agg #[slice none 0 0,slice none 0 0,slice none 0 0],int i64 0,int i64 4]) (by simp[results,results43,go_sem,z0,z1,z2];done) rfl ?_;rw[HG2.out];exact⟨HZ.out.1,rfl⟩)
section
structure Mk.Tab (m:Mk)(nr:Int):Prop where
 one:1<=m.next.length
 wide:∀row∈m.next,row.length=256∧∀x∈row,0<=x∧x<(m.next.length:Int)
 rules:∀r∈m.rules,-1<=r∧r<nr
 of:∀x∈m.of,0<=x∧x<(m.next.length:Int)
def Mk.Inr (m:Mk)(x:Int):Prop:=0<=x∧x<(m.next.length:Int)
theorem Mk.Inr.grow {m m':Mk}{x:Int}(h:m.Inr x)(hg:m.next.length<=m'.next.length):m'.Inr x:=⟨h.1,by have:=h.2;omega⟩
theorem zHn (x:Int)(h:x∈zeros):x=0:=List.eq_of_mem_replicate h
section
variable {m:Mk} {nr:Int} {most:Nat}
theorem zKk (h:m.Tab nr){r:Int}(hr:-1<=r∧r<nr):(m.add most r).Tab nr:=by
 unfold Mk.add;split
 ·exact⟨h.one,h.wide,h.rules,h.of⟩
 ·have hl:(m.next++[zeros]).length=m.next.length+1:=by simp
  refine⟨by show 1<=(m.next++[zeros]).length;omega,fun row hrow=>?_,fun q hq=>?_,fun x hx=>?_⟩
  ·show _∧∀x∈row,0<=x∧x<((m.next++[zeros]).length:Int)
   rcases kU.1 hrow with h1|h1
   ·obtain⟨a,b⟩:=h.wide row h1
    exact⟨a,fun x hx=>by have:=b x hx;omega⟩
   ·rw[kY.1 h1]
    exact⟨by unfold zeros;exact List.length_replicate,fun x hx=>by rw[zHn x hx];omega⟩
  ·rcases kU.1 hq with h1|h1
   ·exact h.rules q h1
   ·rw[kY.1 h1];exact hr
  ·show 0<=x∧x<((m.next++[zeros]).length:Int)
   have:=h.of x hx;omega
theorem zHl (h:m.Tab nr)(r:Int):(m.add most r).Inr (m.addN most:Int):=by
 have:=h.one;unfold Mk.add Mk.addN Mk.Inr;split
 ·show(0:Int)<=((0:Nat):Int)∧((0:Nat):Int)<(m.next.length:Int)
  omega
 ·show(0:Int)<=(m.next.length:Int)∧(m.next.length:Int)<((m.next++[zeros]).length:Int)
  have hl:(m.next++[zeros]).length=m.next.length+1:=by simp
  omega
theorem zJX (h:m.Tab nr)(s b:Nat){x:Int}(hx:m.Inr x):(m.put s b x).Tab nr:=by
 have hl:=zCW m s b x;refine⟨by rw[hl];exact h.one,fun row hrow=>?_,h.rules,fun y hy=>by rw[hl];exact h.of y hy⟩;rw[hl];have hr:row∈m.next.set s ((m.next.getD s []).set b x):=hrow
 rcases List.mem_or_eq_of_mem_set hr with h1|h1
 ·exact h.wide row h1
 ·by_cases hs:s<m.next.length
  ·have hm:m.next.getD s []∈m.next:=by
    rw[lW,lV hs];exact List.getElem_mem _
   obtain⟨a,c⟩:=h.wide _ hm;rw[h1];refine⟨by rw[List.length_set];exact a,fun y hy=>?_⟩;rcases List.mem_or_eq_of_mem_set hy with h2|h2
   ·exact c y h2
   ·rw[h2];exact hx
  ·rw[List.set_eq_of_length_le (by omega)] at hr
   exact h.wide row hr
theorem zJA (h:m.Tab nr)(s:Nat){f:Nat->Int}(hf:∀i,i<64->m.Inr (f i))(j:Nat)(hj:j<=64):(m.fillTo s f j).Tab nr:=by
 induction j with
 |zero=>exact h
 |succ j ih=>
  rw[Mk.fillTo];exact zJX (ih (by omega)) _ _ ((hf j (by omega)).grow (by rw[zBm];omega))
theorem zHp (h:m.Tab nr)(hnr:0<=nr){f:Nat->Int}(hf:∀i,i<64->m.Inr (f i)):(m.withM most f).Tab nr∧(m.withM most f).Inr (m.withN most f:Int):=by
 have h1:=h.one;unfold Mk.withM Mk.withN;split
 ·exact⟨h,by unfold Mk.Inr;omega⟩
 split
 ·exact⟨h,by unfold Mk.Inr;omega⟩
 have ha:(m.add most (-1)).Tab nr:=zKk h ⟨by omega,by omega⟩;split
 ·exact⟨ha,zHl h (-1)⟩
 ·exact⟨zJA ha _ (fun i hi=>(hf i hi).grow (zDK m most (-1))) 64 lQ,(zHl h (-1)).grow (by rw[zBm];omega)⟩
end
def zFA (nr:Int)(sub:Mk->Nat->Int×Mk):Prop:=∀m c,m.Tab nr->(sub m c).2.Tab nr∧(sub m c).2.Inr (sub m c).1
theorem zMs (most:Nat)(nr:Int)(hnr:0<=nr)(c:Nat):∀(m:Mk) (to:Int),m.Tab nr->m.Inr to->(Mk.even most c m to).2.Tab nr∧(Mk.even most c m to).2.Inr (Mk.even most c m to).1:=by
 induction c with
 |zero=>exact fun m to h ht=>⟨h,ht⟩
 |succ c ih=>
  intro m to h ht;obtain⟨a,b⟩:=zHp (most:=most) h hnr (f:=fun _=>to) fun _ _=>ht;exact ih (m.withM most fun _=>to) ((m.withN most fun _=>to:Nat):Int) a b
theorem zJZ {m:Mk}{nr:Int}(h:m.Tab nr)(i:Nat):m.Inr (m.of.getD i 0):=by
 rw[lW];by_cases hi:i<m.of.length
 ·rw[lV hi]
  exact h.of _ (List.getElem_mem _)
 ·rw[List.getElem?_eq_none (by omega)]
  have:=h.one;exact⟨Int.le_refl _,by show(0:Int)<_;omega⟩
theorem zMW {nr:Int}{sub:Mk->Nat->Int×Mk}(h:zFA nr sub)(g:Grows sub)(step low:Nat){m:Mk}(hm:m.Tab nr)(j:Nat):(yS sub step low m j).2.Tab nr∧∀i,(yS sub step low m j).2.Inr ((yS sub step low m j).1 i):=by
 induction j with
 |zero=>
  have:=hm.one;exact⟨hm,fun i=>⟨Int.le_refl _,by show(0:Int)<_;show(0:Int)<(m.next.length:Int);omega⟩⟩
 |succ j ih=>
  obtain⟨a,b⟩:=ih;have h1:=a.one;unfold yS;split
  ·refine⟨a,fun i=>?_⟩
   show Mk.Inr _ (if i=j then 0 else _);split
   ·exact⟨Int.le_refl _,by show(0:Int)<((yS sub step low m j).2.next.length:Int);omega⟩
   ·exact b i
  ·obtain⟨c,d⟩:=h (yS sub step low m j).2 (low+j*step) a
   refine⟨c,fun i=>?_⟩;show Mk.Inr _ (if i=j then _ else _);split
   ·exact d
   ·exact(b i).grow (g _ _)
theorem zD0 (k:Kd)(a:Ar)(most kind cnt step:Nat){nr:Int}(hnr:0<=nr){sub:Mk->Nat->Int×Mk}(h:zFA nr sub)(g:Grows sub):zFA nr (jI k a most kind cnt step sub):=fun m low hm=>by
 unfold jI;split
 ·exact zMs most nr hnr cnt m _ hm (by unfold Mk.behind;exact zJZ hm _)
 ·obtain⟨b,c⟩:=zMW h g step low hm 64
  exact zHp b hnr fun i _=>c i
theorem zCB (k:Kd)(a:Ar)(most kind:Nat){nr:Int}(hnr:0<=nr)(l:Nat):zFA nr (yE k a most kind l):=by
 induction l with
 |zero=>exact zD0 k a most kind 1 1 hnr (fun m c hm=>⟨hm,by unfold Mk.behind;exact zJZ hm _⟩) fun m c=>lQ
 |succ l ih=>exact zD0 k a most kind (l+2) (qX (l+2)) hnr ih (zAr k a most kind l)
theorem zCd {nr:Int}{sub:Mk->Nat->Int×Mk}(h:zFA nr sub)(s lo:Nat){m:Mk}(hm:m.Tab nr)(j:Nat):(qV sub s lo m j).Tab nr:=by
 induction j with
 |zero=>exact hm
 |succ j ih=>
  obtain⟨a,b⟩:=h (qV sub s lo m j) (lo+j) ih;unfold qV;exact zJX a _ _ b
theorem zLb (k:Kd)(a:Ar)(most kind s:Nat){nr:Int}(hnr:0<=nr){m:Mk}(hm:m.Tab nr):(zA6 k a most kind s m).Tab nr:=by
 unfold zA6;refine zCd (fun m c hm=>?_) _ _ ?_ _
 ·unfold zCP;exact zCB k a most kind hnr 2 m _ hm
 unfold zC8;refine zCd (fun m c hm=>?_) _ _ ?_ _
 ·unfold zCQ;exact zCB k a most kind hnr 1 m _ hm
 unfold zC9;refine zCd (fun m c hm=>?_) _ _ ?_ _
 ·unfold zCR;exact zCB k a most kind hnr 0 m _ hm
 unfold zDa;exact zCd (fun m c hm=>⟨hm,by unfold zD8 Mk.behind;exact zJZ hm _⟩) _ _ hm _
theorem zKm (k:Kd)(most:Nat)(h1:1<=most){nr:Int}(hnr:0<=nr)(hr:∀r∈k.rules,-1<=r∧r<nr)(j:Nat)(hj:j<=k.rules.length):(zV k most j).Tab nr:=by
 induction j with
 |zero=>
  have e:zV k most 0=⟨[zeros],[-1],[],false⟩:=by
   show Mk.blank.add most (-1)=_;unfold Mk.add Mk.blank;rw[if_neg (by show¬most<=0;omega)];rfl
  rw[e];refine⟨lQ,fun row hrow=>?_,fun r hr=>?_,fun x hx=>by cases hx⟩
  ·rw[kY.1 hrow]
   exact⟨by unfold zeros;exact List.length_replicate,fun x hx=>by rw[zHn x hx];exact⟨Int.le_refl _,by show(0:Int)<1;omega⟩⟩
  ·rw[kY.1 hr];omega
 |succ j ih=>
  have ih:=ih (by omega);have ho:=ih.one;unfold zV;split
  ·refine⟨ih.one,ih.wide,ih.rules,fun x hx=>?_⟩
   have hx2:=hx;rcases kU.1 hx2 with h2|h2
   ·exact ih.of x h2
   ·rw[kY.1 h2];exact⟨Int.le_refl _,by show(0:Int)<((zV k most j).next.length:Int);omega⟩
  ·have hrj:-1<=k.rules.getD j 0∧k.rules.getD j 0<nr:=by
    rw[lW,lV (by omega:j<k.rules.length)];exact hr _ (List.getElem_mem _)
   have ha:((zV k most j).add most (k.rules.getD j 0)).Tab nr:=zKk ih hrj;have hn:((zV k most j).add most (k.rules.getD j 0)).Inr ((zV k most j).addN most:Int):=zHl ih _;refine⟨ha.one,ha.wide,ha.rules,fun x hx=>?_⟩;have hx2:=hx;rcases kU.1 hx2 with h2|h2
   ·rw[<-zCH (zV k most j) most (k.rules.getD j 0)] at h2
    exact ha.of x h2
   ·rw[kY.1 h2];exact hn
theorem zL8 (k:Kd)(a:Ar)(most:Nat)(h1:1<=most){nr:Int}(hnr:0<=nr)(hr:∀r∈k.rules,-1<=r∧r<nr)(hl:k.rules.length=k.rows.length)(j:Nat):(qM k a most j).Tab nr:=by
 induction j with
 |zero=>exact zKm k most h1 hnr hr k.rows.length (by omega)
 |succ j ih=>
  unfold qM;split
  ·exact zLb k a most _ _ hnr ih
  ·exact ih
theorem zGd (k:Kd)(a:Ar)(most:Nat){nr:Int}(hnr:0<=nr)(hr:∀r∈k.rules,-1<=r∧r<nr)(hl:k.rules.length=k.rows.length)(hf:(xZ k a most).full=false):(xZ k a most).Tab nr∧(xZ k a most).Fit most:=by
 have h1:=(zH8 k a most k.rows.length hf).1.one;have h2:=(zB8 k a most k.rows.length).1;have h3:=h2.few;exact⟨zL8 k a most (by omega) hnr hr hl _,h2⟩
end
def RowsOk (len top:Nat)(rows:List (List Nat)):Prop:=∀row∈rows,row.length=len∧∀x∈row,x<top
theorem RowsOk.up {len top top':Nat}{rows:List (List Nat)}(h:RowsOk len top rows)(ht:top<=top'):RowsOk len top' rows:=fun row hr=>⟨(h row hr).1,fun x hx=>lZ ((h row hr).2 x hx) ht⟩
theorem RowsOk.snoc {len top:Nat}{rows:List (List Nat)}{row:List Nat}(h:RowsOk len top rows)(h1:row.length=len∧∀x∈row,x<top):RowsOk len top (rows++[row]):=fun r hr=>by
 rcases kU.1 hr with h2|h2
 ·exact h r h2
 ·rw[kY.1 h2];exact h1
theorem zF5 (s:Sq)(ahead:Nat->Nat)(ends most:Nat):∀f i d rows rules d' rows' rules',s.sortGo ahead ends most f i d rows rules=some (d',rows',rules')->1<=f->i+f=most+1->rows.length=i->rules.length=i->i<=d.found.length->RowsOk s.sets.length d.found.length rows->(∀r∈rules,-1<=r∧r<(s.rules.length:Int))->
  rows'.length=d'.found.length∧rules'.length=rows'.length∧d.found.length<=d'.found.length∧rows'.length<=most+1∧RowsOk s.sets.length d'.found.length rows'∧∀r∈rules',-1<=r∧r<(s.rules.length:Int)
 |0,_,_,_,_,_,_,_,_,h1,_,_,_,_,_,_=>absurd h1 (by omega)
 |f+1,i,d,rows,rules,d',rows',rules',h,_,hif,hr,hl,hi,hro,hru=>by
  have h2:(if i<d.found.length then(if d.found.length>most then none else s.sortGo ahead ends most f (i+1) (s.rowTo (zAq ahead (d.found.getD i 0)) d s.sets.length).2 (rows++[(s.rowTo (zAq ahead (d.found.getD i 0)) d s.sets.length).1]) (rules++[vA s.rules (d.found.getD i 0&&&ends)])) else some (d,rows,rules))=some (d',rows',rules'):=h;by_cases h3:i<d.found.length
  ·rw[if_pos h3] at h2
   by_cases h4:d.found.length>most
   ·rw[if_pos h4] at h2;cases h2
   ·rw[if_neg h4] at h2
    obtain⟨e1,-,-,e4⟩:=s.rowTo_len (zAq ahead (d.found.getD i 0)) d s.sets.length;have e5:=s.rowTo_lt (zAq ahead (d.found.getD i 0)) d s.sets.length;have e6:=zI5 s.rules (d.found.getD i 0&&&ends);obtain⟨a,b,c,dd,ee,ff⟩:=zF5 s ahead ends most f (i+1) _ _ _ d' rows' rules' h2 (by omega) (by omega) (by rw[kX,hr];rfl) (by rw[kX,hl];rfl) (by omega) ((hro.up e4).snoc ⟨e1,e5⟩) (fun r hr=>by
     rcases kU.1 hr with h5|h5
     ·exact hru r h5
     ·rw[kY.1 h5];exact e6)
    exact⟨a,b,lY e4 c,dd,ee,ff⟩
  ·rw[if_neg h3] at h2
   have e:=hU h2;have e1:d=d':=congrArg Prod.fst e;have e2:rows=rows':=congrArg (fun x=>x.2.1) e;have e3:rules=rules':=congrArg (fun x=>x.2.2) e;subst e1 e2 e3;exact⟨by omega,by omega,lQ,by omega,hro,hru⟩
theorem zJT {n:Nt}{most:Nat}{k:Kd}(h:n.sort most=some k)(ok:n.Ok)(fit:n.Fits):k.Ok n.areas∧k.rows.length<=most+2∧∀r∈k.rules,-1<=r∧r<(n.rules.length:Int):=by
 obtain⟨g1,g2,g3,g4⟩:=zBj n.sets;have hf:=fit.few;have hsl:n.areas.sets.length=n.letters.length:=by
  have:=Ar.setsN_ints g1;show(xY n.sets).sets.length=(xY n.sets).setsN.length;rw[this,zN]
 unfold Nt.sort at h;cases hg:n.sq.sortGo n.ahead n.ends most (most+1) 0 n.start.2 [] [] with
 |none=>rw[hg] at h;cases h
 |some g=>
  obtain⟨d,rows,rules⟩:=g;rw[hg] at h;have e:=hU h;have e:=e;obtain⟨a,b,c,dd,ee,ff⟩:=zF5 n.sq n.ahead n.ends most (most+1) 0 n.start.2 [] [] d rows rules hg (by omega) (by omega) rfl rfl lX (fun r hr=>by cases hr) (fun r hr=>by cases hr);have hs1:=(n.sq.rowTo_len n.first ⟨[],[]⟩ n.letters.length).1;have hs2:∀x∈n.start.1,x<n.start.2.found.length:=n.sq.rowTo_lt n.first ⟨[],[]⟩ n.letters.length
  have hlk:=zJ4 (rows.map ints) rules (ints n.start.1);rw[kV] at hlk;have good:n.areas.Good 24:=⟨fun x hx=>by
   obtain⟨u,v⟩:=g1.sets x hx;have h24:(2:Nat)^n.sets.length<=2^24:=kG (by omega) ok.len;exact⟨u,by omega⟩,g1.letters,g1.lens⟩
  have getIn:∀{l:List (List Nat)} {top:Nat},RowsOk n.letters.length top l->∀i q,i<l.length->q<n.areas.sets.length->(l.getD i []).getD q 0<top:=fun{l top} hro i q hi hq=>by
   have hm:l.getD i []∈l:=by
    rw[lW,lV hi];exact List.getElem_mem _
   obtain⟨u,v⟩:=hro _ hm;have hq2:q<(l.getD i []).length:=by rw[u];omega
   have e2:(l.getD i []).getD q 0=(l.getD i [])[q]:=by rw[lW,lV hq2];rfl
   rw[e2];exact v _ (List.getElem_mem _)
  have getLen:∀{l:List (List Nat)} {top:Nat},RowsOk n.letters.length top l->∀i,i<l.length->(l.getD i []).length=n.areas.sets.length:=fun{l top} hro i hi=>by
   have hm:l.getD i []∈l:=by
    rw[lW,lV hi];exact List.getElem_mem _
   rw[(hro _ hm).1,hsl]
  have ee2:RowsOk n.letters.length d.found.length rows:=ee;subst e;unfold Nt.ended;split
  ·rename_i hq
   have hlen:(rows++[n.start.1]).length=rows.length+1:=by simp
   have hro:RowsOk n.letters.length (rows.length+1) (rows++[n.start.1]):=(ee2.up (by omega)).snoc ⟨hs1,fun x hx=>by have:=hs2 x hx;omega⟩;refine⟨⟨g2,by show(xY n.sets).lows.length<=_;omega,good,?_,fun i hi=>getLen hro i hi,fun i q hi hq=>?_,?_⟩,?_,fun r hr=>?_⟩
   ·show(rules++[-1]).length=(rows++[n.start.1]).length
    rw[hlen,kX,b];rfl
   ·show _<(rows++[n.start.1]).length
    rw[hlen];exact getIn hro i q hi hq
   ·show zAo _ _ _<(rows++[n.start.1]).length
    omega
   ·show(rows++[n.start.1]).length<=_
    omega
   ·have hr2:r∈rules++[-1]:=hr
    rcases kU.1 hr2 with h5|h5
    ·exact ff r h5
    ·rw[kY.1 h5];omega
  ·rename_i hq
   refine⟨⟨g2,by show(xY n.sets).lows.length<=_;omega,good,b,fun i hi=>getLen ee2 i hi,fun i q hi hq2=>?_,?_⟩,by show rows.length<=_;omega,ff⟩
   ·show _<rows.length
    rw[a];exact getIn ee2 i q hi hq2
   ·show zAo _ _ _<rows.length
    omega
end Go.Proofs.YtbjcfkdnjaiclaaGreat
