import Derived.Test.YtbjcfkdnjaiclaaGreatB0
import Derived.Test.YtbjcfkdnjaiclaaGreatB28
/- Parts of the proof, in order. -/
set_option linter.unusedVariables false
set_option linter.unusedSimpArgs false
set_option maxHeartbeats 4000000
set_option maxRecDepth 100000
namespace Go.Proofs.YtbjcfkdnjaiclaaGreat
open Go.RowKit Go.Proofs.Tryz Go.World
section
section
variable {w w2:World} {X:Nat->Prop} {S D:Nat} {sh:Sh} {mv dv av pv:Value} {rv:Nat->Value} {ps:Nat->List Nat} {dp:Nat->Nat} {o:Obj} {g cap:Nat}
theorem zB8 {p H e z n:Nat}{u u' v:Value}{xs:List Value}(hk:KeepO p u u' w w2)(ho:w.ownsRow H e z v n xs)(hp:∀g,v.ownBlock=some g->g≠p)(hne:∀g,v.ownBlock=some g->some g≠u.ownBlock):w2.ownsRow H e z v n xs∧∀g,v.ownBlock=some g->some g≠u'.ownBlock:=by
 refine⟨zD ho fun g hH hg hv=>(hk.block g hg (hp g hv) (hne g hv)).1,fun g hv=>?_⟩;have hl:=ho.lt g hv;exact(hk.block g hl.2 (hp g hv) (hne g hv)).2
def Sh.addMode (sh:Sh)(nm:ByteArray):Sh:={sh with modes:=sh.modes++[(nm,[])]}
def Sh.addDef (sh:Sh)(nm:ByteArray)(t:Tr):Sh:={sh with defs:=sh.defs++[(nm,t)]}
def Sh.addAct (sh:Sh)(a:Nat):Sh:={sh with acts:=sh.acts++[a]}
def Sh.addPush (sh:Sh)(nm:ByteArray):Sh:={sh with pushed:=sh.pushed++[nm]}
theorem zAe (sh:Sh)(nm:ByteArray)(i:Nat)(hi:i<sh.modes.length):(sh.addMode nm).mode i=sh.mode i:=by
 unfold Sh.mode Sh.addMode;rw[List.getD_eq_getElem?_getD,List.getD_eq_getElem?_getD];show((sh.modes++[(nm,[])])[i]?).getD _=_;rw[List.getElem?_append_left hi]
theorem zAf (sh:Sh)(nm:ByteArray):(sh.addMode nm).mode sh.modes.length=(nm,[]):=by
 unfold Sh.mode Sh.addMode;simp
theorem vZ (sh:Sh)(nm:ByteArray):(sh.addMode nm).modes.length=sh.modes.length+1:=by unfold Sh.addMode;simp
theorem zCO (sh:Sh)(nm:ByteArray)(t:Tr)(i:Nat)(hi:i<sh.defs.length):(sh.addDef nm t).defn i=sh.defn i:=by
 unfold Sh.defn Sh.addDef;rw[List.getD_eq_getElem?_getD,List.getD_eq_getElem?_getD];show((sh.defs++[(nm,t)])[i]?).getD _=_;rw[List.getElem?_append_left hi]
theorem zCP (sh:Sh)(nm:ByteArray)(t:Tr):(sh.addDef nm t).defn sh.defs.length=(nm,t):=by
 unfold Sh.defn Sh.addDef;simp
theorem zCQ (sh:Sh)(nm:ByteArray)(t:Tr):(sh.addDef nm t).defs.length=sh.defs.length+1:=by unfold Sh.addDef;simp
theorem Sw.appAct (h:Sw w X S D sh mv dv av pv rv ps dp){x:Nat}(hown:w2.ownsRow (S+1) 3 1 (.slice (some ⟨g,0,none⟩) (sh.acts.length+1) cap) (sh.acts.length+1) ((sh.acts.map fun x:Nat=>.int .i64 (x:Int))++[.int .i64 (x:Int)]))(hg:(w.alloc o).grownBy w2 av.ownBlock)(hat:av.ownBlock=some g∨w.heap.size<=g):
  Sw (w2.setCell ⟨S,2,none⟩ (.slice (some ⟨g,0,none⟩) (sh.acts.length+1) cap)) X S D (sh.addAct x) mv dv (.slice (some ⟨g,0,none⟩) (sh.acts.length+1) cap) pv rv ps dp∧KeepO S av (.slice (some ⟨g,0,none⟩) (sh.acts.length+1) cap) w (w2.setCell ⟨S,2,none⟩ (.slice (some ⟨g,0,none⟩) (sh.acts.length+1) cap)):=by
 obtain⟨a1,a2,a3⟩:=zEq (i:=2) h.aOwn (Nat.lt_succ_self S) h.lt hown hg hat
 have km:=xW a2 h.mOwn (Nat.lt_succ_self S) (zY h.mOwn h.aOwn (by decide));have kd:=xW a2 h.dOwn (Nat.lt_succ_self S) (zY h.dOwn h.aOwn (by decide));have kp:=xW a2 h.pOwn (Nat.lt_succ_self S) (zY h.pOwn h.aOwn (by decide));have kr:=fun i (hi:i<sh.modes.length)=>xW a2 (h.rOwn i hi) (Nat.lt_succ_self S) (zY (h.rOwn i hi) h.aOwn (by decide));have hX:∀q,X q->q≠S∧some q≠av.ownBlock:=fun q hq=>⟨Nat.ne_of_gt (h.xlt q hq).1,(h.xm q hq).2.2.1⟩
 have tk:∀d b t,TreeIn X w d b t->TreeIn X (w2.setCell ⟨S,2,none⟩ (.slice (some ⟨g,0,none⟩) (sh.acts.length+1) cap)) d b t:=fun d b t ht=>vS a2 ht hX;have hxn:∀q,X q->some q≠(Value.slice (some ⟨g,0,none⟩) (sh.acts.length+1) cap).ownBlock:=fun q hq=>(a2.block q (h.xlt q hq).2 (hX q hq).1 (hX q hq).2).2;have hb:(w2.setCell ⟨S,2,none⟩ (.slice (some ⟨g,0,none⟩) (sh.acts.length+1) cap)).heap[S]? =some (.cells #[mv,dv,(.slice (some ⟨g,0,none⟩) (sh.acts.length+1) cap),pv] 114):=by
  have:=a3.trans h.blk;simp[setCell,Array.getElem?_modify,this]
 have xl:∀q,X q->S<q∧q<(w2.setCell ⟨S,2,none⟩ (.slice (some ⟨g,0,none⟩) (sh.acts.length+1) cap)).heap.size:=fun q hq=>⟨(h.xlt q hq).1,Nat.lt_of_lt_of_le (h.xlt q hq).2 a2.size⟩
 refine⟨⟨hb,km.1,kd.1,(by show(setCell _ _ _).ownsRow _ _ _ _ (sh.acts++[x]).length ((sh.acts++[x]).map _);rw[List.length_append,List.map_append];exact a1),kp.1,fun i hi=>(kr i hi).1,h.rApart,fun i hi k hk=>tk _ _ _ (h.rTree i hi k hk),fun i hi=>tk _ _ _ (h.dTree i hi),xl,fun q hq=>⟨(h.xm q hq).1,(h.xm q hq).2.1,hxn q hq,(h.xm q hq).2.2.2⟩,h.xr,Nat.lt_of_lt_of_le h.lt a2.size⟩,a2⟩
theorem Sw.appPush (h:Sw w X S D sh mv dv av pv rv ps dp){x:ByteArray}(hown:w2.ownsRow (S+1) 9 1 (.slice (some ⟨g,0,none⟩) (sh.pushed.length+1) cap) (sh.pushed.length+1) ((sh.pushed.map fun x=>.string x)++[.string x]))(hg:(w.alloc o).grownBy w2 pv.ownBlock)(hat:pv.ownBlock=some g∨w.heap.size<=g):
  Sw (w2.setCell ⟨S,3,none⟩ (.slice (some ⟨g,0,none⟩) (sh.pushed.length+1) cap)) X S D (sh.addPush x) mv dv av (.slice (some ⟨g,0,none⟩) (sh.pushed.length+1) cap) rv ps dp∧KeepO S pv (.slice (some ⟨g,0,none⟩) (sh.pushed.length+1) cap) w (w2.setCell ⟨S,3,none⟩ (.slice (some ⟨g,0,none⟩) (sh.pushed.length+1) cap)):=by
 obtain⟨a1,a2,a3⟩:=zEq (i:=3) h.pOwn (Nat.lt_succ_self S) h.lt hown hg hat
 have km:=xW a2 h.mOwn (Nat.lt_succ_self S) (zY h.mOwn h.pOwn (by decide));have kd:=xW a2 h.dOwn (Nat.lt_succ_self S) (zY h.dOwn h.pOwn (by decide));have ka:=xW a2 h.aOwn (Nat.lt_succ_self S) (zY h.aOwn h.pOwn (by decide));have kr:=fun i (hi:i<sh.modes.length)=>xW a2 (h.rOwn i hi) (Nat.lt_succ_self S) (zY (h.rOwn i hi) h.pOwn (by decide));have hX:∀q,X q->q≠S∧some q≠pv.ownBlock:=fun q hq=>⟨Nat.ne_of_gt (h.xlt q hq).1,(h.xm q hq).2.2.2⟩
 have tk:∀d b t,TreeIn X w d b t->TreeIn X (w2.setCell ⟨S,3,none⟩ (.slice (some ⟨g,0,none⟩) (sh.pushed.length+1) cap)) d b t:=fun d b t ht=>vS a2 ht hX;have hxn:∀q,X q->some q≠(Value.slice (some ⟨g,0,none⟩) (sh.pushed.length+1) cap).ownBlock:=fun q hq=>(a2.block q (h.xlt q hq).2 (hX q hq).1 (hX q hq).2).2;have hb:(w2.setCell ⟨S,3,none⟩ (.slice (some ⟨g,0,none⟩) (sh.pushed.length+1) cap)).heap[S]? =some (.cells #[mv,dv,av,(.slice (some ⟨g,0,none⟩) (sh.pushed.length+1) cap)] 114):=by
  have:=a3.trans h.blk;simp[setCell,Array.getElem?_modify,this]
 have xl:∀q,X q->S<q∧q<(w2.setCell ⟨S,3,none⟩ (.slice (some ⟨g,0,none⟩) (sh.pushed.length+1) cap)).heap.size:=fun q hq=>⟨(h.xlt q hq).1,Nat.lt_of_lt_of_le (h.xlt q hq).2 a2.size⟩
 refine⟨⟨hb,km.1,kd.1,ka.1,(by show(setCell _ _ _).ownsRow _ _ _ _ (sh.pushed++[x]).length ((sh.pushed++[x]).map _);rw[List.length_append,List.map_append];exact a1),fun i hi=>(kr i hi).1,h.rApart,fun i hi k hk=>tk _ _ _ (h.rTree i hi k hk),fun i hi=>tk _ _ _ (h.dTree i hi),xl,fun q hq=>⟨(h.xm q hq).1,(h.xm q hq).2.1,(h.xm q hq).2.2.1,hxn q hq⟩,h.xr,Nat.lt_of_lt_of_le h.lt a2.size⟩,a2⟩
theorem Sw.appDef (h:Sw w X S D sh mv dv av pv rv ps dp){nm:ByteArray}{t:Tr}{q0:Nat}(ht:TreeIn X w D q0 t)(hown:w2.ownsRow (S+1) 233 2 (.slice (some ⟨g,0,none⟩) (sh.defs.length+1) cap) (sh.defs.length+1) (zAS (fun i=>.string (sh.defn i).1) (fun i=>.pointer (some ⟨dp i,0,none⟩)) sh.defs.length++[.string nm,.pointer (some ⟨q0,0,none⟩)]))(hg:(w.alloc o).grownBy w2 dv.ownBlock)(hat:dv.ownBlock=some g∨w.heap.size<=g):
  Sw (w2.setCell ⟨S,1,none⟩ (.slice (some ⟨g,0,none⟩) (sh.defs.length+1) cap)) X S D (sh.addDef nm t) mv (.slice (some ⟨g,0,none⟩) (sh.defs.length+1) cap) av pv rv ps (fun i=>if i=sh.defs.length then q0 else dp i)∧KeepO S dv (.slice (some ⟨g,0,none⟩) (sh.defs.length+1) cap) w (w2.setCell ⟨S,1,none⟩ (.slice (some ⟨g,0,none⟩) (sh.defs.length+1) cap)):=by
 obtain⟨a1,a2,a3⟩:=zEq (i:=1) h.dOwn (Nat.lt_succ_self S) h.lt hown hg hat
 have km:=xW a2 h.mOwn (Nat.lt_succ_self S) (zY h.mOwn h.dOwn (by decide));have ka:=xW a2 h.aOwn (Nat.lt_succ_self S) (zY h.aOwn h.dOwn (by decide));have kp:=xW a2 h.pOwn (Nat.lt_succ_self S) (zY h.pOwn h.dOwn (by decide));have kr:=fun i (hi:i<sh.modes.length)=>xW a2 (h.rOwn i hi) (Nat.lt_succ_self S) (zY (h.rOwn i hi) h.dOwn (by decide));have hX:∀q,X q->q≠S∧some q≠dv.ownBlock:=fun q hq=>⟨Nat.ne_of_gt (h.xlt q hq).1,(h.xm q hq).2.1⟩
 have tk:∀d b t,TreeIn X w d b t->TreeIn X (w2.setCell ⟨S,1,none⟩ (.slice (some ⟨g,0,none⟩) (sh.defs.length+1) cap)) d b t:=fun d b t ht=>vS a2 ht hX;have hxn:∀q,X q->some q≠(Value.slice (some ⟨g,0,none⟩) (sh.defs.length+1) cap).ownBlock:=fun q hq=>(a2.block q (h.xlt q hq).2 (hX q hq).1 (hX q hq).2).2;have hb:(w2.setCell ⟨S,1,none⟩ (.slice (some ⟨g,0,none⟩) (sh.defs.length+1) cap)).heap[S]? =some (.cells #[mv,(.slice (some ⟨g,0,none⟩) (sh.defs.length+1) cap),av,pv] 114):=by
  have:=a3.trans h.blk;simp[setCell,Array.getElem?_modify,this]
 have xl:∀q,X q->S<q∧q<(w2.setCell ⟨S,1,none⟩ (.slice (some ⟨g,0,none⟩) (sh.defs.length+1) cap)).heap.size:=fun q hq=>⟨(h.xlt q hq).1,Nat.lt_of_lt_of_le (h.xlt q hq).2 a2.size⟩
 refine⟨⟨hb,km.1,(by rw[zCQ,qV,zCP,if_pos rfl,zAR (fun i=>.string ((sh.addDef nm t).defn i).1) (fun i=>.pointer (some ⟨if i=sh.defs.length then q0 else dp i,0,none⟩)) (fun i=>.string (sh.defn i).1) (fun i=>.pointer (some ⟨dp i,0,none⟩)) _ fun i hi=>⟨by rw[zCO sh nm t i hi],by rw[if_neg (by omega)]⟩];exact a1),ka.1,kp.1,fun i hi=>(kr i hi).1,h.rApart,fun i hi k hk=>tk _ _ _ (h.rTree i hi k hk),fun i hi=>(by
  rw[zCQ] at hi;by_cases e:i=sh.defs.length
  ·subst e;rw[zCP];simp only[if_pos];exact tk _ _ _ ht
  ·rw[zCO sh nm t i (by omega)];simp only[if_neg e];exact tk _ _ _ (h.dTree i (by omega))),xl,fun q hq=>⟨(h.xm q hq).1,hxn q hq,(h.xm q hq).2.2.1,(h.xm q hq).2.2.2⟩,h.xr,Nat.lt_of_lt_of_le h.lt a2.size⟩,a2⟩
theorem Sw.appMode (h:Sw w X S D sh mv dv av pv rv ps dp){nm:ByteArray}(hown:w2.ownsRow (S+1) 120 2 (.slice (some ⟨g,0,none⟩) (sh.modes.length+1) cap) (sh.modes.length+1) (zAS (fun i=>.string (sh.mode i).1) rv sh.modes.length++[.string nm,.slice none 0 0]))(hg:(w.alloc o).grownBy w2 mv.ownBlock)(hat:mv.ownBlock=some g∨w.heap.size<=g):
  Sw (w2.setCell ⟨S,0,none⟩ (.slice (some ⟨g,0,none⟩) (sh.modes.length+1) cap)) X S D (sh.addMode nm) (.slice (some ⟨g,0,none⟩) (sh.modes.length+1) cap) dv av pv (fun i=>if i=sh.modes.length then .slice none 0 0 else rv i) (fun i=>if i=sh.modes.length then[] else ps i) dp∧KeepO S mv (.slice (some ⟨g,0,none⟩) (sh.modes.length+1) cap) w (w2.setCell ⟨S,0,none⟩ (.slice (some ⟨g,0,none⟩) (sh.modes.length+1) cap)):=by
 obtain⟨a1,a2,a3⟩:=zEq (i:=0) h.mOwn (Nat.lt_succ_self S) h.lt hown hg hat
 have kd:=xW a2 h.dOwn (Nat.lt_succ_self S) (zY h.dOwn h.mOwn (by decide));have ka:=xW a2 h.aOwn (Nat.lt_succ_self S) (zY h.aOwn h.mOwn (by decide));have kp:=xW a2 h.pOwn (Nat.lt_succ_self S) (zY h.pOwn h.mOwn (by decide));have kr:=fun i (hi:i<sh.modes.length)=>xW a2 (h.rOwn i hi) (Nat.lt_succ_self S) (zY (h.rOwn i hi) h.mOwn (by decide));have hX:∀q,X q->q≠S∧some q≠mv.ownBlock:=fun q hq=>⟨Nat.ne_of_gt (h.xlt q hq).1,(h.xm q hq).1⟩
 have tk:∀d b t,TreeIn X w d b t->TreeIn X (w2.setCell ⟨S,0,none⟩ (.slice (some ⟨g,0,none⟩) (sh.modes.length+1) cap)) d b t:=fun d b t ht=>vS a2 ht hX;have hxn:∀q,X q->some q≠(Value.slice (some ⟨g,0,none⟩) (sh.modes.length+1) cap).ownBlock:=fun q hq=>(a2.block q (h.xlt q hq).2 (hX q hq).1 (hX q hq).2).2;have hb:(w2.setCell ⟨S,0,none⟩ (.slice (some ⟨g,0,none⟩) (sh.modes.length+1) cap)).heap[S]? =some (.cells #[(.slice (some ⟨g,0,none⟩) (sh.modes.length+1) cap),dv,av,pv] 114):=by
  have:=a3.trans h.blk;simp[setCell,Array.getElem?_modify,this]
 have xl:∀q,X q->S<q∧q<(w2.setCell ⟨S,0,none⟩ (.slice (some ⟨g,0,none⟩) (sh.modes.length+1) cap)).heap.size:=fun q hq=>⟨(h.xlt q hq).1,Nat.lt_of_lt_of_le (h.xlt q hq).2 a2.size⟩
 refine⟨⟨hb,(by rw[vZ,qV,zAf,if_pos rfl,zAR (fun i=>.string ((sh.addMode nm).mode i).1) (fun i=>if i=sh.modes.length then .slice none 0 0 else rv i) (fun i=>.string (sh.mode i).1) rv _ fun i hi=>⟨by rw[zAe sh nm i hi],by rw[if_neg (by omega)]⟩];exact a1),kd.1,ka.1,kp.1,fun i hi=>(by
  rw[vZ] at hi;by_cases e:i=sh.modes.length
  ·subst e;rw[zAf];simp only[if_pos];exact ownsRow_nil _ _ _ _
  ·rw[zAe sh nm i (by omega)];simp only[if_neg e];exact(kr i (by omega)).1),fun i j q hi hj hij hq=>(by
  rw[vZ] at hi hj;by_cases e:i=sh.modes.length
  ·simp only[if_pos e] at hq;cases hq
  ·simp only[if_neg e] at hq
   by_cases e2:j=sh.modes.length
   ·simp only[if_pos e2];intro e3;cases e3
   ·simp only[if_neg e2];exact h.rApart i j q (by omega) (by omega) hij hq),fun i hi k hk=>(by
  rw[vZ] at hi;by_cases e:i=sh.modes.length
  ·subst e;rw[zAf] at hk;exact absurd hk (Nat.not_lt_zero _)
  ·rw[zAe sh nm i (by omega)] at hk ⊢;simp only[if_neg e];exact tk _ _ _ (h.rTree i (by omega) k hk)),fun i hi=>tk _ _ _ (h.dTree i hi),xl,fun q hq=>⟨hxn q hq,(h.xm q hq).2.1,(h.xm q hq).2.2.1,(h.xm q hq).2.2.2⟩,fun q i hq hi=>(by
  rw[vZ] at hi;by_cases e:i=sh.modes.length
  ·simp only[if_pos e];intro e3;cases e3
  ·simp only[if_neg e];exact h.xr q i hq (by omega)),Nat.lt_of_lt_of_le h.lt a2.size⟩,a2⟩
end
end
def Sh.addRule (sh:Sh)(k:Nat)(t:Tr):Sh:={sh with modes:=sh.modes.set k ((sh.mode k).1,(sh.mode k).2++[t])}
theorem zEc (sh:Sh)(k:Nat)(t:Tr):(sh.addRule k t).modes.length=sh.modes.length:=by unfold Sh.addRule;simp
theorem zAd (sh:Sh)(k:Nat)(t:Tr)(i:Nat)(hi:i≠k):(sh.addRule k t).mode i=sh.mode i:=by
 unfold Sh.addRule
 conv=>lhs;unfold Sh.mode
 conv=>rhs;unfold Sh.mode
 rw[List.getD_eq_getElem?_getD,List.getD_eq_getElem?_getD];show((sh.modes.set k _)[i]?).getD _=_;rw[List.getElem?_set_ne (Ne.symm hi),List.getD_eq_getElem?_getD]
theorem zAV (sh:Sh)(k:Nat)(t:Tr)(hk:k<sh.modes.length):(sh.addRule k t).mode k=((sh.mode k).1,(sh.mode k).2++[t]):=by
 unfold Sh.addRule
 conv=>lhs;unfold Sh.mode
 rw[List.getD_eq_getElem?_getD];show((sh.modes.set k _)[k]?).getD _=_;rw[List.getElem?_set_self hk];rfl
theorem zG5 (sh:Sh)(k:Nat)(t:Tr)(hk:k<sh.modes.length)(i:Nat):((sh.addRule k t).mode i).1=(sh.mode i).1:=by
 by_cases e:i=k
 ·subst e;rw[zAV sh i t hk]
 ·rw[zAd sh k t i e]
theorem Sw.appRule {w w2:World}{X:Nat->Prop}{S D:Nat}{sh:Sh}{dv av pv:Value}{rv:Nat->Value}{ps:Nat->List Nat}{dp:Nat->Nat}{o:Obj}{g cap mg mc k q0:Nat}{t:Tr}(h:Sw w X S D sh (.slice (some ⟨mg,0,none⟩) sh.modes.length mc) dv av pv rv ps dp)(hk:k<sh.modes.length)(ht:TreeIn X w D q0 t)(hown:w2.ownsRow (S+1) 158 1 (.slice (some ⟨g,0,none⟩) ((sh.mode k).2.length+1) cap) ((sh.mode k).2.length+1) (xT (ps k)++[.pointer (some ⟨q0,0,none⟩)]))(hg:(w.alloc o).grownBy w2 (rv k).ownBlock)(hat:(rv k).ownBlock=some g∨w.heap.size<=g):
  Sw (w2.setCell ⟨mg,k*2+1,none⟩ (.slice (some ⟨g,0,none⟩) ((sh.mode k).2.length+1) cap)) X S D (sh.addRule k t) (.slice (some ⟨mg,0,none⟩) sh.modes.length mc) dv av pv (fun i=>if i=k then .slice (some ⟨g,0,none⟩) ((sh.mode k).2.length+1) cap else rv i) (fun i=>if i=k then ps k++[q0] else ps i) dp∧KeepO mg (rv k) (.slice (some ⟨g,0,none⟩) ((sh.mode k).2.length+1) cap) w (w2.setCell ⟨mg,k*2+1,none⟩ (.slice (some ⟨g,0,none⟩) ((sh.mode k).2.length+1) cap)):=by
 have hS:=h.lt;have hmg:=h.mOwn.lt mg rfl;have hmr:=zY h.mOwn (h.rOwn k hk) (by decide) mg rfl;have hsz:w.heap.size<=w2.heap.size:=Nat.le_trans (by simp) hg.size;have hgm:g≠mg:=fun e=>by
  rcases hat with ha|ha
  ·exact hmr (by rw[ha,e])
  ·omega
 have bl:∀j,j<w.heap.size->some j≠(rv k).ownBlock->w2.heap[j]? =w.heap[j]? :=fun j hj hne=>(hg.block j (by simp;omega) hne).trans (Below.heap_alloc _ _ _ hj);have a2:KeepO mg (rv k) (.slice (some ⟨g,0,none⟩) ((sh.mode k).2.length+1) cap) w (w2.setCell ⟨mg,k*2+1,none⟩ (.slice (some ⟨g,0,none⟩) ((sh.mode k).2.length+1) cap)):=⟨hg.os,hg.output,by rw[zC];exact hsz,fun j h1 h2 h3=>⟨(Below.heap_setCell _ _ _ _ h2).trans (bl j h1 h3),fun e=>by
  have e2:j=g:=by simpa[Value.ownBlock] using e
  rcases hat with ha|ha
  ·exact h3 (by rw[ha,e2])
  ·omega⟩⟩
 have ne:∀{e z n v xs},w.ownsRow (S+1) e z v n xs->e≠120->∀q,v.ownBlock=some q->q≠mg:=fun ho he q hq e2=>zY ho h.mOwn he q hq (by rw[e2];rfl);have kd:=zB8 a2 h.dOwn (ne h.dOwn (by decide)) (zY h.dOwn (h.rOwn k hk) (by decide));have ka:=zB8 a2 h.aOwn (ne h.aOwn (by decide)) (zY h.aOwn (h.rOwn k hk) (by decide));have kp:=zB8 a2 h.pOwn (ne h.pOwn (by decide)) (zY h.pOwn (h.rOwn k hk) (by decide));have kr:=fun i (hi:i<sh.modes.length) (hik:i≠k)=>zB8 a2 (h.rOwn i hi) (ne (h.rOwn i hi) (by decide)) (fun q hq=>h.rApart i k q hi hk hik hq);have hX:∀q,X q->q≠mg∧some q≠(rv k).ownBlock:=fun q hq=>⟨fun e=>(h.xm q hq).1 (by rw[e];rfl),h.xr q k hq hk⟩
 have tk:∀d b t,TreeIn X w d b t->TreeIn X (w2.setCell ⟨mg,k*2+1,none⟩ (.slice (some ⟨g,0,none⟩) ((sh.mode k).2.length+1) cap)) d b t:=fun d b t ht=>vS a2 ht hX;have hlen:=zEc sh k t;refine⟨⟨?_,?_,kd.1,ka.1,kp.1,fun i hi=>?_,fun i j q hi hj hij hq=>?_,fun i hi j hj=>?_,fun i hi=>tk _ _ _ (h.dTree i hi),fun q hq=>⟨(h.xlt q hq).1,Nat.lt_of_lt_of_le (h.xlt q hq).2 a2.size⟩,h.xm,fun q i hq hi=>?_,Nat.lt_of_lt_of_le hS a2.size⟩,a2⟩
 ·exact(a2.block S hS (by omega) fun e=>by have:=((h.rOwn k hk).lt S e.symm).1;omega).1.trans h.blk
 ·have h1:=zD h.mOwn fun q _ hq hv=>bl q hq (by
   have e:mg=q:=by simpa[Value.ownBlock] using hv
   rw[<-e];exact hmr)
  have h2:=h1.stored (k*2+1) (.slice (some ⟨g,0,none⟩) ((sh.mode k).2.length+1) cap);rw[zKc _ _ _ _ _ hk] at h2;rw[hlen,zAR (fun i=>.string ((sh.addRule k t).mode i).1) _ (fun i=>.string (sh.mode i).1) (fun i=>if i=k then .slice (some ⟨g,0,none⟩) ((sh.mode k).2.length+1) cap else rv i) _ fun i _=>⟨by rw[zG5 sh k t hk],rfl⟩];exact h2.1
 ·rw[hlen] at hi
  by_cases e:i=k
  ·subst e
   rw[zAV sh i t hk];simp only[if_pos];have e2:((sh.mode i).2++[t]).length=(sh.mode i).2.length+1:=by simp
   have e3:xT (ps i++[q0])=xT (ps i)++[.pointer (some ⟨q0,0,none⟩)]:=by simp[xT]
   show World.ownsRow _ _ _ _ _ ((sh.mode i).2++[t]).length _;rw[e2,e3];exact zD hown fun q _ _ hv=>Below.heap_setCell _ _ _ _ (by
    have e4:g=q:=by simpa[Value.ownBlock] using hv
    rw[<-e4];exact hgm)
  ·rw[zAd sh k t i e]
   simp only[if_neg e];exact(kr i hi e).1
 ·rw[hlen] at hi hj
  by_cases e:i=k
  ·simp only[if_pos e] at hq
   have e2:j≠k:=fun e2=>hij (by rw[e,e2]);simp only[if_neg e2];exact fun e3=>(kr j hj e2).2 q e3.symm (hq.symm)
  ·simp only[if_neg e] at hq
   by_cases e2:j=k
   ·simp only[if_pos e2]
    exact(kr i hi e).2 q hq
   ·simp only[if_neg e2]
    exact h.rApart i j q hi hj hij hq
 ·rw[hlen] at hi
  by_cases e:i=k
  ·subst e
   rw[zAV sh i t hk] at hj ⊢;simp only[if_pos];have hpl:(ps i).length=(sh.mode i).2.length:=by
    have:=(h.rOwn i hi).1;unfold xT at this;rw[List.length_map] at this;omega
   have hj2:j<(sh.mode i).2.length+1:=by simpa using hj
   show TreeIn X _ D ((ps i++[q0]).getD j 0) (((sh.mode i).2++[t]).getD j Tr.none);by_cases hj3:j<(sh.mode i).2.length
   ·have e1:(ps i++[q0]).getD j 0=(ps i).getD j 0:=by rw[List.getD_eq_getElem?_getD,List.getD_eq_getElem?_getD,List.getElem?_append_left (by omega)]
    have e2:((sh.mode i).2++[t]).getD j Tr.none=(sh.mode i).2.getD j Tr.none:=by rw[List.getD_eq_getElem?_getD,List.getD_eq_getElem?_getD,List.getElem?_append_left hj3]
    rw[e1,e2];exact tk _ _ _ (h.rTree i hi j hj3)
   ·have e5:j=(sh.mode i).2.length:=by omega
    subst e5;have e1:(ps i++[q0]).getD (sh.mode i).2.length 0=q0:=by rw[<-hpl];simp
    have e2:((sh.mode i).2++[t]).getD (sh.mode i).2.length Tr.none=t:=by simp
    rw[e1,e2];exact tk _ _ _ ht
  ·rw[zAd sh k t i e] at hj ⊢
   simp only[if_neg e];exact tk _ _ _ (h.rTree i hi j hj)
 ·rw[hlen] at hi
  by_cases e:i=k
  ·simp only[if_pos e]
   exact(a2.block q (h.xlt q hq).2 (hX q hq).1 (hX q hq).2).2
  ·simp only[if_neg e]
   exact h.xr q i hq hi
theorem zGe {α:Type}(l:List α)(p:α->Bool)(d:α)(j:Nat)(hj:j<l.length)(h:p (l.getD j d)=true)(hn:∀i,i<j->p (l.getD i d)=false):l.findIdx p=j:=by
 have hg:∀i (hi:i<l.length),l.getD i d=l[i]:=fun i hi=>by rw[List.getD_eq_getElem?_getD,List.getElem?_eq_getElem hi];rfl
 rw[List.findIdx_eq hj];refine⟨by rw[<-hg j hj];exact h,fun k hk=>?_⟩;rw[<-hg k (by omega)];exact hn k hk
theorem zHY {α:Type}(l:List α)(p:α->Bool)(d:α)(hn:∀i,i<l.length->p (l.getD i d)=false):l.findIdx p=l.length:=by
 apply List.findIdx_eq_length_of_false;intro x hx;obtain⟨i,hi,e⟩:=List.getElem_of_mem hx;have:=hn i hi;rw[List.getD_eq_getElem?_getD,List.getElem?_eq_getElem hi] at this;rw[<-e];exact this
def Sh.modeIx (sh:Sh)(nm:ByteArray):Nat:=sh.modes.findIdx fun m=>eqS m.1 nm
def Sh.modeI (sh:Sh)(nm:ByteArray):Int:=if sh.modeIx nm<sh.modes.length then(sh.modeIx nm:Int) else -1
def Sh.hasDefB (sh:Sh)(nm:ByteArray):Bool:=decide ((sh.defs.findIdx fun m=>eqS m.1 nm)<sh.defs.length)
theorem qG {w:World}{H e z n:Nat}{v:Value}{xs:List Value}(h:w.ownsRow H e z v n xs)(hn:0<n):∃g cap,v=.slice (some ⟨g,0,none⟩) n cap∧H<=g∧g<w.heap.size∧n<=cap∧cap<=maxLen∧(∀j u,xs[j]? =some u->w.cell? ⟨g,j,none⟩=some u)∧∀j,w.frozen? ⟨g,j,none⟩=false:=by
 rcases h.2 with⟨-,h0⟩|⟨g,cap,cur,hv,hH,hh,h1,h2,-⟩
 ·omega
 ·have hl:=h.lt g (by rw[hv];rfl)
  refine⟨g,cap,hv,hH,hl.2,h1,h2,fun j u hu=>?_,fun j=>?_⟩
  ·have:=h.cells (g:=g) (by rw[hv];rfl) j u hu
   rw[Addr.add_lit,Nat.zero_add] at this;exact this
  ·unfold frozen?;rw[hh];simp
theorem zC6 (w:World)(X:Nat->Prop)(S D:Nat)(sh:Sh)(mv dv av pv:Value)(rv:Nat->Value)(ps:Nat->List Nat)(dp:Nat->Nat)(h:Sw w X S D sh mv dv av pv rv ps dp)(hlen:sh.modes.length<=1000000)(nm:ByteArray):
  Calls prog 88 #[.pointer (some ⟨S,0,none⟩),.string nm] w fun e w'=>e=.returned (.int .i64 (sh.modeI nm))∧Grew w w':=by
 have H1:Hid (∀j,j<sh.modes.length->eqS (sh.mode j).1 nm=true->(∀i,i<j->eqS (sh.mode i).1 nm=false)->sh.modeI nm=(j:Int)):=fun j hj hh hn=>by
  have e:sh.modeIx nm=j:=zGe sh.modes _ (⟨#[]⟩,[]) j hj hh hn;unfold Sh.modeI;rw[e,if_pos hj]
 have H2:Hid ((∀i,i<sh.modes.length->eqS (sh.mode i).1 nm=false)->sh.modeI nm=-1):=fun hn=>by
  have e:sh.modeIx nm=sh.modes.length:=zHY sh.modes _ (⟨#[]⟩,[]) hn;unfold Sh.modeI;rw[e,if_neg (by omega)]
 generalize sh.modeI nm=V at *;obtain⟨ao,cap0,hmv⟩:=zE h.mOwn;obtain⟨c0,-,-,-,-⟩:=h.cells;have HS:=vl h;have HMV:=vl hmv;rw[hmv] at c0;go_in;go_wp2;go_loopg [12] sh.modes.length (fun q i wr=>∃j:Nat,q=sh.modes.length-j∧j<=sh.modes.length∧i=.int .i64 (j:Int)∧(∀k,k<j->eqS (sh.mode k).1 nm=false)∧Grew w wr)
 case atStart=>exact⟨0,rfl,Nat.zero_le _,rfl,fun k hk=>by omega,Keep.refl _ _ _⟩
 case round=>
  obtain⟨j,hgk,hj,rfl,hno,hk⟩:=hrel;have HA:Hid (gk=sh.modes.length-j∧(∀k,k<j->eqS (sh.mode k).1 nm=false)∧Grew w wr∧w.heap.size<=wr.heap.size):=⟨hgk,hno,hk,hk.size⟩
  by_cases hj2:j<sh.modes.length
  ·have i1:(j:Int)<(sh.modes.length:Int):=by omega
   obtain⟨mg,mc,hmv2,-,hmgl,-,-,hcl,-⟩:=qG HS.out.mOwn (by omega);rw[HMV.out] at hmv2;injection hmv2 with ea eb ec;subst ea ec;obtain⟨e1,e2⟩:=zA2 (fun i=>.string (sh.mode i).1) rv sh.modes.length j hj2;have y0:=zA (hcl _ _ e1) hmgl hk;have y1:=zA (hcl _ _ e2) hmgl hk;obtain⟨ra,rc,hrv⟩:=zE (HS.out.rOwn j hj2);rw[hrv] at y1;obtain⟨wa,hwa,z0,HKa⟩:∃wa,wa=wr.alloc (.cells #[.string (sh.mode j).1,(.slice ra (sh.mode j).2.length rc)] 120)∧wa.cell? ⟨wr.heap.size,0,none⟩=some (.string (sh.mode j).1)∧Hid (Grew w wa):=by
    have hb2:=heap_alloc_new wr (.cells #[.string (sh.mode j).1,(.slice ra (sh.mode j).2.length rc)] 120);refine⟨_,rfl,?_,HA.out.2.2.1.trans (Keep.alloc _ _ HA.out.2.2.2)⟩;unfold cell?;rw[hb2];rfl
   have HH1:Hid (eqS (sh.mode j).1 nm=true->V=(j:Int)):=fun hh=>H1.out j hj2 hh HA.out.2.1;have HNO:Hid (eqS (sh.mode j).1 nm=false->∀k,k<j+1->eqS (sh.mode k).1 nm=false):=fun hh k hk=>by
    by_cases e:k=j
    ·rw[e];exact hh
    ·exact HA.out.2.1 k (by omega)
   refine wp_cut ?_;intro K1 HK1;go_wp2;refine HK1.out _ _ ?_;refine wp_cut ?_;intro K1 HK1;go_wp2;refine HK1.out _ _ ?_;refine wp_cut ?_;intro KB HKB;refine wp_block ?_;refine wp_cut ?_;intro K1 HK1;go_wp2;refine HK1.out _ _ ?_;clear HK1;rw[<-hwa];clear hwa y0 y1;cases hc:eqS (sh.mode j).1 nm with
   |true=>
    have HV:=vl <| HH1.out hc;have hc2:((sh.mode j).1.toList==nm.toList)=true:=hc;clear HH1 HNO hc;go_wp2;go_ret;exact⟨by rw[HV.out];rfl,HKa.out⟩
   |false=>
    have HN2:=HNO.out hc;have hc2:((sh.mode j).1.toList==nm.toList)=false:=hc;clear HH1 HNO hc;go_wp2;refine HKB.out _ _ ?_;clear HKB;go_wp2;go_roundg (sh.modes.length-(j+1))
    case measure=>rw[HA.out.1];omega
    case rel=>exact⟨j+1,rfl,by omega,by go_num,HN2,HKa.out⟩
  ·have i1:(sh.modes.length:Int)<=(j:Int):=by omega
   have HV:=vl <| H2.out fun k hk=>hno k (by omega);clear hgk hno hk;go_wp2;go_ret;exact⟨by rw[HV.out];rfl,HA.out.2.2.1⟩
theorem zDc (w:World)(X:Nat->Prop)(S D:Nat)(sh:Sh)(mv dv av pv:Value)(rv:Nat->Value)(ps:Nat->List Nat)(dp:Nat->Nat)(h:Sw w X S D sh mv dv av pv rv ps dp)(hlen:sh.defs.length<=1000000)(nm:ByteArray):
  Calls prog 161 #[.pointer (some ⟨S,0,none⟩),.string nm] w fun e w'=>e=.returned (.bool (sh.hasDefB nm))∧Grew w w':=by
 have H1:Hid (∀j,j<sh.defs.length->eqS (sh.defn j).1 nm=true->(∀i,i<j->eqS (sh.defn i).1 nm=false)->sh.hasDefB nm=true):=fun j hj hh hn=>by
  have e:(sh.defs.findIdx fun m=>eqS m.1 nm)=j:=zGe sh.defs _ (⟨#[]⟩,Tr.none) j hj hh hn;unfold Sh.hasDefB;rw[e];exact decide_eq_true hj
 have H2:Hid ((∀i,i<sh.defs.length->eqS (sh.defn i).1 nm=false)->sh.hasDefB nm=false):=fun hn=>by
  have e:(sh.defs.findIdx fun m=>eqS m.1 nm)=sh.defs.length:=zHY sh.defs _ (⟨#[]⟩,Tr.none) hn;unfold Sh.hasDefB;rw[e];exact decide_eq_false (by omega)
 generalize sh.hasDefB nm=V at *;obtain⟨ao,cap0,hmv⟩:=zE h.dOwn;obtain⟨-,c0,-,-,-⟩:=h.cells;have HS:=vl h;have HMV:=vl hmv;rw[hmv] at c0;go_in;go_wp2;go_loopg [12] sh.defs.length (fun q i wr=>∃j:Nat,q=sh.defs.length-j∧j<=sh.defs.length∧i=.int .i64 (j:Int)∧(∀k,k<j->eqS (sh.defn k).1 nm=false)∧Grew w wr)
 case atStart=>exact⟨0,rfl,Nat.zero_le _,rfl,fun k hk=>by omega,Keep.refl _ _ _⟩
 case round=>
  obtain⟨j,hgk,hj,rfl,hno,hk⟩:=hrel;have HA:Hid (gk=sh.defs.length-j∧(∀k,k<j->eqS (sh.defn k).1 nm=false)∧Grew w wr∧w.heap.size<=wr.heap.size):=⟨hgk,hno,hk,hk.size⟩
  by_cases hj2:j<sh.defs.length
  ·have i1:(j:Int)<(sh.defs.length:Int):=by omega
   obtain⟨mg,mc,hmv2,-,hmgl,-,-,hcl,-⟩:=qG HS.out.dOwn (by omega);rw[HMV.out] at hmv2;injection hmv2 with ea eb ec;subst ea ec;obtain⟨e1,e2⟩:=zA2 (fun i=>.string (sh.defn i).1) (fun i=>.pointer (some ⟨dp i,0,none⟩)) sh.defs.length j hj2;have y0:=zA (hcl _ _ e1) hmgl hk;have y1:=zA (hcl _ _ e2) hmgl hk;obtain⟨wa,hwa,z0,HKa⟩:∃wa,wa=wr.alloc (.cells #[.string (sh.defn j).1,(.pointer (some ⟨dp j,0,none⟩))] 233)∧wa.cell? ⟨wr.heap.size,0,none⟩=some (.string (sh.defn j).1)∧Hid (Grew w wa):=by
    have hb2:=heap_alloc_new wr (.cells #[.string (sh.defn j).1,(.pointer (some ⟨dp j,0,none⟩))] 233);refine⟨_,rfl,?_,HA.out.2.2.1.trans (Keep.alloc _ _ HA.out.2.2.2)⟩;unfold cell?;rw[hb2];rfl
   have HH1:Hid (eqS (sh.defn j).1 nm=true->V=true):=fun hh=>H1.out j hj2 hh HA.out.2.1;have HNO:Hid (eqS (sh.defn j).1 nm=false->∀k,k<j+1->eqS (sh.defn k).1 nm=false):=fun hh k hk=>by
    by_cases e:k=j
    ·rw[e];exact hh
    ·exact HA.out.2.1 k (by omega)
   refine wp_cut ?_;intro K1 HK1;go_wp2;refine HK1.out _ _ ?_;refine wp_cut ?_;intro K1 HK1;go_wp2;refine HK1.out _ _ ?_;refine wp_cut ?_;intro KB HKB;refine wp_block ?_;refine wp_cut ?_;intro K1 HK1;go_wp2;refine HK1.out _ _ ?_;clear HK1;rw[<-hwa];clear hwa y0 y1;cases hc:eqS (sh.defn j).1 nm with
   |true=>
    have HV:=vl <| HH1.out hc;have hc2:((sh.defn j).1.toList==nm.toList)=true:=hc;clear HH1 HNO hc;go_wp2;go_ret;exact⟨by rw[HV.out];rfl,HKa.out⟩
   |false=>
    have HN2:=HNO.out hc;have hc2:((sh.defn j).1.toList==nm.toList)=false:=hc;clear HH1 HNO hc;go_wp2;refine HKB.out _ _ ?_;clear HKB;go_wp2;go_roundg (sh.defs.length-(j+1))
    case measure=>rw[HA.out.1];omega
    case rel=>exact⟨j+1,rfl,by omega,by go_num,HN2,HKa.out⟩
  ·have i1:(sh.defs.length:Int)<=(j:Int):=by omega
   have HV:=vl <| H2.out fun k hk=>hno k (by omega);clear hgk hno hk;go_wp2;go_ret;exact⟨by rw[HV.out];rfl,HA.out.2.2.1⟩
theorem zIZ:(prog.info? 120).map (fun i=>(i.zero,i.size,i.bytes))=some (some (.agg #[.string ⟨#[]⟩,.slice none 0 0]),2,40):=by kernel_rfl
def yG (sh:Sh)(nm:ByteArray):Option Sh:=if 3<=sh.modes.length then none else if 0<=sh.modeI nm then none else if xG nm then some (sh.addMode nm) else none
def LnAns (w:World)(S D:Nat)(a:Option Sh)(e:Ending)(w':World):Prop:=
 Keep S S w w'∧match a with
 |none=>e=.returned (.bool false)
 |some sh=>e=.returned (.bool true)∧SwIs w' S D sh
theorem zD1 (sh:Sh)(nm:ByteArray):sh.modeI nm=-1∨(0<=sh.modeI nm∧sh.modeI nm<sh.modes.length):=by
 unfold Sh.modeI;split
 ·right;omega
 ·left;rfl
theorem zEQ (w:World)(X:Nat->Prop)(S D:Nat)(sh:Sh)(mv dv av pv:Value)(rv:Nat->Value)(ps:Nat->List Nat)(dp:Nat->Nat)(h:Sw w X S D sh mv dv av pv rv ps dp)(hlen:sh.modes.length<=1000000)(nm:ByteArray)(hs:nm.size<=1048576):
  Calls prog 120 #[.pointer (some ⟨S,0,none⟩),.string nm] w (LnAns w S D (yG sh nm)):=by
 obtain⟨i0,hi0,hz0,hz1,hz2⟩:=info_parts zIZ;obtain⟨ao,cap0,hmv⟩:=zE h.mOwn;subst hmv;obtain⟨c0,-,-,-,-⟩:=h.cells;have HMO:=vl <| zC6 w X S D sh _ dv av pv rv ps dp h hlen nm;have HNM:Hid (∀w,Calls prog 160 #[.string nm] w fun e w'=>e=.returned (.bool (xG nm))∧w'=w):=fun w=>vE w nm hs;have HS:=vl h;have hlS:=h.lt;have HLS:Hid (∀w1,Grew w w1->Keep S S w w1):=fun w1 hk=>hk.lower (Nat.le_of_lt hlS) (Nat.le_of_lt hlS);have HM:Hid (yG sh nm=if 3<=sh.modes.length then none else if 0<=sh.modeI nm then none else if xG nm then some (sh.addMode nm) else none):=rfl;by_cases h3:3<=sh.modes.length
 ·have HV:Hid (yG sh nm=none):=by show _=_;rw[HM.out,if_pos h3]
  have j3:(3:Int)<=(sh.modes.length:Int):=by omega
  rw[HV.out];go_in;go_wp2;go_ret;exact⟨Keep.refl _ _ _,rfl⟩
 have j3:(sh.modes.length:Int)<3:=by omega
 rcases zD1 sh nm with hmi|⟨hmi,-⟩
 ·rw[hmi] at HMO
  have HMO2:=vl HMO;cases hn:xG nm with
  |false=>
   rw[hn] at HNM;have HNM2:=vl HNM;have HV:Hid (yG sh nm=none):=by show _=_;rw[HM.out,if_neg h3,if_neg (by rw[hmi];decide),hn];rfl
   rw[HV.out];go_in;go_wp2_with (first|(go_at_call 88;refine HMO2.out.mono ?_;rintro e w1 ⟨rfl,hk1⟩)|(go_at_call 160;refine(HNM2.out _).mono ?_;rintro e w9 ⟨rfl,hw9⟩;have hw8:=hw9.symm;subst hw8))
   go_ret;exact⟨HLS.out _ hk1,rfl⟩
  |true=>
   rw[hn] at HNM;have HNM2:=vl HNM;have HV:Hid (yG sh nm=some (sh.addMode nm)):=by show _=_;rw[HM.out,if_neg h3,if_neg (by rw[hmi];decide),hn];rfl
   rw[HV.out];go_in;refine wp_cut ?_;intro K0 HK0;go_wp2;refine HK0.out _ _ ?_;refine wp_cut ?_;intro K0 HK0;go_wp2_with (first|(go_at_call 88;refine HMO2.out.mono ?_;rintro e w1 ⟨rfl,hk1⟩)|(go_at_call 160;refine(HNM2.out _).mono ?_;rintro e w9 ⟨rfl,hw9⟩;have hw8:=hw9.symm;subst hw8))
   refine HK0.out _ _ ?_;have h1:=HS.out.grown hk1;have H1:Hid (Sw w1 X S D sh (.slice ao sh.modes.length cap0) dv av pv rv ps dp∧Keep S S w w1):=⟨h1,HLS.out _ hk1⟩
   obtain⟨x0,-,-,-,xf⟩:=h1.cells;have xf0:=xf 0;have OW:=h1.mOwn;have hlt1:=h1.lt;have HNP:=vl <| zL h1.mOwn h1.blk (by decide);refine wp_cut ?_;intro K0 HK0;go_wp2_with (first|(at_builtin;refine wpList_append_lies _ rfl _ _ 77 rfl (S+1) 120 i0 (.agg #[.string ⟨#[]⟩,.slice none 0 0]) 2 40 underlying77 hi0 hz0 hz1 hz2 rfl (by decide) _ _ _ rfl (OW.alloc _) ⟨w1.heap.size,0,none⟩ 1 1 [.string nm,.slice none 0 0] rfl rfl (news_of_block (cs:=#[.string nm,.slice none 0 0]) (t:=120) (fr:=(0,0)) (heap_alloc_new w1 _)) (by simp[Value.oneCell']) (by decide) (by unfold maxLen;omega) (by omega) (by simp;omega) _ rfl ?_;intro gg cap w2 hown hgrow hat hlt;have hPB:=hgrow.block S (by simp;omega) HNP.out;have x0b:=(cell?_of_block hPB).trans ((cell?_alloc_past _ _ _ hlt1).trans x0);have xf0b:=(frozen?_of_block hPB).trans ((frozen?_alloc_past _ _ _ hlt1).trans xf0)))
   refine HK0.out _ _ ?_;obtain⟨w3,hw3,H3⟩:∃w3,w3=w2.setCell ⟨S,0,none⟩ (.slice (some ⟨gg,0,none⟩) (sh.modes.length+1) cap)∧Hid (SwIs w3 S D (sh.addMode nm)∧Keep S S w w3):=by
    obtain⟨q1,q2⟩:=H1.out.1.appMode hown hgrow (by rcases hat with ha|ha;exact .inl ha;right;rw[ha];simp);exact⟨_,rfl,⟨X,_,dv,av,pv,_,_,dp,q1⟩,H1.out.2.trans ((q2.keep H1.out.1.mOwn H1.out.1.lt).lower (Nat.le_succ S) (Nat.le_refl S))⟩
   rw[<-hw3];go_wp2;go_ret;exact⟨H3.out.2,rfl,H3.out.1⟩
 ·have HV:Hid (yG sh nm=none):=by show _=_;rw[HM.out,if_neg h3,if_pos hmi]
  rw[HV.out];generalize sh.modeI nm=mi at *;go_in;go_wp2_with (first|(go_at_call 88;refine HMO.out.mono ?_;rintro e w1 ⟨rfl,hk1⟩))
  go_ret;exact⟨HLS.out _ hk1,rfl⟩
end Go.Proofs.YtbjcfkdnjaiclaaGreat
