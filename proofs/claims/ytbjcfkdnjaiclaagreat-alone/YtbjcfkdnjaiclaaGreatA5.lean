import Derived.ChangeKeysEq
import Derived.Deep.DrawnRows
import Derived.Deep.RegionLaw
import Derived.Test.YtbjcfkdnjaiclaaGreatA0
import Derived.Test.YtbjcfkdnjaiclaaGreatA4
/- Parts of the proof. -/
set_option linter.unusedVariables false
set_option linter.unusedSimpArgs false
set_option maxHeartbeats 4000000
set_option maxRecDepth 100000
namespace Go.Proofs.YtbjcfkdnjaiclaaGreat
open Go.RowKit Go.Proofs.Tryz Go.World
open Go.Value (int slice bool pointer string agg tuple)
open Go.IntKind (i64)
open Go.Ending (returned)
section
attribute [local go_sem ↓] Go.wp_at_zero Go.wp_at_succ
def zeros:List Int:=List.replicate 256 0
theorem zMh {w:World}{H g:Nat}(h:w.ownsRow H 3 1 (slice (some ⟨g,0,none⟩) 256 256) 256 ((List.range 256).map fun _=>int i64 0)):w.heap[g]? =some (.cells (zCZ zeros) 3):=by
 rcases h.2 with⟨hv,_⟩|⟨g1,cap,cur,hv,_,hh,_,_,h3,h4⟩
 ·cases hv
 ·injection hv with e1 e2 e3
  injection e1 with e1;injection e1 with e1;subst e1 e3;rw[hh];have h5:cur.toList=(List.range 256).map fun _=>int i64 0:=by
   rw[<-h4,List.take_of_length_le (by rw[Array.length_toList,h3];exact lQ)]
  have h6:cur=zCZ zeros:=by
   apply Array.toList_inj.1;rw[h5];unfold zCZ zeros;rw[List.map_replicate];apply List.ext_getElem
   ·rw[kV,List.length_range,List.length_replicate]
   ·intro i h1 h2
    rw[List.getElem_map,List.getElem_replicate]
  rw[h6]
section
variable {w0 w w1 w2:World} {mb kb most:Nat} {m:Mk} {nv rv ov:Value} {gs:Nat->Nat}
theorem Mw.newRow {o:Obj}{g cap n:Nat}(h:Mw w0 w mb kb most m nv rv ov gs)(hn:n=m.next.length)(hk1:Grew w w1)(hrow:w1.heap[w.heap.size]? =some (.cells (zCZ zeros) 3))
  (hown:w2.ownsRow w0.heap.size 45 1 (slice (some ⟨g,0,none⟩) (n+1) cap) (n+1) (((List.range n).map fun i=>slice (some ⟨gs i,0,none⟩) 256 256)++[slice (some ⟨w.heap.size,0,none⟩) 256 256])) (hg:(w1.alloc o).grownBy w2 nv.ownBlock) (hat:nv.ownBlock=some g∨w1.heap.size<=g):
  Mw w0 (w2.setCell ⟨mb,3,none⟩ (slice (some ⟨g,0,none⟩) (n+1) cap)) mb kb most {m with next:=m.next++[zeros]} (slice (some ⟨g,0,none⟩) (n+1) cap) rv ov (fun i=>if i=n then w.heap.size else gs i)∧StayT w (w2.setCell ⟨mb,3,none⟩ (slice (some ⟨g,0,none⟩) (n+1) cap)):=by
 subst hn;have h1:=h.grown hk1;have hbx:=h1.box;have hlt:=h1.lt;have hlw:=h.lt;have hw1l:=(kQ.1 hrow).1;have hH:=h.keep.size;have hbl:∀j,j<w1.heap.size->some j≠nv.ownBlock->w2.heap[j]? =w1.heap[j]? :=fun j hj hf=>(hg.block j (by simp;omega) hf).trans (lG _ _ _ (by omega));have hsz:w1.heap.size<=w2.heap.size:=lY (by simp) hg.size;have hb:=(hbl mb hlt hbx.1).trans h1.blk;have e:∀k,k≠mb->(w2.setCell ⟨mb,3,none⟩ (slice (some ⟨g,0,none⟩) (m.next.length+1) cap)).heap[k]? =w2.heap[k]? :=fun k hk=>lJ _ _ _ _ hk;have hgn:∀i,i<m.next.length->some (gs i)≠nv.ownBlock:=fun i hi=>zM h1.nOwn (h1.each i hi).1 (by decide)
 have hfn:some w.heap.size≠nv.ownBlock:=fun e2=>by have:=(h.nOwn.lt _ e2.symm).2;omega
 have hr2:=zR hg h1.rOwn fun k hk=>xN h1.rOwn h1.nOwn (by decide) hk;have ho2:=zR hg h1.oOwn fun k hk=>xN h1.oOwn h1.nOwn (by decide) hk;have hgm:mb≠g:=fun e2=>by
  rcases hat with ha|ha
  ·exact hbx.1 (by rw[ha,e2])
  ·omega
 have hlen:(m.next++[zeros]).length=m.next.length+1:=by simp
 have hgl:∀i,i<m.next.length->gs i<w.heap.size:=fun i hi=>h.gl i hi
 refine⟨⟨by simp[setCell,lU,hb],?_,fun i hi=>?_,zD hr2 fun k _ _ hk=>e k fun e2=>hbx.2.1 (by rw[hk,e2]),zD ho2 fun k _ _ hk=>e k fun e2=>hbx.2.2.1 (by rw[hk,e2]),fun i j hi hj=>?_,fun i hi=>?_,fun i hi=>?_,h.ro,h.mH,h1.keep.trans ⟨hg.os,hg.output,by rw[zC];exact hsz,fun k hk _=>(e k (by have:=h.mH;omega)).trans (hbl k (by omega) fun e2=>by have:=(h.nOwn.lt k e2.symm).1;omega)⟩⟩,fun k c t hk t1 t2 t3=>?_⟩
 ·show Row _ _ _ _ (m.next++[zeros]).length _
  rw[hlen];have h2:Row w2 w0.heap.size 45 (slice (some ⟨g,0,none⟩) (m.next.length+1) cap) (m.next.length+1) (fun i=>slice (some ⟨if i=m.next.length then w.heap.size else gs i,0,none⟩) 256 256):=by
   unfold Row;rw[jU,if_pos rfl];rw[show (List.range m.next.length).map (fun i=>Value.slice (some ⟨if i=m.next.length then w.heap.size else gs i,0,none⟩) 256 256)=(List.range m.next.length).map fun i=>Value.slice (some ⟨gs i,0,none⟩) 256 256 from List.map_congr_left fun i hi=>by rw[if_neg (by have:=List.mem_range.1 hi;omega)]];exact hown
  exact zD h2 fun k _ _ hk=>e k fun e2=>by
   have:g=k:=by simpa[Value.ownBlock] using hk
   omega
 ·show _=some (Obj.cells (zCZ ((m.next++[zeros]).getD i [])) _)∧_∧((m.next++[zeros]).getD i []).length=256
  by_cases e3:i=m.next.length
  ·subst e3
   rw[if_pos rfl,lW,gQ lQ,Nat.sub_self];exact⟨(e _ (by omega)).trans ((hbl _ hw1l hfn).trans hrow),hH,List.length_replicate ..⟩
  ·have hi2:i<m.next.length:=by
    have hi':i<(m.next++[zeros]).length:=hi;omega
   rw[if_neg e3,lW,kW hi2,<-lW];exact⟨(e _ (hbx.2.2.2 i hi2)).trans ((hbl _ (h1.gl i hi2) (hgn i hi2)).trans (h1.each i hi2).1),(h1.each i hi2).2⟩
 ·have hi':i<(m.next++[zeros]).length:=hi
  have hj':j<(m.next++[zeros]).length:=hj;intro e3;by_cases a1:i=m.next.length
  ·by_cases a2:j=m.next.length
   ·omega
   ·rw[if_pos a1,if_neg a2] at e3
    have:=hgl j (by omega);omega
  ·by_cases a2:j=m.next.length
   ·rw[if_neg a1,if_pos a2] at e3
    have:=hgl i (by omega);omega
   ·rw[if_neg a1,if_neg a2] at e3
    exact h.inj i j (by omega) (by omega) e3
 ·have hi':i<(m.next++[zeros]).length:=hi
  split
  ·intro e2;have:=(h.rOwn.lt _ e2.symm).2;omega
  ·exact h.nr i (by omega)
 ·have hi':i<(m.next++[zeros]).length:=hi
  split
  ·intro e2;have:=(h.oOwn.lt _ e2.symm).2;omega
  ·exact h.no i (by omega)
 ·have hl:=(kQ.1 hk).1
  have hk1':=(hk1.block k hl (kJ hl)).trans hk;have hkm:k≠mb:=fun e2=>by
   rw[e2,h.blk] at hk;injection hk with hk;injection hk with _ hk;exact t3 hk.symm
  exact(e k hkm).trans ((hbl k (by omega) (zM h1.nOwn hk1' (Ne.symm t2))).trans hk1')
theorem Mw.newRule {o:Obj}{g cap n:Nat}{x:Int}(h:Mw w0 w mb kb most m nv rv ov gs)(hn:n=m.rules.length)(hown:w2.ownsRow w0.heap.size 3 1 (slice (some ⟨g,0,none⟩) (n+1) cap) (n+1) ((m.rules.map fun x=>int i64 x)++[int i64 x]))(hg:(w.alloc o).grownBy w2 rv.ownBlock)(hat:rv.ownBlock=some g∨w.heap.size<=g):
  Mw w0 (w2.setCell ⟨mb,4,none⟩ (slice (some ⟨g,0,none⟩) (n+1) cap)) mb kb most {m with rules:=m.rules++[x]} nv (slice (some ⟨g,0,none⟩) (n+1) cap) ov gs∧StayT w (w2.setCell ⟨mb,4,none⟩ (slice (some ⟨g,0,none⟩) (n+1) cap)):=by
 subst hn;have hbx:=h.box;have hlt:=h.lt;have hbl:∀j,j<w.heap.size->some j≠rv.ownBlock->w2.heap[j]? =w.heap[j]? :=fun j hj hf=>(hg.block j (by simp;omega) hf).trans (lG _ _ _ (by omega));have hsz:w.heap.size<=w2.heap.size:=lY (by simp) hg.size;have hb:=(hbl mb hlt hbx.2.1).trans h.blk;have e:∀k,k≠mb->(w2.setCell ⟨mb,4,none⟩ (slice (some ⟨g,0,none⟩) (m.rules.length+1) cap)).heap[k]? =w2.heap[k]? :=fun k hk=>lJ _ _ _ _ hk;have hn2:=zR hg h.nOwn fun k hk=>xN h.nOwn h.rOwn (by decide) hk;have ho2:=zR hg h.oOwn fun k hk=>fun e2=>h.ro k e2.symm hk.symm;have hgm:mb≠g:=fun e2=>by
  rcases hat with ha|ha
  ·exact hbx.2.1 (by rw[ha,e2])
  ·omega
 refine⟨⟨by simp[setCell,lU,hb],zD hn2 fun k _ _ hk=>e k fun e2=>hbx.1 (by rw[hk,e2]),fun i hi=>⟨(e _ (hbx.2.2.2 i hi)).trans ((hbl _ (h.gl i hi) (h.nr i hi)).trans (h.each i hi).1),(h.each i hi).2⟩,zD (OwnI.snoc hown) fun k _ _ hk=>e k fun e2=>?_,zD ho2 fun k _ _ hk=>e k fun e2=>hbx.2.2.1 (by rw[hk,e2]),h.inj,fun i hi e2=>?_,h.no,yX h.oOwn h.ro hat,h.mH,h.keep.trans ⟨hg.os,hg.output,by rw[zC];exact hsz,fun k hk _=>(e k (by have:=h.mH;omega)).trans (hbl k (by have:=h.keep.size;omega) fun e2=>by have:=(h.rOwn.lt k e2.symm).1;omega)⟩⟩,fun k c t hk t1 t2 t3=>?_⟩
 ·have:g=k:=by simpa[Value.ownBlock] using hk
  omega
 ·have e4:gs i=g:=by simpa[Value.ownBlock] using e2
  rcases hat with ha|ha
  ·exact h.nr i hi (by rw[ha,e4])
  ·have:=h.gl i hi;omega
 ·have hl:=(kQ.1 hk).1
  have hkm:k≠mb:=fun e2=>by
   rw[e2,h.blk] at hk;injection hk with hk;injection hk with _ hk;exact t3 hk.symm
  exact(e k hkm).trans ((hbl k hl (zM h.rOwn hk (Ne.symm t1))).trans hk)
theorem Mw.newOf {o:Obj}{g cap n:Nat}{x:Int}(h:Mw w0 w mb kb most m nv rv ov gs)(hn:n=m.of.length)(hown:w2.ownsRow w0.heap.size 3 1 (slice (some ⟨g,0,none⟩) (n+1) cap) (n+1) ((m.of.map fun x=>int i64 x)++[int i64 x]))(hg:(w.alloc o).grownBy w2 ov.ownBlock)(hat:ov.ownBlock=some g∨w.heap.size<=g):
  Mw w0 (w2.setCell ⟨mb,6,none⟩ (slice (some ⟨g,0,none⟩) (n+1) cap)) mb kb most {m with of:=m.of++[x]} nv rv (slice (some ⟨g,0,none⟩) (n+1) cap) gs∧StayT w (w2.setCell ⟨mb,6,none⟩ (slice (some ⟨g,0,none⟩) (n+1) cap)):=by
 subst hn;have hbx:=h.box;have hlt:=h.lt;have hbl:∀j,j<w.heap.size->some j≠ov.ownBlock->w2.heap[j]? =w.heap[j]? :=fun j hj hf=>(hg.block j (by simp;omega) hf).trans (lG _ _ _ (by omega));have hsz:w.heap.size<=w2.heap.size:=lY (by simp) hg.size;have hb:=(hbl mb hlt hbx.2.2.1).trans h.blk;have e:∀k,k≠mb->(w2.setCell ⟨mb,6,none⟩ (slice (some ⟨g,0,none⟩) (m.of.length+1) cap)).heap[k]? =w2.heap[k]? :=fun k hk=>lJ _ _ _ _ hk;have hn2:=zR hg h.nOwn fun k hk=>xN h.nOwn h.oOwn (by decide) hk;have hr2:=zR hg h.rOwn h.ro;have hgm:mb≠g:=fun e2=>by
  rcases hat with ha|ha
  ·exact hbx.2.2.1 (by rw[ha,e2])
  ·omega
 refine⟨⟨by simp[setCell,lU,hb],zD hn2 fun k _ _ hk=>e k fun e2=>hbx.1 (by rw[hk,e2]),fun i hi=>⟨(e _ (hbx.2.2.2 i hi)).trans ((hbl _ (h.gl i hi) (h.no i hi)).trans (h.each i hi).1),(h.each i hi).2⟩,zD hr2 fun k _ _ hk=>e k fun e2=>hbx.2.1 (by rw[hk,e2]),zD (OwnI.snoc hown) fun k _ _ hk=>e k fun e2=>?_,h.inj,h.nr,fun i hi e2=>?_,zCg (yX h.rOwn (fun g hg e=>h.ro g e.symm hg.symm) hat),h.mH,h.keep.trans ⟨hg.os,hg.output,by rw[zC];exact hsz,fun k hk _=>(e k (by have:=h.mH;omega)).trans (hbl k (by have:=h.keep.size;omega) fun e2=>by have:=(h.oOwn.lt k e2.symm).1;omega)⟩⟩,fun k c t hk t1 t2 t3=>?_⟩
 ·have:g=k:=by simpa[Value.ownBlock] using hk
  omega
 ·have e4:gs i=g:=by simpa[Value.ownBlock] using e2
  rcases hat with ha|ha
  ·exact h.no i hi (by rw[ha,e4])
  ·have:=h.gl i hi;omega
 ·have hl:=(kQ.1 hk).1
  have hkm:k≠mb:=fun e2=>by
   rw[e2,h.blk] at hk;injection hk with hk;injection hk with _ hk;exact t3 hk.symm
  exact(e k hkm).trans ((hbl k hl (zM h.oOwn hk (Ne.symm t1))).trans hk)
theorem Mw.fill (h:Mw w0 w mb kb most m nv rv ov gs):Mw w0 (w.setCell ⟨mb,2,none⟩ (bool true)) mb kb most {m with full:=true} nv rv ov gs∧StayT w (w.setCell ⟨mb,2,none⟩ (bool true)):=by
 have hbx:=h.box;have e:∀k,k≠mb->(w.setCell ⟨mb,2,none⟩ (bool true)).heap[k]? =w.heap[k]? :=fun k hk=>lJ _ _ _ _ hk;refine⟨⟨by simp[setCell,lU,h.blk],zD h.nOwn fun k _ _ hk=>e k fun e2=>hbx.1 (by rw[hk,e2]),fun i hi=>⟨(e _ (hbx.2.2.2 i hi)).trans (h.each i hi).1,(h.each i hi).2⟩,zD h.rOwn fun k _ _ hk=>e k fun e2=>hbx.2.1 (by rw[hk,e2]),zD h.oOwn fun k _ _ hk=>e k fun e2=>hbx.2.2.1 (by rw[hk,e2]),h.inj,h.nr,h.no,h.ro,h.mH,h.keep.trans (zO _ _ _ _ h.mH)⟩,fun k c t hk t1 t2 t3=>(e k fun e2=>?_).trans hk⟩;rw[e2,h.blk] at hk;injection hk with hk;injection hk with _ hk;exact t3 hk.symm
end
end
section
attribute [local go_sem ↓] Go.wp_at_zero Go.wp_at_succ
def Mk.addN (m:Mk)(most:Nat):Nat:=if most<=m.next.length then 0 else m.next.length
def Mk.add (m:Mk)(most:Nat)(rule:Int):Mk:=if most<=m.next.length then{m with full:=true} else{m with next:=m.next++[zeros],rules:=m.rules++[rule]}
theorem MwIs.grown {w0 w w2:World}{mb kb most:Nat}{m:Mk}(h:MwIs w0 w mb kb most m)(hk:Grew w w2):MwIs w0 w2 mb kb most m:=by
 obtain⟨nv,rv,ov,gs,h⟩:=h;exact⟨nv,rv,ov,gs,h.grown hk⟩
theorem zEd (w0 w:World)(mb kb most:Nat)(m:Mk)(h:MwIs w0 w mb kb most m)(hmost:most<=1000000)(hr:m.rules.length<=1000000)(rule:Int):
  Calls prog 133 #[pointer (some ⟨mb,0,none⟩),int i64 rule] w fun e w'=>e=returned (int i64 ((m.addN most:Nat):Int))∧MwIs w0 w' mb kb most (m.add most rule)∧StayT w w':=by
 obtain⟨i0,hi0,hz0,hz1,hz2⟩:=info_parts yL;obtain⟨ii1,hi1,hy0,hy1,hy2⟩:=info_parts zFj;obtain⟨nv,rv,ov,gs,h⟩:=h;obtain⟨an,cn,hnv⟩:=zG h.nOwn;obtain⟨ar,cr,hrv⟩:=h.rOwn.form;subst hnv hrv;obtain⟨x0,x1,x2,x3,x4,x6,xf⟩:=h.cells;have xf2:=xf 2;have xf3:=xf 3;have HM:=vl h;have hlt:=h.lt;by_cases hc:most<=m.next.length
 ·have HZ:Hid (m.addN most=0∧m.add most rule={m with full:=true}):=⟨by unfold Mk.addN;rw[if_pos hc],by unfold Mk.add;rw[if_pos hc]⟩
  have i1:(m.next.length:Int)>=(most:Int):=by omega
  go_in;go_wp2;go_quiet (fail);have HM2:=vl <| HM.out.grown (Keep.alike (w':=w.drewN nq) ⟨rfl,rfl,rfl⟩);go_wp2;go_ret;refine⟨by rw[HZ.out.1];rfl,by rw[HZ.out.2];exact⟨_,_,_,_,HM2.out.fill.1⟩,?_⟩;exact StayT.trans (Keep.stayT (Keep.alike (w':=w.drewN nq) ⟨rfl,rfl,rfl⟩)) HM2.out.fill.2
 ·have HZ:Hid (m.addN most=m.next.length∧m.add most rule={m with next:=m.next++[zeros],rules:=m.rules++[rule]}):=⟨by unfold Mk.addN;rw[if_neg hc],by unfold Mk.add;rw[if_neg hc]⟩
  have i1:¬((m.next.length:Int)>=(most:Int)):=by omega
  have hnl:m.next.length<=1000000:=by omega
  go_in;go_wp2;go_quiet (fail);have HM2:Hid (Mw w0 (w.drewN nq) mb kb most m (slice an m.next.length cn) (slice ar m.rules.length cr) ov gs∧StayT w (w.drewN nq)):=⟨HM.out.grown (Keep.alike (w':=w.drewN nq) ⟨rfl,rfl,rfl⟩),Keep.stayT (Keep.alike (w':=w.drewN nq) ⟨rfl,rfl,rfl⟩)⟩
  generalize w.drewN nq=w3 at *;obtain⟨x0,x1,x2,x3,x4,x6,xf⟩:=HM2.out.1.cells;have xf3:=xf 3;have hlt:=HM2.out.1.lt;go_wp2;obtain⟨w4,hmk,ho4,hg4⟩:=run_makeSlice_full (P:=prog) w3.drew w3.heap.size 45 3 i0 _ 1 underlying45 hi0 hz0 hz1 i64 i64 256 (by omega) (by rw[hz2];omega) (by unfold maxLen;omega) lQ;have HK4:Hid (Grew w3 w4∧w4.heap[w3.heap.size]? =some (.cells (zCZ zeros) 3)):=by
   refine⟨⟨hg4.os,hg4.output,hg4.size,fun k hk _=>hg4.block k hk (by simp)⟩,?_⟩;have h:=ho4;rw[Nat.mul_one,zAh _ rfl] at h;exact zMh h
  have HM4:=vl <| HM2.out.1.grown HK4.out.1;have x3a:=HM4.out.cells.2.2.2.1;have xf3a:=HM4.out.cells.2.2.2.2.2.2 3;have hlt4:=HM4.out.lt;have HNP:=vl HM4.out.box.1;have hH4:=HM4.out.keep.size;have OW:=HM4.out.nOwn;have hmk2:Sem.run prog (Instr.makeSlice 45 (int i64 256) (int i64 256)) w3.drew=.ok (slice (some ⟨w3.heap.size,0,none⟩) 256 256) w4:=hmk;go_region_law ((first
   |(refine step_append_lies _ (by rfl) (.tmp 24) (.tmp 26) 88 (by rfl) w0.heap.size 45 ii1 _ 1 24 underlying88 hi1 hy0 hy1 hy2 rfl (by decide) (slice an m.next.length cn) m.next.length ((List.range m.next.length).map fun i=>slice (some ⟨gs i,0,none⟩) 256 256) (by simp[Act.eval,Act.put]) (OW.alloc _) ⟨w4.heap.size,0,none⟩ 1 1 [slice (some ⟨w3.heap.size,0,none⟩) 256 256] (by simp[Act.eval,Act.put]) (by rfl) (news_of_block (cs:=#[slice (some ⟨w3.heap.size,0,none⟩) 256 256]) (t:=45) (fr:=(0,0)) (gJ w4 _)) (by simp[Value.oneCell']) (by decide) (by unfold maxLen;omega) (by omega) (by simp;omega) (w4.heap.size+1) (by simp) ?_;intro gg cap w5 hown hgrow hat hlt5;have hPB:=hgrow.block mb (by simp;omega) HNP.out;have x3b:w5.cell? ⟨mb,3,none⟩=some (slice an m.next.length cn):=(gG hPB).trans ((dX _ _ _ hlt4).trans x3a);have xf3b:w5.frozen? ⟨mb,3,none⟩=false:=(dQ hPB).trans ((frozen?_alloc_past _ _ _ hlt4).trans xf3a))))
  all_goals
   have HM6:Hid (Mw w0 (w5.setCell ⟨mb,3,none⟩ (slice (some ⟨gg,0,none⟩) (m.next.length+1) cap)) mb kb most {m with next:=m.next++[zeros]} (slice (some ⟨gg,0,none⟩) (m.next.length+1) cap) (slice ar m.rules.length cr) ov (fun i=>if i=m.next.length then w3.heap.size else gs i)∧StayT w (w5.setCell ⟨mb,3,none⟩ (slice (some ⟨gg,0,none⟩) (m.next.length+1) cap))):=by
    have h:=HM2.out.1.newRow rfl HK4.out.1 HK4.out.2 hown hgrow (by
     rcases hat with ha|ha
     ·exact .inl ha
     ·right;rw[ha];omega)
    exact⟨h.1,HM2.out.2.trans h.2⟩
   generalize w5.setCell ⟨mb,3,none⟩ (slice (some ⟨gg,0,none⟩) (m.next.length+1) cap)=w6 at *;have v3:=HM6.out.1.cells.2.2.2.1;have v4:=HM6.out.1.cells.2.2.2.2.1;have hl6:=HM6.out.1.lt;have hH6:w0.heap.size<=w6.heap.size:=HM6.out.1.keep.size;have OR:w6.ownsRow w0.heap.size 3 1 (slice ar m.rules.length cr) m.rules.length (m.rules.map fun x=>int i64 x):=HM6.out.1.rOwn;go_wp2_with (first|(at_builtin;refine wpList_append_lies _ rfl _ _ 45 rfl (w0.heap.size) 3 i0 (int i64 0) 1 8 underlying45 hi0 hz0 hz1 hz2 rfl (by decide) _ _ _ rfl (OR.alloc _) ⟨w6.heap.size,0,none⟩ 1 1 [int i64 rule] rfl rfl (cell_one_new _ _ _) (by intro u hu;simp at hu;subst hu;rfl) (by decide) (by unfold maxLen;omega) (by omega) (by simp;omega) _ rfl ?_;intro g2 cap2 w7 hown2 hgrow2 hat2 hlt7;have hPB2:w7.heap[mb]? =w6.heap[mb]? :=(hgrow2.block _ (by simp;omega) HM6.out.1.box.2.1).trans (lG _ _ _ (by omega));have t4:w7.cell? ⟨mb,4,none⟩=some (slice ar m.rules.length cr):=(gG hPB2).trans v4;have g4:w7.frozen? ⟨mb,4,none⟩=false:=(dQ hPB2).trans (HM6.out.1.cells.2.2.2.2.2.2 4);have HM8:=vl <| HM6.out.1.newRule rfl hown2 hgrow2 (by rcases hat2 with ha|ha;exact .inl ha;right;rw[ha];simp);have t3:=HM8.out.1.cells.2.2.2.1))
   go_ret;refine⟨?_,by rw[HZ.out.2];exact⟨_,_,_,_,HM8.out.1⟩,HM6.out.2.trans HM8.out.2⟩;rw[HZ.out.1]
   first|rfl|(simp;done)|(show _=_;congr 2;omega)
end
def Mk.put (m:Mk)(s b:Nat)(x:Int):Mk:={m with next:=m.next.set s ((m.next.getD s []).set b x)}
theorem zJq (w0 w:World)(mb kb most:Nat)(m:Mk)(h:MwIs w0 w mb kb most m)(kind b s:Nat)(hk:kind<m.of.length)(hs:m.of.getD kind 0=(s:Int))(hsl:s<m.next.length)(hb:b<256)(x:Int):
  Calls prog 135 #[pointer (some ⟨mb,0,none⟩),int i64 (kind:Int),int i64 (b:Int),int i64 x] w fun e w'=>e=returned (tuple #[])∧MwIs w0 w' mb kb most (m.put s b x)∧StayT w w':=by
 obtain⟨nv,rv,ov,gs,h⟩:=h;obtain⟨ao,co,hov⟩:=h.oOwn.form;subst hov;obtain⟨go,rfl⟩:=h.oOwn.some (by omega);obtain⟨gn,cn,hnv,_,_,_,_,hnc,_⟩:=h.nOwn.get (by omega);subst hnv;obtain⟨x0,x1,x2,x3,x4,x6,xf⟩:=h.cells;have c1:=h.oOwn.cell kind hk;rw[hs] at c1;have c2:=hnc s hsl;obtain⟨c3,c4⟩:=h.row s b hsl hb;have HM:=h.put s b hsl x;have HM2:=vl HM;have i1:(kind:Int)<(m.of.length:Int):=by omega
 have i2:(s:Int)<(m.next.length:Int):=by omega
 have i3:(b:Int)<256:=by omega
 generalize (m.next.getD s []).getD b 0=old at *;go_in;go_wp2;go_region;go_wp2;go_end0;exact⟨rfl,⟨_,_,_,_,HM2.out.1.grown (Keep.drew _)⟩,HM2.out.2.trans (Keep.stayT (Keep.drew _))⟩
structure Kd.Ok (k:Kd)(a:Ar):Prop where
 lows:0<a.lows.length
 few:a.lows.length<=1000000000000
 good:a.Good 24
 lens:k.rules.length=k.rows.length
 wide:∀i,i<k.rows.length->(k.rows.getD i []).length=a.sets.length
 in_:∀i l,i<k.rows.length->l<a.sets.length->(k.rows.getD i []).getD l 0<k.rows.length
 start:k.start<k.rows.length
theorem zLF (lows:List Int)(n:Int)(h:0<lows.length):jE lows n lows.length 0 lows.length<lows.length:=zIE _ _ _ _ _ h
theorem Kd.Ok.letter {k:Kd}{a:Ar}(h:k.Ok a)(c:Int):∃l:Nat,a.letter c=(l:Int)∧l<a.sets.length:=by
 have h1:a.area c<a.letters.length:=by
  rw[<-h.good.lens];exact zLF a.lows c h.lows
 have h2:=h.good.letters _ (zS a.letters (a.area c) 0 h1);refine⟨(a.letters.getD (a.area c) 0).toNat,?_,by omega⟩;show a.letters.getD (a.area c) 0=_;omega
def Mk.behind (m:Mk)(k:Kd)(a:Ar)(kind:Nat)(c:Int):Int:=m.of.getD ((k.rows.getD kind []).getD (a.letter c).toNat 0) 0
theorem KdAt.grown {w w2:World}{kb:Nat}{a:Ar}{k:Kd}(h:KdAt w kb a k)(hk:Grew w w2):KdAt w2 kb a k:=by
 obtain⟨hl,lv,tv,sv,nv,rv,h1,h2,h3,h4⟩:=h;exact⟨lZ hl hk.size,lv,tv,sv,nv,rv,(hk.block kb hl (kJ hl)).trans h1,h2.grown hk,h3.grown hk,h4.grown hk⟩
theorem zBZ (w0 w:World)(mb kb most:Nat)(m:Mk)(h:MwIs w0 w mb kb most m)(k:Kd)(a:Ar)(hK:KdAt w0 kb a k)(ok:k.Ok a)(kind:Nat)(hk:kind<k.rows.length)(hof:m.of.length=k.rows.length)(c:Int):
  Calls prog 134 #[pointer (some ⟨mb,0,none⟩),int i64 (kind:Int),int i64 c] w fun e w'=>e=returned (int i64 (m.behind k a kind c))∧Grew w w':=by
 obtain⟨nv,rv,ov,gs,h⟩:=h;have hK2:=hK.grown h.keep;obtain⟨hkl,lv,tv,sv,kn,kr,hkb,hka,hkn,hkr⟩:=hK2;obtain⟨al,cl,hal,-⟩:=id hka.lows;obtain⟨at_,ct,hat,-⟩:=id hka.letters;obtain⟨as_,cs,has,-⟩:=id hka.sets;have HLt:=vl <| zG2 w lv tv sv a hka ok.few ok.lows ok.good.lens.symm c;obtain⟨l,hl1,hl2⟩:=ok.letter c;have HV:Hid (m.behind k a kind c=m.of.getD ((k.rows.getD kind []).getD l 0) 0):=by
  show m.of.getD ((k.rows.getD kind []).getD (a.letter c).toNat 0) 0=_;rw[hl1];rfl
 rw[hl1] at HLt;have hin:=ok.in_ kind l hk hl2;obtain⟨bn,on,cn,hkn2,hbn,_,_,hknc⟩:=hkn.block (by rw[kV];omega);obtain⟨ur,hur,huI⟩:=hknc kind (by rw[kV];exact hk);have hge:(k.rows.map ints).getD kind []=ints (k.rows.getD kind []):=by
  rw[lW,lW,gU];cases k.rows[kind]? <;> rfl
 rw[hge] at huI;have hwd:=ok.wide kind hk;obtain⟨br,or_,cr,hur2,hbr,_,_,hrc⟩:=huI.block (by rw[zN,hwd];omega);have hc5:=hrc l (by rw[zN,hwd];exact hl2);rw[vI] at hc5;rw[zN,hwd] at hur2;rw[kV] at hkn2;subst hal hat has hkn2 hur2;obtain⟨ao,co,hov⟩:=h.oOwn.form;subst hov;obtain⟨go,rfl⟩:=h.oOwn.some (by omega);obtain⟨x0,x1,x2,x3,x4,x6,xf⟩:=h.cells;have c1:=h.oOwn.cell _ (show (k.rows.getD kind []).getD l 0<m.of.length by omega);have hgo:=(h.oOwn.lt go rfl).2;have k0:w.cell? ⟨kb,0,none⟩=some (slice al a.lows.length cl):=by unfold cell?;rw[hkb];rfl
 have k1:w.cell? ⟨kb,1,none⟩=some (slice at_ a.letters.length ct):=by unfold cell?;rw[hkb];rfl
 have k2:w.cell? ⟨kb,2,none⟩=some (slice as_ a.sets.length cs):=by unfold cell?;rw[hkb];rfl
 have k3:w.cell? ⟨kb,3,none⟩=some (slice (some ⟨bn,on,none⟩) k.rows.length cn):=by unfold cell?;rw[hkb];rfl
 have HG:Hid (∀w2,Grew w w2->w2.cell? ⟨mb,6,none⟩=some (slice (some ⟨go,0,none⟩) m.of.length co)∧w2.cell? ⟨mb,0,none⟩=some (pointer (some ⟨kb,0,none⟩))∧w2.cell? ⟨kb,3,none⟩=some (slice (some ⟨bn,on,none⟩) k.rows.length cn)∧w2.cell? ⟨bn,on+kind,none⟩=some (slice (some ⟨br,or_,none⟩) a.sets.length cr)∧w2.cell? ⟨br,or_+l,none⟩=some (int i64 (((k.rows.getD kind []).getD l 0:Nat):Int))∧w2.cell? ⟨go,(k.rows.getD kind []).getD l 0,none⟩=some (int i64 (m.of.getD ((k.rows.getD kind []).getD l 0) 0))):=fun w2 hk2=>⟨zA x6 h.lt hk2,zA x0 h.lt hk2,zA k3 hkl hk2,zA hur hbn hk2,zA hc5 hbr hk2,zA c1 hgo hk2⟩
 have i1:(kind:Int)<(k.rows.length:Int):=by omega
 have i2:(l:Int)<(a.sets.length:Int):=by omega
 have i3:(((k.rows.getD kind []).getD l 0:Nat):Int)<(m.of.length:Int):=by omega
 have hofl:=hof;generalize (k.rows.getD kind []).getD l 0=z at *;generalize m.of.getD z 0=y at *;go_in;go_wp2_with (first|(go_at_call 175;refine HLt.out.mono ?_;rintro e w2 ⟨rfl,hk2⟩;obtain⟨v0,v1,v2,v3,v4,v5⟩:=HG.out w2 hk2))
 go_quiet (fail);go_wp2;go_ret;exact⟨by rw[HV.out];rfl,hk2.trans (Keep.lower (Keep.alike (w':=w2.drewN nq) ⟨rfl,rfl,rfl⟩) hk2.size hk2.size)⟩
def nz (f:Nat->Int):Bool:=(List.range 64).all fun i=>f i==0
theorem zGz:a64 (fun _=>0)=(#[int i64 0,int i64 0,int i64 0,int i64 0,int i64 0,int i64 0,int i64 0,int i64 0,int i64 0,int i64 0,int i64 0,int i64 0,int i64 0,int i64 0,int i64 0,int i64 0,int i64 0,int i64 0,int i64 0,int i64 0,int i64 0,int i64 0,int i64 0,int i64 0,int i64 0,int i64 0,int i64 0,int i64 0,int i64 0,int i64 0,int i64 0,int i64 0,int i64 0,int i64 0,int i64 0,int i64 0,int i64 0,int i64 0,int i64 0,int i64 0,int i64 0,int i64 0,int i64 0,int i64 0,int i64 0,int i64 0,int i64 0,int i64 0,int i64 0,int i64 0,int i64 0,int i64 0,int i64 0,int i64 0,int i64 0,int i64 0,int i64 0,int i64 0,int i64 0,int i64 0,int i64 0,int i64 0,int i64 0,int i64 0]:Array Value):=rfl
theorem zKc (w:World)(d:Nat)(f g:Nat->Int):∀is:List Nat,(∀i∈is,i<64)->(Op.eqItems (d+1) 3 (prog.cellsOf 3) (a64 f) (a64 g) is).run prog w=.ok (is.all fun i=>f i==g i) w
 |[],_=>rfl
 |i::is,h=>by
  have hi:=h i (gW);have e1:prog.cellsOf 3=1:=by kernel_rfl
  have hp:prog.plainKey 3=true:=by kernel_rfl
  have p1:=run_part_plain (P:=prog) w (e:=3) hp (xs:=a64 f) (off:=i*1) (v:=int i64 (f i)) (by rw[Nat.mul_one];exact jQ f i hi);have p2:=run_part_plain (P:=prog) w (e:=3) hp (xs:=a64 g) (off:=i*1) (v:=int i64 (g i)) (by rw[Nat.mul_one];exact jQ g i hi);have ih:=zKc w d f g is fun j hj=>h j (List.mem_cons_of_mem _ hj);have p3:=run_equalIn_int (P:=prog) w d 3 i64 i64 (f i) (g i) underlying3;rw[e1] at ih ⊢;simp only[Op.eqItems,Sem.run_bind,p1,p2,p3,Result.andThen_ok,List.all_cons];cases f i==g i
  ·rfl
  ·simpa using ih
theorem zNw (w:World)(f:Nat->Int):(Op.equalIn 10000 246 (agg (a64 f)) (agg (#[int i64 0,int i64 0,int i64 0,int i64 0,int i64 0,int i64 0,int i64 0,int i64 0,int i64 0,int i64 0,int i64 0,int i64 0,int i64 0,int i64 0,int i64 0,int i64 0,int i64 0,int i64 0,int i64 0,int i64 0,int i64 0,int i64 0,int i64 0,int i64 0,int i64 0,int i64 0,int i64 0,int i64 0,int i64 0,int i64 0,int i64 0,int i64 0,int i64 0,int i64 0,int i64 0,int i64 0,int i64 0,int i64 0,int i64 0,int i64 0,int i64 0,int i64 0,int i64 0,int i64 0,int i64 0,int i64 0,int i64 0,int i64 0,int i64 0,int i64 0,int i64 0,int i64 0,int i64 0,int i64 0,int i64 0,int i64 0,int i64 0,int i64 0,int i64 0,int i64 0,int i64 0,int i64 0,int i64 0,int i64 0]:Array Value))).run prog w=.ok (nz f) w:=by
 obtain⟨i0,hi0,-⟩:=info_parts yL;rw[<-zGz,run_equalIn_array (P:=prog) w 9999 (a64 f) (a64 fun _=>0) underlying246 hi0];exact zKc w 9998 f (fun _=>0) (List.range 64) fun i hi=>List.mem_range.1 hi
section
def Mk.fillTo (m:Mk)(s:Nat)(f:Nat->Int):Nat->Mk
 |0=>m
 |j+1=>(m.fillTo s f j).put s (128+j) (f j)
theorem zC1 (m:Mk)(s b:Nat)(x:Int):(m.put s b x).next.length=m.next.length:=List.length_set ..
theorem zBp (m:Mk)(s:Nat)(f:Nat->Int)(j:Nat):(m.fillTo s f j).next.length=m.next.length:=by
 induction j with
 |zero=>rfl
 |succ j ih=>rw[Mk.fillTo,zC1,ih]
def Mk.seek (m:Mk)(f:Nat->Int):Nat:=m.next.findIdx fun row=>qH row f
def Mk.withN (m:Mk)(most:Nat)(f:Nat->Int):Nat:=if nz f=true then 0 else if m.seek f<m.next.length then m.seek f else m.addN most
def Mk.withM (m:Mk)(most:Nat)(f:Nat->Int):Mk:=if nz f=true then m else if m.seek f<m.next.length then m else if m.addN most=0 then m.add most (-1) else(m.add most (-1)).fillTo (m.addN most) f 64
theorem zM6 (l:List (List Int))(f:Nat->Int)(j:Nat)(hj:j<l.length)(h:qH (l.getD j []) f=true)(hn:∀i,i<j->qH (l.getD i []) f=false):l.findIdx (fun row=>qH row f)=j:=by
 rw[List.findIdx_eq hj];rw[lW,lV hj] at h;refine⟨h,fun i hi=>?_⟩;have:=hn i hi;rw[lW,lV (by omega)] at this;exact this
theorem zKO (l:List (List Int))(f:Nat->Int)(hn:∀i,i<l.length->qH (l.getD i []) f=false):l.findIdx (fun row=>qH row f)=l.length:=by
 rw[List.findIdx_eq_length];intro y hy;obtain⟨i,hi,rfl⟩:=List.getElem_of_mem hy;have:=hn i hi;rw[lW,lV hi] at this;exact this
section
variable {w0 w w2:World} {mb kb most:Nat} {m:Mk} {nv rv ov:Value} {gs:Nat->Nat}
theorem Mw.rowInts (h:Mw w0 w mb kb most m nv rv ov gs)(i:Nat)(hi:i<m.next.length):Ints w (In w) (slice (some ⟨gs i,0,none⟩) 256 256) (m.next.getD i []):=by
 have hl:=(h.each i hi).2.2;exact⟨_,256,by rw[hl],by rw[hl];exact lQ,by unfold maxLen;omega,fun b hb=>⟨gs i,0,rfl,h.gl i hi,by rw[Nat.zero_add];exact(h.row i b hi (by omega)).1⟩⟩
theorem Mw.rows (h:Mw w0 w mb kb most m nv rv ov gs):∃an cn,nv=slice an m.next.length cn∧w.cell? ⟨mb,3,none⟩=some (slice an m.next.length cn)∧∀i,i<m.next.length->∃g,an=some ⟨g,0,none⟩∧g<w.heap.size∧w.cell? ⟨g,i,none⟩=some (slice (some ⟨gs i,0,none⟩) 256 256):=by
 obtain⟨an,cn,hnv⟩:=zG h.nOwn;refine⟨an,cn,hnv,by rw[<-hnv];exact h.cells.2.2.2.1,fun i hi=>?_⟩;obtain⟨g,cp,hv,_,hl,_,_,hc,_⟩:=h.nOwn.get (by omega);rw[hnv] at hv;injection hv with e1 _ _;exact⟨g,e1,hl,hc i hi⟩
end
theorem zED (w0 w:World)(mb kb most:Nat)(m:Mk)(h:MwIs w0 w mb kb most m)(hmost:most<=1000000)(hr:m.rules.length<=1000000)(hnl:m.next.length<=1000000)(f:Nat->Int):
  Calls prog 179 #[pointer (some ⟨mb,0,none⟩),agg (a64 f)] w fun e w'=>e=returned (int i64 ((m.withN most f:Nat):Int))∧MwIs w0 w' mb kb most (m.withM most f)∧StayT w w':=by
 have HLN:=vl <| zKb f;have HRG:Hid (∀wr:World,wr.heap[w.heap.size]? =some (.cells (a64 f) 246)->wr.rangeAt w.heap.size 0 (a64 f).toList):=fun wr hb=>zEu wr w.heap.size f hb;have HB0:Hid ((w.alloc (.cells (a64 f) 246)).heap[w.heap.size]? =some (.cells (a64 f) 246)):=gJ _ _;have heq:=zNw (w.alloc (.cells (a64 f) 246)) f;have HKA:Hid (Grew w (w.alloc (.cells (a64 f) 246))):=kZ _ _ lQ;have HM0:Hid (MwIs w0 (w.alloc (.cells (a64 f) 246)) mb kb most m):=h.grown HKA.out;have HLE:Hid (∀(wr:World) v row,Ints wr (In wr) v row->row.length=256->Ca 186 #[v,agg (a64 f)] wr fun e w'=>e=returned (bool (qH row f))∧Grew wr w'):=fun wr v row hR hr=>zFS wr v row hR hr f;have HIX:Hid (∀w i,i<64->Sem.run prog (Instr.index 246 (agg (a64 f)) (int i64 ((i:Nat):Int))) w=.ok (int i64 (f i)) w):=fun w i=>zKe w f i;have HAG:Hid (∀i,i<64->(a64 f)[i]? =some (int i64 (f i))):=jQ f;have HS1:Hid (∀j,j<m.next.length->qH (m.next.getD j []) f=true->(∀i,i<j->qH (m.next.getD i []) f=false)->m.seek f=j):=fun j hj h hn=>zM6 m.next f j hj h hn
 have HS2:Hid ((∀i,i<m.next.length->qH (m.next.getD i []) f=false)->m.seek f=m.next.length):=fun h=>zKO m.next f h
 have HN:Hid (m.withN most f=if nz f=true then 0 else if m.seek f<m.next.length then m.seek f else m.addN most):=rfl;have HW:Hid (m.withM most f=if nz f=true then m else if m.seek f<m.next.length then m else if m.addN most=0 then m.add most (-1) else(m.add most (-1)).fillTo (m.addN most) f 64):=rfl;clear h;generalize a64 f=A at *;obtain⟨w1,hw1⟩:∃w1,w1=w.alloc (.cells A 246):=⟨_,rfl⟩
 rw[<-hw1] at HB0 heq HKA HM0;cases hz:nz f with
 |true=>
  rw[hz] at heq;have HZ:Hid (m.withN most f=0∧m.withM most f=m):=⟨by rw[HN.out,if_pos hz],by rw[HW.out,if_pos hz]⟩
  clear hz;have HR1:Hid (w1.rangeAt w.heap.size 0 A.toList):=HRG.out w1 HB0.out;go_in;apply wp_cut;intro K0 J;go_wp2;apply J.out;clear J;rw[<-hw1];clear hw1;go_wp2_with (first|(refine wpList_load_mid rfl 246 (.tmp 3) rfl w.heap.size 0 rfl A.toList (.array 64 3) HR1.out underlying246 rfl HLN.out ?_))
  go_ret;exact⟨by rw[HZ.out.1];rfl,by rw[HZ.out.2];exact HM0.out,HKA.out.stayT⟩
 |false=>
  rw[hz] at heq;have HN2:Hid (m.withN most f=if m.seek f<m.next.length then m.seek f else m.addN most):=by show _=_;rw[HN.out,if_neg (by rw[hz];decide)]
  have HW2:Hid (m.withM most f=if m.seek f<m.next.length then m else if m.addN most=0 then m.add most (-1) else(m.add most (-1)).fillTo (m.addN most) f 64):=by show _=_;rw[HW.out,if_neg (by rw[hz];decide)]
  clear hz HN HW;have HR1:Hid (w1.rangeAt w.heap.size 0 A.toList):=HRG.out w1 HB0.out;obtain⟨nv,rv,ov,gs,h1⟩:=HM0.out;obtain⟨an,cn,hnv,x3,hrow⟩:=h1.rows;have HM1:Hid (Mw w0 w1 mb kb most m nv rv ov gs):=h1;have HRW:Hid (∀i,i<m.next.length->∃g,an=some ⟨g,0,none⟩∧g<w1.heap.size∧w1.cell? ⟨g,i,none⟩=some (slice (some ⟨gs i,0,none⟩) 256 256)):=hrow;clear h1 hrow;go_in;apply wp_cut;intro K0 J;go_wp2;apply J.out;clear J;rw[<-hw1];clear hw1;go_wp2_with (first|(refine wpList_load_mid rfl 246 (.tmp 3) rfl w.heap.size 0 rfl A.toList (.array 64 3) HR1.out underlying246 rfl HLN.out ?_))
  clear heq;go_loopg [19] m.next.length (fun k i wr=>∃j:Nat,k=m.next.length-j∧j<=m.next.length∧i=int i64 (j:Int)∧(∀i,i<j->qH (m.next.getD i []) f=false)∧Grew w1 wr)
  case atStart=>exact⟨0,rfl,lX,rfl,fun i hi=>by omega,⟨rfl,rfl,lQ,fun _ _ _=>rfl⟩⟩
  case round=>
   obtain⟨j,hgk,hj,rfl,hno,hkp⟩:=hrel;have HB:Hid (gk=m.next.length-j∧(∀i,i<j->qH (m.next.getD i []) f=false)∧Grew w1 wr):=⟨hgk,hno,hkp⟩
   have hbl:w.heap.size<w1.heap.size:=(kQ.1 HB0.out).1;have HB2:Hid (wr.heap[w.heap.size]? =some (.cells A 246)):=(hkp.block _ hbl (kJ hbl)).trans HB0.out;have HR2:Hid (wr.rangeAt w.heap.size 0 A.toList):=HRG.out wr HB2.out;by_cases hj2:j<m.next.length
   ·have i1:(j:Int)<(m.next.length:Int):=by omega
    obtain⟨g,rfl,hgl,hc⟩:=HRW.out j hj2;have y1:=zA hc hgl hkp;have HC:Hid (Ca 186 #[slice (some ⟨gs j,0,none⟩) 256 256,agg A] wr fun e w'=>e=returned (bool (qH (m.next.getD j []) f))∧Grew wr w'):=HLE.out wr _ _ ((HM1.out.grown hkp).rowInts j hj2) (HM1.out.each j hj2).2.2;have HS3:Hid (qH (m.next.getD j []) f=true->m.seek f=j):=fun h=>HS1.out j hj2 h HB.out.2.1;have HN3:Hid (qH (m.next.getD j []) f=false->∀i,i<j+1->qH (m.next.getD i []) f=false):=fun h i hi=>by
     by_cases e:i=j
     ·rw[e];exact h
     ·exact HB.out.2.1 i (by omega)
    clear hgk hno hkp hc;cases hlb:qH (m.next.getD j []) f with
    |true=>
     rw[hlb] at HC;have HSK:=HS3.out hlb;have HZ:Hid (m.withN most f=j∧m.withM most f=m):=⟨by rw[HN2.out,HSK,if_pos hj2],by rw[HW2.out,HSK,if_pos hj2]⟩
     clear hlb HSK;go_wp2_with (first|(refine wpList_load_mid rfl 246 (.tmp 3) rfl w.heap.size 0 rfl A.toList (.array 64 3) HR2.out underlying246 rfl HLN.out ?_)|(go_at_call 186;refine HC.out.mono ?_;rintro e w5 ⟨rfl,hk5⟩))
     go_ret;have hk6:=HB.out.2.2.trans (hk5.lower HB.out.2.2.size HB.out.2.2.size);exact⟨by rw[HZ.out.1];rfl,by rw[HZ.out.2];exact⟨_,_,_,_,HM1.out.grown hk6⟩,StayT.trans HKA.out.stayT hk6.stayT⟩
    |false=>
     rw[hlb] at HC;have HR:Hid (∀i,i<j+1->qH (m.next.getD i []) f=false):=HN3.out hlb;clear hlb;go_wp2_with (first|(refine wpList_load_mid rfl 246 (.tmp 3) rfl w.heap.size 0 rfl A.toList (.array 64 3) HR2.out underlying246 rfl HLN.out ?_)|(go_at_call 186;refine HC.out.mono ?_;rintro e w5 ⟨rfl,hk5⟩))
     go_roundg (m.next.length-(j+1))
     case measure=>rw[HB.out.1];omega
     case rel=>exact⟨j+1,rfl,by omega,by go_num,HR.out,HB.out.2.2.trans (hk5.lower HB.out.2.2.size HB.out.2.2.size)⟩
   ·have i1:(m.next.length:Int)<=(j:Int):=by omega
    have hsk:m.seek f=m.next.length:=HS2.out fun i hi=>hno i (by omega)
    have HN3:Hid (m.withN most f=m.addN most):=by show _=_;rw[HN2.out,hsk,if_neg (Nat.lt_irrefl _)]
    have HW3:Hid (m.withM most f=if m.addN most=0 then m.add most (-1) else(m.add most (-1)).fillTo (m.addN most) f 64):=by show _=_;rw[HW2.out,hsk,if_neg (Nat.lt_irrefl _)]
    have HAdd:Hid (Ca 133 #[pointer (some ⟨mb,0,none⟩),int i64 (-1)] wr fun e w'=>e=returned (int i64 ((m.addN most:Nat):Int))∧MwIs w0 w' mb kb most (m.add most (-1))∧StayT wr w'):=zEd w0 wr mb kb most m ⟨_,_,_,_,HM1.out.grown hkp⟩ hmost hr (-1);have HST:Hid (StayT w wr):=StayT.trans HKA.out.stayT hkp.stayT;have HADL:Hid (m.addN most≠0->m.addN most<(m.add most (-1)).next.length):=fun h=>by
     unfold Mk.addN at h ⊢;unfold Mk.add;by_cases e:most<=m.next.length
     ·rw[if_pos e] at h;exact absurd rfl h
     ·rw[if_neg e,if_neg e];show _<(m.next++[zeros]).length;simp
    clear hgk hno hkp hsk HN2 HW2 HM1 HRW x3;by_cases hs0:m.addN most=0
    ·rw[hs0] at HAdd HN3
     have HW4:Hid (m.withM most f=m.add most (-1)):=by show _=_;rw[HW3.out,if_pos hs0]
     clear HW3 HADL hs0;go_wp2_with (first|(go_at_call 133;refine HAdd.out.mono ?_;rintro e w5 ⟨rfl,hM5,hS5⟩))
     go_ret;exact⟨by rw[HN3.out];rfl,by rw[HW4.out];exact hM5,HST.out.trans hS5⟩
    ·have hsl:=HADL.out hs0
     have HW4:Hid (m.withM most f=(m.add most (-1)).fillTo (m.addN most) f 64):=by show _=_;rw[HW3.out,if_neg hs0]
     have hc0:(((m.addN most:Nat):Int)==0)=false:=by rw[hJ];omega
     clear HW3 HADL hs0;generalize m.add most (-1)=m2 at *;generalize m.addN most=s at *;go_wp2_with (first|(go_at_call 133;refine HAdd.out.mono ?_;rintro e w5 ⟨rfl,hM5,hS5⟩;have HB5:w5.heap[w.heap.size]? =some (.cells A 246):=hS5 _ _ _ HB2.out (by decide) (by decide) (by decide);have HR5:=HRG.out w5 HB5)|(refine wpList_load_mid rfl 246 (.tmp 3) rfl w.heap.size 0 rfl A.toList (.array 64 3) HR5 underlying246 rfl HLN.out ?_))
     have HI5:Hid (MwIs w0 w5 mb kb most m2∧StayT w w5):=⟨hM5,HST.out.trans hS5⟩
     clear hM5 hS5 HB5 HR5;go_loopg [34] 64 (fun k i wr=>∃j:Nat,k=64-j∧j<=64∧i=int i64 (j:Int)∧MwIs w0 wr mb kb most (m2.fillTo s f j)∧StayT w wr)
     case atStart=>exact⟨0,rfl,lX,rfl,HI5.out.1,HI5.out.2⟩
     case round=>
      obtain⟨t,hgk,ht,rfl,hMt,hSt⟩:=hrel;have HE:Hid (gk=64-t∧MwIs w0 wr mb kb most (m2.fillTo s f t)∧StayT w wr):=⟨hgk,hMt,hSt⟩
      by_cases ht2:t<64
      ·have i2:(t:Int)<64:=by omega
       have i4:(128:Int)+(t:Int)<256:=by omega
       obtain⟨nv2,rv2,ov2,gs2,hM⟩:=hMt;have hfl:=zBp m2 s f t;obtain⟨an2,cn2,hnv2,v3,hrow2⟩:=hM.rows;obtain⟨g2,rfl,_,hc2⟩:=hrow2 s (by omega);obtain⟨c3,c4⟩:=hM.row s (128+t) (by omega) (by omega);have hput:=hM.put s (128+t) (by omega) (f t);have HPT:Hid (MwIs w0 (wr.setCell ⟨gs2 s,128+t,none⟩ (int i64 (f t))) mb kb most (m2.fillTo s f (t+1))∧StayT w (wr.setCell ⟨gs2 s,128+t,none⟩ (int i64 (f t)))):=⟨⟨_,_,_,_,hput.1⟩,hSt.trans hput.2⟩
       have hix:=HIX.out wr t ht2;have hag:=HAG.out t ht2;have i3:(s:Int)<((m2.fillTo s f t).next.length:Int):=by omega
       clear hgk hSt hM hput hnv2 hrow2 hfl;generalize (m2.fillTo s f t).next.length=L at *
       generalize ((m2.fillTo s f t).next.getD s []).getD (128+t) 0=old at *;generalize f t=y at *;go_wp2;go_roundg (64-(t+1))
       case measure=>rw[HE.out.1];omega
       case rel=>exact⟨t+1,rfl,by omega,by go_num,HPT.out.1,HPT.out.2⟩
      ·have i2:(64:Int)<=(t:Int):=by omega
       have e:t=64:=by omega
       subst e;clear hgk hMt hSt;go_wp2;go_ret;exact⟨by rw[HN3.out];rfl,by rw[HW4.out];exact HE.out.2.1,HE.out.2.2⟩
end
section
structure Mk.Fit (m:Mk)(most:Nat):Prop where
 same:m.rules.length=m.next.length
 few:m.next.length<=most
theorem zEy {m:Mk}{most:Nat}(h:m.Fit most)(r:Int):(m.add most r).Fit most:=by
 unfold Mk.add;by_cases e:most<=m.next.length
 ·rw[if_pos e];exact⟨h.same,h.few⟩
 ·rw[if_neg e]
  have:=h.same;exact⟨by simp[this],by simp;omega⟩
theorem zJ4 {m:Mk}{most:Nat}(h:m.Fit most)(s b:Nat)(x:Int):(m.put s b x).Fit most:=⟨by rw[zC1];exact h.same,by rw[zC1];exact h.few⟩
theorem zJD {m:Mk}{most:Nat}(h:m.Fit most)(s:Nat)(f:Nat->Int)(j:Nat):(m.fillTo s f j).Fit most:=by
 induction j with
 |zero=>exact h
 |succ j ih=>exact zJ4 ih _ _ _
theorem zEC {m:Mk}{most:Nat}(h:m.Fit most)(f:Nat->Int):(m.withM most f).Fit most:=by
 unfold Mk.withM;split
 ·exact h
 ·split
  ·exact h
  ·split
   ·exact zEy h _
   ·exact zJD (zEy h _) _ _ _
theorem zLh (m:Mk)(s:Nat)(f:Nat->Int)(j:Nat):(m.fillTo s f j).of=m.of:=by
 induction j with
 |zero=>rfl
 |succ j ih=>exact ih
theorem zCM (m:Mk)(most:Nat)(r:Int):(m.add most r).of=m.of:=by unfold Mk.add;split <;> rfl
theorem zJV (m:Mk)(most:Nat)(f:Nat->Int):(m.withM most f).of=m.of:=by
 unfold Mk.withM;split
 ·rfl
 ·split
  ·rfl
  ·split
   ·exact zCM _ _ _
   ·rw[zLh,zCM]
structure Bx (w0 w wr:World)(mb kb most:Nat)(m:Mk)(b:Nat)(g:Nat->Int):Prop where
 ma:MwIs w0 wr mb kb most m
 arr:wr.heap[b]? =some (.cells (a64 g) 246)
 stay:StayT w wr
 new:w.heap.size<=b
 old:w0.heap.size<=w.heap.size
theorem zNH (g:Nat->Int)(i:Nat)(x:Int)(hi:i<64):(a64 g).setIfInBounds i (int i64 x)=a64 (fun j=>if j=i then x else g j):=by
 apply Array.ext_getElem?;intro j;rw[Array.getElem?_setIfInBounds];by_cases hj:j<64
 ·by_cases e:i=j
  ·subst e
   rw[if_pos rfl,zBe,if_pos hi,jQ _ i hi,if_pos rfl]
  ·rw[if_neg e,jQ _ j hj,jQ _ j hj,if_neg (Ne.symm e)]
 ·rw[if_neg (by omega),Array.getElem?_eq_none (by rw[zBe];omega),Array.getElem?_eq_none (by rw[zBe];omega)]
theorem zLN {g g':Nat->Int}(h:∀i,i<64->g i=g' i):a64 g=a64 g':=by
 apply Array.ext_getElem?;intro j;by_cases hj:j<64
 ·rw[jQ _ j hj,jQ _ j hj,h j hj]
 ·rw[Array.getElem?_eq_none (by rw[zBe];omega),Array.getElem?_eq_none (by rw[zBe];omega)]
section
variable {w0 w wr w2:World} {mb kb most:Nat} {m:Mk} {b:Nat} {g:Nat->Int}
theorem Mw.setBox {nv rv ov:Value}{gs:Nat->Nat}{i:Nat}{x:Value}{c:Array Value}(h:Mw w0 wr mb kb most m nv rv ov gs)(hb:wr.heap[b]? =some (.cells c 246))(hH:w0.heap.size<=b):Mw w0 (wr.setCell ⟨b,i,none⟩ x) mb kb most m nv rv ov gs:=by
 have e:∀k,k≠b->(wr.setCell ⟨b,i,none⟩ x).heap[k]? =wr.heap[k]? :=fun k hk=>lJ _ _ _ _ hk;have n1:mb≠b:=fun e2=>by
  have:=h.blk;rw[e2,hb] at this;simp at this
 have n2:∀i,i<m.next.length->gs i≠b:=fun i hi e2=>by
  have:=(h.each i hi).1;rw[e2,hb] at this;simp at this
 have n3:=zM h.nOwn hb (by decide);have n4:=zM h.rOwn hb (by decide);have n5:=zM h.oOwn hb (by decide);exact⟨(e mb n1).trans h.blk,zD h.nOwn fun k _ _ hk=>e k fun e2=>n3 (by rw[hk,e2]),fun i hi=>⟨(e _ (n2 i hi)).trans (h.each i hi).1,(h.each i hi).2⟩,zD h.rOwn fun k _ _ hk=>e k fun e2=>n4 (by rw[hk,e2]),zD h.oOwn fun k _ _ hk=>e k fun e2=>n5 (by rw[hk,e2]),h.inj,h.nr,h.no,h.ro,h.mH,h.keep.trans (zO _ _ _ _ hH)⟩
theorem Bx.set (h:Bx w0 w wr mb kb most m b g)(i:Nat)(hi:i<64)(x:Int):Bx w0 w (wr.setCell ⟨b,i,none⟩ (int i64 x)) mb kb most m b (fun j=>if j=i then x else g j):=by
 obtain⟨nv,rv,ov,gs,hM⟩:=h.ma;have hH:=lY h.old h.new;refine⟨⟨nv,rv,ov,gs,hM.setBox h.arr hH⟩,?_,fun k c t hk t1 t2 t3=>?_,h.new,h.old⟩
 ·rw[<-zNH g i x hi]
  simp[setCell,lU,h.arr]
 ·have hl:=(kQ.1 hk).1
  have hn:=h.new;exact(lJ _ _ _ _ (by show k≠b;omega)).trans (h.stay k c t hk t1 t2 t3)
theorem Bx.call {m':Mk}(h:Bx w0 w wr mb kb most m b g)(hM:MwIs w0 w2 mb kb most m')(hs:StayT wr w2):Bx w0 w w2 mb kb most m' b g:=⟨hM,hs b _ _ h.arr (by decide) (by decide) (by decide),h.stay.trans hs,h.new,h.old⟩
theorem Bx.congr {g':Nat->Int}(h:Bx w0 w wr mb kb most m b g)(e:∀i,i<64->g i=g' i):Bx w0 w wr mb kb most m b g':=⟨h.ma,by rw[<-zLN e];exact h.arr,h.stay,h.new,h.old⟩
theorem Bx.cell (h:Bx w0 w wr mb kb most m b g)(i:Nat)(hi:i<64):wr.cell? ⟨b,i,none⟩=some (int i64 (g i))∧wr.frozen? ⟨b,i,none⟩=false:=by
 constructor
 ·unfold cell?;rw[h.arr];exact jQ g i hi
 ·unfold frozen?;rw[h.arr];simp
theorem Bx.start {m0:Mk}(h:MwIs w0 w mb kb most m0)(wr:World)(hs:StayT w wr)(hM:MwIs w0 wr mb kb most m)(hl:w.heap.size<=wr.heap.size):Bx w0 w (wr.alloc (.cells (a64 fun _=>0) 246)) mb kb most m wr.heap.size (fun _=>0):=by
 have hk:=kZ (b:=wr.heap.size) wr (.cells (a64 fun _=>0) 246) lQ;obtain⟨_,_,_,_,h⟩:=h;exact⟨hM.grown hk,gJ _ _,hs.trans hk.stayT,hl,h.keep.size⟩
end
end
def qX:Nat->Nat
 |0=>0
 |1=>1
 |2=>64
 |_=>4096
def Mk.even (most:Nat):Nat->Mk->Int->Int×Mk
 |0,m,to=>(to,m)
 |c+1,m,to=>Mk.even most c (m.withM most fun _=>to) (m.withN most fun _=>to)
theorem zJH (w0 w:World)(mb kb most:Nat)(m:Mk)(h:MwIs w0 w mb kb most m)(hmost:most<=1000000)(fit:m.Fit most)(to:Int)(c:Nat)(hc:c<=3):
  Calls prog 178 #[pointer (some ⟨mb,0,none⟩),int i64 to,int i64 (qX c:Int)] w fun e w'=>e=returned (int i64 (Mk.even most c m to).1)∧MwIs w0 w' mb kb most (Mk.even most c m to).2∧StayT w w':=by
 have HH:=vl h;have HF:=vl fit;go_in;go_wp2;go_loopg [1,2] c (fun k t s wr=>∃(n:Nat) (m2:Mk) (to2:Int),k=n∧n<=3∧t=int i64 to2∧s=int i64 (qX n:Int)∧MwIs w0 wr mb kb most m2∧m2.Fit most∧StayT w wr∧w.heap.size<=wr.heap.size∧Mk.even most c m to=Mk.even most n m2 to2)
 case atStart=>exact⟨c,m,to,rfl,hc,rfl,rfl,h,fit,StayT.refl _,lQ,rfl⟩
 case round=>
  obtain⟨n,m2,to2,hgk,hn,rfl,rfl,hM,hF,hS,hsz,hev⟩:=hrel;cases n with
  |zero=>
   have HA:Hid (MwIs w0 wr mb kb most m2∧StayT w wr∧Mk.even most c m to=(to2,m2)):=⟨hM,hS,hev⟩
   clear hM hF hS hev hgk;have hst:qX 0=0:=rfl;rw[hst];go_wp2;go_ret;exact⟨by rw[HA.out.2.2];rfl,by rw[HA.out.2.2];exact HA.out.1,HA.out.2.1⟩
  |succ n=>
   have hst:0<qX (n+1):=by
    rcases n with _|_|_|n
    all_goals (simp [qX])
   have hdv:qX (n+1)/64=qX n:=by
    rcases n with _|_|_|n
    all_goals first|rfl|omega
   have i1:(qX (n+1):Int)>0:=by omega
   have hs4:qX (n+1)<=4096:=by
    rcases n with _|_|_|n
    all_goals (simp [qX])
   have HSW:Hid (wrap64 ((qX (n+1):Int)/64)=(qX n:Int)):=by
    show _=_;rw[w64 _ (by omega) (by omega)];omega
   have HA:Hid (gk=n+1∧MwIs w0 wr mb kb most m2∧m2.Fit most∧StayT w wr∧w.heap.size<=wr.heap.size∧Mk.even most c m to=Mk.even most (n+1) m2 to2):=⟨hgk,hM,hF,hS,hsz,hev⟩
   clear hM hF hS hev hgk;go_wp2;rw[<-zGz];have HX:=vl <| Bx.start HH.out wr HA.out.2.2.2.1 HA.out.2.1 HA.out.2.2.2.2.1;generalize wr.alloc (.cells (a64 fun _=>0) 246)=w3 at *;generalize wr.heap.size=b at *;go_loopg [13] 64 (fun k i wr=>∃j:Nat,k=64-j∧j<=64∧i=int i64 (j:Int)∧Bx w0 w wr mb kb most m2 b (fun t=>if t<j then to2 else 0))
   case atStart=>exact⟨0,rfl,lX,rfl,HX.out.congr fun i _=>by simp⟩
   case round=>
    obtain⟨j,hgk,hj,rfl,hX⟩:=hrel;have HB:Hid (gk=64-j∧Bx w0 w wr mb kb most m2 b (fun t=>if t<j then to2 else 0)):=⟨hgk,hX⟩
    by_cases hj2:j<64
    ·have i2:(j:Int)<64:=by omega
     obtain⟨y1,z1⟩:=hX.cell j hj2;have HX2:Hid (Bx w0 w (wr.setCell ⟨b,j,none⟩ (int i64 to2)) mb kb most m2 b (fun t=>if t<j+1 then to2 else 0)):=(hX.set j hj2 to2).congr fun i _=>by
      by_cases e:i=j
      ·subst e;rw[if_pos rfl,if_pos (by omega)]
      ·rw[if_neg e]
       by_cases e2:i<j
       ·rw[if_pos e2,if_pos (by omega)]
       ·rw[if_neg e2,if_neg (by omega)]
     clear hgk hX;generalize (if j<j then to2 else 0)=old at *;go_wp2;go_roundg (64-(j+1))
     case measure=>rw[HB.out.1];omega
     case rel=>exact⟨j+1,rfl,by omega,by go_num,HX2.out⟩
    ·have i2:(64:Int)<=(j:Int):=by omega
     have HX2:Hid (Bx w0 w wr mb kb most m2 b (fun _=>to2)):=hX.congr fun i hi=>by rw[if_pos (by omega)]
     have HR2:Hid (wr.rangeAt b 0 (a64 fun _=>to2).toList):=zEu wr b _ HX2.out.arr;have HLN:Hid ((prog.info? 246).map (·.size)=some (a64 fun _=>to2).toList.length):=zKb _;have HF:=HA.out.2.2.1;have HW:Hid (Ca 179 #[pointer (some ⟨mb,0,none⟩),agg (a64 fun _=>to2)] wr fun e w'=>e=returned (int i64 ((m2.withN most (fun _=>to2):Nat):Int))∧MwIs w0 w' mb kb most (m2.withM most fun _=>to2)∧StayT wr w'):=zED w0 wr mb kb most m2 HX2.out.ma hmost (by have:=HF.same;have:=HF.few;omega) (by have:=HF.few;omega) _;have HEV:Hid (Mk.even most c m to=Mk.even most n (m2.withM most fun _=>to2) ((m2.withN most fun _=>to2:Nat):Int)):=HA.out.2.2.2.2.2;have HF2:Hid ((m2.withM most fun _=>to2).Fit most):=zEC HF _;have hnew:=HX2.out.new;clear hgk hX HF;generalize (a64 fun _=>to2)=A at *;generalize (m2.withM most fun _=>to2)=m3 at *;generalize (m2.withN most fun _=>to2)=n3 at *;go_wp2_with (first|(refine wpList_load_mid rfl 246 (.tmp 7) rfl b 0 rfl A.toList (.array 64 3) HR2.out underlying246 rfl HLN.out ?_)|(go_at_call 179;refine HW.out.mono ?_;rintro e w5 ⟨rfl,hM5,hS5⟩))
     go_roundg n
     case measure=>rw[HA.out.1];omega
     case rel=>
      have hX5:=HX2.out.call hM5 hS5;have hb5:=(kQ.1 hX5.arr).1;exact⟨n,m3,(n3:Int),rfl,by omega,rfl,by congr 1;omega,hM5,HF2.out,hX5.stay,by omega,HEV.out⟩
def zG3 (step:Nat):Nat:=if step=64 then 2048 else if step=4096 then 65536 else 0
def yU (sub:Mk->Nat->Int×Mk)(step low:Nat)(m:Mk):Nat->(Nat->Int)×Mk
 |0=>(fun _=>0,m)
 |j+1=>if low+j*step<zG3 step then(fun i=>if i=j then 0 else(yU sub step low m j).1 i,(yU sub step low m j).2) else(fun i=>if i=j then(sub (yU sub step low m j).2 (low+j*step)).1 else(yU sub step low m j).1 i,(sub (yU sub step low m j).2 (low+j*step)).2)
def zEA (most:Nat)(p:(Nat->Int)×Mk):Int×Mk:=(((p.2.withN most p.1:Nat):Int),p.2.withM most p.1)
def jM (k:Kd)(a:Ar)(most kind cnt step:Nat)(sub:Mk->Nat->Int×Mk)(m:Mk)(low:Nat):Int×Mk:=
 if zG3 step<=low∧a.alike (low:Int) ((low+64*step-1:Nat):Int)=true then Mk.even most cnt m (m.behind k a kind (low:Int)) else zEA most (yU sub step low m 64)
def yG (k:Kd)(a:Ar)(most kind:Nat):Nat->Mk->Nat->Int×Mk
 |0,m,low=>jM k a most kind 1 1 (fun m c=>(m.behind k a kind (c:Int),m)) m low
 |l+1,m,low=>jM k a most kind (l+2) (qX (l+2)) (yG k a most kind l) m low
def Tame (most:Nat)(sub:Mk->Nat->Int×Mk):Prop:=∀m c,m.Fit most->(sub m c).2.Fit most∧(sub m c).2.of=m.of
theorem zLk (most:Nat)(c:Nat):∀(m:Mk) (to:Int),m.Fit most->(Mk.even most c m to).2.Fit most∧(Mk.even most c m to).2.of=m.of:=by
 induction c with
 |zero=>exact fun m to h=>⟨h,rfl⟩
 |succ c ih=>
  intro m to h;have:=ih (m.withM most fun _=>to) ((m.withN most fun _=>to:Nat):Int) (zEC h _);exact⟨this.1,this.2.trans (zJV _ _ _)⟩
theorem zHM {most:Nat}{sub:Mk->Nat->Int×Mk}(h:Tame most sub)(step low:Nat){m:Mk}(hm:m.Fit most)(j:Nat):(yU sub step low m j).2.Fit most∧(yU sub step low m j).2.of=m.of:=by
 induction j with
 |zero=>exact⟨hm,rfl⟩
 |succ j ih=>
  unfold yU;split
  ·exact ih
  ·have:=h (yU sub step low m j).2 (low+j*step) ih.1
   exact⟨this.1,this.2.trans ih.2⟩
theorem zC9 (k:Kd)(a:Ar){most:Nat}(kind cnt step:Nat){sub:Mk->Nat->Int×Mk}(h:Tame most sub):Tame most (jM k a most kind cnt step sub):=by
 intro m low hm;unfold jM;split
 ·exact zLk most cnt m _ hm
 ·have:=zHM h step low hm 64
  exact⟨zEC this.1 _,(zJV _ _ _).trans this.2⟩
theorem zAi (k:Kd)(a:Ar)(most kind l:Nat):Tame most (yG k a most kind l):=by
 induction l with
 |zero=>exact zC9 k a kind 1 1 fun m c hm=>⟨hm,rfl⟩
 |succ l ih=>exact zC9 k a kind (l+2) (qX (l+2)) ih
section
variable (w0 w:World) (mb kb most:Nat) (m:Mk) (h:MwIs w0 w mb kb most m)
theorem zAX (h:MwIs w0 w mb kb most m)(hmost:most<=1000000)(fit:m.Fit most)(k:Kd)(a:Ar)(hK:KdAt w0 kb a k)(ok:k.Ok a)(kind:Nat)(hk:kind<k.rows.length)(hof:m.of.length=k.rows.length)(low:Nat)(hlow:low<=1410000)(l st cnt s2:Nat)(hst:st=1∨st=64∨st=4096)(hcnt:cnt<=3)(hev:qX cnt=st)(hs2:st/64=s2)(sub:Mk->Nat->Int×Mk)(hdef:yG k a most kind l m low=jM k a most kind cnt st sub m low)(htm:Tame most sub)
  (hsub:(st=1∧∀wr m2,MwIs w0 wr mb kb most m2->m2.Fit most->m2.of.length=k.rows.length->∀c:Nat,c<=low+64*st->Calls prog 134 #[pointer (some ⟨mb,0,none⟩),int i64 (kind:Int),int i64 (c:Int)] wr fun e w'=>e=returned (int i64 (sub m2 c).1)∧MwIs w0 w' mb kb most (sub m2 c).2∧StayT wr w')∨(st≠1∧∀wr m2,MwIs w0 wr mb kb most m2->m2.Fit most->m2.of.length=k.rows.length->∀c:Nat,c<=low+64*st->Calls prog 136 #[pointer (some ⟨mb,0,none⟩),int i64 (kind:Int),int i64 (c:Int),int i64 (s2:Int)] wr fun e w'=>e=returned (int i64 (sub m2 c).1)∧MwIs w0 w' mb kb most (sub m2 c).2∧StayT wr w')):
  Calls prog 136 #[pointer (some ⟨mb,0,none⟩),int i64 (kind:Int),int i64 (low:Int),int i64 (st:Int)] w fun e w'=>e=returned (int i64 (yG k a most kind l m low).1)∧MwIs w0 w' mb kb most (yG k a most kind l m low).2∧StayT w w':=by
 have HH:=vl h;obtain⟨nv,rv,ov,gs,hM0⟩:=h;obtain⟨hkl,lv,tv,sv,kn,kr,hkb,hka,-,-⟩:=hK.grown hM0.keep;obtain⟨al,cl,hal,-⟩:=id hka.lows;obtain⟨at_,ct,hat,-⟩:=id hka.letters;obtain⟨as_,cs,has,-⟩:=id hka.sets;obtain⟨AL,hAL⟩:∃AL,AL=a.alike (low:Int) ((low+64*st-1:Nat):Int):=⟨_,rfl⟩
 have HAL:Hid (∀y:Int,y=((low+64*st-1:Nat):Int)->Ca 177 #[agg #[lv,tv,sv],int i64 (low:Int),int i64 y] w fun e w'=>e=returned (bool AL)∧Grew w w'):=by
  rintro y rfl;rw[hAL];exact zII w lv tv sv a hka ok.few _ _
 have x0:=hM0.cells.1;have k0:w.cell? ⟨kb,0,none⟩=some lv:=by unfold cell?;rw[hkb];rfl
 have k1:w.cell? ⟨kb,1,none⟩=some tv:=by unfold cell?;rw[hkb];rfl
 have k2:w.cell? ⟨kb,2,none⟩=some sv:=by unfold cell?;rw[hkb];rfl
 subst hal hat has;obtain⟨T,hT⟩:∃T,T=zG3 st:=⟨_,rfl⟩
 have HLE:Hid (∀w,Ca 176 #[int i64 (st:Int)] w fun e w'=>e=returned (int i64 (T:Int))∧w'=w):=fun w=>by
  have:=zIf w st hst;rw[show (if st=64 then 2048 else if st=4096 then 65536 else 0:Int)=(T:Int) by rw[hT];rcases hst with rfl|rfl|rfl <;> rfl] at this;exact this
 have HBH:Hid (∀w2,Grew w w2->Ca 134 #[pointer (some ⟨mb,0,none⟩),int i64 (kind:Int),int i64 (low:Int)] w2 fun e w'=>e=returned (int i64 (m.behind k a kind (low:Int)))∧Grew w2 w'):=fun w2 hk2=>zBZ w0 w2 mb kb most m (HH.out.grown hk2) k a hK ok kind hk hof (low:Int);have HEV:Hid (∀w2 to,Grew w w2->Ca 178 #[pointer (some ⟨mb,0,none⟩),int i64 to,int i64 (st:Int)] w2 fun e w'=>e=returned (int i64 (Mk.even most cnt m to).1)∧MwIs w0 w' mb kb most (Mk.even most cnt m to).2∧StayT w2 w'):=fun w2 to hk2=>by rw[<-hev];exact zJH w0 w2 mb kb most m (HH.out.grown hk2) hmost fit to cnt hcnt
 have HSUB:=vl hsub;have HFIT:=vl (And.intro fit hof);have HX0:Hid (yU sub st low m 0=(fun _=>0,m)):=rfl;have HXS:Hid (∀j,yU sub st low m (j+1)=if low+j*st<T then(fun i=>if i=j then 0 else(yU sub st low m j).1 i,(yU sub st low m j).2) else(fun i=>if i=j then(sub (yU sub st low m j).2 (low+j*st)).1 else(yU sub st low m j).1 i,(sub (yU sub st low m j).2 (low+j*st)).2)):=fun j=>by rw[hT];rfl
 have HXT:Hid (∀j,(yU sub st low m j).2.Fit most∧(yU sub st low m j).2.of=m.of):=fun j=>zHM htm st low fit j;have hb:(T<=low∧AL=true)∨¬(T<=low∧AL=true):=Decidable.em _;have HZ:Hid (((T<=low∧AL=true)->yG k a most kind l m low=Mk.even most cnt m (m.behind k a kind (low:Int)))∧(¬(T<=low∧AL=true)->yG k a most kind l m low=zEA most (yU sub st low m 64))):=by
  rw[hdef,hT,hAL];exact⟨fun h=>if_pos h,fun h=>if_neg h⟩
 have hT2:T<=65536:=by rw[hT];rcases hst with rfl|rfl|rfl <;> decide
 have h1:1<=st∧st<=4096:=by omega
 have hq1:(st:Int)/64=(s2:Int):=by omega
 clear hM0 hkb hka hK ok hk hof fit hdef htm hsub hT hAL hev hs2 hst;generalize a.lows.length=q0 at *;generalize a.letters.length=q1 at *;generalize a.sets.length=q2 at *;generalize yU sub st low m=SX at *;rcases hb with hb|hb
 ·have HZ2:=vl (HZ.out.1 hb)
  obtain⟨hc,rfl⟩:=hb;have i1:(low:Int)>=(T:Int):=by omega
  clear HZ HSUB hc;generalize m.behind k a kind (low:Int)=bh at *;generalize yG k a most kind l m low=IN at *;go_in;go_wp2_with (first|(go_at_call 176;refine(HLE.out _).mono ?_;rintro e w9 ⟨rfl,hw9⟩;have hw8:=hw9.symm;subst hw8)|(go_at_call 177;refine(HAL.out _ (by omega)).mono ?_;rintro e w2 ⟨rfl,hk2⟩)|(go_at_call 134;refine(HBH.out w2 hk2).mono ?_;rintro e w3 ⟨rfl,hk3⟩;have hk4:=hk2.trans (hk3.lower hk2.size hk2.size))|(go_at_call 178;refine(HEV.out w3 bh hk4).mono ?_;rintro e w5 ⟨rfl,hM5,hS5⟩))
  go_ret;exact⟨by rw[HZ2.out];rfl,by rw[HZ2.out];exact hM5,StayT.trans hk4.stayT hS5⟩
 have HZ2:=vl (HZ.out.2 hb);clear HZ HEV HBH;generalize yG k a most kind l m low=IN at *;have hcase:(low:Int)<(T:Int)∨(low:Int)>=(T:Int)∧AL=false:=by
  rcases Nat.lt_or_ge low T with h|h
  ·exact .inl (by omega)
  ·refine .inr ⟨by omega,?_⟩
   cases AL with
   |false=>rfl
   |true=>exact absurd ⟨h,rfl⟩ hb
 clear hb;go_in;rcases hcase with i1|⟨i1,rfl⟩;go_wp2_with (first|(go_at_call 176;refine(HLE.out _).mono ?_;rintro e w9 ⟨rfl,hw9⟩;have hw8:=hw9.symm;subst hw8))
 rw[<-zGz];have HX:=vl (Bx.start HH.out w (Keep.refl w.heap.size w.heap.size w).stayT HH.out lQ);generalize w.alloc (.cells (a64 fun _=>0) 246)=w3 at *;generalize w.heap.size=b at *;rotate_left;go_wp2_with (first|(go_at_call 176;refine(HLE.out _).mono ?_;rintro e w9 ⟨rfl,hw9⟩;have hw8:=hw9.symm;subst hw8)|(go_at_call 177;refine(HAL.out _ (by omega)).mono ?_;rintro e w2 ⟨rfl,K2⟩))
 rw[<-zGz];have HX:=vl (Bx.start HH.out w2 K2.stayT (HH.out.grown K2) K2.size);clear K2;generalize w2.alloc (.cells (a64 fun _=>0) 246)=w3 at *;generalize w2.heap.size=b at *
 all_goals
  clear HAL k0 k1 k2 x0 i1;go_loopg [39] 64 (fun q i wr=>∃j:Nat,q=64-j∧j<=64∧i=int i64 (j:Int)∧Bx w0 w wr mb kb most (SX j).2 b (SX j).1)
  case atStart=>exact⟨0,rfl,lX,rfl,by rw[HX0.out];exact HX.out⟩
  case round=>
   obtain⟨j,hgk,hj,rfl,hX⟩:=hrel;have HB:=vl (And.intro hgk hX);have HTJ:=HXT.out j;by_cases hj2:j<64
   ·have i2:(j:Int)<64:=by omega
    obtain⟨y1,z1⟩:=hX.cell j hj2;obtain⟨x,hx⟩:∃x,x=j*st:=⟨_,rfl⟩
    have hxi:(j:Int)*(st:Int)=(x:Int):=by rw[hx];exact(Int.natCast_mul j st).symm
    have hx1:x<=64*st:=by rw[hx];exact Nat.mul_le_mul_right st (by omega)
    have HS:=vl (HXS.out j);rw[<-hx] at HS;clear hx;by_cases hcl:low+x<T
    ·have HX2:Hid (Bx w0 w (wr.setCell ⟨b,j,none⟩ (int i64 0)) mb kb most (SX (j+1)).2 b (SX (j+1)).1):=by
      have h:=hX.set j hj2 0;show Bx _ _ _ _ _ _ (SX (j+1)).2 _ (SX (j+1)).1;rw[HS.out,if_pos hcl];exact h
     have i3:(low:Int)+(x:Int)<(T:Int):=by omega
     clear hgk hX hcl HS HTJ HSUB;generalize (SX j).1 j=old at *;go_wp2_with (first|(go_at_call 176;refine(HLE.out _).mono ?_;rintro e w9 ⟨rfl,hw9⟩;have hw8:=hw9.symm;subst hw8))
     go_roundg (64-(j+1))
     case measure=>rw[HB.out.1];omega
     case rel=>exact⟨j+1,rfl,by omega,by go_num,HX2.out⟩
    ·have HS2:Hid (SX (j+1)=(fun i=>if i=j then(sub (SX j).2 (low+x)).1 else(SX j).1 i,(sub (SX j).2 (low+x)).2)):=by show _=_;rw[HS.out,if_neg hcl]
     have i3:(T:Int)<=(low:Int)+(x:Int):=by omega
     have i4:(0:Int)<=(low:Int)+(x:Int):=by omega
     rcases HSUB.out with⟨e1,hs⟩|⟨e1,hs⟩;have i5:((st:Int)==1)=true:=by rw[beq_iff_eq];omega
     rotate_left;have i5:((st:Int)==1)=false:=by rw[hJ];omega
     all_goals
      have hs3:=hs wr _ hX.ma HTJ.1 (by rw[HTJ.2];exact HFIT.out.2) (low+x) (by omega);rw[Int.natCast_add] at hs3;have HC:=vl hs3;clear hgk hX hcl HS HTJ HSUB hs hs3 e1;generalize (sub (SX j).2 (low+x)).1=r1 at *;generalize (sub (SX j).2 (low+x)).2=m5 at *;generalize (SX j).1 j=old at *;go_wp2_with (first|(go_at_call 176;refine(HLE.out _).mono ?_;rintro e w9 ⟨rfl,hw9⟩;have hw8:=hw9.symm;subst hw8)|(go_at_call 134;refine HC.out.mono ?_;rintro e w5 ⟨rfl,hM5,hS5⟩;have hX5:=HB.out.2.call hM5 hS5;obtain⟨y5,z5⟩:=hX5.cell j hj2;have HX5:=vl hX5;clear hX5 hM5 hS5)|(go_at_call 136;refine HC.out.mono ?_;rintro e w5 ⟨rfl,hM5,hS5⟩;have hX5:=HB.out.2.call hM5 hS5;obtain⟨y5,z5⟩:=hX5.cell j hj2;have HX5:=vl hX5;clear hX5 hM5 hS5))
      go_roundg (64-(j+1))
      case measure=>rw[HB.out.1];omega
      case rel=>
       refine⟨j+1,rfl,by omega,by go_num,?_⟩;rw[HS2.out];exact HX5.out.set j hj2 r1
   ·have i2:(64:Int)<=(j:Int):=by omega
    have e:j=64:=by omega
    subst e;have HR2:=vl (zEu wr b _ hX.arr);have HLN:=vl (zKb (SX 64).1);have HW:Hid (Ca 179 #[pointer (some ⟨mb,0,none⟩),agg (a64 (SX 64).1)] wr fun e w'=>e=returned (int i64 (zEA most (SX 64)).1)∧MwIs w0 w' mb kb most (zEA most (SX 64)).2∧StayT wr w'):=zED w0 wr mb kb most _ hX.ma hmost (by have:=HTJ.1.same;have:=HTJ.1.few;omega) (by have:=HTJ.1.few;omega) _;clear hgk hX HTJ HSUB;generalize (a64 (SX 64).1)=A at *;generalize zEA most (SX 64)=wu at *;go_wp2_with (first|(refine wpList_load_mid rfl 246 (.tmp 9) rfl b 0 rfl A.toList (.array 64 3) HR2.out underlying246 rfl HLN.out ?_)|(go_at_call 179;refine HW.out.mono ?_;rintro e w5 ⟨rfl,hM5,hS5⟩))
    go_ret;exact⟨by rw[HZ2.out];rfl,by rw[HZ2.out];exact hM5,HB.out.2.stay.trans hS5⟩
theorem zCv (h:MwIs w0 w mb kb most m)(hmost:most<=1000000)(fit:m.Fit most)(k:Kd)(a:Ar)(hK:KdAt w0 kb a k)(ok:k.Ok a)(kind:Nat)(hk:kind<k.rows.length)(hof:m.of.length=k.rows.length)(low:Nat)(hlow:low<=1410000):Calls prog 136 #[pointer (some ⟨mb,0,none⟩),int i64 (kind:Int),int i64 (low:Int),int i64 1] w fun e w'=>e=returned (int i64 (yG k a most kind 0 m low).1)∧MwIs w0 w' mb kb most (yG k a most kind 0 m low).2∧StayT w w':=
 zAX w0 w mb kb most m h hmost fit k a hK ok kind hk hof low hlow 0 1 1 0 (.inl rfl) (by decide) rfl rfl _ rfl (fun m c hm=>⟨hm,rfl⟩) (.inl ⟨rfl,fun wr m2 hM _ hof2 c _=>(zBZ w0 wr mb kb most m2 hM k a hK ok kind hk hof2 (c:Int)).mono (by rintro e w2 ⟨rfl,hk2⟩;exact⟨rfl,hM.grown hk2,hk2.stayT⟩)⟩)
theorem zCu (h:MwIs w0 w mb kb most m)(hmost:most<=1000000)(fit:m.Fit most)(k:Kd)(a:Ar)(hK:KdAt w0 kb a k)(ok:k.Ok a)(kind:Nat)(hk:kind<k.rows.length)(hof:m.of.length=k.rows.length)(low:Nat)(hlow:low<=1400000):Calls prog 136 #[pointer (some ⟨mb,0,none⟩),int i64 (kind:Int),int i64 (low:Int),int i64 64] w fun e w'=>e=returned (int i64 (yG k a most kind 1 m low).1)∧MwIs w0 w' mb kb most (yG k a most kind 1 m low).2∧StayT w w':=
 zAX w0 w mb kb most m h hmost fit k a hK ok kind hk hof low (by omega) 1 64 2 1 (.inr (.inl rfl)) (by decide) rfl rfl _ rfl (zAi k a most kind 0) (.inr ⟨by decide,fun wr m2 hM hF hof2 c hc=>zCv w0 wr mb kb most m2 hM hmost hF k a hK ok kind hk hof2 c (by omega)⟩)
theorem zFV (h:MwIs w0 w mb kb most m)(hmost:most<=1000000)(fit:m.Fit most)(k:Kd)(a:Ar)(hK:KdAt w0 kb a k)(ok:k.Ok a)(kind:Nat)(hk:kind<k.rows.length)(hof:m.of.length=k.rows.length)(low:Nat)(hlow:low<=1100000):Calls prog 136 #[pointer (some ⟨mb,0,none⟩),int i64 (kind:Int),int i64 (low:Int),int i64 4096] w fun e w'=>e=returned (int i64 (yG k a most kind 2 m low).1)∧MwIs w0 w' mb kb most (yG k a most kind 2 m low).2∧StayT w w':=
 zAX w0 w mb kb most m h hmost fit k a hK ok kind hk hof low (by omega) 2 4096 3 64 (.inr (.inr rfl)) (by decide) rfl rfl _ rfl (zAi k a most kind 1) (.inr ⟨by decide,fun wr m2 hM hF hof2 c hc=>zCu w0 wr mb kb most m2 hM hmost hF k a hK ok kind hk hof2 c (by omega)⟩)
end
section
variable (k:Kd) (a:Ar) {most:Nat} (kind s:Nat) {m:Mk} (h:m.Fit most)
def Grows (sub:Mk->Nat->Int×Mk):Prop:=∀m c,m.next.length<=(sub m c).2.next.length
theorem zDS (m:Mk)(most:Nat)(r:Int):m.next.length<=(m.add most r).next.length:=by
 unfold Mk.add;split
 ·exact lQ
 ·show _<=(m.next++[zeros]).length;simp
theorem zEB (m:Mk)(most:Nat)(f:Nat->Int):m.next.length<=(m.withM most f).next.length:=by
 unfold Mk.withM;split
 ·exact lQ
 ·split
  ·exact lQ
  ·split
   ·exact zDS _ _ _
   ·rw[zBp];exact zDS _ _ _
theorem zJG (most c:Nat):∀(m:Mk) (to:Int),m.next.length<=(Mk.even most c m to).2.next.length:=by
 induction c with
 |zero=>exact fun m to=>lQ
 |succ c ih=>exact fun m to=>lY (zEB m most fun _=>to) (ih _ _)
theorem zKL {sub:Mk->Nat->Int×Mk}(h:Grows sub)(step low:Nat)(m:Mk)(j:Nat):m.next.length<=(yU sub step low m j).2.next.length:=by
 induction j with
 |zero=>exact lQ
 |succ j ih=>
  unfold yU;split
  ·exact ih
  ·exact lY ih (h _ _)
theorem zCt (most kind cnt step:Nat){sub:Mk->Nat->Int×Mk}(h:Grows sub):Grows (jM k a most kind cnt step sub):=by
 intro m low;unfold jM;split
 ·exact zJG _ _ _ _
 ·exact lY (zKL h step low m 64) (zEB _ _ _)
theorem zAu (most kind l:Nat):Grows (yG k a most kind l):=by
 induction l with
 |zero=>exact zCt k a most kind 1 1 fun m c=>lQ
 |succ l ih=>exact zCt k a most kind (l+2) (qX (l+2)) ih
def qW (sub:Mk->Nat->Int×Mk)(s lo:Nat)(m:Mk):Nat->Mk
 |0=>m
 |j+1=>(sub (qW sub s lo m j) (lo+j)).2.put s (lo+j) (sub (qW sub s lo m j) (lo+j)).1
theorem zAI {sub:Mk->Nat->Int×Mk}(h:Tame most sub)(g:Grows sub)(s lo:Nat){m:Mk}(hm:m.Fit most)(j:Nat):(qW sub s lo m j).Fit most∧(qW sub s lo m j).of=m.of∧m.next.length<=(qW sub s lo m j).next.length:=by
 induction j with
 |zero=>exact⟨hm,rfl,lQ⟩
 |succ j ih=>
  have h1:=h (qW sub s lo m j) (lo+j) ih.1;refine⟨zJ4 h1.1 _ _ _,h1.2.trans ih.2.1,?_⟩;show _<=((sub (qW sub s lo m j) (lo+j)).2.put s (lo+j) _).next.length
  rw[zC1];exact lY ih.2.2 (g _ _)
theorem zAS {most s lo:Nat}{sub:Mk->Nat->Int×Mk}(ht:Tame most sub)(hg:Grows sub){M m:Mk}(hp:M.Fit most∧M.of=m.of∧m.next.length<=M.next.length)(hs:s<m.next.length)(j:Nat):(qW sub s lo M j).Fit most∧(qW sub s lo M j).of=m.of∧s<(qW sub s lo M j).next.length∧s<(sub (qW sub s lo M j) (lo+j)).2.next.length∧(sub (qW sub s lo M j) (lo+j)).2.of=m.of:=by
 have h1:=zAI ht hg s lo hp.1 j;have h2:=ht _ (lo+j) h1.1;have h3:=hg (qW sub s lo M j) (lo+j);exact⟨h1.1,h1.2.1.trans hp.2.1,by omega,by omega,h2.2.trans (h1.2.1.trans hp.2.1)⟩
def zEf (k:Kd)(a:Ar)(kind:Nat)(m:Mk)(b:Nat):Int×Mk:=(m.behind k a kind (b:Int),m)
def zCW (k:Kd)(a:Ar)(most kind:Nat)(m:Mk)(b:Nat):Int×Mk:=yG k a most kind 0 m ((b-192)*64)
def zCV (k:Kd)(a:Ar)(most kind:Nat)(m:Mk)(b:Nat):Int×Mk:=yG k a most kind 1 m ((b-224)*4096)
def zCU (k:Kd)(a:Ar)(most kind:Nat)(m:Mk)(b:Nat):Int×Mk:=yG k a most kind 2 m ((b-240)*262144)
theorem zB8 (most kind:Nat):Tame most (zEf k a kind)∧Grows (zEf k a kind):=⟨fun m c hm=>⟨hm,rfl⟩,fun m c=>lQ⟩
theorem zB7 (most kind:Nat):Tame most (zCW k a most kind)∧Grows (zCW k a most kind):=⟨fun m c hm=>by unfold zCW;exact zAi k a most kind 0 m _ hm,fun m c=>by unfold zCW;exact zAu k a most kind 0 m _⟩
theorem zB6 (most kind:Nat):Tame most (zCV k a most kind)∧Grows (zCV k a most kind):=⟨fun m c hm=>by unfold zCV;exact zAi k a most kind 1 m _ hm,fun m c=>by unfold zCV;exact zAu k a most kind 1 m _⟩
theorem zB5 (most kind:Nat):Tame most (zCU k a most kind)∧Grows (zCU k a most kind):=⟨fun m c hm=>by unfold zCU;exact zAi k a most kind 2 m _ hm,fun m c=>by unfold zCU;exact zAu k a most kind 2 m _⟩
def zDe (k:Kd)(a:Ar)(kind s:Nat)(m:Mk):Mk:=qW (zEf k a kind) s 0 m 128
def zDd (k:Kd)(a:Ar)(most kind s:Nat)(m:Mk):Mk:=qW (zCW k a most kind) s 194 (zDe k a kind s m) 30
def zDc (k:Kd)(a:Ar)(most kind s:Nat)(m:Mk):Mk:=qW (zCV k a most kind) s 224 (zDd k a most kind s m) 16
def zA9 (k:Kd)(a:Ar)(most kind s:Nat)(m:Mk):Mk:=qW (zCU k a most kind) s 240 (zDc k a most kind s m) 5
theorem zFr (h:m.Fit most):(zDe k a kind s m).Fit most∧(zDe k a kind s m).of=m.of∧m.next.length<=(zDe k a kind s m).next.length:=zAI (zB8 k a most kind).1 (zB8 k a most kind).2 s 0 h 128
theorem zFq (h:m.Fit most):(zDd k a most kind s m).Fit most∧(zDd k a most kind s m).of=m.of∧m.next.length<=(zDd k a most kind s m).next.length:=by
 have h1:=zFr k a kind s h;have h2:=zAI (zB7 k a most kind).1 (zB7 k a most kind).2 s 194 h1.1 30;exact⟨h2.1,h2.2.1.trans h1.2.1,lY h1.2.2 h2.2.2⟩
theorem zFp (h:m.Fit most):(zDc k a most kind s m).Fit most∧(zDc k a most kind s m).of=m.of∧m.next.length<=(zDc k a most kind s m).next.length:=by
 have h1:=zFq k a kind s h;have h2:=zAI (zB6 k a most kind).1 (zB6 k a most kind).2 s 224 h1.1 16;exact⟨h2.1,h2.2.1.trans h1.2.1,lY h1.2.2 h2.2.2⟩
theorem zJE (h:m.Fit most):(zA9 k a most kind s m).Fit most∧(zA9 k a most kind s m).of=m.of∧m.next.length<=(zA9 k a most kind s m).next.length:=by
 have h1:=zFp k a kind s h;have h2:=zAI (zB5 k a most kind).1 (zB5 k a most kind).2 s 240 h1.1 5;exact⟨h2.1,h2.2.1.trans h1.2.1,lY h1.2.2 h2.2.2⟩
end
theorem zJB (w0 w:World)(mb kb most:Nat)(m:Mk)(h:MwIs w0 w mb kb most m)(hmost:most<=1000000)(fit:m.Fit most)(k:Kd)(a:Ar)(hK:KdAt w0 kb a k)(ok:k.Ok a)(kind s:Nat)(hk:kind<k.rows.length)(hof:m.of.length=k.rows.length)(hs:m.of.getD kind 0=(s:Int))(hsn:s<m.next.length):
  Calls prog 97 #[pointer (some ⟨mb,0,none⟩),int i64 (kind:Int)] w fun e w'=>e=returned (tuple #[])∧MwIs w0 w' mb kb most (zA9 k a most kind s m)∧StayT w w':=by
 have HH:Hid (MwIs w0 w mb kb most m):=h;have HLEAD:Hid (∀wr m2,MwIs w0 wr mb kb most m2->m2.of=m.of->s<m2.next.length->∀b:Nat,b<256->∀x:Int,Ca 135 #[pointer (some ⟨mb,0,none⟩),int i64 (kind:Int),int i64 (b:Int),int i64 x] wr fun e w'=>e=returned (tuple #[])∧MwIs w0 w' mb kb most (m2.put s b x)∧StayT wr w'):=fun wr m2 hM hO hl b hb x=>zJq w0 wr mb kb most m2 hM kind b s (by rw[hO,hof];exact hk) (by rw[hO];exact hs) hl hb x;have HSUB1:Hid (∀wr m2,MwIs w0 wr mb kb most m2->m2.Fit most->m2.of=m.of->∀b:Nat,0<=b->b<=127->∀y:Int,y=(b:Int)->Ca 134 #[pointer (some ⟨mb,0,none⟩),int i64 (kind:Int),int i64 y] wr fun e w'=>e=returned (int i64 (zEf k a kind m2 b).1)∧MwIs w0 w' mb kb most (zEf k a kind m2 b).2∧StayT wr w'):=by
  intro wr m2 hM hF hO b hb1 hb2 y hy;subst hy;refine(zBZ w0 wr mb kb most m2 hM k a hK ok kind hk (by rw[hO];exact hof) (b:Int)).mono ?_;rintro e w2 ⟨rfl,hk2⟩;exact⟨rfl,hM.grown hk2,hk2.stayT⟩
 have HSUB2:Hid (∀wr m2,MwIs w0 wr mb kb most m2->m2.Fit most->m2.of=m.of->∀b:Nat,194<=b->b<=223->∀y:Int,y=((b:Int)-192)*64->Ca 136 #[pointer (some ⟨mb,0,none⟩),int i64 (kind:Int),int i64 y,int i64 1] wr fun e w'=>e=returned (int i64 (zCW k a most kind m2 b).1)∧MwIs w0 w' mb kb most (zCW k a most kind m2 b).2∧StayT wr w'):=by
  intro wr m2 hM hF hO b hb1 hb2 y hy;rw[hy,show((b:Int)-192)*64=(((b-192)*64:Nat):Int) by omega];exact zCv w0 wr mb kb most m2 hM hmost hF k a hK ok kind hk (by rw[hO];exact hof) _ (by omega)
 have HSUB3:Hid (∀wr m2,MwIs w0 wr mb kb most m2->m2.Fit most->m2.of=m.of->∀b:Nat,224<=b->b<=239->∀y:Int,y=((b:Int)-224)*4096->Ca 136 #[pointer (some ⟨mb,0,none⟩),int i64 (kind:Int),int i64 y,int i64 64] wr fun e w'=>e=returned (int i64 (zCV k a most kind m2 b).1)∧MwIs w0 w' mb kb most (zCV k a most kind m2 b).2∧StayT wr w'):=by
  intro wr m2 hM hF hO b hb1 hb2 y hy;rw[hy,show((b:Int)-224)*4096=(((b-224)*4096:Nat):Int) by omega];exact zCu w0 wr mb kb most m2 hM hmost hF k a hK ok kind hk (by rw[hO];exact hof) _ (by omega)
 have HSUB4:Hid (∀wr m2,MwIs w0 wr mb kb most m2->m2.Fit most->m2.of=m.of->∀b:Nat,240<=b->b<=244->∀y:Int,y=((b:Int)-240)*262144->Ca 136 #[pointer (some ⟨mb,0,none⟩),int i64 (kind:Int),int i64 y,int i64 4096] wr fun e w'=>e=returned (int i64 (zCU k a most kind m2 b).1)∧MwIs w0 w' mb kb most (zCU k a most kind m2 b).2∧StayT wr w'):=by
  intro wr m2 hM hF hO b hb1 hb2 y hy;rw[hy,show((b:Int)-240)*262144=(((b-240)*262144:Nat):Int) by omega];exact zFV w0 wr mb kb most m2 hM hmost hF k a hK ok kind hk (by rw[hO];exact hof) _ (by omega)
 obtain⟨FL1,hFL1⟩:∃FL,FL=qW (zEf k a kind) s 0 (m):=⟨_,rfl⟩
 have HF1:Hid (FL1 0=m∧FL1 128=zDe k a kind s m∧(∀j,FL1 (j+1)=((zEf k a kind) (FL1 j) (0+j)).2.put s (0+j) ((zEf k a kind) (FL1 j) (0+j)).1)∧∀j,(FL1 j).Fit most∧(FL1 j).of=m.of∧s<(FL1 j).next.length∧s<((zEf k a kind) (FL1 j) (0+j)).2.next.length∧((zEf k a kind) (FL1 j) (0+j)).2.of=m.of):=by
  rw[hFL1];exact⟨rfl,rfl,fun j=>rfl,zAS (zB8 k a most kind).1 (zB8 k a most kind).2 ⟨fit,rfl,lQ⟩ hsn⟩
 clear hFL1;obtain⟨FL2,hFL2⟩:∃FL,FL=qW (zCW k a most kind) s 194 (zDe k a kind s m):=⟨_,rfl⟩
 have HF2:Hid (FL2 0=zDe k a kind s m∧FL2 30=zDd k a most kind s m∧(∀j,FL2 (j+1)=((zCW k a most kind) (FL2 j) (194+j)).2.put s (194+j) ((zCW k a most kind) (FL2 j) (194+j)).1)∧∀j,(FL2 j).Fit most∧(FL2 j).of=m.of∧s<(FL2 j).next.length∧s<((zCW k a most kind) (FL2 j) (194+j)).2.next.length∧((zCW k a most kind) (FL2 j) (194+j)).2.of=m.of):=by
  rw[hFL2];exact⟨rfl,rfl,fun j=>rfl,zAS (zB7 k a most kind).1 (zB7 k a most kind).2 (zFr k a kind s fit) hsn⟩
 clear hFL2;obtain⟨FL3,hFL3⟩:∃FL,FL=qW (zCV k a most kind) s 224 (zDd k a most kind s m):=⟨_,rfl⟩
 have HF3:Hid (FL3 0=zDd k a most kind s m∧FL3 16=zDc k a most kind s m∧(∀j,FL3 (j+1)=((zCV k a most kind) (FL3 j) (224+j)).2.put s (224+j) ((zCV k a most kind) (FL3 j) (224+j)).1)∧∀j,(FL3 j).Fit most∧(FL3 j).of=m.of∧s<(FL3 j).next.length∧s<((zCV k a most kind) (FL3 j) (224+j)).2.next.length∧((zCV k a most kind) (FL3 j) (224+j)).2.of=m.of):=by
  rw[hFL3];exact⟨rfl,rfl,fun j=>rfl,zAS (zB6 k a most kind).1 (zB6 k a most kind).2 (zFq k a kind s fit) hsn⟩
 clear hFL3;obtain⟨FL4,hFL4⟩:∃FL,FL=qW (zCU k a most kind) s 240 (zDc k a most kind s m):=⟨_,rfl⟩
 have HF4:Hid (FL4 0=zDc k a most kind s m∧FL4 5=zA9 k a most kind s m∧(∀j,FL4 (j+1)=((zCU k a most kind) (FL4 j) (240+j)).2.put s (240+j) ((zCU k a most kind) (FL4 j) (240+j)).1)∧∀j,(FL4 j).Fit most∧(FL4 j).of=m.of∧s<(FL4 j).next.length∧s<((zCU k a most kind) (FL4 j) (240+j)).2.next.length∧((zCU k a most kind) (FL4 j) (240+j)).2.of=m.of):=by
  rw[hFL4];exact⟨rfl,rfl,fun j=>rfl,zAS (zB5 k a most kind).1 (zB5 k a most kind).2 (zFp k a kind s fit) hsn⟩
 clear hFL4;clear h fit hK ok hk hof hs hsn hmost;generalize hs1:zEf k a kind=SB1 at *;clear hs1;generalize hs2:zCW k a most kind=SB2 at *;clear hs2;generalize hs3:zCV k a most kind=SB3 at *;clear hs3;generalize hs4:zCU k a most kind=SB4 at *;clear hs4;generalize hm1:zDe k a kind s m=M1 at *;clear hm1;generalize hm2:zDd k a most kind s m=M2 at *;clear hm2;generalize hm3:zDc k a most kind s m=M3 at *;clear hm3;generalize hm4:zA9 k a most kind s m=M4 at *;clear hm4;go_enter func97,ntmps97
 go_wp2_with fail;go_loopg [4] 128 (fun q v wr=>∃j b:Nat,q=128-j∧j<=128∧b=0+j∧v=int i64 (b:Int)∧MwIs w0 wr mb kb most (FL1 j)∧StayT w wr)
 case atStart=>exact⟨0,0,rfl,lX,rfl,rfl,by rw[HF1.out.1];exact HH.out,StayT.refl _⟩
 case round=>
  obtain⟨j,b,hgk,hj,hb,rfl,hM,hS⟩:=hrel;have HB:Hid (gk=128-j∧MwIs w0 wr mb kb most (FL1 j)∧StayT w wr):=⟨hgk,hM,hS⟩
  by_cases hj2:j<128
  ·have i1:(b:Int)<128:=by omega
   have i2:(b:Int)<256:=by omega
   obtain⟨hF,hO,hsl,hsl2,hO2⟩:=HF1.out.2.2.2 j;have HC:Hid (∀y:Int,y=(b:Int)->Ca 134 #[pointer (some ⟨mb,0,none⟩),int i64 (kind:Int),int i64 y] wr fun e w'=>e=returned (int i64 (SB1 (FL1 j) b).1)∧MwIs w0 w' mb kb most (SB1 (FL1 j) b).2∧StayT wr w'):=HSUB1.out wr _ hM hF hO b (by omega) (by omega);have HN:Hid (FL1 (j+1)=(SB1 (FL1 j) b).2.put s b (SB1 (FL1 j) b).1):=by have h:=HF1.out.2.2.1 j;rw[<-hb] at h;exact h
   rw[<-hb] at hsl2 hO2;have HLD:Hid (∀w5,MwIs w0 w5 mb kb most (SB1 (FL1 j) b).2->∀x:Int,Ca 135 #[pointer (some ⟨mb,0,none⟩),int i64 (kind:Int),int i64 (b:Int),int i64 x] w5 fun e w'=>e=returned (tuple #[])∧MwIs w0 w' mb kb most ((SB1 (FL1 j) b).2.put s b x)∧StayT w5 w'):=fun w5 h5 x=>HLEAD.out w5 _ h5 hO2 hsl2 b (by omega) x;have Hb:Hid (b=0+j):=hb;clear hgk hM hS hF hO hsl hsl2 hO2 hb;generalize (SB1 (FL1 j) b).1=r1 at *;generalize (SB1 (FL1 j) b).2=m5 at *;go_wp2_with (first|(go_at_call 134;refine(HC.out _ (by omega)).mono ?_;rintro e w5 ⟨rfl,hM5,hS5⟩)|(go_at_call 135;refine(HLD.out w5 hM5 r1).mono ?_;rintro e w6 ⟨rfl,hM6,hS6⟩))
   go_roundg (128-(j+1))
   case measure=>rw[HB.out.1];omega
   case rel=>exact⟨j+1,b+1,rfl,by omega,by have:=Hb.out;omega,by go_num,by rw[HN.out];exact hM6,(HB.out.2.2.trans hS5).trans hS6⟩
  ·have i1:128<=(b:Int):=by omega
   have hje:j=128:=by omega
   have HM1:Hid (MwIs w0 wr mb kb most M1∧StayT w wr):=by
    rw[hje,HF1.out.2.1] at hM;exact⟨hM,hS⟩
   clear hgk hM hS HB hje hj2 hj hb;go_wp2_with fail;go_loopg [6] 30 (fun q v wr=>∃j b:Nat,q=30-j∧j<=30∧b=194+j∧v=int i64 (b:Int)∧MwIs w0 wr mb kb most (FL2 j)∧StayT w wr)
   case atStart=>exact⟨0,194,rfl,lX,rfl,rfl,by rw[HF2.out.1];exact HM1.out.1,HM1.out.2⟩
   case round=>
    obtain⟨j,b,hgk,hj,hb,rfl,hM,hS⟩:=hrel;have HB:Hid (gk=30-j∧MwIs w0 wr mb kb most (FL2 j)∧StayT w wr):=⟨hgk,hM,hS⟩
    by_cases hj2:j<30
    ·have i1:(b:Int)<=223:=by omega
     have i2:(b:Int)<256:=by omega
     obtain⟨hF,hO,hsl,hsl2,hO2⟩:=HF2.out.2.2.2 j;have HC:Hid (∀y:Int,y=((b:Int)-192)*64->Ca 136 #[pointer (some ⟨mb,0,none⟩),int i64 (kind:Int),int i64 y,int i64 1] wr fun e w'=>e=returned (int i64 (SB2 (FL2 j) b).1)∧MwIs w0 w' mb kb most (SB2 (FL2 j) b).2∧StayT wr w'):=HSUB2.out wr _ hM hF hO b (by omega) (by omega);have HN:Hid (FL2 (j+1)=(SB2 (FL2 j) b).2.put s b (SB2 (FL2 j) b).1):=by have h:=HF2.out.2.2.1 j;rw[<-hb] at h;exact h
     rw[<-hb] at hsl2 hO2;have HLD:Hid (∀w5,MwIs w0 w5 mb kb most (SB2 (FL2 j) b).2->∀x:Int,Ca 135 #[pointer (some ⟨mb,0,none⟩),int i64 (kind:Int),int i64 (b:Int),int i64 x] w5 fun e w'=>e=returned (tuple #[])∧MwIs w0 w' mb kb most ((SB2 (FL2 j) b).2.put s b x)∧StayT w5 w'):=fun w5 h5 x=>HLEAD.out w5 _ h5 hO2 hsl2 b (by omega) x;have Hb:Hid (b=194+j):=hb;clear hgk hM hS hF hO hsl hsl2 hO2 hb;generalize (SB2 (FL2 j) b).1=r1 at *;generalize (SB2 (FL2 j) b).2=m5 at *;go_wp2_with (first|(go_at_call 136;refine(HC.out _ (by omega)).mono ?_;rintro e w5 ⟨rfl,hM5,hS5⟩)|(go_at_call 135;refine(HLD.out w5 hM5 r1).mono ?_;rintro e w6 ⟨rfl,hM6,hS6⟩))
     go_roundg (30-(j+1))
     case measure=>rw[HB.out.1];omega
     case rel=>exact⟨j+1,b+1,rfl,by omega,by have:=Hb.out;omega,by go_num,by rw[HN.out];exact hM6,(HB.out.2.2.trans hS5).trans hS6⟩
    ·have i1:223<(b:Int):=by omega
     have hje:j=30:=by omega
     have HM2:Hid (MwIs w0 wr mb kb most M2∧StayT w wr):=by
      rw[hje,HF2.out.2.1] at hM;exact⟨hM,hS⟩
     clear hgk hM hS HB hje hj2 hj hb;go_wp2_with fail;go_loopg [8] 16 (fun q v wr=>∃j b:Nat,q=16-j∧j<=16∧b=224+j∧v=int i64 (b:Int)∧MwIs w0 wr mb kb most (FL3 j)∧StayT w wr)
     case atStart=>exact⟨0,224,rfl,lX,rfl,rfl,by rw[HF3.out.1];exact HM2.out.1,HM2.out.2⟩
     case round=>
      obtain⟨j,b,hgk,hj,hb,rfl,hM,hS⟩:=hrel;have HB:Hid (gk=16-j∧MwIs w0 wr mb kb most (FL3 j)∧StayT w wr):=⟨hgk,hM,hS⟩
      by_cases hj2:j<16
      ·have i1:(b:Int)<=239:=by omega
       have i2:(b:Int)<256:=by omega
       obtain⟨hF,hO,hsl,hsl2,hO2⟩:=HF3.out.2.2.2 j;have HC:Hid (∀y:Int,y=((b:Int)-224)*4096->Ca 136 #[pointer (some ⟨mb,0,none⟩),int i64 (kind:Int),int i64 y,int i64 64] wr fun e w'=>e=returned (int i64 (SB3 (FL3 j) b).1)∧MwIs w0 w' mb kb most (SB3 (FL3 j) b).2∧StayT wr w'):=HSUB3.out wr _ hM hF hO b (by omega) (by omega);have HN:Hid (FL3 (j+1)=(SB3 (FL3 j) b).2.put s b (SB3 (FL3 j) b).1):=by have h:=HF3.out.2.2.1 j;rw[<-hb] at h;exact h
       rw[<-hb] at hsl2 hO2;have HLD:Hid (∀w5,MwIs w0 w5 mb kb most (SB3 (FL3 j) b).2->∀x:Int,Ca 135 #[pointer (some ⟨mb,0,none⟩),int i64 (kind:Int),int i64 (b:Int),int i64 x] w5 fun e w'=>e=returned (tuple #[])∧MwIs w0 w' mb kb most ((SB3 (FL3 j) b).2.put s b x)∧StayT w5 w'):=fun w5 h5 x=>HLEAD.out w5 _ h5 hO2 hsl2 b (by omega) x;have Hb:Hid (b=224+j):=hb;clear hgk hM hS hF hO hsl hsl2 hO2 hb;generalize (SB3 (FL3 j) b).1=r1 at *;generalize (SB3 (FL3 j) b).2=m5 at *;go_wp2_with (first|(go_at_call 136;refine(HC.out _ (by omega)).mono ?_;rintro e w5 ⟨rfl,hM5,hS5⟩)|(go_at_call 135;refine(HLD.out w5 hM5 r1).mono ?_;rintro e w6 ⟨rfl,hM6,hS6⟩))
       go_roundg (16-(j+1))
       case measure=>rw[HB.out.1];omega
       case rel=>exact⟨j+1,b+1,rfl,by omega,by have:=Hb.out;omega,by go_num,by rw[HN.out];exact hM6,(HB.out.2.2.trans hS5).trans hS6⟩
      ·have i1:239<(b:Int):=by omega
       have hje:j=16:=by omega
       have HM3:Hid (MwIs w0 wr mb kb most M3∧StayT w wr):=by
        rw[hje,HF3.out.2.1] at hM;exact⟨hM,hS⟩
       clear hgk hM hS HB hje hj2 hj hb;go_wp2_with fail;go_loopg [10] 5 (fun q v wr=>∃j b:Nat,q=5-j∧j<=5∧b=240+j∧v=int i64 (b:Int)∧MwIs w0 wr mb kb most (FL4 j)∧StayT w wr)
       case atStart=>exact⟨0,240,rfl,lX,rfl,rfl,by rw[HF4.out.1];exact HM3.out.1,HM3.out.2⟩
       case round=>
        obtain⟨j,b,hgk,hj,hb,rfl,hM,hS⟩:=hrel;have HB:Hid (gk=5-j∧MwIs w0 wr mb kb most (FL4 j)∧StayT w wr):=⟨hgk,hM,hS⟩
        by_cases hj2:j<5
        ·have i1:(b:Int)<=244:=by omega
         have i2:(b:Int)<256:=by omega
         obtain⟨hF,hO,hsl,hsl2,hO2⟩:=HF4.out.2.2.2 j;have HC:Hid (∀y:Int,y=((b:Int)-240)*262144->Ca 136 #[pointer (some ⟨mb,0,none⟩),int i64 (kind:Int),int i64 y,int i64 4096] wr fun e w'=>e=returned (int i64 (SB4 (FL4 j) b).1)∧MwIs w0 w' mb kb most (SB4 (FL4 j) b).2∧StayT wr w'):=HSUB4.out wr _ hM hF hO b (by omega) (by omega);have HN:Hid (FL4 (j+1)=(SB4 (FL4 j) b).2.put s b (SB4 (FL4 j) b).1):=by have h:=HF4.out.2.2.1 j;rw[<-hb] at h;exact h
         rw[<-hb] at hsl2 hO2;have HLD:Hid (∀w5,MwIs w0 w5 mb kb most (SB4 (FL4 j) b).2->∀x:Int,Ca 135 #[pointer (some ⟨mb,0,none⟩),int i64 (kind:Int),int i64 (b:Int),int i64 x] w5 fun e w'=>e=returned (tuple #[])∧MwIs w0 w' mb kb most ((SB4 (FL4 j) b).2.put s b x)∧StayT w5 w'):=fun w5 h5 x=>HLEAD.out w5 _ h5 hO2 hsl2 b (by omega) x;have Hb:Hid (b=240+j):=hb;clear hgk hM hS hF hO hsl hsl2 hO2 hb;generalize (SB4 (FL4 j) b).1=r1 at *;generalize (SB4 (FL4 j) b).2=m5 at *;go_wp2_with (first|(go_at_call 136;refine(HC.out _ (by omega)).mono ?_;rintro e w5 ⟨rfl,hM5,hS5⟩)|(go_at_call 135;refine(HLD.out w5 hM5 r1).mono ?_;rintro e w6 ⟨rfl,hM6,hS6⟩))
         go_roundg (5-(j+1))
         case measure=>rw[HB.out.1];omega
         case rel=>exact⟨j+1,b+1,rfl,by omega,by have:=Hb.out;omega,by go_num,by rw[HN.out];exact hM6,(HB.out.2.2.trans hS5).trans hS6⟩
        ·have i1:244<(b:Int):=by omega
         have hje:j=5:=by omega
         have HM4:Hid (MwIs w0 wr mb kb most M4∧StayT w wr):=by
          rw[hje,HF4.out.2.1] at hM;exact⟨hM,hS⟩
         clear hgk hM hS HB hje hj2 hj hb;go_wp2_with fail;go_end0;exact⟨rfl,HM4.out.1,HM4.out.2⟩
def Mk.blank:Mk:=⟨[],[],[],false⟩
def Mk.withOf (m:Mk)(l:List Int):Mk:={m with of:=l}
def zU (k:Kd)(most:Nat):Nat->Mk
 |0=>Mk.blank.add most (-1)
 |j+1=>if j=k.dead then(zU k most j).withOf ((zU k most j).of++[0]) else((zU k most j).add most (k.rules.getD j 0)).withOf ((zU k most j).of++[((zU k most j).addN most:Int)])
theorem zEE {m:Mk}{most:Nat}(h:m.Fit most)(l:List Int):(m.withOf l).Fit most:=⟨h.same,h.few⟩
theorem zB4 (k:Kd)(most j:Nat):(zU k most j).Fit most∧(zU k most j).of.length=j:=by
 induction j with
 |zero=>exact⟨zEy ⟨rfl,lX⟩ _,by show(Mk.blank.add most (-1)).of.length=0;rw[zCM];rfl⟩
 |succ j ih=>
  unfold zU;split
  ·exact⟨zEE ih.1 _,by show((zU k most j).of++[0]).length=j+1;rw[kX,ih.2];rfl⟩
  ·exact⟨zEE (zEy ih.1 _) _,by show((zU k most j).of++[_]).length=j+1;rw[kX,ih.2];rfl⟩
theorem zFE (w0 w:World)(mb kb most:Nat)(h:MwIs w0 w mb kb most Mk.blank)(hmost:most<=1000000)(k:Kd)(a:Ar)(hK:KdAt w0 kb a k)(hlen:k.rules.length=k.rows.length)(hrl:k.rows.length<=10000000000):
  Calls prog 96 #[pointer (some ⟨mb,0,none⟩)] w fun e w'=>e=returned (tuple #[])∧MwIs w0 w' mb kb most (zU k most k.rows.length)∧StayT w w':=by
 obtain⟨i0,hi0,hz0,hz1,hz2⟩:=info_parts yL;have HADD:Hid (∀wr m2,MwIs w0 wr mb kb most m2->m2.Fit most->∀r:Int,Ca 133 #[pointer (some ⟨mb,0,none⟩),int i64 r] wr fun e w'=>e=returned (int i64 ((m2.addN most:Nat):Int))∧MwIs w0 w' mb kb most (m2.add most r)∧StayT wr w'):=fun wr m2 hM hF r=>zEd w0 wr mb kb most m2 hM hmost (by have:=hF.same;have:=hF.few;omega) r;have HFB:Hid (Mk.blank.Fit most):=⟨rfl,lX⟩
 have HH:=vl h;have HKC:Hid (∀wr m2,MwIs w0 wr mb kb most m2->∃kn cn ar cr,wr.cell? ⟨mb,0,none⟩=some (pointer (some ⟨kb,0,none⟩))∧wr.cell? ⟨kb,3,none⟩=some (slice kn k.rows.length cn)∧wr.cell? ⟨kb,4,none⟩=some (slice ar k.rows.length cr)∧wr.cell? ⟨kb,6,none⟩=some (int i64 (k.dead:Int))∧∀i,i<k.rows.length->∃b o,ar=some ⟨b,o,none⟩∧wr.cell? ⟨b,o+i,none⟩=some (int i64 (k.rules.getD i 0))):=by
  rintro wr m2 ⟨nv,rv,ov,gs,hM⟩;obtain⟨hkl,lv,tv,sv,kn,kr,hkb,hka,hkn,hkr⟩:=hK.grown hM.keep;obtain⟨an,cn,rfl,-⟩:=hkn;obtain⟨ar,cr,rfl,_,_,hrc⟩:=hkr;rw[kV] at hkb;rw[hlen] at hkb hrc;refine⟨an,cn,ar,cr,hM.cells.1,?_,?_,?_,fun i hi=>?_⟩
  ·unfold cell?;rw[hkb];rfl
  ·unfold cell?;rw[hkb];rfl
  ·unfold cell?;rw[hkb];rfl
  ·obtain⟨b,o,h1,_,h2⟩:=hrc i hi
   exact⟨b,o,h1,h2⟩
 obtain⟨WH,hWH⟩:∃WH,WH=zU k most:=⟨_,rfl⟩
 have HW:Hid (WH 0=Mk.blank.add most (-1)∧(∀j,j=k.dead->WH (j+1)=(WH j).withOf ((WH j).of++[0]))∧(∀j,j≠k.dead->WH (j+1)=((WH j).add most (k.rules.getD j 0)).withOf ((WH j).of++[((WH j).addN most:Int)]))∧(∀j,(WH j).Fit most∧(WH j).of.length=j)∧WH k.rows.length=zU k most k.rows.length):=by
  rw[hWH];exact⟨rfl,fun j hj=>if_pos hj,fun j hj=>if_neg hj,fun j=>zB4 k most j,rfl⟩
 generalize zU k most k.rows.length=WE at *;clear hWH h hK hlen;go_in;go_wp2_with (first|(go_at_call 133;refine(HADD.out w _ HH.out HFB.out (-1)).mono ?_;rintro e w1 ⟨rfl,hM1,hS1⟩;obtain⟨kn,cn,ar,cr,y0,y3,y4,y6,-⟩:=HKC.out w1 _ hM1;have HM1:Hid (MwIs w0 w1 mb kb most (WH 0)∧StayT w w1):=⟨(by rw[HW.out.1];exact hM1),hS1⟩;clear hM1 hS1))
 clear y0 y3 y4 y6;go_loopg [14] k.rows.length (fun q i wr=>∃j:Nat,q=k.rows.length-j∧j<=k.rows.length∧i=int i64 (j:Int)∧MwIs w0 wr mb kb most (WH j)∧StayT w wr)
 case atStart=>exact⟨0,rfl,lX,rfl,HM1.out.1,HM1.out.2⟩
 case round=>
  obtain⟨j,hgk,hj,rfl,hM,hS⟩:=hrel;have HB:Hid (gk=k.rows.length-j∧MwIs w0 wr mb kb most (WH j)∧StayT w wr):=⟨hgk,hM,hS⟩
  obtain⟨kn2,cn2,ar2,cr2,y0,y3,y4,y6,yr⟩:=HKC.out wr _ hM;by_cases hj2:j<k.rows.length
  ·have i1:(j:Int)<(k.rows.length:Int):=by omega
   obtain⟨b,o,rfl,yc⟩:=yr j hj2;by_cases hd:j=k.dead
   ·have hdc:((j:Int)==(k.dead:Int))=true:=by simp;omega
    have HN:=vl <| HW.out.2.1 j hd;have hol:=(HW.out.2.2.2.1 j).2;obtain⟨nv,rv,ov,gs,hMw⟩:=hM;obtain⟨ao,co,hov⟩:=hMw.oOwn.form;rw[hol] at hov;subst hov;have x6:=hMw.cells.2.2.2.2.2.1;have hlt:=hMw.lt;have hH:w0.heap.size<=wr.heap.size:=hMw.keep.size;have HMw:=vl hMw;have OR:wr.ownsRow w0.heap.size 3 1 (slice ao j co) j ((WH j).of.map fun x=>int i64 x):=by have:=hMw.oOwn;unfold OwnI at this;rw[hol] at this;exact this
    clear hgk hS hMw yr hd y3 y4 yc;go_wp2_with (first|(at_builtin;refine wpList_append_lies _ rfl _ _ 45 rfl (w0.heap.size) 3 i0 (int i64 0) 1 8 underlying45 hi0 hz0 hz1 hz2 rfl (by decide) _ _ _ rfl (OR.alloc _) ⟨wr.heap.size,0,none⟩ 1 1 [int i64 0] rfl rfl (cell_one_new _ _ _) (by intro u hu;simp at hu;subst hu;rfl) (by decide) (by unfold maxLen;omega) (by omega) (by simp;omega) _ rfl ?_;intro gg cap w5 hown hgrow hat hlt5;have hPB:w5.heap[mb]? =wr.heap[mb]? :=(hgrow.block _ (by simp;omega) HMw.out.box.2.2.1).trans (lG _ _ _ (by omega));have t6:w5.cell? ⟨mb,6,none⟩=some (slice ao j co):=(gG hPB).trans x6;have g6:w5.frozen? ⟨mb,6,none⟩=false:=(dQ hPB).trans (HMw.out.cells.2.2.2.2.2.2 6);have HM6:=HMw.out.newOf hol.symm hown hgrow (by rcases hat with ha|ha;exact .inl ha;right;rw[ha];simp)))
    go_roundg (k.rows.length-(j+1))
    case measure=>rw[HB.out.1];omega
    case rel=>exact⟨j+1,rfl,by omega,by go_num,by rw[HN.out];exact⟨_,_,_,_,HM6.1⟩,HB.out.2.2.trans HM6.2⟩
   ·have hdc:((j:Int)==(k.dead:Int))=false:=by simp;omega
    have HN:=vl <| HW.out.2.2.1 j hd;have hol:((WH j).add most (k.rules.getD j 0)).of.length=j:=by rw[zCM];exact(HW.out.2.2.2.1 j).2
    have hof2:((WH j).add most (k.rules.getD j 0)).of=(WH j).of:=zCM _ _ _;rw[<-hof2] at HN;have HC:Hid (Ca 133 #[pointer (some ⟨mb,0,none⟩),int i64 (k.rules.getD j 0)] wr fun e w'=>e=returned (int i64 (((WH j).addN most:Nat):Int))∧MwIs w0 w' mb kb most ((WH j).add most (k.rules.getD j 0))∧StayT wr w'):=HADD.out wr _ hM (HW.out.2.2.2.1 j).1 _;clear hgk hM hS yr hd y3 hof2;generalize k.rules.getD j 0=r at *;generalize (WH j).addN most=s at *;generalize (WH j).add most r=m5 at *;go_wp2_with (first|(go_at_call 133;refine HC.out.mono ?_;rintro e w5 ⟨rfl,⟨nv,rv,ov,gs,hMw⟩,hS5⟩;obtain⟨ao,co,hov⟩:=hMw.oOwn.form;rw[hol] at hov;subst hov;have x6:=hMw.cells.2.2.2.2.2.1;have hlt:=hMw.lt;have hH:w0.heap.size<=w5.heap.size:=hMw.keep.size;have HMw:Hid (Mw w0 w5 mb kb most m5 nv rv (slice ao j co) gs):=hMw;have OR:w5.ownsRow w0.heap.size 3 1 (slice ao j co) j (m5.of.map fun x=>int i64 x):=(by have:=hMw.oOwn;unfold OwnI at this;rw[hol] at this;exact this);clear hMw)|(at_builtin;refine wpList_append_lies _ rfl _ _ 45 rfl (w0.heap.size) 3 i0 (int i64 0) 1 8 underlying45 hi0 hz0 hz1 hz2 rfl (by decide) _ _ _ rfl (OR.alloc _) ⟨w5.heap.size,0,none⟩ 1 1 [int i64 (s:Int)] rfl rfl (cell_one_new _ _ _) (by intro u hu;simp at hu;subst hu;rfl) (by decide) (by unfold maxLen;omega) (by omega) (by simp;omega) _ rfl ?_;intro gg cap w6 hown hgrow hat hlt5;have hPB:w6.heap[mb]? =w5.heap[mb]? :=(hgrow.block _ (by simp;omega) HMw.out.box.2.2.1).trans (lG _ _ _ (by omega));have t6:w6.cell? ⟨mb,6,none⟩=some (slice ao j co):=(gG hPB).trans x6;have g6:w6.frozen? ⟨mb,6,none⟩=false:=(dQ hPB).trans (HMw.out.cells.2.2.2.2.2.2 6);have HM6:=HMw.out.newOf hol.symm hown hgrow (by rcases hat with ha|ha;exact .inl ha;right;rw[ha];simp)))
    go_roundg (k.rows.length-(j+1))
    case measure=>rw[HB.out.1];omega
    case rel=>exact⟨j+1,rfl,by omega,by go_num,by rw[HN.out];exact⟨_,_,_,_,HM6.1⟩,(HB.out.2.2.trans hS5).trans HM6.2⟩
  ·have i1:(k.rows.length:Int)<=(j:Int):=by omega
   have e:j=k.rows.length:=by omega
   subst e;have HE:Hid (MwIs w0 wr mb kb most WE∧StayT w wr):=⟨by rw[<-HW.out.2.2.2.2];exact hM,hS⟩
   clear hgk hM hS yr;go_wp2;go_end0;exact⟨rfl,HE.out.1,HE.out.2⟩
theorem zBw {m:Mk}{most:Nat}{r:Int}(h:(m.add most r).full=false):m.full=false∧(m.add most r).next.length=m.next.length+1∧m.addN most=m.next.length:=by
 unfold Mk.add at h ⊢;unfold Mk.addN;by_cases e:most<=m.next.length
 ·rw[if_pos e] at h
  exact absurd h (by simp)
 ·rw[if_neg e] at h
  rw[if_neg e,if_neg e];exact⟨h,by show(m.next++[zeros]).length=_;simp,rfl⟩
structure Mk.Has (m:Mk):Prop where
 one:1<=m.next.length
 of:∀x∈m.of,0<=x∧x<(m.next.length:Int)
theorem zF3 (k:Kd)(most j:Nat)(h:(zU k most j).full=false):(zU k most j).Has:=by
 induction j with
 |zero=>
  have h1:=zBw (m:=Mk.blank) (most:=most) (r:=-1) h;exact⟨by show 1<=(Mk.blank.add most (-1)).next.length;rw[h1.2.1];omega,fun x hx=>by rw[show (zU k most 0).of=[] from zCM _ _ _] at hx;exact absurd hx List.not_mem_nil⟩
 |succ j ih=>
  unfold zU at h ⊢;split at h
  ·rename_i hd
   rw[if_pos hd];have:=ih h;refine⟨this.one,fun x hx=>?_⟩;rcases kU.1 hx with h1|h1
   ·exact this.of x h1
   ·rw[kY.1 h1]
    have:=this.one;exact⟨by omega,by show(0:Int)<((zU k most j).next.length:Nat);omega⟩
  ·rename_i hd
   rw[if_neg hd];have h1:=zBw (m:=zU k most j) (most:=most) (r:=k.rules.getD j 0) h;have h2:=ih h1.1;have h3:=h2.one;refine⟨by show 1<=((zU k most j).add most (k.rules.getD j 0)).next.length;omega,fun x hx=>?_⟩;show 0<=x∧x<(((zU k most j).add most (k.rules.getD j 0)).next.length:Nat);rw[h1.2.1];rcases kU.1 hx with h4|h4
   ·have:=h2.of x h4
    omega
   ·rw[kY.1 h4,h1.2.2]
    omega
def qM (k:Kd)(a:Ar)(most:Nat):Nat->Mk
 |0=>zU k most k.rows.length
 |j+1=>if j≠k.dead∧(qM k a most j).full=false then zA9 k a most j ((qM k a most j).of.getD j 0).toNat (qM k a most j) else qM k a most j
theorem zCc (k:Kd)(a:Ar)(most j:Nat):(qM k a most j).Fit most∧(qM k a most j).of=(zU k most k.rows.length).of∧(zU k most k.rows.length).next.length<=(qM k a most j).next.length∧((qM k a most j).full=false->(zU k most k.rows.length).full=false):=by
 induction j with
 |zero=>exact⟨(zB4 k most _).1,rfl,lQ,id⟩
 |succ j ih=>
  unfold qM;split
  ·rename_i hc
   have:=zJE k a j ((qM k a most j).of.getD j 0).toNat ih.1;exact⟨this.1,this.2.1.trans ih.2.1,lY ih.2.2.1 this.2.2,fun _=>ih.2.2.2 hc.2⟩
  ·exact ih
theorem zId (k:Kd)(a:Ar)(most j:Nat)(h:(qM k a most j).full=false):(qM k a most j).Has∧(qM k a most j).of.length=k.rows.length:=by
 obtain⟨_,h2,h3,h4⟩:=zCc k a most j;have hw:=zF3 k most k.rows.length (h4 h);have:=hw.one;refine⟨⟨by omega,fun x hx=>?_⟩,by rw[h2];exact(zB4 k most _).2⟩;rw[h2] at hx;have:=hw.of x hx;omega
def yB (k:Kd)(a:Ar)(most:Nat):Mk:=qM k a most k.rows.length
theorem Mw.tables {w0 w:World}{mb kb most r0:Nat}{m:Mk}{nv rv ov:Value}{gs:Nat->Nat}{c:Array Value}(h:Mw w0 w mb kb most m nv rv ov gs)(hr:w.heap[r0]? =some (.cells c 127)):IntRows w (fun g=>g<w.heap.size∧g≠mb∧g≠r0∧w0.heap.size<=g) nv m.next∧Ints w (fun g=>g<w.heap.size∧g≠mb∧g≠r0∧w0.heap.size<=g) rv m.rules:=by
 have hbx:=h.box;have n1:=zM h.nOwn hr (by decide);have n2:=zM h.rOwn hr (by decide);have n3:∀i,i<m.next.length->gs i≠r0:=fun i hi e=>by
  have:=(h.each i hi).1;rw[e,hr] at this;simp at this
 constructor
 ·by_cases h0:m.next.length=0
  ·rcases h.nOwn.2 with⟨hv,_⟩|⟨g,cap,cur,hv,hH,hh,h1,h2,h3,h4⟩
   ·exact⟨none,0,by rw[hv,h0],by rw[h0];exact lQ,by unfold maxLen;omega,fun i hi=>by omega⟩
   ·exact⟨_,cap,hv,h1,h2,fun i hi=>by omega⟩
  ·obtain⟨g,cap,hv,hH,hl,h1,h2,h3,_⟩:=h.nOwn.get (by omega)
   have hgb:nv.ownBlock=some g:=by rw[hv];rfl
   refine⟨_,cap,hv,h1,h2,fun i hi=>⟨g,0,_,rfl,⟨hl,fun e=>hbx.1 (by rw[hgb,e]),fun e=>n1 (by rw[hgb,e]),hH⟩,by rw[Nat.zero_add];exact h3 i hi,?_⟩⟩;have hlen:=(h.each i hi).2.2;exact⟨_,256,by rw[hlen],by rw[hlen];exact lQ,by unfold maxLen;omega,fun b hb=>⟨gs i,0,rfl,⟨h.gl i hi,hbx.2.2.2 i hi,n3 i hi,(h.each i hi).2.1⟩,by rw[Nat.zero_add];exact(h.row i b hi (by omega)).1⟩⟩
 ·exact zBM h.rOwn fun g hg=>⟨(h.rOwn.lt g hg).2,fun e=>hbx.2.1 (by rw[hg,e]),fun e=>n2 (by rw[hg,e]),(h.rOwn.lt g hg).1⟩
theorem IntRows.moved {w w':World}{S S':Nat->Prop}{v:Value}{l:List (List Int)}(h:IntRows w S v l)(e:∀b,S b->w'.heap[b]? =w.heap[b]?)(e2:∀b,S b->S' b):IntRows w' S' v l:=(h.keep e).mono e2
def zDo (w:World)(k:Kd)(a:Ar)(most:Nat)(e:Ending)(w':World):Prop:=
 Grew w w'∧(((yB k a most).full=true∧e=returned (tuple #[agg #[slice none 0 0,slice none 0 0,int i64 0],bool false]))∨((yB k a most).full=false∧∃nv rv,e=returned (tuple #[agg #[nv,rv,int i64 ((yB k a most).of.getD k.start 0)],bool true])∧IntRows w' (fun g=>w.heap.size<=g∧g<w'.heap.size) nv (yB k a most).next∧Ints w' (fun g=>w.heap.size<=g∧g<w'.heap.size) rv (yB k a most).rules))
theorem Mw.begin {w0 w:World}{kb most:Nat}(hk:Grew w0 w):Mw w0 (w.alloc (.cells #[pointer (some ⟨kb,0,none⟩),int i64 (most:Int),bool false,slice none 0 0,slice none 0 0,int i64 0,slice none 0 0] 183)) w.heap.size kb most Mk.blank (slice none 0 0) (slice none 0 0) (slice none 0 0) (fun _=>0):=
 ⟨gJ _ _,ownsRow_nil _ _ _ _,fun i hi=>absurd hi (Nat.not_lt_zero _),OwnI.nil _ _,OwnI.nil _ _,fun i j hi=>absurd hi (Nat.not_lt_zero _),fun i hi=>absurd hi (Nat.not_lt_zero _),fun i hi=>absurd hi (Nat.not_lt_zero _),fun g hg=>(by cases hg),hk.size,hk.trans (kZ _ _ hk.size)⟩
theorem zGH (w:World)(kb most:Nat)(hmost:most<=1000000)(k:Kd)(a:Ar)(hK:KdAt w kb a k)(ok:k.Ok a)(hrl:k.rows.length<=10000000000):
  Calls prog 62 #[pointer (some ⟨kb,0,none⟩),int i64 (most:Int)] w (zDo w k a most):=by
 obtain⟨w1,hw1,K1⟩:∃w1,w1=w.alloc (.cells #[slice none 0 0,slice none 0 0,int i64 0] 127)∧Hid (Grew w w1∧w1.heap.size=w.heap.size+1∧w1.heap[w.heap.size]? =some (.cells #[slice none 0 0,slice none 0 0,int i64 0] 127)):=⟨_,rfl,kZ _ _ lQ,by simp,gJ _ _⟩
 obtain⟨w2,hw2,K2⟩:∃w2,w2=w1.alloc (.cells #[pointer (some ⟨kb,0,none⟩),int i64 (most:Int),bool false,slice none 0 0,slice none 0 0,int i64 0,slice none 0 0] 183)∧Hid (MwIs w w2 (w.heap.size+1) kb most Mk.blank∧w2.heap[w.heap.size]? =some (.cells #[slice none 0 0,slice none 0 0,int i64 0] 127)):=by
  refine⟨_,rfl,⟨slice none 0 0,slice none 0 0,slice none 0 0,fun _=>0,?_⟩,?_⟩
  ·have h:=Mw.begin (kb:=kb) (most:=most) K1.out.1
   rw[K1.out.2.1] at h;exact h
  ·exact(lG _ _ _ (by rw[K1.out.2.1];omega)).trans K1.out.2.2
 have HSZ1:=vl K1.out.2.1;have HAW:=vl <| zFE w w2 (w.heap.size+1) kb most K2.out.1 hmost k a hK ok.lens hrl;have HKC:Hid (∀wr m2,MwIs w wr (w.heap.size+1) kb most m2->∃kn cn,wr.cell? ⟨w.heap.size+1,2,none⟩=some (bool m2.full)∧wr.cell? ⟨kb,3,none⟩=some (slice kn k.rows.length cn)∧wr.cell? ⟨kb,5,none⟩=some (int i64 (k.start:Int))∧wr.cell? ⟨kb,6,none⟩=some (int i64 (k.dead:Int))∧kb<wr.heap.size):=by
  rintro wr m2 ⟨nv,rv,ov,gs,hM⟩;obtain⟨hkl,lv,tv,sv,kn,kr,hkb,hka,hkn,hkr⟩:=hK.grown hM.keep;obtain⟨an,cn,rfl,-⟩:=hkn;rw[kV] at hkb;refine⟨an,cn,hM.cells.2.2.1,?_,?_,?_,hkl⟩
  all_goals (unfold cell?;rw[hkb];rfl)
 obtain⟨MT,hMT⟩:∃MT,MT=qM k a most:=⟨_,rfl⟩
 have HMT:Hid (MT 0=zU k most k.rows.length∧(∀j,j≠k.dead->(MT j).full=false->MT (j+1)=zA9 k a most j ((MT j).of.getD j 0).toNat (MT j))∧(∀j,¬(j≠k.dead∧(MT j).full=false)->MT (j+1)=MT j)∧(∀j,(MT j).Fit most)∧(∀j,(MT j).full=false->(MT j).Has∧(MT j).of.length=k.rows.length)∧MT k.rows.length=yB k a most):=by
  rw[hMT];exact⟨rfl,fun j h1 h2=>if_pos ⟨h1,h2⟩,fun j h=>if_neg h,fun j=>(zCc k a most j).1,fun j h=>zId k a most j h,rfl⟩
 have HFI:Hid (∀wr j,j<k.rows.length->MwIs w wr (w.heap.size+1) kb most (MT j)->(MT j).full=false->Ca 97 #[pointer (some ⟨w.heap.size+1,0,none⟩),int i64 ((j:Nat):Int)] wr fun e w'=>e=returned (tuple #[])∧MwIs w w' (w.heap.size+1) kb most (zA9 k a most j ((MT j).of.getD j 0).toNat (MT j))∧StayT wr w'):=fun wr j hj hM hf=>by
  obtain⟨hh,hol⟩:=HMT.out.2.2.2.2.1 j hf;have hx:=hh.of _ (zS (MT j).of j 0 (by omega));exact zJB w wr (w.heap.size+1) kb most (MT j) hM hmost (HMT.out.2.2.2.1 j) k a hK ok j _ hj hol (by omega) (by omega)
 have hstart:=ok.start;generalize hMM:yB k a most=MM at *;have HANS:Hid (∀e w',zDo w k a most e w'↔Grew w w'∧((MM.full=true∧e=returned (tuple #[agg #[slice none 0 0,slice none 0 0,int i64 0],bool false]))∨(MM.full=false∧∃nv rv,e=returned (tuple #[agg #[nv,rv,int i64 (MM.of.getD k.start 0)],bool true])∧IntRows w' (fun g=>w.heap.size<=g∧g<w'.heap.size) nv MM.next∧Ints w' (fun g=>w.heap.size<=g∧g<w'.heap.size) rv MM.rules))):=fun e w'=>by unfold zDo;rw[hMM]
 go_in;apply wp_cut;intro K0 J;go_wp2;apply J.out;clear J;rw[<-hw1];clear hw1;apply wp_cut;intro K0 J;go_wp2;apply J.out;clear J;rw[<-hw2,HSZ1.out];clear hw2;go_wp2_with (first|(go_at_call 96;refine HAW.out.mono ?_;rintro e w3 ⟨rfl,hM3,hS3⟩;obtain⟨kn,cn,y2,y3,y5,y6,-⟩:=HKC.out w3 _ hM3;have HM3:Hid (MwIs w w3 (w.heap.size+1) kb most (MT 0)∧w3.heap[w.heap.size]? =some (.cells #[slice none 0 0,slice none 0 0,int i64 0] 127)):=⟨(by rw[HMT.out.1];exact hM3),hS3 _ _ _ K2.out.2 (by decide) (by decide) (by decide)⟩;clear hM3 hS3 y2 y5 y6))
 clear y3;go_loopg [19] k.rows.length (fun q i wr=>∃j:Nat,q=k.rows.length-j∧j<=k.rows.length∧i=int i64 (j:Int)∧MwIs w wr (w.heap.size+1) kb most (MT j)∧wr.heap[w.heap.size]? =some (.cells #[slice none 0 0,slice none 0 0,int i64 0] 127))
 case atStart=>exact⟨0,rfl,lX,rfl,HM3.out.1,HM3.out.2⟩
 case round=>
  obtain⟨j,hgk,hj,rfl,hM,hR⟩:=hrel;have HB:Hid (gk=k.rows.length-j∧MwIs w wr (w.heap.size+1) kb most (MT j)∧wr.heap[w.heap.size]? =some (.cells #[slice none 0 0,slice none 0 0,int i64 0] 127)):=⟨hgk,hM,hR⟩
  obtain⟨kn2,cn2,y2,y3,y5,y6,hkl⟩:=HKC.out wr _ hM;by_cases hj2:j<k.rows.length
  ·have i1:(j:Int)<(k.rows.length:Int):=by omega
   by_cases hd:j=k.dead
   ·have hdc:((j:Int) != (k.dead:Int))=false:=by simp;omega
    have HN:=vl <| HMT.out.2.2.1 j fun h=>h.1 hd;clear hgk hM hR hd y3 y5;generalize (MT j).full=fu at *;go_wp2;go_roundg (k.rows.length-(j+1))
    case measure=>rw[HB.out.1];omega
    case rel=>exact⟨j+1,rfl,by omega,by go_num,by rw[HN.out];exact HB.out.2.1,HB.out.2.2⟩
   ·have hdc:((j:Int) != (k.dead:Int))=true:=by simp;omega
    cases hfu:(MT j).full with
    |true=>
     rw[hfu] at y2;have HN:=vl <| HMT.out.2.2.1 j fun h=>by rw[hfu] at h;exact absurd h.2 (by decide)
     clear hgk hM hR hd y3 y5 hfu;go_wp2;go_roundg (k.rows.length-(j+1))
     case measure=>rw[HB.out.1];omega
     case rel=>exact⟨j+1,rfl,by omega,by go_num,by rw[HN.out];exact HB.out.2.1,HB.out.2.2⟩
    |false=>
     rw[hfu] at y2;have HN:=vl <| HMT.out.2.1 j hd hfu;have HC:=vl <| HFI.out wr j hj2 hM hfu;clear hgk hM hR hd y3 y5 hfu;generalize zA9 k a most j ((MT j).of.getD j 0).toNat (MT j)=m5 at *;go_wp2_with (first|(go_at_call 97;refine HC.out.mono ?_;rintro e w5 ⟨rfl,hM5,hS5⟩))
     go_roundg (k.rows.length-(j+1))
     case measure=>rw[HB.out.1];omega
     case rel=>exact⟨j+1,rfl,by omega,by go_num,by rw[HN.out];exact hM5,hS5 _ _ _ HB.out.2.2 (by decide) (by decide) (by decide)⟩
  ·have i1:(k.rows.length:Int)<=(j:Int):=by omega
   have e:j=k.rows.length:=by omega
   subst e;rw[HMT.out.2.2.2.2.2] at hM y2;have HM:Hid (MwIs w wr (w.heap.size+1) kb most MM∧wr.heap[w.heap.size]? =some (.cells #[slice none 0 0,slice none 0 0,int i64 0] 127)):=⟨hM,hR⟩
   have HHAS:Hid (MM.full=false->MM.Has∧MM.of.length=k.rows.length):=by have:=HMT.out.2.2.2.2.1 k.rows.length;rw[HMT.out.2.2.2.2.2] at this;exact this
   have hr0:w.heap.size<wr.heap.size:=(kQ.1 hR).1;have r0:wr.cell? ⟨w.heap.size,0,none⟩=some (slice none 0 0):=by unfold cell?;rw[hR];rfl
   have r1:wr.cell? ⟨w.heap.size,1,none⟩=some (slice none 0 0):=by unfold cell?;rw[hR];rfl
   have r2:wr.cell? ⟨w.heap.size,2,none⟩=some (int i64 0):=by unfold cell?;rw[hR];rfl
   have HRF:Hid (∀i,wr.frozen? ⟨w.heap.size,i,none⟩=false):=fun i=>by unfold frozen?;rw[hR];simp
   have q0:=HRF.out 0;have q1:=HRF.out 1;have q2:=HRF.out 2;cases hfu:MM.full with
   |true=>
    rw[hfu] at y2;have HFT:=vl hfu;clear hgk hM hR hfu;go_wp2;obtain⟨w9,hw9,c0,c1,c2,K9⟩:∃w9,w9=((wr.setCell ⟨w.heap.size,0,none⟩ (Value.slice none 0 0)).setCell ⟨w.heap.size,1,none⟩ (Value.slice none 0 0)).setCell ⟨w.heap.size,2,none⟩ (Value.int IntKind.i64 0)∧w9.cell? ⟨w.heap.size,0,none⟩=some (slice none 0 0)∧w9.cell? ⟨w.heap.size,1,none⟩=some (slice none 0 0)∧w9.cell? ⟨w.heap.size,2,none⟩=some (int i64 0)∧Hid (Grew w w9):=by
     obtain⟨⟨nv,rv,ov,gs,hMw⟩,hR⟩:=HM.out;refine⟨_,rfl,?_,?_,?_,hMw.keep.trans (((zO _ _ _ _ lQ).trans (zO _ _ _ _ lQ)).trans (zO _ _ _ _ lQ))⟩
     all_goals simp[World.cell?,setCell,lU,hR]
    rw[<-hw9];clear hw9;refine dZ (v:=tuple #[agg #[slice none 0 0,slice none 0 0,int i64 0],bool false]) (by simp[results,results62,go_sem,c0,c1,c2]) rfl ?_;exact(HANS.out _ _).2 ⟨K9.out,.inl ⟨HFT.out,rfl⟩⟩
   |false=>
    rw[hfu] at y2;have HFT:=vl hfu;obtain⟨hh,hol⟩:=HHAS.out hfu;obtain⟨nv,rv,ov,gs,hMw⟩:=hM;obtain⟨an,cn9,hnv⟩:=zG hMw.nOwn;obtain⟨ar,cr,hrv⟩:=hMw.rOwn.form;obtain⟨ao,co,hov⟩:=hMw.oOwn.form;subst hnv hrv hov;obtain⟨go,rfl⟩:=hMw.oOwn.some (by omega);have o1:=hMw.oOwn.cell k.start (by omega);rw[hol] at hMw;have x6:=hMw.cells.2.2.2.2.2.1;have x3:=hMw.cells.2.2.2.1;have x4:=hMw.cells.2.2.2.2.1;have x5:wr.cell? ⟨w.heap.size+1,5,none⟩=some (int i64 0):=by unfold cell?;rw[hMw.blk];rfl
    have f5:=hMw.cells.2.2.2.2.2.2 5;have i3:(k.start:Int)<(k.rows.length:Int):=by omega
    have HMw:=vl hMw;have HO2:=vl hol;have HST:Hid (MM.of.getD k.start 0=MM.of.getD k.start 0):=rfl;clear hgk hR hfu hh hMw hol HHAS;generalize MM.of.getD k.start 0=st at *;go_wp2;go_region;obtain⟨w6,hw6,v3,v4,v5,v0,v1,v2,p0,p1,p2,HK6⟩:∃w6,w6=(wr.setCell ⟨w.heap.size+1,5,none⟩ (int i64 st)).drew∧w6.cell? ⟨w.heap.size+1,3,none⟩=some (slice an MM.next.length cn9)∧w6.cell? ⟨w.heap.size+1,4,none⟩=some (slice ar MM.rules.length cr)∧w6.cell? ⟨w.heap.size+1,5,none⟩=some (int i64 st)∧w6.cell? ⟨w.heap.size,0,none⟩=some (slice none 0 0)∧w6.cell? ⟨w.heap.size,1,none⟩=some (slice none 0 0)∧w6.cell? ⟨w.heap.size,2,none⟩=some (int i64 0)∧w6.frozen? ⟨w.heap.size,0,none⟩=false∧w6.frozen? ⟨w.heap.size,1,none⟩=false∧w6.frozen? ⟨w.heap.size,2,none⟩=false∧Hid (w6.heap[w.heap.size]? =some (.cells #[slice none 0 0,slice none 0 0,int i64 0] 127)∧w6.heap.size=wr.heap.size∧w6.os=wr.os∧w6.output=wr.output∧∀k,k≠w.heap.size+1->w6.heap[k]? =wr.heap[k]?):=by
     have e:∀k,k≠w.heap.size+1->((wr.setCell ⟨w.heap.size+1,5,none⟩ (int i64 st)).drew).heap[k]? =wr.heap[k]? :=fun k hk=>lJ _ _ _ _ hk;have er:=(e w.heap.size (by omega)).trans HM.out.2;have em:((wr.setCell ⟨w.heap.size+1,5,none⟩ (int i64 st)).drew).heap[w.heap.size+1]? =some (.cells #[pointer (some ⟨kb,0,none⟩),int i64 (most:Int),bool MM.full,slice an MM.next.length cn9,slice ar MM.rules.length cr,int i64 st,slice (some ⟨go,0,none⟩) k.rows.length co] 183):=by
      show(wr.setCell ⟨w.heap.size+1,5,none⟩ (int i64 st)).heap[w.heap.size+1]? =_;simp[setCell,lU,HMw.out.blk]
     refine⟨_,rfl,?_,?_,?_,?_,?_,?_,?_,?_,?_,er,zC _ _ _,rfl,rfl,e⟩
     ·unfold cell?;rw[em];rfl
     ·unfold cell?;rw[em];rfl
     ·unfold cell?;rw[em];rfl
     ·unfold cell?;rw[er];rfl
     ·unfold cell?;rw[er];rfl
     ·unfold cell?;rw[er];rfl
     ·unfold frozen?;rw[er];rfl
     ·unfold frozen?;rw[er];rfl
     ·unfold frozen?;rw[er];rfl
    rw[<-hw6];clear hw6 x3 x4 x5 x6 o1 f5 r0 r1 r2 q0 q1 q2 y2 y3 y5 y6;go_wp2;obtain⟨w9,hw9,c0,c1,c2,K9⟩:∃w9,w9=((w6.setCell ⟨w.heap.size,0,none⟩ (Value.slice an MM.next.length cn9)).setCell ⟨w.heap.size,1,none⟩ (Value.slice ar MM.rules.length cr)).setCell ⟨w.heap.size,2,none⟩ (Value.int IntKind.i64 st)∧w9.cell? ⟨w.heap.size,0,none⟩=some (slice an MM.next.length cn9)∧w9.cell? ⟨w.heap.size,1,none⟩=some (slice ar MM.rules.length cr)∧w9.cell? ⟨w.heap.size,2,none⟩=some (int i64 st)∧Hid (Grew w w9∧IntRows w9 (fun g=>w.heap.size<=g∧g<w9.heap.size) (slice an MM.next.length cn9) MM.next∧Ints w9 (fun g=>w.heap.size<=g∧g<w9.heap.size) (slice ar MM.rules.length cr) MM.rules):=by
     obtain⟨hR6,hs6,ho6,hu6,he6⟩:=HK6.out;have hT:=HMw.out.tables HM.out.2;have e9:∀k,k≠w.heap.size->k≠w.heap.size+1->(((w6.setCell ⟨w.heap.size,0,none⟩ (Value.slice an MM.next.length cn9)).setCell ⟨w.heap.size,1,none⟩ (Value.slice ar MM.rules.length cr)).setCell ⟨w.heap.size,2,none⟩ (Value.int IntKind.i64 st)).heap[k]? =wr.heap[k]? :=fun k h1 h2=>(lJ _ _ _ _ h1).trans ((lJ _ _ _ _ h1).trans ((lJ _ _ _ _ h1).trans (he6 k h2)));have s9:(((w6.setCell ⟨w.heap.size,0,none⟩ (Value.slice an MM.next.length cn9)).setCell ⟨w.heap.size,1,none⟩ (Value.slice ar MM.rules.length cr)).setCell ⟨w.heap.size,2,none⟩ (Value.int IntKind.i64 st)).heap.size=wr.heap.size:=by rw[zC,zC,zC];exact hs6
     refine⟨_,rfl,?_,?_,?_,HMw.out.keep.trans ⟨ho6,hu6,by rw[s9];exact lQ,fun k h1 _=>e9 k (by omega) (by omega)⟩,hT.1.moved (fun b hb=>e9 b hb.2.2.1 hb.2.1) (fun b hb=>⟨hb.2.2.2,by rw[s9];exact hb.1⟩),(hT.2.keep fun b hb=>e9 b hb.2.2.1 hb.2.1).mono fun b hb=>⟨hb.2.2.2,by rw[s9];exact hb.1⟩⟩
     all_goals simp[World.cell?,setCell,lU,hR6]
    rw[<-hw9];clear hw9;refine dZ (v:=tuple #[agg #[slice an MM.next.length cn9,slice ar MM.rules.length cr,int i64 st],bool true]) (by simp[results,results62,go_sem,c0,c1,c2]) rfl ?_;exact(HANS.out _ _).2 ⟨K9.out.1,.inr ⟨HFT.out,_,_,rfl,K9.out.2.1,K9.out.2.2⟩⟩
end Go.Proofs.YtbjcfkdnjaiclaaGreat
