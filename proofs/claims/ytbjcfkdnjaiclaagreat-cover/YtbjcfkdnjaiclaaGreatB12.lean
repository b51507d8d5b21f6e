import Derived.ChangeKeysEq
import Derived.Deep.DrawnRows
import Derived.Deep.MidRow
import Derived.Deep.RegionLaw
import Derived.Test.YtbjcfkdnjaiclaaGreatB0
import Derived.Test.YtbjcfkdnjaiclaaGreatB11
/- Parts of the proof. -/
set_option linter.unusedVariables false
set_option linter.unusedSimpArgs false
set_option maxHeartbeats 4000000
set_option maxRecDepth 100000
namespace Go.Proofs.YtbjcfkdnjaiclaaGreat
open Go.RowKit Go.Proofs.Tryz Go.World
def a64 (f:Nat->Int):Array Value:=((List.range 64).map fun i=>Value.int .i64 (f i)).toArray
theorem zBi (f:Nat->Int):(a64 f).size=64:=by simp[a64]
theorem jN (f:Nat->Int)(i:Nat)(hi:i<64):(a64 f)[i]? =some (.int .i64 (f i)):=by
 simp[a64,hi]
theorem zNm:(prog.info? 246).map (·.size)=some 64:=by kernel_rfl
theorem zAV (w:World)(b:Nat)(f:Nat->Int)(h:w.heap[b]? =some (.cells (a64 f) 246)):w.rangeAt b 0 (a64 f).toList:=fun j v hv=>by
 unfold cell?;rw[h,Nat.zero_add];simpa using hv
theorem zEg (f:Nat->Int):(prog.info? 246).map (·.size)=some (a64 f).toList.length:=by
 rw[Array.length_toList,zBi];exact zNm
theorem zJR (w:World)(f:Nat->Int)(i:Nat)(hi:i<64):Sem.run prog (Instr.index 246 (.agg (a64 f)) (.int .i64 (i:Int))) w=.ok (.int .i64 (f i)) w:=by
 have h1:(0:Int)<=(i:Int)∧(i:Int)<64:=by omega
 simp[Instr.index,run_underlying underlying246,asIntOf,h1,go_sem,jN f i hi];omega
def qE (row:List Int)(f:Nat->Int):Bool:=(List.range 64).all fun i=>row.getD (128+i) 0==f i
theorem zMy (row:List Int)(f:Nat->Int)(i:Nat)(hi:i<64)(h:row.getD (128+i) 0≠f i):qE row f=false:=by
 unfold qE;rw[List.all_eq_false];exact⟨i,List.mem_range.2 hi,by simpa using h⟩
theorem zLG (row:List Int)(f:Nat->Int)(h:∀i,i<64->row.getD (128+i) 0=f i):qE row f=true:=by
 unfold qE;rw[List.all_eq_true];intro i hi;rw[h i (List.mem_range.1 hi)];simp
theorem zFV (w:World)(v:Value)(row:List Int)(hR:Ints w (In w) v row)(hr:row.length=256)(f:Nat->Int):
  Calls prog 186 #[v,.agg (a64 f)] w fun e w'=>e=.returned (.bool (qE row f))∧Grew w w':=by
 obtain⟨ab,cb,rfl,_,_,hbc⟩:=hR;rw[hr] at hbc ⊢;have HBC:=vl hbc;have HLD:Hid ((w.alloc (.cells (a64 f) 246)).rangeAt w.heap.size 0 (a64 f).toList∧(prog.info? 246).map (·.size)=some (a64 f).toList.length):=⟨zAV (w.alloc (.cells (a64 f) 246)) w.heap.size f (gG _ _),zEg f⟩
 have HIX:Hid (∀w i,i<64->Sem.run prog (Instr.index 246 (.agg (a64 f)) (.int .i64 ((i:Nat):Int))) w=.ok (.int .i64 (f i)) w):=fun w i=>zJR w f i;have HAG:=vl <| jN f;have HKA:Hid (Grew w (w.alloc (.cells (a64 f) 246))):=kZ _ _ lQ;have H1:Hid (∀i,i<64->row.getD (128+i) 0≠f i->qE row f=false):=zMy row f;have H2:Hid ((∀i,i<64->row.getD (128+i) 0=f i)->qE row f=true):=zLG row f;clear hbc;generalize a64 f=A at *;go_in;go_wp2_with (first|(refine wpList_load_mid rfl 246 (.tmp 3) rfl w.heap.size 0 rfl A.toList (.array 64 3) HLD.out.1 underlying246 rfl HLD.out.2 ?_))
 go_loopg [8] 64 (fun k i wr=>∃j:Nat,k=64-j∧j<=64∧i=.int .i64 (j:Int)∧(∀i,i<j->row.getD (128+i) 0=f i)∧Grew w wr)
 case atStart=>exact⟨0,rfl,lX,rfl,fun i hi=>by omega,HKA.out⟩
 case round=>
  obtain⟨j,hgk,hj,rfl,hno,hkp⟩:=hrel;have HB:Hid (gk=64-j∧(∀i,i<j->row.getD (128+i) 0=f i)∧Grew w wr):=⟨hgk,hno,hkp⟩
  by_cases hj2:j<64
  ·have i1:(j:Int)<64:=by omega
   obtain⟨b1,o1,rfl,hb1,hc1⟩:=HBC.out (128+j) (by omega);have y1:=zA hc1 hb1 hkp;have hix:=HIX.out wr j hj2;have hag:=HAG.out j hj2;have HN3:Hid (row.getD (128+j) 0≠f j->qE row f=false):=H1.out j hj2;have HS3:Hid (row.getD (128+j) 0=f j->∀i,i<j+1->row.getD (128+i) 0=f i):=fun h i hi=>by
    by_cases e:i=j
    ·rw[e];exact h
    ·exact HB.out.2.1 i (by omega)
   have i2:(128:Int)+(j:Int)<256:=by omega
   clear hgk hno hkp hc1;generalize row.getD (128+j) 0=x at *;generalize f j=y at *;by_cases hxy:x=y
   ·have HR:Hid (∀i,i<j+1->row.getD (128+i) 0=f i):=HS3.out hxy
    have hc:(x != y)=false:=by simp[hxy]
    clear hxy;go_wp2;go_roundg (64-(j+1))
    case measure=>rw[HB.out.1];omega
    case rel=>exact⟨j+1,rfl,by omega,by go_num,HR.out,HB.out.2.2⟩
   ·have HR:Hid (qE row f=false):=HN3.out hxy
    have hc:(x != y)=true:=by simp[hxy]
    clear hxy;go_wp2;go_ret;exact⟨by rw[HR.out];rfl,HB.out.2.2⟩
  ·have i1:(64:Int)<=(j:Int):=by omega
   have HR:Hid (qE row f=true):=H2.out fun i hi=>hno i (by omega);clear hgk hno hkp;go_wp2;go_ret;exact⟨by rw[HR.out];rfl,HB.out.2.2⟩
section
structure Mk where
 next:List (List Int)
 rules:List Int
 of:List Int
 full:Bool
def zC5 (l:List Int):Array Value:=(l.map fun x=>Value.int .i64 x).toArray
structure Mw (w0 w:World)(mb kb:Nat)(most:Nat)(m:Mk)(nv rv ov:Value)(gs:Nat->Nat):Prop where
 blk:w.heap[mb]? =some (.cells #[.pointer (some ⟨kb,0,none⟩),.int .i64 (most:Int),.bool m.full,nv,rv,.int .i64 0,ov] 183)
 nOwn:Row w w0.heap.size 45 nv m.next.length fun i=>.slice (some ⟨gs i,0,none⟩) 256 256
 each:∀i,i<m.next.length->w.heap[gs i]? =some (.cells (zC5 (m.next.getD i [])) 3)∧w0.heap.size<=gs i∧(m.next.getD i []).length=256
 rOwn:OwnI w w0.heap.size rv m.rules
 oOwn:OwnI w w0.heap.size ov m.of
 inj:∀i j,i<m.next.length->j<m.next.length->gs i=gs j->i=j
 nr:∀i,i<m.next.length->some (gs i)≠rv.ownBlock
 no:∀i,i<m.next.length->some (gs i)≠ov.ownBlock
 ro:∀g,rv.ownBlock=some g->some g≠ov.ownBlock
 mH:w0.heap.size<=mb
 keep:Grew w0 w
def MwIs (w0 w:World)(mb kb most:Nat)(m:Mk):Prop:=∃nv rv ov gs,Mw w0 w mb kb most m nv rv ov gs
def StayT (w w':World):Prop:=∀(k:Nat) (c:Array Value) (t:TypeId),w.heap[k]? =some (Obj.cells c t)->t≠3->t≠45->t≠183->w'.heap[k]? =some (Obj.cells c t)
theorem StayT.refl (w:World):StayT w w:=fun _ _ _ h _ _ _=>h
theorem StayT.trans {w w' w'':World}(h:StayT w w')(h':StayT w' w''):StayT w w'':=fun k c t hk h1 h2 h3=>h' k c t (h k c t hk h1 h2 h3) h1 h2 h3
theorem Keep.stayT {w w':World}(h:Grew w w'):StayT w w':=fun k c t hk _ _ _=>by
 have hl:=(kQ.1 hk).1;exact(h.block k hl (kJ hl)).trans hk
section
variable {w0 w w2:World} {mb kb most:Nat} {m:Mk} {nv rv ov:Value} {gs:Nat->Nat}
theorem zLp (l:List Int)(i:Nat)(hi:i<l.length):(zC5 l)[i]? =some (.int .i64 (l.getD i 0)):=by
 simp[zC5,hi]
theorem zLo (l:List Int)(i:Nat)(x:Int):(zC5 l).setIfInBounds i (.int .i64 x)=zC5 (l.set i x):=by
 simp[zC5,List.map_set]
theorem Mw.lt (h:Mw w0 w mb kb most m nv rv ov gs):mb<w.heap.size:=(kQ.1 h.blk).1
theorem Mw.gl (h:Mw w0 w mb kb most m nv rv ov gs)(i:Nat)(hi:i<m.next.length):gs i<w.heap.size:=(kQ.1 (h.each i hi).1).1
theorem Mw.cells (h:Mw w0 w mb kb most m nv rv ov gs):w.cell? ⟨mb,0,none⟩=some (.pointer (some ⟨kb,0,none⟩))∧w.cell? ⟨mb,1,none⟩=some (.int .i64 (most:Int))∧w.cell? ⟨mb,2,none⟩=some (.bool m.full)∧w.cell? ⟨mb,3,none⟩=some nv∧w.cell? ⟨mb,4,none⟩=some rv∧w.cell? ⟨mb,6,none⟩=some ov∧∀i,w.frozen? ⟨mb,i,none⟩=false:=by
 refine⟨?_,?_,?_,?_,?_,?_,fun i=>?_⟩
 all_goals first|(unfold cell?;rw[h.blk];rfl)|(unfold frozen?;rw[h.blk];simp)
theorem Mw.row (h:Mw w0 w mb kb most m nv rv ov gs)(i b:Nat)(hi:i<m.next.length)(hb:b<256):w.cell? ⟨gs i,b,none⟩=some (.int .i64 ((m.next.getD i []).getD b 0))∧w.frozen? ⟨gs i,b,none⟩=false:=by
 obtain⟨h1,_,h3⟩:=h.each i hi
 constructor
 ·unfold cell?;rw[h1];exact zLp _ _ (by rw[h3];exact hb)
 ·unfold frozen?;rw[h1];simp
theorem Mw.box (h:Mw w0 w mb kb most m nv rv ov gs):some mb≠nv.ownBlock∧some mb≠rv.ownBlock∧some mb≠ov.ownBlock∧∀i,i<m.next.length->gs i≠mb:=by
 refine⟨zL h.nOwn h.blk (by decide),zL h.rOwn h.blk (by decide),zL h.oOwn h.blk (by decide),fun i hi e=>?_⟩;have:=(h.each i hi).1;rw[e,h.blk] at this;simp at this
theorem Mw.grown (h:Mw w0 w mb kb most m nv rv ov gs)(hk:Grew w w2):Mw w0 w2 mb kb most m nv rv ov gs:=by
 have e:∀k,k<w.heap.size->w2.heap[k]? =w.heap[k]? :=fun k hk2=>hk.block k hk2 (kJ hk2);exact⟨(e mb h.lt).trans h.blk,zJ h.nOwn hk,fun i hi=>⟨(e _ (h.gl i hi)).trans (h.each i hi).1,(h.each i hi).2⟩,zJ h.rOwn hk,zJ h.oOwn hk,h.inj,h.nr,h.no,h.ro,h.mH,h.keep.trans (hk.lower h.keep.size h.keep.size)⟩
theorem Mw.put (h:Mw w0 w mb kb most m nv rv ov gs)(s b:Nat)(hs:s<m.next.length)(x:Int):Mw w0 (w.setCell ⟨gs s,b,none⟩ (.int .i64 x)) mb kb most {m with next:=m.next.set s ((m.next.getD s []).set b x)} nv rv ov gs∧StayT w (w.setCell ⟨gs s,b,none⟩ (.int .i64 x)):=by
 have e:∀k,k≠gs s->(w.setCell ⟨gs s,b,none⟩ (.int .i64 x)).heap[k]? =w.heap[k]? :=fun k hk=>lJ _ _ _ _ hk;obtain⟨h1,h2,h3⟩:=h.each s hs;have hbx:=h.box;have hn:=zL h.nOwn h1 (by decide);have hlen:(m.next.set s ((m.next.getD s []).set b x)).length=m.next.length:=List.length_set ..
 refine⟨⟨(e mb (Ne.symm (hbx.2.2.2 s hs))).trans h.blk,?_,fun i hi=>?_,zD h.rOwn fun k _ _ hk=>e k fun e2=>h.nr s hs (by rw[hk,e2]),zD h.oOwn fun k _ _ hk=>e k fun e2=>h.no s hs (by rw[hk,e2]),fun i j hi hj=>?_,fun i hi=>?_,fun i hi=>?_,h.ro,h.mH,h.keep.trans (zN _ _ _ _ h2)⟩,fun k c t hk ht _ _=>?_⟩
 ·show Row _ _ _ _ (m.next.set s _).length _
  rw[hlen];exact zD h.nOwn fun k _ _ hk=>e k fun e2=>hn (by rw[hk,e2])
 ·have hi2:i<m.next.length:=by rw[<-hlen];exact hi
  show _=some (Obj.cells (zC5 ((m.next.set s _).getD i [])) _)∧_∧((m.next.set s _).getD i []).length=256;rw[lW,List.getElem?_set];by_cases e2:s=i
  ·subst e2
   rw[if_pos rfl,if_pos hs];refine⟨?_,h2,by simp only[Option.getD_some,List.length_set];exact h3⟩;show _=some (Obj.cells (zC5 ((m.next.getD s []).set b x)) _);rw[<-zLo];simp[setCell,lU,h1]
  ·rw[if_neg e2,<-lW]
   have hg:gs i≠gs s:=fun e3=>e2 (h.inj s i hs hi2 e3.symm);exact⟨(e _ hg).trans (h.each i hi2).1,(h.each i hi2).2⟩
 ·exact h.inj i j (by rw[<-hlen];exact hi) (by rw[<-hlen];exact hj)
 ·exact h.nr i (by rw[<-hlen];exact hi)
 ·exact h.no i (by rw[<-hlen];exact hi)
 ·refine(e k fun e2=>?_).trans hk
  rw[e2,h1] at hk;injection hk with hk;injection hk with _ hk;exact ht hk.symm
end
end
section
attribute [local go_sem ↓] Go.wp_at_zero Go.wp_at_succ
def zeros:List Int:=List.replicate 256 0
theorem zLC {w:World}{H g:Nat}(h:w.ownsRow H 3 1 (.slice (some ⟨g,0,none⟩) 256 256) 256 ((List.range 256).map fun _=>.int .i64 0)):w.heap[g]? =some (.cells (zC5 zeros) 3):=by
 rcases h.2 with⟨hv,_⟩|⟨g1,cap,cur,hv,_,hh,_,_,h3,h4⟩
 ·cases hv
 ·injection hv with e1 e2 e3
  injection e1 with e1;injection e1 with e1;subst e1 e3;rw[hh];have h5:cur.toList=(List.range 256).map fun _=>.int .i64 0:=by
   rw[<-h4,List.take_of_length_le (by rw[Array.length_toList,h3];exact lQ)]
  have h6:cur=zC5 zeros:=by
   apply Array.toList_inj.1;rw[h5];unfold zC5 zeros;rw[List.map_replicate];apply List.ext_getElem
   ·rw[kV,List.length_range,List.length_replicate]
   ·intro i h1 h2
    rw[List.getElem_map,List.getElem_replicate]
  rw[h6]
section
variable {w0 w w1 w2:World} {mb kb most:Nat} {m:Mk} {nv rv ov:Value} {gs:Nat->Nat}
theorem Mw.newRow {o:Obj}{g cap n:Nat}(h:Mw w0 w mb kb most m nv rv ov gs)(hn:n=m.next.length)(hk1:Grew w w1)(hrow:w1.heap[w.heap.size]? =some (.cells (zC5 zeros) 3))
  (hown:w2.ownsRow w0.heap.size 45 1 (.slice (some ⟨g,0,none⟩) (n+1) cap) (n+1) (((List.range n).map fun i=>.slice (some ⟨gs i,0,none⟩) 256 256)++[.slice (some ⟨w.heap.size,0,none⟩) 256 256])) (hg:(w1.alloc o).grownBy w2 nv.ownBlock) (hat:nv.ownBlock=some g∨w1.heap.size<=g):
  Mw w0 (w2.setCell ⟨mb,3,none⟩ (.slice (some ⟨g,0,none⟩) (n+1) cap)) mb kb most {m with next:=m.next++[zeros]} (.slice (some ⟨g,0,none⟩) (n+1) cap) rv ov (fun i=>if i=n then w.heap.size else gs i)∧StayT w (w2.setCell ⟨mb,3,none⟩ (.slice (some ⟨g,0,none⟩) (n+1) cap)):=by
 subst hn;have h1:=h.grown hk1;have hbx:=h1.box;have hlt:=h1.lt;have hlw:=h.lt;have hw1l:=(kQ.1 hrow).1;have hH:=h.keep.size;have hbl:∀j,j<w1.heap.size->some j≠nv.ownBlock->w2.heap[j]? =w1.heap[j]? :=fun j hj hf=>(hg.block j (by simp;omega) hf).trans (lG _ _ _ (by omega));have hsz:w1.heap.size<=w2.heap.size:=lY (by simp) hg.size;have hb:=(hbl mb hlt hbx.1).trans h1.blk;have e:∀k,k≠mb->(w2.setCell ⟨mb,3,none⟩ (.slice (some ⟨g,0,none⟩) (m.next.length+1) cap)).heap[k]? =w2.heap[k]? :=fun k hk=>lJ _ _ _ _ hk;have hgn:∀i,i<m.next.length->some (gs i)≠nv.ownBlock:=fun i hi=>zL h1.nOwn (h1.each i hi).1 (by decide)
 have hfn:some w.heap.size≠nv.ownBlock:=fun e2=>by have:=(h.nOwn.lt _ e2.symm).2;omega
 have hr2:=zP hg h1.rOwn fun k hk=>xM h1.rOwn h1.nOwn (by decide) hk;have ho2:=zP hg h1.oOwn fun k hk=>xM h1.oOwn h1.nOwn (by decide) hk;have hgm:mb≠g:=fun e2=>by
  rcases hat with ha|ha
  ·exact hbx.1 (by rw[ha,e2])
  ·omega
 have hlen:(m.next++[zeros]).length=m.next.length+1:=by simp
 have hgl:∀i,i<m.next.length->gs i<w.heap.size:=fun i hi=>h.gl i hi
 refine⟨⟨by simp[setCell,lU,hb],?_,fun i hi=>?_,zD hr2 fun k _ _ hk=>e k fun e2=>hbx.2.1 (by rw[hk,e2]),zD ho2 fun k _ _ hk=>e k fun e2=>hbx.2.2.1 (by rw[hk,e2]),fun i j hi hj=>?_,fun i hi=>?_,fun i hi=>?_,h.ro,h.mH,h1.keep.trans ⟨hg.os,hg.output,by rw[zC];exact hsz,fun k hk _=>(e k (by have:=h.mH;omega)).trans (hbl k (by omega) fun e2=>by have:=(h.nOwn.lt k e2.symm).1;omega)⟩⟩,fun k c t hk t1 t2 t3=>?_⟩
 ·show Row _ _ _ _ (m.next++[zeros]).length _
  rw[hlen];have h2:Row w2 w0.heap.size 45 (.slice (some ⟨g,0,none⟩) (m.next.length+1) cap) (m.next.length+1) (fun i=>.slice (some ⟨if i=m.next.length then w.heap.size else gs i,0,none⟩) 256 256):=by
   unfold Row;rw[jS,if_pos rfl];rw[show (List.range m.next.length).map (fun i=>Value.slice (some ⟨if i=m.next.length then w.heap.size else gs i,0,none⟩) 256 256)=(List.range m.next.length).map fun i=>Value.slice (some ⟨gs i,0,none⟩) 256 256 from List.map_congr_left fun i hi=>by rw[if_neg (by have:=List.mem_range.1 hi;omega)]];exact hown
  exact zD h2 fun k _ _ hk=>e k fun e2=>by
   have:g=k:=by simpa[Value.ownBlock] using hk
   omega
 ·show _=some (Obj.cells (zC5 ((m.next++[zeros]).getD i [])) _)∧_∧((m.next++[zeros]).getD i []).length=256
  by_cases e3:i=m.next.length
  ·subst e3
   rw[if_pos rfl,lW,gX lQ,Nat.sub_self];exact⟨(e _ (by omega)).trans ((hbl _ hw1l hfn).trans hrow),hH,List.length_replicate ..⟩
  ·have hi2:i<m.next.length:=by
    have hi':i<(m.next++[zeros]).length:=hi;omega
   rw[if_neg e3,lW,kW hi2,<-lW];exact⟨(e _ (hbx.2.2.2 i hi2)).trans ((hbl _ (h1.gl i hi2) (hgn i hi2)).trans (h1.each i hi2).1),(h1.each i hi2).2⟩
 ·have hi':i<(m.next++[zeros]).length:=hi
  have hj':j<(m.next++[zeros]).length:=hj;intro e3;by_cases a1:i=m.next.length
  ·by_cases a2:j=m.next.length
   ·omega
   ·rw[if_pos a1,if_neg a2] at e3
    have:=hgl j (by omega);omega
  ·by_cases a2:j=m.next.length
   ·rw[if_neg a1,if_pos a2] at e3
    have:=hgl i (by omega);omega
   ·rw[if_neg a1,if_neg a2] at e3
    exact h.inj i j (by omega) (by omega) e3
 ·have hi':i<(m.next++[zeros]).length:=hi
  split
  ·intro e2;have:=(h.rOwn.lt _ e2.symm).2;omega
  ·exact h.nr i (by omega)
 ·have hi':i<(m.next++[zeros]).length:=hi
  split
  ·intro e2;have:=(h.oOwn.lt _ e2.symm).2;omega
  ·exact h.no i (by omega)
 ·have hl:=(kQ.1 hk).1
  have hk1':=(hk1.block k hl (kJ hl)).trans hk;have hkm:k≠mb:=fun e2=>by
   rw[e2,h.blk] at hk;injection hk with hk;injection hk with _ hk;exact t3 hk.symm
  exact(e k hkm).trans ((hbl k (by omega) (zL h1.nOwn hk1' (Ne.symm t2))).trans hk1')
theorem Mw.newRule {o:Obj}{g cap n:Nat}{x:Int}(h:Mw w0 w mb kb most m nv rv ov gs)(hn:n=m.rules.length)(hown:w2.ownsRow w0.heap.size 3 1 (.slice (some ⟨g,0,none⟩) (n+1) cap) (n+1) ((m.rules.map fun x=>.int .i64 x)++[.int .i64 x]))(hg:(w.alloc o).grownBy w2 rv.ownBlock)(hat:rv.ownBlock=some g∨w.heap.size<=g):
  Mw w0 (w2.setCell ⟨mb,4,none⟩ (.slice (some ⟨g,0,none⟩) (n+1) cap)) mb kb most {m with rules:=m.rules++[x]} nv (.slice (some ⟨g,0,none⟩) (n+1) cap) ov gs∧StayT w (w2.setCell ⟨mb,4,none⟩ (.slice (some ⟨g,0,none⟩) (n+1) cap)):=by
 subst hn;have hbx:=h.box;have hlt:=h.lt;have hbl:∀j,j<w.heap.size->some j≠rv.ownBlock->w2.heap[j]? =w.heap[j]? :=fun j hj hf=>(hg.block j (by simp;omega) hf).trans (lG _ _ _ (by omega));have hsz:w.heap.size<=w2.heap.size:=lY (by simp) hg.size;have hb:=(hbl mb hlt hbx.2.1).trans h.blk;have e:∀k,k≠mb->(w2.setCell ⟨mb,4,none⟩ (.slice (some ⟨g,0,none⟩) (m.rules.length+1) cap)).heap[k]? =w2.heap[k]? :=fun k hk=>lJ _ _ _ _ hk;have hn2:=zP hg h.nOwn fun k hk=>xM h.nOwn h.rOwn (by decide) hk;have ho2:=zP hg h.oOwn fun k hk=>fun e2=>h.ro k e2.symm hk.symm;have hgm:mb≠g:=fun e2=>by
  rcases hat with ha|ha
  ·exact hbx.2.1 (by rw[ha,e2])
  ·omega
 refine⟨⟨by simp[setCell,lU,hb],zD hn2 fun k _ _ hk=>e k fun e2=>hbx.1 (by rw[hk,e2]),fun i hi=>⟨(e _ (hbx.2.2.2 i hi)).trans ((hbl _ (h.gl i hi) (h.nr i hi)).trans (h.each i hi).1),(h.each i hi).2⟩,zD (OwnI.snoc hown) fun k _ _ hk=>e k fun e2=>?_,zD ho2 fun k _ _ hk=>e k fun e2=>hbx.2.2.1 (by rw[hk,e2]),h.inj,fun i hi e2=>?_,h.no,yV h.oOwn h.ro hat,h.mH,h.keep.trans ⟨hg.os,hg.output,by rw[zC];exact hsz,fun k hk _=>(e k (by have:=h.mH;omega)).trans (hbl k (by have:=h.keep.size;omega) fun e2=>by have:=(h.rOwn.lt k e2.symm).1;omega)⟩⟩,fun k c t hk t1 t2 t3=>?_⟩
 ·have:g=k:=by simpa[Value.ownBlock] using hk
  omega
 ·have e4:gs i=g:=by simpa[Value.ownBlock] using e2
  rcases hat with ha|ha
  ·exact h.nr i hi (by rw[ha,e4])
  ·have:=h.gl i hi;omega
 ·have hl:=(kQ.1 hk).1
  have hkm:k≠mb:=fun e2=>by
   rw[e2,h.blk] at hk;injection hk with hk;injection hk with _ hk;exact t3 hk.symm
  exact(e k hkm).trans ((hbl k hl (zL h.rOwn hk (Ne.symm t1))).trans hk)
theorem Mw.newOf {o:Obj}{g cap n:Nat}{x:Int}(h:Mw w0 w mb kb most m nv rv ov gs)(hn:n=m.of.length)(hown:w2.ownsRow w0.heap.size 3 1 (.slice (some ⟨g,0,none⟩) (n+1) cap) (n+1) ((m.of.map fun x=>.int .i64 x)++[.int .i64 x]))(hg:(w.alloc o).grownBy w2 ov.ownBlock)(hat:ov.ownBlock=some g∨w.heap.size<=g):
  Mw w0 (w2.setCell ⟨mb,6,none⟩ (.slice (some ⟨g,0,none⟩) (n+1) cap)) mb kb most {m with of:=m.of++[x]} nv rv (.slice (some ⟨g,0,none⟩) (n+1) cap) gs∧StayT w (w2.setCell ⟨mb,6,none⟩ (.slice (some ⟨g,0,none⟩) (n+1) cap)):=by
 subst hn;have hbx:=h.box;have hlt:=h.lt;have hbl:∀j,j<w.heap.size->some j≠ov.ownBlock->w2.heap[j]? =w.heap[j]? :=fun j hj hf=>(hg.block j (by simp;omega) hf).trans (lG _ _ _ (by omega));have hsz:w.heap.size<=w2.heap.size:=lY (by simp) hg.size;have hb:=(hbl mb hlt hbx.2.2.1).trans h.blk;have e:∀k,k≠mb->(w2.setCell ⟨mb,6,none⟩ (.slice (some ⟨g,0,none⟩) (m.of.length+1) cap)).heap[k]? =w2.heap[k]? :=fun k hk=>lJ _ _ _ _ hk;have hn2:=zP hg h.nOwn fun k hk=>xM h.nOwn h.oOwn (by decide) hk;have hr2:=zP hg h.rOwn h.ro;have hgm:mb≠g:=fun e2=>by
  rcases hat with ha|ha
  ·exact hbx.2.2.1 (by rw[ha,e2])
  ·omega
 refine⟨⟨by simp[setCell,lU,hb],zD hn2 fun k _ _ hk=>e k fun e2=>hbx.1 (by rw[hk,e2]),fun i hi=>⟨(e _ (hbx.2.2.2 i hi)).trans ((hbl _ (h.gl i hi) (h.no i hi)).trans (h.each i hi).1),(h.each i hi).2⟩,zD hr2 fun k _ _ hk=>e k fun e2=>hbx.2.1 (by rw[hk,e2]),zD (OwnI.snoc hown) fun k _ _ hk=>e k fun e2=>?_,h.inj,h.nr,fun i hi e2=>?_,zCj (yV h.rOwn (fun g hg e=>h.ro g e.symm hg.symm) hat),h.mH,h.keep.trans ⟨hg.os,hg.output,by rw[zC];exact hsz,fun k hk _=>(e k (by have:=h.mH;omega)).trans (hbl k (by have:=h.keep.size;omega) fun e2=>by have:=(h.oOwn.lt k e2.symm).1;omega)⟩⟩,fun k c t hk t1 t2 t3=>?_⟩
 ·have:g=k:=by simpa[Value.ownBlock] using hk
  omega
 ·have e4:gs i=g:=by simpa[Value.ownBlock] using e2
  rcases hat with ha|ha
  ·exact h.no i hi (by rw[ha,e4])
  ·have:=h.gl i hi;omega
 ·have hl:=(kQ.1 hk).1
  have hkm:k≠mb:=fun e2=>by
   rw[e2,h.blk] at hk;injection hk with hk;injection hk with _ hk;exact t3 hk.symm
  exact(e k hkm).trans ((hbl k hl (zL h.oOwn hk (Ne.symm t1))).trans hk)
theorem Mw.fill (h:Mw w0 w mb kb most m nv rv ov gs):Mw w0 (w.setCell ⟨mb,2,none⟩ (.bool true)) mb kb most {m with full:=true} nv rv ov gs∧StayT w (w.setCell ⟨mb,2,none⟩ (.bool true)):=by
 have hbx:=h.box;have e:∀k,k≠mb->(w.setCell ⟨mb,2,none⟩ (.bool true)).heap[k]? =w.heap[k]? :=fun k hk=>lJ _ _ _ _ hk;refine⟨⟨by simp[setCell,lU,h.blk],zD h.nOwn fun k _ _ hk=>e k fun e2=>hbx.1 (by rw[hk,e2]),fun i hi=>⟨(e _ (hbx.2.2.2 i hi)).trans (h.each i hi).1,(h.each i hi).2⟩,zD h.rOwn fun k _ _ hk=>e k fun e2=>hbx.2.1 (by rw[hk,e2]),zD h.oOwn fun k _ _ hk=>e k fun e2=>hbx.2.2.1 (by rw[hk,e2]),h.inj,h.nr,h.no,h.ro,h.mH,h.keep.trans (zN _ _ _ _ h.mH)⟩,fun k c t hk t1 t2 t3=>(e k fun e2=>?_).trans hk⟩;rw[e2,h.blk] at hk;injection hk with hk;injection hk with _ hk;exact t3 hk.symm
end
end
section
attribute [local go_sem ↓] Go.wp_at_zero Go.wp_at_succ
def Mk.addN (m:Mk)(most:Nat):Nat:=if most<=m.next.length then 0 else m.next.length
def Mk.add (m:Mk)(most:Nat)(rule:Int):Mk:=if most<=m.next.length then{m with full:=true} else{m with next:=m.next++[zeros],rules:=m.rules++[rule]}
theorem MwIs.grown {w0 w w2:World}{mb kb most:Nat}{m:Mk}(h:MwIs w0 w mb kb most m)(hk:Grew w w2):MwIs w0 w2 mb kb most m:=by
 obtain⟨nv,rv,ov,gs,h⟩:=h;exact⟨nv,rv,ov,gs,h.grown hk⟩
theorem zEn (w0 w:World)(mb kb most:Nat)(m:Mk)(h:MwIs w0 w mb kb most m)(hmost:most<=1000000)(hr:m.rules.length<=1000000)(rule:Int):
  Calls prog 133 #[.pointer (some ⟨mb,0,none⟩),.int .i64 rule] w fun e w'=>e=.returned (.int .i64 ((m.addN most:Nat):Int))∧MwIs w0 w' mb kb most (m.add most rule)∧StayT w w':=by
 obtain⟨i0,hi0,hz0,hz1,hz2⟩:=info_parts yH;obtain⟨ii1,hi1,hy0,hy1,hy2⟩:=info_parts zFk;obtain⟨nv,rv,ov,gs,h⟩:=h;obtain⟨an,cn,hnv⟩:=zE h.nOwn;obtain⟨ar,cr,hrv⟩:=h.rOwn.form;subst hnv hrv;obtain⟨x0,x1,x2,x3,x4,x6,xf⟩:=h.cells;have xf2:=xf 2;have xf3:=xf 3;have HM:=vl h;have hlt:=h.lt;by_cases hc:most<=m.next.length
 ·have HZ:Hid (m.addN most=0∧m.add most rule={m with full:=true}):=⟨by unfold Mk.addN;rw[if_pos hc],by unfold Mk.add;rw[if_pos hc]⟩
  have i1:(m.next.length:Int)>=(most:Int):=by omega
  go_in;go_wp2;go_quiet (fail);have HM2:=vl <| HM.out.grown (Keep.alike (w':=w.drewN nq) ⟨rfl,rfl,rfl⟩);go_wp2;go_ret;refine⟨by rw[HZ.out.1];rfl,by rw[HZ.out.2];exact⟨_,_,_,_,HM2.out.fill.1⟩,?_⟩;exact StayT.trans (Keep.stayT (Keep.alike (w':=w.drewN nq) ⟨rfl,rfl,rfl⟩)) HM2.out.fill.2
 ·have HZ:Hid (m.addN most=m.next.length∧m.add most rule={m with next:=m.next++[zeros],rules:=m.rules++[rule]}):=⟨by unfold Mk.addN;rw[if_neg hc],by unfold Mk.add;rw[if_neg hc]⟩
  have i1:¬((m.next.length:Int)>=(most:Int)):=by omega
  have hnl:m.next.length<=1000000:=by omega
  go_in;go_wp2;go_quiet (fail);have HM2:Hid (Mw w0 (w.drewN nq) mb kb most m (.slice an m.next.length cn) (.slice ar m.rules.length cr) ov gs∧StayT w (w.drewN nq)):=⟨HM.out.grown (Keep.alike (w':=w.drewN nq) ⟨rfl,rfl,rfl⟩),Keep.stayT (Keep.alike (w':=w.drewN nq) ⟨rfl,rfl,rfl⟩)⟩
  generalize w.drewN nq=w3 at *;obtain⟨x0,x1,x2,x3,x4,x6,xf⟩:=HM2.out.1.cells;have xf3:=xf 3;have hlt:=HM2.out.1.lt;go_wp2;obtain⟨w4,hmk,ho4,hg4⟩:=run_makeSlice_full (P:=prog) w3.drew w3.heap.size 45 3 i0 _ 1 underlying45 hi0 hz0 hz1 .i64 .i64 256 (by omega) (by rw[hz2];omega) (by unfold maxLen;omega) lQ;have HK4:Hid (Grew w3 w4∧w4.heap[w3.heap.size]? =some (.cells (zC5 zeros) 3)):=by
   refine⟨⟨hg4.os,hg4.output,hg4.size,fun k hk _=>hg4.block k hk (by simp)⟩,?_⟩;have h:=ho4;rw[Nat.mul_one,zAd _ rfl] at h;exact zLC h
  have HM4:=vl <| HM2.out.1.grown HK4.out.1;have x3a:=HM4.out.cells.2.2.2.1;have xf3a:=HM4.out.cells.2.2.2.2.2.2 3;have hlt4:=HM4.out.lt;have HNP:=vl HM4.out.box.1;have hH4:=HM4.out.keep.size;have OW:=HM4.out.nOwn;have hmk2:Sem.run prog (Instr.makeSlice 45 (.int .i64 256) (.int .i64 256)) w3.drew=.ok (.slice (some ⟨w3.heap.size,0,none⟩) 256 256) w4:=hmk;go_region_law ((first
   |(refine step_append_lies _ (by rfl) (.tmp 24) (.tmp 26) 88 (by rfl) w0.heap.size 45 ii1 _ 1 24 underlying88 hi1 hy0 hy1 hy2 rfl (by decide) (.slice an m.next.length cn) m.next.length ((List.range m.next.length).map fun i=>.slice (some ⟨gs i,0,none⟩) 256 256) (by simp[Act.eval,Act.put]) (OW.alloc _) ⟨w4.heap.size,0,none⟩ 1 1 [.slice (some ⟨w3.heap.size,0,none⟩) 256 256] (by simp[Act.eval,Act.put]) (by rfl) (news_of_block (cs:=#[.slice (some ⟨w3.heap.size,0,none⟩) 256 256]) (t:=45) (fr:=(0,0)) (gG w4 _)) (by simp[Value.oneCell']) (by decide) (by unfold maxLen;omega) (by omega) (by simp;omega) (w4.heap.size+1) (by simp) ?_;intro gg cap w5 hown hgrow hat hlt5;have hPB:=hgrow.block mb (by simp;omega) HNP.out;have x3b:w5.cell? ⟨mb,3,none⟩=some (.slice an m.next.length cn):=(cell?_of_block hPB).trans ((cell?_alloc_past _ _ _ hlt4).trans x3a);have xf3b:w5.frozen? ⟨mb,3,none⟩=false:=(frozen?_of_block hPB).trans ((frozen?_alloc_past _ _ _ hlt4).trans xf3a))))
  all_goals
   have HM6:Hid (Mw w0 (w5.setCell ⟨mb,3,none⟩ (.slice (some ⟨gg,0,none⟩) (m.next.length+1) cap)) mb kb most {m with next:=m.next++[zeros]} (.slice (some ⟨gg,0,none⟩) (m.next.length+1) cap) (.slice ar m.rules.length cr) ov (fun i=>if i=m.next.length then w3.heap.size else gs i)∧StayT w (w5.setCell ⟨mb,3,none⟩ (.slice (some ⟨gg,0,none⟩) (m.next.length+1) cap))):=by
    have h:=HM2.out.1.newRow rfl HK4.out.1 HK4.out.2 hown hgrow (by
     rcases hat with ha|ha
     ·exact .inl ha
     ·right;rw[ha];omega)
    exact⟨h.1,HM2.out.2.trans h.2⟩
   generalize w5.setCell ⟨mb,3,none⟩ (.slice (some ⟨gg,0,none⟩) (m.next.length+1) cap)=w6 at *;have v3:=HM6.out.1.cells.2.2.2.1;have v4:=HM6.out.1.cells.2.2.2.2.1;have hl6:=HM6.out.1.lt;have hH6:w0.heap.size<=w6.heap.size:=HM6.out.1.keep.size;have OR:w6.ownsRow w0.heap.size 3 1 (.slice ar m.rules.length cr) m.rules.length (m.rules.map fun x=>.int .i64 x):=HM6.out.1.rOwn;go_wp2_with (first|(at_builtin;refine wpList_append_lies _ rfl _ _ 45 rfl (w0.heap.size) 3 i0 (.int .i64 0) 1 8 underlying45 hi0 hz0 hz1 hz2 rfl (by decide) _ _ _ rfl (OR.alloc _) ⟨w6.heap.size,0,none⟩ 1 1 [.int .i64 rule] rfl rfl (cell_one_new _ _ _) (by intro u hu;simp at hu;subst hu;rfl) (by decide) (by unfold maxLen;omega) (by omega) (by simp;omega) _ rfl ?_;intro g2 cap2 w7 hown2 hgrow2 hat2 hlt7;have hPB2:w7.heap[mb]? =w6.heap[mb]? :=(hgrow2.block _ (by simp;omega) HM6.out.1.box.2.1).trans (lG _ _ _ (by omega));have t4:w7.cell? ⟨mb,4,none⟩=some (.slice ar m.rules.length cr):=(cell?_of_block hPB2).trans v4;have g4:w7.frozen? ⟨mb,4,none⟩=false:=(frozen?_of_block hPB2).trans (HM6.out.1.cells.2.2.2.2.2.2 4);have HM8:=vl <| HM6.out.1.newRule rfl hown2 hgrow2 (by rcases hat2 with ha|ha;exact .inl ha;right;rw[ha];simp);have t3:=HM8.out.1.cells.2.2.2.1))
   go_ret;refine⟨?_,by rw[HZ.out.2];exact⟨_,_,_,_,HM8.out.1⟩,HM6.out.2.trans HM8.out.2⟩;rw[HZ.out.1]
   first|rfl|(simp;done)|(show _=_;congr 2;omega)
end
def Mk.put (m:Mk)(s b:Nat)(x:Int):Mk:={m with next:=m.next.set s ((m.next.getD s []).set b x)}
theorem zJd (w0 w:World)(mb kb most:Nat)(m:Mk)(h:MwIs w0 w mb kb most m)(kind b s:Nat)(hk:kind<m.of.length)(hs:m.of.getD kind 0=(s:Int))(hsl:s<m.next.length)(hb:b<256)(x:Int):
  Calls prog 135 #[.pointer (some ⟨mb,0,none⟩),.int .i64 (kind:Int),.int .i64 (b:Int),.int .i64 x] w fun e w'=>e=.returned (.tuple #[])∧MwIs w0 w' mb kb most (m.put s b x)∧StayT w w':=by
 obtain⟨nv,rv,ov,gs,h⟩:=h;obtain⟨ao,co,hov⟩:=h.oOwn.form;subst hov;obtain⟨go,rfl⟩:=h.oOwn.some (by omega);obtain⟨gn,cn,hnv,_,_,_,_,hnc,_⟩:=h.nOwn.get (by omega);subst hnv;obtain⟨x0,x1,x2,x3,x4,x6,xf⟩:=h.cells;have c1:=h.oOwn.cell kind hk;rw[hs] at c1;have c2:=hnc s hsl;obtain⟨c3,c4⟩:=h.row s b hsl hb;have HM:=h.put s b hsl x;have HM2:=vl HM;have i1:(kind:Int)<(m.of.length:Int):=by omega
 have i2:(s:Int)<(m.next.length:Int):=by omega
 have i3:(b:Int)<256:=by omega
 generalize (m.next.getD s []).getD b 0=old at *;go_in;go_wp2;go_region;go_wp2;go_end0;exact⟨rfl,⟨_,_,_,_,HM2.out.1.grown (Keep.drew _)⟩,HM2.out.2.trans (Keep.stayT (Keep.drew _))⟩
structure Kd.Ok (k:Kd)(a:Ar):Prop where
 lows:0<a.lows.length
 few:a.lows.length<=1000000000000
 good:a.Good 24
 lens:k.rules.length=k.rows.length
 wide:∀i,i<k.rows.length->(k.rows.getD i []).length=a.sets.length
 in_:∀i l,i<k.rows.length->l<a.sets.length->(k.rows.getD i []).getD l 0<k.rows.length
 start:k.start<k.rows.length
theorem zK9 (lows:List Int)(n:Int)(h:0<lows.length):jB lows n lows.length 0 lows.length<lows.length:=zIy _ _ _ _ _ h
theorem Kd.Ok.letter {k:Kd}{a:Ar}(h:k.Ok a)(c:Int):∃l:Nat,a.letter c=(l:Int)∧l<a.sets.length:=by
 have h1:a.area c<a.letters.length:=by
  rw[<-h.good.lens];exact zK9 a.lows c h.lows
 have h2:=h.good.letters _ (zR a.letters (a.area c) 0 h1);refine⟨(a.letters.getD (a.area c) 0).toNat,?_,by omega⟩;show a.letters.getD (a.area c) 0=_;omega
def Mk.behind (m:Mk)(k:Kd)(a:Ar)(kind:Nat)(c:Int):Int:=m.of.getD ((k.rows.getD kind []).getD (a.letter c).toNat 0) 0
theorem KdAt.grown {w w2:World}{kb:Nat}{a:Ar}{k:Kd}(h:KdAt w kb a k)(hk:Grew w w2):KdAt w2 kb a k:=by
 obtain⟨hl,lv,tv,sv,nv,rv,h1,h2,h3,h4⟩:=h;exact⟨lZ hl hk.size,lv,tv,sv,nv,rv,(hk.block kb hl (kJ hl)).trans h1,h2.grown hk,h3.grown hk,h4.grown hk⟩
theorem zAf (w0 w:World)(mb kb most:Nat)(m:Mk)(h:MwIs w0 w mb kb most m)(k:Kd)(a:Ar)(hK:KdAt w0 kb a k)(ok:k.Ok a)(kind:Nat)(hk:kind<k.rows.length)(hof:m.of.length=k.rows.length)(c:Int):
  Calls prog 134 #[.pointer (some ⟨mb,0,none⟩),.int .i64 (kind:Int),.int .i64 c] w fun e w'=>e=.returned (.int .i64 (m.behind k a kind c))∧Grew w w':=by
 obtain⟨nv,rv,ov,gs,h⟩:=h;have hK2:=hK.grown h.keep;obtain⟨hkl,lv,tv,sv,kn,kr,hkb,hka,hkn,hkr⟩:=hK2;obtain⟨al,cl,hal,-⟩:=id hka.lows;obtain⟨at_,ct,hat,-⟩:=id hka.letters;obtain⟨as_,cs,has,-⟩:=id hka.sets;have HLt:=vl <| zGZ w lv tv sv a hka ok.few ok.lows ok.good.lens.symm c;obtain⟨l,hl1,hl2⟩:=ok.letter c;have HV:Hid (m.behind k a kind c=m.of.getD ((k.rows.getD kind []).getD l 0) 0):=by
  show m.of.getD ((k.rows.getD kind []).getD (a.letter c).toNat 0) 0=_;rw[hl1];rfl
 rw[hl1] at HLt;have hin:=ok.in_ kind l hk hl2;obtain⟨bn,on,cn,hkn2,hbn,_,_,hknc⟩:=hkn.block (by rw[kV];omega);obtain⟨ur,hur,huI⟩:=hknc kind (by rw[kV];exact hk);have hge:(k.rows.map ints).getD kind []=ints (k.rows.getD kind []):=by
  rw[lW,lW,gJ];cases k.rows[kind]? <;> rfl
 rw[hge] at huI;have hwd:=ok.wide kind hk;obtain⟨br,or_,cr,hur2,hbr,_,_,hrc⟩:=huI.block (by rw[zM,hwd];omega);have hc5:=hrc l (by rw[zM,hwd];exact hl2);rw[vB] at hc5;rw[zM,hwd] at hur2;rw[kV] at hkn2;subst hal hat has hkn2 hur2;obtain⟨ao,co,hov⟩:=h.oOwn.form;subst hov;obtain⟨go,rfl⟩:=h.oOwn.some (by omega);obtain⟨x0,x1,x2,x3,x4,x6,xf⟩:=h.cells;have c1:=h.oOwn.cell _ (show (k.rows.getD kind []).getD l 0<m.of.length by omega);have hgo:=(h.oOwn.lt go rfl).2;have k0:w.cell? ⟨kb,0,none⟩=some (.slice al a.lows.length cl):=by unfold cell?;rw[hkb];rfl
 have k1:w.cell? ⟨kb,1,none⟩=some (.slice at_ a.letters.length ct):=by unfold cell?;rw[hkb];rfl
 have k2:w.cell? ⟨kb,2,none⟩=some (.slice as_ a.sets.length cs):=by unfold cell?;rw[hkb];rfl
 have k3:w.cell? ⟨kb,3,none⟩=some (.slice (some ⟨bn,on,none⟩) k.rows.length cn):=by unfold cell?;rw[hkb];rfl
 have HG:Hid (∀w2,Grew w w2->w2.cell? ⟨mb,6,none⟩=some (.slice (some ⟨go,0,none⟩) m.of.length co)∧w2.cell? ⟨mb,0,none⟩=some (.pointer (some ⟨kb,0,none⟩))∧w2.cell? ⟨kb,3,none⟩=some (.slice (some ⟨bn,on,none⟩) k.rows.length cn)∧w2.cell? ⟨bn,on+kind,none⟩=some (.slice (some ⟨br,or_,none⟩) a.sets.length cr)∧w2.cell? ⟨br,or_+l,none⟩=some (.int .i64 (((k.rows.getD kind []).getD l 0:Nat):Int))∧w2.cell? ⟨go,(k.rows.getD kind []).getD l 0,none⟩=some (.int .i64 (m.of.getD ((k.rows.getD kind []).getD l 0) 0))):=fun w2 hk2=>⟨zA x6 h.lt hk2,zA x0 h.lt hk2,zA k3 hkl hk2,zA hur hbn hk2,zA hc5 hbr hk2,zA c1 hgo hk2⟩
 have i1:(kind:Int)<(k.rows.length:Int):=by omega
 have i2:(l:Int)<(a.sets.length:Int):=by omega
 have i3:(((k.rows.getD kind []).getD l 0:Nat):Int)<(m.of.length:Int):=by omega
 have hofl:=hof;generalize (k.rows.getD kind []).getD l 0=z at *;generalize m.of.getD z 0=y at *;go_in;go_wp2_with (first|(go_at_call 175;refine HLt.out.mono ?_;rintro e w2 ⟨rfl,hk2⟩;obtain⟨v0,v1,v2,v3,v4,v5⟩:=HG.out w2 hk2))
 go_quiet (fail);go_wp2;go_ret;exact⟨by rw[HV.out];rfl,hk2.trans (Keep.lower (Keep.alike (w':=w2.drewN nq) ⟨rfl,rfl,rfl⟩) hk2.size hk2.size)⟩
def nz (f:Nat->Int):Bool:=(List.range 64).all fun i=>f i==0
theorem zCC:a64 (fun _=>0)=(#[.int .i64 0,.int .i64 0,.int .i64 0,.int .i64 0,.int .i64 0,.int .i64 0,.int .i64 0,.int .i64 0,.int .i64 0,.int .i64 0,.int .i64 0,.int .i64 0,.int .i64 0,.int .i64 0,.int .i64 0,.int .i64 0,.int .i64 0,.int .i64 0,.int .i64 0,.int .i64 0,.int .i64 0,.int .i64 0,.int .i64 0,.int .i64 0,.int .i64 0,.int .i64 0,.int .i64 0,.int .i64 0,.int .i64 0,.int .i64 0,.int .i64 0,.int .i64 0,.int .i64 0,.int .i64 0,.int .i64 0,.int .i64 0,.int .i64 0,.int .i64 0,.int .i64 0,.int .i64 0,.int .i64 0,.int .i64 0,.int .i64 0,.int .i64 0,.int .i64 0,.int .i64 0,.int .i64 0,.int .i64 0,.int .i64 0,.int .i64 0,.int .i64 0,.int .i64 0,.int .i64 0,.int .i64 0,.int .i64 0,.int .i64 0,.int .i64 0,.int .i64 0,.int .i64 0,.int .i64 0,.int .i64 0,.int .i64 0,.int .i64 0,.int .i64 0]:Array Value):=rfl
theorem zJP (w:World)(d:Nat)(f g:Nat->Int):∀is:List Nat,(∀i∈is,i<64)->(Op.eqItems (d+1) 3 (prog.cellsOf 3) (a64 f) (a64 g) is).run prog w=.ok (is.all fun i=>f i==g i) w
 |[],_=>rfl
 |i::is,h=>by
  have hi:=h i (gV);have e1:prog.cellsOf 3=1:=by kernel_rfl
  have hp:prog.plainKey 3=true:=by kernel_rfl
  have p1:=run_part_plain (P:=prog) w (e:=3) hp (xs:=a64 f) (off:=i*1) (v:=.int .i64 (f i)) (by rw[Nat.mul_one];exact jN f i hi);have p2:=run_part_plain (P:=prog) w (e:=3) hp (xs:=a64 g) (off:=i*1) (v:=.int .i64 (g i)) (by rw[Nat.mul_one];exact jN g i hi);have ih:=zJP w d f g is fun j hj=>h j (List.mem_cons_of_mem _ hj);have p3:=run_equalIn_int (P:=prog) w d 3 .i64 .i64 (f i) (g i) underlying3;rw[e1] at ih ⊢;simp only[Op.eqItems,Sem.run_bind,p1,p2,p3,Result.andThen_ok,List.all_cons];cases f i==g i
  ·rfl
  ·simpa using ih
theorem zML (w:World)(f:Nat->Int):(Op.equalIn 10000 246 (.agg (a64 f)) (.agg (#[.int .i64 0,.int .i64 0,.int .i64 0,.int .i64 0,.int .i64 0,.int .i64 0,.int .i64 0,.int .i64 0,.int .i64 0,.int .i64 0,.int .i64 0,.int .i64 0,.int .i64 0,.int .i64 0,.int .i64 0,.int .i64 0,.int .i64 0,.int .i64 0,.int .i64 0,.int .i64 0,.int .i64 0,.int .i64 0,.int .i64 0,.int .i64 0,.int .i64 0,.int .i64 0,.int .i64 0,.int .i64 0,.int .i64 0,.int .i64 0,.int .i64 0,.int .i64 0,.int .i64 0,.int .i64 0,.int .i64 0,.int .i64 0,.int .i64 0,.int .i64 0,.int .i64 0,.int .i64 0,.int .i64 0,.int .i64 0,.int .i64 0,.int .i64 0,.int .i64 0,.int .i64 0,.int .i64 0,.int .i64 0,.int .i64 0,.int .i64 0,.int .i64 0,.int .i64 0,.int .i64 0,.int .i64 0,.int .i64 0,.int .i64 0,.int .i64 0,.int .i64 0,.int .i64 0,.int .i64 0,.int .i64 0,.int .i64 0,.int .i64 0,.int .i64 0]:Array Value))).run prog w=.ok (nz f) w:=by
 obtain⟨i0,hi0,-⟩:=info_parts yH;rw[<-zCC,run_equalIn_array (P:=prog) w 9999 (a64 f) (a64 fun _=>0) underlying246 hi0];exact zJP w 9998 f (fun _=>0) (List.range 64) fun i hi=>List.mem_range.1 hi
end Go.Proofs.YtbjcfkdnjaiclaaGreat
