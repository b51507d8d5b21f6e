import Derived.Deep.RegionHeld3
import Derived.Deep.RegionWith
import Derived.Test.YtbjcfkdnjaiclaaGreatA0
import Derived.Test.YtbjcfkdnjaiclaaGreatA1
/- Parts of the proof. -/
set_option linter.unusedVariables false
set_option linter.unusedSimpArgs false
set_option maxHeartbeats 4000000
set_option maxRecDepth 100000
namespace Go.Proofs.YtbjcfkdnjaiclaaGreat
open Go.RowKit Go.Proofs.Tryz Go.World
open Go.Value (int slice bool pointer string agg tuple)
open Go.IntKind (i64)
open Go.Ending (returned)
theorem zKd:(prog.info? 9).map (fun i=>(i.zero,i.size,i.bytes))=some (some (string ⟨#[]⟩),1,16):=by kernel_rfl
theorem zLu (f:Nat->Bool)(t n:Nat)(ht:t<n)(hf:f t=false):(List.range n).countP (fun i=>if i=t then true else f i)=(List.range n).countP f+1:=by
 induction n with
 |zero=>omega
 |succ n ih=>
  rw[List.range_succ,List.countP_append,List.countP_append];by_cases e:t=n
  ·subst e
   have e1:(List.range t).countP (fun i=>if i=t then true else f i)=(List.range t).countP f:=by
    apply List.countP_congr;intro i hi;rw[if_neg (by have:=List.mem_range.1 hi;omega)]
   rw[e1];simp[hf]
  ·rw[ih (by omega)]
   have e2:[n].countP (fun i=>if i=t then true else f i)=[n].countP f:=by simp[Ne.symm e]
   rw[e2];omega
theorem zMH (f:Nat->Bool)(n:Nat):(List.range n).countP f<=n:=by
 have h:=List.countP_le_length (p:=f) (l:=List.range n);rw[List.length_range] at h;exact h
structure Wy (w:World)(H gs gw n:Nat)(sf:Nat->Bool)(wf:Nat->ByteArray)(lv:Value)(l:List Int):Prop where
 seen:Row w H 4 (slice (some ⟨gs,0,none⟩) n n) n fun i=>bool (sf i)
 words:Row w H 9 (slice (some ⟨gw,0,none⟩) n n) n fun i=>string (wf i)
 list:OwnI w H lv l
 all:∀x∈l,0<=x∧x<(n:Int)
 len:l.length=1+(List.range n).countP sf
 size:∀i,(wf i).size<=l.length
theorem Wy.most {w:World}{H gs gw n:Nat}{sf:Nat->Bool}{wf:Nat->ByteArray}{lv:Value}{l:List Int}(h:Wy w H gs gw n sf wf lv l):l.length<=n+1:=by
 have:=zMH sf n;have:=h.len;omega
theorem Row.at {w:World}{H g n c:Nat}{e:TypeId}{f:Nat->Value}(h:Row w H e (slice (some ⟨g,0,none⟩) n c) n f)(hn:0<n):H<=g∧g<w.heap.size∧(∀i,i<n->w.cell? ⟨g,i,none⟩=some (f i))∧∀i,w.frozen? ⟨g,i,none⟩=false:=by
 obtain⟨g',cp,hv,g1,g2,g3,g4,g5,g6⟩:=h.get hn;have eg:g'=g:=by injection hv with e1 _ _;injection e1 with e1;injection e1 with e1;exact e1.symm
 subst eg;exact⟨g1,g2,g5,g6⟩
theorem Keep.undrew {a b:Nat}{w w':World}(h:Keep a b w.drew w'):Keep a b w w':=⟨h.os,h.output,h.size,h.block⟩
theorem zHb {w w':World}{b i:Nat}(h:w.frozen? ⟨b,i,none⟩=false)(hb:b<w.heap.size)(hk:Grew w w'):w'.frozen? ⟨b,i,none⟩=false:=(dQ (hk.block b hb (by omega))).trans h
theorem zM {w:World}{H b:Nat}{e e':TypeId}{z:Nat}{v:Value}{n:Nat}{xs:List Value}{c:Array Value}(h:w.ownsRow H e z v n xs)(hb:w.heap[b]? =some (.cells c e'))(he:e≠e'):some b≠v.ownBlock:=by
 intro hg;rcases h.2 with⟨hv,_⟩|⟨g1,_,cur,hv,_,hh,_⟩
 ·rw[hv] at hg;cases hg
 ·rw[hv] at hg
  have e1:g1=b:=by simpa[Value.ownBlock] using hg.symm
  subst e1;rw[hb] at hh;injection hh with hh;injection hh with _ hh;exact he hh.symm
theorem Wy.mark {w w7:World}{H gs gw n:Nat}{sf:Nat->Bool}{wf:Nat->ByteArray}{lv:Value}{l:List Int}(h:Wy w H gs gw n sf wf lv l)(x:Nat)(z:ByteArray)(hk:Keep (w.setCell ⟨gs,x,none⟩ (bool true)).heap.size (w.setCell ⟨gs,x,none⟩ (bool true)).heap.size (w.setCell ⟨gs,x,none⟩ (bool true)) w7):
  Row (w7.setCell ⟨gw,x,none⟩ (string z)) H 4 (slice (some ⟨gs,0,none⟩) n n) n (fun i=>bool (if i=x then true else sf i))∧
  Row (w7.setCell ⟨gw,x,none⟩ (string z)) H 9 (slice (some ⟨gw,0,none⟩) n n) n (fun i=>string (if i=x then z else wf i))∧
  OwnI (w7.setCell ⟨gw,x,none⟩ (string z)) H lv l:=by
 have a1:=h.seen.set x (bool true);have a2:Row (w.setCell ⟨gs,x,none⟩ (bool true)) H 9 (slice (some ⟨gw,0,none⟩) n n) n fun i=>string (wf i):=h.words.setOther h.seen (by decide);have a3:OwnI (w.setCell ⟨gs,x,none⟩ (bool true)) H lv l:=zD h.list fun g _ _ hg=>lJ _ _ _ _ fun e=>xN (g:=g) h.list h.seen (by decide) hg (by rw[e];rfl);have b1:=zK a1 hk;have b2:Row w7 H 9 (slice (some ⟨gw,0,none⟩) n n) n fun i=>string (wf i):=zK a2 hk;have b3:=zK a3 hk;refine⟨?_,?_,?_⟩
 ·refine Row.congr (Row.setOther (H:=H) b1 b2 (by decide)) fun i _=>?_
  by_cases e:i=x <;> simp[e]
 ·refine Row.congr (b2.set x (string z)) fun i _=>?_
  by_cases e:i=x <;> simp[e]
 ·exact zD b3 fun g _ _ hg=>lJ _ _ _ _ fun e=>xN (g:=g) b3 b2 (by decide) hg (by rw[e];rfl)
theorem Wy.more {w8 w9:World}{o:Obj}{H gs gw n gg cap:Nat}{sf:Nat->Bool}{wf:Nat->ByteArray}{al:Option Addr}{cl:Nat}{l:List Int}(x:Nat)(z:ByteArray)
  (all:∀x∈l,0<=x∧x<(n:Int)) (len:l.length=1+(List.range n).countP sf) (size:∀i,(wf i).size<=l.length) (hx:x<n) (hsf:sf x=false) (hz:z.size<=l.length+1)
  (h1:Row w8 H 4 (slice (some ⟨gs,0,none⟩) n n) n (fun i=>bool (if i=x then true else sf i)))
  (h2:Row w8 H 9 (slice (some ⟨gw,0,none⟩) n n) n (fun i=>string (if i=x then z else wf i)))
  (h3:OwnI w8 H (slice al l.length cl) l)
  (hown:w9.ownsRow H 3 1 (slice (some ⟨gg,0,none⟩) (l.length+1) cap) (l.length+1) ((l.map fun x=>int i64 x)++[int i64 (x:Int)]))
  (hgrow:(w8.alloc o).grownBy w9 (Value.ownBlock (slice al l.length cl))):
  Wy w9 H gs gw n (fun i=>if i=x then true else sf i) (fun i=>if i=x then z else wf i) (slice (some ⟨gg,0,none⟩) (l.length+1) cap) (l++[(x:Int)]):=by
 refine⟨?_,?_,OwnI.snoc hown,?_,?_,?_⟩
 ·exact h1.blk fun g _ hg he=>(hgrow.block g (by simp;omega) (xN h1 h3.raw (by decide) he)).trans (lG _ _ _ hg)
 ·exact h2.blk fun g _ hg he=>(hgrow.block g (by simp;omega) (xN h2 h3.raw (by decide) he)).trans (lG _ _ _ hg)
 ·intro y hy
  rcases kU.1 hy with hy|hy
  ·exact all y hy
  ·rw[kY.1 hy];omega
 ·rw[kX,zLu sf x n hx hsf,len]
  simp;omega
 ·intro i
  rw[kX];show(if i=x then z else wf i).size<=l.length+1;by_cases e:i=x
  ·rw[if_pos e];exact hz
  ·rw[if_neg e];have:=size i;omega
theorem zKy (w:World)(nv rv ov gv:Value)(m:Sm)(hT:TblAt w nv rv m)(hm:m.Tbl)(from_:Nat)(hfr:from_<m.next.length)(fo fg:Nat->Bool)(hO:BoolsAt w (In w) ov m.next.length fo)(hG:BoolsAt w (In w) gv m.next.length fg):
  Calls prog 146 #[agg #[nv,rv,int i64 m.start],int i64 from_,ov,gv] w fun e w'=>∃(z:ByteArray) (a:Int),e=returned (tuple #[string z,int i64 a])∧z.size<=300∧-1<=a∧a<m.next.length∧Grew w w':=by
 obtain⟨i0,hi0,hz0,hz1,hz2⟩:=info_parts yL;obtain⟨ib,hib,hb0,hb1,hb2⟩:=info_parts qU;obtain⟨is,his,hs0,hs1,hs2⟩:=info_parts zKd;obtain⟨an,cn,rfl,hcn,hmn,hnc⟩:=hT.next
 obtain⟨ar,cr,rfl,hcr,hmr,hrc⟩:=hT.rules;obtain⟨bo,oo,co,hbo,rfl,_,_,hco⟩:=hO;obtain⟨bg,og,cg,hbg,rfl,_,_,hcg⟩:=hG;have HN:=vl hnc;have HCO:=vl hco;have HCG:=vl hcg;have HM:Hid m.Tbl:=hm;have h200:=hm.most;have h1:=hm.one;generalize hn:m.next.length=n at *
 have HNL:=vl hn;obtain⟨w1,hw1,K1,hl1⟩:∃w1,w1=w.alloc (.cells #[slice an n cn,slice ar m.rules.length cr,int i64 m.start] 127)∧Hid (Grew w w1∧w1.heap[w.heap.size]? =some (.cells #[slice an n cn,slice ar m.rules.length cr,int i64 m.start] 127))∧w.heap.size<w1.heap.size:=
  ⟨_,rfl,⟨kZ _ _ lQ,gJ w _⟩,by simp⟩
 obtain⟨w2,hmk2,ho2,hg2⟩:=run_makeSlice_full (P:=prog) w1 w.heap.size 28 4 ib _ 1 underlying28 hib hb0 hb1 i64 i64 n (by omega) (by rw[hb2];omega) (by unfold maxLen;omega) (by omega);have hk2:Grew w1 w2:=⟨hg2.os,hg2.output,hg2.size,fun k hk _=>hg2.block k hk (by simp)⟩
 have hl2:=lZ hl1 hk2.size;obtain⟨w3,hmk3,ho3,hg3⟩:=run_makeSlice_full (P:=prog) w2 w.heap.size 108 9 is _ 1 underlying108 his hs0 hs1 i64 i64 n (by omega) (by rw[hs2];omega) (by unfold maxLen;omega) (by omega);have hk3:Grew w2 w3:=⟨hg3.os,hg3.output,hg3.size,fun k hk _=>hg3.block k hk (by simp)⟩
 have hl3:=lZ hl2 hk3.size;have A3:Hid (Row w3 w.heap.size 4 (slice (some ⟨w1.heap.size,0,none⟩) n n) n (fun _=>bool false)∧Row w3 w.heap.size 9 (slice (some ⟨w2.heap.size,0,none⟩) n n) n (fun _=>string ⟨#[]⟩)∧Grew w w3∧w3.heap[w.heap.size]? =some (.cells #[slice an n cn,slice ar m.rules.length cr,int i64 m.start] 127)):=by
  have h2:=ho2;rw[Nat.mul_one,zAh _ rfl] at h2;have h3:=ho3;rw[Nat.mul_one,zAh _ rfl] at h3;exact⟨zK h2 hk3,h3,(K1.out.1.trans (hk2.lower (by omega) (by omega))).trans (hk3.lower (by omega) (by omega)),(hk3.block _ hl2 (by omega)).trans ((hk2.block _ hl1 (by omega)).trans K1.out.2)⟩
 have yb1:w1.cell? ⟨w.heap.size,0,none⟩=some (slice an n cn):=by unfold cell?;rw[K1.out.2];rfl
 have yb2:=zA yb1 hl1 hk2;go_in;apply wp_cut;intro K0 J;go_wp2;apply J.out;rw[<-hw1];clear hw1;go_wp2_with fail;clear hmk2 hmk3 yb1 yb2;obtain⟨w4,hw4,A4⟩:∃w4,w4=w3.alloc (.cells #[int i64 (from_:Int)] 3)∧Hid (Wy w4 w.heap.size w1.heap.size w2.heap.size n (fun _=>false) (fun _=>⟨#[]⟩) (slice (some ⟨w3.heap.size,0,none⟩) 1 1) [(from_:Int)]∧Grew w w4∧w4.heap[w.heap.size]? =some (.cells #[slice an n cn,slice ar m.rules.length cr,int i64 m.start] 127)):=by
  have hka:Grew w3 (w3.alloc (.cells #[int i64 (from_:Int)] 3)):=kZ _ _ lQ;refine⟨_,rfl,⟨zK A3.out.1 hka,zK A3.out.2.1 hka,?_,?_,?_,fun i=>lX⟩,A3.out.2.2.1.trans (hka.lower (by omega) (by omega)),(hka.block _ hl3 (by omega)).trans A3.out.2.2.2⟩
  ·exact⟨rfl,.inr ⟨w3.heap.size,1,#[int i64 (from_:Int)],rfl,by omega,gJ w3 _,lQ,by unfold maxLen;omega,rfl,rfl⟩⟩
  ·intro x hx
   rw[kY.1 hx];omega
  ·have e:(List.range n).countP (fun _=>false)=0:=by simp
   rw[e];rfl
 rw[<-hw4];clear hw4 A3 K1;have hg12:w1.heap.size≠w2.heap.size->True:=fun _=>trivial;clear hg12;go_loopg [12,13] (n+1) (fun q lst i wr=>∃(j:Nat) (sf:Nat->Bool) (wf:Nat->ByteArray) (l:List Int),q=n+1-j∧j<=l.length∧i=int i64 (j:Int)∧Wy wr w.heap.size w1.heap.size w2.heap.size n sf wf lst l∧Grew w wr∧wr.heap[w.heap.size]? =some (.cells #[slice an n cn,slice ar m.rules.length cr,int i64 m.start] 127))
 case atStart=>exact⟨0,_,_,_,rfl,lX,rfl,A4.out.1,A4.out.2.1,A4.out.2.2⟩
 case round=>
  obtain⟨j,sf,wf,l,hgk,hj,rfl,hW,hkp,hbx⟩:=hrel;have HA:Hid (gk=n+1-j∧Wy wr w.heap.size w1.heap.size w2.heap.size n sf wf u12 l∧Grew w wr∧wr.heap[w.heap.size]? =some (.cells #[slice an n cn,slice ar m.rules.length cr,int i64 m.start] 127)):=⟨hgk,hW,hkp,hbx⟩
  have hlm:=hW.most;obtain⟨al,cl,hlv⟩:=hW.list.form;subst hlv;by_cases hj2:j<l.length
  ·have i1:(j:Int)<(l.length:Int):=by omega
   obtain⟨gl,rfl⟩:∃gl,al=some ⟨gl,0,none⟩:=by
    rcases hW.list.2 with⟨h,h0⟩|⟨g,_,_,h,_⟩
    ·omega
    ·injection h with h _ _
     exact⟨g,h⟩
   have yl:wr.cell? ⟨gl,j,none⟩=some (int i64 (l.getD j 0)):=hW.list.cell j hj2;obtain⟨x0,x1⟩:=hW.all _ (zS l j 0 hj2);obtain⟨s,hs⟩:∃s:Nat,l.getD j 0=(s:Int):=⟨(l.getD j 0).toNat,by omega⟩
   rw[hs] at yl x1;have hsn:s<n:=by omega
   have i2:(s:Int)<(n:Int):=by omega
   have yb:wr.cell? ⟨w.heap.size,0,none⟩=some (slice an n cn):=by unfold cell?;rw[hbx];rfl
   obtain⟨b,o,u,rfl,hb,hc,hrow⟩:=HN.out s hsn;have hrl:=HM.out.rows s (by rw[HNL.out];exact hsn);obtain⟨br,orr,pr,rfl,hSr,_,_,hcc⟩:=hrow.block (by omega);have yr:wr.cell? ⟨b,o+s,none⟩=some (slice (some ⟨br,orr,none⟩) 256 pr):=by rw[<-hrl];exact zA hc hb hkp
   have HCC:Hid (∀i,i<256->w.cell? ⟨br,orr+i,none⟩=some (int i64 ((m.next.getD s []).getD i 0))):=by
    intro i hi;exact hcc i (by rw[hrl];exact hi)
   have HTO:Hid (∀b,b<256->0<=(m.next.getD s []).getD b 0∧(m.next.getD s []).getD b 0<n):=fun b hb=>by
    have h:=HM.out.to s b (by rw[HNL.out];exact hsn) hb;rw[HNL.out] at h;exact h
   clear hgk hW hkp hbx hc hrow hcc hrl hs x0;go_wp2_with fail;clear yl yb yr;go_loopg [12,43] 256 (fun q lst i wr=>∃(k:Nat) (sf:Nat->Bool) (wf:Nat->ByteArray) (l:List Int),q=256-k∧k<=256∧i=int i64 (k:Int)∧j<l.length∧Wy wr w.heap.size w1.heap.size w2.heap.size n sf wf lst l∧Grew w wr∧wr.heap[w.heap.size]? =some (.cells #[slice (some ⟨b,o,none⟩) n cn,slice ar m.rules.length cr,int i64 m.start] 127))
   case atStart=>exact⟨0,sf,wf,l,rfl,lX,rfl,hj2,HA.out.2.1,HA.out.2.2.1,HA.out.2.2.2⟩
   case round=>
    obtain⟨k,sf,wf,l,hgk,hk,rfl,hjl,hW,hkp,hbx⟩:=hrel;have HB:Hid (gk=256-k∧Wy wr w.heap.size w1.heap.size w2.heap.size n sf wf u12 l∧Grew w wr∧wr.heap[w.heap.size]? =some (.cells #[slice (some ⟨b,o,none⟩) n cn,slice ar m.rules.length cr,int i64 m.start] 127)):=⟨hgk,hW,hkp,hbx⟩
    have hlm:=hW.most;obtain⟨al,cl,hlv⟩:=hW.list.form;subst hlv;by_cases hk2:k<256
    ·have i3:(k:Int)<256:=by omega
     have yx:wr.cell? ⟨br,orr+k,none⟩=some (int i64 ((m.next.getD s []).getD k 0)):=zA (HCC.out k hk2) hSr hkp;obtain⟨t1,t2⟩:=HTO.out k hk2;obtain⟨x,hx⟩:∃x:Nat,(m.next.getD s []).getD k 0=(x:Int):=⟨((m.next.getD s []).getD k 0).toNat,by omega⟩
     rw[hx] at yx t1 t2;have hxn:x<n:=by omega
     have yg:wr.cell? ⟨bg,og+x,none⟩=some (bool (fg x)):=zA (HCG.out x hxn) hbg hkp;have yo:wr.cell? ⟨bo,oo+x,none⟩=some (bool (fo x)):=zA (HCO.out x hxn) hbo hkp;obtain⟨s1,s2,s3,s4⟩:=hW.seen.at (by omega)
     obtain⟨v1,v2,v3,v4⟩:=hW.words.at (by omega)
     have ys:wr.cell? ⟨w1.heap.size,x,none⟩=some (bool (sf x)):=s3 x hxn;have zs:=s4 x;have yw:wr.cell? ⟨w2.heap.size,s,none⟩=some (string (wf s)):=v3 s hsn;have ywx:wr.cell? ⟨w2.heap.size,x,none⟩=some (string (wf x)):=v3 x hxn;have zw:=v4 x;have hwz:=hW.size s;have hsz:w.heap.size<=wr.heap.size:=Nat.le_of_lt (Nat.lt_of_le_of_lt s1 s2);have hg12:w1.heap.size≠w2.heap.size:=fun e=>xN (g:=w1.heap.size) hW.seen hW.words (by decide) rfl (by rw[e];rfl);have HSX:Hid (sf x=sf x):=rfl;clear hgk hkp hbx hx HSX s3 s4 v3 v4;cases hfg:fg x with
     |true=>
      rw[hfg] at yg;clear hfg;go_wp2_with fail;have HW:Hid (w2.heap.size<wr.heap.size∧wr.cell? ⟨w2.heap.size,s,none⟩=some (string (wf s))):=⟨v2,yw⟩
      go_region_with ((go_at_call 150;go_must ((refine (zCB _ k hk2).mono ?_;rintro e w5 ⟨rfl,hk5⟩;have q5:w5.cell? ⟨w2.heap.size,s,none⟩=some (string (wf s)):=zA (w:=wr.drew) HW.out.2 HW.out.1 hk5))))
      all_goals first
       |omega
       |(go_wp2_with fail;go_ret2;refine⟨_,_,rfl,?_,by omega,by omega,HB.out.2.2.1.trans ((Keep.undrew hk5).lower hsz hsz)⟩;rw[ByteArray.size_append];show _+1<=300;omega)
     |false=>
      rw[hfg] at yg;clear hfg;cases hfo:fo x with
      |false=>
       rw[hfo] at yo;clear hfo;cases hsf:sf x with
       |true=>
        rw[hsf] at ys;clear hsf;go_wp2_with fail;go_roundg (256-(k+1))
        case measure=>rw[HB.out.1];omega
        case rel=>exact⟨k+1,sf,wf,l,rfl,by omega,by go_num,hjl,HB.out.2.1,HB.out.2.2.1,HB.out.2.2.2⟩
       |false=>
        rw[hsf] at ys;clear hsf;go_wp2_with fail;go_roundg (256-(k+1))
        case measure=>rw[HB.out.1];omega
        case rel=>exact⟨k+1,sf,wf,l,rfl,by omega,by go_num,hjl,HB.out.2.1,HB.out.2.2.1,HB.out.2.2.2⟩
      |true=>
       rw[hfo] at yo;clear hfo;cases hsf:sf x with
       |true=>
        rw[hsf] at ys;clear hsf;go_wp2_with fail;go_roundg (256-(k+1))
        case measure=>rw[HB.out.1];omega
        case rel=>exact⟨k+1,sf,wf,l,rfl,by omega,by go_num,hjl,HB.out.2.1,HB.out.2.2.1,HB.out.2.2.2⟩
       |false=>
        rw[hsf] at ys;have HSF:Hid (sf x=false):=hsf;clear hsf;by_cases hxf:x=from_
        ·have ixf:((x:Int) != (from_:Int))=false:=by simp[hxf]
         clear hxf;go_wp2_with fail;go_roundg (256-(k+1))
         case measure=>rw[HB.out.1];omega
         case rel=>exact⟨k+1,sf,wf,l,rfl,by omega,by go_num,hjl,HB.out.2.1,HB.out.2.2.1,HB.out.2.2.2⟩
        ·have ixf:((x:Int) != (from_:Int))=true:=by simp;omega
         clear hxf;go_wp2_with fail;obtain⟨w6,hw6,q1,q2,q3,q4⟩:∃w6,w6=wr.setCell ⟨w1.heap.size,x,none⟩ (bool true)∧w6.cell? ⟨w2.heap.size,s,none⟩=some (string (wf s))∧w6.cell? ⟨w2.heap.size,x,none⟩=some (string (wf x))∧w6.frozen? ⟨w2.heap.size,x,none⟩=false∧w2.heap.size<w6.heap.size:=by
          have hb:(wr.setCell ⟨w1.heap.size,x,none⟩ (bool true)).heap[w2.heap.size]? =wr.heap[w2.heap.size]? :=lJ _ _ _ _ hg12.symm;exact⟨_,rfl,(gG hb).trans yw,(gG hb).trans ywx,(dQ hb).trans zw,by simpa[World.setCell] using v2⟩
         rw[<-hw6];have HW6:Hid (w6=wr.setCell ⟨w1.heap.size,x,none⟩ (bool true)):=hw6;clear hw6 yw ywx zw ys zs yo yg yx;have HW:Hid (w2.heap.size<w6.heap.size∧w6.cell? ⟨w2.heap.size,s,none⟩=some (string (wf s))∧w6.cell? ⟨w2.heap.size,x,none⟩=some (string (wf x))∧w6.frozen? ⟨w2.heap.size,x,none⟩=false):=⟨q4,q1,q2,q3⟩
         have h1z:((⟨#[UInt8.ofNat k]⟩:ByteArray)).size=1:=rfl;go_region_with ((go_at_call 150;go_must ((refine (zCB _ k hk2).mono ?_;rintro e w7 ⟨rfl,hk7⟩;have q5:w7.cell? ⟨w2.heap.size,s,none⟩=some (string (wf s)):=zA (w:=w6.drew) HW.out.2.1 HW.out.1 hk7;have q6:w7.cell? ⟨w2.heap.size,x,none⟩=some (string (wf x)):=zA (w:=w6.drew) HW.out.2.2.1 HW.out.1 hk7;have q7:w7.frozen? ⟨w2.heap.size,x,none⟩=false:=zHb (w:=w6.drew) HW.out.2.2.2 HW.out.1 hk7))))
         all_goals
          obtain⟨w8,hw8,A8,hs8⟩:∃w8,w8=w7.setCell ⟨w2.heap.size,x,none⟩ (string (wf s++⟨#[UInt8.ofNat k]⟩))∧Hid ((Row w8 w.heap.size 4 (slice (some ⟨w1.heap.size,0,none⟩) n n) n (fun i=>bool (if i=x then true else sf i))∧Row w8 w.heap.size 9 (slice (some ⟨w2.heap.size,0,none⟩) n n) n (fun i=>string (if i=x then wf s++⟨#[UInt8.ofNat k]⟩ else wf i))∧OwnI w8 w.heap.size (slice al l.length cl) l)∧Grew w w8∧w8.heap[w.heap.size]? =some (.cells #[slice (some ⟨b,o,none⟩) n cn,slice ar m.rules.length cr,int i64 m.start] 127))∧w.heap.size<w8.heap.size:=by
           have h6:=HW6.out;subst h6;have hbx:=HB.out.2.2.2;have hk7':Keep (wr.setCell ⟨w1.heap.size,x,none⟩ (bool true)).heap.size (wr.setCell ⟨w1.heap.size,x,none⟩ (bool true)).heap.size (wr.setCell ⟨w1.heap.size,x,none⟩ (bool true)) w7:=Keep.undrew hk7;have hs6:(wr.setCell ⟨w1.heap.size,x,none⟩ (bool true)).heap.size=wr.heap.size:=by simp[World.setCell]
           have n1:w.heap.size≠w1.heap.size:=fun e=>zM HB.out.2.1.seen hbx (by decide) (by rw[e];rfl);have n2:w.heap.size≠w2.heap.size:=fun e=>zM HB.out.2.1.words hbx (by decide) (by rw[e];rfl);refine⟨_,rfl,⟨HB.out.2.1.mark x _ hk7',?_,?_⟩,?_⟩
           ·exact((HB.out.2.2.1.trans (zO _ _ _ _ (by omega))).trans (hk7'.lower (by rw[hs6];omega) (by rw[hs6];omega))).trans (zO _ _ _ _ (by omega))
           ·refine(lJ _ _ _ _ n2).trans ((hk7'.block _ (by rw[hs6];omega) (by rw[hs6];omega)).trans ((lJ _ _ _ _ n1).trans hbx))
           ·have:=hk7'.size
            rw[hs6] at this;simp[World.setCell];omega
          rw[<-hw8];clear hw8 q5 q6 q7 hk7;have OR:Hid (w8.ownsRow w.heap.size 3 1 (slice al l.length cl) l.length (l.map fun x=>int i64 x)):=A8.out.1.2.2;have hsz8:w.heap.size<=w8.heap.size:=Nat.le_of_lt hs8;go_wp2_with (first|(at_builtin;refine wpList_append_lies _ rfl _ _ 45 rfl (w.heap.size) 3 i0 (int i64 0) 1 8 underlying45 hi0 hz0 hz1 hz2 rfl (by decide) _ _ _ rfl (OR.out.alloc _) ⟨w8.heap.size,0,none⟩ 1 1 [int i64 (x:Int)] rfl rfl (cell_one_new _ _ _) (by intro u hu;simp at hu;subst hu;rfl) (by decide) (by unfold maxLen;omega) (by omega) (by simp;omega) _ rfl ?_;intro gg cap w9 hown hgrow hat hlt2;have hB:=xQ OR.out hgrow hsz8))
          have A9:Hid (Wy w9 w.heap.size w1.heap.size w2.heap.size n (fun i=>if i=x then true else sf i) (fun i=>if i=x then wf s++⟨#[UInt8.ofNat k]⟩ else wf i) (slice (some ⟨gg,0,none⟩) (l.length+1) cap) (l++[(x:Int)])∧Grew w w9∧w9.heap[w.heap.size]? =some (.cells #[slice (some ⟨b,o,none⟩) n cn,slice ar m.rules.length cr,int i64 m.start] 127)):=by
           have hbx:=A8.out.2.2;refine⟨Wy.more x _ HB.out.2.1.all HB.out.2.1.len HB.out.2.1.size hxn HSF.out ?_ A8.out.1.1 A8.out.1.2.1 A8.out.1.2.2 hown hgrow,A8.out.2.1.trans (xO hB),(hgrow.block _ (by simp;omega) (zM OR.out hbx (by decide))).trans ((lG _ _ _ hs8).trans hbx)⟩;rw[ByteArray.size_append];show _+1<=_;omega
          clear hown hgrow hB hat
          go_wp2_with fail;go_roundg (256-(k+1))
          case measure=>rw[HB.out.1];omega
          case rel=>exact⟨k+1,_,_,_,rfl,by omega,by go_num,by rw[kX];omega,A9.out.1,A9.out.2.1,A9.out.2.2⟩
    ·have i3:(256:Int)<=(k:Int):=by omega
     clear hgk hkp hbx;go_wp2_with fail;go_roundg (n+1-(j+1))
     case measure=>rw[HA.out.1];omega
     case rel=>exact⟨j+1,sf,wf,l,rfl,hjl,by go_num,HB.out.2.1,HB.out.2.2.1,HB.out.2.2.2⟩
  ·have i1:(l.length:Int)<=(j:Int):=by omega
   clear hgk hkp hbx;go_wp2_with fail;go_ret2
   exact⟨⟨#[]⟩,-1,rfl,lX,by omega,by omega,HA.out.2.2.1⟩
section
variable {w w':World} {nv rv ov gv:Value} {m:Sm} (hT:TblAt w nv rv m) (hm:m.Tbl) (b from_:Nat)
structure Boxed (w w':World)(b:Nat)(nv rv:Value)(m:Sm):Prop where
 c0:w'.cell? ⟨b,0,none⟩=some nv
 c1:w'.cell? ⟨b,1,none⟩=some rv
 c2:w'.cell? ⟨b,2,none⟩=some (int i64 m.start)
 keep:Grew w w'
 lt:b<w'.heap.size
theorem Boxed.made (w:World)(nv rv:Value)(m:Sm):Boxed w (w.alloc (.cells #[nv,rv,int i64 m.start] 127)) w.heap.size nv rv m:=by
 have h:=gJ w (.cells #[nv,rv,int i64 m.start] 127);refine⟨?_,?_,?_,kZ _ _ lQ,by simp⟩ <;> ·unfold cell?;rw[h];rfl
theorem Boxed.grown {w w' w2:World}{b:Nat}{nv rv:Value}{m:Sm}(h:Boxed w w' b nv rv m)(hk:Grew w' w2):Boxed w w2 b nv rv m:=
 ⟨zA h.c0 h.lt hk,zA h.c1 h.lt hk,zA h.c2 h.lt hk,h.keep.trans (hk.lower h.keep.size h.keep.size),lZ h.lt hk.size⟩
theorem Boxed.drew {b:Nat}{nv rv:Value}{m:Sm}(h:Boxed w w' b nv rv m):Boxed w w'.drew b nv rv m:=⟨h.c0,h.c1,h.c2,h.keep.trans (Keep.drew _),h.lt⟩
theorem Boxed.living (hT:TblAt w nv rv m)(hm:m.Tbl)(b:Nat)(h:Boxed w w' b nv rv m):
  Calls prog 144 #[agg #[nv,rv,int i64 m.start]] w' fun e w''=>∃u,e=returned u∧BoolsAt w'' (In w'') u m.next.length zBP∧Boxed w w'' b nv rv m∧Grew w' w'':=by
 refine(zG1 w' nv rv m (hT.grown h.keep) hm).mono ?_;rintro e w2 ⟨u,rfl,hu,hk⟩;exact⟨u,rfl,hu.at hm.one,h.grown hk,hk⟩
theorem Boxed.only (hT:TblAt w nv rv m)(hm:m.Tbl)(one b:Nat)(h:Boxed w w' b nv rv m):
  Calls prog 148 #[agg #[nv,rv,int i64 m.start],int i64 one] w' fun e w''=>∃u,e=returned u∧BoolsAt w'' (In w'') u m.next.length (zBN one)∧Boxed w w'' b nv rv m∧Grew w' w'':=by
 refine(zJc w' nv rv m (hT.grown h.keep) hm one).mono ?_;rintro e w2 ⟨u,rfl,hu,hk⟩;exact⟨u,rfl,hu.at hm.one,h.grown hk,hk⟩
theorem Boxed.tokens (hT:TblAt w nv rv m)(hm:m.Tbl)(b:Nat)(h:Boxed w w' b nv rv m):
  Calls prog 140 #[agg #[nv,rv,int i64 m.start]] w' fun e w''=>∃u,e=returned u∧BoolsAt w'' (In w'') u m.next.length (tokF m)∧Boxed w w'' b nv rv m∧Grew w' w'':=by
 refine(zCS w' nv rv m (hT.grown h.keep) hm).mono ?_;rintro e w2 ⟨u,rfl,hu,hk⟩;rw[hm.rules] at hu;exact⟨u,rfl,hu.at hm.one,h.grown hk,hk⟩
theorem Boxed.way (hT:TblAt w nv rv m)(hm:m.Tbl)(b from_:Nat)(hfr:from_<m.next.length)(fo fg:Nat->Bool)(h:Boxed w w' b nv rv m)(hO:BoolsAt w' (In w') ov m.next.length fo)(hG:BoolsAt w' (In w') gv m.next.length fg):
  Calls prog 146 #[agg #[nv,rv,int i64 m.start],int i64 from_,ov,gv] w' fun e w''=>∃(z:ByteArray) (a:Int),e=returned (tuple #[string z,int i64 a])∧z.size<=300∧-1<=a∧a<m.next.length∧Boxed w w'' b nv rv m∧Grew w' w'':=by
 refine(zKy w' nv rv ov gv m (hT.grown h.keep) hm from_ hfr fo fg hO hG).mono ?_;rintro e w2 ⟨z,a,rfl,hz,ha,hb,hk⟩;exact⟨z,a,rfl,hz,ha,hb,h.grown hk,hk⟩
theorem zEo (w:World)(nv rv ov:Value)(m:Sm)(hT:TblAt w nv rv m)(hm:m.Tbl)(s:Nat)(hs:s<m.next.length)(fo:Nat->Bool)(hO:BoolsAt w (In w) ov m.next.length fo):
  Calls prog 180 #[agg #[nv,rv,int i64 m.start],int i64 s,ov] w fun e w'=>∃x:Bool,e=returned (bool x)∧Grew w w':=by
 have h0:=Boxed.made w nv rv m;have HC1:Hid (∀w',Boxed w w' w.heap.size nv rv m->_):=fun w' h=>Boxed.only (w':=w') hT hm s w.heap.size h;have HC2:Hid (∀w' gv,Boxed w w' w.heap.size nv rv m->BoolsAt w' (In w') gv m.next.length (zBN s)->_):=fun w' gv h hG=>Boxed.way (w':=w') (gv:=gv) hT hm w.heap.size s hs fo (zBN s) h (hO.grown h.keep) hG;go_in;apply wp_cut;intro K0 J;go_wp2;apply J.out;generalize w.alloc (.cells #[nv,rv,int i64 m.start] 127)=w1 at *;have y0:=h0.c0;have y1:=h0.c1;have y2:=h0.c2;have H0:=vl h0;go_wp2;go_region_with ((first|(go_at_call 148;go_must ((refine (HC1.out _ H0.out.drew).mono ?_;rintro e w5 ⟨u,rfl,hu,hb5,-⟩;have z0:=hb5.c0;have z1:=hb5.c1;have z2:=hb5.c2)))|(go_at_call 146;go_must ((refine (HC2.out _ _ hb5 hu).mono ?_;rintro e w6 ⟨z,a,rfl,hz,ha,ha2,hb6,-⟩)))))
 all_goals
  go_wp2;go_ret;exact⟨_,rfl,hb6.keep⟩
end
theorem zCQ (w:World)(nv rv:Value)(m:Sm)(hT:TblAt w nv rv m)(hm:m.Tbl)(st:Nat)(hst:m.start=(st:Int))(hs2:st<m.next.length)(s:Nat):
  Calls prog 147 #[agg #[nv,rv,int i64 m.start],int i64 s] w fun e w'=>∃z:ByteArray,e=returned (string z)∧z.size<=300∧Grew w w':=by
 have h0:=Boxed.made w nv rv m;have HC1:Hid (∀w',Boxed w w' w.heap.size nv rv m->_):=fun w' h=>Boxed.only (w':=w') hT hm s w.heap.size h;have HC3:Hid (∀w',Boxed w w' w.heap.size nv rv m->_):=fun w' h=>Boxed.living (w':=w') hT hm w.heap.size h;have HC2:Hid (∀w' ov gv,Boxed w w' w.heap.size nv rv m->BoolsAt w' (In w') ov m.next.length zBP->BoolsAt w' (In w') gv m.next.length (zBN s)->_):=fun w' ov gv h hO hG=>Boxed.way (w':=w') (gv:=gv) hT hm w.heap.size st hs2 zBP (zBN s) h hO hG;have HST:=vl hst;have HC2:Hid (∀w' ov gv,Boxed w w' w.heap.size nv rv m->BoolsAt w' (In w') ov m.next.length zBP->BoolsAt w' (In w') gv m.next.length (zBN s)->Ca 146 #[agg #[nv,rv,int i64 m.start],int i64 m.start,ov,gv] w' fun e w''=>∃(z:ByteArray) (a:Int),e=returned (tuple #[string z,int i64 a])∧z.size<=300∧-1<=a∧a<m.next.length∧Boxed w w'' w.heap.size nv rv m∧Grew w' w''):=by
  intro w' ov gv h hO hG;have h:=HC2.out w' ov gv h hO hG;rw[<-hst] at h;exact h
 clear hst;go_in;apply wp_cut;intro K0 J;go_wp2;apply J.out;generalize w.alloc (.cells #[nv,rv,int i64 m.start] 127)=w1 at *;have y0:=h0.c0;have y1:=h0.c1;have y2:=h0.c2;have H0:=vl h0;go_wp2;go_region_held3 (fun w'=>w'.cell? ⟨w.heap.size,0,none⟩=some nv∧w'.cell? ⟨w.heap.size,1,none⟩=some rv∧w'.cell? ⟨w.heap.size,2,none⟩=some (int i64 m.start)) (first|exact⟨z0,z1,z2⟩|go_keep) (first|(go_at_call 144;go_must ((refine (HC3.out _ (by first|exact hbO|exact H0.out.drew)).mono ?_;rintro e wL ⟨ul,rfl,hul,hbL,hkL⟩;have z0:=hbL.c0;have z1:=hbL.c1;have z2:=hbL.c2)))|(go_at_call 148;go_must ((refine (HC1.out _ (by first|exact hbL|exact H0.out.drew)).mono ?_;rintro e wO ⟨uo,rfl,huo,hbO,hkO⟩;have z0:=hbO.c0;have z1:=hbO.c1;have z2:=hbO.c2)))|(go_at_call 146;go_must ((refine (HC2.out _ _ _ (by first|exact hbO|exact hbL) (by first|exact hul|exact hul.grown hkO) (by first|exact huo|exact huo.grown hkL)).mono ?_;rintro e w6 ⟨z,a,rfl,hz,ha,ha2,hb6,-⟩;have z0:=hb6.c0;have z1:=hb6.c1;have z2:=hb6.c2))))
 all_goals
  go_wp2;go_ret;exact⟨_,rfl,hz,hb6.keep⟩
theorem OwnF.more {w:World}{H g cap n:Nat}{f:Nat->Bool}{x:Bool}(h:w.ownsRow H 4 1 (slice (some ⟨g,0,none⟩) (n+1) cap) (n+1) ((List.range n).map (fun i=>bool (f i))++[bool x])):OwnF w H (slice (some ⟨g,0,none⟩) (n+1) cap) (n+1) (fun i=>if i=n then x else f i):=by
 refine OwnF.snoc ?_ (if_pos rfl);have e:(List.range n).map (fun i=>Value.bool (if i=n then x else f i))=(List.range n).map (fun i=>Value.bool (f i)):=by
  apply List.map_congr_left;intro i hi;have:=List.mem_range.1 hi;rw[if_neg (by omega)]
 rw[e];exact h
theorem Boxed.below {w w' w2:World}{b:Nat}{nv rv:Value}{m:Sm}(h:Boxed w w' b nv rv m)(hb:w.heap.size<=b)(hB:Below (b+1) w' w2):Boxed w w2 b nv rv m:=by
 have e:=hB.block b (Nat.lt_succ_self b);exact⟨(gG e).trans h.c0,(gG e).trans h.c1,(gG e).trans h.c2,h.keep.trans ⟨hB.os,hB.output,hB.size,fun k hk _=>hB.block k (by omega)⟩,lZ h.lt hB.size⟩
theorem zEW (w:World)(nv rv ov:Value)(m:Sm)(hT:TblAt w nv rv m)(hm:m.Tbl)(fo:Nat->Bool)(hO:BoolsAt w (In w) ov m.next.length fo):
  Calls prog 145 #[agg #[nv,rv,int i64 m.start],ov] w fun e w'=>∃u f,e=returned u∧OwnF w' w.heap.size u m.next.length f∧Grew w w':=by
 obtain⟨i0,hi0,hz0,hz1,hz2⟩:=info_parts qU;have h0:=Boxed.made w nv rv m;obtain⟨bo,oo,co,hbo,hov,_,_,hco⟩:=id hO;have HC1:Hid (∀w' s,Boxed w w' w.heap.size nv rv m->s<m.next.length->Ca 180 #[agg #[nv,rv,int i64 m.start],int i64 s,ov] w' fun e w2=>∃x:Bool,e=returned (bool x)∧Boxed w w2 w.heap.size nv rv m∧Grew w' w2):=by
  intro w' s h hs;refine(zEo w' nv rv ov m (hT.grown h.keep) hm s hs fo (hO.grown h.keep)).mono ?_;rintro e w2 ⟨x,rfl,hk⟩;exact⟨x,rfl,h.grown hk,hk⟩
 have HCO:=vl hco;have h200:=hm.most;have h1:=hm.one;subst hov;generalize m.next.length=n at *
 go_in;apply wp_cut;intro K0 J;go_wp2;apply J.out;generalize w.alloc (.cells #[nv,rv,int i64 m.start] 127)=w1 at *;have H0:=vl h0;go_wp2;go_loopg [5,10] n (fun q lst i wr=>∃(s:Nat) (f:Nat->Bool),q=n-s∧s<=n∧i=int i64 (s:Int)∧OwnF wr (w.heap.size+1) lst s f∧Boxed w wr w.heap.size nv rv m)
 case atStart=>exact⟨0,fun _=>false,rfl,lX,rfl,ownsRow_nil _ _ _ _,H0.out⟩
 case round=>
  obtain⟨s,f,hgk,hs,rfl,ho,hbx⟩:=hrel;have HA:Hid (gk=n-s∧OwnF wr (w.heap.size+1) u5 s f∧Boxed w wr w.heap.size nv rv m):=⟨hgk,ho,hbx⟩
  obtain⟨ao,cap,hv⟩:=ho.form;subst hv;by_cases hs2:s<n
  ·have i1:(s:Int)<(n:Int):=by omega
   have yo:=zA (HCO.out s hs2) hbo hbx.keep;have y0:=hbx.c0;have y1:=hbx.c1;have y2:=hbx.c2;have hszr:=hbx.lt;cases hf:fo s with
   |false=>
    rw[hf] at yo;have OR:=vl HA.out.2.1;go_wp2_with (first|(at_builtin;refine wpList_append_lies _ rfl _ _ 28 rfl (w.heap.size+1) 4 i0 (bool false) 1 1 underlying28 hi0 hz0 hz1 hz2 rfl (by decide) _ _ _ rfl (OR.out.alloc _) ⟨wr.heap.size,0,none⟩ 1 1 [bool false] rfl rfl (cell_one_new _ _ _) (by intro u hu;simp at hu;subst hu;rfl) (by decide) (by unfold maxLen;omega) (by omega) (by simp;omega) _ rfl ?_;intro gg cap2 w2 hown hgrow hat hlt2;have hB:=xQ OR.out hgrow hszr))
    have O2:Hid (OwnF w2 (w.heap.size+1) (slice (some ⟨gg,0,none⟩) (s+1) cap2) (s+1) (fun i=>if i=s then false else f i)∧Boxed w w2 w.heap.size nv rv m):=⟨OwnF.more hown,HA.out.2.2.below lQ hB⟩
    go_wp2;go_roundg (n-(s+1))
    case measure=>rw[HA.out.1];omega
    case rel=>exact⟨s+1,_,rfl,by omega,by go_num,O2.out.1,O2.out.2⟩
   |true=>
    rw[hf] at yo;go_wp2_with (first|(go_at_call 180;refine(HC1.out _ s HA.out.2.2 hs2).mono ?_;rintro e w5 ⟨x,rfl,hb5,hk5⟩;have OR:=vl <| zK HA.out.2.1 hk5;have hsz5:=hb5.lt)|(at_builtin;refine wpList_append_lies _ rfl _ _ 28 rfl (w.heap.size+1) 4 i0 (bool false) 1 1 underlying28 hi0 hz0 hz1 hz2 rfl (by decide) _ _ _ rfl (OR.out.alloc _) ⟨w5.heap.size,0,none⟩ 1 1 [bool x] rfl rfl (cell_one_new _ _ _) (by intro u hu;simp at hu;subst hu;rfl) (by decide) (by unfold maxLen;omega) (by omega) (by simp;omega) _ rfl ?_;intro gg cap2 w2 hown hgrow hat hlt2;have hB:=xQ OR.out hgrow hsz5))
    have O2:Hid (OwnF w2 (w.heap.size+1) (slice (some ⟨gg,0,none⟩) (s+1) cap2) (s+1) (fun i=>if i=s then x else f i)∧Boxed w w2 w.heap.size nv rv m):=⟨OwnF.more hown,hb5.below lQ hB⟩
    go_wp2;go_roundg (n-(s+1))
    case measure=>rw[HA.out.1];omega
    case rel=>exact⟨s+1,_,rfl,by omega,by go_num,O2.out.1,O2.out.2⟩
  ·have hse:s=n:=by omega
   have i1:(n:Int)<=(s:Int):=by omega
   subst hse;go_wp2;go_ret;exact⟨_,_,rfl,Row.mono HA.out.2.1 (Nat.le_succ _),HA.out.2.2.keep⟩
section
variable {w w' w2:World} {nv rv ev ov kv:Value} {m:Sm} {n:Nat} {fe fo fk:Nat->Bool}
theorem zC0 {fn:Func}{t u v x:Tmp}(h:fn.results=#[.tmp t,.tmp u,.tmp v,.tmp x])(tmps:Array Value)(P:Program)(w:World):
  (results fn tmps).run P w=.ok (tuple #[tmps.getD t undef,tmps.getD u undef,tmps.getD v undef,tmps.getD x undef]) w:=by
 simp[results,h]
structure Ra (w w':World)(nv rv ev ov kv:Value)(m:Sm)(n:Nat)(fe fo fk:Nat->Bool):Prop where
 box:Boxed w w' w.heap.size nv rv m
 ends:BoolsAt w' (In w') ev n fe
 open_:BoolsAt w' (In w') ov n fo
 rounds:BoolsAt w' (In w') kv n fk
theorem Ra.grown (h:Ra w w' nv rv ev ov kv m n fe fo fk)(hk:Grew w' w2):Ra w w2 nv rv ev ov kv m n fe fo fk:=⟨h.box.grown hk,h.ends.grown hk,h.open_.grown hk,h.rounds.grown hk⟩
theorem Ra.drew (h:Ra w w' nv rv ev ov kv m n fe fo fk):Ra w w'.drew nv rv ev ov kv m n fe fo fk:=⟨h.box.drew,h.ends,h.open_,h.rounds⟩
theorem zDv (w:World)(nv rv:Value)(m:Sm)(hT:TblAt w nv rv m)(hm:m.Tbl)(st:Nat)(hst:m.start=(st:Int))(hs2:st<m.next.length):
  Calls prog 105 #[agg #[nv,rv,int i64 m.start]] w fun e w'=>∃a x y z:ByteArray,e=returned (tuple #[string a,string x,string y,string z])∧(a.size<=300∧x.size<=300∧y.size<=300∧z.size<=300)∧Grew w w':=by
 have h0:=Boxed.made w nv rv m;have h200:=hm.most;have h1:=hm.one;have HC1:Hid (∀w',Boxed w w' w.heap.size nv rv m->_):=fun w' h=>Boxed.tokens (w':=w') hT hm w.heap.size h;have HC2:Hid (∀w',Boxed w w' w.heap.size nv rv m->_):=fun w' h=>Boxed.living (w':=w') hT hm w.heap.size h;have HC3:Hid (∀(w':World) va vb fa fb,BoolsAt w' (In w') va m.next.length fa->BoolsAt w' (In w') vb m.next.length fb->Ca 143 #[va,vb] w' fun e w2=>∃u,e=returned u∧BoolsAt w2 (In w2) u m.next.length (qJ fa fb)∧Grew w' w2):=by
  intro w' va vb fa fb h1 h2;refine(zCj w' va vb m.next.length fa fb h1 h2 hm.most).mono ?_;rintro e w2 ⟨u,rfl,hu,hk⟩;exact⟨u,rfl,hu.at hm.one,hk⟩
 have HC4:Hid (∀w' ov fo,Boxed w w' w.heap.size nv rv m->BoolsAt w' (In w') ov m.next.length fo->Ca 145 #[agg #[nv,rv,int i64 m.start],ov] w' fun e w2=>∃u f,e=returned u∧BoolsAt w2 (In w2) u m.next.length f∧Boxed w w2 w.heap.size nv rv m∧Grew w' w2):=by
  intro w' ov fo h h2;refine(zEW w' nv rv ov m (hT.grown h.keep) hm fo h2).mono ?_;rintro e w2 ⟨u,f,rfl,hu,hk⟩;exact⟨u,f,rfl,hu.at hm.one,h.grown hk,hk⟩
 have HC5:Hid (∀w' s ov gv fo fg,s<m.next.length->Boxed w w' w.heap.size nv rv m->BoolsAt w' (In w') ov m.next.length fo->BoolsAt w' (In w') gv m.next.length fg->_):=fun w' s ov gv fo fg hs h hO hG=>Boxed.way (w':=w') (gv:=gv) hT hm w.heap.size s hs fo fg h hO hG;have HC6:Hid (∀w' s,Boxed w w' w.heap.size nv rv m->Ca 147 #[agg #[nv,rv,int i64 m.start],int i64 ((s:Nat):Int)] w' fun e w2=>∃z:ByteArray,e=returned (string z)∧z.size<=300∧Grew w' w2):=fun w' s h=>zCQ w' nv rv m (hT.grown h.keep) hm st hst hs2 s;have HC7:Hid (∀w' s,Boxed w w' w.heap.size nv rv m->_):=fun w' s h=>Boxed.only (w':=w') hT hm s w.heap.size h;clear hT hm hst hs2;generalize hn:m.next.length=n at *
 have HN:Hid (m.next.length=n):=hn;clear hn;go_enter func105,ntmps105
 refine wp_seq_k ?_;intro K0 hK0;have J:Hid (∀a w,_->K0 a w):=hK0;clear hK0;go_wp2_with fail;apply J.out;clear J;generalize w.alloc (.cells #[nv,rv,int i64 m.start] 127)=w1 at *;have y0:=h0.c0;have y1:=h0.c1;have y2:=h0.c2;have H0:Hid (Boxed w w1 w.heap.size nv rv m):=h0;clear h0;go_wp2_with (first|(go_at_call 140;refine(HC1.out _ H0.out).mono ?_;rintro e w2 ⟨ev,rfl,he,hb2,-⟩;obtain⟨be,oe,ce,hbe,rfl,-⟩:=id he;have z0:=hb2.c0;have z1:=hb2.c1;have z2:=hb2.c2)|(go_at_call 144;refine(HC2.out _ hb2).mono ?_;rintro e w3 ⟨lv,rfl,hl3,hb3,hk3⟩)|(go_at_call 143;refine(HC3.out _ _ _ _ _ hl3 (he.grown hk3)).mono ?_;rintro e w4 ⟨ov,rfl,hov,hk4⟩;have hb4:=hb3.grown hk4;have x0:=hb4.c0;have x1:=hb4.c1;have x2:=hb4.c2)|(go_at_call 145;refine(HC4.out _ _ _ hb4 hov).mono ?_;rintro e w5 ⟨kv,fk,rfl,hkv,hb5,hk5⟩))
 have RA:Hid (Ra w w5 nv rv (slice (some ⟨be,oe,none⟩) n ce) ov kv m n (tokF m) (qJ zBP (tokF m)) fk):=⟨hb5,((he.grown hk3).grown hk4).grown hk5,hov.grown hk5,hkv⟩
 clear z0 z1 z2 x0 x1 x2 y0 y1 y2 hb2 hb3 hb4 hb5 hk3 hk4 hk5 hl3 hov hkv he hbe;generalize qJ zBP (tokF m)=fo at *;generalize tokF m=fe at *;go_loopg [29] n (fun q i wr=>∃s:Nat,q=n-s∧s<=n∧i=int i64 (s:Int)∧Ra w wr nv rv (slice (some ⟨be,oe,none⟩) n ce) ov kv m n fe fo fk)
 case atStart=>exact⟨0,rfl,lX,rfl,RA.out⟩
 case round=>
  obtain⟨s,hgk,hs,rfl,hr⟩:=hrel;have HA:Hid (gk=n-s∧Ra w wr nv rv (slice (some ⟨be,oe,none⟩) n ce) ov kv m n fe fo fk):=⟨hgk,hr⟩
  by_cases hs2:s<n
  ·have i1:(s:Int)<(n:Int):=by omega
   have ye:wr.cell? ⟨be,oe+s,none⟩=some (bool (fe s)):=by
    obtain⟨b',o',c',_,hv,_,_,hc⟩:=hr.ends;injection hv with e1 _ _;injection e1 with e1;injection e1 with e1 e2;rw[e1,e2];exact hc s hs2
   have y0:=hr.box.c0;have y1:=hr.box.c1;have y2:=hr.box.c2;clear hgk hr;cases hf:fe s with
   |false=>
    rw[hf] at ye;clear hf;go_wp2_with fail;go_roundg (n-(s+1))
    case measure=>rw[HA.out.1];omega
    case rel=>exact⟨s+1,rfl,by omega,by go_num,HA.out.2⟩
   |true=>
    rw[hf] at ye;clear hf;go_wp2_with (first|(go_at_call 146;refine(HC5.out _ s _ _ _ _ hs2 HA.out.2.box HA.out.2.open_ HA.out.2.rounds).mono ?_;rintro e w6 ⟨x,at_,rfl,hx,ha1,ha2,hb6,hk6⟩;have z0:=hb6.c0;have z1:=hb6.c1;have z2:=hb6.c2;have R6:=HA.out.2.grown hk6)|(go_at_call 147;refine(HC6.out _ s hb6).mono ?_;rintro e w7 ⟨a,rfl,hz,hk7⟩))
    ·go_roundg (n-(s+1))
     case measure=>rw[HA.out.1];omega
     case rel=>exact⟨s+1,rfl,by omega,by go_num,R6⟩
    ·have hat:0<=at_:=by omega
     obtain⟨c,rfl⟩:∃c:Nat,at_=(c:Int):=⟨at_.toNat,by omega⟩
     have hcn:c<n:=by omega
     have R7:=R6.grown hk7;have H7:Hid (Ra w w7 nv rv (slice (some ⟨be,oe,none⟩) n ce) ov kv m n fe fo fk):=R7;have x0:=R7.box.c0;have x1:=R7.box.c1;have x2:=R7.box.c2;have hza:Hid (a.size<=300∧x.size<=300):=⟨hz,hx⟩
     clear z0 z1 z2 hk6 hk7 hb6 R6 R7 ye y0 y1 y2 hz hx ha1 ha2;go_region_held3 (fun w'=>w'.cell? ⟨w.heap.size,0,none⟩=some nv∧w'.cell? ⟨w.heap.size,1,none⟩=some rv∧w'.cell? ⟨w.heap.size,2,none⟩=some (int i64 m.start)) (first|exact⟨z0,z1,z2⟩|go_keep) (first|(go_at_call 148;refine(HC7.out _ c H7.out.drew.box).mono ?_;rintro e w8 ⟨uo,rfl,huo,hb8,hk8⟩;have R8:=H7.out.drew.grown hk8;have z0:=hb8.c0;have z1:=hb8.c1;have z2:=hb8.c2)|(go_at_call 146;refine(HC5.out _ c _ _ _ _ hcn R8.box R8.open_ huo).mono ?_;rintro e w9 ⟨y,a9,rfl,hy,-,-,hb9,hk9⟩;have z0:=hb9.c0;have z1:=hb9.c1;have z2:=hb9.c2))
     all_goals
      have R9:=R8.grown hk9;have H9:Hid (Ra w w9 nv rv (slice (some ⟨be,oe,none⟩) n ce) ov kv m n fe fo fk∧y.size<=300):=⟨R9,hy⟩
      clear hb8 hk8 hb9 hk9 huo R8 R9 hy;go_wp2_with (first|(go_at_call 146;refine(HC5.out _ c _ _ _ _ hcn H9.out.1.box H9.out.1.open_ H9.out.1.ends).mono ?_;rintro e w10 ⟨z,a10,rfl,hz,-,-,hb10,-⟩))
      (try simp only[Exit.inBlock,Exit.then])
      refine dZ (zC0 rfl _ _ _) rfl ?_;exact⟨_,_,_,_,rfl,⟨hza.out.1,hza.out.2,H9.out.2,hz⟩,hb10.keep⟩
  ·have i1:(n:Int)<=(s:Int):=by omega
   clear hgk hr;go_wp2_with fail
   (try simp only[Exit.inBlock,Exit.then])
   refine dZ (zC0 rfl _ _ _) rfl ?_;exact⟨_,_,_,_,rfl,⟨lX,lX,lX,lX⟩,HA.out.2.box.keep⟩
end
theorem FrontsAt.open_ {w:World}{H d:Nat}{v:Value}{m:Sm}(h:FrontsAt w H v d m)(hd:0<d)(hn:1<=m.next.length):∃g c,v=slice (some ⟨g,0,none⟩) d c∧g<w.heap.size∧∀i,i<d->∃u,w.cell? ⟨g,i,none⟩=some u∧BoolsAt w (In w) u m.next.length (xM m i):=by
 obtain⟨rv,h1,h2⟩:=h;have h1:Row w H 28 v d rv:=h1;obtain⟨g,cap,hv,g1,g2,g3,g4,g5,g6⟩:=h1.get hd;exact⟨g,cap,hv,g2,fun i hi=>⟨rv i,g5 i hi,(h2 i hi).at hn⟩⟩
theorem zJb (w:World)(nv rv fv:Value)(m:Sm)(hT:TblAt w nv rv m)(hm:m.Tbl)(st:Nat)(hst:m.start=(st:Int))(hs2:st<m.next.length)(G d:Nat)(hF:FrontsAt w G fv d m)(hd:d<=m.next.length):
  Calls prog 106 #[agg #[nv,rv,int i64 m.start],fv] w fun e w'=>∃a x:ByteArray,e=returned (tuple #[string a,string x])∧(a.size<=300∧x.size<=600)∧Grew w w':=by
 have h0:=Boxed.made w nv rv m;have h200:=hm.most;have h1:=hm.one;have HC1:Hid (∀w' v f,Boxed w w' w.heap.size nv rv m->BoolsAt w' (In w') v m.next.length f->Ca 141 #[agg #[nv,rv,int i64 m.start],v] w' fun e w2=>∃u,e=returned u∧BoolsAt w2 (In w2) u m.next.length (qE m f)∧Boxed w w2 w.heap.size nv rv m∧Grew w' w2):=by
  intro w' v f h hf;refine(zCm w' nv rv v m (hT.grown h.keep) hm f hf).mono ?_;rintro e w2 ⟨u,rfl,hu,hk⟩;exact⟨u,rfl,hu.at hm.one,h.grown hk,hk⟩
 have HC2:Hid (∀w' v f,BoolsAt w' (In w') v m.next.length f->_):=fun w' v f h=>zD9 w' v m.next.length f h hm.most
 have HC3:Hid (∀w' v f to,Boxed w w' w.heap.size nv rv m->BoolsAt w' (In w') v m.next.length f->Ca 149 #[agg #[nv,rv,int i64 m.start],v,int i64 to] w' fun e w2=>∃s b:Nat,s<m.next.length∧b<256∧e=returned (tuple #[int i64 s,int i64 b])∧Boxed w w2 w.heap.size nv rv m∧Grew w' w2):=by
  intro w' v f to h hf;refine(zFR w' nv rv v m (hT.grown h.keep) hm f hf to).mono ?_;rintro e w2 ⟨s,b,hs,hb,rfl,hk⟩;exact⟨s,b,hs,hb,rfl,h.grown hk,hk⟩
 have HC4:Hid (∀w' b,b<256->Boxed w w' w.heap.size nv rv m->Ca 150 #[int i64 ((b:Nat):Int)] w' fun e w2=>e=returned (string ⟨#[UInt8.ofNat b]⟩)∧Boxed w w2 w.heap.size nv rv m∧Grew w' w2):=by
  intro w' b hb h;refine(zCB w' b hb).mono ?_;rintro e w2 ⟨rfl,hk⟩;exact⟨rfl,h.grown hk,hk⟩
 have HC6:Hid (∀w' s,Boxed w w' w.heap.size nv rv m->Ca 147 #[agg #[nv,rv,int i64 m.start],int i64 ((s:Nat):Int)] w' fun e w2=>∃z:ByteArray,e=returned (string z)∧z.size<=300∧Grew w' w2):=fun w' s h=>zCQ w' nv rv m (hT.grown h.keep) hm st hst hs2 s;clear hT hm hst hs2;have hdI:(d:Int)<=200:=by omega
 by_cases hd0:0<d
 ·obtain⟨g,c,rfl,hg,hcl⟩:=hF.open_ hd0 h1
  have HF:=vl hcl;have e0:¬(d:Int)=0:=by omega
  obtain⟨ul,hul,hbl⟩:=hcl (d-1) (by omega);have ew:IntKind.i64.wrap ((d:Int)-1)=((d-1:Nat):Int):=by rw[zAL _ (by omega) (by omega)];omega
  have i2:((d-1:Nat):Int)<(d:Int):=by omega
  go_in;apply wp_cut;intro K0 J;go_wp2;apply J.out;generalize w.alloc (.cells #[nv,rv,int i64 m.start] 127)=w1 at *;have y0:=h0.c0;have y1:=h0.c1;have y2:=h0.c2;have yl:=zA hul hg h0.keep;have H0:Hid (Boxed w w1 w.heap.size nv rv m∧BoolsAt w1 (In w1) ul m.next.length (xM m (d-1))):=⟨h0,hbl.grown h0.keep⟩
  go_wp2;go_region_held3 (fun w'=>w'.cell? ⟨w.heap.size,0,none⟩=some nv∧w'.cell? ⟨w.heap.size,1,none⟩=some rv∧w'.cell? ⟨w.heap.size,2,none⟩=some (int i64 m.start)∧w'.cell? ⟨g,d-1,none⟩=some ul) (first|exact⟨z0,z1,z2,z3⟩|go_keep) (first|(go_at_call 141;refine(HC1.out _ _ _ H0.out.1.drew H0.out.2).mono ?_;rintro e w2 ⟨u,rfl,hu,hb2,hk2⟩;have z0:=hb2.c0;have z1:=hb2.c1;have z2:=hb2.c2;have z3:=zA (w:=w1.drew) yl (lZ hg H0.out.1.keep.size) hk2));have H2:Hid (Boxed w w2 w.heap.size nv rv m∧BoolsAt w2 (In w2) u m.next.length (qE m (xM m (d-1)))):=⟨hb2,hu⟩
  go_wp2_with (first|(go_at_call 142;refine(HC2.out _ _ _ H2.out.2).mono ?_;rintro e w3 ⟨rfl,rfl⟩))
  go_loopg [7,8,9] d (fun q at_ rest i wr=>∃(j:Nat) (x:Int) (z:ByteArray),q=j∧j<=d∧i=int i64 ((j:Int)-1)∧at_=int i64 x∧(j<d->∃s:Nat,x=(s:Int))∧rest=string z∧z.size+j<=d∧Boxed w wr w.heap.size nv rv m)
  case atStart=>exact⟨d,_,_,rfl,lQ,(by congr 1;omega),rfl,fun h=>absurd h (Nat.lt_irrefl _),rfl,by show 0+d<=d;omega,H2.out.1⟩
  case round=>
   obtain⟨j,x,z,hgk,hj,rfl,rfl,hx,rfl,hz,hbx⟩:=hrel;have HA:Hid (gk=j∧(j<d->∃s:Nat,x=(s:Int))∧Boxed w wr w.heap.size nv rv m):=⟨hgk,hx,hbx⟩
   cases j with
   |zero=>
    obtain⟨s,hs⟩:=hx hd0;subst hs;have y0:=hbx.c0;have y1:=hbx.c1;have y2:=hbx.c2;go_wp2_with (first|(go_at_call 147;refine(HC6.out _ s HA.out.2.2).mono ?_;rintro e w5 ⟨a,rfl,ha,hk5⟩;have hb5:=HA.out.2.2.grown hk5))
    go_ret2
    exact⟨_,_,rfl,⟨ha,by rw[ByteArray.size_append];omega⟩,hb5.keep⟩
   |succ k=>
    have hkd:k<d:=by omega
    have i3:(k:Int)<(d:Int):=by omega
    have i4:(0:Int)<=(k:Int):=by omega
    obtain⟨uk,huk,hbk⟩:=HF.out k hkd;have yk:=zA huk hg hbx.keep;have HBK:=vl <| hbk.grown hbx.keep;have y0:=hbx.c0;have y1:=hbx.c1;have y2:=hbx.c2;have hgr:=lZ hg hbx.keep.size;have e9:(((k+1:Nat):Int)-1)=(k:Int):=by omega
    rw[e9];go_wp2;go_region_held3 (fun w'=>w'.cell? ⟨w.heap.size,0,none⟩=some nv∧w'.cell? ⟨w.heap.size,1,none⟩=some rv∧w'.cell? ⟨w.heap.size,2,none⟩=some (int i64 m.start)∧w'.cell? ⟨g,k,none⟩=some uk) (first|exact⟨z0,z1,z2,z3⟩|go_keep) (first|(go_at_call 149;refine(HC3.out _ _ _ _ HA.out.2.2.drew HBK.out).mono ?_;rintro e w5 ⟨s,b,hs,hb,rfl,hb5,hk5⟩;have z0:=hb5.c0;have z1:=hb5.c1;have z2:=hb5.c2;have z3:=zA (w:=wr.drew) yk hgr hk5))
    all_goals
     have H5:=vl hb5;go_wp2_with (first|(go_at_call 150;refine(HC4.out _ b hb H5.out).mono ?_;rintro e w6 ⟨rfl,hb6,-⟩;have hsz:(⟨#[UInt8.ofNat b]⟩:ByteArray).size=1:=rfl))
     go_roundg k
     case measure=>rw[HA.out.1];omega
     case rel=>exact⟨k,_,_,rfl,by omega,rfl,rfl,fun _=>⟨s,rfl⟩,rfl,by rw[ByteArray.size_append];omega,hb6⟩
 ·have hdz:d=0:=by omega
  subst hdz;obtain⟨ao,cap,rfl⟩:∃ao cap,fv=slice ao 0 cap:=by
   obtain⟨r,hr,_⟩:=hF;exact zG hr
  go_in;go_wp2;go_ret2
  exact⟨_,_,rfl,⟨lX,lX⟩,h0.keep⟩
structure Zm (w:World)(r:Nat):Prop where
 lt:r<w.heap.size
 block:w.heap[r]? =some (.cells #[int i64 0,int i64 0,string ⟨#[]⟩,string ⟨#[]⟩,string ⟨#[]⟩,string ⟨#[]⟩,string ⟨#[]⟩] 139)
theorem Zm.grown {w w':World}{r:Nat}(h:Zm w r)(hk:Grew w w'):Zm w' r:=⟨lZ h.lt hk.size,(hk.block r h.lt (kJ h.lt)).trans h.block⟩
theorem Zm.cells {w:World}{r:Nat}(h:Zm w r):(w.cell? ⟨r,0,none⟩=some (int i64 0)∧w.cell? ⟨r,1,none⟩=some (int i64 0)∧w.cell? ⟨r,2,none⟩=some (string ⟨#[]⟩)∧w.cell? ⟨r,3,none⟩=some (string ⟨#[]⟩)∧w.cell? ⟨r,4,none⟩=some (string ⟨#[]⟩)∧w.cell? ⟨r,5,none⟩=some (string ⟨#[]⟩)∧w.cell? ⟨r,6,none⟩=some (string ⟨#[]⟩))∧(w.frozen? ⟨r,0,none⟩=false∧w.frozen? ⟨r,1,none⟩=false∧w.frozen? ⟨r,2,none⟩=false∧w.frozen? ⟨r,3,none⟩=false∧w.frozen? ⟨r,4,none⟩=false∧w.frozen? ⟨r,5,none⟩=false∧w.frozen? ⟨r,6,none⟩=false):=by
 refine⟨⟨?_,?_,?_,?_,?_,?_,?_⟩,?_,?_,?_,?_,?_,?_,?_⟩
 all_goals first|(unfold cell?;rw[h.block];rfl)|(unfold frozen?;rw[h.block];rfl)
theorem zEK (w:World)(nv rv:Value)(m:Sm)(hT:TblAt w nv rv m)(hm:m.Tbl)(st:Nat)(hst:m.start=(st:Int))(hs2:st<m.next.length):
  Calls prog 67 #[agg #[nv,rv,int i64 m.start]] w fun e w'=>∃a b x y z:ByteArray,e=returned (agg #[int i64 m.next.length,int i64 (yC m),string a,string b,string x,string y,string z])∧Grew w w':=by
 have h200:=hm.most;obtain⟨an,cn,rfl,_⟩:=id hT.next
 obtain⟨w1,hw1,H1⟩:∃w1,w1=(w.alloc (.cells #[slice an m.next.length cn,rv,int i64 m.start] 127)).alloc (.cells #[int i64 0,int i64 0,string ⟨#[]⟩,string ⟨#[]⟩,string ⟨#[]⟩,string ⟨#[]⟩,string ⟨#[]⟩] 139)∧Hid (Boxed w w1 w.heap.size (slice an m.next.length cn) rv m∧Zm w1 (w.heap.size+1)):=by
  have h0:=Boxed.made w (slice an m.next.length cn) rv m;refine⟨_,rfl,h0.grown (kZ _ _ lQ),⟨by simp,?_⟩⟩;have h:=gJ (w.alloc (.cells #[slice an m.next.length cn,rv,int i64 m.start] 127)) (.cells #[int i64 0,int i64 0,string ⟨#[]⟩,string ⟨#[]⟩,string ⟨#[]⟩,string ⟨#[]⟩,string ⟨#[]⟩] 139);simpa using h
 have HC1:Hid (∀w',Boxed w w' w.heap.size (slice an m.next.length cn) rv m->_):=fun w' h=>zFn w' _ rv m (hT.grown h.keep) hm;have HC2:Hid (∀w',Boxed w w' w.heap.size (slice an m.next.length cn) rv m->_):=fun w' h=>zDv w' _ rv m (hT.grown h.keep) hm st hst hs2;have HC3:Hid (∀w' fv G d,Boxed w w' w.heap.size (slice an m.next.length cn) rv m->FrontsAt w' G fv d m->d<=m.next.length->_):=fun w' fv G d h hF hd=>zJb w' _ rv fv m (hT.grown h.keep) hm st hst hs2 G d hF hd;clear hT hm hst hs2;go_in;apply wp_cut;intro K0 J;go_wp2;apply J.out;rw[<-hw1];clear hw1;have y0:=H1.out.1.c0;have y1:=H1.out.1.c1;have y2:=H1.out.1.c2;apply wp_cut;intro K1 HK1;go_wp2_with (first|(go_at_call 104;refine(HC1.out _ H1.out.1).mono ?_;rintro e w2 ⟨hk2,hh⟩;rcases hh with⟨hd,rfl⟩|⟨d,v,hd,hdn,rfl,hF⟩))
 ·apply HK1.out
  have hb2:=H1.out.1.grown hk2;have hz2:=H1.out.2.grown hk2;have y0:=hb2.c0;have y1:=hb2.c1;have y2:=hb2.c2;have H2:Hid (Boxed w w2 w.heap.size (slice an m.next.length cn) rv m∧Zm w2 (w.heap.size+1)∧yC m=-1):=⟨hb2,hz2,hd⟩
  go_wp2_with (first|(go_at_call 105;refine(HC2.out _ H2.out.1).mono ?_;rintro e w3 ⟨a,x,y,z,rfl,-,hk3⟩;obtain⟨⟨c0,c1,c2,c3,c4,c5,c6⟩,f0,f1,f2,f3,f4,f5,f6⟩:=(H2.out.2.1.grown hk3).cells;have q0:=(H2.out.1.grown hk3).c0;have H3:=vl <| (H2.out.1.grown hk3).keep))
  refine dZ (v:=agg #[int i64 m.next.length,int i64 (-1),string a,string ⟨#[]⟩,string x,string y,string z]) (by simp[results,results67,go_sem, *]) rfl ⟨a,⟨#[]⟩,x,y,z,by rw[H2.out.2.2],?_⟩;refine H3.out.trans ?_
  iterate 6 refine Keep.trans ?_ (zO _ _ _ _ (by omega))
  exact zO _ _ _ _ (by omega)
 ·apply HK1.out
  have hb2:=H1.out.1.grown hk2;have hz2:=H1.out.2.grown hk2;have y0:=hb2.c0;have y1:=hb2.c1;have y2:=hb2.c2;obtain⟨av,cv,rfl⟩:∃av cv,v=slice av d cv:=by
   obtain⟨r,hr,_⟩:=hF;exact zG hr
  have H2:Hid (Boxed w w2 w.heap.size (slice an m.next.length cn) rv m∧Zm w2 (w.heap.size+1)∧yC m=(d:Int)∧FrontsAt w2 w1.heap.size (slice av d cv) d m):=⟨hb2,hz2,hd,hF⟩
  go_wp2_with (first|(go_at_call 106;refine(HC3.out _ _ _ d H2.out.1 H2.out.2.2.2 hdn).mono ?_;rintro e w3 ⟨a,x,rfl,-,hk3⟩;obtain⟨⟨c0,c1,c2,c3,c4,c5,c6⟩,f0,f1,f2,f3,f4,f5,f6⟩:=(H2.out.2.1.grown hk3).cells;have q0:=(H2.out.1.grown hk3).c0;have H3:=vl <| (H2.out.1.grown hk3).keep))
  refine dZ (v:=agg #[int i64 m.next.length,int i64 (d:Int),string a,string x,string ⟨#[]⟩,string ⟨#[]⟩,string ⟨#[]⟩]) (by simp[results,results67,go_sem, *]) rfl ⟨a,x,⟨#[]⟩,⟨#[]⟩,⟨#[]⟩,by rw[H2.out.2.2.1],?_⟩;refine H3.out.trans ?_
  iterate 6 refine Keep.trans ?_ (zO _ _ _ _ (by omega))
  exact zO _ _ _ _ (by omega)
section
def OwnB (w:World)(H:Nat)(v:Value)(l:List Bool):Prop:=w.ownsRow H 4 1 v l.length (l.map fun x=>bool x)
theorem OwnB.form {w:World}{H:Nat}{v:Value}{l:List Bool}(h:OwnB w H v l):∃ao cap,v=slice ao l.length cap:=zG h
theorem OwnB.snoc {w:World}{H g cap:Nat}{l:List Bool}{x:Bool}(h:w.ownsRow H 4 1 (slice (some ⟨g,0,none⟩) (l.length+1) cap) (l.length+1) ((l.map fun x=>bool x)++[bool x])):OwnB w H (slice (some ⟨g,0,none⟩) (l.length+1) cap) (l++[x]):=by
 unfold OwnB;rw[kX,List.map_append];exact h
theorem zR {w1 w2:World}{o:Obj}{H e z m:Nat}{u v:Value}{ys:List Value}(hg:(w1.alloc o).grownBy w2 v.ownBlock)(h:w1.ownsRow H e z u m ys)(hne:∀g,u.ownBlock=some g->some g≠v.ownBlock):w2.ownsRow H e z u m ys:=
 zD h fun k _ h2 hk=>(hg.block k (by simp;omega) (hne k hk)).trans (lG _ _ _ h2)
theorem zX {w:World}{H e z m p i:Nat}{u x:Value}{ys:List Value}(h:w.ownsRow H e z u m ys)(hp:p<H):(w.setCell ⟨p,i,none⟩ x).ownsRow H e z u m ys:=
 zD h fun k h1 _ _=>lJ _ _ _ _ (by show k≠p;omega)
structure Rp (w wr:World)(mv sv ev:Value)(k:Nat)(xs:List Value)(sl el:List Bool)(a:Int):Prop where
 res:wr.heap[w.heap.size]? =some (.cells #[slice none 0 0,slice none 0 0,slice none 0 0,int i64 0,bool false,int i64 0] 30)
 blk:wr.heap[w.heap.size+1]? =some (.cells #[mv,sv,ev,int i64 a,bool false,int i64 0] 30)
 modes:wr.ownsRow (w.heap.size+2) 139 7 mv k xs
 shad:OwnB wr (w.heap.size+2) sv sl
 emp:OwnB wr (w.heap.size+2) ev el
 ne:∀g,sv.ownBlock=some g->some g≠ev.ownBlock
 keep:Grew w wr
 lt:w.heap.size+2<=wr.heap.size
section
variable {w wr w2:World} {mv sv ev:Value} {k:Nat} {xs:List Value} {sl el:List Bool} {a:Int}
theorem Rp.grown (h:Rp w wr mv sv ev k xs sl el a)(hk:Grew wr w2):Rp w w2 mv sv ev k xs sl el a:=by
 have:=h.lt;exact⟨(hk.block _ (by omega) (by omega)).trans h.res,(hk.block _ (by omega) (by omega)).trans h.blk,zK h.modes hk,zK h.shad hk,zK h.emp hk,h.ne,h.keep.trans (hk.lower (by omega) (by omega)),lY h.lt hk.size⟩
theorem Rp.drew (h:Rp w wr mv sv ev k xs sl el a):Rp w wr.drew mv sv ev k xs sl el a:=h.grown (Keep.drew _)
theorem Rp.cells (h:Rp w wr mv sv ev k xs sl el a):(wr.cell? ⟨w.heap.size+1,0,none⟩=some mv∧wr.cell? ⟨w.heap.size+1,1,none⟩=some sv∧wr.cell? ⟨w.heap.size+1,2,none⟩=some ev∧wr.cell? ⟨w.heap.size+1,3,none⟩=some (int i64 a)∧wr.cell? ⟨w.heap.size+1,4,none⟩=some (bool false)∧wr.cell? ⟨w.heap.size+1,5,none⟩=some (int i64 0))∧(∀i,wr.frozen? ⟨w.heap.size+1,i,none⟩=false):=by
 refine⟨⟨?_,?_,?_,?_,?_,?_⟩,fun i=>?_⟩
 all_goals first|(unfold cell?;rw[h.blk];rfl)|(unfold frozen?;rw[h.blk];simp[World.frozen?])
theorem Rp.modes_app {o:Obj}{g cap:Nat}{news:List Value}(h:Rp w wr mv sv ev k xs sl el a)(hown:w2.ownsRow (w.heap.size+2) 139 7 (slice (some ⟨g,0,none⟩) (k+1) cap) (k+1) (xs++news))(hg:(wr.alloc o).grownBy w2 mv.ownBlock):
  Rp w (w2.setCell ⟨w.heap.size+1,0,none⟩ (slice (some ⟨g,0,none⟩) (k+1) cap)) (slice (some ⟨g,0,none⟩) (k+1) cap) sv ev (k+1) (xs++news) sl el a:=by
 have hlt:=h.lt;have hbl:∀j,j<w.heap.size+2->w2.heap[j]? =wr.heap[j]? :=fun j hj=>(hg.block j (by simp;omega) fun e=>by have:=(h.modes.lt j e.symm).1;omega).trans (lG _ _ _ (by omega));have hb:=(hbl (w.heap.size+1) (by omega)).trans h.blk;refine⟨(lJ _ _ _ _ (by show w.heap.size≠w.heap.size+1;omega)).trans ((hbl _ (by omega)).trans h.res),?_,zX hown (by omega),zX (zR hg h.shad fun g hg=>xN h.shad h.modes (by decide) hg) (by omega),zX (zR hg h.emp fun g hg=>xN h.emp h.modes (by decide) hg) (by omega),h.ne,?_,?_⟩
 ·simp[setCell,lU,hb]
 ·exact(h.keep.trans ⟨hg.os,hg.output,lY (by simp) hg.size,fun j hj _=>hbl j (by omega)⟩).trans (zO _ _ _ _ (by omega))
 ·rw[zC];exact lY hlt (lY (by simp) hg.size)
theorem Rp.shad_app {o:Obj}{g cap:Nat}{x:Bool}(h:Rp w wr mv sv ev k xs sl el a)(hown:w2.ownsRow (w.heap.size+2) 4 1 (slice (some ⟨g,0,none⟩) (sl.length+1) cap) (sl.length+1) ((sl.map fun x=>bool x)++[bool x]))(hg:(wr.alloc o).grownBy w2 sv.ownBlock)(hat:sv.ownBlock=some g∨wr.heap.size<=g):
  Rp w (w2.setCell ⟨w.heap.size+1,1,none⟩ (slice (some ⟨g,0,none⟩) (sl.length+1) cap)) mv (slice (some ⟨g,0,none⟩) (sl.length+1) cap) ev k xs (sl++[x]) el a:=by
 have hlt:=h.lt;have hbl:∀j,j<w.heap.size+2->w2.heap[j]? =wr.heap[j]? :=fun j hj=>(hg.block j (by simp;omega) fun e=>by have:=(h.shad.lt j e.symm).1;omega).trans (lG _ _ _ (by omega));have hb:=(hbl (w.heap.size+1) (by omega)).trans h.blk;refine⟨(lJ _ _ _ _ (by show w.heap.size≠w.heap.size+1;omega)).trans ((hbl _ (by omega)).trans h.res),?_,zX (zR hg h.modes fun g hg=>xN h.modes h.shad (by decide) hg) (by omega),?_,zX (zR hg h.emp fun g hg e=>h.ne g e.symm hg.symm) (by omega),?_,?_,?_⟩
 ·simp[setCell,lU,hb]
 ·exact zX (OwnB.snoc hown) (by omega)
 ·intro g' hg' e
  have e1:g=g':=by simpa[Value.ownBlock] using hg'
  subst e1;rcases hat with ha|ha
  ·exact h.ne g ha e
  ·have:=(h.emp.lt g e.symm).2
   omega
 ·exact(h.keep.trans ⟨hg.os,hg.output,lY (by simp) hg.size,fun j hj _=>hbl j (by omega)⟩).trans (zO _ _ _ _ (by omega))
 ·rw[zC];exact lY hlt (lY (by simp) hg.size)
theorem Rp.emp_app {o:Obj}{g cap:Nat}{x:Bool}(h:Rp w wr mv sv ev k xs sl el a)(hown:w2.ownsRow (w.heap.size+2) 4 1 (slice (some ⟨g,0,none⟩) (el.length+1) cap) (el.length+1) ((el.map fun x=>bool x)++[bool x]))(hg:(wr.alloc o).grownBy w2 ev.ownBlock)(hat:ev.ownBlock=some g∨wr.heap.size<=g):
  Rp w (w2.setCell ⟨w.heap.size+1,2,none⟩ (slice (some ⟨g,0,none⟩) (el.length+1) cap)) mv sv (slice (some ⟨g,0,none⟩) (el.length+1) cap) k xs sl (el++[x]) a:=by
 have hlt:=h.lt;have hbl:∀j,j<w.heap.size+2->w2.heap[j]? =wr.heap[j]? :=fun j hj=>(hg.block j (by simp;omega) fun e=>by have:=(h.emp.lt j e.symm).1;omega).trans (lG _ _ _ (by omega));have hb:=(hbl (w.heap.size+1) (by omega)).trans h.blk;refine⟨(lJ _ _ _ _ (by show w.heap.size≠w.heap.size+1;omega)).trans ((hbl _ (by omega)).trans h.res),?_,zX (zR hg h.modes fun g hg=>xN h.modes h.emp (by decide) hg) (by omega),zX (zR hg h.shad fun g hg=>h.ne g hg) (by omega),?_,?_,?_,?_⟩
 ·simp[setCell,lU,hb]
 ·exact zX (OwnB.snoc hown) (by omega)
 ·intro g' hg' e
  have e1:g'=g:=by simpa[Value.ownBlock] using e
  subst e1;rcases hat with ha|ha
  ·exact h.ne g' hg' ha.symm
  ·have:=(h.shad.lt g' hg').2
   omega
 ·exact(h.keep.trans ⟨hg.os,hg.output,lY (by simp) hg.size,fun j hj _=>hbl j (by omega)⟩).trans (zO _ _ _ _ (by omega))
 ·rw[zC];exact lY hlt (lY (by simp) hg.size)
theorem Rp.ahead (h:Rp w wr mv sv ev k xs sl el a)(a':Int):Rp w (wr.setCell ⟨w.heap.size+1,3,none⟩ (int i64 a')) mv sv ev k xs sl el a':=by
 have hb:=h.blk;have:=h.lt;exact⟨(lJ _ _ _ _ (by show w.heap.size≠w.heap.size+1;omega)).trans h.res,by simp[setCell,lU,hb],zX h.modes (by omega),zX h.shad (by omega),zX h.emp (by omega),h.ne,h.keep.trans (zO _ _ _ _ (by omega)),by rw[zC];omega⟩
end
end
def Sm.none:Sm:=⟨[],[],0,[]⟩
def zAm (m:Sm)(k:Nat):List Bool:=(List.range k).map fun r=>!hasRuleB m ((r:Nat):Int)
def qD (ms:List Sm):Nat->List Bool
 |0=>[]
 |j+1=>qD ms j++zAm (ms.getD j ⟨[],[],0,[]⟩) (ms.getD j ⟨[],[],0,[]⟩).empty.length
def vV (ms:List Sm):Nat->List Bool
 |0=>[]
 |j+1=>vV ms j++(ms.getD j ⟨[],[],0,[]⟩).empty
def aheadTo (ms:List Sm):Nat->Int
 |0=>0
 |j+1=>yP (aheadTo ms j) (yC (ms.getD j ⟨[],[],0,[]⟩))
theorem zI4 (ms:List Sm)(j:Nat):(qD ms j).length=zT ms j:=by
 induction j with
 |zero=>rfl
 |succ j ih=>simp[qD,zT,ih,zAm]
theorem zLo (ms:List Sm)(j:Nat):(vV ms j).length=zT ms j:=by
 induction j with
 |zero=>rfl
 |succ j ih=>simp[vV,zT,ih]
theorem zJx (a b n:Int)(h:-1<=a∧a<=n)(h':-1<=b∧b<=n)(hn:-1<=n):-1<=yP a b∧yP a b<=n:=by
 unfold yP;split
 ·omega
 ·split <;> omega
theorem zFD (ms:List Sm)(h:ModesOk ms)(j:Nat)(hj:j<=ms.length):-1<=aheadTo ms j∧aheadTo ms j<=200:=by
 induction j with
 |zero=>exact⟨by show(-1:Int)<=0;omega,by show(0:Int)<=200;omega⟩
 |succ j ih=>
  have h1:=yZ ms (j+1) ms.length hj;have h2:=h.states;have h3:(ms.getD j ⟨[],[],0,[]⟩).next.length<=200:=by
   have:zE ms (j+1)=zE ms j+(ms.getD j ⟨[],[],0,[]⟩).next.length:=rfl
   omega
  have h4:=zNx (ms.getD j ⟨[],[],0,[]⟩);exact zJx _ _ 200 (ih (by omega)) ⟨h4.1,by omega⟩ (by omega)
theorem ModesOk.tbl {ms:List Sm}(h:ModesOk ms)(j:Nat)(hj:j<ms.length):(ms[j]).Tbl:=by
 have h1:=yZ ms (j+1) ms.length hj;have h2:=h.states;have e:ms.getD j ⟨[],[],0,[]⟩=ms[j]:=by rw[lW,lV hj];rfl
 have h3:zE ms (j+1)=zE ms j+ms[j].next.length:=by rw[<-e];rfl
 refine⟨h.states1 j hj,by omega,(h.rules j hj).1,fun i hi=>?_,fun i b hi hb=>?_⟩
 ·exact(h.wide j hj _ (zS _ i [] hi)).1
 ·exact(h.wide j hj _ (zS _ i [] hi)).2 b hb
section
attribute [local go_sem ↓] Go.wp_at_zero Go.wp_at_succ
theorem zMp:(prog.info? 139).map (fun i=>(i.zero,i.size,i.bytes))=some (some (agg #[int i64 0,int i64 0,string ⟨#[]⟩,string ⟨#[]⟩,string ⟨#[]⟩,string ⟨#[]⟩,string ⟨#[]⟩]),7,96):=by kernel_rfl
theorem zL1 (w:World):Rp w ((w.alloc (.cells #[slice none 0 0,slice none 0 0,slice none 0 0,int i64 0,bool false,int i64 0] 30)).alloc (.cells #[slice none 0 0,slice none 0 0,slice none 0 0,int i64 0,bool false,int i64 0] 30)) (slice none 0 0) (slice none 0 0) (slice none 0 0) 0 [] [] [] 0:=by
 have h1:=gJ w (.cells #[slice none 0 0,slice none 0 0,slice none 0 0,int i64 0,bool false,int i64 0] 30);refine⟨?_,?_,ownsRow_nil _ _ _ _,ownsRow_nil _ _ _ _,ownsRow_nil _ _ _ _,fun g h=>by simp[Value.ownBlock] at h,(kZ _ _ lQ).trans (kZ _ _ (by simp)),by simp⟩
 ·exact(lG _ _ _ (by simp)).trans h1
 ·have h2:=gJ (w.alloc (.cells #[slice none 0 0,slice none 0 0,slice none 0 0,int i64 0,bool false,int i64 0] 30)) (.cells #[slice none 0 0,slice none 0 0,slice none 0 0,int i64 0,bool false,int i64 0] 30)
  simpa using h2
theorem zBc (w:World)(l:List Value)(t:TypeId)(g:Nat)(hg:w.heap.size=g):∀j u,l[j]? =some u->(w.alloc (.cells l.toArray t)).cell? ((⟨g,0,none⟩:Addr).add j)=some u:=by
 intro j u hj;subst hg;rw[Addr.add_lit];unfold cell?;rw[gJ];simpa using hj
structure Mx (w:World)(q:Nat)(u0 u1 u3:Value)(m:Sm):Prop where
 blk:w.heap[q]? =some (.cells #[u0,u1,int i64 m.start,u3] 134)
 lt:q<w.heap.size
theorem Mx.cells {w:World}{q:Nat}{u0 u1 u3:Value}{m:Sm}(h:Mx w q u0 u1 u3 m):w.cell? ⟨q,0,none⟩=some u0∧w.cell? ⟨q,1,none⟩=some u1∧w.cell? ⟨q,2,none⟩=some (int i64 m.start)∧w.cell? ⟨q,3,none⟩=some u3:=by
 refine⟨?_,?_,?_,?_⟩ <;> ·unfold cell?;rw[h.blk];rfl
theorem Mx.grown {w w':World}{q:Nat}{u0 u1 u3:Value}{m:Sm}(h:Mx w q u0 u1 u3 m)(hk:Grew w w'):Mx w' q u0 u1 u3 m:=⟨(hk.block q h.lt (kJ h.lt)).trans h.blk,lZ h.lt hk.size⟩
theorem Mx.app {w w2:World}{o:Obj}{H e z n q i p:Nat}{v x u0 u1 u3:Value}{m:Sm}{xs:List Value}(h:Mx w q u0 u1 u3 m)(hv:w.ownsRow H e z v n xs)(he:e≠134)(hg:(w.alloc o).grownBy w2 v.ownBlock)(hp:q≠p):Mx (w2.setCell ⟨p,i,none⟩ x) q u0 u1 u3 m:=by
 have hl:=h.lt;refine⟨(lJ _ _ _ _ hp).trans ((hg.block q (by simp;omega) (zM hv h.blk he)).trans ((lG _ _ _ h.lt).trans h.blk)),?_⟩;rw[zC];exact lZ hl (lY (by simp) hg.size)
theorem zGO (w:World)(mv:Value)(ms:List Sm)(hM:ModesAt w (In w) mv ms)(hms:ModesOk ms)(kinds:Nat)(hk:kinds<=256)(force:Bool):
  Calls prog 46 #[mv,int i64 kinds,bool force] w fun e w'=>∃mo sh em,e=returned (agg #[mo,sh,em,int i64 (aheadTo ms ms.length),bool (!force&&xP (aheadTo ms ms.length) kinds),int i64 0])∧OwnB w' w.heap.size sh (qD ms ms.length)∧OwnB w' w.heap.size em (vV ms ms.length)∧Grew w w'∧∃a n c,mo=slice a n c:=by
 obtain⟨i0,hi0,hz0,hz1,hz2⟩:=info_parts zMp;obtain⟨ib,hib,hb0,hb1,hb2⟩:=info_parts qU;obtain⟨am,cm,rfl,hcm,hmm,hmc⟩:=hM;have h3:=hms.three;have HMC:Hid (∀i (hi:i<ms.length),∃b o u0 u1 u3,am=some ⟨b,o,none⟩∧In w b∧w.cell? ⟨b,o+i*4,none⟩=some u0∧w.cell? ⟨b,o+i*4+1,none⟩=some u1∧w.cell? ⟨b,o+i*4+2,none⟩=some (int i64 ms[i].start)∧w.cell? ⟨b,o+i*4+3,none⟩=some u3∧IntRows w (In w) u0 ms[i].next∧Ints w (In w) u1 ms[i].rules∧Bools w (In w) u3 ms[i].empty):=hmc;have HOK:Hid (ModesOk ms):=hms;have h0:=zL1 w;clear hmc hms;go_enter func46,ntmps46
 refine wp_seq_k ?_;intro K0 hK0;have J:Hid (∀a w,_->K0 a w):=hK0;clear hK0;go_wp2_with fail;apply J.out;clear J;refine wp_seq_k ?_;intro K0 hK0;have J:Hid (∀a w,_->K0 a w):=hK0;clear hK0;go_wp2_with fail;apply J.out;clear J;generalize (w.alloc (.cells #[slice none 0 0,slice none 0 0,slice none 0 0,int i64 0,bool false,int i64 0] 30)).alloc (.cells #[slice none 0 0,slice none 0 0,slice none 0 0,int i64 0,bool false,int i64 0] 30)=w1 at *;have H0:Hid (Rp w w1 (slice none 0 0) (slice none 0 0) (slice none 0 0) 0 [] [] [] 0):=h0;clear h0;go_wp2_with fail;go_loopg [16] ms.length (fun q i wr=>∃(j:Nat) (mv sv ev:Value) (xs:List Value),q=ms.length-j∧j<=ms.length∧i=int i64 (j:Int)∧Rp w wr mv sv ev j xs (qD ms j) (vV ms j) (aheadTo ms j))
 case atStart=>exact⟨0,_,_,_,_,rfl,lX,rfl,H0.out⟩
 case round=>
  obtain⟨j,mv,sv,ev,xs,hgk,hj,rfl,hR⟩:=hrel;have HA:Hid (gk=ms.length-j∧Rp w wr mv sv ev j xs (qD ms j) (vV ms j) (aheadTo ms j)):=⟨hgk,hR⟩
  by_cases hj2:j<ms.length
  ·have i1:(j:Int)<(ms.length:Int):=by omega
   obtain⟨b,o,u0,u1,u3,rfl,hb,c0,c1,c2,c3,d0,d1,d3⟩:=HMC.out j hj2;obtain⟨an,cn,rfl,-⟩:=id d0;obtain⟨ar,cr,rfl,-⟩:=id d1;have y0:=zA c0 hb hR.keep;have y1:=zA c1 hb hR.keep;have y2:=zA c2 hb hR.keep;have y3:=zA c3 hb hR.keep;obtain⟨m,hm⟩:∃m,m=ms[j]:=⟨_,rfl⟩
   rw[<-hm] at y0 y1 y2 d0 d1 d3;have HT:Hid (TblAt w (slice an m.next.length cn) (slice ar m.rules.length cr) m∧m.Tbl∧Bools w (In w) u3 m.empty∧0<=m.start∧m.start<m.next.length∧m=ms[j]∧ms.getD j ⟨[],[],0,[]⟩=m):=⟨⟨d0,d1⟩,by rw[hm];exact HOK.out.tbl j hj2,d3,by rw[hm];exact(HOK.out.start j hj2).1,by rw[hm];exact(HOK.out.start j hj2).2,hm,by rw[hm,lW,lV hj2];rfl⟩
   clear c0 c1 c2 c3 d0 d1 d3 hm hgk hR;refine wp_seq_k ?_;intro K0 hK0;have J:Hid (∀a w,_->K0 a w):=hK0;clear hK0;go_wp2_with fail;apply J.out;clear J;obtain⟨st,hst⟩:∃st:Nat,m.start=(st:Int):=⟨m.start.toNat,by have:=HT.out.2.2.2.1;omega⟩
   have HS:Hid (m.start=(st:Int)∧st<m.next.length):=⟨hst,by have:=HT.out.2.2.2.2.1;omega⟩
   clear hst;obtain⟨ae,ce,rfl,he1,he2,he3⟩:=HT.out.2.2.1;have HE:Hid (∀i,i<m.empty.length->∃b o,ae=some ⟨b,o,none⟩∧In w b∧w.cell? ⟨b,o+i,none⟩=some (bool (m.empty.getD i false))):=he3;clear he3;have HTM:Hid (∀w',Grew w w'->Ca 67 #[agg #[slice an m.next.length cn,slice ar m.rules.length cr,int i64 m.start]] w' fun e w2=>∃a b x y z:ByteArray,e=returned (agg #[int i64 m.next.length,int i64 (yC m),string a,string b,string x,string y,string z])∧Grew w' w2):=fun w' hk=>zEK w' _ _ m (HT.out.1.grown hk) HT.out.2.1 st HS.out.1 HS.out.2;obtain⟨amv,cmv,hmv⟩:=zG HA.out.2.modes;subst hmv;have hlr:=HA.out.2.lt;have HNM:Hid (∀w5:World,Keep (wr.alloc (.cells #[slice an m.next.length cn,slice ar m.rules.length cr,int i64 m.start,slice ae m.empty.length ce] 134)).heap.size (wr.alloc (.cells #[slice an m.next.length cn,slice ar m.rules.length cr,int i64 m.start,slice ae m.empty.length ce] 134)).heap.size (wr.alloc (.cells #[slice an m.next.length cn,slice ar m.rules.length cr,int i64 m.start,slice ae m.empty.length ce] 134)) w5->some w5.heap.size≠Value.ownBlock (slice amv j cmv)):=fun w5 h e=>by
    have h1:=(HA.out.2.modes.lt _ e.symm).2;have h2:=h.size;simp at h2;omega
   go_wp2_with (first|(go_at_call 67;refine(HTM.out _ (HA.out.2.keep.trans (kZ _ _ (by omega)))).mono ?_;rintro e w5 ⟨a,b',x,y,z,rfl,hk5⟩;have R5:Rp w (w5.alloc (.cells #[int i64 m.next.length,int i64 (yC m),string a,string b',string x,string y,string z] 139)) (slice amv j cmv) sv ev j xs (qD ms j) (vV ms j) (aheadTo ms j):=((HA.out.2.grown (kZ _ _ lQ)).grown hk5).grown (kZ _ _ lQ);obtain⟨⟨r0,r1,r2,r3,r4,r5⟩,rf⟩:=R5.cells;clear r1 r2 r3 r4 r5 rf;have hl5:w.heap.size+2<=w5.heap.size:=lY (by simp;omega) hk5.size;have M5:Mx w5 wr.heap.size (slice an m.next.length cn) (slice ar m.rules.length cr) (slice ae m.empty.length ce) m:=Mx.grown ⟨gJ wr _,by simp⟩ hk5)|(at_builtin;refine wpList_append_lies _ rfl _ _ 27 rfl (w.heap.size+2) 139 i0 (agg #[int i64 0,int i64 0,string ⟨#[]⟩,string ⟨#[]⟩,string ⟨#[]⟩,string ⟨#[]⟩,string ⟨#[]⟩]) 7 96 underlying27 hi0 hz0 hz1 hz2 rfl (by decide) _ _ _ rfl (R5.modes.alloc _) ⟨w5.heap.size+1,0,none⟩ 1 1 [int i64 m.next.length,int i64 (yC m),string a,string b',string x,string y,string z] rfl rfl (zBc _ [int i64 m.next.length,int i64 (yC m),string a,string b',string x,string y,string z] _ _ (by simp)) (by intro u hu;simp at hu;rcases hu with rfl|rfl|rfl|rfl|rfl|rfl|rfl <;> rfl) (by decide) (by unfold maxLen;omega) (by omega) (by simp;omega) _ rfl ?_;intro gg cap w7 hown hgrow hat hlt2;have hbR:w7.heap[w.heap.size+1]? =(w5.alloc (.cells #[int i64 m.next.length,int i64 (yC m),string a,string b',string x,string y,string z] 139)).heap[w.heap.size+1]? :=(hgrow.block _ (by simp;omega) (fun e=>by have:=(R5.modes.lt _ e.symm).1;omega)).trans (lG _ _ _ (by simp;omega));have s0:w7.cell? ⟨w.heap.size+1,0,none⟩=some (slice amv j cmv):=(gG hbR).trans r0;have f0:w7.frozen? ⟨w.heap.size+1,0,none⟩=false:=(dQ hbR).trans (R5.cells.2 0);have R8:=Rp.modes_app R5 hown hgrow;have M8:=Mx.app (p:=w.heap.size+1) (i:=0) (x:=slice (some ⟨gg,0,none⟩) (j+1) cap) (M5.grown (kZ _ (.cells #[int i64 m.next.length,int i64 (yC m),string a,string b',string x,string y,string z] 139) lQ)) R5.modes (by decide) hgrow (by omega);have t3:(w7.setCell ⟨w.heap.size+1,0,none⟩ (slice (some ⟨gg,0,none⟩) (j+1) cap)).cell? ⟨w.heap.size+1,3,none⟩=some (int i64 (aheadTo ms j)):=R8.cells.1.2.2.2.1;have f3:(w7.setCell ⟨w.heap.size+1,0,none⟩ (slice (some ⟨gg,0,none⟩) (j+1) cap)).frozen? ⟨w.heap.size+1,3,none⟩=false:=R8.cells.2 3;have hbM:(w7.setCell ⟨w.heap.size+1,0,none⟩ (slice (some ⟨gg,0,none⟩) (j+1) cap)).heap[w5.heap.size]? =(w5.alloc (.cells #[int i64 m.next.length,int i64 (yC m),string a,string b',string x,string y,string z] 139)).heap[w5.heap.size]? :=(lJ _ _ _ _ (by show w5.heap.size≠w.heap.size+1;omega)).trans ((hgrow.block _ (by simp;omega) (HNM.out w5 hk5)).trans (lG _ _ _ (by simp)));have t1:(w7.setCell ⟨w.heap.size+1,0,none⟩ (slice (some ⟨gg,0,none⟩) (j+1) cap)).cell? ⟨w5.heap.size,1,none⟩=some (int i64 (yC m)):=(gG hbM).trans (by unfold cell?;rw[gJ];rfl);have M9:((w7.setCell ⟨w.heap.size+1,0,none⟩ (slice (some ⟨gg,0,none⟩) (j+1) cap)).setCell ⟨w.heap.size+1,3,none⟩ (int i64 (yP (aheadTo ms j) (yC m)))).cell? ⟨wr.heap.size,3,none⟩=some (slice ae m.empty.length ce):=(gG (lJ _ _ _ _ (by show wr.heap.size≠w.heap.size+1;omega))).trans M8.cells.2.2.2)|(go_at_call 68;refine(zHa _ (aheadTo ms j) (yC m)).mono ?_;rintro e w9 ⟨rfl,rfl⟩))
   have A9:∃mv2 xs2 w9,w9=((w7.setCell ⟨w.heap.size+1,0,none⟩ (slice (some ⟨gg,0,none⟩) (j+1) cap)).setCell ⟨w.heap.size+1,3,none⟩ (int i64 (yP (aheadTo ms j) (yC m))))∧Hid (Rp w w9 mv2 sv ev (j+1) xs2 (qD ms j) (vV ms j) (aheadTo ms (j+1))∧Mx w9 wr.heap.size (slice an m.next.length cn) (slice ar m.rules.length cr) (slice ae m.empty.length ce) m):=by
    have e:aheadTo ms (j+1)=yP (aheadTo ms j) (yC m):=by rw[<-HT.out.2.2.2.2.2.2];rfl
    rw[e];exact⟨_,_,_,rfl,R8.ahead _,⟨(lJ _ _ _ _ (by show wr.heap.size≠w.heap.size+1;omega)).trans M8.blk,by rw[zC];exact M8.lt⟩⟩
   obtain⟨mv2,xs2,w9,hw9,A9⟩:=A9;rw[<-hw9];clear hw9 M9 t1 hbM f3 t3 M8 R8 f0 s0 hbR hown hgrow hat M5 R5 r0 y0 y1 y2 y3;have hrl:zT ms (j+1)=zT ms j+m.empty.length:=by rw[<-HT.out.2.2.2.2.2.2];rfl
   have hr8:zT ms j+m.empty.length<=8:=by
    have h1:=zBk ms (j+1) ms.length hj2;have h2:=HOK.out.rules8;omega
   have HSL:Hid ((qD ms j).length=zT ms j∧(vV ms j).length=zT ms j):=⟨zI4 ms j,zLo ms j⟩
   clear hrl HNM HTM hk5 hl5;have hq1:w.heap.size+1≠wr.heap.size:=by omega
   generalize hqb:wr.heap.size=qb at *;clear hqb;go_loopg [38] m.empty.length (fun q i wt=>∃(k:Nat) (sv ev:Value),q=m.empty.length-k∧k<=m.empty.length∧i=int i64 (k:Int)∧Rp w wt mv2 sv ev (j+1) xs2 (qD ms j++zAm m k) (vV ms j++m.empty.take k) (aheadTo ms (j+1))∧Mx wt qb (slice an m.next.length cn) (slice ar m.rules.length cr) (slice ae m.empty.length ce) m)
   case atStart=>exact⟨0,sv,ev,rfl,lX,rfl,by rw[zAm,List.take_zero];simpa using A9.out.1,A9.out.2⟩
   case round=>
    obtain⟨k,sv,ev,hgk,hk2,rfl,hR,hM⟩:=hrel;have HB:Hid (gk=m.empty.length-k∧Rp w wr mv2 sv ev (j+1) xs2 (qD ms j++zAm m k) (vV ms j++m.empty.take k) (aheadTo ms (j+1))∧Mx wr qb (slice an m.next.length cn) (slice ar m.rules.length cr) (slice ae m.empty.length ce) m):=⟨hgk,hR,hM⟩
    by_cases hk3:k<m.empty.length
    ·have i2:(k:Int)<(m.empty.length:Int):=by omega
     obtain⟨be,oe,rfl,hbe,hce⟩:=HE.out k hk3;have ye:wr.cell? ⟨be,oe+k,none⟩=some (bool (m.empty.getD k false)):=zA hce hbe hR.keep;obtain⟨ek,hek⟩:∃ek,m.empty.getD k false=ek:=⟨_,rfl⟩
     rw[hek] at ye;have HEK:Hid (m.empty.getD k false=ek):=hek;clear hek;obtain⟨q0,q1,q2,q3⟩:=hM.cells;obtain⟨⟨r0,r1,r2,r3,r4,r5⟩,rf⟩:=hR.cells;obtain⟨as_,cs,hsv⟩:=hR.shad.form;obtain⟨ae2,ce2,hev⟩:=hR.emp.form;have hls:(qD ms j++zAm m k).length=zT ms j+k:=by rw[kX,HSL.out.1];simp[zAm]
     have hle:(vV ms j++m.empty.take k).length=zT ms j+k:=by rw[kX,HSL.out.2,List.length_take];omega
     rw[hls] at hsv;rw[hle] at hev;subst hsv hev;generalize hns:zT ms j+k=ns at *;have hn8:ns<=8:=by omega
     generalize hsl:qD ms j++zAm m k=sl at *;generalize hel:vV ms j++m.empty.take k=el at *;have HLL:Hid (sl.length=ns∧el.length=ns∧qD ms j++zAm m k=sl∧vV ms j++m.empty.take k=el):=⟨hls,hle,hsl,hel⟩
     clear hsl hel hls hle hns;have HHR:Hid (∀w',Grew w w'->Ca 69 #[agg #[slice an m.next.length cn,slice ar m.rules.length cr,int i64 m.start],int i64 ((k:Nat):Int)] w' fun e w2=>e=returned (bool (hasRuleB m k))∧Grew w' w2):=fun w' hk=>zFX w' _ _ m (HT.out.1.grown hk) HT.out.2.1 k;have f1:=rf 1;have hlr:=hR.lt;clear r0 r3 r4 r5 r2 q3 rf hgk hce;clear hR hM;have HB2:Hid (∀w5,Grew wr.drew w5->Rp w w5 mv2 (slice as_ ns cs) (slice ae2 ns ce2) (j+1) xs2 sl el (aheadTo ms (j+1))∧Mx w5 qb (slice an m.next.length cn) (slice ar m.rules.length cr) (slice (some ⟨be,oe,none⟩) m.empty.length ce) m∧w5.ownsRow (w.heap.size+2) 4 1 (slice as_ ns cs) ns (sl.map fun x=>bool x)∧wr.heap.size<=w5.heap.size):=by
      intro w5 h;have h':=HB.out.2.1.drew.grown h;refine⟨h',(HB.out.2.2.grown (Keep.drew _)).grown h,?_,h.size⟩;have h2:=h'.shad;unfold OwnB at h2;rw[HLL.out.1] at h2;exact h2
     go_wp2_with fail;go_region_law ((first
      |(refine step_append_lies _ (by rfl) (.tmp 44) (.tmp 50) 28 (by rfl) (w.heap.size+2) 4 ib _ 1 1 underlying28 hib hb0 hb1 hb2 rfl (by decide) (slice as_ ns cs) ns (sl.map fun x=>bool x) (by simp[Act.eval,Act.put]) (O5.alloc _) ⟨w5.heap.size,0,none⟩ 1 1 [bool (!hasRuleB m k)] (by simp[Act.eval,Act.put]) (by rfl) (news_of_block (cs:=#[bool (!hasRuleB m k)]) (t:=4) (fr:=(0,0)) (gJ w5 _)) (by simp[Value.oneCell']) (by decide) (by unfold maxLen;omega) (by omega) (by simp;omega) (w5.heap.size+1) (by simp) ?_;intro gg cap2 w6 hown hgrow hat hlt;have hPB:w6.heap[w.heap.size+1]? =w5.heap[w.heap.size+1]? :=(hgrow.block _ (by simp;omega) (fun e=>by have:=(O5.lt _ e.symm).1;omega)).trans (lG _ _ _ (by omega));have t1:w6.cell? ⟨w.heap.size+1,1,none⟩=some (slice as_ ns cs):=(gG hPB).trans R5.cells.1.2.1;have t2:w6.frozen? ⟨w.heap.size+1,1,none⟩=false:=(dQ hPB).trans (R5.cells.2 1))
      |(go_simp;go_at_call 69;refine(HHR.out _ (HB.out.2.1.keep.trans (Keep.drew _))).mono ?_;rintro e w5 ⟨rfl,hk5⟩;obtain⟨R5,M5,O5,hs5⟩:=HB2.out w5 hk5;have p1:w5.cell? ⟨w.heap.size+1,1,none⟩=some (slice as_ ns cs):=R5.cells.1.2.1;have hl5:w.heap.size+2<=w5.heap.size:=R5.lt;have p2:(w5.alloc (.cells #[bool (!hasRuleB m k)] 4)).cell? ⟨w.heap.size+1,1,none⟩=some (slice as_ ns cs):=(dX _ _ _ (by show w.heap.size+1<w5.heap.size;omega)).trans p1)))
     all_goals
      obtain⟨sv3,w7,hw7,hsv3,A7⟩:∃sv3 w7,w7=w6.setCell ⟨w.heap.size+1,1,none⟩ (slice (some ⟨gg,0,none⟩) (ns+1) cap2)∧sv3=slice (some ⟨gg,0,none⟩) (ns+1) cap2∧Hid (Rp w w7 mv2 sv3 (slice ae2 ns ce2) (j+1) xs2 (sl++[!hasRuleB m k]) el (aheadTo ms (j+1))∧Mx w7 qb (slice an m.next.length cn) (slice ar m.rules.length cr) (slice (some ⟨be,oe,none⟩) m.empty.length ce) m):=by
       refine⟨_,_,rfl,rfl,?_,Mx.app M5 O5 (by decide) hgrow (Ne.symm hq1)⟩;have hown2:=hown;rw[<-HLL.out.1] at hown2;have h:=Rp.shad_app R5 hown2 hgrow (by
        rcases hat with ha|ha
        ·exact .inl ha
        ·right;rw[ha];omega)
       rw[HLL.out.1] at h;exact h
      rw[<-hw7];clear hw7 hown hgrow hat hPB t1 t2 p1 p2 O5 M5 R5 hk5 r1 q0 q1 q2 f1 ye;have hl7:=A7.out.1.lt;have s2:w7.cell? ⟨w.heap.size+1,2,none⟩=some (slice ae2 ns ce2):=A7.out.1.cells.1.2.2.1;have O7:w7.ownsRow (w.heap.size+2) 4 1 (slice ae2 ns ce2) ns (el.map fun x=>bool x):=by
       have h:=A7.out.1.emp;unfold OwnB at h;rw[HLL.out.2.1] at h;exact h
      go_wp2_with (first|(at_builtin;refine wpList_append_lies _ rfl _ _ 28 rfl (w.heap.size+2) 4 ib (bool false) 1 1 underlying28 hib hb0 hb1 hb2 rfl (by decide) _ _ _ rfl (O7.alloc _) ⟨w7.heap.size,0,none⟩ 1 1 [bool ek] rfl rfl (cell_one_new _ _ _) (by intro u hu;simp at hu;subst hu;rfl) (by decide) (by unfold maxLen;omega) (by omega) (by simp;omega) _ rfl ?_;intro g2 cap3 w8 hown hgrow hat hlt2;have hPB:w8.heap[w.heap.size+1]? =w7.heap[w.heap.size+1]? :=(hgrow.block _ (by simp;omega) (fun e=>by have:=(O7.lt _ e.symm).1;omega)).trans (lG _ _ _ (by omega));have t1:w8.cell? ⟨w.heap.size+1,2,none⟩=some (slice ae2 ns ce2):=(gG hPB).trans A7.out.1.cells.1.2.2.1;have t2:w8.frozen? ⟨w.heap.size+1,2,none⟩=false:=(dQ hPB).trans (A7.out.1.cells.2 2)))
      obtain⟨ev3,w9,hw9,A9⟩:∃ev3 w9,w9=w8.setCell ⟨w.heap.size+1,2,none⟩ (slice (some ⟨g2,0,none⟩) (ns+1) cap3)∧Hid (Rp w w9 mv2 sv3 ev3 (j+1) xs2 (sl++[!hasRuleB m k]) (el++[ek]) (aheadTo ms (j+1))∧Mx w9 qb (slice an m.next.length cn) (slice ar m.rules.length cr) (slice (some ⟨be,oe,none⟩) m.empty.length ce) m):=by
       refine⟨slice (some ⟨g2,0,none⟩) (ns+1) cap3,_,rfl,?_,Mx.app A7.out.2 O7 (by decide) hgrow (Ne.symm hq1)⟩;have hown2:=hown;rw[<-HLL.out.2.1] at hown2;have h:=Rp.emp_app A7.out.1 hown2 hgrow (by
        rcases hat with ha|ha
        ·exact .inl ha
        ·right;rw[ha];simp)
       rw[HLL.out.2.1] at h;exact h
      rw[<-hw9];clear hw9 hown hgrow hat hPB t1 t2 O7 s2;go_roundg (m.empty.length-(k+1))
      case measure=>rw[HB.out.1];omega
      case rel=>
       refine⟨k+1,sv3,ev3,rfl,by omega,by go_num,?_,A9.out.2⟩;have e1:qD ms j++zAm m (k+1)=sl++[!hasRuleB m k]:=by
        rw[<-HLL.out.2.2.1];simp[zAm,List.range_succ]
       have e2:vV ms j++m.empty.take (k+1)=el++[ek]:=by
        rw[<-HLL.out.2.2.2,<-HEK.out,gV,List.take_add_one,lW,lV hk3];rfl
       rw[e1,e2];exact A9.out.1
    ·have hke:k=m.empty.length:=by omega
     have i2:(m.empty.length:Int)<=(k:Int):=by omega
     have HZ:Hid (Rp w wr mv2 sv ev (j+1) xs2 (qD ms (j+1)) (vV ms (j+1)) (aheadTo ms (j+1))):=by
      have h:=hR;rw[hke,List.take_length] at h;have e1:qD ms (j+1)=qD ms j++zAm m m.empty.length:=by rw[<-HT.out.2.2.2.2.2.2];rfl
      have e2:vV ms (j+1)=vV ms j++m.empty:=by rw[<-HT.out.2.2.2.2.2.2];rfl
      show Rp _ _ _ _ _ _ _ _ _ _;rw[e1,e2];exact h
     clear hgk hR hM hke;go_wp2_with fail;go_roundg (ms.length-(j+1))
     case measure=>rw[HA.out.1];omega
     case rel=>exact⟨j+1,_,_,_,_,rfl,by omega,by go_num,HZ.out⟩
  ·have hje:j=ms.length:=by omega
   have i1:(ms.length:Int)<=(j:Int):=by omega
   have HZ:Hid (Rp w wr mv sv ev j xs (qD ms ms.length) (vV ms ms.length) (aheadTo ms ms.length)):=by
    have h:=hR;show Rp _ _ _ _ _ _ _ _ _ _;rw[<-hje];exact h
   have hal:=zFD ms HOK.out ms.length lQ;have HIS:Hid (∀w',Ca 70 #[int i64 (aheadTo ms ms.length),int i64 ((kinds:Nat):Int)] w' fun e w2=>e=returned (bool (xP (aheadTo ms ms.length) kinds))∧w2=w'):=fun w'=>zFf w' _ kinds hk (by omega);obtain⟨⟨r0,r1,r2,r3,r4,r5⟩,rf⟩:=HZ.out.cells;have f4:=rf 4;obtain⟨a0,k0,rfl⟩:=zG HZ.out.modes;obtain⟨a1,k1,rfl⟩:=HZ.out.shad.form;obtain⟨a2,k2,rfl⟩:=HZ.out.emp.form;have hres:=HZ.out.res;have x0:wr.cell? ⟨w.heap.size,0,none⟩=some (slice none 0 0):=by unfold cell?;rw[hres];rfl
   have x1:wr.cell? ⟨w.heap.size,1,none⟩=some (slice none 0 0):=by unfold cell?;rw[hres];rfl
   have x2:wr.cell? ⟨w.heap.size,2,none⟩=some (slice none 0 0):=by unfold cell?;rw[hres];rfl
   have x3:wr.cell? ⟨w.heap.size,3,none⟩=some (int i64 0):=by unfold cell?;rw[hres];rfl
   have x4:wr.cell? ⟨w.heap.size,4,none⟩=some (bool false):=by unfold cell?;rw[hres];rfl
   have x5:wr.cell? ⟨w.heap.size,5,none⟩=some (int i64 0):=by unfold cell?;rw[hres];rfl
   have xf:∀i,wr.frozen? ⟨w.heap.size,i,none⟩=false:=fun i=>by unfold frozen?;rw[hres];simp
   have xf0:=xf 0;have xf1:=xf 1;have xf2:=xf 2;have xf3:=xf 3;have xf4:=xf 4;have xf5:=xf 5;clear hgk hR hje rf xf hres;obtain⟨A,hA⟩:∃A,aheadTo ms ms.length=A:=⟨_,rfl⟩
   rw[hA] at r3 HIS HZ hal;have HAe:Hid (aheadTo ms ms.length=A):=hA;clear hA;cases force with
   |true=>
    go_wp2_with fail;refine dZ (v:=agg #[slice a0 j k0,slice a1 (qD ms ms.length).length k1,slice a2 (vV ms ms.length).length k2,int i64 A,bool false,int i64 0]) (by simp[results,results46,go_sem, *]) rfl ⟨_,_,_,by rw[HAe.out];rfl,?_,?_,?_,⟨_,_,_,rfl⟩⟩
    ·refine vF (H:=w.heap.size+2) ?_ (by omega)
     iterate 7 refine zX ?_ (by omega)
     exact HZ.out.shad
    ·refine vF (H:=w.heap.size+2) ?_ (by omega)
     iterate 7 refine zX ?_ (by omega)
     exact HZ.out.emp
    ·refine HZ.out.keep.trans ?_
     iterate 6 refine Keep.trans ?_ (zO _ _ _ _ (by omega))
     exact zO _ _ _ _ (by omega)
   |false=>
    go_wp2_with (first|(go_at_call 70;refine(HIS.out _).mono ?_;rintro e w9 ⟨rfl,rfl⟩))
    refine dZ (v:=agg #[slice a0 j k0,slice a1 (qD ms ms.length).length k1,slice a2 (vV ms ms.length).length k2,int i64 A,bool (xP A kinds),int i64 0]) (by simp[results,results46,go_sem, *]) rfl ⟨_,_,_,by rw[HAe.out];rfl,?_,?_,?_,⟨_,_,_,rfl⟩⟩
    ·refine vF (H:=w.heap.size+2) ?_ (by omega)
     iterate 7 refine zX ?_ (by omega)
     exact HZ.out.shad
    ·refine vF (H:=w.heap.size+2) ?_ (by omega)
     iterate 7 refine zX ?_ (by omega)
     exact HZ.out.emp
    ·refine HZ.out.keep.trans ?_
     iterate 6 refine Keep.trans ?_ (zO _ _ _ _ (by omega))
     exact zO _ _ _ _ (by omega)
end
theorem zDB (w:World)(H p:Nat)(c:Tc)(t:Tb)(hM:Mem w H p c t)(ok:t.OkN)(hn1:1<=t.nst)(hc1:1<=t.count)(a:Nat)(ha:a<=255)(hw:zF t.count a<=3000):
  Calls prog 47 #[pointer (some ⟨p,0,none⟩),int i64 a] w fun e w'=>e=returned (tuple #[])∧∃c',Mem w' H p c' ({t with stream:=true}.looking a)∧Keep w.heap.size p w w':=by
 have y0:=hM.tp.get_stream;have z0:=hM.tp.fz 0;have HM:Hid (Mem (w.setCell ⟨p,0,none⟩ (bool true)) H p {c with stream:=bool true} {t with stream:=true}):=hM.putStream true;have HC:=zBJ _ H p _ _ HM.out ⟨ok.1,ok.2,ok.3,ok.4⟩ hn1 hc1 a ha hw;clear hM;go_enter func47,ntmps47
 go_wp2_with (first|(go_at_call 66;refine HC.mono ?_;rintro e w2 ⟨rfl,c',hc,hk⟩))
 go_end0;exact⟨rfl,c',hc,(Keep.set _ _ _).trans (by rw[zC] at hk;exact hk)⟩
def zDH (n:Int):Bool:=decide (0<=n∧n<55296∨57343<n∧n<=1114111)
structure Cs where
 ranges:List (Int×Int)
 others:Bool
def Cs.lists (s:Cs)(c:Int):Bool:=s.ranges.any fun r=>decide (r.1<=c)&&decide (c<=r.2)
def Cs.has (s:Cs)(c:Int):Bool:=zDH c&&(s.lists c != s.others)
def RangesAt (w:World)(v:Value)(l:List (Int×Int)):Prop:=
 ∃ao cap,v=slice ao l.length cap∧l.length<=cap∧cap<=maxLen∧∀i,i<l.length->∃b o,ao=some ⟨b,o,none⟩∧In w b∧w.cell? ⟨b,o+i*2,none⟩=some (int i64 (l.getD i (0,0)).1)∧w.cell? ⟨b,o+i*2+1,none⟩=some (int i64 (l.getD i (0,0)).2)
theorem RangesAt.grown {w w':World}{v:Value}{l:List (Int×Int)}(h:RangesAt w v l)(hk:Grew w w'):RangesAt w' v l:=by
 obtain⟨ao,cap,hv,h1,h2,h3⟩:=h;refine⟨ao,cap,hv,h1,h2,fun i hi=>?_⟩;obtain⟨b,o,ha,hb,c0,c1⟩:=h3 i hi;exact⟨b,o,ha,lZ hb hk.size,zA c0 hb hk,zA c1 hb hk⟩
def SetsAt (w:World)(v:Value)(l:List Cs):Prop:=
 ∃ao cap,v=slice ao l.length cap∧l.length<=cap∧cap<=maxLen∧∀i,i<l.length->∃b o u,ao=some ⟨b,o,none⟩∧In w b∧w.cell? ⟨b,o+i*2,none⟩=some u∧w.cell? ⟨b,o+i*2+1,none⟩=some (bool (l.getD i ⟨[],false⟩).others)∧RangesAt w u (l.getD i ⟨[],false⟩).ranges
theorem SetsAt.grown {w w':World}{v:Value}{l:List Cs}(h:SetsAt w v l)(hk:Grew w w'):SetsAt w' v l:=by
 obtain⟨ao,cap,hv,h1,h2,h3⟩:=h;refine⟨ao,cap,hv,h1,h2,fun i hi=>?_⟩;obtain⟨b,o,u,ha,hb,c0,c1,hr⟩:=h3 i hi;exact⟨b,o,u,ha,lZ hb hk.size,zA c0 hb hk,zA c1 hb hk,hr.grown hk⟩
theorem zFe (w:World)(n:Int):
  Calls prog 191 #[int i64 n] w fun e w'=>e=returned (bool (zDH n))∧w'=w:=by
 by_cases h1:0<=n
 ·by_cases h2:n<55296
  ·have HV:Hid (zDH n=true):=by show _=_;unfold zDH;exact dW (by omega)
   go_in;go_wp2;go_ret;exact⟨by rw[HV.out];simp[h1,h2],rfl⟩
  ·by_cases h3:57343<n
   ·have HV:Hid (zDH n=decide (n<=1114111)):=by show _=_;unfold zDH;congr 1;exact propext (by omega)
    go_in;go_wp2;go_ret;exact⟨by rw[HV.out];simp[h1,h2,h3],rfl⟩
   ·have HV:Hid (zDH n=false):=by show _=_;unfold zDH;exact dY (by omega)
    go_in;go_wp2;go_ret;exact⟨by rw[HV.out];simp[h1,h2,h3],rfl⟩
 ·have h3:¬57343<n:=by omega
  have HV:Hid (zDH n=false):=by show _=_;unfold zDH;exact dY (by omega)
  go_in;go_wp2;go_ret;exact⟨by rw[HV.out];simp[h1,h3],rfl⟩
theorem zMO {α:Type}(l:List α)(p:α->Bool)(d:α)(i:Nat)(hi:i<l.length)(h:p (l.getD i d)=true):l.any p=true:=by
 rw[List.any_eq_true];exact⟨_,zS l i d hi,h⟩
theorem zIF {α:Type}(l:List α)(p:α->Bool)(d:α)(h:∀i,i<l.length->p (l.getD i d)=false):l.any p=false:=by
 rw[List.any_eq_false];intro x hx;obtain⟨i,hi,rfl⟩:=List.getElem_of_mem hx;have:=h i hi;rw[lW,lV hi] at this;simpa using this
theorem zIe (w:World)(rv:Value)(s:Cs)(hR:RangesAt w rv s.ranges)(hl:s.ranges.length<=1000000000000)(c:Int):
  Calls prog 192 #[agg #[rv,bool s.others],int i64 c] w fun e w'=>e=returned (bool (s.lists c))∧Grew w w':=by
 obtain⟨ao,cap,rfl,_,_,h3⟩:=hR;have HR:=vl h3;have HV:Hid (∀i,i<s.ranges.length->(s.ranges.getD i (0,0)).1<=c->c<=(s.ranges.getD i (0,0)).2->s.lists c=true):=fun i hi h1 h2=>zMO _ _ (0,0) i hi (by show(decide _&&decide _)=true;rw[dW h1,dW h2];rfl);have HN:Hid ((∀i,i<s.ranges.length->¬((s.ranges.getD i (0,0)).1<=c∧c<=(s.ranges.getD i (0,0)).2))->s.lists c=false):=fun h=>zIF _ _ (0,0) fun i hi=>by
  have:=h i hi;simpa using this
 go_in;go_wp2;go_loopg [10] s.ranges.length (fun q i wr=>∃j:Nat,q=s.ranges.length-j∧j<=s.ranges.length∧i=int i64 (j:Int)∧(∀i,i<j->¬((s.ranges.getD i (0,0)).1<=c∧c<=(s.ranges.getD i (0,0)).2))∧Grew w wr)
 case atStart=>exact⟨0,rfl,lX,rfl,fun i hi=>by omega,kZ _ _ lQ⟩
 case round=>
  obtain⟨j,hgk,hj,rfl,hno,hkp⟩:=hrel;have HA:Hid (gk=s.ranges.length-j∧(∀i,i<j->¬((s.ranges.getD i (0,0)).1<=c∧c<=(s.ranges.getD i (0,0)).2))∧Grew w wr):=⟨hgk,hno,hkp⟩
  by_cases hj2:j<s.ranges.length
  ·have i1:(j:Int)<(s.ranges.length:Int):=by omega
   obtain⟨b,o,rfl,hb,c0,c1⟩:=HR.out j hj2;have y0:wr.cell? ⟨b,o+j*2,none⟩=some (int i64 (s.ranges.getD j (0,0)).1):=zA c0 hb hkp;have y1:wr.cell? ⟨b,o+j*2+1,none⟩=some (int i64 (s.ranges.getD j (0,0)).2):=zA c1 hb hkp;have HV2:=vl <| HV.out j hj2;have HN2:Hid (¬((s.ranges.getD j (0,0)).1<=c∧c<=(s.ranges.getD j (0,0)).2)->∀i,i<j+1->¬((s.ranges.getD i (0,0)).1<=c∧c<=(s.ranges.getD i (0,0)).2)):=fun h i hi=>by
    by_cases e:i=j
    ·rw[e];exact h
    ·exact HA.out.2.1 i (by omega)
   clear c0 c1 hgk hno hkp;generalize (s.ranges.getD j (0,0)).1=x at *;generalize (s.ranges.getD j (0,0)).2=y at *;have hka:Grew w (wr.alloc (.cells #[int i64 x,int i64 y] 255)):=HA.out.2.2.trans (kZ _ _ HA.out.2.2.size);have HKA:=vl hka;clear hka;by_cases h1:x<=c
   ·by_cases h2:c<=y
    ·have HH:=vl <| HV2.out h1 h2
     go_wp2;go_ret;exact⟨by rw[HH.out];rfl,HKA.out⟩
    ·have HH:=vl h2
     go_wp2;go_roundg (s.ranges.length-(j+1))
     case measure=>rw[HA.out.1];omega
     case rel=>exact⟨j+1,rfl,by omega,by go_num,HN2.out (fun h=>by have:=HH.out;omega),HKA.out⟩
   ·have HH:=vl h1
    go_wp2;go_roundg (s.ranges.length-(j+1))
    case measure=>rw[HA.out.1];omega
    case rel=>exact⟨j+1,rfl,by omega,by go_num,HN2.out (fun h=>by have:=HH.out;omega),HKA.out⟩
  ·have i1:(s.ranges.length:Int)<=(j:Int):=by omega
   have HZ:=vl <| HN.out fun i hi=>hno i (by omega);clear hgk hno hkp;go_wp2;go_ret;exact⟨by rw[HZ.out];rfl,HA.out.2.2⟩
theorem zLb (w:World)(rv:Value)(s:Cs)(hR:RangesAt w rv s.ranges)(hl:s.ranges.length<=1000000000000)(c:Int):
  Calls prog 184 #[agg #[rv,bool s.others],int i64 c] w fun e w'=>e=returned (bool (s.has c))∧Grew w w':=by
 obtain⟨ao,cap,hrv,_⟩:=id hR;have HRV:=vl hrv;clear hrv;obtain⟨w1,hw1,K1,y0,y1⟩:∃w1,w1=w.alloc (.cells #[rv,bool s.others] 161)∧Hid (Grew w w1∧w.heap.size<w1.heap.size)∧w1.cell? ⟨w.heap.size,0,none⟩=some rv∧w1.cell? ⟨w.heap.size,1,none⟩=some (bool s.others):=by
  have h:=gJ w (.cells #[rv,bool s.others] 161);refine⟨_,rfl,⟨kZ _ _ lQ,by simp⟩,?_,?_⟩ <;> ·unfold cell?;rw[h];rfl
 have HL:Hid (Ca 192 #[agg #[rv,bool s.others],int i64 c] w1.drew fun e w'=>e=returned (bool (s.lists c))∧w'.cell? ⟨w.heap.size,1,none⟩=some (bool s.others)∧w'.cell? ⟨w.heap.size,0,none⟩=some rv∧Grew w w'):=by
  refine(zIe w1.drew rv s ((hR.grown K1.out.1).grown (Keep.drew _)) hl c).mono ?_;rintro e w2 ⟨rfl,hk⟩;exact⟨rfl,zA (w:=w1.drew) y1 K1.out.2 hk,zA (w:=w1.drew) y0 K1.out.2 hk,K1.out.1.trans ((Keep.undrew hk).lower K1.out.1.size K1.out.1.size)⟩
 cases hc:zDH c with
 |false=>
  have HC:Hid (s.has c=false):=by show _=_;unfold Cs.has;rw[hc];rfl
  have HI:Hid (∀w,Ca 191 #[int i64 c] w fun e w'=>e=returned (bool false)∧w'=w):=fun w=>by rw[<-hc];exact zFe w c
  go_in;apply wp_cut;intro K0 J;go_wp2;apply J.out;rw[<-hw1];clear hw1;go_wp2;go_quiet ((go_at_call 191;exact Calls.quiet_of_same (HI.out _)));go_wp2;go_ret;exact⟨by rw[HC.out];rfl,K1.out.1.trans ⟨rfl,rfl,lQ,fun _ _ _=>rfl⟩⟩
 |true=>
  have HC:Hid (s.has c=(s.lists c != s.others)):=by show _=_;unfold Cs.has;rw[hc];rfl
  have HI:Hid (∀w,Ca 191 #[int i64 c] w fun e w'=>e=returned (bool true)∧w'=w):=fun w=>by rw[<-hc];exact zFe w c
  clear hc;go_in;apply wp_cut;intro K0 J;go_wp2;apply J.out;clear J;rw[<-hw1];clear hw1;go_wp2;go_region_held3 (fun w'=>w'.cell? ⟨w.heap.size,0,none⟩=some rv∧w'.cell? ⟨w.heap.size,1,none⟩=some (bool s.others)) (first|exact⟨z0,z1⟩|go_keep) (first|(go_at_call 191;refine(HI.out _).mono ?_;rintro e w3 ⟨rfl,rfl⟩;have z0:=y0;have z1:=y1)|(go_at_call 192;refine HL.out.mono ?_;rintro e w4 ⟨rfl,z1,z0,hk4⟩))
  all_goals
   go_wp2;go_ret;exact⟨by rw[HC.out];rfl,hk4⟩
theorem yO (a b:Nat)(ha:a<9223372036854775808)(hb:b<9223372036854775808):bits .or i64 (a:Int) (b:Int)=((a|||b:Nat):Int):=
 (bits_nat i64 63 (by decide) (fun n h0 h1=>zBS n h0 (by simpa using h1)) a b (by simpa using ha) (by simpa using hb)).2
theorem zE2 (j:Nat)(hj:j<63):wrap64 (2^j)=((2^j:Nat):Int):=by
 have h1:2^j<2^63:=Nat.pow_lt_pow_right (by omega) hj;have e:((2:Int)^j)=((2^j:Nat):Int):=by simp
 rw[e];generalize 2^j=x at h1;exact w64 _ (by omega) (by omega)
theorem zL9 (a j:Nat)(hj:j<63)(ha:a<9223372036854775808):bits .or i64 (a:Int) (wrap64 (2^j))=((a|||2^j:Nat):Int):=by
 have h1:2^j<2^63:=Nat.pow_lt_pow_right (by omega) hj;rw[zE2 j hj];exact yO _ _ ha (by omega)
def qQ (f:Nat->Bool):Nat->Nat
 |0=>0
 |k+1=>if f k then qQ f k|||2^k else qQ f k
theorem zBd (f:Nat->Bool)(k:Nat):qQ f k<2^k:=by
 induction k with
 |zero=>simp[qQ]
 |succ k ih=>
  have h1:2^k<2^(k+1):=Nat.pow_lt_pow_right (by omega) (by omega);unfold qQ;split
  ·exact Nat.or_lt_two_pow (by omega) h1
  ·omega
def zAH (sets:List Cs)(c:Int)(i:Nat):Bool:=(sets.getD i ⟨[],false⟩).has c
def qO (sets:List Cs)(c:Int):Nat:=qQ (zAH sets c) sets.length
theorem zGK (w:World)(v:Value)(sets:List Cs)(hS:SetsAt w v sets)(hn:sets.length<=24)(hl:∀s∈sets,s.ranges.length<=1000000000000)(c:Int):
  Calls prog 169 #[v,int i64 c] w fun e w'=>e=returned (int i64 (qO sets c))∧Grew w w':=by
 obtain⟨ao,cap,rfl,_,_,h3⟩:=hS;have HR:=vl h3;have HL:Hid (∀i,i<sets.length->(sets.getD i ⟨[],false⟩).ranges.length<=1000000000000):=fun i hi=>hl _ (zS _ i _ hi);have HV:Hid (qO sets c=qQ (zAH sets c) sets.length):=rfl;generalize hn2:sets.length=n at *;go_in;go_wp2;go_loopg [5,10] n (fun q x i wr=>∃j:Nat,q=n-j∧j<=n∧x=int i64 (qQ (zAH sets c) j:Nat)∧i=int i64 (j:Int)∧Grew w wr)
 case atStart=>exact⟨0,rfl,lX,rfl,rfl,⟨rfl,rfl,lQ,fun _ _ _=>rfl⟩⟩
 case round=>
  obtain⟨j,hgk,hj,rfl,rfl,hkp⟩:=hrel;have HA:Hid (gk=n-j∧Grew w wr):=⟨hgk,hkp⟩
  by_cases hj2:j<n
  ·have i1:(j:Int)<(n:Int):=by omega
   obtain⟨b,o,u,rfl,hb,c0,c1,hr⟩:=HR.out j hj2;obtain⟨au,cu,rfl,-⟩:=id hr;have y0:=zA c0 hb hkp;have y1:=zA c1 hb hkp;have HS:Hid (∀w',Grew w w'->Ca 184 #[agg #[slice au (sets.getD j ⟨[],false⟩).ranges.length cu,bool (sets.getD j ⟨[],false⟩).others],int i64 c] w' fun e w2=>e=returned (bool (zAH sets c j))∧Grew w w2):=by
    intro w' hk;refine(zLb w' _ _ (hr.grown hk) (HL.out j hj2) c).mono ?_;rintro e w2 ⟨rfl,hk2⟩;exact⟨rfl,hk.trans (hk2.lower hk.size hk.size)⟩
   have hbl:=zBd (zAH sets c) j;have hpw:2^j<=2^24:=kG (by omega) (by omega);have HT:Hid (zAH sets c j=true->qQ (zAH sets c) (j+1)=qQ (zAH sets c) j|||2^j):=fun h=>by show(if _ then _ else _)=_;rw[h];rfl
   have HF:Hid (zAH sets c j=false->qQ (zAH sets c) (j+1)=qQ (zAH sets c) j):=fun h=>by show(if _ then _ else _)=_;rw[h];rfl
   generalize (sets.getD j ⟨[],false⟩).ranges.length=rl at *;generalize (sets.getD j ⟨[],false⟩).others=ot at *;generalize qQ (zAH sets c) j=bj at *;have HOR:=vl <| zL9 bj j (by omega) (by omega);cases hh:zAH sets c j with
   |true=>
    rw[hh] at HS;have HT2:=vl <| HT.out hh;go_wp2_with (first|(go_at_call 184;refine(HS.out _ (HA.out.2.trans (kZ _ _ HA.out.2.size))).mono ?_;rintro e w5 ⟨rfl,hk5⟩))
    go_roundg (n-(j+1))
    case measure=>rw[HA.out.1];omega
    case rel=>exact⟨j+1,rfl,by omega,by rw[HOR.out,HT2.out],by go_num,hk5⟩
   |false=>
    rw[hh] at HS;have HT2:=vl <| HF.out hh;go_wp2_with (first|(go_at_call 184;refine(HS.out _ (HA.out.2.trans (kZ _ _ HA.out.2.size))).mono ?_;rintro e w5 ⟨rfl,hk5⟩))
    go_roundg (n-(j+1))
    case measure=>rw[HA.out.1];omega
    case rel=>exact⟨j+1,rfl,by omega,by rw[HT2.out],by go_num,hk5⟩
  ·have hje:j=n:=by omega
   have i1:(n:Int)<=(j:Int):=by omega
   have HZ:Hid (qO sets c=qQ (zAH sets c) j):=by show _=_;rw[HV.out,hje]
   go_wp2;go_ret;exact⟨by rw[HZ.out];rfl,HA.out.2⟩
structure Ar where
 lows:List Int
 letters:List Int
 sets:List Int
def jE (lows:List Int)(n:Int):Nat->Nat->Nat->Nat
 |0,low,_=>low
 |f+1,low,high=>if high-low>1 then(if lows.getD ((low+high)/2) 0<=n then jE lows n f ((low+high)/2) high else jE lows n f low ((low+high)/2)) else low
def Ar.area (a:Ar)(n:Int):Nat:=jE a.lows n a.lows.length 0 a.lows.length
theorem zJS (lows:List Int)(n:Int)(f low high:Nat)(h:¬high-low>1):jE lows n f low high=low:=by
 cases f with
 |zero=>rfl
 |succ f=>rw[jE,if_neg h]
theorem zIE (lows:List Int)(n:Int)(f low high:Nat)(h:low<high):jE lows n f low high<high:=by
 induction f generalizing low high with
 |zero=>exact h
 |succ f ih=>
  rw[jE];split
  ·split
   ·exact ih _ _ (by omega)
   ·exact lZ (ih _ _ (by omega)) (by omega)
  ·exact h
theorem Ar.area_lt (a:Ar)(n:Int)(h:0<a.lows.length):a.area n<a.lows.length:=zIE _ _ _ _ _ h
structure ArAt (w:World)(lv tv sv:Value)(a:Ar):Prop where
 lows:Ints w (In w) lv a.lows
 letters:Ints w (In w) tv a.letters
 sets:Ints w (In w) sv a.sets
theorem ArAt.grown {w w':World}{lv tv sv:Value}{a:Ar}(h:ArAt w lv tv sv a)(hk:Grew w w'):ArAt w' lv tv sv a:=⟨h.lows.grown hk,h.letters.grown hk,h.sets.grown hk⟩
theorem zFB (w:World)(lv tv sv:Value)(a:Ar)(hA:ArAt w lv tv sv a)(hl:a.lows.length<=1000000000000)(n:Int):
  Calls prog 185 #[agg #[lv,tv,sv],int i64 n] w fun e w'=>e=returned (int i64 (a.area n))∧Grew w w':=by
 obtain⟨al,cl,rfl,_,_,hlc⟩:=hA.lows;obtain⟨at_,ct,rfl,-⟩:=hA.letters;obtain⟨as_,cs,rfl,-⟩:=hA.sets;have HL:=vl hlc;clear hlc hA;obtain⟨w1,hw1,K1,y0⟩:∃w1,w1=w.alloc (.cells #[slice al a.lows.length cl,slice at_ a.letters.length ct,slice as_ a.sets.length cs] 172)∧Hid (Grew w w1)∧w1.cell? ⟨w.heap.size,0,none⟩=some (slice al a.lows.length cl):=by
  have h:=gJ w (.cells #[slice al a.lows.length cl,slice at_ a.letters.length ct,slice as_ a.sets.length cs] 172);refine⟨_,rfl,kZ _ _ lQ,?_⟩;unfold cell?;rw[h];rfl
 have HV:Hid (a.area n=jE a.lows n a.lows.length 0 a.lows.length):=rfl;generalize a.lows.length=m at *;go_in;apply wp_cut;intro K0 J;go_wp2;apply J.out;clear J;rw[<-hw1];clear hw1;go_wp2;go_loopg [5,6] m (fun q x y wr=>∃low high f:Nat,q=high-low∧x=int i64 (low:Int)∧y=int i64 (high:Int)∧low<=high∧high<=m∧high-low<=f+1∧a.area n=jE a.lows n f low high∧wr=w1)
 case atStart=>exact⟨0,m,m,rfl,rfl,rfl,lX,lQ,by omega,HV.out,rfl⟩
 case round=>
  obtain⟨low,high,f,hgk,rfl,rfl,hlh,hhm,hf,hv,rfl⟩:=hrel;have HA:Hid (gk=high-low∧a.area n=jE a.lows n f low high):=⟨hgk,hv⟩
  clear hgk hv;by_cases h1:high-low>1
  ·obtain⟨f,rfl⟩:∃f',f=f'+1:=⟨f-1,by omega⟩
   have hm1:low<(low+high)/2:=by omega
   have hm2:(low+high)/2<high:=by omega
   have HB:Hid (jE a.lows n (f+1) low high=if a.lows.getD ((low+high)/2) 0<=n then jE a.lows n f ((low+high)/2) high else jE a.lows n f low ((low+high)/2)):=by show _=_;rw[jE,if_pos h1]
   obtain⟨b,o,rfl,hb,hc⟩:=HL.out ((low+high)/2) (by omega);have y1:wr.cell? ⟨b,o+(low+high)/2,none⟩=some (int i64 (a.lows.getD ((low+high)/2) 0)):=zA hc hb K1.out;have em:(((low:Int)+(high:Int)).tdiv 2)=(((low+high)/2:Nat):Int):=by
    rw[Int.tdiv_eq_ediv_of_nonneg (by omega)];omega
   clear hc;have i1:(1:Int)<(high:Int)-(low:Int):=by omega
   have i2:(((low+high)/2:Nat):Int)<(m:Int):=by omega
   apply wp_cut;intro K0 J;go_wp2;apply J.out;clear J;generalize hmid:(low+high)/2=mid at *;have HMID:=vl hmid;clear hmid;generalize a.lows.getD mid 0=x at *;by_cases hc:x<=n
   ·have HC:Hid (jE a.lows n (f+1) low high=jE a.lows n f mid high):=by show _=_;rw[HB.out,if_pos hc]
    go_wp2;go_roundg (high-mid)
    case measure=>rw[HA.out.1];omega
    case rel=>exact⟨mid,high,f,rfl,rfl,rfl,by omega,by omega,by omega,by rw[HA.out.2,HC.out],rfl⟩
   ·have HC:Hid (jE a.lows n (f+1) low high=jE a.lows n f low mid):=by show _=_;rw[HB.out,if_neg hc]
    go_wp2;go_roundg (mid-low)
    case measure=>rw[HA.out.1];omega
    case rel=>exact⟨low,mid,f,rfl,rfl,rfl,by omega,by omega,by omega,by rw[HA.out.2,HC.out],rfl⟩
  ·have i1:(high:Int)-(low:Int)<=1:=by omega
   have HC:Hid (jE a.lows n f low high=low):=zJS _ _ _ _ _ h1;clear h1;go_wp2;go_ret;exact⟨by rw[HA.out.2,HC.out];rfl,K1.out⟩
def Ar.letter (a:Ar)(n:Int):Int:=a.letters.getD (a.area n) 0
def Ar.alike (a:Ar)(m n:Int):Bool:=(a.area m:Int)==(a.area n:Int)
theorem zG2 (w:World)(lv tv sv:Value)(a:Ar)(hA:ArAt w lv tv sv a)(hl:a.lows.length<=1000000000000)(h0:0<a.lows.length)(hll:a.letters.length=a.lows.length)(n:Int):
  Calls prog 175 #[agg #[lv,tv,sv],int i64 n] w fun e w'=>e=returned (int i64 (a.letter n))∧Grew w w':=by
 obtain⟨al,cl,rfl,-⟩:=id hA.lows;obtain⟨bt,ot,ct,rfl,hbt,_,_,htc⟩:=hA.letters.block (by omega);obtain⟨as_,cs,rfl,-⟩:=id hA.sets;obtain⟨w1,hw1,K1,y0,y1,y2⟩:∃w1,w1=w.alloc (.cells #[slice al a.lows.length cl,slice (some ⟨bt,ot,none⟩) a.letters.length ct,slice as_ a.sets.length cs] 172)∧Hid (Grew w w1∧w.heap.size<w1.heap.size)∧w1.cell? ⟨w.heap.size,0,none⟩=some (slice al a.lows.length cl)∧w1.cell? ⟨w.heap.size,1,none⟩=some (slice (some ⟨bt,ot,none⟩) a.letters.length ct)∧w1.cell? ⟨w.heap.size,2,none⟩=some (slice as_ a.sets.length cs):=by
  have h:=gJ w (.cells #[slice al a.lows.length cl,slice (some ⟨bt,ot,none⟩) a.letters.length ct,slice as_ a.sets.length cs] 172);refine⟨_,rfl,⟨kZ _ _ lQ,by simp⟩,?_,?_,?_⟩ <;> ·unfold cell?;rw[h];rfl
 have HC:=zFB w1 _ _ _ a (hA.grown K1.out.1) hl n;have har:a.area n<a.letters.length:=by have:=a.area_lt n h0;omega
 have hcc:w.cell? ⟨bt,ot+a.area n,none⟩=some (int i64 (a.letters.getD (a.area n) 0)):=htc _ har;have HV:Hid (a.letter n=a.letters.getD (a.area n) 0):=rfl;have HLB:Hid (In w bt∧w.cell? ⟨bt,ot+a.area n,none⟩=some (int i64 (a.letters.getD (a.area n) 0))):=⟨hbt,hcc⟩
 clear htc hA hcc h0 hll;generalize a.letters.getD (a.area n) 0=x at *;generalize a.area n=k at *;have i1:(k:Int)<(a.letters.length:Int):=by omega
 go_in;apply wp_cut;intro K0 J;go_wp2;apply J.out;rw[<-hw1];clear hw1;go_wp2_with (first|(go_at_call 185;refine HC.mono ?_;rintro e w2 ⟨rfl,hk2⟩;have z1:w2.cell? ⟨w.heap.size,1,none⟩=some (slice (some ⟨bt,ot,none⟩) a.letters.length ct):=zA y1 K1.out.2 hk2;have z2:w2.cell? ⟨bt,ot+k,none⟩=some (int i64 x):=zA (zA HLB.out.2 HLB.out.1 K1.out.1) (lZ HLB.out.1 K1.out.1.size) hk2))
 go_ret;exact⟨by rw[HV.out];rfl,K1.out.1.trans (hk2.lower K1.out.1.size K1.out.1.size)⟩
theorem zII (w:World)(lv tv sv:Value)(a:Ar)(hA:ArAt w lv tv sv a)(hl:a.lows.length<=1000000000000)(m n:Int):
  Calls prog 177 #[agg #[lv,tv,sv],int i64 m,int i64 n] w fun e w'=>e=returned (bool (a.alike m n))∧Grew w w':=by
 obtain⟨al,cl,rfl,-⟩:=id hA.lows;obtain⟨at_,ct,rfl,-⟩:=id hA.letters;obtain⟨as_,cs,rfl,-⟩:=id hA.sets;obtain⟨w1,hw1,K1,y0,y1,y2⟩:∃w1,w1=w.alloc (.cells #[slice al a.lows.length cl,slice at_ a.letters.length ct,slice as_ a.sets.length cs] 172)∧Hid (Grew w w1∧w.heap.size<w1.heap.size)∧w1.cell? ⟨w.heap.size,0,none⟩=some (slice al a.lows.length cl)∧w1.cell? ⟨w.heap.size,1,none⟩=some (slice at_ a.letters.length ct)∧w1.cell? ⟨w.heap.size,2,none⟩=some (slice as_ a.sets.length cs):=by
  have h:=gJ w (.cells #[slice al a.lows.length cl,slice at_ a.letters.length ct,slice as_ a.sets.length cs] 172);refine⟨_,rfl,⟨kZ _ _ lQ,by simp⟩,?_,?_,?_⟩ <;> ·unfold cell?;rw[h];rfl
 have HC:Hid (∀w' x,Grew w w'->Ca 185 #[agg #[slice al a.lows.length cl,slice at_ a.letters.length ct,slice as_ a.sets.length cs],int i64 x] w' fun e w2=>e=returned (int i64 (a.area x))∧Grew w' w2):=fun w' x hk=>zFB w' _ _ _ a (hA.grown hk) hl x;have HV:Hid (a.alike m n=((a.area m:Int)==(a.area n:Int))):=rfl;go_in;apply wp_cut;intro K0 J;go_wp2;apply J.out;rw[<-hw1];clear hw1;apply wp_cut;intro K0 J;go_wp2_with (first|(go_at_call 185;refine(HC.out _ m K1.out.1).mono ?_;rintro e w2 ⟨rfl,hk2⟩;have z0:=zA y0 K1.out.2 hk2;have z1:=zA y1 K1.out.2 hk2;have z2:=zA y2 K1.out.2 hk2))
 apply J.out;clear J y0 y1 y2;have K2:=vl <| K1.out.1.trans (hk2.lower K1.out.1.size K1.out.1.size);clear hk2;go_wp2_with (first|(go_at_call 185;refine(HC.out _ n K2.out).mono ?_;rintro e w3 ⟨rfl,hk3⟩))
 go_ret;exact⟨by rw[HV.out];rfl,K2.out.trans (hk3.lower K2.out.size K2.out.size)⟩
def zCC (l:List Int)(n:Int):Nat->Nat
 |0=>0
 |i+1=>if l.getD i 0>n then zCC l n i else i+1
theorem zM8 (l:List Int)(n:Int)(i:Nat):zCC l n i<=i:=by
 induction i with
 |zero=>exact lQ
 |succ i ih=>unfold zCC;split <;> omega
def zCo (l:List Int)(n:Int)(i:Nat):List Int:=l.take i++n::l.drop i
def zFW (l:List Int)(n:Int):List Int:=zCo l n (zCC l n l.length)
theorem zF9 (l:List Int)(n:Int)(i:Nat):(zCo l n i).length=l.length+1:=by
 simp[zCo];omega
theorem zDw (l:List Int)(n:Int)(i j:Nat)(hi:i<=l.length):(zCo l n i).getD j 0=if j<i then l.getD j 0 else if j=i then n else l.getD (j-1) 0:=by
 unfold zCo;rw[lW,List.getElem?_append,List.length_take];by_cases h1:j<i
 ·rw[if_pos (by omega),if_pos h1,List.getElem?_take,if_pos h1,lW]
 ·rw[if_neg (by omega),if_neg h1]
  by_cases h2:j=i
  ·subst h2
   rw[if_pos rfl,show j-min j l.length=0 by omega];rfl
  ·rw[if_neg h2,show j-min i l.length=(j-1-i)+1 by omega,List.getElem?_cons_succ,List.getElem?_drop,show i+(j-1-i)=j-1 by omega,lW]
structure BdAt (w:World)(H p:Nat)(v:Value)(l:List Int):Prop where
 blk:w.heap[p]? =some (.cells #[v] 239)
 own:OwnI w H v l
 pH:H<=p
 lt:p<w.heap.size
def zOr (w:World)(H p:Nat)(l:List Int):Prop:=∃v,BdAt w H p v l
theorem BdAt.cell {w:World}{H p:Nat}{v:Value}{l:List Int}(h:BdAt w H p v l):w.cell? ⟨p,0,none⟩=some v∧w.frozen? ⟨p,0,none⟩=false:=by
 constructor
 ·unfold cell?;rw[h.blk];rfl
 ·unfold frozen?;rw[h.blk];rfl
theorem OwnI.rowOf {w:World}{H:Nat}{v:Value}{l:List Int}(h:OwnI w H v l):Row w H 3 v l.length fun i=>int i64 (l.getD i 0):=h.row l.length rfl (fun i=>l.getD i 0) fun _ _=>rfl
theorem Row.ownI {w:World}{H:Nat}{v:Value}{l:List Int}(h:Row w H 3 v l.length fun i=>int i64 (l.getD i 0)):OwnI w H v l:=by
 have e:(List.range l.length).map (fun i=>Value.int i64 (l.getD i 0))=l.map fun x=>int i64 x:=by
  apply List.ext_getElem
  ·simp
  ·intro i h1 h2
   simp at h1;simp[h1]
 unfold OwnI;rw[<-e];exact h
def Stay (w w':World):Prop:=∀(k:Nat) (c:Array Value) (t:TypeId),w.heap[k]? =some (Obj.cells c t)->t≠3->t≠239->w'.heap[k]? =some (Obj.cells c t)
structure Bz (w0 w:World)(H p g cap:Nat)(l:List Int)(n:Int)(i:Nat):Prop where
 blk:w.heap[p]? =some (.cells #[slice (some ⟨g,0,none⟩) (l.length+1) cap] 239)
 row:Row w H 3 (slice (some ⟨g,0,none⟩) (l.length+1) cap) (l.length+1) fun j=>int i64 ((zCo l n i).getD j 0)
 lt:p<w.heap.size
 keep:Keep H H w0 w
 stay:Stay w0 w
theorem Bz.step {w0 w:World}{H p g cap:Nat}{l:List Int}{n:Int}{i:Nat}(h:Bz w0 w H p g cap l n (i+1))(hi:i+1<=l.length):Bz w0 ((w.setCell ⟨g,i+1,none⟩ (int i64 (l.getD i 0))).setCell ⟨g,i,none⟩ (int i64 n)) H p g cap l n i:=by
 have hgp:p≠g:=fun e=>zM h.row h.blk (by decide) (by rw[e];rfl);have hg:=(h.row.at (by omega)).1;refine⟨(lJ _ _ _ _ hgp).trans ((lJ _ _ _ _ hgp).trans h.blk),?_,by rw[zC,zC];exact h.lt,(h.keep.trans (zO _ _ _ _ hg)).trans (zO _ _ _ _ hg),?_⟩;rotate_left
 ·intro k c t hk h1 h2
  have hk2:=h.stay k c t hk h1 h2;have hkg:k≠g:=fun e=>zM h.row hk2 (Ne.symm h1) (by rw[e];rfl);exact(lJ _ _ _ _ hkg).trans ((lJ _ _ _ _ hkg).trans hk2)
 refine Row.congr ((h.row.set (i+1) (int i64 (l.getD i 0))).set i (int i64 n)) fun j hj=>?_;rw[zDw l n i j (by omega)];by_cases e1:j=i
 ·rw[if_pos e1,if_neg (by omega),if_pos e1]
 ·rw[if_neg e1]
  by_cases e2:j=i+1
  ·rw[if_pos e2,if_neg (by omega),if_neg e1,show j-1=i by omega]
  ·rw[if_neg e2,zDw l n (i+1) j hi]
   by_cases e3:j<i
   ·rw[if_pos (by omega),if_pos e3]
   ·rw[if_neg (by omega),if_neg e2,if_neg e3,if_neg e1]
end Go.Proofs.YtbjcfkdnjaiclaaGreat
