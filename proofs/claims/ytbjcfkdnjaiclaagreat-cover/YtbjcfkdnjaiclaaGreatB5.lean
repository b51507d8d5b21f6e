import Derived.Deep.RegionHeld3
import Derived.Deep.RegionWith
import Derived.Test.YtbjcfkdnjaiclaaGreatB0
import Derived.Test.YtbjcfkdnjaiclaaGreatB4
/- Parts of the proof. -/
set_option linter.unusedVariables false
set_option linter.unusedSimpArgs false
set_option maxHeartbeats 4000000
set_option maxRecDepth 100000
namespace Go.Proofs.YtbjcfkdnjaiclaaGreat
open Go.RowKit Go.Proofs.Tryz Go.World
theorem zJ8 (w:World)(nv rv ov gv:Value)(m:Sm)(hT:TblAt w nv rv m)(hm:m.Tbl)(from_:Nat)(hfr:from_<m.next.length)(fo fg:Nat->Bool)(hO:BoolsAt w (In w) ov m.next.length fo)(hG:BoolsAt w (In w) gv m.next.length fg):
  Calls prog 146 #[.agg #[nv,rv,.int .i64 m.start],.int .i64 from_,ov,gv] w fun e w'=>∃(z:ByteArray) (a:Int),e=.returned (.tuple #[.string z,.int .i64 a])∧z.size<=300∧-1<=a∧a<m.next.length∧Grew w w':=by
 obtain⟨i0,hi0,hz0,hz1,hz2⟩:=info_parts yH;obtain⟨ib,hib,hb0,hb1,hb2⟩:=info_parts qP;obtain⟨is,his,hs0,hs1,hs2⟩:=info_parts zJQ;obtain⟨an,cn,rfl,hcn,hmn,hnc⟩:=hT.next
 obtain⟨ar,cr,rfl,hcr,hmr,hrc⟩:=hT.rules;obtain⟨bo,oo,co,hbo,rfl,_,_,hco⟩:=hO;obtain⟨bg,og,cg,hbg,rfl,_,_,hcg⟩:=hG;have HN:=vl hnc;have HCO:=vl hco;have HCG:=vl hcg;have HM:Hid m.Tbl:=hm;have h200:=hm.most;have h1:=hm.one;generalize hn:m.next.length=n at *
 have HNL:=vl hn;obtain⟨w1,hw1,K1,hl1⟩:∃w1,w1=w.alloc (.cells #[.slice an n cn,.slice ar m.rules.length cr,.int .i64 m.start] 127)∧Hid (Grew w w1∧w1.heap[w.heap.size]? =some (.cells #[.slice an n cn,.slice ar m.rules.length cr,.int .i64 m.start] 127))∧w.heap.size<w1.heap.size:=
  ⟨_,rfl,⟨kZ _ _ lQ,gG w _⟩,by simp⟩
 obtain⟨w2,hmk2,ho2,hg2⟩:=run_makeSlice_full (P:=prog) w1 w.heap.size 28 4 ib _ 1 underlying28 hib hb0 hb1 .i64 .i64 n (by omega) (by rw[hb2];omega) (by unfold maxLen;omega) (by omega);have hk2:Grew w1 w2:=⟨hg2.os,hg2.output,hg2.size,fun k hk _=>hg2.block k hk (by simp)⟩
 have hl2:=lZ hl1 hk2.size;obtain⟨w3,hmk3,ho3,hg3⟩:=run_makeSlice_full (P:=prog) w2 w.heap.size 108 9 is _ 1 underlying108 his hs0 hs1 .i64 .i64 n (by omega) (by rw[hs2];omega) (by unfold maxLen;omega) (by omega);have hk3:Grew w2 w3:=⟨hg3.os,hg3.output,hg3.size,fun k hk _=>hg3.block k hk (by simp)⟩
 have hl3:=lZ hl2 hk3.size;have A3:Hid (Row w3 w.heap.size 4 (.slice (some ⟨w1.heap.size,0,none⟩) n n) n (fun _=>.bool false)∧Row w3 w.heap.size 9 (.slice (some ⟨w2.heap.size,0,none⟩) n n) n (fun _=>.string ⟨#[]⟩)∧Grew w w3∧w3.heap[w.heap.size]? =some (.cells #[.slice an n cn,.slice ar m.rules.length cr,.int .i64 m.start] 127)):=by
  have h2:=ho2;rw[Nat.mul_one,zAd _ rfl] at h2;have h3:=ho3;rw[Nat.mul_one,zAd _ rfl] at h3;exact⟨zJ h2 hk3,h3,(K1.out.1.trans (hk2.lower (by omega) (by omega))).trans (hk3.lower (by omega) (by omega)),(hk3.block _ hl2 (by omega)).trans ((hk2.block _ hl1 (by omega)).trans K1.out.2)⟩
 have yb1:w1.cell? ⟨w.heap.size,0,none⟩=some (.slice an n cn):=by unfold cell?;rw[K1.out.2];rfl
 have yb2:=zA yb1 hl1 hk2;go_in;apply wp_cut;intro K0 J;go_wp2;apply J.out;rw[<-hw1];clear hw1;go_wp2_with fail;clear hmk2 hmk3 yb1 yb2;obtain⟨w4,hw4,A4⟩:∃w4,w4=w3.alloc (.cells #[.int .i64 (from_:Int)] 3)∧Hid (Wy w4 w.heap.size w1.heap.size w2.heap.size n (fun _=>false) (fun _=>⟨#[]⟩) (.slice (some ⟨w3.heap.size,0,none⟩) 1 1) [(from_:Int)]∧Grew w w4∧w4.heap[w.heap.size]? =some (.cells #[.slice an n cn,.slice ar m.rules.length cr,.int .i64 m.start] 127)):=by
  have hka:Grew w3 (w3.alloc (.cells #[.int .i64 (from_:Int)] 3)):=kZ _ _ lQ;refine⟨_,rfl,⟨zJ A3.out.1 hka,zJ A3.out.2.1 hka,?_,?_,?_,fun i=>lX⟩,A3.out.2.2.1.trans (hka.lower (by omega) (by omega)),(hka.block _ hl3 (by omega)).trans A3.out.2.2.2⟩
  ·exact⟨rfl,.inr ⟨w3.heap.size,1,#[.int .i64 (from_:Int)],rfl,by omega,gG w3 _,lQ,by unfold maxLen;omega,rfl,rfl⟩⟩
  ·intro x hx
   rw[kY.1 hx];omega
  ·have e:(List.range n).countP (fun _=>false)=0:=by simp
   rw[e];rfl
 rw[<-hw4];clear hw4 A3 K1;have hg12:w1.heap.size≠w2.heap.size->True:=fun _=>trivial;clear hg12;go_loopg [12,13] (n+1) (fun q lst i wr=>∃(j:Nat) (sf:Nat->Bool) (wf:Nat->ByteArray) (l:List Int),q=n+1-j∧j<=l.length∧i=.int .i64 (j:Int)∧Wy wr w.heap.size w1.heap.size w2.heap.size n sf wf lst l∧Grew w wr∧wr.heap[w.heap.size]? =some (.cells #[.slice an n cn,.slice ar m.rules.length cr,.int .i64 m.start] 127))
 case atStart=>exact⟨0,_,_,_,rfl,lX,rfl,A4.out.1,A4.out.2.1,A4.out.2.2⟩
 case round=>
  obtain⟨j,sf,wf,l,hgk,hj,rfl,hW,hkp,hbx⟩:=hrel;have HA:Hid (gk=n+1-j∧Wy wr w.heap.size w1.heap.size w2.heap.size n sf wf u12 l∧Grew w wr∧wr.heap[w.heap.size]? =some (.cells #[.slice an n cn,.slice ar m.rules.length cr,.int .i64 m.start] 127)):=⟨hgk,hW,hkp,hbx⟩
  have hlm:=hW.most;obtain⟨al,cl,hlv⟩:=hW.list.form;subst hlv;by_cases hj2:j<l.length
  ·have i1:(j:Int)<(l.length:Int):=by omega
   obtain⟨gl,rfl⟩:∃gl,al=some ⟨gl,0,none⟩:=by
    rcases hW.list.2 with⟨h,h0⟩|⟨g,_,_,h,_⟩
    ·omega
    ·injection h with h _ _
     exact⟨g,h⟩
   have yl:wr.cell? ⟨gl,j,none⟩=some (.int .i64 (l.getD j 0)):=hW.list.cell j hj2;obtain⟨x0,x1⟩:=hW.all _ (zR l j 0 hj2);obtain⟨s,hs⟩:∃s:Nat,l.getD j 0=(s:Int):=⟨(l.getD j 0).toNat,by omega⟩
   rw[hs] at yl x1;have hsn:s<n:=by omega
   have i2:(s:Int)<(n:Int):=by omega
   have yb:wr.cell? ⟨w.heap.size,0,none⟩=some (.slice an n cn):=by unfold cell?;rw[hbx];rfl
   obtain⟨b,o,u,rfl,hb,hc,hrow⟩:=HN.out s hsn;have hrl:=HM.out.rows s (by rw[HNL.out];exact hsn);obtain⟨br,orr,pr,rfl,hSr,_,_,hcc⟩:=hrow.block (by omega);have yr:wr.cell? ⟨b,o+s,none⟩=some (.slice (some ⟨br,orr,none⟩) 256 pr):=by rw[<-hrl];exact zA hc hb hkp
   have HCC:Hid (∀i,i<256->w.cell? ⟨br,orr+i,none⟩=some (.int .i64 ((m.next.getD s []).getD i 0))):=by
    intro i hi;exact hcc i (by rw[hrl];exact hi)
   have HTO:Hid (∀b,b<256->0<=(m.next.getD s []).getD b 0∧(m.next.getD s []).getD b 0<n):=fun b hb=>by
    have h:=HM.out.to s b (by rw[HNL.out];exact hsn) hb;rw[HNL.out] at h;exact h
   clear hgk hW hkp hbx hc hrow hcc hrl hs x0;go_wp2_with fail;clear yl yb yr;go_loopg [12,43] 256 (fun q lst i wr=>∃(k:Nat) (sf:Nat->Bool) (wf:Nat->ByteArray) (l:List Int),q=256-k∧k<=256∧i=.int .i64 (k:Int)∧j<l.length∧Wy wr w.heap.size w1.heap.size w2.heap.size n sf wf lst l∧Grew w wr∧wr.heap[w.heap.size]? =some (.cells #[.slice (some ⟨b,o,none⟩) n cn,.slice ar m.rules.length cr,.int .i64 m.start] 127))
   case atStart=>exact⟨0,sf,wf,l,rfl,lX,rfl,hj2,HA.out.2.1,HA.out.2.2.1,HA.out.2.2.2⟩
   case round=>
    obtain⟨k,sf,wf,l,hgk,hk,rfl,hjl,hW,hkp,hbx⟩:=hrel;have HB:Hid (gk=256-k∧Wy wr w.heap.size w1.heap.size w2.heap.size n sf wf u12 l∧Grew w wr∧wr.heap[w.heap.size]? =some (.cells #[.slice (some ⟨b,o,none⟩) n cn,.slice ar m.rules.length cr,.int .i64 m.start] 127)):=⟨hgk,hW,hkp,hbx⟩
    have hlm:=hW.most;obtain⟨al,cl,hlv⟩:=hW.list.form;subst hlv;by_cases hk2:k<256
    ·have i3:(k:Int)<256:=by omega
     have yx:wr.cell? ⟨br,orr+k,none⟩=some (.int .i64 ((m.next.getD s []).getD k 0)):=zA (HCC.out k hk2) hSr hkp;obtain⟨t1,t2⟩:=HTO.out k hk2;obtain⟨x,hx⟩:∃x:Nat,(m.next.getD s []).getD k 0=(x:Int):=⟨((m.next.getD s []).getD k 0).toNat,by omega⟩
     rw[hx] at yx t1 t2;have hxn:x<n:=by omega
     have yg:wr.cell? ⟨bg,og+x,none⟩=some (.bool (fg x)):=zA (HCG.out x hxn) hbg hkp;have yo:wr.cell? ⟨bo,oo+x,none⟩=some (.bool (fo x)):=zA (HCO.out x hxn) hbo hkp;obtain⟨s1,s2,s3,s4⟩:=hW.seen.at (by omega)
     obtain⟨v1,v2,v3,v4⟩:=hW.words.at (by omega)
     have ys:wr.cell? ⟨w1.heap.size,x,none⟩=some (.bool (sf x)):=s3 x hxn;have zs:=s4 x;have yw:wr.cell? ⟨w2.heap.size,s,none⟩=some (.string (wf s)):=v3 s hsn;have ywx:wr.cell? ⟨w2.heap.size,x,none⟩=some (.string (wf x)):=v3 x hxn;have zw:=v4 x;have hwz:=hW.size s;have hsz:w.heap.size<=wr.heap.size:=Nat.le_of_lt (Nat.lt_of_le_of_lt s1 s2);have hg12:w1.heap.size≠w2.heap.size:=fun e=>xM (g:=w1.heap.size) hW.seen hW.words (by decide) rfl (by rw[e];rfl);have HSX:Hid (sf x=sf x):=rfl;clear hgk hkp hbx hx HSX s3 s4 v3 v4;cases hfg:fg x with
     |true=>
      rw[hfg] at yg;clear hfg;go_wp2_with fail;have HW:Hid (w2.heap.size<wr.heap.size∧wr.cell? ⟨w2.heap.size,s,none⟩=some (.string (wf s))):=⟨v2,yw⟩
      go_region_with ((go_at_call 150;go_must ((refine (zCI _ k hk2).mono ?_;rintro e w5 ⟨rfl,hk5⟩;have q5:w5.cell? ⟨w2.heap.size,s,none⟩=some (.string (wf s)):=zA (w:=wr.drew) HW.out.2 HW.out.1 hk5))))
      all_goals first
       |omega
       |(go_wp2_with fail;go_ret2;refine⟨_,_,rfl,?_,by omega,by omega,HB.out.2.2.1.trans ((Keep.undrew hk5).lower hsz hsz)⟩;rw[ByteArray.size_append];show _+1<=300;omega)
     |false=>
      rw[hfg] at yg;clear hfg;cases hfo:fo x with
      |false=>
       rw[hfo] at yo;clear hfo;cases hsf:sf x with
       |true=>
        rw[hsf] at ys;clear hsf;go_wp2_with fail;go_roundg (256-(k+1))
        case measure=>rw[HB.out.1];omega
        case rel=>exact⟨k+1,sf,wf,l,rfl,by omega,by go_num,hjl,HB.out.2.1,HB.out.2.2.1,HB.out.2.2.2⟩
       |false=>
        rw[hsf] at ys;clear hsf;go_wp2_with fail;go_roundg (256-(k+1))
        case measure=>rw[HB.out.1];omega
        case rel=>exact⟨k+1,sf,wf,l,rfl,by omega,by go_num,hjl,HB.out.2.1,HB.out.2.2.1,HB.out.2.2.2⟩
      |true=>
       rw[hfo] at yo;clear hfo;cases hsf:sf x with
       |true=>
        rw[hsf] at ys;clear hsf;go_wp2_with fail;go_roundg (256-(k+1))
        case measure=>rw[HB.out.1];omega
        case rel=>exact⟨k+1,sf,wf,l,rfl,by omega,by go_num,hjl,HB.out.2.1,HB.out.2.2.1,HB.out.2.2.2⟩
       |false=>
        rw[hsf] at ys;have HSF:Hid (sf x=false):=hsf;clear hsf;by_cases hxf:x=from_
        ·have ixf:((x:Int) != (from_:Int))=false:=by simp[hxf]
         clear hxf;go_wp2_with fail;go_roundg (256-(k+1))
         case measure=>rw[HB.out.1];omega
         case rel=>exact⟨k+1,sf,wf,l,rfl,by omega,by go_num,hjl,HB.out.2.1,HB.out.2.2.1,HB.out.2.2.2⟩
        ·have ixf:((x:Int) != (from_:Int))=true:=by simp;omega
         clear hxf;go_wp2_with fail;obtain⟨w6,hw6,q1,q2,q3,q4⟩:∃w6,w6=wr.setCell ⟨w1.heap.size,x,none⟩ (.bool true)∧w6.cell? ⟨w2.heap.size,s,none⟩=some (.string (wf s))∧w6.cell? ⟨w2.heap.size,x,none⟩=some (.string (wf x))∧w6.frozen? ⟨w2.heap.size,x,none⟩=false∧w2.heap.size<w6.heap.size:=by
          have hb:(wr.setCell ⟨w1.heap.size,x,none⟩ (.bool true)).heap[w2.heap.size]? =wr.heap[w2.heap.size]? :=lJ _ _ _ _ hg12.symm;exact⟨_,rfl,(cell?_of_block hb).trans yw,(cell?_of_block hb).trans ywx,(frozen?_of_block hb).trans zw,by simpa[World.setCell] using v2⟩
         rw[<-hw6];have HW6:Hid (w6=wr.setCell ⟨w1.heap.size,x,none⟩ (.bool true)):=hw6;clear hw6 yw ywx zw ys zs yo yg yx;have HW:Hid (w2.heap.size<w6.heap.size∧w6.cell? ⟨w2.heap.size,s,none⟩=some (.string (wf s))∧w6.cell? ⟨w2.heap.size,x,none⟩=some (.string (wf x))∧w6.frozen? ⟨w2.heap.size,x,none⟩=false):=⟨q4,q1,q2,q3⟩
         have h1z:((⟨#[UInt8.ofNat k]⟩:ByteArray)).size=1:=rfl;go_region_with ((go_at_call 150;go_must ((refine (zCI _ k hk2).mono ?_;rintro e w7 ⟨rfl,hk7⟩;have q5:w7.cell? ⟨w2.heap.size,s,none⟩=some (.string (wf s)):=zA (w:=w6.drew) HW.out.2.1 HW.out.1 hk7;have q6:w7.cell? ⟨w2.heap.size,x,none⟩=some (.string (wf x)):=zA (w:=w6.drew) HW.out.2.2.1 HW.out.1 hk7;have q7:w7.frozen? ⟨w2.heap.size,x,none⟩=false:=zG7 (w:=w6.drew) HW.out.2.2.2 HW.out.1 hk7))))
         all_goals
          obtain⟨w8,hw8,A8,hs8⟩:∃w8,w8=w7.setCell ⟨w2.heap.size,x,none⟩ (.string (wf s++⟨#[UInt8.ofNat k]⟩))∧Hid ((Row w8 w.heap.size 4 (.slice (some ⟨w1.heap.size,0,none⟩) n n) n (fun i=>.bool (if i=x then true else sf i))∧Row w8 w.heap.size 9 (.slice (some ⟨w2.heap.size,0,none⟩) n n) n (fun i=>.string (if i=x then wf s++⟨#[UInt8.ofNat k]⟩ else wf i))∧OwnI w8 w.heap.size (.slice al l.length cl) l)∧Grew w w8∧w8.heap[w.heap.size]? =some (.cells #[.slice (some ⟨b,o,none⟩) n cn,.slice ar m.rules.length cr,.int .i64 m.start] 127))∧w.heap.size<w8.heap.size:=by
           have h6:=HW6.out;subst h6;have hbx:=HB.out.2.2.2;have hk7':Keep (wr.setCell ⟨w1.heap.size,x,none⟩ (.bool true)).heap.size (wr.setCell ⟨w1.heap.size,x,none⟩ (.bool true)).heap.size (wr.setCell ⟨w1.heap.size,x,none⟩ (.bool true)) w7:=Keep.undrew hk7;have hs6:(wr.setCell ⟨w1.heap.size,x,none⟩ (.bool true)).heap.size=wr.heap.size:=by simp[World.setCell]
           have n1:w.heap.size≠w1.heap.size:=fun e=>zL HB.out.2.1.seen hbx (by decide) (by rw[e];rfl);have n2:w.heap.size≠w2.heap.size:=fun e=>zL HB.out.2.1.words hbx (by decide) (by rw[e];rfl);refine⟨_,rfl,⟨HB.out.2.1.mark x _ hk7',?_,?_⟩,?_⟩
           ·exact((HB.out.2.2.1.trans (zN _ _ _ _ (by omega))).trans (hk7'.lower (by rw[hs6];omega) (by rw[hs6];omega))).trans (zN _ _ _ _ (by omega))
           ·refine(lJ _ _ _ _ n2).trans ((hk7'.block _ (by rw[hs6];omega) (by rw[hs6];omega)).trans ((lJ _ _ _ _ n1).trans hbx))
           ·have:=hk7'.size
            rw[hs6] at this;simp[World.setCell];omega
          rw[<-hw8];clear hw8 q5 q6 q7 hk7;have OR:Hid (w8.ownsRow w.heap.size 3 1 (.slice al l.length cl) l.length (l.map fun x=>.int .i64 x)):=A8.out.1.2.2;have hsz8:w.heap.size<=w8.heap.size:=Nat.le_of_lt hs8;go_wp2_with (first|(at_builtin;refine wpList_append_lies _ rfl _ _ 45 rfl (w.heap.size) 3 i0 (.int .i64 0) 1 8 underlying45 hi0 hz0 hz1 hz2 rfl (by decide) _ _ _ rfl (OR.out.alloc _) ⟨w8.heap.size,0,none⟩ 1 1 [.int .i64 (x:Int)] rfl rfl (cell_one_new _ _ _) (by intro u hu;simp at hu;subst hu;rfl) (by decide) (by unfold maxLen;omega) (by omega) (by simp;omega) _ rfl ?_;intro gg cap w9 hown hgrow hat hlt2;have hB:=xP OR.out hgrow hsz8))
          have A9:Hid (Wy w9 w.heap.size w1.heap.size w2.heap.size n (fun i=>if i=x then true else sf i) (fun i=>if i=x then wf s++⟨#[UInt8.ofNat k]⟩ else wf i) (.slice (some ⟨gg,0,none⟩) (l.length+1) cap) (l++[(x:Int)])∧Grew w w9∧w9.heap[w.heap.size]? =some (.cells #[.slice (some ⟨b,o,none⟩) n cn,.slice ar m.rules.length cr,.int .i64 m.start] 127)):=by
           have hbx:=A8.out.2.2;refine⟨Wy.more x _ HB.out.2.1.all HB.out.2.1.len HB.out.2.1.size hxn HSF.out ?_ A8.out.1.1 A8.out.1.2.1 A8.out.1.2.2 hown hgrow,A8.out.2.1.trans (xN hB),(hgrow.block _ (by simp;omega) (zL OR.out hbx (by decide))).trans ((lG _ _ _ hs8).trans hbx)⟩;rw[ByteArray.size_append];show _+1<=_;omega
          clear hown hgrow hB hat
          go_wp2_with fail;go_roundg (256-(k+1))
          case measure=>rw[HB.out.1];omega
          case rel=>exact⟨k+1,_,_,_,rfl,by omega,by go_num,by rw[kX];omega,A9.out.1,A9.out.2.1,A9.out.2.2⟩
    ·have i3:(256:Int)<=(k:Int):=by omega
     clear hgk hkp hbx;go_wp2_with fail;go_roundg (n+1-(j+1))
     case measure=>rw[HA.out.1];omega
     case rel=>exact⟨j+1,sf,wf,l,rfl,hjl,by go_num,HB.out.2.1,HB.out.2.2.1,HB.out.2.2.2⟩
  ·have i1:(l.length:Int)<=(j:Int):=by omega
   clear hgk hkp hbx;go_wp2_with fail;go_ret2
   exact⟨⟨#[]⟩,-1,rfl,lX,by omega,by omega,HA.out.2.2.1⟩
structure Boxed (w w':World)(b:Nat)(nv rv:Value)(m:Sm):Prop where
 c0:w'.cell? ⟨b,0,none⟩=some nv
 c1:w'.cell? ⟨b,1,none⟩=some rv
 c2:w'.cell? ⟨b,2,none⟩=some (.int .i64 m.start)
 keep:Grew w w'
 lt:b<w'.heap.size
theorem Boxed.made (w:World)(nv rv:Value)(m:Sm):Boxed w (w.alloc (.cells #[nv,rv,.int .i64 m.start] 127)) w.heap.size nv rv m:=by
 have h:=gG w (.cells #[nv,rv,.int .i64 m.start] 127);refine⟨?_,?_,?_,kZ _ _ lQ,by simp⟩ <;> ·unfold cell?;rw[h];rfl
theorem Boxed.grown {w w' w2:World}{b:Nat}{nv rv:Value}{m:Sm}(h:Boxed w w' b nv rv m)(hk:Grew w' w2):Boxed w w2 b nv rv m:=
 ⟨zA h.c0 h.lt hk,zA h.c1 h.lt hk,zA h.c2 h.lt hk,h.keep.trans (hk.lower h.keep.size h.keep.size),lZ h.lt hk.size⟩
theorem Boxed.drew {w w':World}{b:Nat}{nv rv:Value}{m:Sm}(h:Boxed w w' b nv rv m):Boxed w w'.drew b nv rv m:=⟨h.c0,h.c1,h.c2,h.keep.trans (Keep.drew _),h.lt⟩
theorem Boxed.living {w w':World}{nv rv:Value}{m:Sm}(hT:TblAt w nv rv m)(hm:m.Tbl)(b:Nat)(h:Boxed w w' b nv rv m):
  Calls prog 144 #[.agg #[nv,rv,.int .i64 m.start]] w' fun e w''=>∃u,e=.returned u∧BoolsAt w'' (In w'') u m.next.length zBV∧Boxed w w'' b nv rv m∧Grew w' w'':=by
 refine(zGY w' nv rv m (hT.grown h.keep) hm).mono ?_;rintro e w2 ⟨u,rfl,hu,hk⟩;exact⟨u,rfl,hu.at hm.one,h.grown hk,hk⟩
theorem Boxed.only {w w':World}{nv rv:Value}{m:Sm}(hT:TblAt w nv rv m)(hm:m.Tbl)(one b:Nat)(h:Boxed w w' b nv rv m):
  Calls prog 148 #[.agg #[nv,rv,.int .i64 m.start],.int .i64 one] w' fun e w''=>∃u,e=.returned u∧BoolsAt w'' (In w'') u m.next.length (zBU one)∧Boxed w w'' b nv rv m∧Grew w' w'':=by
 refine(zI1 w' nv rv m (hT.grown h.keep) hm one).mono ?_;rintro e w2 ⟨u,rfl,hu,hk⟩;exact⟨u,rfl,hu.at hm.one,h.grown hk,hk⟩
theorem Boxed.tokens {w w':World}{nv rv:Value}{m:Sm}(hT:TblAt w nv rv m)(hm:m.Tbl)(b:Nat)(h:Boxed w w' b nv rv m):
  Calls prog 140 #[.agg #[nv,rv,.int .i64 m.start]] w' fun e w''=>∃u,e=.returned u∧BoolsAt w'' (In w'') u m.next.length (zCm m)∧Boxed w w'' b nv rv m∧Grew w' w'':=by
 refine(zC0 w' nv rv m (hT.grown h.keep) hm).mono ?_;rintro e w2 ⟨u,rfl,hu,hk⟩;rw[hm.rules] at hu;exact⟨u,rfl,hu.at hm.one,h.grown hk,hk⟩
theorem Boxed.way {w w':World}{nv rv ov gv:Value}{m:Sm}(hT:TblAt w nv rv m)(hm:m.Tbl)(b from_:Nat)(hfr:from_<m.next.length)(fo fg:Nat->Bool)(h:Boxed w w' b nv rv m)(hO:BoolsAt w' (In w') ov m.next.length fo)(hG:BoolsAt w' (In w') gv m.next.length fg):
  Calls prog 146 #[.agg #[nv,rv,.int .i64 m.start],.int .i64 from_,ov,gv] w' fun e w''=>∃(z:ByteArray) (a:Int),e=.returned (.tuple #[.string z,.int .i64 a])∧z.size<=300∧-1<=a∧a<m.next.length∧Boxed w w'' b nv rv m∧Grew w' w'':=by
 refine(zJ8 w' nv rv ov gv m (hT.grown h.keep) hm from_ hfr fo fg hO hG).mono ?_;rintro e w2 ⟨z,a,rfl,hz,ha,hb,hk⟩;exact⟨z,a,rfl,hz,ha,hb,h.grown hk,hk⟩
theorem zEu (w:World)(nv rv ov:Value)(m:Sm)(hT:TblAt w nv rv m)(hm:m.Tbl)(s:Nat)(hs:s<m.next.length)(fo:Nat->Bool)(hO:BoolsAt w (In w) ov m.next.length fo):
  Calls prog 180 #[.agg #[nv,rv,.int .i64 m.start],.int .i64 s,ov] w fun e w'=>∃x:Bool,e=.returned (.bool x)∧Grew w w':=by
 have h0:=Boxed.made w nv rv m;have HC1:Hid (∀w',Boxed w w' w.heap.size nv rv m->_):=fun w' h=>Boxed.only (w':=w') hT hm s w.heap.size h;have HC2:Hid (∀w' gv,Boxed w w' w.heap.size nv rv m->BoolsAt w' (In w') gv m.next.length (zBU s)->_):=fun w' gv h hG=>Boxed.way (w':=w') (gv:=gv) hT hm w.heap.size s hs fo (zBU s) h (hO.grown h.keep) hG;go_in;apply wp_cut;intro K0 J;go_wp2;apply J.out;generalize w.alloc (.cells #[nv,rv,.int .i64 m.start] 127)=w1 at *;have y0:=h0.c0;have y1:=h0.c1;have y2:=h0.c2;have H0:=vl h0;go_wp2;go_region_with ((first|(go_at_call 148;go_must ((refine (HC1.out _ H0.out.drew).mono ?_;rintro e w5 ⟨u,rfl,hu,hb5,-⟩;have z0:=hb5.c0;have z1:=hb5.c1;have z2:=hb5.c2)))|(go_at_call 146;go_must ((refine (HC2.out _ _ hb5 hu).mono ?_;rintro e w6 ⟨z,a,rfl,hz,ha,ha2,hb6,-⟩)))))
 all_goals
  go_wp2;go_ret;exact⟨_,rfl,hb6.keep⟩
theorem zCY (w:World)(nv rv:Value)(m:Sm)(hT:TblAt w nv rv m)(hm:m.Tbl)(st:Nat)(hst:m.start=(st:Int))(hs2:st<m.next.length)(s:Nat):
  Calls prog 147 #[.agg #[nv,rv,.int .i64 m.start],.int .i64 s] w fun e w'=>∃z:ByteArray,e=.returned (.string z)∧z.size<=300∧Grew w w':=by
 have h0:=Boxed.made w nv rv m;have HC1:Hid (∀w',Boxed w w' w.heap.size nv rv m->_):=fun w' h=>Boxed.only (w':=w') hT hm s w.heap.size h;have HC3:Hid (∀w',Boxed w w' w.heap.size nv rv m->_):=fun w' h=>Boxed.living (w':=w') hT hm w.heap.size h;have HC2:Hid (∀w' ov gv,Boxed w w' w.heap.size nv rv m->BoolsAt w' (In w') ov m.next.length zBV->BoolsAt w' (In w') gv m.next.length (zBU s)->_):=fun w' ov gv h hO hG=>Boxed.way (w':=w') (gv:=gv) hT hm w.heap.size st hs2 zBV (zBU s) h hO hG;have HST:=vl hst;have HC2:Hid (∀w' ov gv,Boxed w w' w.heap.size nv rv m->BoolsAt w' (In w') ov m.next.length zBV->BoolsAt w' (In w') gv m.next.length (zBU s)->Calls prog 146 #[.agg #[nv,rv,.int .i64 m.start],.int .i64 m.start,ov,gv] w' fun e w''=>∃(z:ByteArray) (a:Int),e=.returned (.tuple #[.string z,.int .i64 a])∧z.size<=300∧-1<=a∧a<m.next.length∧Boxed w w'' w.heap.size nv rv m∧Grew w' w''):=by
  intro w' ov gv h hO hG;have h:=HC2.out w' ov gv h hO hG;rw[<-hst] at h;exact h
 clear hst;go_in;apply wp_cut;intro K0 J;go_wp2;apply J.out;generalize w.alloc (.cells #[nv,rv,.int .i64 m.start] 127)=w1 at *;have y0:=h0.c0;have y1:=h0.c1;have y2:=h0.c2;have H0:=vl h0;go_wp2;go_region_held3 (fun w'=>w'.cell? ⟨w.heap.size,0,none⟩=some nv∧w'.cell? ⟨w.heap.size,1,none⟩=some rv∧w'.cell? ⟨w.heap.size,2,none⟩=some (.int .i64 m.start)) (first|exact⟨z0,z1,z2⟩|go_keep) (first|(go_at_call 144;go_must ((refine (HC3.out _ (by first|exact hbO|exact H0.out.drew)).mono ?_;rintro e wL ⟨ul,rfl,hul,hbL,hkL⟩;have z0:=hbL.c0;have z1:=hbL.c1;have z2:=hbL.c2)))|(go_at_call 148;go_must ((refine (HC1.out _ (by first|exact hbL|exact H0.out.drew)).mono ?_;rintro e wO ⟨uo,rfl,huo,hbO,hkO⟩;have z0:=hbO.c0;have z1:=hbO.c1;have z2:=hbO.c2)))|(go_at_call 146;go_must ((refine (HC2.out _ _ _ (by first|exact hbO|exact hbL) (by first|exact hul|exact hul.grown hkO) (by first|exact huo|exact huo.grown hkL)).mono ?_;rintro e w6 ⟨z,a,rfl,hz,ha,ha2,hb6,-⟩;have z0:=hb6.c0;have z1:=hb6.c1;have z2:=hb6.c2))))
 all_goals
  go_wp2;go_ret;exact⟨_,rfl,hz,hb6.keep⟩
theorem OwnF.more {w:World}{H g cap n:Nat}{f:Nat->Bool}{x:Bool}(h:w.ownsRow H 4 1 (.slice (some ⟨g,0,none⟩) (n+1) cap) (n+1) ((List.range n).map (fun i=>.bool (f i))++[.bool x])):OwnF w H (.slice (some ⟨g,0,none⟩) (n+1) cap) (n+1) (fun i=>if i=n then x else f i):=by
 refine OwnF.snoc ?_ (if_pos rfl);have e:(List.range n).map (fun i=>Value.bool (if i=n then x else f i))=(List.range n).map (fun i=>Value.bool (f i)):=by
  apply List.map_congr_left;intro i hi;have:=List.mem_range.1 hi;rw[if_neg (by omega)]
 rw[e];exact h
theorem Boxed.below {w w' w2:World}{b:Nat}{nv rv:Value}{m:Sm}(h:Boxed w w' b nv rv m)(hb:w.heap.size<=b)(hB:Below (b+1) w' w2):Boxed w w2 b nv rv m:=by
 have e:=hB.block b (Nat.lt_succ_self b);exact⟨(cell?_of_block e).trans h.c0,(cell?_of_block e).trans h.c1,(cell?_of_block e).trans h.c2,h.keep.trans ⟨hB.os,hB.output,hB.size,fun k hk _=>hB.block k (by omega)⟩,lZ h.lt hB.size⟩
theorem zEY (w:World)(nv rv ov:Value)(m:Sm)(hT:TblAt w nv rv m)(hm:m.Tbl)(fo:Nat->Bool)(hO:BoolsAt w (In w) ov m.next.length fo):
  Calls prog 145 #[.agg #[nv,rv,.int .i64 m.start],ov] w fun e w'=>∃u f,e=.returned u∧OwnF w' w.heap.size u m.next.length f∧Grew w w':=by
 obtain⟨i0,hi0,hz0,hz1,hz2⟩:=info_parts qP;have h0:=Boxed.made w nv rv m;obtain⟨bo,oo,co,hbo,hov,_,_,hco⟩:=id hO;have HC1:Hid (∀w' s,Boxed w w' w.heap.size nv rv m->s<m.next.length->Calls prog 180 #[.agg #[nv,rv,.int .i64 m.start],.int .i64 s,ov] w' fun e w2=>∃x:Bool,e=.returned (.bool x)∧Boxed w w2 w.heap.size nv rv m∧Grew w' w2):=by
  intro w' s h hs;refine(zEu w' nv rv ov m (hT.grown h.keep) hm s hs fo (hO.grown h.keep)).mono ?_;rintro e w2 ⟨x,rfl,hk⟩;exact⟨x,rfl,h.grown hk,hk⟩
 have HCO:=vl hco;have h200:=hm.most;have h1:=hm.one;subst hov;generalize m.next.length=n at *
 go_in;apply wp_cut;intro K0 J;go_wp2;apply J.out;generalize w.alloc (.cells #[nv,rv,.int .i64 m.start] 127)=w1 at *;have H0:=vl h0;go_wp2;go_loopg [5,10] n (fun q lst i wr=>∃(s:Nat) (f:Nat->Bool),q=n-s∧s<=n∧i=.int .i64 (s:Int)∧OwnF wr (w.heap.size+1) lst s f∧Boxed w wr w.heap.size nv rv m)
 case atStart=>exact⟨0,fun _=>false,rfl,lX,rfl,ownsRow_nil _ _ _ _,H0.out⟩
 case round=>
  obtain⟨s,f,hgk,hs,rfl,ho,hbx⟩:=hrel;have HA:Hid (gk=n-s∧OwnF wr (w.heap.size+1) u5 s f∧Boxed w wr w.heap.size nv rv m):=⟨hgk,ho,hbx⟩
  obtain⟨ao,cap,hv⟩:=ho.form;subst hv;by_cases hs2:s<n
  ·have i1:(s:Int)<(n:Int):=by omega
   have yo:=zA (HCO.out s hs2) hbo hbx.keep;have y0:=hbx.c0;have y1:=hbx.c1;have y2:=hbx.c2;have hszr:=hbx.lt;cases hf:fo s with
   |false=>
    rw[hf] at yo;have OR:=vl HA.out.2.1;go_wp2_with (first|(at_builtin;refine wpList_append_lies _ rfl _ _ 28 rfl (w.heap.size+1) 4 i0 (.bool false) 1 1 underlying28 hi0 hz0 hz1 hz2 rfl (by decide) _ _ _ rfl (OR.out.alloc _) ⟨wr.heap.size,0,none⟩ 1 1 [.bool false] rfl rfl (cell_one_new _ _ _) (by intro u hu;simp at hu;subst hu;rfl) (by decide) (by unfold maxLen;omega) (by omega) (by simp;omega) _ rfl ?_;intro gg cap2 w2 hown hgrow hat hlt2;have hB:=xP OR.out hgrow hszr))
    have O2:Hid (OwnF w2 (w.heap.size+1) (.slice (some ⟨gg,0,none⟩) (s+1) cap2) (s+1) (fun i=>if i=s then false else f i)∧Boxed w w2 w.heap.size nv rv m):=⟨OwnF.more hown,HA.out.2.2.below lQ hB⟩
    go_wp2;go_roundg (n-(s+1))
    case measure=>rw[HA.out.1];omega
    case rel=>exact⟨s+1,_,rfl,by omega,by go_num,O2.out.1,O2.out.2⟩
   |true=>
    rw[hf] at yo;go_wp2_with (first|(go_at_call 180;refine(HC1.out _ s HA.out.2.2 hs2).mono ?_;rintro e w5 ⟨x,rfl,hb5,hk5⟩;have OR:=vl <| zJ HA.out.2.1 hk5;have hsz5:=hb5.lt)|(at_builtin;refine wpList_append_lies _ rfl _ _ 28 rfl (w.heap.size+1) 4 i0 (.bool false) 1 1 underlying28 hi0 hz0 hz1 hz2 rfl (by decide) _ _ _ rfl (OR.out.alloc _) ⟨w5.heap.size,0,none⟩ 1 1 [.bool x] rfl rfl (cell_one_new _ _ _) (by intro u hu;simp at hu;subst hu;rfl) (by decide) (by unfold maxLen;omega) (by omega) (by simp;omega) _ rfl ?_;intro gg cap2 w2 hown hgrow hat hlt2;have hB:=xP OR.out hgrow hsz5))
    have O2:Hid (OwnF w2 (w.heap.size+1) (.slice (some ⟨gg,0,none⟩) (s+1) cap2) (s+1) (fun i=>if i=s then x else f i)∧Boxed w w2 w.heap.size nv rv m):=⟨OwnF.more hown,hb5.below lQ hB⟩
    go_wp2;go_roundg (n-(s+1))
    case measure=>rw[HA.out.1];omega
    case rel=>exact⟨s+1,_,rfl,by omega,by go_num,O2.out.1,O2.out.2⟩
  ·have hse:s=n:=by omega
   have i1:(n:Int)<=(s:Int):=by omega
   subst hse;go_wp2;go_ret;exact⟨_,_,rfl,Row.mono HA.out.2.1 (Nat.le_succ _),HA.out.2.2.keep⟩
theorem zC6 {fn:Func}{t u v x:Tmp}(h:fn.results=#[.tmp t,.tmp u,.tmp v,.tmp x])(tmps:Array Value)(P:Program)(w:World):
  (results fn tmps).run P w=.ok (.tuple #[tmps.getD t undef,tmps.getD u undef,tmps.getD v undef,tmps.getD x undef]) w:=by
 simp[results,h]
structure Ra (w w':World)(nv rv ev ov kv:Value)(m:Sm)(n:Nat)(fe fo fk:Nat->Bool):Prop where
 box:Boxed w w' w.heap.size nv rv m
 ends:BoolsAt w' (In w') ev n fe
 open_:BoolsAt w' (In w') ov n fo
 rounds:BoolsAt w' (In w') kv n fk
theorem Ra.grown {w w' w2:World}{nv rv ev ov kv:Value}{m:Sm}{n:Nat}{fe fo fk:Nat->Bool}(h:Ra w w' nv rv ev ov kv m n fe fo fk)(hk:Grew w' w2):Ra w w2 nv rv ev ov kv m n fe fo fk:=⟨h.box.grown hk,h.ends.grown hk,h.open_.grown hk,h.rounds.grown hk⟩
theorem Ra.drew {w w':World}{nv rv ev ov kv:Value}{m:Sm}{n:Nat}{fe fo fk:Nat->Bool}(h:Ra w w' nv rv ev ov kv m n fe fo fk):Ra w w'.drew nv rv ev ov kv m n fe fo fk:=⟨h.box.drew,h.ends,h.open_,h.rounds⟩
theorem zDF (w:World)(nv rv:Value)(m:Sm)(hT:TblAt w nv rv m)(hm:m.Tbl)(st:Nat)(hst:m.start=(st:Int))(hs2:st<m.next.length):
  Calls prog 105 #[.agg #[nv,rv,.int .i64 m.start]] w fun e w'=>∃a x y z:ByteArray,e=.returned (.tuple #[.string a,.string x,.string y,.string z])∧(a.size<=300∧x.size<=300∧y.size<=300∧z.size<=300)∧Grew w w':=by
 have h0:=Boxed.made w nv rv m;have h200:=hm.most;have h1:=hm.one;have HC1:Hid (∀w',Boxed w w' w.heap.size nv rv m->_):=fun w' h=>Boxed.tokens (w':=w') hT hm w.heap.size h;have HC2:Hid (∀w',Boxed w w' w.heap.size nv rv m->_):=fun w' h=>Boxed.living (w':=w') hT hm w.heap.size h;have HC3:Hid (∀(w':World) va vb fa fb,BoolsAt w' (In w') va m.next.length fa->BoolsAt w' (In w') vb m.next.length fb->Calls prog 143 #[va,vb] w' fun e w2=>∃u,e=.returned u∧BoolsAt w2 (In w2) u m.next.length (qU fa fb)∧Grew w' w2):=by
  intro w' va vb fa fb h1 h2;refine(zCn w' va vb m.next.length fa fb h1 h2 hm.most).mono ?_;rintro e w2 ⟨u,rfl,hu,hk⟩;exact⟨u,rfl,hu.at hm.one,hk⟩
 have HC4:Hid (∀w' ov fo,Boxed w w' w.heap.size nv rv m->BoolsAt w' (In w') ov m.next.length fo->Calls prog 145 #[.agg #[nv,rv,.int .i64 m.start],ov] w' fun e w2=>∃u f,e=.returned u∧BoolsAt w2 (In w2) u m.next.length f∧Boxed w w2 w.heap.size nv rv m∧Grew w' w2):=by
  intro w' ov fo h h2;refine(zEY w' nv rv ov m (hT.grown h.keep) hm fo h2).mono ?_;rintro e w2 ⟨u,f,rfl,hu,hk⟩;exact⟨u,f,rfl,hu.at hm.one,h.grown hk,hk⟩
 have HC5:Hid (∀w' s ov gv fo fg,s<m.next.length->Boxed w w' w.heap.size nv rv m->BoolsAt w' (In w') ov m.next.length fo->BoolsAt w' (In w') gv m.next.length fg->_):=fun w' s ov gv fo fg hs h hO hG=>Boxed.way (w':=w') (gv:=gv) hT hm w.heap.size s hs fo fg h hO hG;have HC6:Hid (∀w' s,Boxed w w' w.heap.size nv rv m->Calls prog 147 #[.agg #[nv,rv,.int .i64 m.start],.int .i64 ((s:Nat):Int)] w' fun e w2=>∃z:ByteArray,e=.returned (.string z)∧z.size<=300∧Grew w' w2):=fun w' s h=>zCY w' nv rv m (hT.grown h.keep) hm st hst hs2 s;have HC7:Hid (∀w' s,Boxed w w' w.heap.size nv rv m->_):=fun w' s h=>Boxed.only (w':=w') hT hm s w.heap.size h;clear hT hm hst hs2;generalize hn:m.next.length=n at *
 have HN:Hid (m.next.length=n):=hn;clear hn;go_enter func105,ntmps105
 refine wp_seq_k ?_;intro K0 hK0;have J:Hid (∀a w,_->K0 a w):=hK0;clear hK0;go_wp2_with fail;apply J.out;clear J;generalize w.alloc (.cells #[nv,rv,.int .i64 m.start] 127)=w1 at *;have y0:=h0.c0;have y1:=h0.c1;have y2:=h0.c2;have H0:Hid (Boxed w w1 w.heap.size nv rv m):=h0;clear h0;go_wp2_with (first|(go_at_call 140;refine(HC1.out _ H0.out).mono ?_;rintro e w2 ⟨ev,rfl,he,hb2,-⟩;obtain⟨be,oe,ce,hbe,rfl,-⟩:=id he;have z0:=hb2.c0;have z1:=hb2.c1;have z2:=hb2.c2)|(go_at_call 144;refine(HC2.out _ hb2).mono ?_;rintro e w3 ⟨lv,rfl,hl3,hb3,hk3⟩)|(go_at_call 143;refine(HC3.out _ _ _ _ _ hl3 (he.grown hk3)).mono ?_;rintro e w4 ⟨ov,rfl,hov,hk4⟩;have hb4:=hb3.grown hk4;have x0:=hb4.c0;have x1:=hb4.c1;have x2:=hb4.c2)|(go_at_call 145;refine(HC4.out _ _ _ hb4 hov).mono ?_;rintro e w5 ⟨kv,fk,rfl,hkv,hb5,hk5⟩))
 have RA:Hid (Ra w w5 nv rv (.slice (some ⟨be,oe,none⟩) n ce) ov kv m n (zCm m) (qU zBV (zCm m)) fk):=⟨hb5,((he.grown hk3).grown hk4).grown hk5,hov.grown hk5,hkv⟩
 clear z0 z1 z2 x0 x1 x2 y0 y1 y2 hb2 hb3 hb4 hb5 hk3 hk4 hk5 hl3 hov hkv he hbe;generalize qU zBV (zCm m)=fo at *;generalize zCm m=fe at *;go_loopg [29] n (fun q i wr=>∃s:Nat,q=n-s∧s<=n∧i=.int .i64 (s:Int)∧Ra w wr nv rv (.slice (some ⟨be,oe,none⟩) n ce) ov kv m n fe fo fk)
 case atStart=>exact⟨0,rfl,lX,rfl,RA.out⟩
 case round=>
  obtain⟨s,hgk,hs,rfl,hr⟩:=hrel;have HA:Hid (gk=n-s∧Ra w wr nv rv (.slice (some ⟨be,oe,none⟩) n ce) ov kv m n fe fo fk):=⟨hgk,hr⟩
  by_cases hs2:s<n
  ·have i1:(s:Int)<(n:Int):=by omega
   have ye:wr.cell? ⟨be,oe+s,none⟩=some (.bool (fe s)):=by
    obtain⟨b',o',c',_,hv,_,_,hc⟩:=hr.ends;injection hv with e1 _ _;injection e1 with e1;injection e1 with e1 e2;rw[e1,e2];exact hc s hs2
   have y0:=hr.box.c0;have y1:=hr.box.c1;have y2:=hr.box.c2;clear hgk hr;cases hf:fe s with
   |false=>
    rw[hf] at ye;clear hf;go_wp2_with fail;go_roundg (n-(s+1))
    case measure=>rw[HA.out.1];omega
    case rel=>exact⟨s+1,rfl,by omega,by go_num,HA.out.2⟩
   |true=>
    rw[hf] at ye;clear hf;go_wp2_with (first|(go_at_call 146;refine(HC5.out _ s _ _ _ _ hs2 HA.out.2.box HA.out.2.open_ HA.out.2.rounds).mono ?_;rintro e w6 ⟨x,at_,rfl,hx,ha1,ha2,hb6,hk6⟩;have z0:=hb6.c0;have z1:=hb6.c1;have z2:=hb6.c2;have R6:=HA.out.2.grown hk6)|(go_at_call 147;refine(HC6.out _ s hb6).mono ?_;rintro e w7 ⟨a,rfl,hz,hk7⟩))
    ·go_roundg (n-(s+1))
     case measure=>rw[HA.out.1];omega
     case rel=>exact⟨s+1,rfl,by omega,by go_num,R6⟩
    ·have hat:0<=at_:=by omega
     obtain⟨c,rfl⟩:∃c:Nat,at_=(c:Int):=⟨at_.toNat,by omega⟩
     have hcn:c<n:=by omega
     have R7:=R6.grown hk7;have H7:Hid (Ra w w7 nv rv (.slice (some ⟨be,oe,none⟩) n ce) ov kv m n fe fo fk):=R7;have x0:=R7.box.c0;have x1:=R7.box.c1;have x2:=R7.box.c2;have hza:Hid (a.size<=300∧x.size<=300):=⟨hz,hx⟩
     clear z0 z1 z2 hk6 hk7 hb6 R6 R7 ye y0 y1 y2 hz hx ha1 ha2;go_region_held3 (fun w'=>w'.cell? ⟨w.heap.size,0,none⟩=some nv∧w'.cell? ⟨w.heap.size,1,none⟩=some rv∧w'.cell? ⟨w.heap.size,2,none⟩=some (.int .i64 m.start)) (first|exact⟨z0,z1,z2⟩|go_keep) (first|(go_at_call 148;refine(HC7.out _ c H7.out.drew.box).mono ?_;rintro e w8 ⟨uo,rfl,huo,hb8,hk8⟩;have R8:=H7.out.drew.grown hk8;have z0:=hb8.c0;have z1:=hb8.c1;have z2:=hb8.c2)|(go_at_call 146;refine(HC5.out _ c _ _ _ _ hcn R8.box R8.open_ huo).mono ?_;rintro e w9 ⟨y,a9,rfl,hy,-,-,hb9,hk9⟩;have z0:=hb9.c0;have z1:=hb9.c1;have z2:=hb9.c2))
     all_goals
      have R9:=R8.grown hk9;have H9:Hid (Ra w w9 nv rv (.slice (some ⟨be,oe,none⟩) n ce) ov kv m n fe fo fk∧y.size<=300):=⟨R9,hy⟩
      clear hb8 hk8 hb9 hk9 huo R8 R9 hy;go_wp2_with (first|(go_at_call 146;refine(HC5.out _ c _ _ _ _ hcn H9.out.1.box H9.out.1.open_ H9.out.1.ends).mono ?_;rintro e w10 ⟨z,a10,rfl,hz,-,-,hb10,-⟩))
      (try simp only[Exit.inBlock,Exit.then])
      refine bodyPost_ret (zC6 rfl _ _ _) rfl ?_;exact⟨_,_,_,_,rfl,⟨hza.out.1,hza.out.2,H9.out.2,hz⟩,hb10.keep⟩
  ·have i1:(n:Int)<=(s:Int):=by omega
   clear hgk hr;go_wp2_with fail
   (try simp only[Exit.inBlock,Exit.then])
   refine bodyPost_ret (zC6 rfl _ _ _) rfl ?_;exact⟨_,_,_,_,rfl,⟨lX,lX,lX,lX⟩,HA.out.2.box.keep⟩
theorem FrontsAt.open_ {w:World}{H d:Nat}{v:Value}{m:Sm}(h:FrontsAt w H v d m)(hd:0<d)(hn:1<=m.next.length):∃g c,v=.slice (some ⟨g,0,none⟩) d c∧g<w.heap.size∧∀i,i<d->∃u,w.cell? ⟨g,i,none⟩=some u∧BoolsAt w (In w) u m.next.length (yL m i):=by
 obtain⟨rv,h1,h2⟩:=h;have h1:Row w H 28 v d rv:=h1;obtain⟨g,cap,hv,g1,g2,g3,g4,g5,g6⟩:=h1.get hd;exact⟨g,cap,hv,g2,fun i hi=>⟨rv i,g5 i hi,(h2 i hi).at hn⟩⟩
theorem zI0 (w:World)(nv rv fv:Value)(m:Sm)(hT:TblAt w nv rv m)(hm:m.Tbl)(st:Nat)(hst:m.start=(st:Int))(hs2:st<m.next.length)(G d:Nat)(hF:FrontsAt w G fv d m)(hd:d<=m.next.length):
  Calls prog 106 #[.agg #[nv,rv,.int .i64 m.start],fv] w fun e w'=>∃a x:ByteArray,e=.returned (.tuple #[.string a,.string x])∧(a.size<=300∧x.size<=600)∧Grew w w':=by
 have h0:=Boxed.made w nv rv m;have h200:=hm.most;have h1:=hm.one;have HC1:Hid (∀w' v f,Boxed w w' w.heap.size nv rv m->BoolsAt w' (In w') v m.next.length f->Calls prog 141 #[.agg #[nv,rv,.int .i64 m.start],v] w' fun e w2=>∃u,e=.returned u∧BoolsAt w2 (In w2) u m.next.length (vL m f)∧Boxed w w2 w.heap.size nv rv m∧Grew w' w2):=by
  intro w' v f h hf;refine(zCq w' nv rv v m (hT.grown h.keep) hm f hf).mono ?_;rintro e w2 ⟨u,rfl,hu,hk⟩;exact⟨u,rfl,hu.at hm.one,h.grown hk,hk⟩
 have HC2:Hid (∀w' v f,BoolsAt w' (In w') v m.next.length f->_):=fun w' v f h=>zEj w' v m.next.length f h hm.most
 have HC3:Hid (∀w' v f to,Boxed w w' w.heap.size nv rv m->BoolsAt w' (In w') v m.next.length f->Calls prog 149 #[.agg #[nv,rv,.int .i64 m.start],v,.int .i64 to] w' fun e w2=>∃s b:Nat,s<m.next.length∧b<256∧e=.returned (.tuple #[.int .i64 s,.int .i64 b])∧Boxed w w2 w.heap.size nv rv m∧Grew w' w2):=by
  intro w' v f to h hf;refine(zFU w' nv rv v m (hT.grown h.keep) hm f hf to).mono ?_;rintro e w2 ⟨s,b,hs,hb,rfl,hk⟩;exact⟨s,b,hs,hb,rfl,h.grown hk,hk⟩
 have HC4:Hid (∀w' b,b<256->Boxed w w' w.heap.size nv rv m->Calls prog 150 #[.int .i64 ((b:Nat):Int)] w' fun e w2=>e=.returned (.string ⟨#[UInt8.ofNat b]⟩)∧Boxed w w2 w.heap.size nv rv m∧Grew w' w2):=by
  intro w' b hb h;refine(zCI w' b hb).mono ?_;rintro e w2 ⟨rfl,hk⟩;exact⟨rfl,h.grown hk,hk⟩
 have HC6:Hid (∀w' s,Boxed w w' w.heap.size nv rv m->Calls prog 147 #[.agg #[nv,rv,.int .i64 m.start],.int .i64 ((s:Nat):Int)] w' fun e w2=>∃z:ByteArray,e=.returned (.string z)∧z.size<=300∧Grew w' w2):=fun w' s h=>zCY w' nv rv m (hT.grown h.keep) hm st hst hs2 s;clear hT hm hst hs2;have hdI:(d:Int)<=200:=by omega
 by_cases hd0:0<d
 ·obtain⟨g,c,rfl,hg,hcl⟩:=hF.open_ hd0 h1
  have HF:=vl hcl;have e0:¬(d:Int)=0:=by omega
  obtain⟨ul,hul,hbl⟩:=hcl (d-1) (by omega);have ew:IntKind.i64.wrap ((d:Int)-1)=((d-1:Nat):Int):=by rw[zAQ _ (by omega) (by omega)];omega
  have i2:((d-1:Nat):Int)<(d:Int):=by omega
  go_in;apply wp_cut;intro K0 J;go_wp2;apply J.out;generalize w.alloc (.cells #[nv,rv,.int .i64 m.start] 127)=w1 at *;have y0:=h0.c0;have y1:=h0.c1;have y2:=h0.c2;have yl:=zA hul hg h0.keep;have H0:Hid (Boxed w w1 w.heap.size nv rv m∧BoolsAt w1 (In w1) ul m.next.length (yL m (d-1))):=⟨h0,hbl.grown h0.keep⟩
  go_wp2;go_region_held3 (fun w'=>w'.cell? ⟨w.heap.size,0,none⟩=some nv∧w'.cell? ⟨w.heap.size,1,none⟩=some rv∧w'.cell? ⟨w.heap.size,2,none⟩=some (.int .i64 m.start)∧w'.cell? ⟨g,d-1,none⟩=some ul) (first|exact⟨z0,z1,z2,z3⟩|go_keep) (first|(go_at_call 141;refine(HC1.out _ _ _ H0.out.1.drew H0.out.2).mono ?_;rintro e w2 ⟨u,rfl,hu,hb2,hk2⟩;have z0:=hb2.c0;have z1:=hb2.c1;have z2:=hb2.c2;have z3:=zA (w:=w1.drew) yl (lZ hg H0.out.1.keep.size) hk2));have H2:Hid (Boxed w w2 w.heap.size nv rv m∧BoolsAt w2 (In w2) u m.next.length (vL m (yL m (d-1)))):=⟨hb2,hu⟩
  go_wp2_with (first|(go_at_call 142;refine(HC2.out _ _ _ H2.out.2).mono ?_;rintro e w3 ⟨rfl,rfl⟩))
  go_loopg [7,8,9] d (fun q at_ rest i wr=>∃(j:Nat) (x:Int) (z:ByteArray),q=j∧j<=d∧i=.int .i64 ((j:Int)-1)∧at_=.int .i64 x∧(j<d->∃s:Nat,x=(s:Int))∧rest=.string z∧z.size+j<=d∧Boxed w wr w.heap.size nv rv m)
  case atStart=>exact⟨d,_,_,rfl,lQ,(by congr 1;omega),rfl,fun h=>absurd h (Nat.lt_irrefl _),rfl,by show 0+d<=d;omega,H2.out.1⟩
  case round=>
   obtain⟨j,x,z,hgk,hj,rfl,rfl,hx,rfl,hz,hbx⟩:=hrel;have HA:Hid (gk=j∧(j<d->∃s:Nat,x=(s:Int))∧Boxed w wr w.heap.size nv rv m):=⟨hgk,hx,hbx⟩
   cases j with
   |zero=>
    obtain⟨s,hs⟩:=hx hd0;subst hs;have y0:=hbx.c0;have y1:=hbx.c1;have y2:=hbx.c2;go_wp2_with (first|(go_at_call 147;refine(HC6.out _ s HA.out.2.2).mono ?_;rintro e w5 ⟨a,rfl,ha,hk5⟩;have hb5:=HA.out.2.2.grown hk5))
    go_ret2
    exact⟨_,_,rfl,⟨ha,by rw[ByteArray.size_append];omega⟩,hb5.keep⟩
   |succ k=>
    have hkd:k<d:=by omega
    have i3:(k:Int)<(d:Int):=by omega
    have i4:(0:Int)<=(k:Int):=by omega
    obtain⟨uk,huk,hbk⟩:=HF.out k hkd;have yk:=zA huk hg hbx.keep;have HBK:=vl <| hbk.grown hbx.keep;have y0:=hbx.c0;have y1:=hbx.c1;have y2:=hbx.c2;have hgr:=lZ hg hbx.keep.size;have e9:(((k+1:Nat):Int)-1)=(k:Int):=by omega
    rw[e9];go_wp2;go_region_held3 (fun w'=>w'.cell? ⟨w.heap.size,0,none⟩=some nv∧w'.cell? ⟨w.heap.size,1,none⟩=some rv∧w'.cell? ⟨w.heap.size,2,none⟩=some (.int .i64 m.start)∧w'.cell? ⟨g,k,none⟩=some uk) (first|exact⟨z0,z1,z2,z3⟩|go_keep) (first|(go_at_call 149;refine(HC3.out _ _ _ _ HA.out.2.2.drew HBK.out).mono ?_;rintro e w5 ⟨s,b,hs,hb,rfl,hb5,hk5⟩;have z0:=hb5.c0;have z1:=hb5.c1;have z2:=hb5.c2;have z3:=zA (w:=wr.drew) yk hgr hk5))
    all_goals
     have H5:=vl hb5;go_wp2_with (first|(go_at_call 150;refine(HC4.out _ b hb H5.out).mono ?_;rintro e w6 ⟨rfl,hb6,-⟩;have hsz:(⟨#[UInt8.ofNat b]⟩:ByteArray).size=1:=rfl))
     go_roundg k
     case measure=>rw[HA.out.1];omega
     case rel=>exact⟨k,_,_,rfl,by omega,rfl,rfl,fun _=>⟨s,rfl⟩,rfl,by rw[ByteArray.size_append];omega,hb6⟩
 ·have hdz:d=0:=by omega
  subst hdz;obtain⟨ao,cap,rfl⟩:∃ao cap,fv=.slice ao 0 cap:=by
   obtain⟨r,hr,_⟩:=hF;exact zE hr
  go_in;go_wp2;go_ret2
  exact⟨_,_,rfl,⟨lX,lX⟩,h0.keep⟩
structure Zm (w:World)(r:Nat):Prop where
 lt:r<w.heap.size
 block:w.heap[r]? =some (.cells #[.int .i64 0,.int .i64 0,.string ⟨#[]⟩,.string ⟨#[]⟩,.string ⟨#[]⟩,.string ⟨#[]⟩,.string ⟨#[]⟩] 139)
theorem Zm.grown {w w':World}{r:Nat}(h:Zm w r)(hk:Grew w w'):Zm w' r:=⟨lZ h.lt hk.size,(hk.block r h.lt (kJ h.lt)).trans h.block⟩
theorem Zm.cells {w:World}{r:Nat}(h:Zm w r):(w.cell? ⟨r,0,none⟩=some (.int .i64 0)∧w.cell? ⟨r,1,none⟩=some (.int .i64 0)∧w.cell? ⟨r,2,none⟩=some (.string ⟨#[]⟩)∧w.cell? ⟨r,3,none⟩=some (.string ⟨#[]⟩)∧w.cell? ⟨r,4,none⟩=some (.string ⟨#[]⟩)∧w.cell? ⟨r,5,none⟩=some (.string ⟨#[]⟩)∧w.cell? ⟨r,6,none⟩=some (.string ⟨#[]⟩))∧(w.frozen? ⟨r,0,none⟩=false∧w.frozen? ⟨r,1,none⟩=false∧w.frozen? ⟨r,2,none⟩=false∧w.frozen? ⟨r,3,none⟩=false∧w.frozen? ⟨r,4,none⟩=false∧w.frozen? ⟨r,5,none⟩=false∧w.frozen? ⟨r,6,none⟩=false):=by
 refine⟨⟨?_,?_,?_,?_,?_,?_,?_⟩,?_,?_,?_,?_,?_,?_,?_⟩
 all_goals first|(unfold cell?;rw[h.block];rfl)|(unfold frozen?;rw[h.block];rfl)
theorem zEM (w:World)(nv rv:Value)(m:Sm)(hT:TblAt w nv rv m)(hm:m.Tbl)(st:Nat)(hst:m.start=(st:Int))(hs2:st<m.next.length):
  Calls prog 67 #[.agg #[nv,rv,.int .i64 m.start]] w fun e w'=>∃a b x y z:ByteArray,e=.returned (.agg #[.int .i64 m.next.length,.int .i64 (qI m),.string a,.string b,.string x,.string y,.string z])∧Grew w w':=by
 have h200:=hm.most;obtain⟨an,cn,rfl,_⟩:=id hT.next
 obtain⟨w1,hw1,H1⟩:∃w1,w1=(w.alloc (.cells #[.slice an m.next.length cn,rv,.int .i64 m.start] 127)).alloc (.cells #[.int .i64 0,.int .i64 0,.string ⟨#[]⟩,.string ⟨#[]⟩,.string ⟨#[]⟩,.string ⟨#[]⟩,.string ⟨#[]⟩] 139)∧Hid (Boxed w w1 w.heap.size (.slice an m.next.length cn) rv m∧Zm w1 (w.heap.size+1)):=by
  have h0:=Boxed.made w (.slice an m.next.length cn) rv m;refine⟨_,rfl,h0.grown (kZ _ _ lQ),⟨by simp,?_⟩⟩;have h:=gG (w.alloc (.cells #[.slice an m.next.length cn,rv,.int .i64 m.start] 127)) (.cells #[.int .i64 0,.int .i64 0,.string ⟨#[]⟩,.string ⟨#[]⟩,.string ⟨#[]⟩,.string ⟨#[]⟩,.string ⟨#[]⟩] 139);simpa using h
 have HC1:Hid (∀w',Boxed w w' w.heap.size (.slice an m.next.length cn) rv m->_):=fun w' h=>zFo w' _ rv m (hT.grown h.keep) hm;have HC2:Hid (∀w',Boxed w w' w.heap.size (.slice an m.next.length cn) rv m->_):=fun w' h=>zDF w' _ rv m (hT.grown h.keep) hm st hst hs2;have HC3:Hid (∀w' fv G d,Boxed w w' w.heap.size (.slice an m.next.length cn) rv m->FrontsAt w' G fv d m->d<=m.next.length->_):=fun w' fv G d h hF hd=>zI0 w' _ rv fv m (hT.grown h.keep) hm st hst hs2 G d hF hd;clear hT hm hst hs2;go_in;apply wp_cut;intro K0 J;go_wp2;apply J.out;rw[<-hw1];clear hw1;have y0:=H1.out.1.c0;have y1:=H1.out.1.c1;have y2:=H1.out.1.c2;apply wp_cut;intro K1 HK1;go_wp2_with (first|(go_at_call 104;refine(HC1.out _ H1.out.1).mono ?_;rintro e w2 ⟨hk2,hh⟩;rcases hh with⟨hd,rfl⟩|⟨d,v,hd,hdn,rfl,hF⟩))
 ·apply HK1.out
  have hb2:=H1.out.1.grown hk2;have hz2:=H1.out.2.grown hk2;have y0:=hb2.c0;have y1:=hb2.c1;have y2:=hb2.c2;have H2:Hid (Boxed w w2 w.heap.size (.slice an m.next.length cn) rv m∧Zm w2 (w.heap.size+1)∧qI m=-1):=⟨hb2,hz2,hd⟩
  go_wp2_with (first|(go_at_call 105;refine(HC2.out _ H2.out.1).mono ?_;rintro e w3 ⟨a,x,y,z,rfl,-,hk3⟩;obtain⟨⟨c0,c1,c2,c3,c4,c5,c6⟩,f0,f1,f2,f3,f4,f5,f6⟩:=(H2.out.2.1.grown hk3).cells;have q0:=(H2.out.1.grown hk3).c0;have H3:=vl <| (H2.out.1.grown hk3).keep))
  refine bodyPost_ret (v:=.agg #[.int .i64 m.next.length,.int .i64 (-1),.string a,.string ⟨#[]⟩,.string x,.string y,.string z]) (by simp[results,results67,go_sem, *]) rfl ⟨a,⟨#[]⟩,x,y,z,by rw[H2.out.2.2],?_⟩;refine H3.out.trans ?_
  iterate 6 refine Keep.trans ?_ (zN _ _ _ _ (by omega))
  exact zN _ _ _ _ (by omega)
 ·apply HK1.out
  have hb2:=H1.out.1.grown hk2;have hz2:=H1.out.2.grown hk2;have y0:=hb2.c0;have y1:=hb2.c1;have y2:=hb2.c2;obtain⟨av,cv,rfl⟩:∃av cv,v=.slice av d cv:=by
   obtain⟨r,hr,_⟩:=hF;exact zE hr
  have H2:Hid (Boxed w w2 w.heap.size (.slice an m.next.length cn) rv m∧Zm w2 (w.heap.size+1)∧qI m=(d:Int)∧FrontsAt w2 w1.heap.size (.slice av d cv) d m):=⟨hb2,hz2,hd,hF⟩
  go_wp2_with (first|(go_at_call 106;refine(HC3.out _ _ _ d H2.out.1 H2.out.2.2.2 hdn).mono ?_;rintro e w3 ⟨a,x,rfl,-,hk3⟩;obtain⟨⟨c0,c1,c2,c3,c4,c5,c6⟩,f0,f1,f2,f3,f4,f5,f6⟩:=(H2.out.2.1.grown hk3).cells;have q0:=(H2.out.1.grown hk3).c0;have H3:=vl <| (H2.out.1.grown hk3).keep))
  refine bodyPost_ret (v:=.agg #[.int .i64 m.next.length,.int .i64 (d:Int),.string a,.string x,.string ⟨#[]⟩,.string ⟨#[]⟩,.string ⟨#[]⟩]) (by simp[results,results67,go_sem, *]) rfl ⟨a,x,⟨#[]⟩,⟨#[]⟩,⟨#[]⟩,by rw[H2.out.2.2.1],?_⟩;refine H3.out.trans ?_
  iterate 6 refine Keep.trans ?_ (zN _ _ _ _ (by omega))
  exact zN _ _ _ _ (by omega)
end Go.Proofs.YtbjcfkdnjaiclaaGreat
