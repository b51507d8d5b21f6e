import Derived.Deep.AppendLies
import Derived.Deep.DrawnRows
import Derived.Deep.LoopGhost
import Derived.Deep.RegionHeld3
import Derived.Deep.RegionLaw
import Derived.Deep.RegionWith
import Derived.KernelRfl
import Derived.Laws.Pointers
import Derived.OwnWalk
import Derived.StillTactics
import Derived.Test.YtbjcfkdnjaiclaaGreatProg
import Derived.WalkKit
import Derived.WalkLawsBesides
import Derived.WalkSpells
import Derived.Test.YtbjcfkdnjaiclaaGreatE0
import Derived.Test.YtbjcfkdnjaiclaaGreatE1
/- Parts of the proof. -/
set_option linter.unusedVariables false
set_option linter.unusedSimpArgs false
set_option maxHeartbeats 4000000
set_option maxRecDepth 100000
namespace Go.Proofs.YtbjcfkdnjaiclaaGreat
open Go.RowKit Go.Proofs.Tryz Go.World
open Go.Value (int slice bool pointer string agg tuple)
open Go.IntKind (i64)
open Go.Ending (returned)
section
attribute [local go_sem ↓] Go.wp_at_zero Go.wp_at_succ
theorem zMi:(prog.info? 51).map (fun i=>(i.zero,i.size,i.bytes))=some (some (agg #[int i64 0,int i64 0,int i64 0,int i64 0,int i64 0,int i64 0]),6,48):=by kernel_rfl
theorem zDF {w w1:World}{o:Obj}{row:Option Nat}(h:(w.alloc o).drew.grownBy w1 row):w.grownBy w1 row:=
 ⟨h.os,h.tape,h.output,lY (by simp) h.size,fun k hk hne=>(h.block k (by simp;omega) hne).trans (lG w o k hk)⟩
def vJ (k r f t l c:Int):List Value:=[int i64 k,int i64 r,int i64 f,int i64 t,int i64 l,int i64 c]
theorem zLS (b:Nat)(kind rule to at_ line col:Int)(ov:Value)(n base:Nat)(xs:List Value)(w:World)
  (h2:w.cell? ⟨b,2,none⟩=some ov)
  (h8:w.cell? ⟨b,8,none⟩=some (int i64 at_)) (h9:w.cell? ⟨b,9,none⟩=some (int i64 line)) (h10:w.cell? ⟨b,10,none⟩=some (int i64 col))
  (f2:w.frozen? ⟨b,2,none⟩=false)
  (hown:w.ownsRow base 51 6 ov n xs) (hbase:base<=w.heap.size) (hn:n+1<=maxLen) (hb:(n+1)*48<=140737488355328)
  (ag:ov.ownBlock≠some b):
  Calls prog 157 #[pointer (some ⟨b,0,none⟩),int i64 kind,int i64 rule,int i64 to] w fun e w'=>
   e=returned (tuple #[])∧∃g cap w1,w1.ownsRow base 51 6 (slice (some ⟨g,0,none⟩) (n+1) cap) (n+1) (xs++vJ kind rule at_ to line col)∧
    w.grownBy w1 ov.ownBlock∧(ov.ownBlock=some g∨g=w.heap.size+1)∧g<w1.heap.size∧w'=w1.setCell ⟨b,2,none⟩ (slice (some ⟨g,0,none⟩) (n+1) cap):=by
 obtain⟨i0,hi0,hz0,hz1,hz2⟩:=info_parts zMi;have lb:=World.block_lt_of_cell? w _ h2;go_enter func157,ntmps157
 go_wp2_with fail;go_region_law ((refine step_append_lies _ (by rfl) (.tmp 12) (.tmp 32) 48 (by rfl) base 51 i0 _ 6 48 underlying48 hi0 hz0 hz1 hz2 rfl (by omega) ov n xs (by simp[Act.eval,Act.put]) ((hown.alloc _).drew) ⟨w.heap.size,0,none⟩ 1 1 (vJ kind rule at_ to line col) (by simp[Act.eval,Act.put]) (by rfl) (news_of_block (cs:=#[int i64 kind,int i64 rule,int i64 at_,int i64 to,int i64 line,int i64 col]) (t:=51) (fr:=(0,0)) (gU w _)) (by simp[Value.oneCell',vJ]) (by omega) hn hb (by simp;omega) (w.heap.size+1) (by simp) ?_;intro gg cap w1 hown1 hgrow hat hlt;have hc1:w1.cell? ⟨b,2,none⟩=some ov:=(hgrow.cell_far ⟨b,2,none⟩ (by simp;omega) (Ne.symm ag)).trans ((cell?_alloc_past _ _ _ lb).trans h2);have hfz1:w1.frozen? ⟨b,2,none⟩=false:=(hgrow.frozen_far ⟨b,2,none⟩ (by simp;omega) (Ne.symm ag)).trans ((frozen?_alloc_past _ _ _ lb).trans f2)))
 all_goals (go_end0;exact⟨rfl,gg,cap,w1,hown1,zDF hgrow,hat,hlt,rfl⟩)
end
theorem zIE (b i:Nat)(w:World)(r:Rs){v0:Value}(hR:zL w b r v0)(hf:r.first<64)(hi:i<64):
  Calls prog 151 #[pointer (some ⟨b,12,none⟩),int i64 i] w fun e w'=>e=returned (int .u8 (r.byte ((r.first+i)%64)))∧w'.Alike w:=by
 have h1:=hR.get_first;have hx:=hR.get_byte ((r.first+i)%64) (gZ _ (by decide));generalize r.first=f at *
 go_in;go_wp2;go_quiet (fail);go_wp2;go_ret;exact⟨rfl,rfl,rfl,rfl⟩
theorem zFn (b n:Nat)(w:World)(r:Rs){v0:Value}(hR:zL w b r v0)(hf:r.first<64)(hn:n<=r.count)(hc:r.count<=64):
  Calls prog 152 #[pointer (some ⟨b,12,none⟩),int i64 n] w fun e w'=>e=returned (tuple #[])∧
   zL w' b {r with first:=(r.first+n)%64,count:=r.count-n} v0∧∀H,Keep H b w w':=by
 have h1:=hR.get_first;have h2:=hR.get_count;have f1:=hR.frozen 76;have f2:=hR.frozen 77;have HF:=vl hR;generalize hf0:r.first=f at *
 generalize hc0:r.count=c at *;have HE:Hid (r.first=f∧r.count=c):=⟨hf0,hc0⟩
 go_in;go_wp2;go_end0;refine⟨rfl,?_,fun H=>(Keep.set w _ _).trans (Keep.set _ _ _)⟩;have e1:((f:Int)+(n:Int))%64=(((f+n)%64:Nat):Int):=by omega
 have e2:((c:Int)-(n:Int))=((c-n:Nat):Int):=by omega
 rw[e1,e2];exact(HF.out.set_first _).set_count _
theorem zGv (b v:Nat)(w:World)(r:Rs){v0:Value}(hR:zL w b r v0)(hf:r.first<64)(hc:r.count<64):
  Calls prog 107 #[pointer (some ⟨b,12,none⟩),int .u8 v] w fun e w'=>e=returned (tuple #[])∧
   zL w' b {r with byte:=fun j=>if j=(r.first+r.count)%64 then v else r.byte j,count:=r.count+1} v0∧∀H,Keep H b w w':=by
 have h1:=hR.get_first;have h2:=hR.get_count;have h3:=hR.get_byte ((r.first+r.count)%64) (gZ _ (by decide));have f1:=hR.frozen 77;have f2:=hR.frozen (12+(r.first+r.count)%64);have HF:=vl hR;generalize hf0:r.first=f at *
 generalize hc0:r.count=c at *;have hm:(f+c)%64<64:=gZ _ (by decide);have hne:¬(12+(f+c)%64=77):=by omega
 go_in;go_wp2;go_region
 all_goals go_wp2
 all_goals go_end0
 all_goals
  refine⟨rfl,?_,fun H=>((Keep.set w _ _).trans (Keep.set _ _ _)).trans (Keep.drew _)⟩;rw[show ((c:Int)+1)=((c+1:Nat):Int) by omega];subst hf0 hc0;exact((HF.out.set_byte _ v hm).set_count _).drew
theorem zEW (b m:Nat)(w:World)(r:Rs){v0:Value}(hR:zL w b r v0)(hd:r.depth<4):
  Calls prog 71 #[pointer (some ⟨b,0,none⟩),int i64 m] w fun e w'=>e=returned (tuple #[])∧
   zL w' b {r with stack:=fun j=>if j=r.depth then m else r.stack j,depth:=r.depth+1} v0∧∀H,Keep H b w w':=by
 have h1:=hR.get_depth;have h3:=hR.get_stack r.depth hd;have f1:=hR.frozen 7;have f2:=hR.frozen (3+r.depth);have HF:=vl hR;generalize hd0:r.depth=d at *;have hne:¬(3+d=7):=by omega
 go_in;go_wp2;go_region
 all_goals go_wp2
 all_goals go_end0
 all_goals
  refine⟨rfl,?_,fun H=>((Keep.set w _ _).trans (Keep.set _ _ _)).trans (Keep.drew _)⟩;rw[show ((d:Int)+1)=((d+1:Nat):Int) by omega];subst hd0;exact((HF.out.set_stack _ m hd).set_depth _).drew
theorem zDh (b:Nat)(w:World)(r:Rs)(ao:Option Addr)(n cap:Nat)(hR:zL w b r (slice ao n cap)):
  Calls prog 75 #[pointer (some ⟨b,0,none⟩)] w fun e w'=>e=returned (slice ao n cap)∧
   zL w' b r (slice none 0 0)∧∀H,Keep H b w w':=by
 have h1:=hR.get_told;have f1:=hR.frozen 2;have HF:=vl hR;go_in;go_wp2;go_ret;exact⟨rfl,HF.out.set_told _,fun H=>Keep.set w _ _⟩
def jH (v l:Nat):Nat:=if v=10 then l+1 else l
def zA8 (v c:Nat):Nat:=if v=10 then 1 else c+1
theorem zJL (a l c v:Nat)(w:World)(ha:a<2147483648)(hl:l<2147483648)(hc:c<2147483648)(hv:v<256):
  Calls prog 153 #[agg #[int i64 a,int i64 l,int i64 c],int .u8 v] w fun e w'=>
   e=returned (agg #[int i64 ((a+1:Nat):Int),int i64 ((if v=10 then l+1 else l:Nat):Int),int i64 ((if v=10 then 1 else c+1:Nat):Int)])∧Below w.heap.size w w':=by
 by_cases hv10:v=10
 ·have ht:((v:Int)==10)=true:=by rw[beq_iff_eq];omega
  have HV:=vl hv10;go_in;go_wp2;refine bodyPost_ret (v:=agg #[int i64 ((a:Int)+1),int i64 ((l:Int)+1),int i64 1]) (by simp[results,results153,go_sem]) rfl ⟨?_,?_⟩
  ·rfl
  ·exact((Below.refl _ _).alloc lQ _).alloc (by simp) _
 ·have ht:((v:Int)==10)=false:=by rw[hJ];omega
  have HV:=vl hv10;go_in;go_wp2;refine bodyPost_ret (v:=agg #[int i64 ((a:Int)+1),int i64 (l:Int),int i64 ((c:Int)+1)]) (by simp[results,results153,go_sem]) rfl ⟨?_,?_⟩
  ·rfl
  ·exact((Below.refl _ _).alloc lQ _).alloc (by simp) _
theorem zDe (a l c v:Nat)(w:World)(ha:a<2147483648)(hl:l<2147483648)(hc:c<2147483648)(hv:v<256):
  Calls prog 153 #[agg #[int i64 a,int i64 l,int i64 c],int .u8 v] w fun e w'=>
   e=returned (agg #[int i64 ((a+1:Nat):Int),int i64 (jH v l:Nat),int i64 (zA8 v c:Nat)])∧Below w.heap.size w w':=zJL a l c v w ha hl hc hv
theorem jZ (b:Nat)(w:World)(r:Rs){v0:Value}(hR:zL w b r v0)(S:Nat->Prop)(t:Tb)(hT:TabAt w S r.tp t)(hd0:1<=r.depth)(hd:r.depth<=4)(hm:r.stack (r.depth-1)<t.nmode):
  Calls prog 72 #[pointer (some ⟨b,0,none⟩)] w fun e w'=>e=returned (int i64 (t.start (r.stack (r.depth-1))))∧w'.Alike w:=by
 have h0:=hR.get_tp;have h1:=hR.get_depth;have h2:=hR.get_stack (r.depth-1) (by omega);obtain⟨_,h3,b3,o3,cap3,hb3,rfl,hcap3,hml3,hL⟩:=hT.c3;have hx:w.cell? ⟨b3,o3+r.stack (r.depth-1),none⟩=some (int i64 (t.start (r.stack (r.depth-1)):Nat)):=hL _ hm;generalize r.tp=p at *;generalize t.start (r.stack (r.depth-1))=x at *;generalize r.stack (r.depth-1)=m at *;generalize r.depth=d at *;generalize t.nmode=n at *;have i1:(m:Int)<(n:Int):=by omega
 have i2:(1:Int)<=(d:Int):=by omega
 have i3:(d:Int)<=4:=by omega
 have h2':=h2;go_in;go_wp2;go_quiet (fail);go_wp2;go_ret;exact⟨rfl,rfl,rfl,rfl⟩
section
structure Cx (H b:Nat)(S:Nat->Prop)(t:Tb)(w:World)(r:Rs)(v0:Value)(n:Nat)(xs:List Value):Prop where
 run:zL w b r v0
 own:w.ownsRow H 51 6 v0 n xs
 tab:TabAt w S r.tp t
 bH:b<H
 HH:H<=w.heap.size
 safe:∀k,S k->k<H∧k≠b
namespace Cx
variable {H b:Nat} {S:Nat->Prop} {t:Tb} {w w':World} {r r':Rs} {v0 v1:Value} {n n':Nat} {xs xs':List Value}
theorem below (h:Cx H b S t w r v0 n xs)(e:Below w.heap.size w w'):Cx H b S t w' r v0 n xs:=
 ⟨h.run.below e,h.own.kept ⟨e.os,e.tape,e.output,e.size,fun k hk _=>e.block k hk⟩ (row:=none) (by cases hv:v0.ownBlock <;> simp),h.tab.keep fun k hk=>e.block k (lZ (h.safe k hk).1 h.HH),h.bH,lY h.HH e.size,h.safe⟩
theorem alloc (h:Cx H b S t w r v0 n xs)(o:Obj):Cx H b S t (w.alloc o) r v0 n xs:=h.below ((Below.refl _ _).alloc lQ _)
theorem alike (h:Cx H b S t w r v0 n xs)(e:w'.Alike w):Cx H b S t w' r v0 n xs:=
 ⟨h.run.alike e,by unfold World.ownsRow;rw[e.1];exact h.own,h.tab.keep fun k _=>by rw[e.1],h.bH,by rw[e.1];exact h.HH,h.safe⟩
theorem next (h:Cx H b S t w r v0 n xs)(hk:Keep H b w w')(hr:zL w' b r' v1)(htp:r'.tp=r.tp)(ho:w'.ownsRow H 51 6 v1 n' xs'):Cx H b S t w' r' v1 n' xs':=
 ⟨hr,ho,by rw[htp];exact h.tab.keep fun k hs=>hk.block k (h.safe k hs).1 (h.safe k hs).2,h.bH,lY h.HH hk.size,h.safe⟩
theorem stored (h:Cx H b S t w r v0 n xs)(i:Nat)(v:Value)(hr:zL (w.setCell ⟨b,i,none⟩ v) b r' v0)(htp:r'.tp=r.tp):Cx H b S t (w.setCell ⟨b,i,none⟩ v) r' v0 n xs:=
 h.next (Keep.set _ _ _) hr htp (ownsRow_setCell_below h.own h.bH _)
theorem kept (h:Cx H b S t w r v0 n xs)(hk:∀H,Keep H b w w')(hr:zL w' b r' v0)(htp:r'.tp=r.tp):Cx H b S t w' r' v0 n xs:=
 h.next (hk H) hr htp (by
  refine⟨h.own.1,h.own.2.imp id ?_⟩;rintro⟨g,cap,cur,hv,hg,hh,rest⟩;have hlt:=(kQ.1 hh).1;have hbH:=h.bH;exact⟨g,cap,cur,hv,hg,((hk w.heap.size).block g hlt (by omega)).trans hh,rest⟩)
end Cx
theorem zAJ (b H:Nat)(S:Nat->Prop)(t:Tb)(kind rule to:Int)(w:World)(r:Rs)(v0:Value)(n:Nat)(xs:List Value)(hC:Cx H b S t w r v0 n xs)(hn:n<=4194304):
  Calls prog 157 #[pointer (some ⟨b,0,none⟩),int i64 kind,int i64 rule,int i64 to] w fun e w'=>
   e=returned (tuple #[])∧∃ao cap,Cx H b S t w' r (slice ao (n+1) cap) (n+1) (xs++vJ kind rule r.bAt to r.bLine r.bCol)∧Keep H b w w'∧
    ∀k,k<w.heap.size->k≠b->some k≠v0.ownBlock->w'.heap[k]? =w.heap[k]? :=by
 have hR:=hC.run;have hown:=hC.own;have hb:=hC.bH;have hH:=hC.HH;have hlt:=hown.lt;have ag:v0.ownBlock≠some b:=fun e=>by have:=hlt b e;omega
 refine(zLS b kind rule to r.bAt r.bLine r.bCol v0 n H xs w hR.get_told hR.get_bAt hR.get_bLine hR.get_bCol (hR.frozen 2) hown hH (by unfold maxLen;omega) (by omega) ag).mono ?_;rintro e w' ⟨rfl,g,cap,w1,hown1,hgrow,hat,hlt1,rfl⟩;have hR1:=hR.of_block (hgrow.block b hR.lt (Ne.symm ag));have hk:Keep H b w (w1.setCell ⟨b,2,none⟩ (slice (some ⟨g,0,none⟩) (n+1) cap)):=(Keep.grown hgrow hH fun k hk=>(hlt k hk).1).trans (Keep.set _ _ _);refine⟨rfl,some ⟨g,0,none⟩,cap,hC.next hk (hR1.set_told _) rfl (ownsRow_setCell_below hown1 hb _),hk,fun k h1 h2 h3=>?_⟩;exact(lJ _ _ _ _ h2).trans (hgrow.block k h1 h3)
theorem vE (b H:Nat)(S:Nat->Prop)(t:Tb)(kind:Int)(w:World)(r:Rs)(v0:Value)(n:Nat)(xs:List Value)(hC:Cx H b S t w r v0 n xs)(hn:n<=4194304):
  Calls prog 110 #[pointer (some ⟨b,0,none⟩),int i64 kind] w fun e w'=>
   e=returned (tuple #[])∧∃ao cap,Cx H b S t w' {r with opn:=false} (slice ao (n+1) cap) (n+1) (xs++vJ kind 0 r.bAt r.bAt r.bLine r.bCol)∧Keep H b w w':=by
 have h8:=hC.run.get_bAt;have HC:=vl hC;go_in;go_wp2_with fail;refine(zAJ b H S t kind 0 r.bAt _ r v0 n xs HC.out hn).mono ?_;rintro e w1 ⟨rfl,ao,cap,cb,hk1,_⟩;have c1:=cb.run.get_opn;have f1:=cb.run.frozen 1;have HC1:=vl cb;have HK:=vl hk1;go_wp2;go_end0;exact⟨rfl,ao,cap,HC1.out.stored 1 _ (HC1.out.run.set_opn false) rfl,HK.out.trans (Keep.set _ _ _)⟩
theorem zIU (b H:Nat)(S:Nat->Prop)(t:Tb)(w:World)(r:Rs)(v0:Value)(n:Nat)(xs:List Value)(hC:Cx H b S t w r v0 n xs)(hn:n<=4194304)
  (rule eAt eLine eCol:Nat) (hr:rule<t.nrule) (ho:t.act rule=2) (hd:r.depth=4):
  Calls prog 156 #[pointer (some ⟨b,0,none⟩),int i64 rule,agg #[int i64 eAt,int i64 eLine,int i64 eCol]] w fun e w'=>
   e=returned (tuple #[])∧∃ao cap,Cx H b S t w' {r with opn:=false} (slice ao (n+1) cap) (n+1) (xs++vJ 4 0 r.bAt r.bAt r.bLine r.bCol)∧Keep H b w w':=by
 have h0:=hC.run.get_tp;have h7:=hC.run.get_depth;obtain⟨_,h4,b4,o4,cap4,hb4,rfl,hcap4,hml4,hL⟩:=hC.tab.c4;have hx:w.cell? ⟨b4,o4+rule,none⟩=some (int i64 (t.act rule:Nat)):=hL _ hr;rw[ho] at hx;rw[hd] at h7;have i1:(rule:Int)<(t.nrule:Int):=by omega
 have l0:b<w.heap.size:=hC.run.lt;have l4:b4<w.heap.size:=lZ (hC.safe _ hb4).1 hC.HH;have lp:r.tp<w.heap.size:=lZ (hC.safe _ hC.tab.safe).1 hC.HH;have HC:=vl hC;go_in;go_wp2_with fail;refine(vE b H S t 4 _ r v0 n xs (HC.out.alloc _) hn).mono ?_;rintro e w1 ⟨rfl,ao,cap,hC1,hk1⟩;have HC1:=vl hC1;go_wp2;refine bodyPost_ret (results_none rfl _ _ _) rfl ?_;exact⟨rfl,ao,cap,HC1.out,(kZ _ _ HC.out.HH).trans hk1⟩
theorem zHv (b H:Nat)(S:Nat->Prop)(t:Tb)(w:World)(r:Rs)(v0:Value)(n:Nat)(xs:List Value)(hC:Cx H b S t w r v0 n xs)(hn:n<=4194304)
  (rule eAt eLine eCol:Nat) (hr:rule<t.nrule) (ho:t.act rule=3) (hd:r.depth=1):
  Calls prog 156 #[pointer (some ⟨b,0,none⟩),int i64 rule,agg #[int i64 eAt,int i64 eLine,int i64 eCol]] w fun e w'=>
   e=returned (tuple #[])∧∃ao cap,Cx H b S t w' {r with opn:=false} (slice ao (n+1) cap) (n+1) (xs++vJ 5 0 r.bAt r.bAt r.bLine r.bCol)∧Keep H b w w':=by
 have h0:=hC.run.get_tp;have h7:=hC.run.get_depth;obtain⟨_,h4,b4,o4,cap4,hb4,rfl,hcap4,hml4,hL⟩:=hC.tab.c4;have hx:w.cell? ⟨b4,o4+rule,none⟩=some (int i64 (t.act rule:Nat)):=hL _ hr;rw[ho] at hx;rw[hd] at h7;have i1:(rule:Int)<(t.nrule:Int):=by omega
 have l0:b<w.heap.size:=hC.run.lt;have l4:b4<w.heap.size:=lZ (hC.safe _ hb4).1 hC.HH;have lp:r.tp<w.heap.size:=lZ (hC.safe _ hC.tab.safe).1 hC.HH;have HC:=vl hC;go_in;go_wp2_with fail;refine(vE b H S t 5 _ r v0 n xs (HC.out.alloc _) hn).mono ?_;rintro e w1 ⟨rfl,ao,cap,hC1,hk1⟩;have HC1:=vl hC1;go_wp2;refine bodyPost_ret (results_none rfl _ _ _) rfl ?_;exact⟨rfl,ao,cap,HC1.out,(kZ _ _ HC.out.HH).trans hk1⟩
theorem zIS (b H:Nat)(S:Nat->Prop)(t:Tb)(w:World)(r:Rs)(v0:Value)(n:Nat)(xs:List Value)(hC:Cx H b S t w r v0 n xs)
  (rule eAt eLine eCol:Nat) (hr:rule<t.nrule) (ho:t.act rule=1) (hd0:1<=r.depth) (hd4:r.depth<=4) (hst:r.stack (r.depth-1)<t.nmode):
  Calls prog 156 #[pointer (some ⟨b,0,none⟩),int i64 rule,agg #[int i64 eAt,int i64 eLine,int i64 eCol]] w fun e w'=>
   e=returned (tuple #[])∧Cx H b S t w' {r with bAt:=eAt,bLine:=eLine,bCol:=eCol,state:=t.start (r.stack (r.depth-1))} v0 n xs∧Keep H b w w':=by
 have h0:=hC.run.get_tp;have h7:=hC.run.get_depth;obtain⟨_,h4,b4,o4,cap4,hb4,rfl,hcap4,hml4,hL⟩:=hC.tab.c4;have hx:w.cell? ⟨b4,o4+rule,none⟩=some (int i64 (t.act rule:Nat)):=hL _ hr;rw[ho] at hx;have i1:(rule:Int)<(t.nrule:Int):=by omega
 have l0:b<w.heap.size:=hC.run.lt;have l4:b4<w.heap.size:=lZ (hC.safe _ hb4).1 hC.HH;have lp:r.tp<w.heap.size:=lZ (hC.safe _ hC.tab.safe).1 hC.HH;have d8:=(hC).run.get_bAt;have d9:=(hC).run.get_bLine;have d10:=(hC).run.get_bCol;have d11:=(hC).run.get_state;have g8:=(hC).run.frozen 8;have g9:=(hC).run.frozen 9;have g10:=(hC).run.frozen 10;have g11:=(hC).run.frozen 11;have HC:=vl hC;go_in;go_wp2_with fail;have c1:=HC.out.stored 8 _ (HC.out.run.set_bAt eAt) rfl;have c2:=c1.stored 9 _ (c1.run.set_bLine eLine) rfl;have c3:=c2.stored 10 _ (c2.run.set_bCol eCol) rfl;have c4:=c3.alloc (.cells #[int i64 eAt,int i64 eLine,int i64 eCol] 97);have k4:=(((Keep.set (H:=H) (b:=b) w 8 (int i64 eAt)).trans (Keep.set _ 9 (int i64 eLine))).trans (Keep.set _ 10 (int i64 eCol))).trans (kZ _ (.cells #[int i64 eAt,int i64 eLine,int i64 eCol] 97) c3.HH);refine(jZ b _ _ c4.run S t c4.tab hd0 hd4 hst).mono ?_;rintro e w9 ⟨rfl,ha9⟩;have c5:=c4.alike ha9;have k5:=vl <| k4.trans (Keep.alike ha9);have e11:=c5.run.get_state;have z11:=c5.run.frozen 11;have C5:=vl c5;go_wp2;go_end0;exact⟨rfl,C5.out.stored 11 _ (C5.out.run.set_state _) rfl,k5.out.trans (Keep.set _ _ _)⟩
theorem zIV (b H:Nat)(S:Nat->Prop)(t:Tb)(w:World)(r:Rs)(v0:Value)(n:Nat)(xs:List Value)(hC:Cx H b S t w r v0 n xs)(hn:n<=4194304)
  (rule eAt eLine eCol:Nat) (hr:rule<t.nrule) (ho:t.act rule=0) (hd0:1<=r.depth) (hd4:r.depth<=4) (hst:r.stack (r.depth-1)<t.nmode):
  Calls prog 156 #[pointer (some ⟨b,0,none⟩),int i64 rule,agg #[int i64 eAt,int i64 eLine,int i64 eCol]] w fun e w'=>
   e=returned (tuple #[])∧∃ao cap,Cx H b S t w' {r with bAt:=eAt,bLine:=eLine,bCol:=eCol,state:=t.start (r.stack (r.depth-1))} (slice ao (n+1) cap) (n+1) (xs++vJ 1 rule r.bAt eAt r.bLine r.bCol)∧Keep H b w w':=by
 have h0:=hC.run.get_tp;have h7:=hC.run.get_depth;obtain⟨_,h4,b4,o4,cap4,hb4,rfl,hcap4,hml4,hL⟩:=hC.tab.c4;have hx:w.cell? ⟨b4,o4+rule,none⟩=some (int i64 (t.act rule:Nat)):=hL _ hr;rw[ho] at hx;have i1:(rule:Int)<(t.nrule:Int):=by omega
 have l0:b<w.heap.size:=hC.run.lt;have l4:b4<w.heap.size:=lZ (hC.safe _ hb4).1 hC.HH;have lp:r.tp<w.heap.size:=lZ (hC.safe _ hC.tab.safe).1 hC.HH;have HC:=vl hC;go_in;go_wp2_with fail;have ca:=HC.out.alloc (.cells #[int i64 eAt,int i64 eLine,int i64 eCol] 97);refine(zAJ b H S t 1 rule eAt _ r v0 n xs ca hn).mono ?_;rintro e w1 ⟨rfl,ao,cap,cb,hk1,hf1⟩;have hbox:w1.heap[w.heap.size]? =some (.cells #[int i64 eAt,int i64 eLine,int i64 eCol] 97):=by
  rw[hf1 w.heap.size (by simp) (by omega) (fun e=>by have:=(HC.out.own.lt _ e.symm).2;omega)];exact gU w _
 have x0:w1.cell? ⟨w.heap.size,0,none⟩=some (int i64 eAt):=by simp[World.cell?,hbox]
 have x1:w1.cell? ⟨w.heap.size,1,none⟩=some (int i64 eLine):=by simp[World.cell?,hbox]
 have x2:w1.cell? ⟨w.heap.size,2,none⟩=some (int i64 eCol):=by simp[World.cell?,hbox]
 have d8:=cb.run.get_bAt;have g8:=cb.run.frozen 8;have d9:=cb.run.get_bLine;have g9:=cb.run.frozen 9;have d10:=cb.run.get_bCol;have g10:=cb.run.frozen 10;have d11:=cb.run.get_state;have g11:=cb.run.frozen 11;have CB:=vl cb;have K1:=vl <| (kZ w _ HC.out.HH).trans hk1;go_wp2_with fail;have c1:=CB.out.stored 8 _ (CB.out.run.set_bAt eAt) rfl;have c2:=c1.stored 9 _ (c1.run.set_bLine eLine) rfl;have c4:=c2.stored 10 _ (c2.run.set_bCol eCol) rfl;have k4:=((K1.out.trans (Keep.set w1 8 (int i64 eAt))).trans (Keep.set _ 9 (int i64 eLine))).trans (Keep.set _ 10 (int i64 eCol));refine(jZ b _ _ c4.run S t c4.tab hd0 hd4 hst).mono ?_;rintro e w9 ⟨rfl,ha9⟩;have c5:=c4.alike ha9;have k5:=vl <| k4.trans (Keep.alike ha9);have e11:=c5.run.get_state;have z11:=c5.run.frozen 11;have C5:=vl c5;go_wp2;go_end0;exact⟨rfl,ao,cap,C5.out.stored 11 _ (C5.out.run.set_state _) rfl,k5.out.trans (Keep.set _ _ _)⟩
end
theorem zKr (b H:Nat)(S:Nat->Prop)(t:Tb)(w:World)(r:Rs)(v0:Value)(n:Nat)(xs:List Value)(hC:Cx H b S t w r v0 n xs)(hn:n<=4194304)
  (rule eAt eLine eCol:Nat) (hr:rule<t.nrule) (ho:t.act rule=3) (hd0:2<=r.depth) (hd4:r.depth<=4) (hst:r.stack (r.depth-1-1)<t.nmode):
  Calls prog 156 #[pointer (some ⟨b,0,none⟩),int i64 rule,agg #[int i64 eAt,int i64 eLine,int i64 eCol]] w fun e w'=>
   e=returned (tuple #[])∧∃ao cap,Cx H b S t w' {r with depth:=r.depth-1,bAt:=eAt,bLine:=eLine,bCol:=eCol,state:=t.start (r.stack (r.depth-1-1))} (slice ao (n+1) cap) (n+1) (xs++vJ 1 rule r.bAt eAt r.bLine r.bCol)∧Keep H b w w':=by
 have h0:=hC.run.get_tp;have h7:=hC.run.get_depth;have j1:((r.depth:Int)==1)=false:=by rw[hJ];omega
 have j2:(2:Int)<=(r.depth:Int):=by omega
 have j3:(r.depth:Int)<=4:=by omega
 obtain⟨_,h4,b4,o4,cap4,hb4,rfl,hcap4,hml4,hL⟩:=hC.tab.c4;have hx:w.cell? ⟨b4,o4+rule,none⟩=some (int i64 (t.act rule:Nat)):=hL _ hr;rw[ho] at hx;have i1:(rule:Int)<(t.nrule:Int):=by omega
 have l0:b<w.heap.size:=hC.run.lt;have l4:b4<w.heap.size:=lZ (hC.safe _ hb4).1 hC.HH;have lp:r.tp<w.heap.size:=lZ (hC.safe _ hC.tab.safe).1 hC.HH;have HC:=vl hC;go_in;go_wp2_with fail;have ca:=HC.out.alloc (.cells #[int i64 eAt,int i64 eLine,int i64 eCol] 97);refine(zAJ b H S t 1 rule eAt _ r v0 n xs ca hn).mono ?_;rintro e w1 ⟨rfl,ao,cap,cb,hk1,hf1⟩;have hbox:w1.heap[w.heap.size]? =some (.cells #[int i64 eAt,int i64 eLine,int i64 eCol] 97):=by
  rw[hf1 w.heap.size (by simp) (by omega) (fun e=>by have:=(HC.out.own.lt _ e.symm).2;omega)];exact gU w _
 have x0:w1.cell? ⟨w.heap.size,0,none⟩=some (int i64 eAt):=by simp[World.cell?,hbox]
 have x1:w1.cell? ⟨w.heap.size,1,none⟩=some (int i64 eLine):=by simp[World.cell?,hbox]
 have x2:w1.cell? ⟨w.heap.size,2,none⟩=some (int i64 eCol):=by simp[World.cell?,hbox]
 have d7:=cb.run.get_depth;have g7:=cb.run.frozen 7;have d8:=cb.run.get_bAt;have g8:=cb.run.frozen 8;have d9:=cb.run.get_bLine;have g9:=cb.run.frozen 9;have d10:=cb.run.get_bCol;have g10:=cb.run.frozen 10;have d11:=cb.run.get_state;have g11:=cb.run.frozen 11;have CB:=vl cb;have K1:=vl <| (kZ w _ HC.out.HH).trans hk1;go_wp2_with fail;have ed:((r.depth:Int)-1)=((r.depth-1:Nat):Int):=by omega
 rw[ed];have c0:=CB.out.stored 7 _ (CB.out.run.set_depth (r.depth-1)) rfl;have c1:=c0.stored 8 _ (c0.run.set_bAt eAt) rfl;have c2:=c1.stored 9 _ (c1.run.set_bLine eLine) rfl;have c4:=c2.stored 10 _ (c2.run.set_bCol eCol) rfl;have k4:=(((K1.out.trans (Keep.set w1 7 (int i64 (r.depth-1:Nat)))).trans (Keep.set _ 8 (int i64 eAt))).trans (Keep.set _ 9 (int i64 eLine))).trans (Keep.set _ 10 (int i64 eCol));refine(jZ b _ _ c4.run S t c4.tab (by show 1<=r.depth-1;omega) (by show r.depth-1<=4;omega) hst).mono ?_;rintro e w9 ⟨rfl,ha9⟩;have c5:=c4.alike ha9;have k5:=vl <| k4.trans (Keep.alike ha9);have e11:=c5.run.get_state;have z11:=c5.run.frozen 11;have C5:=vl c5;go_wp2;go_end0;exact⟨rfl,ao,cap,C5.out.stored 11 _ (C5.out.run.set_state _) rfl,k5.out.trans (Keep.set _ _ _)⟩
theorem zIT (b H:Nat)(S:Nat->Prop)(t:Tb)(w:World)(r:Rs)(v0:Value)(n:Nat)(xs:List Value)(hC:Cx H b S t w r v0 n xs)(hn:n<=4194304)
  (rule eAt eLine eCol:Nat) (hr:rule<t.nrule) (ho:t.act rule=2) (hd0:1<=r.depth) (hd4:r.depth<4) (hst:t.push rule<t.nmode):
  Calls prog 156 #[pointer (some ⟨b,0,none⟩),int i64 rule,agg #[int i64 eAt,int i64 eLine,int i64 eCol]] w fun e w'=>
   e=returned (tuple #[])∧∃ao cap,Cx H b S t w' {r with stack:=fun j=>if j=r.depth then t.push rule else r.stack j,depth:=r.depth+1,bAt:=eAt,bLine:=eLine,bCol:=eCol,state:=t.start (t.push rule)} (slice ao (n+1) cap) (n+1) (xs++vJ 1 rule r.bAt eAt r.bLine r.bCol)∧Keep H b w w':=by
 have h0:=hC.run.get_tp;have h7:=hC.run.get_depth;have j1:((r.depth:Int)==4)=false:=by rw[hJ];omega
 obtain⟨_,h4,b4,o4,cap4,hb4,rfl,hcap4,hml4,hL⟩:=hC.tab.c4;have hx:w.cell? ⟨b4,o4+rule,none⟩=some (int i64 (t.act rule:Nat)):=hL _ hr;rw[ho] at hx;have i1:(rule:Int)<(t.nrule:Int):=by omega
 have l0:b<w.heap.size:=hC.run.lt;have l4:b4<w.heap.size:=lZ (hC.safe _ hb4).1 hC.HH;have lp:r.tp<w.heap.size:=lZ (hC.safe _ hC.tab.safe).1 hC.HH;have HC:=vl hC;clear hC hL;go_in;go_wp2_with fail;have ca:=HC.out.alloc (.cells #[int i64 eAt,int i64 eLine,int i64 eCol] 97);refine(zAJ b H S t 1 rule eAt _ r v0 n xs ca hn).mono ?_;rintro e w1 ⟨rfl,ao,cap,cb,hk1,hf1⟩;have hbox:w1.heap[w.heap.size]? =some (.cells #[int i64 eAt,int i64 eLine,int i64 eCol] 97):=by
  rw[hf1 w.heap.size (by simp) (by omega) (fun e=>by have:=(HC.out.own.lt _ e.symm).2;omega)];exact gU w _
 have x0:w1.cell? ⟨w.heap.size,0,none⟩=some (int i64 eAt):=by simp[World.cell?,hbox]
 have x1:w1.cell? ⟨w.heap.size,1,none⟩=some (int i64 eLine):=by simp[World.cell?,hbox]
 have x2:w1.cell? ⟨w.heap.size,2,none⟩=some (int i64 eCol):=by simp[World.cell?,hbox]
 have dt:=cb.run.get_tp;obtain⟨_,h5,b5,o5,cap5,hb5,rfl,hcap5,hml5,hL5⟩:=cb.tab.c5;have hx5:w1.cell? ⟨b5,o5+rule,none⟩=some (int i64 (t.push rule:Nat)):=hL5 _ hr;have CB:=vl cb;have K1:=vl <| (kZ w _ HC.out.HH).trans hk1;clear cb ca hk1 hf1 hbox hL5;go_wp2_with fail;refine(zEW b (t.push rule) _ _ CB.out.run (by exact hd4)).mono ?_;rintro e w2 ⟨rfl,hR2,hk2⟩;have cc:=CB.out.kept hk2 hR2 rfl;have y0:w2.cell? ⟨w.heap.size,0,none⟩=some (int i64 eAt):=(cell?_of_block ((hk2 (w.heap.size+1)).block _ (by show w.heap.size<_;omega) (by show w.heap.size≠b;omega))).trans x0;have y1:w2.cell? ⟨w.heap.size,1,none⟩=some (int i64 eLine):=(cell?_of_block ((hk2 (w.heap.size+1)).block _ (by show w.heap.size<_;omega) (by show w.heap.size≠b;omega))).trans x1;have y2:w2.cell? ⟨w.heap.size,2,none⟩=some (int i64 eCol):=(cell?_of_block ((hk2 (w.heap.size+1)).block _ (by show w.heap.size<_;omega) (by show w.heap.size≠b;omega))).trans x2;have d8:=cc.run.get_bAt;have g8:=cc.run.frozen 8;have d9:=cc.run.get_bLine;have g9:=cc.run.frozen 9;have d10:=cc.run.get_bCol;have g10:=cc.run.frozen 10;have K2:=vl <| K1.out.trans (hk2 H);have CC:=vl cc;clear cc hk2 hR2;go_wp2_with fail;have c1:=CC.out.stored 8 _ (CC.out.run.set_bAt eAt) rfl;have c2:=c1.stored 9 _ (c1.run.set_bLine eLine) rfl;have c4:=c2.stored 10 _ (c2.run.set_bCol eCol) rfl;have k4:=((K2.out.trans (Keep.set w2 8 (int i64 eAt))).trans (Keep.set _ 9 (int i64 eLine))).trans (Keep.set _ 10 (int i64 eCol));clear c1 c2;have hs:(fun j=>if j=r.depth then t.push rule else r.stack j) (r.depth+1-1)=t.push rule:=by simp
 refine(jZ b _ _ c4.run S t c4.tab (by show 1<=r.depth+1;omega) (by show r.depth+1<=4;omega) (by show(fun j=>if j=r.depth then t.push rule else r.stack j) (r.depth+1-1)<t.nmode;rw[hs];exact hst)).mono ?_;rintro e w9 ⟨rfl,ha9⟩;have c5:=c4.alike ha9;have k5:=vl <| k4.trans (Keep.alike ha9);have e11:=c5.run.get_state;have z11:=c5.run.frozen 11;have C5:=vl c5;clear c5 c4 k4 ha9;go_wp2;go_end0;refine⟨rfl,ao,cap,?_,k5.out.trans (Keep.set _ 11 _)⟩;have c6:=C5.out.stored 11 _ (C5.out.run.set_state (t.start (t.push rule))) rfl;simpa using c6
structure Ev where
 kind:Int
 rule:Int
 from_:Int
 to:Int
 line:Int
 col:Int
def Ev.cells (e:Ev):List Value:=vJ e.kind e.rule e.from_ e.to e.line e.col
def zY (es:List Ev):List Value:=es.flatMap Ev.cells
theorem xQ (es:List Ev)(e:Ev):zY (es++[e])=zY es++e.cells:=by simp[zY]
abbrev Cv (H b:Nat)(S:Nat->Prop)(t:Tb)(w:World)(r:Rs)(v0:Value)(es:List Ev):Prop:=Cx H b S t w r v0 es.length (zY es)
structure Rs.Ok (r:Rs)(t:Tb):Prop where
 d1:1<=r.depth
 d4:r.depth<=4
 st:∀j,j<r.depth->r.stack j<t.nmode
 state:r.state<t.nst
 first:r.first<64
 count:r.count<=64
 bytes:∀j,j<64->r.byte j<256
def Rs.lastEv (r:Rs)(kind:Int):Ev:=⟨kind,0,r.bAt,r.bAt,r.bLine,r.bCol⟩
def Rs.moved (r:Rs)(t:Tb)(rule:Nat):Rs:=
 if t.act rule=3 then{r with depth:=r.depth-1}
 else if t.act rule=2 then{r with stack:=fun j=>if j=r.depth then t.push rule else r.stack j,depth:=r.depth+1}
 else r
def Rs.tok (r:Rs)(t:Tb)(rule eAt eLine eCol:Nat):Rs×List Ev:=
 if t.act rule=2∧r.depth=4 then({r with opn:=false},[r.lastEv 4])
 else if t.act rule=3∧r.depth=1 then({r with opn:=false},[r.lastEv 5])
 else({r.moved t rule with bAt:=eAt,bLine:=eLine,bCol:=eCol,state:=t.start ((r.moved t rule).stack ((r.moved t rule).depth-1))},
  if t.act rule=1 then[] else[⟨1,rule,r.bAt,eAt,r.bLine,r.bCol⟩])
theorem zDM (b H:Nat)(S:Nat->Prop)(t:Tb)(w:World)(r:Rs){v0:Value}(es:List Ev)(hC:Cv H b S t w r v0 es)(hn:es.length<=4194304)
  (rule eAt eLine eCol:Nat) (hr:rule<t.nrule) (ha:t.act rule<4) (ok:t.Ok) (hok:r.Ok t):
  Calls prog 156 #[pointer (some ⟨b,0,none⟩),int i64 rule,agg #[int i64 eAt,int i64 eLine,int i64 eCol]] w fun e w'=>
   e=returned (tuple #[])∧∃v,Cv H b S t w' (r.tok t rule eAt eLine eCol).1 v (es++(r.tok t rule eAt eLine eCol).2)∧Keep H b w w':=by
 have d1:=hok.d1;have d4:=hok.d4;by_cases h2:t.act rule=2∧r.depth=4
 ·refine(zIU b H S t w r v0 _ _ hC hn rule eAt eLine eCol hr h2.1 h2.2).mono ?_
  rintro e w' ⟨rfl,ao,cap,hC',hk⟩;refine⟨rfl,slice ao (es.length+1) cap,?_,hk⟩;unfold Rs.tok Cv;rw[if_pos h2,xQ,kX];exact hC'
 ·by_cases h3:t.act rule=3∧r.depth=1
  ·refine(zHv b H S t w r v0 _ _ hC hn rule eAt eLine eCol hr h3.1 h3.2).mono ?_
   rintro e w' ⟨rfl,ao,cap,hC',hk⟩;refine⟨rfl,slice ao (es.length+1) cap,?_,hk⟩;unfold Rs.tok Cv;rw[if_neg h2,if_pos h3,xQ,kX];exact hC'
  ·by_cases a1:t.act rule=1
   ·refine(zIS b H S t w r v0 _ _ hC rule eAt eLine eCol hr a1 d1 d4 (hok.st _ (by omega))).mono ?_
    rintro e w' ⟨rfl,hC',hk⟩;refine⟨rfl,v0,?_,hk⟩;unfold Rs.tok Cv Rs.moved;rw[if_neg h2,if_neg h3,if_neg (by omega),if_neg (by omega),if_pos a1,List.append_nil];exact hC'
   ·by_cases a2:t.act rule=2
    ·refine(zIT b H S t w r v0 _ _ hC hn rule eAt eLine eCol hr a2 d1 (by omega) (ok.push _ hr)).mono ?_
     rintro e w' ⟨rfl,ao,cap,hC',hk⟩;refine⟨rfl,slice ao (es.length+1) cap,?_,hk⟩;unfold Rs.tok Cv Rs.moved;rw[if_neg h2,if_neg h3,if_neg (by omega),if_pos a2,if_neg a1,xQ,kX];simpa[Ev.cells] using hC'
    ·by_cases a3:t.act rule=3
     ·refine(zKr b H S t w r v0 _ _ hC hn rule eAt eLine eCol hr a3 (by omega) d4 (hok.st _ (by omega))).mono ?_
      rintro e w' ⟨rfl,ao,cap,hC',hk⟩;refine⟨rfl,slice ao (es.length+1) cap,?_,hk⟩;unfold Rs.tok Cv Rs.moved;rw[if_neg h2,if_neg h3,if_pos a3,if_neg a1,xQ,kX];exact hC'
     ·refine(zIV b H S t w r v0 _ _ hC hn rule eAt eLine eCol hr (by omega) d1 d4 (hok.st _ (by omega))).mono ?_
      rintro e w' ⟨rfl,ao,cap,hC',hk⟩;refine⟨rfl,slice ao (es.length+1) cap,?_,hk⟩;unfold Rs.tok Cv Rs.moved;rw[if_neg h2,if_neg h3,if_neg a3,if_neg a2,if_neg a1,xQ,kX];exact hC'
def Rs.fin (r:Rs)(t:Tb):Rs×List Ev:=
 if t.ends r.state≠-1∧t.longer r.ahead r.state=false then r.tok t (t.ends r.state).toNat r.hAt r.hLine r.hCol
 else if t.live r.state=false then({r with opn:=false},[r.lastEv 3])
 else(r,[])
theorem zF3 (b H:Nat)(S:Nat->Prop)(t:Tb)(w0 w:World)(r:Rs){v0:Value}(es:List Ev)(hC:Cv H b S t w r v0 es)(hn:es.length<=4194304)(hok:r.Ok t)(hk:Keep H b w0 w)
  (f:Rs×List Ev) (hf:f=if t.live r.state=false then({r with opn:=false},[r.lastEv 3]) else(r,[]))
  {u1 u2 u3 u4 u5 u6 u7 u8 u9 u10 u11 u12 u13 u14 u15 u16 u17 u18 u19 u20 u21 u22 u23 u24 u25 u26 u27 u28 u29 u30 u31 u32 u33 u34 u35 u36 u37 u38 u39 u40 u41 u42 u43 u44 u45 u46 u47 u48 u49 u50 u51 u52 u53 u54 u55 u56 u57 u58 u59 u60 u61 u62 u63 u65 u66 u67 u68 u69 u70 u71 u72 u73 u74 u75 u76 u77 u78 u79 u80 u81 u82 u83 u84 u85 u86 u87:Value}:
  Code.wp prog (yQ 6 ((f109.body).getD .skip)) (bodyPost prog f109 fun e w'=>
   e=returned (tuple #[])∧∃v,Cv H b S t w' f.1 v (es++f.2)∧Keep H b w0 w')
   ⟨(pointer (some ⟨b,0,none⟩)::u1::u2::u3::u4::u5::u6::u7::u8::u9::u10::u11::u12::u13::u14::u15::u16::u17::u18::u19::u20::u21::u22::u23::u24::u25::u26::u27::u28::u29::u30::u31::u32::u33::u34::u35::u36::u37::u38::u39::u40::u41::u42::u43::u44::u45::u46::u47::u48::u49::u50::u51::u52::u53::u54::u55::u56::u57::u58::u59::u60::u61::u62::u63::bool false::u65::u66::u67::u68::u69::u70::u71::u72::u73::u74::u75::u76::u77::u78::u79::u80::u81::u82::u83::u84::u85::u86::u87::[]).toArray,[]⟩ w:=by
 conv=>arg 2;whnf
 have HC:=vl hC;have J:=vl hk;have HF:=vl hf;have y0:w.cell? ⟨b,0,none⟩=some (pointer (some ⟨r.tp,0,none⟩)):=HC.out.run.get_tp;have y11:w.cell? ⟨b,11,none⟩=some (int i64 r.state):=HC.out.run.get_state;obtain⟨_,h10,b10,o10,cap10,hb10,rfl,hcap10,hml10,hL10⟩:=HC.out.tab.c10;have hst:=hok.state;have hx10:w.cell? ⟨b10,o10+r.state,none⟩=some (bool (t.live r.state)):=hL10 _ hst;have i1:(r.state:Int)<(t.nst:Int):=by omega
 cases hl:t.live r.state
 ·rw[hl] at hx10
  go_wp2;go_quiet (fail);go_wp2_with fail;refine(vE b H S t 3 _ r v0 _ _ (Cx.alike (w':=w.drewN nq) HC.out ⟨rfl,rfl,rfl⟩) hn).mono ?_;rintro e w2 ⟨rfl,ao,cap,c2,k2⟩;have C2:=vl c2;go_wp2;go_end0;refine⟨rfl,slice ao (es.length+1) cap,?_,(J.out.trans (Keep.alike (w':=w.drewN nq) ⟨rfl,rfl,rfl⟩)).trans k2⟩;rw[HF.out,if_pos hl];unfold Cv;rw[xQ,kX];exact C2.out
 ·rw[hl] at hx10
  go_wp2;go_quiet (fail);go_wp2;go_end0;refine⟨rfl,v0,?_,J.out.trans (Keep.alike (w':=w.drewN nq) ⟨rfl,rfl,rfl⟩)⟩;rw[HF.out,if_neg (by rw[hl];decide),List.append_nil];exact Cx.alike (w':=w.drewN nq) HC.out ⟨rfl,rfl,rfl⟩
theorem zLM (b H:Nat)(S:Nat->Prop)(t:Tb)(w0 w:World)(r:Rs){v0:Value}(es:List Ev)(hC:Cv H b S t w r v0 es)(hn:es.length<=4194304)(ok:t.Ok)(hact:∀i,i<t.nrule->t.act i<4)(hok:r.Ok t)(hk:Keep H b w0 w)(hE:¬t.ends r.state=-1)
  (f:Rs×List Ev) (hf:f=r.tok t (t.ends r.state).toNat r.hAt r.hLine r.hCol)
  {u1 u2 u4 u5 u6 u7 u8 u9 u10 u11 u12 u13 u14 u15 u16 u17 u18 u19 u20 u21 u22 u23 u24 u25 u26 u27 u28 u29 u30 u31 u32 u33 u34 u35 u36 u37 u38 u39 u40 u41 u42 u43 u44 u45 u46 u47 u48 u49 u50 u51 u52 u53 u54 u55 u56 u57 u58 u59 u60 u61 u62 u63 u65 u66 u67 u68 u69 u70 u71 u72 u73 u74 u75 u76 u77 u78 u79 u80 u81 u82 u83 u84 u85 u86 u87:Value}:
  Code.wp prog (yQ 6 ((f109.body).getD .skip)) (bodyPost prog f109 fun e w'=>
   e=returned (tuple #[])∧∃v,Cv H b S t w' f.1 v (es++f.2)∧Keep H b w0 w')
   ⟨(pointer (some ⟨b,0,none⟩)::u1::u2::int i64 (t.ends r.state)::u4::u5::u6::u7::u8::u9::u10::u11::u12::u13::u14::u15::u16::u17::u18::u19::u20::u21::u22::u23::u24::u25::u26::u27::u28::u29::u30::u31::u32::u33::u34::u35::u36::u37::u38::u39::u40::u41::u42::u43::u44::u45::u46::u47::u48::u49::u50::u51::u52::u53::u54::u55::u56::u57::u58::u59::u60::u61::u62::u63::bool true::u65::u66::u67::u68::u69::u70::u71::u72::u73::u74::u75::u76::u77::u78::u79::u80::u81::u82::u83::u84::u85::u86::u87::[]).toArray,[]⟩ w:=by
 conv=>arg 2;whnf
 obtain⟨e1,e2⟩:=ok.ends r.state hok.state;obtain⟨k,hk0⟩:=Int.eq_ofNat_of_zero_le (show 0<=t.ends r.state by omega);have hkr:k<t.nrule:=by omega
 rw[hk0] at hf ⊢;rw[Int.toNat_natCast] at hf;have HC:=vl hC;have J:=vl hk;have HF:=vl hf;have y78:=HC.out.run.get_hAt;have y79:=HC.out.run.get_hLine;have y80:=HC.out.run.get_hCol;go_wp2_with fail;refine(zDM b H S t _ r es HC.out hn k r.hAt r.hLine r.hCol hkr (hact k hkr) ok hok).mono ?_;rintro e w2 ⟨rfl,v,c2,k2⟩;rw[<-HF.out] at c2;have C2:=vl c2;go_wp2;go_end0;exact⟨rfl,v,C2.out,J.out.trans k2⟩
theorem zKB (b H:Nat)(S:Nat->Prop)(t:Tb)(w0 w:World)(r:Rs){v0:Value}(es:List Ev)(hC:Cv H b S t w r v0 es)(hn:es.length<=4194304)(ok:t.Ok)(hact:∀i,i<t.nrule->t.act i<4)(hok:r.Ok t)(ha:r.ahead<t.rows)(hk:Keep H b w0 w)
  {u1 u2 u3 u4 u5 u6 u7 u8 u9 u10 u11 u12 u13 u14 u15 u16 u17 u18 u19 u20 u21 u22 u23 u24 u25 u26 u27 u28 u29 u30 u31 u32 u33 u34 u35 u36 u37 u38 u39 u40 u41 u42 u43 u44 u45 u46 u47 u48 u49 u50 u51 u52 u53 u54 u55 u56 u57 u58 u59 u60 u61 u62 u63 u64 u65 u66 u67 u68 u69 u70 u71 u72 u73 u74 u75 u76 u77 u78 u79 u80 u81 u82 u83 u84 u85 u86 u87:Value}:
  Code.wp prog (yQ 4 ((f109.body).getD .skip)) (bodyPost prog f109 fun e w'=>
   e=returned (tuple #[])∧∃v,Cv H b S t w' (r.fin t).1 v (es++(r.fin t).2)∧Keep H b w0 w')
   ⟨(pointer (some ⟨b,0,none⟩)::u1::u2::u3::u4::u5::u6::u7::u8::u9::u10::u11::u12::u13::u14::u15::u16::u17::u18::u19::u20::u21::u22::u23::u24::u25::u26::u27::u28::u29::u30::u31::u32::u33::u34::u35::u36::u37::u38::u39::u40::u41::u42::u43::u44::u45::u46::u47::u48::u49::u50::u51::u52::u53::u54::u55::u56::u57::u58::u59::u60::u61::u62::u63::u64::u65::u66::u67::u68::u69::u70::u71::u72::u73::u74::u75::u76::u77::u78::u79::u80::u81::u82::u83::u84::u85::u86::u87::[]).toArray,[]⟩ w:=by
 conv=>arg 2;whnf
 have HC:=vl hC;have J:=vl hk;apply wp_cut;intro K H4;have y0:w.cell? ⟨b,0,none⟩=some (pointer (some ⟨r.tp,0,none⟩)):=HC.out.run.get_tp;have y11:w.cell? ⟨b,11,none⟩=some (int i64 r.state):=HC.out.run.get_state;obtain⟨_,h9,b9,o9,cap9,hb9,rfl,hcap9,hml9,hL9⟩:=HC.out.tab.c9;have hst:=hok.state;have hx9:w.cell? ⟨b9,o9+r.state,none⟩=some (int i64 (t.ends r.state)):=hL9 _ hst;have i1:(r.state:Int)<(t.nst:Int):=by omega
 go_wp2;go_quiet (fail);go_wp2;apply H4.out;clear H4 hx9 h9 y0 y11;obtain⟨w1,hw1,c1,k1⟩:∃w1,w1=w.drewN nq∧Hid (Cv H b S t w1 r v0 es)∧Hid (Keep H b w0 w1):=⟨_,rfl,Cx.alike (w':=w.drewN nq) HC.out ⟨rfl,rfl,rfl⟩,J.out.trans (Keep.alike ⟨rfl,rfl,rfl⟩)⟩
 rw[<-hw1];clear hw1 HC J;apply wp_cut;intro K H5;have y0:w1.cell? ⟨b,0,none⟩=some (pointer (some ⟨r.tp,0,none⟩)):=c1.out.run.get_tp;have y11:w1.cell? ⟨b,11,none⟩=some (int i64 r.state):=c1.out.run.get_state;have y81:w1.cell? ⟨b,81,none⟩=some (int i64 r.ahead):=c1.out.run.get_ahead;have tbn:Hid (∀n,TabAt (w1.drewN n) S r.tp t):=fun n=>(Cx.alike (w':=w1.drewN n) c1.out ⟨rfl,rfl,rfl⟩).tab;by_cases hE:t.ends r.state=-1
 ·have hB:(t.ends r.state != -1)=false:=by rw[hE];rfl
  have hf:Hid (r.fin t=if t.live r.state=false then({r with opn:=false},[r.lastEv 3]) else(r,[])):=by show r.fin t=_;unfold Rs.fin;rw[if_neg (fun h=>h.1 hE)]
  clear hE;go_wp2;go_quiet (fail);go_wp2;apply H5.out;clear H5;exact zF3 b H S t w0 _ r es (Cx.alike (w':=w1.drewN nq) c1.out ⟨rfl,rfl,rfl⟩) hn hok (k1.out.trans (Keep.alike (w':=w1.drewN nq) ⟨rfl,rfl,rfl⟩)) _ hf.out
 ·have hB:(t.ends r.state != -1)=true:=by rw[bne_iff_ne];exact hE
  cases hL:t.longer r.ahead r.state
  ·go_wp2
   go_quiet ((go_at_call 155;exact Calls.quiet_of_same (zDZ r.tp _ S t (tbn.out _) ok r.ahead r.state ha hst)));go_wp2;apply H5.out;clear H5;exact zLM b H S t w0 _ r es (Cx.alike (w':=w1.drewN nq) c1.out ⟨rfl,rfl,rfl⟩) hn ok hact hok (k1.out.trans (Keep.alike (w':=w1.drewN nq) ⟨rfl,rfl,rfl⟩)) hE _ (by unfold Rs.fin;rw[if_pos ⟨hE,hL⟩])
  ·have hf:Hid (r.fin t=if t.live r.state=false then({r with opn:=false},[r.lastEv 3]) else(r,[])):=by show r.fin t=_;unfold Rs.fin;rw[if_neg (fun h=>by rw[hL] at h;exact absurd h.2 (by decide))]
   go_wp2;go_quiet ((go_at_call 155;exact Calls.quiet_of_same (zDZ r.tp _ S t (tbn.out _) ok r.ahead r.state ha hst)));go_wp2;apply H5.out;clear H5;exact zF3 b H S t w0 _ r es (Cx.alike (w':=w1.drewN nq) c1.out ⟨rfl,rfl,rfl⟩) hn hok (k1.out.trans (Keep.alike (w':=w1.drewN nq) ⟨rfl,rfl,rfl⟩)) _ hf.out
def Rs.here1 (r:Rs)(c:Nat):Rs:={r with hAt:=r.hAt+1,hLine:=jH c r.hLine,hCol:=zA8 c r.hCol}
def Rs.took (r:Rs)(t:Tb):Rs:=
 {(({r with first:=(r.first+1)%64,count:=r.count-1}:Rs).here1 (r.byte r.first)) with state:=t.next r.state (t.kind (r.byte r.first))}
def Rs.step (r:Rs)(t:Tb):Rs×List Ev:=(r.took t).fin t
theorem Rs.took_ok (r:Rs)(t:Tb)(ok:t.Ok)(h:r.Ok t):(r.took t).Ok t:=
 ⟨h.d1,h.d4,h.st,ok.next _ _ h.state (ok.kind _ (h.bytes _ h.first)),gZ _ (by decide),lY (Nat.sub_le _ _) h.count,h.bytes⟩
theorem zHy (b H:Nat)(S:Nat->Prop)(t:Tb)(w:World)(r:Rs){v0:Value}(es:List Ev)(hC:Cv H b S t w r v0 es)(hn:es.length<=4194304)(ok:t.Ok)(hact:∀i,i<t.nrule->t.act i<4)(hok:r.Ok t)(hc:1<=r.count)(ha:r.ahead<t.rows)
  (p1:r.hAt<2147483648) (p2:r.hLine<2147483648) (p3:r.hCol<2147483648):
  Calls prog 109 #[pointer (some ⟨b,0,none⟩)] w fun e w'=>
   e=returned (tuple #[])∧∃v,Cv H b S t w' (r.step t).1 v (es++(r.step t).2)∧Keep H b w w':=by
 have HC:=vl hC;go_in;apply wp_cut;intro K H0;go_wp2_with fail;refine(zIE b 0 _ r HC.out.run hok.first (by omega)).mono ?_;rintro e w1 ⟨rfl,ha1⟩;have c1:=vl <| HC.out.alike ha1;have k1:Hid (Keep H b w w1):=Keep.alike ha1;have hcb:=hok.bytes r.first hok.first
 rw[show (r.first+0)%64=r.first by have:=hok.first;omega];generalize hc0:r.byte r.first=c at *
 have Hc0:=vl hc0;go_wp2;apply H0.out;apply wp_cut;intro K H1;go_wp2_with fail;refine(zFn b 1 _ r c1.out.run hok.first hc hok.count).mono ?_;rintro e w2 ⟨rfl,hR2,hk2⟩;have c2:Hid (Cv H b S t w2 {r with first:=(r.first+1)%64,count:=r.count-1} v0 es):=c1.out.kept hk2 hR2 rfl;have k2:Hid (Keep H b w w2):=k1.out.trans (hk2 H);clear hk2 hR2 k1 c1;go_wp2_with fail;apply H1.out;clear H1;refine wp_seq_k ?_;intro K hK;have H2:Hid (∀a w,_->K a w):=hK;clear hK;have x78:=c2.out.run.get_hAt;have x79:=c2.out.run.get_hLine;have x80:=c2.out.run.get_hCol;go_wp2_with fail;refine(zDe r.hAt r.hLine r.hCol c _ p1 p2 p3 hcb).mono ?_;rintro e w3 ⟨rfl,hb3⟩;have c3:Hid (Cv H b S t w3 {r with first:=(r.first+1)%64,count:=r.count-1} v0 es):=c2.out.below hb3;have k3:Hid (Keep H b w w3):=k2.out.trans (Keep.below hb3 c2.out.HH);clear hb3 c2 k2 x78 x79 x80;have x78:=c3.out.run.get_hAt;have x79:=c3.out.run.get_hLine;have x80:=c3.out.run.get_hCol;have z78:=c3.out.run.frozen 78;have z79:=c3.out.run.frozen 79;have z80:=c3.out.run.frozen 80;go_wp2_with fail;apply H2.out;clear H2 x78 x79 x80 z78 z79 z80;obtain⟨w4,hw4,c4,k4⟩:∃w4,w4=((w3.setCell ⟨b,78,none⟩ (int i64 ((r.hAt:Int)+1))).setCell ⟨b,79,none⟩ (int i64 (jH c r.hLine:Nat))).setCell ⟨b,80,none⟩ (int i64 (zA8 c r.hCol:Nat))∧
   Hid (Cv H b S t w4 (({r with first:=(r.first+1)%64,count:=r.count-1}:Rs).here1 c) v0 es)∧Hid (Keep H b w w4):=by
  have d1:=Cx.stored c3.out 78 _ (c3.out.run.set_hAt (r.hAt+1)) rfl;have d2:=d1.stored 79 _ (d1.run.set_hLine (jH c r.hLine)) rfl;have d3:=d2.stored 80 _ (d2.run.set_hCol (zA8 c r.hCol)) rfl;exact⟨_,rfl,d3,((k3.out.trans (Keep.set _ _ _)).trans (Keep.set _ _ _)).trans (Keep.set _ _ _)⟩
 rw[<-hw4];clear hw4 c3 k3;refine wp_seq_k ?_;intro K hK;have H3:Hid (∀a w,_->K a w):=hK;clear hK;have y0:w4.cell? ⟨b,0,none⟩=some (pointer (some ⟨r.tp,0,none⟩)):=c4.out.run.get_tp;have y11:w4.cell? ⟨b,11,none⟩=some (int i64 r.state):=c4.out.run.get_state;have z11:=c4.out.run.frozen 11;have tb4:Hid (TabAt w4.drew S r.tp t):=(Cx.alike (w':=w4.drew) c4.out ⟨rfl,rfl,rfl⟩).tab;go_wp2_with fail;go_region_with ((go_at_call 154;go_must ((refine (zEG r.tp _ S t tb4.out ok r.state c hok.state hcb).mono ?_;rintro e w5 ⟨rfl,ha5⟩;have q11:w5.cell? ⟨b,11,none⟩=some (int i64 r.state):=(ha5.cell ⟨b,11,none⟩).trans y11;have z5:w5.frozen? ⟨b,11,none⟩=false:=(ha5.frozen ⟨b,11,none⟩).trans z11))))
 all_goals
  have c5:Hid (Cv H b S t w5 (({r with first:=(r.first+1)%64,count:=r.count-1}:Rs).here1 c) v0 es):=Cx.alike c4.out ha5;have k5:Hid (Keep H b w w5):=k4.out.trans (Keep.alike ha5);have c6:Hid (Cv H b S t (w5.setCell ⟨b,11,none⟩ (int i64 (t.next r.state (t.kind c):Nat))) (r.took t) v0 es):=by
   have h:=Cx.stored c5.out 11 _ (c5.out.run.set_state (t.next r.state (t.kind c))) rfl;show Cv H b S t _ (r.took t) v0 es;unfold Rs.took;rw[Hc0.out];exact h
  clear c4 k4 tb4 ha5 c5;go_wp2_with fail;apply H3.out;exact zKB b H S t w _ (r.took t) es c6.out hn ok hact (r.took_ok t ok hok) ha (k5.out.trans (Keep.set _ _ _))
structure Rs.Same (s r:Rs):Prop where
 count:s.count=r.count
 first:s.first=r.first
 byte:s.byte=r.byte
 hAt:s.hAt=r.hAt
 hLine:s.hLine=r.hLine
 hCol:s.hCol=r.hCol
 ahead:s.ahead=r.ahead
 tp:s.tp=r.tp
theorem Rs.tok_same (r:Rs)(t:Tb)(rule a l c:Nat):(r.tok t rule a l c).1.Same r:=by
 unfold Rs.tok Rs.moved;split
 ·exact⟨rfl,rfl,rfl,rfl,rfl,rfl,rfl,rfl⟩
 ·split
  ·exact⟨rfl,rfl,rfl,rfl,rfl,rfl,rfl,rfl⟩
  ·split
   ·exact⟨rfl,rfl,rfl,rfl,rfl,rfl,rfl,rfl⟩
   ·split <;> exact⟨rfl,rfl,rfl,rfl,rfl,rfl,rfl,rfl⟩
theorem Rs.tok_one (r:Rs)(t:Tb)(rule a l c:Nat):(r.tok t rule a l c).2.length<=1:=by
 unfold Rs.tok;split
 ·exact lQ
 ·split
  ·exact lQ
  ·show(if t.act rule=1 then[] else[_]:List Ev).length<=1
   split <;> simp
theorem Rs.tok_ok (r:Rs)(t:Tb)(rule a l c:Nat)(ok:t.Ok)(h:r.Ok t)(hr:rule<t.nrule):(r.tok t rule a l c).1.Ok t:=by
 unfold Rs.tok;split
 ·exact⟨h.d1,h.d4,h.st,h.state,h.first,h.count,h.bytes⟩
 ·split
  ·exact⟨h.d1,h.d4,h.st,h.state,h.first,h.count,h.bytes⟩
  ·rename_i h2 h3
   have d1:=h.d1;have d4:=h.d4;have key:1<=(r.moved t rule).depth∧(r.moved t rule).depth<=4∧∀j,j<(r.moved t rule).depth->(r.moved t rule).stack j<t.nmode:=by
    unfold Rs.moved;split
    ·exact⟨by show 1<=r.depth-1;omega,by show r.depth-1<=4;omega,fun j hj=>h.st j (by have:j<r.depth-1:=hj;omega)⟩
    ·split
     ·refine⟨by show 1<=r.depth+1;omega,by show r.depth+1<=4;omega,fun j hj=>?_⟩
      have hj':j<r.depth+1:=hj;show(if j=r.depth then t.push rule else r.stack j)<t.nmode;split
      ·exact ok.push _ hr
      ·exact h.st j (by omega)
     ·exact⟨d1,d4,h.st⟩
   obtain⟨k1,k2,k3⟩:=key;have hs:=r.tok_same t rule a l c;unfold Rs.tok at hs;rw[if_neg h2,if_neg h3] at hs;exact⟨k1,k2,k3,ok.start _ (k3 _ (by omega)),by rw[hs.first];exact h.first,by rw[hs.count];exact h.count,by rw[hs.byte];exact h.bytes⟩
theorem Rs.fin_same (r:Rs)(t:Tb):(r.fin t).1.Same r:=by
 unfold Rs.fin;split
 ·exact r.tok_same t _ _ _ _
 ·split <;> exact⟨rfl,rfl,rfl,rfl,rfl,rfl,rfl,rfl⟩
theorem Rs.fin_one (r:Rs)(t:Tb):(r.fin t).2.length<=1:=by
 unfold Rs.fin;split
 ·exact r.tok_one t _ _ _ _
 ·split <;> simp
theorem Rs.fin_ok (r:Rs)(t:Tb)(ok:t.Ok)(h:r.Ok t):(r.fin t).1.Ok t:=by
 have he:=ok.ends r.state h.state;unfold Rs.fin;split
 ·rename_i hx
  exact r.tok_ok t _ _ _ _ ok h (by have:=hx.1;omega)
 ·split
  ·exact⟨h.d1,h.d4,h.st,h.state,h.first,h.count,h.bytes⟩
  ·exact h
theorem Cx.boxed {H b:Nat}{S:Nat->Prop}{t:Tb}{w:World}{r:Rs}{v0:Value}{n:Nat}{xs:List Value}(h:Cx H b S t w r v0 n xs)(g i:Nat)(x:Value)(hg:H<=g)(hne:v0.ownBlock≠some g):Cx H b S t (w.setCell ⟨g,i,none⟩ x) r v0 n xs:=by
 have hbH:=h.bH;refine⟨h.run.of_block (lJ _ _ _ _ (by show b≠g;omega)),⟨h.own.1,h.own.2.imp id ?_⟩,h.tab.keep fun k hk=>lJ _ _ _ _ (by have:=(h.safe k hk).1;show k≠g;omega),hbH,by simpa[World.setCell] using h.HH,h.safe⟩;rintro⟨g',cap,cur,hv,hb',hh,rest⟩;refine⟨g',cap,cur,hv,hb',(lJ _ _ _ _ ?_).trans hh,rest⟩;intro e;have e':=e;rw[hv,e'] at hne;exact hne rfl
theorem Keep.boxed {H b:Nat}(w:World)(g i:Nat)(x:Value)(hg:H<=g):Keep H b w (w.setCell ⟨g,i,none⟩ x):=
 ⟨rfl,rfl,by simp[World.setCell],fun k h1 _=>lJ _ _ _ _ (by show k≠g;omega)⟩
def Rs.cut (r:Rs):Rs:={r with first:=(r.first+r.length)%64,count:=r.count-r.length,taken:=0,length:=0}
theorem zKX (b H:Nat)(S:Nat->Prop)(t:Tb)(w0 w:World)(r:Rs){v0:Value}(es:List Ev)(hC:Cv H b S t w r v0 es)(hn:es.length<=4194304)(ok:t.Ok)(hact:∀i,i<t.nrule->t.act i<4)(hok:r.Ok t)(hl:r.length<=r.count)(k:Nat)(hrule:r.rule=k)(hkr:k<t.nrule)(hk:Keep H b w0 w)
  (g eA eL eC:Nat) (hg:H<=g) (hgb:w.heap[g]? =some (.cells #[int i64 eA,int i64 eL,int i64 eC] 97)) (f:Rs×List Ev) (hf:f=r.cut.tok t k eA eL eC)
  {u1 u3 u4 u5 u6 u7 u8 u9 u10 u11 u12 u13 u14 u15 u16 u17 u18 u19 u20 u21 u22 u23 u24 u25 u26 u27 u28 u29 u30 u31 u32 u33 u34 u35 u36 u37 u38 u39 u40 u41 u42 u43 u44 u45 u46 u47 u48 u49 u50:Value}:
  Code.wp prog (yQ 3 ((f119.body).getD .skip)) (bodyPost prog f119 fun e w'=>
   e=returned (tuple #[])∧∃v,Cv H b S t w' f.1 v (es++f.2)∧Keep H b w0 w')
   ⟨(pointer (some ⟨b,0,none⟩)::u1::pointer (some ⟨g,0,none⟩)::u3::u4::u5::u6::u7::u8::u9::u10::u11::u12::u13::u14::u15::u16::u17::u18::u19::u20::u21::u22::u23::u24::u25::u26::u27::u28::u29::u30::u31::u32::u33::u34::u35::u36::u37::u38::u39::u40::u41::u42::u43::u44::u45::u46::u47::u48::u49::u50::[]).toArray,[]⟩ w:=by
 conv=>arg 2;whnf
 have HC:=vl hC;have J:=vl hk;have HF:=vl hf;have HG:=vl hgb;have HR:=vl hrule;have y83:=HC.out.run.get_length;have hgne:g≠b:=by have:=HC.out.bH;omega
 apply wp_cut;intro K H7;go_wp2;go_region_with ((go_at_call 152;go_must ((refine (zFn b r.length _ r (Cx.alike (w':=w.drew) HC.out ⟨rfl,rfl,rfl⟩).run hok.first hl hok.count).mono ?_;rintro e w1 ⟨rfl,hR1,hk1⟩))))
 all_goals
  have c1:=vl <| Cx.kept (Cx.alike (w':=w.drew) HC.out ⟨rfl,rfl,rfl⟩) hk1 hR1 rfl;have k1:=vl <| (J.out.trans (Keep.drew _)).trans (hk1 H);have g1:=vl <| ((hk1 (g+1)).block g (by omega) hgne).trans HG.out;go_wp2;apply H7.out;have y82:=c1.out.run.get_taken;have y83:=c1.out.run.get_length;have y84:w1.cell? ⟨b,84,none⟩=some (int i64 k):=by rw[<-HR.out];exact c1.out.run.get_rule
  have z82:=c1.out.run.frozen 82;have z83:=c1.out.run.frozen 83;have x0:w1.cell? ⟨g,0,none⟩=some (int i64 eA):=by simp[World.cell?,g1.out]
  have x1:w1.cell? ⟨g,1,none⟩=some (int i64 eL):=by simp[World.cell?,g1.out]
  have x2:w1.cell? ⟨g,2,none⟩=some (int i64 eC):=by simp[World.cell?,g1.out]
  go_wp2;obtain⟨w2,hw2,c2,k2,g2⟩:∃w2,w2=(w1.setCell ⟨b,82,none⟩ (int i64 0)).setCell ⟨b,83,none⟩ (int i64 0)∧Hid (Cv H b S t w2 r.cut v0 es)∧Hid (Keep H b w0 w2)∧Hid (w2.heap[g]? =some (.cells #[int i64 eA,int i64 eL,int i64 eC] 97)):=by
   have d1:=Cx.stored c1.out 82 _ (c1.out.run.set_taken 0) rfl;have d2:=d1.stored 83 _ (d1.run.set_length 0) rfl;exact⟨_,rfl,d2,(k1.out.trans (Keep.set _ _ _)).trans (Keep.set _ _ _),((lJ _ _ _ _ (by exact hgne)).trans (lJ _ _ _ _ (by exact hgne))).trans g1.out⟩
  rw[<-hw2];clear hw2 c1 k1 g1 y82 y83 y84 z82 z83 x0 x1 x2;have y84:w2.cell? ⟨b,84,none⟩=some (int i64 k):=by rw[<-HR.out];exact c2.out.run.get_rule
  have x0:w2.cell? ⟨g,0,none⟩=some (int i64 eA):=by simp[World.cell?,g2.out]
  have x1:w2.cell? ⟨g,1,none⟩=some (int i64 eL):=by simp[World.cell?,g2.out]
  have x2:w2.cell? ⟨g,2,none⟩=some (int i64 eC):=by simp[World.cell?,g2.out]
  have hok2:r.cut.Ok t:=⟨hok.d1,hok.d4,hok.st,hok.state,gZ _ (by decide),lY (Nat.sub_le _ _) hok.count,hok.bytes⟩
  go_region_with ((go_at_call 156;go_must ((refine (zDM b H S t _ r.cut es (Cx.alike (w':=w2.drew) c2.out ⟨rfl,rfl,rfl⟩) hn k eA eL eC hkr (hact k hkr) ok hok2).mono ?_;rintro e w3 ⟨rfl,v3,c3,k3⟩))))
  all_goals
   have C3:Hid (Cv H b S t w3 f.1 v3 (es++f.2)):=by show Cv H b S t w3 f.1 v3 (es++f.2);rw[HF.out];exact c3
   go_wp2;go_end0;exact⟨rfl,v3,C3.out,(k2.out.trans (Keep.drew _)).trans k3⟩
def Rs.lineTo (r:Rs):Nat->Nat
 |0=>r.bLine
 |i+1=>jH (r.byte ((r.first+i)%64)) (r.lineTo i)
def Rs.colTo (r:Rs):Nat->Nat
 |0=>r.bCol
 |i+1=>zA8 (r.byte ((r.first+i)%64)) (r.colTo i)
theorem Rs.lineTo_le (r:Rs)(i:Nat):r.lineTo i<=r.bLine+i:=by
 induction i with
 |zero=>exact lQ
 |succ i ih=>simp only[Rs.lineTo];unfold jH;split <;> omega
theorem Rs.colTo_le (r:Rs)(i:Nat):r.colTo i<=r.bCol+i+1:=by
 induction i with
 |zero=>exact Nat.le_succ _
 |succ i ih=>simp only[Rs.colTo];unfold zA8;split <;> omega
theorem zKY (b H:Nat)(S:Nat->Prop)(t:Tb)(w0 w:World)(r:Rs){v0:Value}(es:List Ev)(hC:Cv H b S t w r v0 es)(hn:es.length<=4194304)(ok:t.Ok)(hact:∀i,i<t.nrule->t.act i<4)(hok:r.Ok t)(hl:r.length<=r.count)(k:Nat)(hrule:r.rule=k)(hkr:k<t.nrule)(hk:Keep H b w0 w)
  (p1:r.bAt+64<2147483648) (p2:r.bLine+64<2147483648) (p3:r.bCol+65<2147483648)
  (g:Nat) (hg:H<=g) (hne:v0.ownBlock≠some g) (hgb:w.heap[g]? =some (.cells #[int i64 r.bAt,int i64 r.bLine,int i64 r.bCol] 97)) (f:Rs×List Ev) (hf:f=r.cut.tok t k (r.bAt+r.length) (r.lineTo r.length) (r.colTo r.length))
  {u1 u3 u4 u5 u6 u7 u8 u9 u10 u11 u12 u13 u14 u15 u16 u17 u18 u19 u20 u21 u22 u23 u24 u25 u26 u27 u28 u29 u30 u31 u32 u33 u34 u35 u36 u37 u38 u39 u40 u41 u42 u43 u44 u45 u46 u47 u48 u49 u50:Value}:
  Code.wp prog (yQ 2 ((f119.body).getD .skip)) (bodyPost prog f119 fun e w'=>
   e=returned (tuple #[])∧∃v,Cv H b S t w' f.1 v (es++f.2)∧Keep H b w0 w')
   ⟨(pointer (some ⟨b,0,none⟩)::u1::pointer (some ⟨g,0,none⟩)::u3::u4::u5::u6::u7::u8::u9::u10::u11::u12::u13::u14::u15::u16::u17::u18::u19::u20::u21::u22::u23::u24::u25::u26::u27::u28::u29::u30::u31::u32::u33::u34::u35::u36::u37::u38::u39::u40::u41::u42::u43::u44::u45::u46::u47::u48::u49::u50::[]).toArray,[]⟩ w:=by
 conv=>arg 2;whnf
 refine wp_seq_k ?_;intro K hK0;have HK:Hid (∀a w,_->K a w):=hK0;have HC:Hid (Cv H b S t w r v0 es):=hC;have J:Hid (Keep H b w0 w):=hk;have HF:Hid (f=r.cut.tok t k (r.bAt+r.length) (r.lineTo r.length) (r.colTo r.length)):=hf;have HG:Hid (w.heap[g]? =some (.cells #[int i64 r.bAt,int i64 r.bLine,int i64 r.bCol] 97)):=hgb;have HR:Hid (r.rule=k):=hrule;have hcnt:=hok.count;clear hC hk hf hgb hrule hK0;go_wp2_with fail;go_loopg [3] r.length (fun q i wr=>∃(j A L C:Nat),q=r.length-j∧j<=r.length∧i=int i64 (j:Int)∧A=r.bAt+j∧L=r.lineTo j∧C=r.colTo j∧Cv H b S t wr r v0 es∧Keep H b w0 wr∧wr.heap[g]? =some (.cells #[int i64 A,int i64 L,int i64 C] 97))
 case atStart=>exact⟨0,r.bAt,r.bLine,r.bCol,rfl,lX,rfl,rfl,rfl,rfl,HC.out,J.out,HG.out⟩
 case round=>
  obtain⟨j,A,L,C,hgk,hj,rfl,hA,hL,hCc,hC',hk',hgb'⟩:=hrel;have AA:Hid (gk=r.length-j∧A=r.bAt+j∧L=r.lineTo j∧C=r.colTo j∧Cv H b S t wr r v0 es∧Keep H b w0 wr∧wr.heap[g]? =some (.cells #[int i64 A,int i64 L,int i64 C] 97)):=⟨hgk,hA,hL,hCc,hC',hk',hgb'⟩
  have q1:=r.lineTo_le j;have q2:=r.colTo_le j;have a1:A<2147483648:=by omega
  have a2:L<2147483648:=by omega
  have a3:C<2147483648:=by omega
  have y83:wr.cell? ⟨b,83,none⟩=some (int i64 r.length):=hC'.run.get_length;have x0:wr.cell? ⟨g,0,none⟩=some (int i64 A):=by simp[World.cell?,hgb']
  have x1:wr.cell? ⟨g,1,none⟩=some (int i64 L):=by simp[World.cell?,hgb']
  have x2:wr.cell? ⟨g,2,none⟩=some (int i64 C):=by simp[World.cell?,hgb']
  have fz:Hid (∀i,wr.frozen? ⟨g,i,none⟩=false):=fun i=>by simp[World.frozen?,hgb']
  have hgs:g<wr.heap.size:=(kQ.1 hgb').1;clear hgk hA hL hCc hC' hk' hgb' q1 q2;by_cases hjl:j<r.length
  ·have hl1:(j:Int)<(r.length:Int):=by omega
   have hcb:=hok.bytes ((r.first+j)%64) (gZ _ (by decide));have HL:Hid (r.lineTo (j+1)=jH (r.byte ((r.first+j)%64)) (r.lineTo j)∧r.colTo (j+1)=zA8 (r.byte ((r.first+j)%64)) (r.colTo j)):=⟨rfl,rfl⟩
   have HAT:Hid (Ca 151 #[pointer (some ⟨b,12,none⟩),int i64 j] wr.drew fun e w'=>e=returned (int .u8 (r.byte ((r.first+j)%64)))∧w'.Alike wr.drew):=zIE b j _ r (Cx.alike (w':=wr.drew) AA.out.2.2.2.2.1 ⟨rfl,rfl,rfl⟩).run hok.first (by omega)
   generalize r.byte ((r.first+j)%64)=c at *;go_wp2_with fail;go_region_with ((first|(go_at_call 151;go_must ((refine Calls.mono HAT.out ?_;rintro e w5 ⟨rfl,ha5⟩;have m0:w5.cell? ⟨g,0,none⟩=some (int i64 A):=(ha5.cell ⟨g,0,none⟩).trans x0;have m1:w5.cell? ⟨g,1,none⟩=some (int i64 L):=(ha5.cell ⟨g,1,none⟩).trans x1;have m2:w5.cell? ⟨g,2,none⟩=some (int i64 C):=(ha5.cell ⟨g,2,none⟩).trans x2)))|(go_at_call 153;go_must ((refine (zDe A L C c _ a1 a2 a3 hcb).mono ?_;rintro e w6 ⟨rfl,hb6⟩;have hg5:g<w5.heap.size:=Nat.lt_of_lt_of_eq hgs (congrArg Array.size ha5.1).symm;have n0:w6.cell? ⟨g,0,none⟩=some (int i64 A):=(hb6.cell (p:=⟨g,0,none⟩) hg5).trans m0;have n1:w6.cell? ⟨g,1,none⟩=some (int i64 L):=(hb6.cell (p:=⟨g,1,none⟩) hg5).trans m1;have n2:w6.cell? ⟨g,2,none⟩=some (int i64 C):=(hb6.cell (p:=⟨g,2,none⟩) hg5).trans m2;have o0:w6.frozen? ⟨g,0,none⟩=false:=(hb6.frozen (p:=⟨g,0,none⟩) hg5).trans ((ha5.frozen ⟨g,0,none⟩).trans (fz.out 0));have o1:w6.frozen? ⟨g,1,none⟩=false:=(hb6.frozen (p:=⟨g,1,none⟩) hg5).trans ((ha5.frozen ⟨g,1,none⟩).trans (fz.out 1));have o2:w6.frozen? ⟨g,2,none⟩=false:=(hb6.frozen (p:=⟨g,2,none⟩) hg5).trans ((ha5.frozen ⟨g,2,none⟩).trans (fz.out 2)))))))
   all_goals
    have h5:w5.heap[g]? =wr.heap[g]? :=congrArg (fun h=>h[g]?) ha5.1;have h6:w6.heap[g]? =some (.cells #[int i64 A,int i64 L,int i64 C] 97):=(hb6.block g hg5).trans (h5.trans AA.out.2.2.2.2.2.2);have c5:=Cx.alike AA.out.2.2.2.2.1 ha5;have c6:=Cx.below c5 hb6;have C7:Hid (Cv H b S t (((w6.setCell ⟨g,0,none⟩ (int i64 ((A:Int)+1))).setCell ⟨g,1,none⟩ (int i64 (jH c L:Nat))).setCell ⟨g,2,none⟩ (int i64 (zA8 c C:Nat))) r v0 es∧
      Keep H b w0 (((w6.setCell ⟨g,0,none⟩ (int i64 ((A:Int)+1))).setCell ⟨g,1,none⟩ (int i64 (jH c L:Nat))).setCell ⟨g,2,none⟩ (int i64 (zA8 c C:Nat)))∧
      (((w6.setCell ⟨g,0,none⟩ (int i64 ((A:Int)+1))).setCell ⟨g,1,none⟩ (int i64 (jH c L:Nat))).setCell ⟨g,2,none⟩ (int i64 (zA8 c C:Nat))).heap[g]? =some (.cells #[int i64 ((A+1:Nat):Int),int i64 (jH c L:Nat),int i64 (zA8 c C:Nat)] 97)):=by
     refine⟨((Cx.boxed c6 g 0 _ hg hne).boxed g 1 _ hg hne).boxed g 2 _ hg hne,((((AA.out.2.2.2.2.2.1.trans (Keep.alike ha5)).trans (Keep.below hb6 c5.HH)).trans (Keep.boxed _ g 0 _ hg)).trans (Keep.boxed _ g 1 _ hg)).trans (Keep.boxed _ g 2 _ hg),?_⟩;simp[setCell,lU,h6]
    clear h5 h6 c5 c6 hb6 ha5;go_wp2_with fail;go_roundg (r.length-(j+1))
    case measure=>rw[AA.out.1];omega
    case rel=>exact⟨j+1,A+1,jH c L,zA8 c C,rfl,by omega,congrArg (Value.int IntKind.i64) (by omega),by rw[AA.out.2.1];omega,by rw[HL.out.1,AA.out.2.2.1],by rw[HL.out.2,AA.out.2.2.2.1],C7.out.1,C7.out.2.1,C7.out.2.2⟩
  ·have hl1:(r.length:Int)<=(j:Int):=by omega
   have hje:Hid (j=r.length):=by show j=_;omega
   go_wp2_with fail;apply HK.out;obtain⟨_,hA,hL,hCc,hC',hk',hgb'⟩:=AA.out;exact zKX b H S t w0 _ r es hC' hn ok hact hok hl k HR.out hkr hk' g A L C hg hgb' f (by rw[HF.out,hA,hL,hCc,hje.out])
def Rs.long (r:Rs)(t:Tb):Rs×List Ev:=
 if r.length=0 then({r with opn:=false},[r.lastEv 3])
 else r.cut.tok t r.rule.toNat (r.bAt+r.length) (r.lineTo r.length) (r.colTo r.length)
theorem zAU (b H:Nat)(S:Nat->Prop)(t:Tb)(w:World)(r:Rs){v0:Value}(es:List Ev)(hC:Cv H b S t w r v0 es)(hn:es.length<=4194304)(ok:t.Ok)(hact:∀i,i<t.nrule->t.act i<4)(hok:r.Ok t)(hl:r.length<=r.count)(hrule:r.length=0∨(0<=r.rule∧r.rule<t.nrule))
  (p1:r.bAt+64<2147483648) (p2:r.bLine+64<2147483648) (p3:r.bCol+65<2147483648):
  Calls prog 119 #[pointer (some ⟨b,0,none⟩)] w fun e w'=>
   e=returned (tuple #[])∧∃v,Cv H b S t w' (r.long t).1 v (es++(r.long t).2)∧Keep H b w w':=by
 have HC:=vl hC;have y83:=hC.run.get_length;by_cases h0:r.length=0
 ·have hb:((r.length:Int)==0)=true:=by rw[beq_iff_eq];omega
  have HF:Hid (r.long t=({r with opn:=false},[r.lastEv 3])):=by show r.long t=_;unfold Rs.long;rw[if_pos h0]
  go_in;go_wp2_with fail;refine(vE b H S t 3 _ r v0 _ _ HC.out hn).mono ?_;rintro e w2 ⟨rfl,ao,cap,c2,k2⟩;have C2:=vl c2;go_wp2;refine bodyPost_ret (results_none rfl _ _ _) rfl ?_;refine⟨rfl,slice ao (es.length+1) cap,?_,k2⟩;rw[HF.out];unfold Cv;rw[xQ,kX];exact C2.out
 ·have hb:((r.length:Int)==0)=false:=by rw[hJ];omega
  obtain⟨k,hk0⟩:=Int.eq_ofNat_of_zero_le (show 0<=r.rule by omega);have hkr:k<t.nrule:=by omega
  have HR:=vl hk0;have HF:Hid (r.long t=r.cut.tok t k (r.bAt+r.length) (r.lineTo r.length) (r.colTo r.length)):=by show r.long t=_;unfold Rs.long;rw[if_neg h0,hk0];rfl
  have y8:=HC.out.run.get_bAt;have y9:=HC.out.run.get_bLine;have y10:=HC.out.run.get_bCol;go_in;apply wp_cut;intro K H0;go_wp2;apply H0.out;apply wp_cut;intro K H1;go_wp2;apply H1.out;exact zKY b H S t w _ r es (Cx.alloc HC.out _) hn ok hact hok hl k HR.out hkr (kZ _ _ HC.out.HH) p1 p2 p3 w.heap.size HC.out.HH (fun e=>by have:=(HC.out.own.lt _ e).2;omega) (gU w _) _ HF.out
def Rs.ate (r:Rs)(t:Tb):Rs:={r with taken:=r.taken+1,state:=t.next r.state (t.kind (r.byte ((r.first+r.taken)%64)))}
def Rs.marked (r:Rs)(t:Tb):Rs:=if t.ends r.state=-1 then r else{r with rule:=t.ends r.state,length:=r.taken}
def Rs.judged (r:Rs)(t:Tb):Rs×List Ev:=if t.live r.state then(r,[]) else r.long t
def Rs.heldStep (r:Rs)(t:Tb):Rs×List Ev:=((r.ate t).marked t).judged t
def Rs.heldN (r:Rs)(t:Tb):Nat->Rs×List Ev
 |0=>(r,[])
 |n+1=>if(r.heldN t n).1.taken<(r.heldN t n).1.count∧(r.heldN t n).1.opn=true then(((r.heldN t n).1.heldStep t).1,(r.heldN t n).2++((r.heldN t n).1.heldStep t).2) else r.heldN t n
structure Rs.Oth (r:Rs)(t:Tb)(P:Nat):Prop where
 ok:r.Ok t
 len:r.length<=r.taken
 tak:r.taken<=r.count
 rule:r.length=0∨(0<=r.rule∧r.rule<t.nrule)
 pos:r.bAt+r.count<=P
 line:r.bLine<=r.bAt+1
 col1:1<=r.bCol
 col:r.bCol<=r.bAt+1
def xB (b:Bool):Nat:=if b then 1 else 0
def Rs.todo (r:Rs):Nat:=r.count*65+(r.count-r.taken)
theorem Rs.colTo_le2 (r:Rs)(h:1<=r.bCol)(i:Nat):1<=r.colTo i∧r.colTo i<=r.bCol+i:=by
 induction i with
 |zero=>exact⟨h,lQ⟩
 |succ i ih=>simp only[Rs.colTo];unfold zA8;split <;> omega
theorem Rs.ate_oth (r:Rs)(t:Tb)(P:Nat)(ok:t.Ok)(h:r.Oth t P)(hl:r.taken<r.count):(r.ate t).Oth t P:=
 ⟨⟨h.ok.d1,h.ok.d4,h.ok.st,ok.next _ _ h.ok.state (ok.kind _ (h.ok.bytes _ (gZ _ (by decide)))),h.ok.first,h.ok.count,h.ok.bytes⟩,Nat.le_succ_of_le h.len,hl,h.rule,h.pos,h.line,h.col1,h.col⟩
theorem Rs.marked_oth (r:Rs)(t:Tb)(P:Nat)(ok:t.Ok)(h:r.Oth t P):(r.marked t).Oth t P:=by
 unfold Rs.marked;split
 ·exact h
 ·rename_i he
  have e:=ok.ends r.state h.ok.state;exact⟨⟨h.ok.d1,h.ok.d4,h.ok.st,h.ok.state,h.ok.first,h.ok.count,h.ok.bytes⟩,lQ,h.tak,.inr ⟨by show 0<=t.ends r.state;omega,by show t.ends r.state<t.nrule;omega⟩,h.pos,h.line,h.col1,h.col⟩
theorem Rs.marked_same (r:Rs)(t:Tb):(r.marked t).count=r.count∧(r.marked t).taken=r.taken∧(r.marked t).opn=r.opn∧(r.marked t).state=r.state:=by
 unfold Rs.marked;split <;> exact⟨rfl,rfl,rfl,rfl⟩
theorem Rs.tok_opn (r:Rs)(t:Tb)(rule a l c:Nat):((r.tok t rule a l c).1.opn=r.opn∨(r.tok t rule a l c).2≠[])∧((r.tok t rule a l c).1.opn=true->r.opn=true)∧((r.tok t rule a l c).1.taken=r.taken∧(r.tok t rule a l c).1.length=r.length)∧(((r.tok t rule a l c).1.bAt=r.bAt∧(r.tok t rule a l c).1.bLine=r.bLine∧(r.tok t rule a l c).1.bCol=r.bCol∧(r.tok t rule a l c).1.opn=false)∨((r.tok t rule a l c).1.bAt=a∧(r.tok t rule a l c).1.bLine=l∧(r.tok t rule a l c).1.bCol=c)):=by
 unfold Rs.tok Rs.moved;split
 ·exact⟨.inr (by simp),(fun h=>by cases h),⟨rfl,rfl⟩,.inl ⟨rfl,rfl,rfl,rfl⟩⟩
 ·split
  ·exact⟨.inr (by simp),(fun h=>by cases h),⟨rfl,rfl⟩,.inl ⟨rfl,rfl,rfl,rfl⟩⟩
  ·split
   ·exact⟨.inl rfl,id,⟨rfl,rfl⟩,.inr ⟨rfl,rfl,rfl⟩⟩
   ·split <;> exact⟨.inl rfl,id,⟨rfl,rfl⟩,.inr ⟨rfl,rfl,rfl⟩⟩
theorem Rs.long_inv (r:Rs)(t:Tb)(P:Nat)(ok:t.Ok)(h:r.Oth t P)(ho:r.opn=true)(hc:1<=r.count):
  (r.long t).1.Oth t P∧(r.long t).2.length+(r.long t).1.count+xB (r.long t).1.opn<=r.count+1∧((r.long t).1.opn=true∨(r.long t).2≠[])∧((r.long t).1.count<r.count∨((r.long t).1.opn=false∧(r.long t).1.count=r.count∧(r.long t).1.taken=r.taken)):=by
 unfold Rs.long;have hlt:=h.len;have htk:=h.tak;split
 ·refine⟨⟨⟨h.ok.d1,h.ok.d4,h.ok.st,h.ok.state,h.ok.first,h.ok.count,h.ok.bytes⟩,h.len,h.tak,h.rule,h.pos,h.line,h.col1,h.col⟩,?_,.inr (by simp),.inr ⟨rfl,rfl,rfl⟩⟩
  show 1+r.count+0<=r.count+1;omega
 ·rename_i h0
  have hrule:=h.rule.resolve_left h0;have hr:r.rule.toNat<t.nrule:=by omega
  have hcut:r.cut.Ok t:=⟨h.ok.d1,h.ok.d4,h.ok.st,h.ok.state,gZ _ (by decide),lY (Nat.sub_le _ _) h.ok.count,h.ok.bytes⟩
  have hk:=r.cut.tok_ok t r.rule.toNat (r.bAt+r.length) (r.lineTo r.length) (r.colTo r.length) ok hcut hr;have hs:=r.cut.tok_same t r.rule.toNat (r.bAt+r.length) (r.lineTo r.length) (r.colTo r.length)
  have h1:=r.cut.tok_one t r.rule.toNat (r.bAt+r.length) (r.lineTo r.length) (r.colTo r.length)
  obtain⟨o1,o2,⟨o3,o4⟩,o5⟩:=r.cut.tok_opn t r.rule.toNat (r.bAt+r.length) (r.lineTo r.length) (r.colTo r.length)
  generalize r.cut.tok t r.rule.toNat (r.bAt+r.length) (r.lineTo r.length) (r.colTo r.length)=f at *;have e1:f.1.count=r.count-r.length:=hs.count;have e2:f.1.taken=0:=o3;have e3:f.1.length=0:=o4;have hp:=h.pos;have hl:=h.line;have hc1:=h.col1;have hc2:=h.col;have q1:=r.lineTo_le r.length;have q2:=r.colTo_le2 hc1 r.length;refine⟨⟨hk,by omega,by omega,.inl e3,?_,?_,?_,?_⟩,?_,?_,.inl (by omega)⟩
  ·rcases o5 with⟨e,_⟩|⟨e,_⟩
   ·have e':f.1.bAt=r.bAt:=e
    omega
   ·omega
  ·rcases o5 with⟨e,e5,_⟩|⟨e,e5,_⟩
   ·have e':f.1.bAt=r.bAt:=e
    have e6:f.1.bLine=r.bLine:=e5;omega
   ·omega
  ·rcases o5 with⟨_,_,e,_⟩|⟨_,_,e⟩
   ·have e':f.1.bCol=r.bCol:=e
    omega
   ·omega
  ·rcases o5 with⟨e,_,e5,_⟩|⟨e,_,e5⟩
   ·have e':f.1.bAt=r.bAt:=e
    have e6:f.1.bCol=r.bCol:=e5;omega
   ·omega
  ·have:xB f.1.opn<=1:=by unfold xB;split <;> omega
   omega
  ·rcases o1 with o1|o1
   ·left
    rw[o1];exact ho
   ·exact .inr o1
theorem Rs.held_inv (r:Rs)(t:Tb)(P:Nat)(ok:t.Ok)(h:r.Oth t P)(ho:r.opn=true)(hl:r.taken<r.count):
  (r.heldStep t).1.Oth t P∧(r.heldStep t).2.length+(r.heldStep t).1.count+xB (r.heldStep t).1.opn<=r.count+1∧((r.heldStep t).1.opn=true∨(r.heldStep t).2≠[])∧(r.heldStep t).1.todo<r.todo:=by
 have h1:=(r.ate t).marked_oth t P ok (r.ate_oth t P ok h hl);obtain⟨m1,m2,m3,m4⟩:=(r.ate t).marked_same t;have ho1:((r.ate t).marked t).opn=true:=by rw[m3];exact ho
 have c1:((r.ate t).marked t).count=r.count:=m1;have c2:((r.ate t).marked t).taken=r.taken+1:=m2;have h64:=h.ok.count;unfold Rs.heldStep Rs.judged;split
 ·refine⟨h1,?_,.inl ho1,?_⟩
  ·show 0+((r.ate t).marked t).count+xB ((r.ate t).marked t).opn<=r.count+1
   rw[ho1,c1];show 0+r.count+1<=r.count+1;omega
  ·show((r.ate t).marked t).todo<r.todo
   unfold Rs.todo;rw[c1,c2];omega
 ·obtain⟨a1,a2,a3,a4⟩:=((r.ate t).marked t).long_inv t P ok h1 ho1 (by omega)
  refine⟨a1,by rw[c1] at a2;exact a2,a3,?_⟩;unfold Rs.todo;have:=a1.tak;rcases a4 with a4|⟨_,a4,a5⟩
  ·rw[c1] at a4
   omega
  ·rw[a4,a5,c1,c2]
   omega
theorem zME (b i:Nat)(w:World)(r:Rs){v0:Value}(hR:zL w b r v0)(hf:r.first<64)(hi:i<64):
  Calls prog 151 #[pointer (some ⟨b,12,none⟩),int i64 i] w fun e w'=>e=returned (int .u8 (r.byte ((r.first+i)%64)))∧∃m,w'=w.drewN m:=by
 have h1:=hR.get_first;have hx:=hR.get_byte ((r.first+i)%64) (gZ _ (by decide));clear hR;generalize r.first=f at *
 go_enter func151,ntmps151
 go_wp2;go_quiet (fail);go_wp2;go_ret;exact⟨rfl,_,rfl⟩
theorem zEE (b H:Nat)(S:Nat->Prop)(t:Tb)(w:World)(r0:Rs){v0:Value}(es0:List Ev)(P C:Nat)(hC:Cv H b S t w r0 v0 es0)(ok:t.Ok)(hact:∀i,i<t.nrule->t.act i<4)(hO:r0.Oth t P)(hP:P<=1073741824)(hn:es0.length+r0.count+xB r0.opn<=C)(hC4:C<=4194304):
  Calls prog 111 #[pointer (some ⟨b,0,none⟩)] w fun e w'=>
   e=returned (tuple #[])∧∃v n,Cv H b S t w' (r0.heldN t n).1 v (es0++(r0.heldN t n).2)∧Keep H b w w'∧(r0.heldN t n).1.Oth t P∧(es0++(r0.heldN t n).2).length+(r0.heldN t n).1.count+xB (r0.heldN t n).1.opn<=C∧¬((r0.heldN t n).1.taken<(r0.heldN t n).1.count∧(r0.heldN t n).1.opn=true):=by
 have HC0:Hid (Cv H b S t w r0 v0 es0∧r0.Oth t P∧es0.length+r0.count+xB r0.opn<=C):=⟨hC,hO,hn⟩
 clear hC hO hn;go_enter func111,ntmps111
 go_wp2_with fail;go_loopg [] r0.todo (fun q wr=>∃(n:Nat) (r:Rs) (es:List Ev) (v:Value),q=r.todo∧r0.heldN t n=(r,es)∧Cv H b S t wr r v (es0++es)∧Keep H b w wr∧r.Oth t P∧(es0++es).length+r.count+xB r.opn<=C)
 case atStart=>exact⟨0,r0,[],v0,rfl,rfl,by rw[List.append_nil];exact HC0.out.1,Keep.refl _ _ _,HC0.out.2.1,by rw[List.append_nil];exact HC0.out.2.2⟩
 case round=>
  obtain⟨n,r,es,v,hgk,hN,hC,hk,hO,hn⟩:=hrel;have AA:Hid (gk=r.todo∧r0.heldN t n=(r,es)∧Cv H b S t wr r v (es0++es)∧Keep H b w wr∧r.Oth t P∧(es0++es).length+r.count+xB r.opn<=C):=⟨hgk,hN,hC,hk,hO,hn⟩
  have y1:wr.cell? ⟨b,1,none⟩=some (bool r.opn):=hC.run.get_opn;have y77:wr.cell? ⟨b,77,none⟩=some (int i64 r.count):=hC.run.get_count;have y82:wr.cell? ⟨b,82,none⟩=some (int i64 r.taken):=hC.run.get_taken;have hok:=hO.ok;have htk:=hO.tak;have hct:=hO.ok.count;clear hgk hN hC hk hO hn;by_cases hcond:r.taken<r.count∧r.opn=true
  ·obtain⟨hlt,hop⟩:=hcond
   have i1:(r.taken:Int)<(r.count:Int):=by omega
   rw[hop] at y1;have HOP:Hid (r.opn=true):=hop;clear hop;go_wp2_with fail;go_quiet (fail);obtain⟨w1,hw1,C1,K1⟩:∃w1,w1=wr.drewN nq∧Hid (Cv H b S t w1 r v (es0++es))∧Hid (Keep H b w w1):=⟨_,rfl,Cx.alike (w':=wr.drewN nq) AA.out.2.2.1 ⟨rfl,rfl,rfl⟩,AA.out.2.2.2.1.trans (Keep.alike ⟨rfl,rfl,rfl⟩)⟩
   rw[<-hw1];clear hw1 y1 y77 y82;have y82:w1.cell? ⟨b,82,none⟩=some (int i64 r.taken):=C1.out.run.get_taken;have HAT:Hid (∀q,Ca 151 #[pointer (some ⟨b,12,none⟩),int i64 r.taken] (w1.drewN q) fun e w'=>e=returned (int .u8 (r.byte ((r.first+r.taken)%64)))∧∃m,w'=(w1.drewN q).drewN m):=fun q=>zME b r.taken _ r (Cx.alike (w':=w1.drewN q) C1.out ⟨rfl,rfl,rfl⟩).run hok.first (by omega)
   have hcb:=hok.bytes ((r.first+r.taken)%64) (gZ _ (by decide));have HST:Hid (r.ate t={r with taken:=r.taken+1,state:=t.next r.state (t.kind (r.byte ((r.first+r.taken)%64)))}):=rfl;generalize r.byte ((r.first+r.taken)%64)=c at *;have hst:=hok.state;have HOT:Hid (r.Oth t P):=AA.out.2.2.2.2.1;go_wp2_with fail;go_quiet ((go_at_call 151;exact Calls.quiet_of (HAT.out _)));obtain⟨w2,hw2,C2,K2⟩:∃w2,w2=w1.drewN nq∧Hid (Cv H b S t w2 r v (es0++es))∧Hid (Keep H b w w2):=⟨_,rfl,Cx.alike (w':=w1.drewN nq) C1.out ⟨rfl,rfl,rfl⟩,K1.out.trans (Keep.alike ⟨rfl,rfl,rfl⟩)⟩
   rw[<-hw2];clear hw2 y82 C1 K1 HAT;have y82:w2.cell? ⟨b,82,none⟩=some (int i64 r.taken):=C2.out.run.get_taken;have z82:=C2.out.run.frozen 82;have y0:w2.cell? ⟨b,0,none⟩=some (pointer (some ⟨r.tp,0,none⟩)):=C2.out.run.get_tp;have y11:w2.cell? ⟨b,11,none⟩=some (int i64 r.state):=C2.out.run.get_state;go_wp2_with fail;obtain⟨w3,hw3,C3,K3⟩:∃w3,w3=w2.setCell ⟨b,82,none⟩ (int i64 ((r.taken:Int)+1))∧Hid (Cv H b S t w3 {r with taken:=r.taken+1} v (es0++es))∧Hid (Keep H b w w3):=⟨_,rfl,Cx.stored C2.out 82 _ (C2.out.run.set_taken (r.taken+1)) rfl,K2.out.trans (Keep.set _ _ _)⟩
   rw[<-hw3];clear hw3 y82 z82 y0 y11 C2 K2;have y0:w3.cell? ⟨b,0,none⟩=some (pointer (some ⟨r.tp,0,none⟩)):=C3.out.run.get_tp;have y11:w3.cell? ⟨b,11,none⟩=some (int i64 r.state):=C3.out.run.get_state;have z11:=C3.out.run.frozen 11;have tb3:Hid (TabAt w3.drew S r.tp t):=(Cx.alike (w':=w3.drew) C3.out ⟨rfl,rfl,rfl⟩).tab;have HRA:Hid ((r.ate t).Oth t P∧True):=⟨r.ate_oth t P ok HOT.out hlt,trivial⟩
   have HSTEP:Hid (r.heldStep t=if t.live ((r.ate t).marked t).state then((r.ate t).marked t,[]) else((r.ate t).marked t).long t):=rfl;have INV:Hid ((r.heldStep t).1.Oth t P∧(r.heldStep t).2.length+(r.heldStep t).1.count+xB (r.heldStep t).1.opn<=r.count+1∧((r.heldStep t).1.opn=true∨(r.heldStep t).2≠[])∧(r.heldStep t).1.todo<r.todo):=r.held_inv t P ok HOT.out HOP.out hlt;have HNX:Hid (r0.heldN t (n+1)=((r.heldStep t).1,es++(r.heldStep t).2)):=by show _=_;rw[Rs.heldN,AA.out.2.1,if_pos ⟨hlt,HOP.out⟩]
   generalize r.ate t=ra at *;go_wp2_with fail;go_region_with ((go_at_call 154;go_must ((refine (zEG r.tp _ S t tb3.out ok r.state c hst hcb).mono ?_;rintro e w5 ⟨rfl,ha5⟩;have q11:w5.cell? ⟨b,11,none⟩=some (int i64 r.state):=(ha5.cell ⟨b,11,none⟩).trans y11;have z5:w5.frozen? ⟨b,11,none⟩=false:=(ha5.frozen ⟨b,11,none⟩).trans z11))))
   all_goals
    have c5:Hid (Cv H b S t w5 {r with taken:=r.taken+1} v (es0++es)):=Cx.alike C3.out ha5;have k5:Hid (Keep H b w w5):=K3.out.trans (Keep.alike ha5);obtain⟨w6,hw6,C6,K6⟩:∃w6,w6=w5.setCell ⟨b,11,none⟩ (int i64 (t.next r.state (t.kind c):Nat))∧Hid (Cv H b S t w6 ra v (es0++es))∧Hid (Keep H b w w6):=⟨_,rfl,by rw[HST.out];exact Cx.stored c5.out 11 _ (c5.out.run.set_state (t.next r.state (t.kind c))) rfl,k5.out.trans (Keep.set _ _ _)⟩
    clear c5 k5 ha5;go_wp2_with fail;rw[<-hw6];clear hw6 q11 z5 y0 y11 z11;have y0:w6.cell? ⟨b,0,none⟩=some (pointer (some ⟨ra.tp,0,none⟩)):=C6.out.run.get_tp;have y11:w6.cell? ⟨b,11,none⟩=some (int i64 ra.state):=C6.out.run.get_state;obtain⟨_,h9,b9,o9,cap9,hb9,rfl,hcap9,hml9,hL9⟩:=C6.out.tab.c9;have hsa:=HRA.out.1.ok.state;have hx9:w6.cell? ⟨b9,o9+ra.state,none⟩=some (int i64 (t.ends ra.state)):=hL9 _ hsa;have ia:(ra.state:Int)<(t.nst:Int):=by omega
    clear hL9;by_cases hen:t.ends ra.state=-1
    ·have ie:(t.ends ra.state != -1)=false:=by rw[hen];rfl
     have HMR:Hid (ra.marked t=ra):=by show _=_;unfold Rs.marked;rw[if_pos hen]
     clear hen;generalize t.ends ra.state=ee at *;go_wp2_with fail;go_quiet (fail);obtain⟨wm,hwm,CM,KM⟩:∃wm,wm=w6.drewN nq∧Hid (Cv H b S t wm (ra.marked t) v (es0++es))∧Hid (Keep H b w wm):=⟨_,rfl,by show Cv _ _ _ _ _ _ _ _;rw[HMR.out];exact Cx.alike (w':=w6.drewN nq) C6.out ⟨rfl,rfl,rfl⟩,K6.out.trans (Keep.alike ⟨rfl,rfl,rfl⟩)⟩
     rw[<-hwm];clear hwm y0 y11 h9 hx9 C6 K6;have HM:Hid ((ra.marked t).Oth t P∧True):=⟨ra.marked_oth t P ok HRA.out.1,trivial⟩
     generalize ra.marked t=rm at *;go_wp2_with fail;have y0:wm.cell? ⟨b,0,none⟩=some (pointer (some ⟨rm.tp,0,none⟩)):=CM.out.run.get_tp;have y11:wm.cell? ⟨b,11,none⟩=some (int i64 rm.state):=CM.out.run.get_state;obtain⟨_,h10,b10,o10,cap10,hb10,rfl,hcap10,hml10,hL10⟩:=CM.out.tab.c10;have hsm:=HM.out.1.ok.state;have hx10:wm.cell? ⟨b10,o10+rm.state,none⟩=some (bool (t.live rm.state)):=hL10 _ hsm;have im:(rm.state:Int)<(t.nst:Int):=by omega
     clear hL10;cases hlv:t.live rm.state with
     |true=>
      rw[hlv] at hx10;have HE:Hid (r.heldStep t=(rm,[])):=by show _=_;rw[HSTEP.out,if_pos hlv]
      clear hlv;go_wp2_with fail;go_quiet (fail);obtain⟨w9,hw9,C9,K9⟩:∃w9,w9=wm.drewN nq∧Hid (Cv H b S t w9 rm v (es0++es))∧Hid (Keep H b w w9):=⟨_,rfl,Cx.alike (w':=wm.drewN nq) CM.out ⟨rfl,rfl,rfl⟩,KM.out.trans (Keep.alike ⟨rfl,rfl,rfl⟩)⟩
      rw[<-hw9];clear hw9;go_wp2_with fail;have hI:=INV.out;rw[HE.out] at hI;have hB:=AA.out.2.2.2.2.2;rw[HOP.out] at hB;go_roundg rm.todo
      case measure=>rw[AA.out.1];exact hI.2.2.2
      case rel=>exact⟨n+1,rm,es,v,rfl,by rw[HNX.out,HE.out,List.append_nil],C9.out,K9.out,hI.1,by have h2:0+rm.count+xB rm.opn<=r.count+1:=hI.2.1;have h3:(es0++es).length+r.count+1<=C:=hB;omega⟩
     |false=>
      rw[hlv] at hx10;have HE:Hid (r.heldStep t=rm.long t):=by show _=_;rw[HSTEP.out,if_neg (by rw[hlv];decide)]
      clear hlv;go_wp2_with fail;go_quiet (fail);obtain⟨w9,hw9,C9,K9⟩:∃w9,w9=wm.drewN nq∧Hid (Cv H b S t w9 rm v (es0++es))∧Hid (Keep H b w w9):=⟨_,rfl,Cx.alike (w':=wm.drewN nq) CM.out ⟨rfl,rfl,rfl⟩,KM.out.trans (Keep.alike ⟨rfl,rfl,rfl⟩)⟩
      rw[<-hw9];clear hw9 y0 y11 h10 hx10;have hI:=INV.out;rw[HE.out] at hI;have hB:=AA.out.2.2.2.2.2;rw[HOP.out] at hB;have hB2:(es0++es).length+r.count+1<=C:=hB;have hpp:=HM.out.1.pos;have hll:=HM.out.1.line;have hcl:=HM.out.1.col;have HLG:Hid (Ca 119 #[pointer (some ⟨b,0,none⟩)] w9 fun e w'=>e=returned (tuple #[])∧∃v,Cv H b S t w' (rm.long t).1 v ((es0++es)++(rm.long t).2)∧Keep H b w9 w'):=zAU b H S t w9 rm (es0++es) C9.out (by omega) ok hact HM.out.1.ok (lY HM.out.1.len HM.out.1.tak) HM.out.1.rule (by omega) (by omega) (by omega);have HI:Hid ((rm.long t).1.Oth t P∧(rm.long t).2.length+(rm.long t).1.count+xB (rm.long t).1.opn<=r.count+1∧((rm.long t).1.opn=true∨(rm.long t).2≠[])∧(rm.long t).1.todo<r.todo):=hI;clear hI hB hpp hll hcl;go_wp2_with fail;refine Calls.mono HLG.out ?_;rintro e w10 ⟨rfl,v10,c10,k10⟩;have CZ:Hid (Cv H b S t w10 (rm.long t).1 v10 (es0++(es++(rm.long t).2))∧Keep H b w w10):=⟨by rw[<-gW];exact c10,K9.out.trans k10⟩
      clear c10 k10 HLG;go_wp2_with fail;go_roundg (rm.long t).1.todo
      case measure=>rw[AA.out.1];exact HI.out.2.2.2
      case rel=>exact⟨n+1,(rm.long t).1,es++(rm.long t).2,v10,rfl,by rw[HNX.out,HE.out],CZ.out.1,CZ.out.2,HI.out.1,by have h2:=HI.out.2.1;rw[kX,kX];rw[kX] at hB2;omega⟩
    ·have ie:(t.ends ra.state != -1)=true:=by rw[bne_iff_ne];exact hen
     have HMR:Hid (ra.marked t={ra with rule:=t.ends ra.state,length:=ra.taken}):=by show _=_;unfold Rs.marked;rw[if_neg hen]
     clear hen;obtain⟨ee,hee⟩:∃ee,ee=t.ends ra.state:=⟨_,rfl⟩
     rw[<-hee] at hx9 ie HMR;clear hee;go_wp2_with fail;go_quiet (fail);obtain⟨w7,hw7,C7,K7⟩:∃w7,w7=w6.drewN nq∧Hid (Cv H b S t w7 ra v (es0++es))∧Hid (Keep H b w w7):=⟨_,rfl,Cx.alike (w':=w6.drewN nq) C6.out ⟨rfl,rfl,rfl⟩,K6.out.trans (Keep.alike ⟨rfl,rfl,rfl⟩)⟩
     have x9:w7.cell? ⟨b9,o9+ra.state,none⟩=some (int i64 ee):=by rw[hw7];exact hx9
     have x9':w7.cell? ⟨ra.tp,9,none⟩=some (slice (some ⟨b9,o9,none⟩) t.nst cap9):=by rw[hw7];exact h9
     rw[<-hw7];clear hw7 y0 y11 h9 hx9 C6 K6;have y0:w7.cell? ⟨b,0,none⟩=some (pointer (some ⟨ra.tp,0,none⟩)):=C7.out.run.get_tp;have y11:w7.cell? ⟨b,11,none⟩=some (int i64 ra.state):=C7.out.run.get_state;have y84:w7.cell? ⟨b,84,none⟩=some (int i64 ra.rule):=C7.out.run.get_rule;have z84:=C7.out.run.frozen 84;have y82:w7.cell? ⟨b,82,none⟩=some (int i64 ra.taken):=C7.out.run.get_taken;have y83:w7.cell? ⟨b,83,none⟩=some (int i64 ra.length):=C7.out.run.get_length;have z83:=C7.out.run.frozen 83;have nb9:b9≠b:=(C7.out.safe _ hb9).2;have ntp:ra.tp≠b:=(C7.out.safe _ C7.out.tab.safe).2;go_wp2_with fail;go_region
     all_goals
      go_wp2_with fail;obtain⟨wm,hwm,CM,KM⟩:∃wm,wm=((w7.setCell ⟨b,84,none⟩ (int i64 ee)).setCell ⟨b,83,none⟩ (int i64 (ra.taken:Nat))).drew∧Hid (Cv H b S t wm (ra.marked t) v (es0++es))∧Hid (Keep H b w wm):=by
       have d1:=Cx.stored C7.out 84 _ (C7.out.run.set_rule ee) rfl;have d2:=d1.stored 83 _ (d1.run.set_length ra.taken) rfl;exact⟨_,rfl,by show Cv _ _ _ _ _ _ _ _;rw[HMR.out];exact Cx.alike d2 ⟨rfl,rfl,rfl⟩,((K7.out.trans (Keep.set _ _ _)).trans (Keep.set _ _ _)).trans (Keep.drew _)⟩
      rw[<-hwm];clear hwm y0 y11 y84 z84 y82 y83 z83 x9 x9' C7 K7;have HM:Hid ((ra.marked t).Oth t P∧True):=⟨ra.marked_oth t P ok HRA.out.1,trivial⟩
      generalize ra.marked t=rm at *;have y0:wm.cell? ⟨b,0,none⟩=some (pointer (some ⟨rm.tp,0,none⟩)):=CM.out.run.get_tp;have y11:wm.cell? ⟨b,11,none⟩=some (int i64 rm.state):=CM.out.run.get_state;obtain⟨_,h10,b10,o10,cap10,hb10,rfl,hcap10,hml10,hL10⟩:=CM.out.tab.c10;have hsm:=HM.out.1.ok.state;have hx10:wm.cell? ⟨b10,o10+rm.state,none⟩=some (bool (t.live rm.state)):=hL10 _ hsm;have im:(rm.state:Int)<(t.nst:Int):=by omega
      clear hL10;cases hlv:t.live rm.state with
      |true=>
       rw[hlv] at hx10;have HE:Hid (r.heldStep t=(rm,[])):=by show _=_;rw[HSTEP.out,if_pos hlv]
       clear hlv;go_wp2_with fail;go_quiet (fail);obtain⟨w9,hw9,C9,K9⟩:∃w9,w9=wm.drewN nq∧Hid (Cv H b S t w9 rm v (es0++es))∧Hid (Keep H b w w9):=⟨_,rfl,Cx.alike (w':=wm.drewN nq) CM.out ⟨rfl,rfl,rfl⟩,KM.out.trans (Keep.alike ⟨rfl,rfl,rfl⟩)⟩
       rw[<-hw9];clear hw9;go_wp2_with fail;have hI:=INV.out;rw[HE.out] at hI;have hB:=AA.out.2.2.2.2.2;rw[HOP.out] at hB;go_roundg rm.todo
       case measure=>rw[AA.out.1];exact hI.2.2.2
       case rel=>exact⟨n+1,rm,es,v,rfl,by rw[HNX.out,HE.out,List.append_nil],C9.out,K9.out,hI.1,by have h2:0+rm.count+xB rm.opn<=r.count+1:=hI.2.1;have h3:(es0++es).length+r.count+1<=C:=hB;omega⟩
      |false=>
       rw[hlv] at hx10;have HE:Hid (r.heldStep t=rm.long t):=by show _=_;rw[HSTEP.out,if_neg (by rw[hlv];decide)]
       clear hlv;go_wp2_with fail;go_quiet (fail);obtain⟨w9,hw9,C9,K9⟩:∃w9,w9=wm.drewN nq∧Hid (Cv H b S t w9 rm v (es0++es))∧Hid (Keep H b w w9):=⟨_,rfl,Cx.alike (w':=wm.drewN nq) CM.out ⟨rfl,rfl,rfl⟩,KM.out.trans (Keep.alike ⟨rfl,rfl,rfl⟩)⟩
       rw[<-hw9];clear hw9 y0 y11 h10 hx10;have hI:=INV.out;rw[HE.out] at hI;have hB:=AA.out.2.2.2.2.2;rw[HOP.out] at hB;have hB2:(es0++es).length+r.count+1<=C:=hB;have hpp:=HM.out.1.pos;have hll:=HM.out.1.line;have hcl:=HM.out.1.col;have HLG:Hid (Ca 119 #[pointer (some ⟨b,0,none⟩)] w9 fun e w'=>e=returned (tuple #[])∧∃v,Cv H b S t w' (rm.long t).1 v ((es0++es)++(rm.long t).2)∧Keep H b w9 w'):=zAU b H S t w9 rm (es0++es) C9.out (by omega) ok hact HM.out.1.ok (lY HM.out.1.len HM.out.1.tak) HM.out.1.rule (by omega) (by omega) (by omega);have HI:Hid ((rm.long t).1.Oth t P∧(rm.long t).2.length+(rm.long t).1.count+xB (rm.long t).1.opn<=r.count+1∧((rm.long t).1.opn=true∨(rm.long t).2≠[])∧(rm.long t).1.todo<r.todo):=hI;clear hI hB hpp hll hcl;go_wp2_with fail;refine Calls.mono HLG.out ?_;rintro e w10 ⟨rfl,v10,c10,k10⟩;have CZ:Hid (Cv H b S t w10 (rm.long t).1 v10 (es0++(es++(rm.long t).2))∧Keep H b w w10):=⟨by rw[<-gW];exact c10,K9.out.trans k10⟩
       clear c10 k10 HLG;go_wp2_with fail;go_roundg (rm.long t).1.todo
       case measure=>rw[AA.out.1];exact HI.out.2.2.2
       case rel=>exact⟨n+1,(rm.long t).1,es++(rm.long t).2,v10,rfl,by rw[HNX.out,HE.out],CZ.out.1,CZ.out.2,HI.out.1,by have h2:=HI.out.2.1;rw[kX,kX];rw[kX] at hB2;omega⟩
  ·have HE:Hid (¬(r.taken<r.count∧r.opn=true)):=hcond
   have fin_:Hid (∃v m,Cv H b S t wr (r0.heldN t m).1 v (es0++(r0.heldN t m).2)∧Keep H b w wr∧(r0.heldN t m).1.Oth t P∧(es0++(r0.heldN t m).2).length+(r0.heldN t m).1.count+xB (r0.heldN t m).1.opn<=C∧¬((r0.heldN t m).1.taken<(r0.heldN t m).1.count∧(r0.heldN t m).1.opn=true)):=by
    refine⟨v,n,?_⟩;rw[AA.out.2.1];exact⟨AA.out.2.2.1,AA.out.2.2.2.1,AA.out.2.2.2.2.1,AA.out.2.2.2.2.2,HE.out⟩
   by_cases hlt:r.taken<r.count
   ·have i1:(r.taken:Int)<(r.count:Int):=by omega
    have hop:r.opn=false:=by
     cases h:r.opn with
     |false=>rfl
     |true=>exact absurd ⟨hlt,h⟩ hcond
    rw[hop] at y1;clear hop hcond;go_wp2_with fail;go_quiet (fail);obtain⟨w1,hw1,FN⟩:∃w1,w1=wr.drewN nq∧Hid (∃v m,Cv H b S t w1 (r0.heldN t m).1 v (es0++(r0.heldN t m).2)∧Keep H b w w1∧(r0.heldN t m).1.Oth t P∧(es0++(r0.heldN t m).2).length+(r0.heldN t m).1.count+xB (r0.heldN t m).1.opn<=C∧¬((r0.heldN t m).1.taken<(r0.heldN t m).1.count∧(r0.heldN t m).1.opn=true)):=by
     obtain⟨v,m,f1,f2,f3⟩:=fin_.out;exact⟨_,rfl,v,m,Cx.alike (w':=wr.drewN nq) f1 ⟨rfl,rfl,rfl⟩,f2.trans (Keep.alike ⟨rfl,rfl,rfl⟩),f3⟩
    rw[<-hw1];clear hw1 fin_;go_wp2_with fail;go_end0;exact⟨rfl,FN.out⟩
   ·have i1:(r.count:Int)<=(r.taken:Int):=by omega
    clear hcond;go_wp2_with fail;go_quiet (fail);obtain⟨w1,hw1,FN⟩:∃w1,w1=wr.drewN nq∧Hid (∃v m,Cv H b S t w1 (r0.heldN t m).1 v (es0++(r0.heldN t m).2)∧Keep H b w w1∧(r0.heldN t m).1.Oth t P∧(es0++(r0.heldN t m).2).length+(r0.heldN t m).1.count+xB (r0.heldN t m).1.opn<=C∧¬((r0.heldN t m).1.taken<(r0.heldN t m).1.count∧(r0.heldN t m).1.opn=true)):=by
     obtain⟨v,m,f1,f2,f3⟩:=fin_.out;exact⟨_,rfl,v,m,Cx.alike (w':=wr.drewN nq) f1 ⟨rfl,rfl,rfl⟩,f2.trans (Keep.alike ⟨rfl,rfl,rfl⟩),f3⟩
    rw[<-hw1];clear hw1 fin_;go_wp2_with fail;go_end0;exact⟨rfl,FN.out⟩
def Rs.added (r:Rs)(c:Nat):Rs:={r with byte:=fun j=>if j=(r.first+r.count)%64 then c else r.byte j,count:=r.count+1}
def Rs.looked (r:Rs)(t:Tb)(d:Nat):Rs:={r with ahead:=t.further r.ahead d}
def Rs.due (r:Rs)(t:Tb):Rs×List Ev:=if t.ahead<r.count then r.step t else(r,[])
def Rs.take (r:Rs)(t:Tb)(c:Nat):Rs×List Ev:=((r.added c).looked t (t.kind c)).due t
theorem Rs.added_ok (r:Rs)(t:Tb)(c:Nat)(h:r.Ok t)(hc:c<256)(hn:r.count<64):(r.added c).Ok t:=
 ⟨h.d1,h.d4,h.st,h.state,h.first,hn,fun j hj=>by
  show(if j=(r.first+r.count)%64 then c else r.byte j)<256;split
  ·exact hc
  ·exact h.bytes j hj⟩
theorem zKw (b H:Nat)(S:Nat->Prop)(t:Tb)(w0 w:World)(r:Rs){v0:Value}(es:List Ev)(hC:Cv H b S t w r v0 es)(hn:es.length<=4194304)(ok:t.Ok)(hact:∀i,i<t.nrule->t.act i<4)(hok:r.Ok t)(ha:r.ahead<t.rows)(hc:1<=r.count)
  (p1:r.hAt<2147483648) (p2:r.hLine<2147483648) (p3:r.hCol<2147483648) (hk:Keep H b w0 w) (f:Rs×List Ev) (hf:f=r.due t)
  {u1 u2 u3 u4 u5 u6 u7 u8 u9 u10 u11 u12 u13 u14 u15 u16 u17 u18 u19 u20 u21 u22 u23 u24 u25 u26 u27 u28 u29 u30 u31 u32 u33 u34 u35 u36 u37 u38 u39 u40 u41 u42 u43 u44 u45:Value}:
  Code.wp prog (yQ 2 ((f73.body).getD .skip)) (bodyPost prog f73 fun e w'=>
   e=returned (tuple #[])∧∃v,Cv H b S t w' f.1 v (es++f.2)∧Keep H b w0 w')
   ⟨(pointer (some ⟨b,0,none⟩)::u1::u2::u3::u4::u5::u6::u7::u8::u9::u10::u11::u12::u13::u14::u15::u16::u17::u18::u19::u20::u21::u22::u23::u24::u25::u26::u27::u28::u29::u30::u31::u32::u33::u34::u35::u36::u37::u38::u39::u40::u41::u42::u43::u44::u45::[]).toArray,[]⟩ w:=by
 conv=>arg 2;whnf
 have HC:Hid (Cv H b S t w r v0 es):=hC;have J:Hid (Keep H b w0 w):=hk;have HF:Hid (f=r.due t):=hf;have y0:w.cell? ⟨b,0,none⟩=some (pointer (some ⟨r.tp,0,none⟩)):=HC.out.run.get_tp;have y77:w.cell? ⟨b,77,none⟩=some (int i64 r.count):=HC.out.run.get_count;have x1:w.cell? ⟨r.tp,1,none⟩=some (int i64 t.ahead):=HC.out.tab.c1;clear hC hk hf;by_cases hlt:t.ahead<r.count
 ·have hl1:(t.ahead:Int)<(r.count:Int):=by omega
  go_wp2_with fail;go_quiet (fail);go_wp2_with fail;refine(zHy b H S t _ r es (Cx.alike (w':=w.drewN nq) HC.out ⟨rfl,rfl,rfl⟩) hn ok hact hok hc ha p1 p2 p3).mono ?_;rintro e w2 ⟨rfl,v,c2,k2⟩;have C2:Hid (Cv H b S t w2 f.1 v (es++f.2)):=by
   show Cv H b S t w2 f.1 v (es++f.2);rw[HF.out,Rs.due,if_pos hlt];exact c2
  clear c2;go_wp2_with fail;go_end0;exact⟨rfl,v,C2.out,(J.out.trans (Keep.alike (w':=w.drewN nq) ⟨rfl,rfl,rfl⟩)).trans k2⟩
 ·have hl1:(r.count:Int)<=(t.ahead:Int):=by omega
  go_wp2_with fail;go_quiet (fail);go_wp2_with fail;go_end0;refine⟨rfl,v0,?_,J.out.trans (Keep.alike (w':=w.drewN nq) ⟨rfl,rfl,rfl⟩)⟩;rw[HF.out,Rs.due,if_neg hlt,List.append_nil];exact Cx.alike (w':=w.drewN nq) HC.out ⟨rfl,rfl,rfl⟩
theorem zIX (b H:Nat)(S:Nat->Prop)(t:Tb)(w:World)(r:Rs){v0:Value}(es:List Ev)(c:Nat)(hC:Cv H b S t w r v0 es)(hn:es.length<=4194304)(ok:t.Ok)(hact:∀i,i<t.nrule->t.act i<4)(hok:r.Ok t)(ha:r.ahead<t.rows)(hc:r.count<64)(hcb:c<256)
  (p1:r.hAt<2147483648) (p2:r.hLine<2147483648) (p3:r.hCol<2147483648):
  Calls prog 73 #[pointer (some ⟨b,0,none⟩),int .u8 c] w fun e w'=>
   e=returned (tuple #[])∧∃v,Cv H b S t w' (r.take t c).1 v (es++(r.take t c).2)∧Keep H b w w':=by
 have HC:Hid (Cv H b S t w r v0 es):=hC;clear hC;go_enter func73,ntmps73
 refine wp_seq_k ?_;intro K hK;have H0:Hid (∀a w,_->K a w):=hK;clear hK;go_wp2_with fail;refine(zGv b c _ r HC.out.run hok.first hc).mono ?_;rintro e w1 ⟨rfl,hR1,hk1⟩;have c1:Hid (Cv H b S t w1 (r.added c) v0 es):=Cx.kept HC.out hk1 hR1 rfl;have k1:Hid (Keep H b w w1):=hk1 H;clear hk1 hR1;go_wp2_with fail;apply H0.out;clear H0;refine wp_seq_k ?_;intro K hK;have H1:Hid (∀a w,_->K a w):=hK;clear hK;have y0:w1.cell? ⟨b,0,none⟩=some (pointer (some ⟨r.tp,0,none⟩)):=c1.out.run.get_tp;have y81:w1.cell? ⟨b,81,none⟩=some (int i64 r.ahead):=c1.out.run.get_ahead;have z81:=c1.out.run.frozen 81;have h6e:=c1.out.tab.c6;obtain⟨vv,h6,b6,o6,cap6,hb6,rfl,hcap6,hml6,hL6⟩:=h6e;have h6':w1.cell? ⟨r.tp,6,none⟩=some (slice (some ⟨b6,o6,none⟩) 256 cap6):=h6;have hx6:w1.cell? ⟨b6,o6+c,none⟩=some (int i64 (t.kind c:Nat)):=hL6 _ hcb;have i1:(c:Int)<256:=by omega
 have hkd:=ok.kind c hcb;have hct:=ok.count;have hrw:=ok.rows;have tb4:Hid (TabAt w1.drew S r.tp t):=(Cx.alike (w':=w1.drew) c1.out ⟨rfl,rfl,rfl⟩).tab;clear hL6 h6;go_wp2_with fail;go_region_with ((go_at_call 108;go_must ((refine (zAW r.tp _ S t tb4.out ok r.ahead (t.kind c) (by omega) (by omega)).mono ?_;rintro e w5 ⟨rfl,ha5⟩;have q81:w5.cell? ⟨b,81,none⟩=some (int i64 r.ahead):=(ha5.cell ⟨b,81,none⟩).trans y81;have z5:w5.frozen? ⟨b,81,none⟩=false:=(ha5.frozen ⟨b,81,none⟩).trans z81))))
 all_goals
  have c5:Hid (Cv H b S t w5 (r.added c) v0 es):=Cx.alike c1.out ha5;have k5:Hid (Keep H b w w5):=k1.out.trans (Keep.alike ha5);have c6:Hid (Cv H b S t (w5.setCell ⟨b,81,none⟩ (int i64 (t.further r.ahead (t.kind c):Nat))) ((r.added c).looked t (t.kind c)) v0 es):=Cx.stored c5.out 81 _ (c5.out.run.set_ahead (t.further r.ahead (t.kind c))) rfl;clear c1 k1 tb4 ha5 c5;go_wp2_with fail;apply H1.out;exact zKw b H S t w _ ((r.added c).looked t (t.kind c)) es c6.out hn ok hact (let h:=r.added_ok t c hok hcb hc;⟨h.d1,h.d4,h.st,h.state,h.first,h.count,h.bytes⟩) (gZ _ ok.rows0) (Nat.succ_le_succ lX) p1 p2 p3 (k5.out.trans (Keep.set _ _ _)) _ rfl
theorem Rs.held_count (r:Rs)(t:Tb)(P:Nat)(ok:t.Ok)(h:r.Oth t P)(ho:r.opn=true)(hl:r.taken<r.count):(r.heldStep t).1.count<=r.count:=by
 obtain⟨_,h2,h3,_⟩:=r.held_inv t P ok h ho hl;rcases h3 with h3|h3
 ·rw[h3] at h2
  have:xB true=1:=rfl;omega
 ·have:=List.length_pos_iff.2 h3
  omega
theorem Rs.heldN_inv (r:Rs)(t:Tb)(P:Nat)(ok:t.Ok)(h:r.Oth t P)(n:Nat):
  (r.heldN t n).1.Oth t P∧(r.heldN t n).2.length+(r.heldN t n).1.count+xB (r.heldN t n).1.opn<=r.count+xB r.opn∧((r.heldN t n).1.opn=r.opn∨(r.heldN t n).2≠[])∧(r.heldN t n).1.count<=r.count∧(¬((r.heldN t n).1.taken<(r.heldN t n).1.count∧(r.heldN t n).1.opn=true)∨(r.heldN t n).1.todo+n<=r.todo)∧((r.heldN t n).1.opn=true->r.opn=true):=by
 induction n with
 |zero=>exact⟨h,by simp[Rs.heldN],.inl rfl,lQ,.inr lQ,id⟩
 |succ n ih=>
  obtain⟨i1,i2,i3,i4,i5,i6⟩:=ih;rw[Rs.heldN];split
  ·rename_i hc
   obtain⟨a1,a2,a3,a4⟩:=(r.heldN t n).1.held_inv t P ok i1 hc.2 hc.1;have a5:=(r.heldN t n).1.held_count t P ok i1 hc.2 hc.1;have hro:=i6 hc.2;refine⟨a1,?_,?_,lY a5 i4,.inr ?_,fun _=>hro⟩
   ·show((r.heldN t n).2++((r.heldN t n).1.heldStep t).2).length+((r.heldN t n).1.heldStep t).1.count+xB ((r.heldN t n).1.heldStep t).1.opn<=_
    rw[hc.2] at i2;have:xB true=1:=rfl;rw[kX];omega
   ·rcases a3 with a3|a3
    ·left
     show((r.heldN t n).1.heldStep t).1.opn=r.opn;rw[a3,hro]
    ·right
     show(r.heldN t n).2++((r.heldN t n).1.heldStep t).2≠[];intro e;exact a3 (List.append_eq_nil_iff.1 e).2
   ·show((r.heldN t n).1.heldStep t).1.todo+(n+1)<=r.todo
    rcases i5 with i5|i5
    ·exact absurd hc i5
    ·omega
  ·rename_i hc
   exact⟨i1,i2,i3,i4,.inl hc,i6⟩
theorem Rs.heldN_stop (r:Rs)(t:Tb)(n m:Nat)(h:¬((r.heldN t n).1.taken<(r.heldN t n).1.count∧(r.heldN t n).1.opn=true))(hm:n<=m):r.heldN t m=r.heldN t n:=by
 induction m with
 |zero=>rw[show n=0 by omega]
 |succ m ih=>
  by_cases e:n=m+1
  ·rw[e]
  ·rw[Rs.heldN,ih (by omega),if_neg h]
def Rs.heldAll (r:Rs)(t:Tb):Rs×List Ev:=r.heldN t (r.todo+1)
theorem Rs.heldAll_eq (r:Rs)(t:Tb)(P:Nat)(ok:t.Ok)(h:r.Oth t P)(n:Nat)(hs:¬((r.heldN t n).1.taken<(r.heldN t n).1.count∧(r.heldN t n).1.opn=true)):r.heldN t n=r.heldAll t:=by
 have h1:=(r.heldN_inv t P ok h (r.todo+1)).2.2.2.2.1;have h2:¬((r.heldAll t).1.taken<(r.heldAll t).1.count∧(r.heldAll t).1.opn=true):=by
  rcases h1 with h1|h1
  ·exact h1
  ·omega
 rcases Nat.le_total n (r.todo+1) with hl|hl
 ·exact(r.heldN_stop t n _ hs hl).symm
 ·exact r.heldN_stop t _ n h2 hl
theorem Rs.heldAll_inv (r:Rs)(t:Tb)(P:Nat)(ok:t.Ok)(h:r.Oth t P):
  (r.heldAll t).1.Oth t P∧(r.heldAll t).2.length+(r.heldAll t).1.count+xB (r.heldAll t).1.opn<=r.count+xB r.opn∧((r.heldAll t).1.opn=r.opn∨(r.heldAll t).2≠[])∧(r.heldAll t).1.count<=r.count∧((r.heldAll t).1.opn=true->r.opn=true):=by
 obtain⟨a1,a2,a3,a4,_,a6⟩:=r.heldN_inv t P ok h (r.todo+1);exact⟨a1,a2,a3,a4,a6⟩
def Rs.takeO (r:Rs)(t:Tb)(c:Nat):Rs×List Ev:=
 if t.hold<=r.count then({r with opn:=false},[r.lastEv 6]) else(r.added c).heldAll t
theorem Rs.added_oth (r:Rs)(t:Tb)(P c:Nat)(h:r.Oth t P)(hc:c<256)(hn:r.count<64):(r.added c).Oth t (P+1):=by
 have h1:=h.len;have h2:=h.tak;have h3:=h.pos;exact⟨r.added_ok t c h.ok hc hn,h1,Nat.le_succ_of_le h2,h.rule,by show r.bAt+(r.count+1)<=P+1;omega,h.line,h.col1,h.col⟩
theorem Rs.takeO_inv (r:Rs)(t:Tb)(P c:Nat)(ok:t.Ok)(h:r.Oth t P)(hc:c<256)(ho:r.opn=true):
  (r.takeO t c).1.Oth t (P+1)∧(r.takeO t c).2.length+(r.takeO t c).1.count+xB (r.takeO t c).1.opn<=r.count+2∧((r.takeO t c).1.opn=true∨(r.takeO t c).2≠[]):=by
 unfold Rs.takeO;split
 ·refine⟨⟨⟨h.ok.d1,h.ok.d4,h.ok.st,h.ok.state,h.ok.first,h.ok.count,h.ok.bytes⟩,h.len,h.tak,h.rule,Nat.le_succ_of_le h.pos,h.line,h.col1,h.col⟩,?_,.inr (by simp)⟩
  show 1+r.count+0<=r.count+2;omega
 ·rename_i hh
  have hlt:r.count<64:=by have:=ok.hold;omega
  obtain⟨a1,a2,a3,a4,a5⟩:=(r.added c).heldAll_inv t (P+1) ok (r.added_oth t P c h hc hlt);have e1:(r.added c).count=r.count+1:=rfl;have e2:(r.added c).opn=true:=ho;rw[e1,e2] at a2;rw[e2] at a3;have:xB true=1:=rfl;exact⟨a1,by omega,a3⟩
def Rs.endO (r:Rs)(t:Tb):Rs×List Ev:=(((r.long t).1.heldAll t).1,(r.long t).2++((r.long t).1.heldAll t).2)
def Rs.endN (r:Rs)(t:Tb):Nat->Rs×List Ev
 |0=>(r,[])
 |n+1=>if 0<(r.endN t n).1.count∧(r.endN t n).1.opn=true then(((r.endN t n).1.endO t).1,(r.endN t n).2++((r.endN t n).1.endO t).2) else r.endN t n
theorem Rs.endO_inv (r:Rs)(t:Tb)(P:Nat)(ok:t.Ok)(h:r.Oth t P)(ho:r.opn=true)(hc:0<r.count):
  (r.endO t).1.Oth t P∧(r.endO t).2.length+(r.endO t).1.count+xB (r.endO t).1.opn<=r.count+1∧((r.endO t).1.opn=true∨(r.endO t).2≠[])∧(r.endO t).1.count+xB (r.endO t).1.opn<r.count+1:=by
 obtain⟨a1,a2,a3,a4⟩:=r.long_inv t P ok h ho hc;obtain⟨b1,b2,b3,b4,b5⟩:=(r.long t).1.heldAll_inv t P ok a1;unfold Rs.endO;have o1:xB true=1:=rfl;have o0:xB false=0:=rfl;refine⟨b1,?_,?_,?_⟩
 ·show((r.long t).2++((r.long t).1.heldAll t).2).length+((r.long t).1.heldAll t).1.count+xB ((r.long t).1.heldAll t).1.opn<=_
  rw[kX];omega
 ·by_cases e:((r.long t).1.heldAll t).1.opn=true
  ·exact .inl e
  ·right
   show(r.long t).2++((r.long t).1.heldAll t).2≠[];intro e2;obtain⟨e3,e4⟩:=List.append_eq_nil_iff.1 e2;have h1:=a3.resolve_right (fun h=>h e3);have h2:=b3.resolve_right (fun h=>h e4);exact e (by rw[h2,h1])
 ·show((r.long t).1.heldAll t).1.count+xB ((r.long t).1.heldAll t).1.opn<r.count+1
  rcases a4 with a4|⟨a4,a5,_⟩
  ·have:xB ((r.long t).1.heldAll t).1.opn<=1:=by unfold xB;split <;> omega
   omega
  ·have e:((r.long t).1.heldAll t).1.opn=false:=by
    cases h:((r.long t).1.heldAll t).1.opn with
    |false=>rfl
    |true=>rw[b5 h] at a4;cases a4
   rw[e];omega
theorem Rs.endN_inv (r:Rs)(t:Tb)(P:Nat)(ok:t.Ok)(h:r.Oth t P)(n:Nat):
  (r.endN t n).1.Oth t P∧(r.endN t n).2.length+(r.endN t n).1.count+xB (r.endN t n).1.opn<=r.count+xB r.opn∧((r.endN t n).1.opn=r.opn∨(r.endN t n).2≠[])∧(¬(0<(r.endN t n).1.count∧(r.endN t n).1.opn=true)∨(r.endN t n).1.count+xB (r.endN t n).1.opn+n<=r.count+xB r.opn)∧((r.endN t n).1.opn=true->r.opn=true):=by
 induction n with
 |zero=>exact⟨h,by simp[Rs.endN],.inl rfl,.inr lQ,id⟩
 |succ n ih=>
  obtain⟨i1,i2,i3,i4,i6⟩:=ih;rw[Rs.endN];split
  ·rename_i hc
   obtain⟨a1,a2,a3,a4⟩:=(r.endN t n).1.endO_inv t P ok i1 hc.2 hc.1;have hro:=i6 hc.2;have o1:xB true=1:=rfl;refine⟨a1,?_,?_,.inr ?_,fun _=>hro⟩
   ·show((r.endN t n).2++((r.endN t n).1.endO t).2).length+((r.endN t n).1.endO t).1.count+xB ((r.endN t n).1.endO t).1.opn<=_
    rw[hc.2] at i2;rw[kX];omega
   ·rcases a3 with a3|a3
    ·left
     show((r.endN t n).1.endO t).1.opn=r.opn;rw[a3,hro]
    ·right
     show(r.endN t n).2++((r.endN t n).1.endO t).2≠[];intro e;exact a3 (List.append_eq_nil_iff.1 e).2
   ·show((r.endN t n).1.endO t).1.count+xB ((r.endN t n).1.endO t).1.opn+(n+1)<=_
    rcases i4 with i4|i4
    ·exact absurd hc i4
    ·rw[hc.2] at i4
     omega
  ·rename_i hc
   exact⟨i1,i2,i3,.inl hc,i6⟩
theorem Rs.endN_stop (r:Rs)(t:Tb)(n m:Nat)(h:¬(0<(r.endN t n).1.count∧(r.endN t n).1.opn=true))(hm:n<=m):r.endN t m=r.endN t n:=by
 induction m with
 |zero=>rw[show n=0 by omega]
 |succ m ih=>
  by_cases e:n=m+1
  ·rw[e]
  ·rw[Rs.endN,ih (by omega),if_neg h]
def Rs.endAll (r:Rs)(t:Tb):Rs×List Ev:=r.endN t (r.count+2)
theorem Rs.endAll_eq (r:Rs)(t:Tb)(P:Nat)(ok:t.Ok)(h:r.Oth t P)(n:Nat)(hs:¬(0<(r.endN t n).1.count∧(r.endN t n).1.opn=true)):r.endN t n=r.endAll t:=by
 have h1:=(r.endN_inv t P ok h (r.count+2)).2.2.2.1;have h2:¬(0<(r.endAll t).1.count∧(r.endAll t).1.opn=true):=by
  rcases h1 with h1|h1
  ·exact h1
  ·have:xB r.opn<=1:=by unfold xB;split <;> omega
   omega
 rcases Nat.le_total n (r.count+2) with hl|hl
 ·exact(r.endN_stop t n _ hs hl).symm
 ·exact r.endN_stop t _ n h2 hl
def Rs.closeO (r:Rs)(t:Tb):Rs×List Ev:=if(r.endAll t).1.opn then({(r.endAll t).1 with opn:=false},(r.endAll t).2++[(r.endAll t).1.lastEv 2]) else r.endAll t
theorem Rs.closeO_end (r:Rs)(t:Tb)(P:Nat)(ok:t.Ok)(h:r.Oth t P)(ho:r.opn=true):(r.closeO t).1.opn=false∧(r.closeO t).2≠[]:=by
 have h3:=(r.endN_inv t P ok h (r.count+2)).2.2.1;unfold Rs.closeO;split
 ·exact⟨rfl,by simp⟩
 ·rename_i he
  have he':(r.endAll t).1.opn=false:=by simpa using he
  refine⟨he',?_⟩;rcases h3 with h3|h3
  ·have:(r.endAll t).1.opn=r.opn:=h3
   rw[he',ho] at this;cases this
  ·exact h3
theorem zFg (b H:Nat)(S:Nat->Prop)(t:Tb)(w:World)(r:Rs){v0:Value}(es:List Ev)(P C:Nat)(hC:Cv H b S t w r v0 es)(ok:t.Ok)(hact:∀i,i<t.nrule->t.act i<4)(hO:r.Oth t P)(hP:P<=1073741824)(hn:es.length+r.count+xB r.opn<=C)(hC4:C<=4194304):
  Calls prog 111 #[pointer (some ⟨b,0,none⟩)] w fun e w'=>
   e=returned (tuple #[])∧∃v,Cv H b S t w' (r.heldAll t).1 v (es++(r.heldAll t).2)∧Keep H b w w':=
 (zEE b H S t w r es P C hC ok hact hO hP hn hC4).mono fun e w' ⟨he,v,n,h1,h2,_,_,h5⟩=>by
  rw[r.heldAll_eq t P ok hO n h5] at h1;exact⟨he,v,h1,h2⟩
theorem zHx (b H:Nat)(S:Nat->Prop)(t:Tb)(w:World)(r:Rs){v0:Value}(es:List Ev)(P C c:Nat)(hC:Cv H b S t w r v0 es)(ok:t.Ok)(hact:∀i,i<t.nrule->t.act i<4)(hO:r.Oth t P)(hP:P<1073741824)(hn:es.length+r.count+xB r.opn<=C)(hC4:C<4194304)(hcb:c<256):
  Calls prog 74 #[pointer (some ⟨b,0,none⟩),int .u8 c] w fun e w'=>
   e=returned (tuple #[])∧∃v,Cv H b S t w' (r.takeO t c).1 v (es++(r.takeO t c).2)∧Keep H b w w':=by
 have HC:=vl hC;have y0:=hC.run.get_tp;have y77:=hC.run.get_count;have x2:=hC.tab.c2;have hh:=ok.hold;by_cases hf:t.hold<=r.count
 ·have i1:(t.hold:Int)<=(r.count:Int):=by omega
  have HF:Hid (r.takeO t c=({r with opn:=false},[r.lastEv 6])):=if_pos hf;go_in;go_wp2;go_quiet (fail);go_wp2_with fail;refine(vE b H S t 6 _ r v0 _ _ (Cx.alike (w':=w.drewN nq) HC.out ⟨rfl,rfl,rfl⟩) (by omega)).mono ?_;rintro e w2 ⟨rfl,ao,cap,c2,k2⟩;have C2:=vl c2;go_wp2;refine bodyPost_ret (results_none rfl _ _ _) rfl ?_;refine⟨rfl,slice ao (es.length+1) cap,?_,Keep.trans (w:=w) (w':=w.drewN nq) (Keep.alike ⟨rfl,rfl,rfl⟩) k2⟩;rw[HF.out];unfold Cv;rw[xQ,kX];exact C2.out
 ·have i1:(r.count:Int)<(t.hold:Int):=by omega
  have hlt:r.count<64:=by omega
  have HF:Hid (r.takeO t c=(r.added c).heldAll t):=if_neg hf;have HO2:Hid ((r.added c).Oth t (P+1)):=r.added_oth t P c hO hcb hlt;have hfst:=hO.ok.first
  clear hf;go_enter func74,ntmps74
  go_wp2_with fail;go_quiet (fail);obtain⟨w1,hw1,C1,K1⟩:∃w1,w1=w.drewN nq∧Hid (Cv H b S t w1 r v0 es)∧Hid (Keep H b w w1):=⟨_,rfl,Cx.alike (w':=w.drewN nq) HC.out ⟨rfl,rfl,rfl⟩,Keep.alike ⟨rfl,rfl,rfl⟩⟩
  rw[<-hw1];clear hw1 y0 y77 x2;go_wp2_with fail;refine(zGv b c _ r C1.out.run hfst hlt).mono ?_;rintro e w2 ⟨rfl,hR2,hk2⟩;have C2:Hid (Cv H b S t w2 (r.added c) v0 es):=Cx.kept C1.out hk2 hR2 rfl;have K2:Hid (Keep H b w w2):=K1.out.trans (hk2 H);clear hk2 hR2 C1 K1;go_wp2_with fail;refine(zFg b H S t w2 (r.added c) es (P+1) (C+1) C2.out ok hact HO2.out (by omega) (by show es.length+(r.count+1)+xB r.opn<=C+1;omega) (by omega)).mono ?_;rintro e w3 ⟨rfl,v3,c3,k3⟩;have C3:Hid (Cv H b S t w3 (r.takeO t c).1 v3 (es++(r.takeO t c).2)∧Keep H b w w3):=⟨by rw[HF.out];exact c3,K2.out.trans k3⟩
  clear c3 k3;go_wp2_with fail;go_end0;exact⟨rfl,v3,C3.out.1,C3.out.2⟩
theorem zHf (b H:Nat)(S:Nat->Prop)(t:Tb)(w:World)(r0:Rs){v0:Value}(es0:List Ev)(P C:Nat)(hC:Cv H b S t w r0 v0 es0)(ok:t.Ok)(hact:∀i,i<t.nrule->t.act i<4)(hO:r0.Oth t P)(hP:P<=1073741824)(hn:es0.length+r0.count+xB r0.opn<=C)(hC4:C<=4194304):
  Calls prog 85 #[pointer (some ⟨b,0,none⟩)] w fun e w'=>
   e=returned (tuple #[])∧∃v,Cv H b S t w' (r0.closeO t).1 v (es0++(r0.closeO t).2)∧Keep H b w w':=by
 have HC0:Hid (Cv H b S t w r0 v0 es0∧r0.Oth t P∧es0.length+r0.count+xB r0.opn<=C):=⟨hC,hO,hn⟩
 go_in;apply wp_cut;intro K HK;go_wp2;go_loopg [] (r0.count+xB r0.opn) (fun q wr=>∃(n:Nat) (r:Rs) (es:List Ev) (v:Value),q=r.count+xB r.opn∧r0.endN t n=(r,es)∧Cv H b S t wr r v (es0++es)∧Keep H b w wr∧r.Oth t P∧(es0++es).length+r.count+xB r.opn<=C)
 case atStart=>exact⟨0,r0,[],v0,rfl,rfl,by rw[List.append_nil];exact HC0.out.1,Keep.refl _ _ _,HC0.out.2.1,by rw[List.append_nil];exact HC0.out.2.2⟩
 case round=>
  obtain⟨n,r,es,v,hgk,hN,hC,hk,hO,hn⟩:=hrel;have AA:Hid (gk=r.count+xB r.opn∧r0.endN t n=(r,es)∧Cv H b S t wr r v (es0++es)∧Keep H b w wr∧r.Oth t P∧(es0++es).length+r.count+xB r.opn<=C):=⟨hgk,hN,hC,hk,hO,hn⟩
  have y1:=hC.run.get_opn;have y77:=hC.run.get_count;have hct:=hO.ok.count;have htk:=hO.tak;have hpp:=hO.pos;have hll:=hO.line;have hcl:=hO.col;by_cases hcond:0<r.count∧r.opn=true
  ·obtain⟨hlt,hop⟩:=hcond
   have i1:(0:Int)<(r.count:Int):=by omega
   rw[hop] at y1;have HOP:=vl hop;have INV:=r.endO_inv t P ok AA.out.2.2.2.2.1 hop hlt;have hB:=AA.out.2.2.2.2.2;rw[hop] at hB;have hB2:(es0++es).length+r.count+1<=C:=hB;obtain⟨l1,l2,l3,l4⟩:=r.long_inv t P ok AA.out.2.2.2.2.1 hop hlt;have HNX:Hid (r0.endN t (n+1)=((r.endO t).1,es++(r.endO t).2)):=by show _=_;rw[Rs.endN,AA.out.2.1,if_pos ⟨hlt,hop⟩]
   have HI:=vl INV;have HLG:=vl <| zAU b H S t wr r (es0++es) AA.out.2.2.1 (by omega) ok hact AA.out.2.2.2.2.1.ok (lY AA.out.2.2.2.2.1.len htk) AA.out.2.2.2.2.1.rule (by omega) (by omega) (by omega);have HL:Hid ((r.long t).1.Oth t P∧((es0++es)++(r.long t).2).length+(r.long t).1.count+xB (r.long t).1.opn<=C):=⟨l1,by rw[kX];omega⟩
   go_wp2_with fail;refine Calls.mono HLG.out ?_;rintro e w1 ⟨rfl,v1,c1,k1⟩;have C1:=vl c1;go_wp2_with fail;refine(zFg b H S t w1 (r.long t).1 ((es0++es)++(r.long t).2) P C C1.out ok hact HL.out.1 hP HL.out.2 hC4).mono ?_;rintro e w2 ⟨rfl,v2,c2,k2⟩;have CZ:Hid (Cv H b S t w2 (r.endO t).1 v2 (es0++(es++(r.endO t).2))∧Keep H b w w2):=by
    refine⟨?_,(AA.out.2.2.2.1.trans k1).trans k2⟩;rw[gW,gW] at c2;exact c2
   clear c2 k2 k1;go_wp2_with fail;go_roundg ((r.endO t).1.count+xB (r.endO t).1.opn)
   case measure=>rw[AA.out.1,HOP.out];exact HI.out.2.2.2
   case rel=>exact⟨n+1,(r.endO t).1,es++(r.endO t).2,v2,rfl,HNX.out,CZ.out.1,CZ.out.2,HI.out.1,by have h2:=HI.out.2.1;rw[kX,kX];rw[kX] at hB2;omega⟩
  ·have HE:Hid (r0.endAll t=(r,es)):=by
    show _=_;rw[<-r0.endAll_eq t P ok HC0.out.2.1 n (by rw[AA.out.2.1];exact hcond),AA.out.2.1]
   by_cases hop:r.opn=true
   ·have hc0:¬0<r.count:=fun h=>hcond ⟨h,hop⟩
    have i1:(r.count:Int)<=0:=by omega
    rw[hop] at y1;have HF:Hid (r0.closeO t=({r with opn:=false},es++[r.lastEv 2])):=by
     show _=_;unfold Rs.closeO;rw[HE.out,if_pos hop]
    clear hcond;go_wp2_with fail;apply HK.out;clear HK;go_wp2_with fail;refine(vE b H S t 2 _ r v _ _ AA.out.2.2.1 (by have:=AA.out.2.2.2.2.2;omega)).mono ?_;rintro e w2 ⟨rfl,ao,cap,c2,k2⟩;have C2:Hid (Cx _ _ _ _ _ _ _ _ _):=c2;clear c2;go_wp2_with fail;go_end0;refine⟨rfl,slice ao ((es0++es).length+1) cap,?_,AA.out.2.2.2.1.trans k2⟩;rw[HF.out];show Cv H b S t w2 _ _ (es0++(es++[r.lastEv 2]));unfold Cv;rw[<-gW,xQ,kX (bs:=[r.lastEv 2])];exact C2.out
   ·have hop':r.opn=false:=by simpa using hop
    rw[hop'] at y1;have HF:Hid (r0.closeO t=(r,es)):=by
     show _=_;unfold Rs.closeO;rw[HE.out,if_neg hop]
    clear hcond hop hop';by_cases hc0:0<r.count
    ·have i1:(0:Int)<(r.count:Int):=by omega
     go_wp2_with fail;apply HK.out;clear HK;go_wp2_with fail;go_end0;exact⟨rfl,v,by rw[HF.out];exact AA.out.2.2.1,AA.out.2.2.2.1⟩
    ·have i1:(r.count:Int)<=0:=by omega
     go_wp2_with fail;apply HK.out;clear HK;go_wp2_with fail;go_end0;exact⟨rfl,v,by rw[HF.out];exact AA.out.2.2.1,AA.out.2.2.2.1⟩
def Rs.look (r:Rs)(t:Tb):Rs:={r with ahead:=t.further r.ahead t.count}
def Rs.ended (r:Rs):Rs×List Ev:=if r.opn=false then(r,[]) else({r with opn:=false},[r.lastEv (if r.hAt=r.bAt then 2 else 3)])
theorem zFo (b H:Nat)(S:Nat->Prop)(t:Tb)(w0 w:World)(r:Rs){v0:Value}(es:List Ev)(hC:Cv H b S t w r v0 es)(hn:es.length<=4194304)(hk:Keep H b w0 w)(f:Rs×List Ev)(hf:f=r.ended)
  {u1 u2 u3 u4 u5 u6 u7 u8 u9 u10 u11 u12 u13 u14 u15 u16 u17 u18 u19 u20 u21 u22 u23 u24 u25 u26 u27 u28 u29 u30 u31 u32 u33 u34 u35 u36 u37 u38 u39 u40 u41 u42 u43 u44 u45 u46 u47 u48 u49 u50 u51 u52 u53 u54 u55 u56 u57 u58 u59 u60 u61 u62 u63 u64 u65 u66 u67 u68 u69 u70 u71 u72 u73 u74 u75 u76 u77 u78 u79 u80 u81 u82 u83 u84:Value}:
  Code.wp prog (yQ 3 ((f84.body).getD .skip)) (bodyPost prog f84 fun e w'=>
   e=returned (tuple #[])∧∃v,Cv H b S t w' f.1 v (es++f.2)∧Keep H b w0 w')
   ⟨(pointer (some ⟨b,0,none⟩)::u1::u2::u3::u4::u5::u6::u7::u8::u9::u10::u11::u12::u13::u14::u15::u16::u17::u18::u19::u20::u21::u22::u23::u24::u25::u26::u27::u28::u29::u30::u31::u32::u33::u34::u35::u36::u37::u38::u39::u40::u41::u42::u43::u44::u45::u46::u47::u48::u49::u50::u51::u52::u53::u54::u55::u56::u57::u58::u59::u60::u61::u62::u63::u64::u65::u66::u67::u68::u69::u70::u71::u72::u73::u74::u75::u76::u77::u78::u79::u80::u81::u82::u83::u84::[]).toArray,[]⟩ w:=by
 conv=>arg 2;whnf
 have HC:=vl hC;have J:=vl hk;have HF:=vl hf;have y1:=HC.out.run.get_opn;have y8:=HC.out.run.get_bAt;have y78:=HC.out.run.get_hAt;cases ho:r.opn
 ·rw[ho] at y1
  go_wp2;refine bodyPost_ret (results_none rfl _ _ _) rfl ?_;refine⟨rfl,v0,?_,J.out⟩;rw[HF.out,Rs.ended,if_pos ho,List.append_nil];exact HC.out
 ·rw[ho] at y1
  by_cases he:r.hAt=r.bAt
  ·have hb:((r.hAt:Int)==(r.bAt:Int))=true:=by rw[beq_iff_eq];omega
   have HE:=vl he;go_wp2;go_quiet (fail);go_wp2_with fail;refine(vE b H S t 2 _ r v0 _ _ (Cx.alike (w':=w.drewN nq) HC.out ⟨rfl,rfl,rfl⟩) hn).mono ?_;rintro e w2 ⟨rfl,ao,cap,c2,k2⟩;have C2:=vl c2;go_wp2;go_end0;refine⟨rfl,slice ao (es.length+1) cap,?_,(J.out.trans (Keep.alike (w':=w.drewN nq) ⟨rfl,rfl,rfl⟩)).trans k2⟩;rw[HF.out,Rs.ended,if_neg (by rw[ho];decide),if_pos HE.out];unfold Cv;rw[xQ,kX];exact C2.out
  ·have hb:((r.hAt:Int)==(r.bAt:Int))=false:=by rw[hJ];omega
   have HE:=vl he;go_wp2;go_quiet (fail);go_wp2_with fail;refine(vE b H S t 3 _ r v0 _ _ (Cx.alike (w':=w.drewN nq) HC.out ⟨rfl,rfl,rfl⟩) hn).mono ?_;rintro e w2 ⟨rfl,ao,cap,c2,k2⟩;have C2:=vl c2;go_wp2;go_end0;refine⟨rfl,slice ao (es.length+1) cap,?_,(J.out.trans (Keep.alike (w':=w.drewN nq) ⟨rfl,rfl,rfl⟩)).trans k2⟩;rw[HF.out,Rs.ended,if_neg (by rw[ho];decide),if_neg HE.out];unfold Cv;rw[xQ,kX];exact C2.out
end Go.Proofs.YtbjcfkdnjaiclaaGreat
