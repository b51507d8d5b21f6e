import Derived.Deep.RegionWith
import Derived.Test.YtbjcfkdnjaiclaaGreatB0
import Derived.Test.YtbjcfkdnjaiclaaGreatB2
import Derived.Test.YtbjcfkdnjaiclaaGreatB29
/- Parts of the proof. -/
set_option linter.unusedVariables false
set_option linter.unusedSimpArgs false
set_option maxHeartbeats 4000000
set_option maxRecDepth 100000
namespace Go.Proofs.YtbjcfkdnjaiclaaGreat
open Go.RowKit Go.Proofs.Tryz Go.World
section
structure Cx (H b:Nat)(S:Nat->Prop)(t:Tb)(w:World)(r:Rs)(v0:Value)(n:Nat)(xs:List Value):Prop where
 run:zK w b r v0
 own:w.ownsRow H 51 6 v0 n xs
 tab:TabAt w S r.tp t
 bH:b<H
 HH:H<=w.heap.size
 safe:∀k,S k->k<H∧k≠b
namespace Cx
variable {H b:Nat} {S:Nat->Prop} {t:Tb} {w w':World} {r r':Rs} {v0 v1:Value} {n n':Nat} {xs xs':List Value}
theorem below (h:Cx H b S t w r v0 n xs)(e:Below w.heap.size w w'):Cx H b S t w' r v0 n xs:=
 ⟨h.run.below e,h.own.kept ⟨e.os,e.tape,e.output,e.size,fun k hk _=>e.block k hk⟩ (row:=none) (by cases hv:v0.ownBlock <;> simp),h.tab.keep fun k hk=>e.block k (lZ (h.safe k hk).1 h.HH),h.bH,lY h.HH e.size,h.safe⟩
theorem alloc (h:Cx H b S t w r v0 n xs)(o:Obj):Cx H b S t (w.alloc o) r v0 n xs:=h.below ((Below.refl _ _).alloc lQ _)
theorem alike (h:Cx H b S t w r v0 n xs)(e:w'.Alike w):Cx H b S t w' r v0 n xs:=
 ⟨h.run.alike e,by unfold World.ownsRow;rw[e.1];exact h.own,h.tab.keep fun k _=>by rw[e.1],h.bH,by rw[e.1];exact h.HH,h.safe⟩
theorem next (h:Cx H b S t w r v0 n xs)(hk:Keep H b w w')(hr:zK w' b r' v1)(htp:r'.tp=r.tp)(ho:w'.ownsRow H 51 6 v1 n' xs'):Cx H b S t w' r' v1 n' xs':=
 ⟨hr,ho,by rw[htp];exact h.tab.keep fun k hs=>hk.block k (h.safe k hs).1 (h.safe k hs).2,h.bH,lY h.HH hk.size,h.safe⟩
theorem stored (h:Cx H b S t w r v0 n xs)(i:Nat)(v:Value)(hr:zK (w.setCell ⟨b,i,none⟩ v) b r' v0)(htp:r'.tp=r.tp):Cx H b S t (w.setCell ⟨b,i,none⟩ v) r' v0 n xs:=
 h.next (Keep.set _ _ _) hr htp (ownsRow_setCell_below h.own h.bH _)
theorem kept (h:Cx H b S t w r v0 n xs)(hk:∀H,Keep H b w w')(hr:zK w' b r' v0)(htp:r'.tp=r.tp):Cx H b S t w' r' v0 n xs:=
 h.next (hk H) hr htp (by
  refine⟨h.own.1,h.own.2.imp id ?_⟩;rintro⟨g,cap,cur,hv,hg,hh,rest⟩;have hlt:=(kQ.1 hh).1;have hbH:=h.bH;exact⟨g,cap,cur,hv,hg,((hk w.heap.size).block g hlt (by omega)).trans hh,rest⟩)
end Cx
theorem zAS (b H:Nat)(S:Nat->Prop)(t:Tb)(kind rule to:Int)(w:World)(r:Rs)(v0:Value)(n:Nat)(xs:List Value)(hC:Cx H b S t w r v0 n xs)(hn:n<=4194304):
  Calls prog 157 #[.pointer (some ⟨b,0,none⟩),.int .i64 kind,.int .i64 rule,.int .i64 to] w fun e w'=>
   e=.returned (.tuple #[])∧∃ao cap,Cx H b S t w' r (.slice ao (n+1) cap) (n+1) (xs++vG kind rule r.bAt to r.bLine r.bCol)∧Keep H b w w'∧
    ∀k,k<w.heap.size->k≠b->some k≠v0.ownBlock->w'.heap[k]? =w.heap[k]? :=by
 have hR:=hC.run;have hown:=hC.own;have hb:=hC.bH;have hH:=hC.HH;have hlt:=hown.lt;have ag:v0.ownBlock≠some b:=fun e=>by have:=hlt b e;omega
 refine(zLl b kind rule to r.bAt r.bLine r.bCol v0 n H xs w hR.get_told hR.get_bAt hR.get_bLine hR.get_bCol (hR.frozen 2) hown hH (by unfold maxLen;omega) (by omega) ag).mono ?_;rintro e w' ⟨rfl,g,cap,w1,hown1,hgrow,hat,hlt1,rfl⟩;have hR1:=hR.of_block (hgrow.block b hR.lt (Ne.symm ag));have hk:Keep H b w (w1.setCell ⟨b,2,none⟩ (.slice (some ⟨g,0,none⟩) (n+1) cap)):=(Keep.grown hgrow hH fun k hk=>(hlt k hk).1).trans (Keep.set _ _ _);refine⟨rfl,some ⟨g,0,none⟩,cap,hC.next hk (hR1.set_told _) rfl (ownsRow_setCell_below hown1 hb _),hk,fun k h1 h2 h3=>?_⟩;exact(lJ _ _ _ _ h2).trans (hgrow.block k h1 h3)
theorem qZ (b H:Nat)(S:Nat->Prop)(t:Tb)(kind:Int)(w:World)(r:Rs)(v0:Value)(n:Nat)(xs:List Value)(hC:Cx H b S t w r v0 n xs)(hn:n<=4194304):
  Calls prog 110 #[.pointer (some ⟨b,0,none⟩),.int .i64 kind] w fun e w'=>
   e=.returned (.tuple #[])∧∃ao cap,Cx H b S t w' {r with opn:=false} (.slice ao (n+1) cap) (n+1) (xs++vG kind 0 r.bAt r.bAt r.bLine r.bCol)∧Keep H b w w':=by
 have h8:=hC.run.get_bAt;have HC:=vl hC;go_in;go_wp2_with fail;refine(zAS b H S t kind 0 r.bAt _ r v0 n xs HC.out hn).mono ?_;rintro e w1 ⟨rfl,ao,cap,cb,hk1,_⟩;have c1:=cb.run.get_opn;have f1:=cb.run.frozen 1;have HC1:=vl cb;have HK:=vl hk1;go_wp2;go_end0;exact⟨rfl,ao,cap,HC1.out.stored 1 _ (HC1.out.run.set_opn false) rfl,HK.out.trans (Keep.set _ _ _)⟩
theorem zIK (b H:Nat)(S:Nat->Prop)(t:Tb)(w:World)(r:Rs)(v0:Value)(n:Nat)(xs:List Value)(hC:Cx H b S t w r v0 n xs)(hn:n<=4194304)
  (rule eAt eLine eCol:Nat) (hr:rule<t.nrule) (ho:t.act rule=2) (hd:r.depth=4):
  Calls prog 156 #[.pointer (some ⟨b,0,none⟩),.int .i64 rule,.agg #[.int .i64 eAt,.int .i64 eLine,.int .i64 eCol]] w fun e w'=>
   e=.returned (.tuple #[])∧∃ao cap,Cx H b S t w' {r with opn:=false} (.slice ao (n+1) cap) (n+1) (xs++vG 4 0 r.bAt r.bAt r.bLine r.bCol)∧Keep H b w w':=by
 have h0:=hC.run.get_tp;have h7:=hC.run.get_depth;obtain⟨_,h4,b4,o4,cap4,hb4,rfl,hcap4,hml4,hL⟩:=hC.tab.c4;have hx:w.cell? ⟨b4,o4+rule,none⟩=some (.int .i64 (t.act rule:Nat)):=hL _ hr;rw[ho] at hx;rw[hd] at h7;have i1:(rule:Int)<(t.nrule:Int):=by omega
 have l0:b<w.heap.size:=hC.run.lt;have l4:b4<w.heap.size:=lZ (hC.safe _ hb4).1 hC.HH;have lp:r.tp<w.heap.size:=lZ (hC.safe _ hC.tab.safe).1 hC.HH;have HC:=vl hC;go_in;go_wp2_with fail;refine(qZ b H S t 4 _ r v0 n xs (HC.out.alloc _) hn).mono ?_;rintro e w1 ⟨rfl,ao,cap,hC1,hk1⟩;have HC1:=vl hC1;go_wp2;refine bodyPost_ret (results_none rfl _ _ _) rfl ?_;exact⟨rfl,ao,cap,HC1.out,(kZ _ _ HC.out.HH).trans hk1⟩
theorem zHv (b H:Nat)(S:Nat->Prop)(t:Tb)(w:World)(r:Rs)(v0:Value)(n:Nat)(xs:List Value)(hC:Cx H b S t w r v0 n xs)(hn:n<=4194304)
  (rule eAt eLine eCol:Nat) (hr:rule<t.nrule) (ho:t.act rule=3) (hd:r.depth=1):
  Calls prog 156 #[.pointer (some ⟨b,0,none⟩),.int .i64 rule,.agg #[.int .i64 eAt,.int .i64 eLine,.int .i64 eCol]] w fun e w'=>
   e=.returned (.tuple #[])∧∃ao cap,Cx H b S t w' {r with opn:=false} (.slice ao (n+1) cap) (n+1) (xs++vG 5 0 r.bAt r.bAt r.bLine r.bCol)∧Keep H b w w':=by
 have h0:=hC.run.get_tp;have h7:=hC.run.get_depth;obtain⟨_,h4,b4,o4,cap4,hb4,rfl,hcap4,hml4,hL⟩:=hC.tab.c4;have hx:w.cell? ⟨b4,o4+rule,none⟩=some (.int .i64 (t.act rule:Nat)):=hL _ hr;rw[ho] at hx;rw[hd] at h7;have i1:(rule:Int)<(t.nrule:Int):=by omega
 have l0:b<w.heap.size:=hC.run.lt;have l4:b4<w.heap.size:=lZ (hC.safe _ hb4).1 hC.HH;have lp:r.tp<w.heap.size:=lZ (hC.safe _ hC.tab.safe).1 hC.HH;have HC:=vl hC;go_in;go_wp2_with fail;refine(qZ b H S t 5 _ r v0 n xs (HC.out.alloc _) hn).mono ?_;rintro e w1 ⟨rfl,ao,cap,hC1,hk1⟩;have HC1:=vl hC1;go_wp2;refine bodyPost_ret (results_none rfl _ _ _) rfl ?_;exact⟨rfl,ao,cap,HC1.out,(kZ _ _ HC.out.HH).trans hk1⟩
theorem zII (b H:Nat)(S:Nat->Prop)(t:Tb)(w:World)(r:Rs)(v0:Value)(n:Nat)(xs:List Value)(hC:Cx H b S t w r v0 n xs)
  (rule eAt eLine eCol:Nat) (hr:rule<t.nrule) (ho:t.act rule=1) (hd0:1<=r.depth) (hd4:r.depth<=4) (hst:r.stack (r.depth-1)<t.nmode):
  Calls prog 156 #[.pointer (some ⟨b,0,none⟩),.int .i64 rule,.agg #[.int .i64 eAt,.int .i64 eLine,.int .i64 eCol]] w fun e w'=>
   e=.returned (.tuple #[])∧Cx H b S t w' {r with bAt:=eAt,bLine:=eLine,bCol:=eCol,state:=t.start (r.stack (r.depth-1))} v0 n xs∧Keep H b w w':=by
 have h0:=hC.run.get_tp;have h7:=hC.run.get_depth;obtain⟨_,h4,b4,o4,cap4,hb4,rfl,hcap4,hml4,hL⟩:=hC.tab.c4;have hx:w.cell? ⟨b4,o4+rule,none⟩=some (.int .i64 (t.act rule:Nat)):=hL _ hr;rw[ho] at hx;have i1:(rule:Int)<(t.nrule:Int):=by omega
 have l0:b<w.heap.size:=hC.run.lt;have l4:b4<w.heap.size:=lZ (hC.safe _ hb4).1 hC.HH;have lp:r.tp<w.heap.size:=lZ (hC.safe _ hC.tab.safe).1 hC.HH;have d8:=(hC).run.get_bAt;have d9:=(hC).run.get_bLine;have d10:=(hC).run.get_bCol;have d11:=(hC).run.get_state;have g8:=(hC).run.frozen 8;have g9:=(hC).run.frozen 9;have g10:=(hC).run.frozen 10;have g11:=(hC).run.frozen 11;have HC:=vl hC;go_in;go_wp2_with fail;have c1:=HC.out.stored 8 _ (HC.out.run.set_bAt eAt) rfl;have c2:=c1.stored 9 _ (c1.run.set_bLine eLine) rfl;have c3:=c2.stored 10 _ (c2.run.set_bCol eCol) rfl;have c4:=c3.alloc (.cells #[.int .i64 eAt,.int .i64 eLine,.int .i64 eCol] 97);have k4:=(((Keep.set (H:=H) (b:=b) w 8 (.int .i64 eAt)).trans (Keep.set _ 9 (.int .i64 eLine))).trans (Keep.set _ 10 (.int .i64 eCol))).trans (kZ _ (.cells #[.int .i64 eAt,.int .i64 eLine,.int .i64 eCol] 97) c3.HH);refine(zAb b _ _ c4.run S t c4.tab hd0 hd4 hst).mono ?_;rintro e w9 ⟨rfl,ha9⟩;have c5:=c4.alike ha9;have k5:=vl <| k4.trans (Keep.alike ha9);have e11:=c5.run.get_state;have z11:=c5.run.frozen 11;have C5:=vl c5;go_wp2;go_end0;exact⟨rfl,C5.out.stored 11 _ (C5.out.run.set_state _) rfl,k5.out.trans (Keep.set _ _ _)⟩
theorem zIL (b H:Nat)(S:Nat->Prop)(t:Tb)(w:World)(r:Rs)(v0:Value)(n:Nat)(xs:List Value)(hC:Cx H b S t w r v0 n xs)(hn:n<=4194304)
  (rule eAt eLine eCol:Nat) (hr:rule<t.nrule) (ho:t.act rule=0) (hd0:1<=r.depth) (hd4:r.depth<=4) (hst:r.stack (r.depth-1)<t.nmode):
  Calls prog 156 #[.pointer (some ⟨b,0,none⟩),.int .i64 rule,.agg #[.int .i64 eAt,.int .i64 eLine,.int .i64 eCol]] w fun e w'=>
   e=.returned (.tuple #[])∧∃ao cap,Cx H b S t w' {r with bAt:=eAt,bLine:=eLine,bCol:=eCol,state:=t.start (r.stack (r.depth-1))} (.slice ao (n+1) cap) (n+1) (xs++vG 1 rule r.bAt eAt r.bLine r.bCol)∧Keep H b w w':=by
 have h0:=hC.run.get_tp;have h7:=hC.run.get_depth;obtain⟨_,h4,b4,o4,cap4,hb4,rfl,hcap4,hml4,hL⟩:=hC.tab.c4;have hx:w.cell? ⟨b4,o4+rule,none⟩=some (.int .i64 (t.act rule:Nat)):=hL _ hr;rw[ho] at hx;have i1:(rule:Int)<(t.nrule:Int):=by omega
 have l0:b<w.heap.size:=hC.run.lt;have l4:b4<w.heap.size:=lZ (hC.safe _ hb4).1 hC.HH;have lp:r.tp<w.heap.size:=lZ (hC.safe _ hC.tab.safe).1 hC.HH;have HC:=vl hC;go_in;go_wp2_with fail;have ca:=HC.out.alloc (.cells #[.int .i64 eAt,.int .i64 eLine,.int .i64 eCol] 97);refine(zAS b H S t 1 rule eAt _ r v0 n xs ca hn).mono ?_;rintro e w1 ⟨rfl,ao,cap,cb,hk1,hf1⟩;have hbox:w1.heap[w.heap.size]? =some (.cells #[.int .i64 eAt,.int .i64 eLine,.int .i64 eCol] 97):=by
  rw[hf1 w.heap.size (by simp) (by omega) (fun e=>by have:=(HC.out.own.lt _ e.symm).2;omega)];exact gG w _
 have x0:w1.cell? ⟨w.heap.size,0,none⟩=some (.int .i64 eAt):=by simp[World.cell?,hbox]
 have x1:w1.cell? ⟨w.heap.size,1,none⟩=some (.int .i64 eLine):=by simp[World.cell?,hbox]
 have x2:w1.cell? ⟨w.heap.size,2,none⟩=some (.int .i64 eCol):=by simp[World.cell?,hbox]
 have d8:=cb.run.get_bAt;have g8:=cb.run.frozen 8;have d9:=cb.run.get_bLine;have g9:=cb.run.frozen 9;have d10:=cb.run.get_bCol;have g10:=cb.run.frozen 10;have d11:=cb.run.get_state;have g11:=cb.run.frozen 11;have CB:=vl cb;have K1:=vl <| (kZ w _ HC.out.HH).trans hk1;go_wp2_with fail;have c1:=CB.out.stored 8 _ (CB.out.run.set_bAt eAt) rfl;have c2:=c1.stored 9 _ (c1.run.set_bLine eLine) rfl;have c4:=c2.stored 10 _ (c2.run.set_bCol eCol) rfl;have k4:=((K1.out.trans (Keep.set w1 8 (.int .i64 eAt))).trans (Keep.set _ 9 (.int .i64 eLine))).trans (Keep.set _ 10 (.int .i64 eCol));refine(zAb b _ _ c4.run S t c4.tab hd0 hd4 hst).mono ?_;rintro e w9 ⟨rfl,ha9⟩;have c5:=c4.alike ha9;have k5:=vl <| k4.trans (Keep.alike ha9);have e11:=c5.run.get_state;have z11:=c5.run.frozen 11;have C5:=vl c5;go_wp2;go_end0;exact⟨rfl,ao,cap,C5.out.stored 11 _ (C5.out.run.set_state _) rfl,k5.out.trans (Keep.set _ _ _)⟩
end
theorem zKa (b H:Nat)(S:Nat->Prop)(t:Tb)(w:World)(r:Rs)(v0:Value)(n:Nat)(xs:List Value)(hC:Cx H b S t w r v0 n xs)(hn:n<=4194304)
  (rule eAt eLine eCol:Nat) (hr:rule<t.nrule) (ho:t.act rule=3) (hd0:2<=r.depth) (hd4:r.depth<=4) (hst:r.stack (r.depth-1-1)<t.nmode):
  Calls prog 156 #[.pointer (some ⟨b,0,none⟩),.int .i64 rule,.agg #[.int .i64 eAt,.int .i64 eLine,.int .i64 eCol]] w fun e w'=>
   e=.returned (.tuple #[])∧∃ao cap,Cx H b S t w' {r with depth:=r.depth-1,bAt:=eAt,bLine:=eLine,bCol:=eCol,state:=t.start (r.stack (r.depth-1-1))} (.slice ao (n+1) cap) (n+1) (xs++vG 1 rule r.bAt eAt r.bLine r.bCol)∧Keep H b w w':=by
 have h0:=hC.run.get_tp;have h7:=hC.run.get_depth;have j1:((r.depth:Int)==1)=false:=by rw[gQ];omega
 have j2:(2:Int)<=(r.depth:Int):=by omega
 have j3:(r.depth:Int)<=4:=by omega
 obtain⟨_,h4,b4,o4,cap4,hb4,rfl,hcap4,hml4,hL⟩:=hC.tab.c4;have hx:w.cell? ⟨b4,o4+rule,none⟩=some (.int .i64 (t.act rule:Nat)):=hL _ hr;rw[ho] at hx;have i1:(rule:Int)<(t.nrule:Int):=by omega
 have l0:b<w.heap.size:=hC.run.lt;have l4:b4<w.heap.size:=lZ (hC.safe _ hb4).1 hC.HH;have lp:r.tp<w.heap.size:=lZ (hC.safe _ hC.tab.safe).1 hC.HH;have HC:=vl hC;go_in;go_wp2_with fail;have ca:=HC.out.alloc (.cells #[.int .i64 eAt,.int .i64 eLine,.int .i64 eCol] 97);refine(zAS b H S t 1 rule eAt _ r v0 n xs ca hn).mono ?_;rintro e w1 ⟨rfl,ao,cap,cb,hk1,hf1⟩;have hbox:w1.heap[w.heap.size]? =some (.cells #[.int .i64 eAt,.int .i64 eLine,.int .i64 eCol] 97):=by
  rw[hf1 w.heap.size (by simp) (by omega) (fun e=>by have:=(HC.out.own.lt _ e.symm).2;omega)];exact gG w _
 have x0:w1.cell? ⟨w.heap.size,0,none⟩=some (.int .i64 eAt):=by simp[World.cell?,hbox]
 have x1:w1.cell? ⟨w.heap.size,1,none⟩=some (.int .i64 eLine):=by simp[World.cell?,hbox]
 have x2:w1.cell? ⟨w.heap.size,2,none⟩=some (.int .i64 eCol):=by simp[World.cell?,hbox]
 have d7:=cb.run.get_depth;have g7:=cb.run.frozen 7;have d8:=cb.run.get_bAt;have g8:=cb.run.frozen 8;have d9:=cb.run.get_bLine;have g9:=cb.run.frozen 9;have d10:=cb.run.get_bCol;have g10:=cb.run.frozen 10;have d11:=cb.run.get_state;have g11:=cb.run.frozen 11;have CB:=vl cb;have K1:=vl <| (kZ w _ HC.out.HH).trans hk1;go_wp2_with fail;have ed:((r.depth:Int)-1)=((r.depth-1:Nat):Int):=by omega
 rw[ed];have c0:=CB.out.stored 7 _ (CB.out.run.set_depth (r.depth-1)) rfl;have c1:=c0.stored 8 _ (c0.run.set_bAt eAt) rfl;have c2:=c1.stored 9 _ (c1.run.set_bLine eLine) rfl;have c4:=c2.stored 10 _ (c2.run.set_bCol eCol) rfl;have k4:=(((K1.out.trans (Keep.set w1 7 (.int .i64 (r.depth-1:Nat)))).trans (Keep.set _ 8 (.int .i64 eAt))).trans (Keep.set _ 9 (.int .i64 eLine))).trans (Keep.set _ 10 (.int .i64 eCol));refine(zAb b _ _ c4.run S t c4.tab (by show 1<=r.depth-1;omega) (by show r.depth-1<=4;omega) hst).mono ?_;rintro e w9 ⟨rfl,ha9⟩;have c5:=c4.alike ha9;have k5:=vl <| k4.trans (Keep.alike ha9);have e11:=c5.run.get_state;have z11:=c5.run.frozen 11;have C5:=vl c5;go_wp2;go_end0;exact⟨rfl,ao,cap,C5.out.stored 11 _ (C5.out.run.set_state _) rfl,k5.out.trans (Keep.set _ _ _)⟩
theorem zIJ (b H:Nat)(S:Nat->Prop)(t:Tb)(w:World)(r:Rs)(v0:Value)(n:Nat)(xs:List Value)(hC:Cx H b S t w r v0 n xs)(hn:n<=4194304)
  (rule eAt eLine eCol:Nat) (hr:rule<t.nrule) (ho:t.act rule=2) (hd0:1<=r.depth) (hd4:r.depth<4) (hst:t.push rule<t.nmode):
  Calls prog 156 #[.pointer (some ⟨b,0,none⟩),.int .i64 rule,.agg #[.int .i64 eAt,.int .i64 eLine,.int .i64 eCol]] w fun e w'=>
   e=.returned (.tuple #[])∧∃ao cap,Cx H b S t w' {r with stack:=fun j=>if j=r.depth then t.push rule else r.stack j,depth:=r.depth+1,bAt:=eAt,bLine:=eLine,bCol:=eCol,state:=t.start (t.push rule)} (.slice ao (n+1) cap) (n+1) (xs++vG 1 rule r.bAt eAt r.bLine r.bCol)∧Keep H b w w':=by
 have h0:=hC.run.get_tp;have h7:=hC.run.get_depth;have j1:((r.depth:Int)==4)=false:=by rw[gQ];omega
 obtain⟨_,h4,b4,o4,cap4,hb4,rfl,hcap4,hml4,hL⟩:=hC.tab.c4;have hx:w.cell? ⟨b4,o4+rule,none⟩=some (.int .i64 (t.act rule:Nat)):=hL _ hr;rw[ho] at hx;have i1:(rule:Int)<(t.nrule:Int):=by omega
 have l0:b<w.heap.size:=hC.run.lt;have l4:b4<w.heap.size:=lZ (hC.safe _ hb4).1 hC.HH;have lp:r.tp<w.heap.size:=lZ (hC.safe _ hC.tab.safe).1 hC.HH;have HC:=vl hC;clear hC hL;go_in;go_wp2_with fail;have ca:=HC.out.alloc (.cells #[.int .i64 eAt,.int .i64 eLine,.int .i64 eCol] 97);refine(zAS b H S t 1 rule eAt _ r v0 n xs ca hn).mono ?_;rintro e w1 ⟨rfl,ao,cap,cb,hk1,hf1⟩;have hbox:w1.heap[w.heap.size]? =some (.cells #[.int .i64 eAt,.int .i64 eLine,.int .i64 eCol] 97):=by
  rw[hf1 w.heap.size (by simp) (by omega) (fun e=>by have:=(HC.out.own.lt _ e.symm).2;omega)];exact gG w _
 have x0:w1.cell? ⟨w.heap.size,0,none⟩=some (.int .i64 eAt):=by simp[World.cell?,hbox]
 have x1:w1.cell? ⟨w.heap.size,1,none⟩=some (.int .i64 eLine):=by simp[World.cell?,hbox]
 have x2:w1.cell? ⟨w.heap.size,2,none⟩=some (.int .i64 eCol):=by simp[World.cell?,hbox]
 have dt:=cb.run.get_tp;obtain⟨_,h5,b5,o5,cap5,hb5,rfl,hcap5,hml5,hL5⟩:=cb.tab.c5;have hx5:w1.cell? ⟨b5,o5+rule,none⟩=some (.int .i64 (t.push rule:Nat)):=hL5 _ hr;have CB:=vl cb;have K1:=vl <| (kZ w _ HC.out.HH).trans hk1;clear cb ca hk1 hf1 hbox hL5;go_wp2_with fail;refine(zE3 b (t.push rule) _ _ CB.out.run (by exact hd4)).mono ?_;rintro e w2 ⟨rfl,hR2,hk2⟩;have cc:=CB.out.kept hk2 hR2 rfl;have y0:w2.cell? ⟨w.heap.size,0,none⟩=some (.int .i64 eAt):=(cell?_of_block ((hk2 (w.heap.size+1)).block _ (by show w.heap.size<_;omega) (by show w.heap.size≠b;omega))).trans x0;have y1:w2.cell? ⟨w.heap.size,1,none⟩=some (.int .i64 eLine):=(cell?_of_block ((hk2 (w.heap.size+1)).block _ (by show w.heap.size<_;omega) (by show w.heap.size≠b;omega))).trans x1;have y2:w2.cell? ⟨w.heap.size,2,none⟩=some (.int .i64 eCol):=(cell?_of_block ((hk2 (w.heap.size+1)).block _ (by show w.heap.size<_;omega) (by show w.heap.size≠b;omega))).trans x2;have d8:=cc.run.get_bAt;have g8:=cc.run.frozen 8;have d9:=cc.run.get_bLine;have g9:=cc.run.frozen 9;have d10:=cc.run.get_bCol;have g10:=cc.run.frozen 10;have K2:=vl <| K1.out.trans (hk2 H);have CC:=vl cc;clear cc hk2 hR2;go_wp2_with fail;have c1:=CC.out.stored 8 _ (CC.out.run.set_bAt eAt) rfl;have c2:=c1.stored 9 _ (c1.run.set_bLine eLine) rfl;have c4:=c2.stored 10 _ (c2.run.set_bCol eCol) rfl;have k4:=((K2.out.trans (Keep.set w2 8 (.int .i64 eAt))).trans (Keep.set _ 9 (.int .i64 eLine))).trans (Keep.set _ 10 (.int .i64 eCol));clear c1 c2;have hs:(fun j=>if j=r.depth then t.push rule else r.stack j) (r.depth+1-1)=t.push rule:=by simp
 refine(zAb b _ _ c4.run S t c4.tab (by show 1<=r.depth+1;omega) (by show r.depth+1<=4;omega) (by show(fun j=>if j=r.depth then t.push rule else r.stack j) (r.depth+1-1)<t.nmode;rw[hs];exact hst)).mono ?_;rintro e w9 ⟨rfl,ha9⟩;have c5:=c4.alike ha9;have k5:=vl <| k4.trans (Keep.alike ha9);have e11:=c5.run.get_state;have z11:=c5.run.frozen 11;have C5:=vl c5;clear c5 c4 k4 ha9;go_wp2;go_end0;refine⟨rfl,ao,cap,?_,k5.out.trans (Keep.set _ 11 _)⟩;have c6:=C5.out.stored 11 _ (C5.out.run.set_state (t.start (t.push rule))) rfl;simpa using c6
structure Ev where
 kind:Int
 rule:Int
 from_:Int
 to:Int
 line:Int
 col:Int
def Ev.cells (e:Ev):List Value:=vG e.kind e.rule e.from_ e.to e.line e.col
def zU (es:List Ev):List Value:=es.flatMap Ev.cells
theorem xR (es:List Ev)(e:Ev):zU (es++[e])=zU es++e.cells:=by simp[zU]
abbrev Cv (H b:Nat)(S:Nat->Prop)(t:Tb)(w:World)(r:Rs)(v0:Value)(es:List Ev):Prop:=Cx H b S t w r v0 es.length (zU es)
structure Rs.Ok (r:Rs)(t:Tb):Prop where
 d1:1<=r.depth
 d4:r.depth<=4
 st:∀j,j<r.depth->r.stack j<t.nmode
 state:r.state<t.nst
 first:r.first<64
 count:r.count<=64
 bytes:∀j,j<64->r.byte j<256
def Rs.lastEv (r:Rs)(kind:Int):Ev:=⟨kind,0,r.bAt,r.bAt,r.bLine,r.bCol⟩
def Rs.moved (r:Rs)(t:Tb)(rule:Nat):Rs:=
 if t.act rule=3 then{r with depth:=r.depth-1}
 else if t.act rule=2 then{r with stack:=fun j=>if j=r.depth then t.push rule else r.stack j,depth:=r.depth+1}
 else r
def Rs.tok (r:Rs)(t:Tb)(rule eAt eLine eCol:Nat):Rs×List Ev:=
 if t.act rule=2∧r.depth=4 then({r with opn:=false},[r.lastEv 4])
 else if t.act rule=3∧r.depth=1 then({r with opn:=false},[r.lastEv 5])
 else({r.moved t rule with bAt:=eAt,bLine:=eLine,bCol:=eCol,state:=t.start ((r.moved t rule).stack ((r.moved t rule).depth-1))},
  if t.act rule=1 then[] else[⟨1,rule,r.bAt,eAt,r.bLine,r.bCol⟩])
theorem zD2 (b H:Nat)(S:Nat->Prop)(t:Tb)(w:World)(r:Rs){v0:Value}(es:List Ev)(hC:Cv H b S t w r v0 es)(hn:es.length<=4194304)
  (rule eAt eLine eCol:Nat) (hr:rule<t.nrule) (ha:t.act rule<4) (ok:t.Ok) (hok:r.Ok t):
  Calls prog 156 #[.pointer (some ⟨b,0,none⟩),.int .i64 rule,.agg #[.int .i64 eAt,.int .i64 eLine,.int .i64 eCol]] w fun e w'=>
   e=.returned (.tuple #[])∧∃v,Cv H b S t w' (r.tok t rule eAt eLine eCol).1 v (es++(r.tok t rule eAt eLine eCol).2)∧Keep H b w w':=by
 have d1:=hok.d1;have d4:=hok.d4;by_cases h2:t.act rule=2∧r.depth=4
 ·refine(zIK b H S t w r v0 _ _ hC hn rule eAt eLine eCol hr h2.1 h2.2).mono ?_
  rintro e w' ⟨rfl,ao,cap,hC',hk⟩;refine⟨rfl,.slice ao (es.length+1) cap,?_,hk⟩;unfold Rs.tok Cv;rw[if_pos h2,xR,kX];exact hC'
 ·by_cases h3:t.act rule=3∧r.depth=1
  ·refine(zHv b H S t w r v0 _ _ hC hn rule eAt eLine eCol hr h3.1 h3.2).mono ?_
   rintro e w' ⟨rfl,ao,cap,hC',hk⟩;refine⟨rfl,.slice ao (es.length+1) cap,?_,hk⟩;unfold Rs.tok Cv;rw[if_neg h2,if_pos h3,xR,kX];exact hC'
  ·by_cases a1:t.act rule=1
   ·refine(zII b H S t w r v0 _ _ hC rule eAt eLine eCol hr a1 d1 d4 (hok.st _ (by omega))).mono ?_
    rintro e w' ⟨rfl,hC',hk⟩;refine⟨rfl,v0,?_,hk⟩;unfold Rs.tok Cv Rs.moved;rw[if_neg h2,if_neg h3,if_neg (by omega),if_neg (by omega),if_pos a1,List.append_nil];exact hC'
   ·by_cases a2:t.act rule=2
    ·refine(zIJ b H S t w r v0 _ _ hC hn rule eAt eLine eCol hr a2 d1 (by omega) (ok.push _ hr)).mono ?_
     rintro e w' ⟨rfl,ao,cap,hC',hk⟩;refine⟨rfl,.slice ao (es.length+1) cap,?_,hk⟩;unfold Rs.tok Cv Rs.moved;rw[if_neg h2,if_neg h3,if_neg (by omega),if_pos a2,if_neg a1,xR,kX];simpa[Ev.cells] using hC'
    ·by_cases a3:t.act rule=3
     ·refine(zKa b H S t w r v0 _ _ hC hn rule eAt eLine eCol hr a3 (by omega) d4 (hok.st _ (by omega))).mono ?_
      rintro e w' ⟨rfl,ao,cap,hC',hk⟩;refine⟨rfl,.slice ao (es.length+1) cap,?_,hk⟩;unfold Rs.tok Cv Rs.moved;rw[if_neg h2,if_neg h3,if_pos a3,if_neg a1,xR,kX];exact hC'
     ·refine(zIL b H S t w r v0 _ _ hC hn rule eAt eLine eCol hr (by omega) d1 d4 (hok.st _ (by omega))).mono ?_
      rintro e w' ⟨rfl,ao,cap,hC',hk⟩;refine⟨rfl,.slice ao (es.length+1) cap,?_,hk⟩;unfold Rs.tok Cv Rs.moved;rw[if_neg h2,if_neg h3,if_neg a3,if_neg a2,if_neg a1,xR,kX];exact hC'
def Rs.fin (r:Rs)(t:Tb):Rs×List Ev:=
 if t.ends r.state≠-1∧t.longer r.ahead r.state=false then r.tok t (t.ends r.state).toNat r.hAt r.hLine r.hCol
 else if t.live r.state=false then({r with opn:=false},[r.lastEv 3])
 else(r,[])
theorem zF8 (b H:Nat)(S:Nat->Prop)(t:Tb)(w0 w:World)(r:Rs){v0:Value}(es:List Ev)(hC:Cv H b S t w r v0 es)(hn:es.length<=4194304)(hok:r.Ok t)(hk:Keep H b w0 w)
  (f:Rs×List Ev) (hf:f=if t.live r.state=false then({r with opn:=false},[r.lastEv 3]) else(r,[]))
  {u1 u2 u3 u4 u5 u6 u7 u8 u9 u10 u11 u12 u13 u14 u15 u16 u17 u18 u19 u20 u21 u22 u23 u24 u25 u26 u27 u28 u29 u30 u31 u32 u33 u34 u35 u36 u37 u38 u39 u40 u41 u42 u43 u44 u45 u46 u47 u48 u49 u50 u51 u52 u53 u54 u55 u56 u57 u58 u59 u60 u61 u62 u63 u65 u66 u67 u68 u69 u70 u71 u72 u73 u74 u75 u76 u77 u78 u79 u80 u81 u82 u83 u84 u85 u86 u87:Value}:
  Code.wp prog (yQ 6 ((f109.body).getD .skip)) (bodyPost prog f109 fun e w'=>
   e=.returned (.tuple #[])∧∃v,Cv H b S t w' f.1 v (es++f.2)∧Keep H b w0 w')
   ⟨(.pointer (some ⟨b,0,none⟩)::u1::u2::u3::u4::u5::u6::u7::u8::u9::u10::u11::u12::u13::u14::u15::u16::u17::u18::u19::u20::u21::u22::u23::u24::u25::u26::u27::u28::u29::u30::u31::u32::u33::u34::u35::u36::u37::u38::u39::u40::u41::u42::u43::u44::u45::u46::u47::u48::u49::u50::u51::u52::u53::u54::u55::u56::u57::u58::u59::u60::u61::u62::u63:: .bool false::u65::u66::u67::u68::u69::u70::u71::u72::u73::u74::u75::u76::u77::u78::u79::u80::u81::u82::u83::u84::u85::u86::u87::[]).toArray,[]⟩ w:=by
 conv=>arg 2;whnf
 have HC:=vl hC;have J:=vl hk;have HF:=vl hf;have y0:w.cell? ⟨b,0,none⟩=some (.pointer (some ⟨r.tp,0,none⟩)):=HC.out.run.get_tp;have y11:w.cell? ⟨b,11,none⟩=some (.int .i64 r.state):=HC.out.run.get_state;obtain⟨_,h10,b10,o10,cap10,hb10,rfl,hcap10,hml10,hL10⟩:=HC.out.tab.c10;have hst:=hok.state;have hx10:w.cell? ⟨b10,o10+r.state,none⟩=some (.bool (t.live r.state)):=hL10 _ hst;have i1:(r.state:Int)<(t.nst:Int):=by omega
 cases hl:t.live r.state
 ·rw[hl] at hx10
  go_wp2;go_quiet (fail);go_wp2_with fail;refine(qZ b H S t 3 _ r v0 _ _ (Cx.alike (w':=w.drewN nq) HC.out ⟨rfl,rfl,rfl⟩) hn).mono ?_;rintro e w2 ⟨rfl,ao,cap,c2,k2⟩;have C2:=vl c2;go_wp2;go_end0;refine⟨rfl,.slice ao (es.length+1) cap,?_,(J.out.trans (Keep.alike (w':=w.drewN nq) ⟨rfl,rfl,rfl⟩)).trans k2⟩;rw[HF.out,if_pos hl];unfold Cv;rw[xR,kX];exact C2.out
 ·rw[hl] at hx10
  go_wp2;go_quiet (fail);go_wp2;go_end0;refine⟨rfl,v0,?_,J.out.trans (Keep.alike (w':=w.drewN nq) ⟨rfl,rfl,rfl⟩)⟩;rw[HF.out,if_neg (by rw[hl];decide),List.append_nil];exact Cx.alike (w':=w.drewN nq) HC.out ⟨rfl,rfl,rfl⟩
theorem zLi (b H:Nat)(S:Nat->Prop)(t:Tb)(w0 w:World)(r:Rs){v0:Value}(es:List Ev)(hC:Cv H b S t w r v0 es)(hn:es.length<=4194304)(ok:t.Ok)(hact:∀i,i<t.nrule->t.act i<4)(hok:r.Ok t)(hk:Keep H b w0 w)(hE:¬t.ends r.state=-1)
  (f:Rs×List Ev) (hf:f=r.tok t (t.ends r.state).toNat r.hAt r.hLine r.hCol)
  {u1 u2 u4 u5 u6 u7 u8 u9 u10 u11 u12 u13 u14 u15 u16 u17 u18 u19 u20 u21 u22 u23 u24 u25 u26 u27 u28 u29 u30 u31 u32 u33 u34 u35 u36 u37 u38 u39 u40 u41 u42 u43 u44 u45 u46 u47 u48 u49 u50 u51 u52 u53 u54 u55 u56 u57 u58 u59 u60 u61 u62 u63 u65 u66 u67 u68 u69 u70 u71 u72 u73 u74 u75 u76 u77 u78 u79 u80 u81 u82 u83 u84 u85 u86 u87:Value}:
  Code.wp prog (yQ 6 ((f109.body).getD .skip)) (bodyPost prog f109 fun e w'=>
   e=.returned (.tuple #[])∧∃v,Cv H b S t w' f.1 v (es++f.2)∧Keep H b w0 w')
   ⟨(.pointer (some ⟨b,0,none⟩)::u1::u2:: .int .i64 (t.ends r.state)::u4::u5::u6::u7::u8::u9::u10::u11::u12::u13::u14::u15::u16::u17::u18::u19::u20::u21::u22::u23::u24::u25::u26::u27::u28::u29::u30::u31::u32::u33::u34::u35::u36::u37::u38::u39::u40::u41::u42::u43::u44::u45::u46::u47::u48::u49::u50::u51::u52::u53::u54::u55::u56::u57::u58::u59::u60::u61::u62::u63:: .bool true::u65::u66::u67::u68::u69::u70::u71::u72::u73::u74::u75::u76::u77::u78::u79::u80::u81::u82::u83::u84::u85::u86::u87::[]).toArray,[]⟩ w:=by
 conv=>arg 2;whnf
 obtain⟨e1,e2⟩:=ok.ends r.state hok.state;obtain⟨k,hk0⟩:=Int.eq_ofNat_of_zero_le (show 0<=t.ends r.state by omega);have hkr:k<t.nrule:=by omega
 rw[hk0] at hf ⊢;rw[Int.toNat_natCast] at hf;have HC:=vl hC;have J:=vl hk;have HF:=vl hf;have y78:=HC.out.run.get_hAt;have y79:=HC.out.run.get_hLine;have y80:=HC.out.run.get_hCol;go_wp2_with fail;refine(zD2 b H S t _ r es HC.out hn k r.hAt r.hLine r.hCol hkr (hact k hkr) ok hok).mono ?_;rintro e w2 ⟨rfl,v,c2,k2⟩;rw[<-HF.out] at c2;have C2:=vl c2;go_wp2;go_end0;exact⟨rfl,v,C2.out,J.out.trans k2⟩
theorem zKh (b H:Nat)(S:Nat->Prop)(t:Tb)(w0 w:World)(r:Rs){v0:Value}(es:List Ev)(hC:Cv H b S t w r v0 es)(hn:es.length<=4194304)(ok:t.Ok)(hact:∀i,i<t.nrule->t.act i<4)(hok:r.Ok t)(ha:r.ahead<t.rows)(hk:Keep H b w0 w)
  {u1 u2 u3 u4 u5 u6 u7 u8 u9 u10 u11 u12 u13 u14 u15 u16 u17 u18 u19 u20 u21 u22 u23 u24 u25 u26 u27 u28 u29 u30 u31 u32 u33 u34 u35 u36 u37 u38 u39 u40 u41 u42 u43 u44 u45 u46 u47 u48 u49 u50 u51 u52 u53 u54 u55 u56 u57 u58 u59 u60 u61 u62 u63 u64 u65 u66 u67 u68 u69 u70 u71 u72 u73 u74 u75 u76 u77 u78 u79 u80 u81 u82 u83 u84 u85 u86 u87:Value}:
  Code.wp prog (yQ 4 ((f109.body).getD .skip)) (bodyPost prog f109 fun e w'=>
   e=.returned (.tuple #[])∧∃v,Cv H b S t w' (r.fin t).1 v (es++(r.fin t).2)∧Keep H b w0 w')
   ⟨(.pointer (some ⟨b,0,none⟩)::u1::u2::u3::u4::u5::u6::u7::u8::u9::u10::u11::u12::u13::u14::u15::u16::u17::u18::u19::u20::u21::u22::u23::u24::u25::u26::u27::u28::u29::u30::u31::u32::u33::u34::u35::u36::u37::u38::u39::u40::u41::u42::u43::u44::u45::u46::u47::u48::u49::u50::u51::u52::u53::u54::u55::u56::u57::u58::u59::u60::u61::u62::u63::u64::u65::u66::u67::u68::u69::u70::u71::u72::u73::u74::u75::u76::u77::u78::u79::u80::u81::u82::u83::u84::u85::u86::u87::[]).toArray,[]⟩ w:=by
 conv=>arg 2;whnf
 have HC:=vl hC;have J:=vl hk;apply wp_cut;intro K H4;have y0:w.cell? ⟨b,0,none⟩=some (.pointer (some ⟨r.tp,0,none⟩)):=HC.out.run.get_tp;have y11:w.cell? ⟨b,11,none⟩=some (.int .i64 r.state):=HC.out.run.get_state;obtain⟨_,h9,b9,o9,cap9,hb9,rfl,hcap9,hml9,hL9⟩:=HC.out.tab.c9;have hst:=hok.state;have hx9:w.cell? ⟨b9,o9+r.state,none⟩=some (.int .i64 (t.ends r.state)):=hL9 _ hst;have i1:(r.state:Int)<(t.nst:Int):=by omega
 go_wp2;go_quiet (fail);go_wp2;apply H4.out;clear H4 hx9 h9 y0 y11;obtain⟨w1,hw1,c1,k1⟩:∃w1,w1=w.drewN nq∧Hid (Cv H b S t w1 r v0 es)∧Hid (Keep H b w0 w1):=⟨_,rfl,Cx.alike (w':=w.drewN nq) HC.out ⟨rfl,rfl,rfl⟩,J.out.trans (Keep.alike ⟨rfl,rfl,rfl⟩)⟩
 rw[<-hw1];clear hw1 HC J;apply wp_cut;intro K H5;have y0:w1.cell? ⟨b,0,none⟩=some (.pointer (some ⟨r.tp,0,none⟩)):=c1.out.run.get_tp;have y11:w1.cell? ⟨b,11,none⟩=some (.int .i64 r.state):=c1.out.run.get_state;have y81:w1.cell? ⟨b,81,none⟩=some (.int .i64 r.ahead):=c1.out.run.get_ahead;have tbn:Hid (∀n,TabAt (w1.drewN n) S r.tp t):=fun n=>(Cx.alike (w':=w1.drewN n) c1.out ⟨rfl,rfl,rfl⟩).tab;by_cases hE:t.ends r.state=-1
 ·have hB:(t.ends r.state != -1)=false:=by rw[hE];rfl
  have hf:Hid (r.fin t=if t.live r.state=false then({r with opn:=false},[r.lastEv 3]) else(r,[])):=by show r.fin t=_;unfold Rs.fin;rw[if_neg (fun h=>h.1 hE)]
  clear hE;go_wp2;go_quiet (fail);go_wp2;apply H5.out;clear H5;exact zF8 b H S t w0 _ r es (Cx.alike (w':=w1.drewN nq) c1.out ⟨rfl,rfl,rfl⟩) hn hok (k1.out.trans (Keep.alike (w':=w1.drewN nq) ⟨rfl,rfl,rfl⟩)) _ hf.out
 ·have hB:(t.ends r.state != -1)=true:=by rw[bne_iff_ne];exact hE
  cases hL:t.longer r.ahead r.state
  ·go_wp2
   go_quiet ((go_at_call 155;exact Calls.quiet_of_same (zEf r.tp _ S t (tbn.out _) ok r.ahead r.state ha hst)));go_wp2;apply H5.out;clear H5;exact zLi b H S t w0 _ r es (Cx.alike (w':=w1.drewN nq) c1.out ⟨rfl,rfl,rfl⟩) hn ok hact hok (k1.out.trans (Keep.alike (w':=w1.drewN nq) ⟨rfl,rfl,rfl⟩)) hE _ (by unfold Rs.fin;rw[if_pos ⟨hE,hL⟩])
  ·have hf:Hid (r.fin t=if t.live r.state=false then({r with opn:=false},[r.lastEv 3]) else(r,[])):=by show r.fin t=_;unfold Rs.fin;rw[if_neg (fun h=>by rw[hL] at h;exact absurd h.2 (by decide))]
   go_wp2;go_quiet ((go_at_call 155;exact Calls.quiet_of_same (zEf r.tp _ S t (tbn.out _) ok r.ahead r.state ha hst)));go_wp2;apply H5.out;clear H5;exact zF8 b H S t w0 _ r es (Cx.alike (w':=w1.drewN nq) c1.out ⟨rfl,rfl,rfl⟩) hn hok (k1.out.trans (Keep.alike (w':=w1.drewN nq) ⟨rfl,rfl,rfl⟩)) _ hf.out
def Rs.here1 (r:Rs)(c:Nat):Rs:={r with hAt:=r.hAt+1,hLine:=vI c r.hLine,hCol:=zAN c r.hCol}
def Rs.took (r:Rs)(t:Tb):Rs:=
 {(({r with first:=(r.first+1)%64,count:=r.count-1}:Rs).here1 (r.byte r.first)) with state:=t.next r.state (t.kind (r.byte r.first))}
def Rs.step (r:Rs)(t:Tb):Rs×List Ev:=(r.took t).fin t
theorem Rs.took_ok (r:Rs)(t:Tb)(ok:t.Ok)(h:r.Ok t):(r.took t).Ok t:=
 ⟨h.d1,h.d4,h.st,ok.next _ _ h.state (ok.kind _ (h.bytes _ h.first)),gW _ (by decide),lY (Nat.sub_le _ _) h.count,h.bytes⟩
theorem zHy (b H:Nat)(S:Nat->Prop)(t:Tb)(w:World)(r:Rs){v0:Value}(es:List Ev)(hC:Cv H b S t w r v0 es)(hn:es.length<=4194304)(ok:t.Ok)(hact:∀i,i<t.nrule->t.act i<4)(hok:r.Ok t)(hc:1<=r.count)(ha:r.ahead<t.rows)
  (p1:r.hAt<2147483648) (p2:r.hLine<2147483648) (p3:r.hCol<2147483648):
  Calls prog 109 #[.pointer (some ⟨b,0,none⟩)] w fun e w'=>
   e=.returned (.tuple #[])∧∃v,Cv H b S t w' (r.step t).1 v (es++(r.step t).2)∧Keep H b w w':=by
 have HC:=vl hC;go_in;apply wp_cut;intro K H0;go_wp2_with fail;refine(zIx b 0 _ r HC.out.run hok.first (by omega)).mono ?_;rintro e w1 ⟨rfl,ha1⟩;have c1:=vl <| HC.out.alike ha1;have k1:Hid (Keep H b w w1):=Keep.alike ha1;have hcb:=hok.bytes r.first hok.first
 rw[show (r.first+0)%64=r.first by have:=hok.first;omega];generalize hc0:r.byte r.first=c at *
 have Hc0:=vl hc0;go_wp2;apply H0.out;apply wp_cut;intro K H1;go_wp2_with fail;refine(zFw b 1 _ r c1.out.run hok.first hc hok.count).mono ?_;rintro e w2 ⟨rfl,hR2,hk2⟩;have c2:Hid (Cv H b S t w2 {r with first:=(r.first+1)%64,count:=r.count-1} v0 es):=c1.out.kept hk2 hR2 rfl;have k2:Hid (Keep H b w w2):=k1.out.trans (hk2 H);clear hk2 hR2 k1 c1;go_wp2_with fail;apply H1.out;clear H1;refine wp_seq_k ?_;intro K hK;have H2:Hid (∀a w,_->K a w):=hK;clear hK;have x78:=c2.out.run.get_hAt;have x79:=c2.out.run.get_hLine;have x80:=c2.out.run.get_hCol;go_wp2_with fail;refine(zDq r.hAt r.hLine r.hCol c _ p1 p2 p3 hcb).mono ?_;rintro e w3 ⟨rfl,hb3⟩;have c3:Hid (Cv H b S t w3 {r with first:=(r.first+1)%64,count:=r.count-1} v0 es):=c2.out.below hb3;have k3:Hid (Keep H b w w3):=k2.out.trans (Keep.below hb3 c2.out.HH);clear hb3 c2 k2 x78 x79 x80;have x78:=c3.out.run.get_hAt;have x79:=c3.out.run.get_hLine;have x80:=c3.out.run.get_hCol;have z78:=c3.out.run.frozen 78;have z79:=c3.out.run.frozen 79;have z80:=c3.out.run.frozen 80;go_wp2_with fail;apply H2.out;clear H2 x78 x79 x80 z78 z79 z80;obtain⟨w4,hw4,c4,k4⟩:∃w4,w4=((w3.setCell ⟨b,78,none⟩ (.int .i64 ((r.hAt:Int)+1))).setCell ⟨b,79,none⟩ (.int .i64 (vI c r.hLine:Nat))).setCell ⟨b,80,none⟩ (.int .i64 (zAN c r.hCol:Nat))∧
   Hid (Cv H b S t w4 (({r with first:=(r.first+1)%64,count:=r.count-1}:Rs).here1 c) v0 es)∧Hid (Keep H b w w4):=by
  have d1:=Cx.stored c3.out 78 _ (c3.out.run.set_hAt (r.hAt+1)) rfl;have d2:=d1.stored 79 _ (d1.run.set_hLine (vI c r.hLine)) rfl;have d3:=d2.stored 80 _ (d2.run.set_hCol (zAN c r.hCol)) rfl;exact⟨_,rfl,d3,((k3.out.trans (Keep.set _ _ _)).trans (Keep.set _ _ _)).trans (Keep.set _ _ _)⟩
 rw[<-hw4];clear hw4 c3 k3;refine wp_seq_k ?_;intro K hK;have H3:Hid (∀a w,_->K a w):=hK;clear hK;have y0:w4.cell? ⟨b,0,none⟩=some (.pointer (some ⟨r.tp,0,none⟩)):=c4.out.run.get_tp;have y11:w4.cell? ⟨b,11,none⟩=some (.int .i64 r.state):=c4.out.run.get_state;have z11:=c4.out.run.frozen 11;have tb4:Hid (TabAt w4.drew S r.tp t):=(Cx.alike (w':=w4.drew) c4.out ⟨rfl,rfl,rfl⟩).tab;go_wp2_with fail;go_region_with ((go_at_call 154;go_must ((refine (zEO r.tp _ S t tb4.out ok r.state c hok.state hcb).mono ?_;rintro e w5 ⟨rfl,ha5⟩;have q11:w5.cell? ⟨b,11,none⟩=some (.int .i64 r.state):=(ha5.cell ⟨b,11,none⟩).trans y11;have z5:w5.frozen? ⟨b,11,none⟩=false:=(ha5.frozen ⟨b,11,none⟩).trans z11))))
 all_goals
  have c5:Hid (Cv H b S t w5 (({r with first:=(r.first+1)%64,count:=r.count-1}:Rs).here1 c) v0 es):=Cx.alike c4.out ha5;have k5:Hid (Keep H b w w5):=k4.out.trans (Keep.alike ha5);have c6:Hid (Cv H b S t (w5.setCell ⟨b,11,none⟩ (.int .i64 (t.next r.state (t.kind c):Nat))) (r.took t) v0 es):=by
   have h:=Cx.stored c5.out 11 _ (c5.out.run.set_state (t.next r.state (t.kind c))) rfl;show Cv H b S t _ (r.took t) v0 es;unfold Rs.took;rw[Hc0.out];exact h
  clear c4 k4 tb4 ha5 c5;go_wp2_with fail;apply H3.out;exact zKh b H S t w _ (r.took t) es c6.out hn ok hact (r.took_ok t ok hok) ha (k5.out.trans (Keep.set _ _ _))
structure Rs.Same (s r:Rs):Prop where
 count:s.count=r.count
 first:s.first=r.first
 byte:s.byte=r.byte
 hAt:s.hAt=r.hAt
 hLine:s.hLine=r.hLine
 hCol:s.hCol=r.hCol
 ahead:s.ahead=r.ahead
 tp:s.tp=r.tp
theorem Rs.tok_same (r:Rs)(t:Tb)(rule a l c:Nat):(r.tok t rule a l c).1.Same r:=by
 unfold Rs.tok Rs.moved;split
 ·exact⟨rfl,rfl,rfl,rfl,rfl,rfl,rfl,rfl⟩
 ·split
  ·exact⟨rfl,rfl,rfl,rfl,rfl,rfl,rfl,rfl⟩
  ·split
   ·exact⟨rfl,rfl,rfl,rfl,rfl,rfl,rfl,rfl⟩
   ·split <;> exact⟨rfl,rfl,rfl,rfl,rfl,rfl,rfl,rfl⟩
theorem Rs.tok_one (r:Rs)(t:Tb)(rule a l c:Nat):(r.tok t rule a l c).2.length<=1:=by
 unfold Rs.tok;split
 ·exact lQ
 ·split
  ·exact lQ
  ·show(if t.act rule=1 then[] else[_]:List Ev).length<=1
   split <;> simp
theorem Rs.tok_ok (r:Rs)(t:Tb)(rule a l c:Nat)(ok:t.Ok)(h:r.Ok t)(hr:rule<t.nrule):(r.tok t rule a l c).1.Ok t:=by
 unfold Rs.tok;split
 ·exact⟨h.d1,h.d4,h.st,h.state,h.first,h.count,h.bytes⟩
 ·split
  ·exact⟨h.d1,h.d4,h.st,h.state,h.first,h.count,h.bytes⟩
  ·rename_i h2 h3
   have d1:=h.d1;have d4:=h.d4;have key:1<=(r.moved t rule).depth∧(r.moved t rule).depth<=4∧∀j,j<(r.moved t rule).depth->(r.moved t rule).stack j<t.nmode:=by
    unfold Rs.moved;split
    ·exact⟨by show 1<=r.depth-1;omega,by show r.depth-1<=4;omega,fun j hj=>h.st j (by have:j<r.depth-1:=hj;omega)⟩
    ·split
     ·refine⟨by show 1<=r.depth+1;omega,by show r.depth+1<=4;omega,fun j hj=>?_⟩
      have hj':j<r.depth+1:=hj;show(if j=r.depth then t.push rule else r.stack j)<t.nmode;split
      ·exact ok.push _ hr
      ·exact h.st j (by omega)
     ·exact⟨d1,d4,h.st⟩
   obtain⟨k1,k2,k3⟩:=key;have hs:=r.tok_same t rule a l c;unfold Rs.tok at hs;rw[if_neg h2,if_neg h3] at hs;exact⟨k1,k2,k3,ok.start _ (k3 _ (by omega)),by rw[hs.first];exact h.first,by rw[hs.count];exact h.count,by rw[hs.byte];exact h.bytes⟩
theorem Rs.fin_same (r:Rs)(t:Tb):(r.fin t).1.Same r:=by
 unfold Rs.fin;split
 ·exact r.tok_same t _ _ _ _
 ·split <;> exact⟨rfl,rfl,rfl,rfl,rfl,rfl,rfl,rfl⟩
theorem Rs.fin_one (r:Rs)(t:Tb):(r.fin t).2.length<=1:=by
 unfold Rs.fin;split
 ·exact r.tok_one t _ _ _ _
 ·split <;> simp
theorem Rs.fin_ok (r:Rs)(t:Tb)(ok:t.Ok)(h:r.Ok t):(r.fin t).1.Ok t:=by
 have he:=ok.ends r.state h.state;unfold Rs.fin;split
 ·rename_i hx
  exact r.tok_ok t _ _ _ _ ok h (by have:=hx.1;omega)
 ·split
  ·exact⟨h.d1,h.d4,h.st,h.state,h.first,h.count,h.bytes⟩
  ·exact h
theorem Cx.boxed {H b:Nat}{S:Nat->Prop}{t:Tb}{w:World}{r:Rs}{v0:Value}{n:Nat}{xs:List Value}(h:Cx H b S t w r v0 n xs)(g i:Nat)(x:Value)(hg:H<=g)(hne:v0.ownBlock≠some g):Cx H b S t (w.setCell ⟨g,i,none⟩ x) r v0 n xs:=by
 have hbH:=h.bH;refine⟨h.run.of_block (lJ _ _ _ _ (by show b≠g;omega)),⟨h.own.1,h.own.2.imp id ?_⟩,h.tab.keep fun k hk=>lJ _ _ _ _ (by have:=(h.safe k hk).1;show k≠g;omega),hbH,by simpa[World.setCell] using h.HH,h.safe⟩;rintro⟨g',cap,cur,hv,hb',hh,rest⟩;refine⟨g',cap,cur,hv,hb',(lJ _ _ _ _ ?_).trans hh,rest⟩;intro e;have e':=e;rw[hv,e'] at hne;exact hne rfl
theorem Keep.boxed {H b:Nat}(w:World)(g i:Nat)(x:Value)(hg:H<=g):Keep H b w (w.setCell ⟨g,i,none⟩ x):=
 ⟨rfl,rfl,by simp[World.setCell],fun k h1 _=>lJ _ _ _ _ (by show k≠g;omega)⟩
def Rs.cut (r:Rs):Rs:={r with first:=(r.first+r.length)%64,count:=r.count-r.length,taken:=0,length:=0}
theorem zKB (b H:Nat)(S:Nat->Prop)(t:Tb)(w0 w:World)(r:Rs){v0:Value}(es:List Ev)(hC:Cv H b S t w r v0 es)(hn:es.length<=4194304)(ok:t.Ok)(hact:∀i,i<t.nrule->t.act i<4)(hok:r.Ok t)(hl:r.length<=r.count)(k:Nat)(hrule:r.rule=k)(hkr:k<t.nrule)(hk:Keep H b w0 w)
  (g eA eL eC:Nat) (hg:H<=g) (hgb:w.heap[g]? =some (.cells #[.int .i64 eA,.int .i64 eL,.int .i64 eC] 97)) (f:Rs×List Ev) (hf:f=r.cut.tok t k eA eL eC)
  {u1 u3 u4 u5 u6 u7 u8 u9 u10 u11 u12 u13 u14 u15 u16 u17 u18 u19 u20 u21 u22 u23 u24 u25 u26 u27 u28 u29 u30 u31 u32 u33 u34 u35 u36 u37 u38 u39 u40 u41 u42 u43 u44 u45 u46 u47 u48 u49 u50:Value}:
  Code.wp prog (yQ 3 ((f119.body).getD .skip)) (bodyPost prog f119 fun e w'=>
   e=.returned (.tuple #[])∧∃v,Cv H b S t w' f.1 v (es++f.2)∧Keep H b w0 w')
   ⟨(.pointer (some ⟨b,0,none⟩)::u1:: .pointer (some ⟨g,0,none⟩)::u3::u4::u5::u6::u7::u8::u9::u10::u11::u12::u13::u14::u15::u16::u17::u18::u19::u20::u21::u22::u23::u24::u25::u26::u27::u28::u29::u30::u31::u32::u33::u34::u35::u36::u37::u38::u39::u40::u41::u42::u43::u44::u45::u46::u47::u48::u49::u50::[]).toArray,[]⟩ w:=by
 conv=>arg 2;whnf
 have HC:=vl hC;have J:=vl hk;have HF:=vl hf;have HG:=vl hgb;have HR:=vl hrule;have y83:=HC.out.run.get_length;have hgne:g≠b:=by have:=HC.out.bH;omega
 apply wp_cut;intro K H7;go_wp2;go_region_with ((go_at_call 152;go_must ((refine (zFw b r.length _ r (Cx.alike (w':=w.drew) HC.out ⟨rfl,rfl,rfl⟩).run hok.first hl hok.count).mono ?_;rintro e w1 ⟨rfl,hR1,hk1⟩))))
 all_goals
  have c1:=vl <| Cx.kept (Cx.alike (w':=w.drew) HC.out ⟨rfl,rfl,rfl⟩) hk1 hR1 rfl;have k1:=vl <| (J.out.trans (Keep.drew _)).trans (hk1 H);have g1:=vl <| ((hk1 (g+1)).block g (by omega) hgne).trans HG.out;go_wp2;apply H7.out;have y82:=c1.out.run.get_taken;have y83:=c1.out.run.get_length;have y84:w1.cell? ⟨b,84,none⟩=some (.int .i64 k):=by rw[<-HR.out];exact c1.out.run.get_rule
  have z82:=c1.out.run.frozen 82;have z83:=c1.out.run.frozen 83;have x0:w1.cell? ⟨g,0,none⟩=some (.int .i64 eA):=by simp[World.cell?,g1.out]
  have x1:w1.cell? ⟨g,1,none⟩=some (.int .i64 eL):=by simp[World.cell?,g1.out]
  have x2:w1.cell? ⟨g,2,none⟩=some (.int .i64 eC):=by simp[World.cell?,g1.out]
  go_wp2;obtain⟨w2,hw2,c2,k2,g2⟩:∃w2,w2=(w1.setCell ⟨b,82,none⟩ (.int .i64 0)).setCell ⟨b,83,none⟩ (.int .i64 0)∧Hid (Cv H b S t w2 r.cut v0 es)∧Hid (Keep H b w0 w2)∧Hid (w2.heap[g]? =some (.cells #[.int .i64 eA,.int .i64 eL,.int .i64 eC] 97)):=by
   have d1:=Cx.stored c1.out 82 _ (c1.out.run.set_taken 0) rfl;have d2:=d1.stored 83 _ (d1.run.set_length 0) rfl;exact⟨_,rfl,d2,(k1.out.trans (Keep.set _ _ _)).trans (Keep.set _ _ _),((lJ _ _ _ _ (by exact hgne)).trans (lJ _ _ _ _ (by exact hgne))).trans g1.out⟩
  rw[<-hw2];clear hw2 c1 k1 g1 y82 y83 y84 z82 z83 x0 x1 x2;have y84:w2.cell? ⟨b,84,none⟩=some (.int .i64 k):=by rw[<-HR.out];exact c2.out.run.get_rule
  have x0:w2.cell? ⟨g,0,none⟩=some (.int .i64 eA):=by simp[World.cell?,g2.out]
  have x1:w2.cell? ⟨g,1,none⟩=some (.int .i64 eL):=by simp[World.cell?,g2.out]
  have x2:w2.cell? ⟨g,2,none⟩=some (.int .i64 eC):=by simp[World.cell?,g2.out]
  have hok2:r.cut.Ok t:=⟨hok.d1,hok.d4,hok.st,hok.state,gW _ (by decide),lY (Nat.sub_le _ _) hok.count,hok.bytes⟩
  go_region_with ((go_at_call 156;go_must ((refine (zD2 b H S t _ r.cut es (Cx.alike (w':=w2.drew) c2.out ⟨rfl,rfl,rfl⟩) hn k eA eL eC hkr (hact k hkr) ok hok2).mono ?_;rintro e w3 ⟨rfl,v3,c3,k3⟩))))
  all_goals
   have C3:Hid (Cv H b S t w3 f.1 v3 (es++f.2)):=by show Cv H b S t w3 f.1 v3 (es++f.2);rw[HF.out];exact c3
   go_wp2;go_end0;exact⟨rfl,v3,C3.out,(k2.out.trans (Keep.drew _)).trans k3⟩
end Go.Proofs.YtbjcfkdnjaiclaaGreat
