import Derived.Test.YtbjcfkdnjaiclaaGreatB0
import Derived.Test.YtbjcfkdnjaiclaaGreatB36
/- Parts of the proof, in order. -/
set_option linter.unusedVariables false
set_option linter.unusedSimpArgs false
set_option maxHeartbeats 4000000
set_option maxRecDepth 100000
namespace Go.Proofs.YtbjcfkdnjaiclaaGreat
open Go.RowKit Go.Proofs.Tryz Go.World
theorem zLF (b i:Nat)(w:World)(r:Rs){v0:Value}(hR:zK w b r v0)(hf:r.first<64)(hi:i<64):
  Calls prog 151 #[.pointer (some ⟨b,12,none⟩),.int .i64 i] w fun e w'=>e=.returned (.int .u8 (r.byte ((r.first+i)%64)))∧∃m,w'=w.drewN m:=by
 have h1:=hR.get_first;have hx:=hR.get_byte ((r.first+i)%64) (Nat.mod_lt _ (by decide));clear hR;generalize r.first=f at *
 go_enter func151,ntmps151
 go_wp2;go_quiet (fail);go_wp2;go_ret;exact⟨rfl,_,rfl⟩
theorem zED (b H:Nat)(S:Nat->Prop)(t:Tb)(w:World)(r0:Rs){v0:Value}(es0:List Ev)(P C:Nat)(hC:Cv H b S t w r0 v0 es0)(ok:t.Ok)(hact:∀i,i<t.nrule->t.act i<4)(hO:r0.Oth t P)(hP:P<=1073741824)(hn:es0.length+r0.count+xB r0.opn<=C)(hC4:C<=4194304):
  Calls prog 111 #[.pointer (some ⟨b,0,none⟩)] w fun e w'=>
   e=.returned (.tuple #[])∧∃v n,Cv H b S t w' (r0.heldN t n).1 v (es0++(r0.heldN t n).2)∧Keep H b w w'∧(r0.heldN t n).1.Oth t P∧(es0++(r0.heldN t n).2).length+(r0.heldN t n).1.count+xB (r0.heldN t n).1.opn<=C∧¬((r0.heldN t n).1.taken<(r0.heldN t n).1.count∧(r0.heldN t n).1.opn=true):=by
 have HC0:Hid (Cv H b S t w r0 v0 es0∧r0.Oth t P∧es0.length+r0.count+xB r0.opn<=C):=⟨hC,hO,hn⟩
 clear hC hO hn;go_enter func111,ntmps111
 go_wp2_with fail;go_loopg [] r0.todo (fun q wr=>∃(n:Nat) (r:Rs) (es:List Ev) (v:Value),q=r.todo∧r0.heldN t n=(r,es)∧Cv H b S t wr r v (es0++es)∧Keep H b w wr∧r.Oth t P∧(es0++es).length+r.count+xB r.opn<=C)
 case atStart=>exact⟨0,r0,[],v0,rfl,rfl,by rw[List.append_nil];exact HC0.out.1,Keep.refl _ _ _,HC0.out.2.1,by rw[List.append_nil];exact HC0.out.2.2⟩
 case round=>
  obtain⟨n,r,es,v,hgk,hN,hC,hk,hO,hn⟩:=hrel;have AA:Hid (gk=r.todo∧r0.heldN t n=(r,es)∧Cv H b S t wr r v (es0++es)∧Keep H b w wr∧r.Oth t P∧(es0++es).length+r.count+xB r.opn<=C):=⟨hgk,hN,hC,hk,hO,hn⟩
  have y1:wr.cell? ⟨b,1,none⟩=some (.bool r.opn):=hC.run.get_opn;have y77:wr.cell? ⟨b,77,none⟩=some (.int .i64 r.count):=hC.run.get_count;have y82:wr.cell? ⟨b,82,none⟩=some (.int .i64 r.taken):=hC.run.get_taken;have hok:=hO.ok;have htk:=hO.tak;have hct:=hO.ok.count;clear hgk hN hC hk hO hn;by_cases hcond:r.taken<r.count∧r.opn=true
  ·obtain⟨hlt,hop⟩:=hcond
   have i1:(r.taken:Int)<(r.count:Int):=by omega
   rw[hop] at y1;have HOP:Hid (r.opn=true):=hop;clear hop;go_wp2_with fail;go_quiet (fail);obtain⟨w1,hw1,C1,K1⟩:∃w1,w1=wr.drewN nq∧Hid (Cv H b S t w1 r v (es0++es))∧Hid (Keep H b w w1):=⟨_,rfl,Cx.alike (w':=wr.drewN nq) AA.out.2.2.1 ⟨rfl,rfl,rfl⟩,AA.out.2.2.2.1.trans (Keep.alike ⟨rfl,rfl,rfl⟩)⟩
   rw[<-hw1];clear hw1 y1 y77 y82;have y82:w1.cell? ⟨b,82,none⟩=some (.int .i64 r.taken):=C1.out.run.get_taken;have HAT:Hid (∀q,Calls prog 151 #[.pointer (some ⟨b,12,none⟩),.int .i64 r.taken] (w1.drewN q) fun e w'=>e=.returned (.int .u8 (r.byte ((r.first+r.taken)%64)))∧∃m,w'=(w1.drewN q).drewN m):=fun q=>zLF b r.taken _ r (Cx.alike (w':=w1.drewN q) C1.out ⟨rfl,rfl,rfl⟩).run hok.first (by omega)
   have hcb:=hok.bytes ((r.first+r.taken)%64) (Nat.mod_lt _ (by decide));have HST:Hid (r.ate t={r with taken:=r.taken+1,state:=t.next r.state (t.kind (r.byte ((r.first+r.taken)%64)))}):=rfl;generalize r.byte ((r.first+r.taken)%64)=c at *;have hst:=hok.state;have HOT:Hid (r.Oth t P):=AA.out.2.2.2.2.1;go_wp2_with fail;go_quiet ((go_at_call 151;exact Calls.quiet_of (HAT.out _)));obtain⟨w2,hw2,C2,K2⟩:∃w2,w2=w1.drewN nq∧Hid (Cv H b S t w2 r v (es0++es))∧Hid (Keep H b w w2):=⟨_,rfl,Cx.alike (w':=w1.drewN nq) C1.out ⟨rfl,rfl,rfl⟩,K1.out.trans (Keep.alike ⟨rfl,rfl,rfl⟩)⟩
   rw[<-hw2];clear hw2 y82 C1 K1 HAT;have y82:w2.cell? ⟨b,82,none⟩=some (.int .i64 r.taken):=C2.out.run.get_taken;have z82:=C2.out.run.frozen 82;have y0:w2.cell? ⟨b,0,none⟩=some (.pointer (some ⟨r.tp,0,none⟩)):=C2.out.run.get_tp;have y11:w2.cell? ⟨b,11,none⟩=some (.int .i64 r.state):=C2.out.run.get_state;go_wp2_with fail;obtain⟨w3,hw3,C3,K3⟩:∃w3,w3=w2.setCell ⟨b,82,none⟩ (.int .i64 ((r.taken:Int)+1))∧Hid (Cv H b S t w3 {r with taken:=r.taken+1} v (es0++es))∧Hid (Keep H b w w3):=⟨_,rfl,Cx.stored C2.out 82 _ (C2.out.run.set_taken (r.taken+1)) rfl,K2.out.trans (Keep.set _ _ _)⟩
   rw[<-hw3];clear hw3 y82 z82 y0 y11 C2 K2;have y0:w3.cell? ⟨b,0,none⟩=some (.pointer (some ⟨r.tp,0,none⟩)):=C3.out.run.get_tp;have y11:w3.cell? ⟨b,11,none⟩=some (.int .i64 r.state):=C3.out.run.get_state;have z11:=C3.out.run.frozen 11;have tb3:Hid (TabAt w3.drew S r.tp t):=(Cx.alike (w':=w3.drew) C3.out ⟨rfl,rfl,rfl⟩).tab;have HRA:Hid ((r.ate t).Oth t P∧True):=⟨r.ate_oth t P ok HOT.out hlt,trivial⟩
   have HSTEP:Hid (r.heldStep t=if t.live ((r.ate t).marked t).state then((r.ate t).marked t,[]) else((r.ate t).marked t).long t):=rfl;have INV:Hid ((r.heldStep t).1.Oth t P∧(r.heldStep t).2.length+(r.heldStep t).1.count+xB (r.heldStep t).1.opn<=r.count+1∧((r.heldStep t).1.opn=true∨(r.heldStep t).2≠[])∧(r.heldStep t).1.todo<r.todo):=r.held_inv t P ok HOT.out HOP.out hlt;have HNX:Hid (r0.heldN t (n+1)=((r.heldStep t).1,es++(r.heldStep t).2)):=by show _=_;rw[Rs.heldN,AA.out.2.1,if_pos ⟨hlt,HOP.out⟩]
   generalize r.ate t=ra at *;go_wp2_with fail;go_region_with ((go_at_call 154;go_must ((refine (zEE r.tp _ S t tb3.out ok r.state c hst hcb).mono ?_;rintro e w5 ⟨rfl,ha5⟩;have q11:w5.cell? ⟨b,11,none⟩=some (.int .i64 r.state):=(ha5.cell ⟨b,11,none⟩).trans y11;have z5:w5.frozen? ⟨b,11,none⟩=false:=(ha5.frozen ⟨b,11,none⟩).trans z11))))
   all_goals
    have c5:Hid (Cv H b S t w5 {r with taken:=r.taken+1} v (es0++es)):=Cx.alike C3.out ha5;have k5:Hid (Keep H b w w5):=K3.out.trans (Keep.alike ha5);obtain⟨w6,hw6,C6,K6⟩:∃w6,w6=w5.setCell ⟨b,11,none⟩ (.int .i64 (t.next r.state (t.kind c):Nat))∧Hid (Cv H b S t w6 ra v (es0++es))∧Hid (Keep H b w w6):=⟨_,rfl,by rw[HST.out];exact Cx.stored c5.out 11 _ (c5.out.run.set_state (t.next r.state (t.kind c))) rfl,k5.out.trans (Keep.set _ _ _)⟩
    clear c5 k5 ha5;go_wp2_with fail;rw[<-hw6];clear hw6 q11 z5 y0 y11 z11;have y0:w6.cell? ⟨b,0,none⟩=some (.pointer (some ⟨ra.tp,0,none⟩)):=C6.out.run.get_tp;have y11:w6.cell? ⟨b,11,none⟩=some (.int .i64 ra.state):=C6.out.run.get_state;obtain⟨_,h9,b9,o9,cap9,hb9,rfl,hcap9,hml9,hL9⟩:=C6.out.tab.c9;have hsa:=HRA.out.1.ok.state;have hx9:w6.cell? ⟨b9,o9+ra.state,none⟩=some (.int .i64 (t.ends ra.state)):=hL9 _ hsa;have ia:(ra.state:Int)<(t.nst:Int):=by omega
    clear hL9;by_cases hen:t.ends ra.state=-1
    ·have ie:(t.ends ra.state != -1)=false:=by rw[hen];rfl
     have HMR:Hid (ra.marked t=ra):=by show _=_;unfold Rs.marked;rw[if_pos hen]
     clear hen;generalize t.ends ra.state=ee at *;go_wp2_with fail;go_quiet (fail);obtain⟨wm,hwm,CM,KM⟩:∃wm,wm=w6.drewN nq∧Hid (Cv H b S t wm (ra.marked t) v (es0++es))∧Hid (Keep H b w wm):=⟨_,rfl,by show Cv _ _ _ _ _ _ _ _;rw[HMR.out];exact Cx.alike (w':=w6.drewN nq) C6.out ⟨rfl,rfl,rfl⟩,K6.out.trans (Keep.alike ⟨rfl,rfl,rfl⟩)⟩
     rw[<-hwm];clear hwm y0 y11 h9 hx9 C6 K6;have HM:Hid ((ra.marked t).Oth t P∧True):=⟨ra.marked_oth t P ok HRA.out.1,trivial⟩
     generalize ra.marked t=rm at *;go_wp2_with fail;have y0:wm.cell? ⟨b,0,none⟩=some (.pointer (some ⟨rm.tp,0,none⟩)):=CM.out.run.get_tp;have y11:wm.cell? ⟨b,11,none⟩=some (.int .i64 rm.state):=CM.out.run.get_state;obtain⟨_,h10,b10,o10,cap10,hb10,rfl,hcap10,hml10,hL10⟩:=CM.out.tab.c10;have hsm:=HM.out.1.ok.state;have hx10:wm.cell? ⟨b10,o10+rm.state,none⟩=some (.bool (t.live rm.state)):=hL10 _ hsm;have im:(rm.state:Int)<(t.nst:Int):=by omega
     clear hL10;cases hlv:t.live rm.state with
     |true=>
      rw[hlv] at hx10;have HE:Hid (r.heldStep t=(rm,[])):=by show _=_;rw[HSTEP.out,if_pos hlv]
      clear hlv;go_wp2_with fail;go_quiet (fail);obtain⟨w9,hw9,C9,K9⟩:∃w9,w9=wm.drewN nq∧Hid (Cv H b S t w9 rm v (es0++es))∧Hid (Keep H b w w9):=⟨_,rfl,Cx.alike (w':=wm.drewN nq) CM.out ⟨rfl,rfl,rfl⟩,KM.out.trans (Keep.alike ⟨rfl,rfl,rfl⟩)⟩
      rw[<-hw9];clear hw9;go_wp2_with fail;have hI:=INV.out;rw[HE.out] at hI;have hB:=AA.out.2.2.2.2.2;rw[HOP.out] at hB;go_roundg rm.todo
      case measure=>rw[AA.out.1];exact hI.2.2.2
      case rel=>exact⟨n+1,rm,es,v,rfl,by rw[HNX.out,HE.out,List.append_nil],C9.out,K9.out,hI.1,by have h2:0+rm.count+xB rm.opn<=r.count+1:=hI.2.1;have h3:(es0++es).length+r.count+1<=C:=hB;omega⟩
     |false=>
      rw[hlv] at hx10;have HE:Hid (r.heldStep t=rm.long t):=by show _=_;rw[HSTEP.out,if_neg (by rw[hlv];decide)]
      clear hlv;go_wp2_with fail;go_quiet (fail);obtain⟨w9,hw9,C9,K9⟩:∃w9,w9=wm.drewN nq∧Hid (Cv H b S t w9 rm v (es0++es))∧Hid (Keep H b w w9):=⟨_,rfl,Cx.alike (w':=wm.drewN nq) CM.out ⟨rfl,rfl,rfl⟩,KM.out.trans (Keep.alike ⟨rfl,rfl,rfl⟩)⟩
      rw[<-hw9];clear hw9 y0 y11 h10 hx10;have hI:=INV.out;rw[HE.out] at hI;have hB:=AA.out.2.2.2.2.2;rw[HOP.out] at hB;have hB2:(es0++es).length+r.count+1<=C:=hB;have hpp:=HM.out.1.pos;have hll:=HM.out.1.line;have hcl:=HM.out.1.col;have HLG:Hid (Calls prog 119 #[.pointer (some ⟨b,0,none⟩)] w9 fun e w'=>e=.returned (.tuple #[])∧∃v,Cv H b S t w' (rm.long t).1 v ((es0++es)++(rm.long t).2)∧Keep H b w9 w'):=zAW b H S t w9 rm (es0++es) C9.out (by omega) ok hact HM.out.1.ok (Nat.le_trans HM.out.1.len HM.out.1.tak) HM.out.1.rule (by omega) (by omega) (by omega);have HI:Hid ((rm.long t).1.Oth t P∧(rm.long t).2.length+(rm.long t).1.count+xB (rm.long t).1.opn<=r.count+1∧((rm.long t).1.opn=true∨(rm.long t).2≠[])∧(rm.long t).1.todo<r.todo):=hI;clear hI hB hpp hll hcl;go_wp2_with fail;refine Calls.mono HLG.out ?_;rintro e w10 ⟨rfl,v10,c10,k10⟩;have CZ:Hid (Cv H b S t w10 (rm.long t).1 v10 (es0++(es++(rm.long t).2))∧Keep H b w w10):=⟨by rw[<-List.append_assoc];exact c10,K9.out.trans k10⟩
      clear c10 k10 HLG;go_wp2_with fail;go_roundg (rm.long t).1.todo
      case measure=>rw[AA.out.1];exact HI.out.2.2.2
      case rel=>exact⟨n+1,(rm.long t).1,es++(rm.long t).2,v10,rfl,by rw[HNX.out,HE.out],CZ.out.1,CZ.out.2,HI.out.1,by have h2:=HI.out.2.1;rw[List.length_append,List.length_append];rw[List.length_append] at hB2;omega⟩
    ·have ie:(t.ends ra.state != -1)=true:=by rw[bne_iff_ne];exact hen
     have HMR:Hid (ra.marked t={ra with rule:=t.ends ra.state,length:=ra.taken}):=by show _=_;unfold Rs.marked;rw[if_neg hen]
     clear hen;obtain⟨ee,hee⟩:∃ee,ee=t.ends ra.state:=⟨_,rfl⟩
     rw[<-hee] at hx9 ie HMR;clear hee;go_wp2_with fail;go_quiet (fail);obtain⟨w7,hw7,C7,K7⟩:∃w7,w7=w6.drewN nq∧Hid (Cv H b S t w7 ra v (es0++es))∧Hid (Keep H b w w7):=⟨_,rfl,Cx.alike (w':=w6.drewN nq) C6.out ⟨rfl,rfl,rfl⟩,K6.out.trans (Keep.alike ⟨rfl,rfl,rfl⟩)⟩
     have x9:w7.cell? ⟨b9,o9+ra.state,none⟩=some (.int .i64 ee):=by rw[hw7];exact hx9
     have x9':w7.cell? ⟨ra.tp,9,none⟩=some (.slice (some ⟨b9,o9,none⟩) t.nst cap9):=by rw[hw7];exact h9
     rw[<-hw7];clear hw7 y0 y11 h9 hx9 C6 K6;have y0:w7.cell? ⟨b,0,none⟩=some (.pointer (some ⟨ra.tp,0,none⟩)):=C7.out.run.get_tp;have y11:w7.cell? ⟨b,11,none⟩=some (.int .i64 ra.state):=C7.out.run.get_state;have y84:w7.cell? ⟨b,84,none⟩=some (.int .i64 ra.rule):=C7.out.run.get_rule;have z84:=C7.out.run.frozen 84;have y82:w7.cell? ⟨b,82,none⟩=some (.int .i64 ra.taken):=C7.out.run.get_taken;have y83:w7.cell? ⟨b,83,none⟩=some (.int .i64 ra.length):=C7.out.run.get_length;have z83:=C7.out.run.frozen 83;have nb9:b9≠b:=(C7.out.safe _ hb9).2;have ntp:ra.tp≠b:=(C7.out.safe _ C7.out.tab.safe).2;go_wp2_with fail;go_region
     all_goals
      go_wp2_with fail;obtain⟨wm,hwm,CM,KM⟩:∃wm,wm=((w7.setCell ⟨b,84,none⟩ (.int .i64 ee)).setCell ⟨b,83,none⟩ (.int .i64 (ra.taken:Nat))).drew∧Hid (Cv H b S t wm (ra.marked t) v (es0++es))∧Hid (Keep H b w wm):=by
       have d1:=Cx.stored C7.out 84 _ (C7.out.run.set_rule ee) rfl;have d2:=d1.stored 83 _ (d1.run.set_length ra.taken) rfl;exact⟨_,rfl,by show Cv _ _ _ _ _ _ _ _;rw[HMR.out];exact Cx.alike d2 ⟨rfl,rfl,rfl⟩,((K7.out.trans (Keep.set _ _ _)).trans (Keep.set _ _ _)).trans (Keep.drew _)⟩
      rw[<-hwm];clear hwm y0 y11 y84 z84 y82 y83 z83 x9 x9' C7 K7;have HM:Hid ((ra.marked t).Oth t P∧True):=⟨ra.marked_oth t P ok HRA.out.1,trivial⟩
      generalize ra.marked t=rm at *;have y0:wm.cell? ⟨b,0,none⟩=some (.pointer (some ⟨rm.tp,0,none⟩)):=CM.out.run.get_tp;have y11:wm.cell? ⟨b,11,none⟩=some (.int .i64 rm.state):=CM.out.run.get_state;obtain⟨_,h10,b10,o10,cap10,hb10,rfl,hcap10,hml10,hL10⟩:=CM.out.tab.c10;have hsm:=HM.out.1.ok.state;have hx10:wm.cell? ⟨b10,o10+rm.state,none⟩=some (.bool (t.live rm.state)):=hL10 _ hsm;have im:(rm.state:Int)<(t.nst:Int):=by omega
      clear hL10;cases hlv:t.live rm.state with
      |true=>
       rw[hlv] at hx10;have HE:Hid (r.heldStep t=(rm,[])):=by show _=_;rw[HSTEP.out,if_pos hlv]
       clear hlv;go_wp2_with fail;go_quiet (fail);obtain⟨w9,hw9,C9,K9⟩:∃w9,w9=wm.drewN nq∧Hid (Cv H b S t w9 rm v (es0++es))∧Hid (Keep H b w w9):=⟨_,rfl,Cx.alike (w':=wm.drewN nq) CM.out ⟨rfl,rfl,rfl⟩,KM.out.trans (Keep.alike ⟨rfl,rfl,rfl⟩)⟩
       rw[<-hw9];clear hw9;go_wp2_with fail;have hI:=INV.out;rw[HE.out] at hI;have hB:=AA.out.2.2.2.2.2;rw[HOP.out] at hB;go_roundg rm.todo
       case measure=>rw[AA.out.1];exact hI.2.2.2
       case rel=>exact⟨n+1,rm,es,v,rfl,by rw[HNX.out,HE.out,List.append_nil],C9.out,K9.out,hI.1,by have h2:0+rm.count+xB rm.opn<=r.count+1:=hI.2.1;have h3:(es0++es).length+r.count+1<=C:=hB;omega⟩
      |false=>
       rw[hlv] at hx10;have HE:Hid (r.heldStep t=rm.long t):=by show _=_;rw[HSTEP.out,if_neg (by rw[hlv];decide)]
       clear hlv;go_wp2_with fail;go_quiet (fail);obtain⟨w9,hw9,C9,K9⟩:∃w9,w9=wm.drewN nq∧Hid (Cv H b S t w9 rm v (es0++es))∧Hid (Keep H b w w9):=⟨_,rfl,Cx.alike (w':=wm.drewN nq) CM.out ⟨rfl,rfl,rfl⟩,KM.out.trans (Keep.alike ⟨rfl,rfl,rfl⟩)⟩
       rw[<-hw9];clear hw9 y0 y11 h10 hx10;have hI:=INV.out;rw[HE.out] at hI;have hB:=AA.out.2.2.2.2.2;rw[HOP.out] at hB;have hB2:(es0++es).length+r.count+1<=C:=hB;have hpp:=HM.out.1.pos;have hll:=HM.out.1.line;have hcl:=HM.out.1.col;have HLG:Hid (Calls prog 119 #[.pointer (some ⟨b,0,none⟩)] w9 fun e w'=>e=.returned (.tuple #[])∧∃v,Cv H b S t w' (rm.long t).1 v ((es0++es)++(rm.long t).2)∧Keep H b w9 w'):=zAW b H S t w9 rm (es0++es) C9.out (by omega) ok hact HM.out.1.ok (Nat.le_trans HM.out.1.len HM.out.1.tak) HM.out.1.rule (by omega) (by omega) (by omega);have HI:Hid ((rm.long t).1.Oth t P∧(rm.long t).2.length+(rm.long t).1.count+xB (rm.long t).1.opn<=r.count+1∧((rm.long t).1.opn=true∨(rm.long t).2≠[])∧(rm.long t).1.todo<r.todo):=hI;clear hI hB hpp hll hcl;go_wp2_with fail;refine Calls.mono HLG.out ?_;rintro e w10 ⟨rfl,v10,c10,k10⟩;have CZ:Hid (Cv H b S t w10 (rm.long t).1 v10 (es0++(es++(rm.long t).2))∧Keep H b w w10):=⟨by rw[<-List.append_assoc];exact c10,K9.out.trans k10⟩
       clear c10 k10 HLG;go_wp2_with fail;go_roundg (rm.long t).1.todo
       case measure=>rw[AA.out.1];exact HI.out.2.2.2
       case rel=>exact⟨n+1,(rm.long t).1,es++(rm.long t).2,v10,rfl,by rw[HNX.out,HE.out],CZ.out.1,CZ.out.2,HI.out.1,by have h2:=HI.out.2.1;rw[List.length_append,List.length_append];rw[List.length_append] at hB2;omega⟩
  ·have HE:Hid (¬(r.taken<r.count∧r.opn=true)):=hcond
   have fin_:Hid (∃v m,Cv H b S t wr (r0.heldN t m).1 v (es0++(r0.heldN t m).2)∧Keep H b w wr∧(r0.heldN t m).1.Oth t P∧(es0++(r0.heldN t m).2).length+(r0.heldN t m).1.count+xB (r0.heldN t m).1.opn<=C∧¬((r0.heldN t m).1.taken<(r0.heldN t m).1.count∧(r0.heldN t m).1.opn=true)):=by
    refine⟨v,n,?_⟩;rw[AA.out.2.1];exact⟨AA.out.2.2.1,AA.out.2.2.2.1,AA.out.2.2.2.2.1,AA.out.2.2.2.2.2,HE.out⟩
   by_cases hlt:r.taken<r.count
   ·have i1:(r.taken:Int)<(r.count:Int):=by omega
    have hop:r.opn=false:=by
     cases h:r.opn with
     |false=>rfl
     |true=>exact absurd ⟨hlt,h⟩ hcond
    rw[hop] at y1;clear hop hcond;go_wp2_with fail;go_quiet (fail);obtain⟨w1,hw1,FN⟩:∃w1,w1=wr.drewN nq∧Hid (∃v m,Cv H b S t w1 (r0.heldN t m).1 v (es0++(r0.heldN t m).2)∧Keep H b w w1∧(r0.heldN t m).1.Oth t P∧(es0++(r0.heldN t m).2).length+(r0.heldN t m).1.count+xB (r0.heldN t m).1.opn<=C∧¬((r0.heldN t m).1.taken<(r0.heldN t m).1.count∧(r0.heldN t m).1.opn=true)):=by
     obtain⟨v,m,f1,f2,f3⟩:=fin_.out;exact⟨_,rfl,v,m,Cx.alike (w':=wr.drewN nq) f1 ⟨rfl,rfl,rfl⟩,f2.trans (Keep.alike ⟨rfl,rfl,rfl⟩),f3⟩
    rw[<-hw1];clear hw1 fin_;go_wp2_with fail;go_end0;exact⟨rfl,FN.out⟩
   ·have i1:(r.count:Int)<=(r.taken:Int):=by omega
    clear hcond;go_wp2_with fail;go_quiet (fail);obtain⟨w1,hw1,FN⟩:∃w1,w1=wr.drewN nq∧Hid (∃v m,Cv H b S t w1 (r0.heldN t m).1 v (es0++(r0.heldN t m).2)∧Keep H b w w1∧(r0.heldN t m).1.Oth t P∧(es0++(r0.heldN t m).2).length+(r0.heldN t m).1.count+xB (r0.heldN t m).1.opn<=C∧¬((r0.heldN t m).1.taken<(r0.heldN t m).1.count∧(r0.heldN t m).1.opn=true)):=by
     obtain⟨v,m,f1,f2,f3⟩:=fin_.out;exact⟨_,rfl,v,m,Cx.alike (w':=wr.drewN nq) f1 ⟨rfl,rfl,rfl⟩,f2.trans (Keep.alike ⟨rfl,rfl,rfl⟩),f3⟩
    rw[<-hw1];clear hw1 fin_;go_wp2_with fail;go_end0;exact⟨rfl,FN.out⟩
def Rs.added (r:Rs)(c:Nat):Rs:={r with byte:=fun j=>if j=(r.first+r.count)%64 then c else r.byte j,count:=r.count+1}
def Rs.looked (r:Rs)(t:Tb)(d:Nat):Rs:={r with ahead:=t.further r.ahead d}
def Rs.due (r:Rs)(t:Tb):Rs×List Ev:=if t.ahead<r.count then r.step t else(r,[])
def Rs.take (r:Rs)(t:Tb)(c:Nat):Rs×List Ev:=((r.added c).looked t (t.kind c)).due t
theorem Rs.added_ok (r:Rs)(t:Tb)(c:Nat)(h:r.Ok t)(hc:c<256)(hn:r.count<64):(r.added c).Ok t:=
 ⟨h.d1,h.d4,h.st,h.state,h.first,hn,fun j hj=>by
  show(if j=(r.first+r.count)%64 then c else r.byte j)<256;split
  ·exact hc
  ·exact h.bytes j hj⟩
theorem zJY (b H:Nat)(S:Nat->Prop)(t:Tb)(w0 w:World)(r:Rs){v0:Value}(es:List Ev)(hC:Cv H b S t w r v0 es)(hn:es.length<=4194304)(ok:t.Ok)(hact:∀i,i<t.nrule->t.act i<4)(hok:r.Ok t)(ha:r.ahead<t.rows)(hc:1<=r.count)
  (p1:r.hAt<2147483648) (p2:r.hLine<2147483648) (p3:r.hCol<2147483648) (hk:Keep H b w0 w) (f:Rs×List Ev) (hf:f=r.due t)
  {u1 u2 u3 u4 u5 u6 u7 u8 u9 u10 u11 u12 u13 u14 u15 u16 u17 u18 u19 u20 u21 u22 u23 u24 u25 u26 u27 u28 u29 u30 u31 u32 u33 u34 u35 u36 u37 u38 u39 u40 u41 u42 u43 u44 u45:Value}:
  Code.wp prog (yQ 2 ((f73.body).getD .skip)) (bodyPost prog f73 fun e w'=>
   e=.returned (.tuple #[])∧∃v,Cv H b S t w' f.1 v (es++f.2)∧Keep H b w0 w')
   ⟨(.pointer (some ⟨b,0,none⟩)::u1::u2::u3::u4::u5::u6::u7::u8::u9::u10::u11::u12::u13::u14::u15::u16::u17::u18::u19::u20::u21::u22::u23::u24::u25::u26::u27::u28::u29::u30::u31::u32::u33::u34::u35::u36::u37::u38::u39::u40::u41::u42::u43::u44::u45::[]).toArray,[]⟩ w:=by
 conv=>arg 2;whnf
 have HC:Hid (Cv H b S t w r v0 es):=hC;have HK0:Hid (Keep H b w0 w):=hk;have HF:Hid (f=r.due t):=hf;have y0:w.cell? ⟨b,0,none⟩=some (.pointer (some ⟨r.tp,0,none⟩)):=HC.out.run.get_tp;have y77:w.cell? ⟨b,77,none⟩=some (.int .i64 r.count):=HC.out.run.get_count;have x1:w.cell? ⟨r.tp,1,none⟩=some (.int .i64 t.ahead):=HC.out.tab.c1;clear hC hk hf;by_cases hlt:t.ahead<r.count
 ·have hl1:(t.ahead:Int)<(r.count:Int):=by omega
  go_wp2_with fail;go_quiet (fail);go_wp2_with fail;refine(zHj b H S t _ r es (Cx.alike (w':=w.drewN nq) HC.out ⟨rfl,rfl,rfl⟩) hn ok hact hok hc ha p1 p2 p3).mono ?_;rintro e w2 ⟨rfl,v,c2,k2⟩;have C2:Hid (Cv H b S t w2 f.1 v (es++f.2)):=by
   show Cv H b S t w2 f.1 v (es++f.2);rw[HF.out,Rs.due,if_pos hlt];exact c2
  clear c2;go_wp2_with fail;go_end0;exact⟨rfl,v,C2.out,(HK0.out.trans (Keep.alike (w':=w.drewN nq) ⟨rfl,rfl,rfl⟩)).trans k2⟩
 ·have hl1:(r.count:Int)<=(t.ahead:Int):=by omega
  go_wp2_with fail;go_quiet (fail);go_wp2_with fail;go_end0;refine⟨rfl,v0,?_,HK0.out.trans (Keep.alike (w':=w.drewN nq) ⟨rfl,rfl,rfl⟩)⟩;rw[HF.out,Rs.due,if_neg hlt,List.append_nil];exact Cx.alike (w':=w.drewN nq) HC.out ⟨rfl,rfl,rfl⟩
theorem zIt (b H:Nat)(S:Nat->Prop)(t:Tb)(w:World)(r:Rs){v0:Value}(es:List Ev)(c:Nat)(hC:Cv H b S t w r v0 es)(hn:es.length<=4194304)(ok:t.Ok)(hact:∀i,i<t.nrule->t.act i<4)(hok:r.Ok t)(ha:r.ahead<t.rows)(hc:r.count<64)(hcb:c<256)
  (p1:r.hAt<2147483648) (p2:r.hLine<2147483648) (p3:r.hCol<2147483648):
  Calls prog 73 #[.pointer (some ⟨b,0,none⟩),.int .u8 c] w fun e w'=>
   e=.returned (.tuple #[])∧∃v,Cv H b S t w' (r.take t c).1 v (es++(r.take t c).2)∧Keep H b w w':=by
 have HC:Hid (Cv H b S t w r v0 es):=hC;clear hC;go_enter func73,ntmps73
 refine wp_seq_k ?_;intro K hK;have H0:Hid (∀a w,_->K a w):=hK;clear hK;go_wp2_with fail;refine(zGj b c _ r HC.out.run hok.first hc).mono ?_;rintro e w1 ⟨rfl,hR1,hk1⟩;have c1:Hid (Cv H b S t w1 (r.added c) v0 es):=Cx.kept HC.out hk1 hR1 rfl;have k1:Hid (Keep H b w w1):=hk1 H;clear hk1 hR1;go_wp2_with fail;refine H0.out _ _ ?_;clear H0;refine wp_seq_k ?_;intro K hK;have H1:Hid (∀a w,_->K a w):=hK;clear hK;have y0:w1.cell? ⟨b,0,none⟩=some (.pointer (some ⟨r.tp,0,none⟩)):=c1.out.run.get_tp;have y81:w1.cell? ⟨b,81,none⟩=some (.int .i64 r.ahead):=c1.out.run.get_ahead;have z81:=c1.out.run.frozen 81;have h6e:=c1.out.tab.c6;obtain⟨vv,h6,b6,o6,cap6,hb6,rfl,hcap6,hml6,hL6⟩:=h6e;have h6':w1.cell? ⟨r.tp,6,none⟩=some (.slice (some ⟨b6,o6,none⟩) 256 cap6):=h6;have hx6:w1.cell? ⟨b6,o6+c,none⟩=some (.int .i64 (t.kind c:Nat)):=hL6 _ hcb;have i1:(c:Int)<256:=by omega
 have hkd:=ok.kind c hcb;have hct:=ok.count;have hrw:=ok.rows;have tb4:Hid (TabAt w1.drew S r.tp t):=(Cx.alike (w':=w1.drew) c1.out ⟨rfl,rfl,rfl⟩).tab;clear hL6 h6;go_wp2_with fail;go_region_with ((go_at_call 108;go_must ((refine (zAX r.tp _ S t tb4.out ok r.ahead (t.kind c) (by omega) (by omega)).mono ?_;rintro e w5 ⟨rfl,ha5⟩;have q81:w5.cell? ⟨b,81,none⟩=some (.int .i64 r.ahead):=(ha5.cell ⟨b,81,none⟩).trans y81;have z5:w5.frozen? ⟨b,81,none⟩=false:=(ha5.frozen ⟨b,81,none⟩).trans z81))))
 all_goals
  have c5:Hid (Cv H b S t w5 (r.added c) v0 es):=Cx.alike c1.out ha5;have k5:Hid (Keep H b w w5):=k1.out.trans (Keep.alike ha5);have c6:Hid (Cv H b S t (w5.setCell ⟨b,81,none⟩ (.int .i64 (t.further r.ahead (t.kind c):Nat))) ((r.added c).looked t (t.kind c)) v0 es):=Cx.stored c5.out 81 _ (c5.out.run.set_ahead (t.further r.ahead (t.kind c))) rfl;clear c1 k1 tb4 ha5 c5;go_wp2_with fail;refine H1.out _ _ ?_;exact zJY b H S t w _ ((r.added c).looked t (t.kind c)) es c6.out hn ok hact (let h:=r.added_ok t c hok hcb hc;⟨h.d1,h.d4,h.st,h.state,h.first,h.count,h.bytes⟩) (Nat.mod_lt _ ok.rows0) (Nat.succ_le_succ (Nat.zero_le _)) p1 p2 p3 (k5.out.trans (Keep.set _ _ _)) _ rfl
theorem Rs.held_count (r:Rs)(t:Tb)(P:Nat)(ok:t.Ok)(h:r.Oth t P)(ho:r.opn=true)(hl:r.taken<r.count):(r.heldStep t).1.count<=r.count:=by
 obtain⟨_,h2,h3,_⟩:=r.held_inv t P ok h ho hl;rcases h3 with h3|h3
 ·rw[h3] at h2
  have:xB true=1:=rfl;omega
 ·have:=List.length_pos_iff.2 h3
  omega
theorem Rs.heldN_inv (r:Rs)(t:Tb)(P:Nat)(ok:t.Ok)(h:r.Oth t P)(n:Nat):
  (r.heldN t n).1.Oth t P∧(r.heldN t n).2.length+(r.heldN t n).1.count+xB (r.heldN t n).1.opn<=r.count+xB r.opn∧((r.heldN t n).1.opn=r.opn∨(r.heldN t n).2≠[])∧(r.heldN t n).1.count<=r.count∧(¬((r.heldN t n).1.taken<(r.heldN t n).1.count∧(r.heldN t n).1.opn=true)∨(r.heldN t n).1.todo+n<=r.todo)∧((r.heldN t n).1.opn=true->r.opn=true):=by
 induction n with
 |zero=>exact⟨h,by simp[Rs.heldN],.inl rfl,Nat.le_refl _,.inr (Nat.le_refl _),id⟩
 |succ n ih=>
  obtain⟨i1,i2,i3,i4,i5,i6⟩:=ih;rw[Rs.heldN];split
  ·rename_i hc
   obtain⟨a1,a2,a3,a4⟩:=(r.heldN t n).1.held_inv t P ok i1 hc.2 hc.1;have a5:=(r.heldN t n).1.held_count t P ok i1 hc.2 hc.1;have hro:=i6 hc.2;refine⟨a1,?_,?_,Nat.le_trans a5 i4,.inr ?_,fun _=>hro⟩
   ·show((r.heldN t n).2++((r.heldN t n).1.heldStep t).2).length+((r.heldN t n).1.heldStep t).1.count+xB ((r.heldN t n).1.heldStep t).1.opn<=_
    rw[hc.2] at i2;have:xB true=1:=rfl;rw[List.length_append];omega
   ·rcases a3 with a3|a3
    ·left
     show((r.heldN t n).1.heldStep t).1.opn=r.opn;rw[a3,hro]
    ·right
     show(r.heldN t n).2++((r.heldN t n).1.heldStep t).2≠[];intro e;exact a3 (List.append_eq_nil_iff.1 e).2
   ·show((r.heldN t n).1.heldStep t).1.todo+(n+1)<=r.todo
    rcases i5 with i5|i5
    ·exact absurd hc i5
    ·omega
  ·rename_i hc
   exact⟨i1,i2,i3,i4,.inl hc,i6⟩
theorem Rs.heldN_stop (r:Rs)(t:Tb)(n m:Nat)(h:¬((r.heldN t n).1.taken<(r.heldN t n).1.count∧(r.heldN t n).1.opn=true))(hm:n<=m):r.heldN t m=r.heldN t n:=by
 induction m with
 |zero=>rw[show n=0 by omega]
 |succ m ih=>
  by_cases e:n=m+1
  ·rw[e]
  ·rw[Rs.heldN,ih (by omega),if_neg h]
def Rs.heldAll (r:Rs)(t:Tb):Rs×List Ev:=r.heldN t (r.todo+1)
theorem Rs.heldAll_eq (r:Rs)(t:Tb)(P:Nat)(ok:t.Ok)(h:r.Oth t P)(n:Nat)(hs:¬((r.heldN t n).1.taken<(r.heldN t n).1.count∧(r.heldN t n).1.opn=true)):r.heldN t n=r.heldAll t:=by
 have h1:=(r.heldN_inv t P ok h (r.todo+1)).2.2.2.2.1;have h2:¬((r.heldAll t).1.taken<(r.heldAll t).1.count∧(r.heldAll t).1.opn=true):=by
  rcases h1 with h1|h1
  ·exact h1
  ·omega
 rcases Nat.le_total n (r.todo+1) with hl|hl
 ·exact(r.heldN_stop t n _ hs hl).symm
 ·exact r.heldN_stop t _ n h2 hl
theorem Rs.heldAll_inv (r:Rs)(t:Tb)(P:Nat)(ok:t.Ok)(h:r.Oth t P):
  (r.heldAll t).1.Oth t P∧(r.heldAll t).2.length+(r.heldAll t).1.count+xB (r.heldAll t).1.opn<=r.count+xB r.opn∧((r.heldAll t).1.opn=r.opn∨(r.heldAll t).2≠[])∧(r.heldAll t).1.count<=r.count∧((r.heldAll t).1.opn=true->r.opn=true):=by
 obtain⟨a1,a2,a3,a4,_,a6⟩:=r.heldN_inv t P ok h (r.todo+1);exact⟨a1,a2,a3,a4,a6⟩
def Rs.takeO (r:Rs)(t:Tb)(c:Nat):Rs×List Ev:=
 if t.hold<=r.count then({r with opn:=false},[r.lastEv 6]) else(r.added c).heldAll t
theorem Rs.added_oth (r:Rs)(t:Tb)(P c:Nat)(h:r.Oth t P)(hc:c<256)(hn:r.count<64):(r.added c).Oth t (P+1):=by
 have h1:=h.len;have h2:=h.tak;have h3:=h.pos;exact⟨r.added_ok t c h.ok hc hn,h1,Nat.le_succ_of_le h2,h.rule,by show r.bAt+(r.count+1)<=P+1;omega,h.line,h.col1,h.col⟩
theorem Rs.takeO_inv (r:Rs)(t:Tb)(P c:Nat)(ok:t.Ok)(h:r.Oth t P)(hc:c<256)(ho:r.opn=true):
  (r.takeO t c).1.Oth t (P+1)∧(r.takeO t c).2.length+(r.takeO t c).1.count+xB (r.takeO t c).1.opn<=r.count+2∧((r.takeO t c).1.opn=true∨(r.takeO t c).2≠[]):=by
 unfold Rs.takeO;split
 ·refine⟨⟨⟨h.ok.d1,h.ok.d4,h.ok.st,h.ok.state,h.ok.first,h.ok.count,h.ok.bytes⟩,h.len,h.tak,h.rule,Nat.le_succ_of_le h.pos,h.line,h.col1,h.col⟩,?_,.inr (by simp)⟩
  show 1+r.count+0<=r.count+2;omega
 ·rename_i hh
  have hlt:r.count<64:=by have:=ok.hold;omega
  obtain⟨a1,a2,a3,a4,a5⟩:=(r.added c).heldAll_inv t (P+1) ok (r.added_oth t P c h hc hlt);have e1:(r.added c).count=r.count+1:=rfl;have e2:(r.added c).opn=true:=ho;rw[e1,e2] at a2;rw[e2] at a3;have:xB true=1:=rfl;exact⟨a1,by omega,a3⟩
def Rs.endO (r:Rs)(t:Tb):Rs×List Ev:=(((r.long t).1.heldAll t).1,(r.long t).2++((r.long t).1.heldAll t).2)
def Rs.endN (r:Rs)(t:Tb):Nat->Rs×List Ev
 |0=>(r,[])
 |n+1=>if 0<(r.endN t n).1.count∧(r.endN t n).1.opn=true then(((r.endN t n).1.endO t).1,(r.endN t n).2++((r.endN t n).1.endO t).2) else r.endN t n
theorem Rs.endO_inv (r:Rs)(t:Tb)(P:Nat)(ok:t.Ok)(h:r.Oth t P)(ho:r.opn=true)(hc:0<r.count):
  (r.endO t).1.Oth t P∧(r.endO t).2.length+(r.endO t).1.count+xB (r.endO t).1.opn<=r.count+1∧((r.endO t).1.opn=true∨(r.endO t).2≠[])∧(r.endO t).1.count+xB (r.endO t).1.opn<r.count+1:=by
 obtain⟨a1,a2,a3,a4⟩:=r.long_inv t P ok h ho hc;obtain⟨b1,b2,b3,b4,b5⟩:=(r.long t).1.heldAll_inv t P ok a1;unfold Rs.endO;have o1:xB true=1:=rfl;have o0:xB false=0:=rfl;refine⟨b1,?_,?_,?_⟩
 ·show((r.long t).2++((r.long t).1.heldAll t).2).length+((r.long t).1.heldAll t).1.count+xB ((r.long t).1.heldAll t).1.opn<=_
  rw[List.length_append];omega
 ·by_cases e:((r.long t).1.heldAll t).1.opn=true
  ·exact .inl e
  ·right
   show(r.long t).2++((r.long t).1.heldAll t).2≠[];intro e2;obtain⟨e3,e4⟩:=List.append_eq_nil_iff.1 e2;have h1:=a3.resolve_right (fun h=>h e3);have h2:=b3.resolve_right (fun h=>h e4);exact e (by rw[h2,h1])
 ·show((r.long t).1.heldAll t).1.count+xB ((r.long t).1.heldAll t).1.opn<r.count+1
  rcases a4 with a4|⟨a4,a5,_⟩
  ·have:xB ((r.long t).1.heldAll t).1.opn<=1:=by unfold xB;split <;> omega
   omega
  ·have e:((r.long t).1.heldAll t).1.opn=false:=by
    cases h:((r.long t).1.heldAll t).1.opn with
    |false=>rfl
    |true=>rw[b5 h] at a4;cases a4
   rw[e];omega
theorem Rs.endN_inv (r:Rs)(t:Tb)(P:Nat)(ok:t.Ok)(h:r.Oth t P)(n:Nat):
  (r.endN t n).1.Oth t P∧(r.endN t n).2.length+(r.endN t n).1.count+xB (r.endN t n).1.opn<=r.count+xB r.opn∧((r.endN t n).1.opn=r.opn∨(r.endN t n).2≠[])∧(¬(0<(r.endN t n).1.count∧(r.endN t n).1.opn=true)∨(r.endN t n).1.count+xB (r.endN t n).1.opn+n<=r.count+xB r.opn)∧((r.endN t n).1.opn=true->r.opn=true):=by
 induction n with
 |zero=>exact⟨h,by simp[Rs.endN],.inl rfl,.inr (Nat.le_refl _),id⟩
 |succ n ih=>
  obtain⟨i1,i2,i3,i4,i6⟩:=ih;rw[Rs.endN];split
  ·rename_i hc
   obtain⟨a1,a2,a3,a4⟩:=(r.endN t n).1.endO_inv t P ok i1 hc.2 hc.1;have hro:=i6 hc.2;have o1:xB true=1:=rfl;refine⟨a1,?_,?_,.inr ?_,fun _=>hro⟩
   ·show((r.endN t n).2++((r.endN t n).1.endO t).2).length+((r.endN t n).1.endO t).1.count+xB ((r.endN t n).1.endO t).1.opn<=_
    rw[hc.2] at i2;rw[List.length_append];omega
   ·rcases a3 with a3|a3
    ·left
     show((r.endN t n).1.endO t).1.opn=r.opn;rw[a3,hro]
    ·right
     show(r.endN t n).2++((r.endN t n).1.endO t).2≠[];intro e;exact a3 (List.append_eq_nil_iff.1 e).2
   ·show((r.endN t n).1.endO t).1.count+xB ((r.endN t n).1.endO t).1.opn+(n+1)<=_
    rcases i4 with i4|i4
    ·exact absurd hc i4
    ·rw[hc.2] at i4
     omega
  ·rename_i hc
   exact⟨i1,i2,i3,.inl hc,i6⟩
theorem Rs.endN_stop (r:Rs)(t:Tb)(n m:Nat)(h:¬(0<(r.endN t n).1.count∧(r.endN t n).1.opn=true))(hm:n<=m):r.endN t m=r.endN t n:=by
 induction m with
 |zero=>rw[show n=0 by omega]
 |succ m ih=>
  by_cases e:n=m+1
  ·rw[e]
  ·rw[Rs.endN,ih (by omega),if_neg h]
def Rs.endAll (r:Rs)(t:Tb):Rs×List Ev:=r.endN t (r.count+2)
theorem Rs.endAll_eq (r:Rs)(t:Tb)(P:Nat)(ok:t.Ok)(h:r.Oth t P)(n:Nat)(hs:¬(0<(r.endN t n).1.count∧(r.endN t n).1.opn=true)):r.endN t n=r.endAll t:=by
 have h1:=(r.endN_inv t P ok h (r.count+2)).2.2.2.1;have h2:¬(0<(r.endAll t).1.count∧(r.endAll t).1.opn=true):=by
  rcases h1 with h1|h1
  ·exact h1
  ·have:xB r.opn<=1:=by unfold xB;split <;> omega
   omega
 rcases Nat.le_total n (r.count+2) with hl|hl
 ·exact(r.endN_stop t n _ hs hl).symm
 ·exact r.endN_stop t _ n h2 hl
def Rs.closeO (r:Rs)(t:Tb):Rs×List Ev:=if(r.endAll t).1.opn then({(r.endAll t).1 with opn:=false},(r.endAll t).2++[(r.endAll t).1.lastEv 2]) else r.endAll t
theorem zFc (b H:Nat)(S:Nat->Prop)(t:Tb)(w:World)(r:Rs){v0:Value}(es:List Ev)(P C:Nat)(hC:Cv H b S t w r v0 es)(ok:t.Ok)(hact:∀i,i<t.nrule->t.act i<4)(hO:r.Oth t P)(hP:P<=1073741824)(hn:es.length+r.count+xB r.opn<=C)(hC4:C<=4194304):
  Calls prog 111 #[.pointer (some ⟨b,0,none⟩)] w fun e w'=>
   e=.returned (.tuple #[])∧∃v,Cv H b S t w' (r.heldAll t).1 v (es++(r.heldAll t).2)∧Keep H b w w':=
 (zED b H S t w r es P C hC ok hact hO hP hn hC4).mono fun e w' ⟨he,v,n,h1,h2,_,_,h5⟩=>by
  rw[r.heldAll_eq t P ok hO n h5] at h1;exact⟨he,v,h1,h2⟩
theorem zHi (b H:Nat)(S:Nat->Prop)(t:Tb)(w:World)(r:Rs){v0:Value}(es:List Ev)(P C c:Nat)(hC:Cv H b S t w r v0 es)(ok:t.Ok)(hact:∀i,i<t.nrule->t.act i<4)(hO:r.Oth t P)(hP:P<1073741824)(hn:es.length+r.count+xB r.opn<=C)(hC4:C<4194304)(hcb:c<256):
  Calls prog 74 #[.pointer (some ⟨b,0,none⟩),.int .u8 c] w fun e w'=>
   e=.returned (.tuple #[])∧∃v,Cv H b S t w' (r.takeO t c).1 v (es++(r.takeO t c).2)∧Keep H b w w':=by
 have HC:=vl hC;have y0:=hC.run.get_tp;have y77:=hC.run.get_count;have x2:=hC.tab.c2;have hh:=ok.hold;by_cases hf:t.hold<=r.count
 ·have i1:(t.hold:Int)<=(r.count:Int):=by omega
  have HF:Hid (r.takeO t c=({r with opn:=false},[r.lastEv 6])):=if_pos hf;go_in;go_wp2;go_quiet (fail);go_wp2_with fail;refine(qY b H S t 6 _ r v0 _ _ (Cx.alike (w':=w.drewN nq) HC.out ⟨rfl,rfl,rfl⟩) (by omega)).mono ?_;rintro e w2 ⟨rfl,ao,cap,c2,k2⟩;have C2:=vl c2;go_wp2;refine bodyPost_ret (results_none rfl _ _ _) rfl ?_;refine⟨rfl,.slice ao (es.length+1) cap,?_,Keep.trans (w:=w) (w':=w.drewN nq) (Keep.alike ⟨rfl,rfl,rfl⟩) k2⟩;rw[HF.out];unfold Cv;rw[xQ,List.length_append];exact C2.out
 ·have i1:(r.count:Int)<(t.hold:Int):=by omega
  have hlt:r.count<64:=by omega
  have HF:Hid (r.takeO t c=(r.added c).heldAll t):=if_neg hf;have HO2:Hid ((r.added c).Oth t (P+1)):=r.added_oth t P c hO hcb hlt;have hfst:=hO.ok.first
  clear hf;go_enter func74,ntmps74
  go_wp2_with fail;go_quiet (fail);obtain⟨w1,hw1,C1,K1⟩:∃w1,w1=w.drewN nq∧Hid (Cv H b S t w1 r v0 es)∧Hid (Keep H b w w1):=⟨_,rfl,Cx.alike (w':=w.drewN nq) HC.out ⟨rfl,rfl,rfl⟩,Keep.alike ⟨rfl,rfl,rfl⟩⟩
  rw[<-hw1];clear hw1 y0 y77 x2;go_wp2_with fail;refine(zGj b c _ r C1.out.run hfst hlt).mono ?_;rintro e w2 ⟨rfl,hR2,hk2⟩;have C2:Hid (Cv H b S t w2 (r.added c) v0 es):=Cx.kept C1.out hk2 hR2 rfl;have K2:Hid (Keep H b w w2):=K1.out.trans (hk2 H);clear hk2 hR2 C1 K1;go_wp2_with fail;refine(zFc b H S t w2 (r.added c) es (P+1) (C+1) C2.out ok hact HO2.out (by omega) (by show es.length+(r.count+1)+xB r.opn<=C+1;omega) (by omega)).mono ?_;rintro e w3 ⟨rfl,v3,c3,k3⟩;have C3:Hid (Cv H b S t w3 (r.takeO t c).1 v3 (es++(r.takeO t c).2)∧Keep H b w w3):=⟨by rw[HF.out];exact c3,K2.out.trans k3⟩
  clear c3 k3;go_wp2_with fail;go_end0;exact⟨rfl,v3,C3.out.1,C3.out.2⟩
theorem zGZ (b H:Nat)(S:Nat->Prop)(t:Tb)(w:World)(r0:Rs){v0:Value}(es0:List Ev)(P C:Nat)(hC:Cv H b S t w r0 v0 es0)(ok:t.Ok)(hact:∀i,i<t.nrule->t.act i<4)(hO:r0.Oth t P)(hP:P<=1073741824)(hn:es0.length+r0.count+xB r0.opn<=C)(hC4:C<=4194304):
  Calls prog 85 #[.pointer (some ⟨b,0,none⟩)] w fun e w'=>
   e=.returned (.tuple #[])∧∃v,Cv H b S t w' (r0.closeO t).1 v (es0++(r0.closeO t).2)∧Keep H b w w':=by
 have HC0:Hid (Cv H b S t w r0 v0 es0∧r0.Oth t P∧es0.length+r0.count+xB r0.opn<=C):=⟨hC,hO,hn⟩
 go_in;refine wp_cut ?_;intro K HK;go_wp2;go_loopg [] (r0.count+xB r0.opn) (fun q wr=>∃(n:Nat) (r:Rs) (es:List Ev) (v:Value),q=r.count+xB r.opn∧r0.endN t n=(r,es)∧Cv H b S t wr r v (es0++es)∧Keep H b w wr∧r.Oth t P∧(es0++es).length+r.count+xB r.opn<=C)
 case atStart=>exact⟨0,r0,[],v0,rfl,rfl,by rw[List.append_nil];exact HC0.out.1,Keep.refl _ _ _,HC0.out.2.1,by rw[List.append_nil];exact HC0.out.2.2⟩
 case round=>
  obtain⟨n,r,es,v,hgk,hN,hC,hk,hO,hn⟩:=hrel;have AA:Hid (gk=r.count+xB r.opn∧r0.endN t n=(r,es)∧Cv H b S t wr r v (es0++es)∧Keep H b w wr∧r.Oth t P∧(es0++es).length+r.count+xB r.opn<=C):=⟨hgk,hN,hC,hk,hO,hn⟩
  have y1:=hC.run.get_opn;have y77:=hC.run.get_count;have hct:=hO.ok.count;have htk:=hO.tak;have hpp:=hO.pos;have hll:=hO.line;have hcl:=hO.col;by_cases hcond:0<r.count∧r.opn=true
  ·obtain⟨hlt,hop⟩:=hcond
   have i1:(0:Int)<(r.count:Int):=by omega
   rw[hop] at y1;have HOP:=vl hop;have INV:=r.endO_inv t P ok AA.out.2.2.2.2.1 hop hlt;have hB:=AA.out.2.2.2.2.2;rw[hop] at hB;have hB2:(es0++es).length+r.count+1<=C:=hB;obtain⟨l1,l2,l3,l4⟩:=r.long_inv t P ok AA.out.2.2.2.2.1 hop hlt;have HNX:Hid (r0.endN t (n+1)=((r.endO t).1,es++(r.endO t).2)):=by show _=_;rw[Rs.endN,AA.out.2.1,if_pos ⟨hlt,hop⟩]
   have HI:=vl INV;have HLG:=vl <| zAW b H S t wr r (es0++es) AA.out.2.2.1 (by omega) ok hact AA.out.2.2.2.2.1.ok (Nat.le_trans AA.out.2.2.2.2.1.len htk) AA.out.2.2.2.2.1.rule (by omega) (by omega) (by omega);have HL:Hid ((r.long t).1.Oth t P∧((es0++es)++(r.long t).2).length+(r.long t).1.count+xB (r.long t).1.opn<=C):=⟨l1,by rw[List.length_append];omega⟩
   go_wp2_with fail;refine Calls.mono HLG.out ?_;rintro e w1 ⟨rfl,v1,c1,k1⟩;have C1:=vl c1;go_wp2_with fail;refine(zFc b H S t w1 (r.long t).1 ((es0++es)++(r.long t).2) P C C1.out ok hact HL.out.1 hP HL.out.2 hC4).mono ?_;rintro e w2 ⟨rfl,v2,c2,k2⟩;have CZ:Hid (Cv H b S t w2 (r.endO t).1 v2 (es0++(es++(r.endO t).2))∧Keep H b w w2):=by
    refine⟨?_,(AA.out.2.2.2.1.trans k1).trans k2⟩;rw[List.append_assoc,List.append_assoc] at c2;exact c2
   clear c2 k2 k1;go_wp2_with fail;go_roundg ((r.endO t).1.count+xB (r.endO t).1.opn)
   case measure=>rw[AA.out.1,HOP.out];exact HI.out.2.2.2
   case rel=>exact⟨n+1,(r.endO t).1,es++(r.endO t).2,v2,rfl,HNX.out,CZ.out.1,CZ.out.2,HI.out.1,by have h2:=HI.out.2.1;rw[List.length_append,List.length_append];rw[List.length_append] at hB2;omega⟩
  ·have HE:Hid (r0.endAll t=(r,es)):=by
    show _=_;rw[<-r0.endAll_eq t P ok HC0.out.2.1 n (by rw[AA.out.2.1];exact hcond),AA.out.2.1]
   by_cases hop:r.opn=true
   ·have hc0:¬0<r.count:=fun h=>hcond ⟨h,hop⟩
    have i1:(r.count:Int)<=0:=by omega
    rw[hop] at y1;have HF:Hid (r0.closeO t=({r with opn:=false},es++[r.lastEv 2])):=by
     show _=_;unfold Rs.closeO;rw[HE.out,if_pos hop]
    clear hcond;go_wp2_with fail;refine HK.out _ _ ?_;clear HK;go_wp2_with fail;refine(qY b H S t 2 _ r v _ _ AA.out.2.2.1 (by have:=AA.out.2.2.2.2.2;omega)).mono ?_;rintro e w2 ⟨rfl,ao,cap,c2,k2⟩;have C2:Hid (Cx _ _ _ _ _ _ _ _ _):=c2;clear c2;go_wp2_with fail;go_end0;refine⟨rfl,.slice ao ((es0++es).length+1) cap,?_,AA.out.2.2.2.1.trans k2⟩;rw[HF.out];show Cv H b S t w2 _ _ (es0++(es++[r.lastEv 2]));unfold Cv;rw[<-List.append_assoc,xQ,List.length_append (bs:=[r.lastEv 2])];exact C2.out
   ·have hop':r.opn=false:=by simpa using hop
    rw[hop'] at y1;have HF:Hid (r0.closeO t=(r,es)):=by
     show _=_;unfold Rs.closeO;rw[HE.out,if_neg hop]
    clear hcond hop hop';by_cases hc0:0<r.count
    ·have i1:(0:Int)<(r.count:Int):=by omega
     go_wp2_with fail;refine HK.out _ _ ?_;clear HK;go_wp2_with fail;go_end0;exact⟨rfl,v,by rw[HF.out];exact AA.out.2.2.1,AA.out.2.2.2.1⟩
    ·have i1:(r.count:Int)<=0:=by omega
     go_wp2_with fail;refine HK.out _ _ ?_;clear HK;go_wp2_with fail;go_end0;exact⟨rfl,v,by rw[HF.out];exact AA.out.2.2.1,AA.out.2.2.2.1⟩
def Rs.look (r:Rs)(t:Tb):Rs:={r with ahead:=t.further r.ahead t.count}
def Rs.ended (r:Rs):Rs×List Ev:=if r.opn=false then(r,[]) else({r with opn:=false},[r.lastEv (if r.hAt=r.bAt then 2 else 3)])
theorem zFj (b H:Nat)(S:Nat->Prop)(t:Tb)(w0 w:World)(r:Rs){v0:Value}(es:List Ev)(hC:Cv H b S t w r v0 es)(hn:es.length<=4194304)(hk:Keep H b w0 w)(f:Rs×List Ev)(hf:f=r.ended)
  {u1 u2 u3 u4 u5 u6 u7 u8 u9 u10 u11 u12 u13 u14 u15 u16 u17 u18 u19 u20 u21 u22 u23 u24 u25 u26 u27 u28 u29 u30 u31 u32 u33 u34 u35 u36 u37 u38 u39 u40 u41 u42 u43 u44 u45 u46 u47 u48 u49 u50 u51 u52 u53 u54 u55 u56 u57 u58 u59 u60 u61 u62 u63 u64 u65 u66 u67 u68 u69 u70 u71 u72 u73 u74 u75 u76 u77 u78 u79 u80 u81 u82 u83 u84:Value}:
  Code.wp prog (yQ 3 ((f84.body).getD .skip)) (bodyPost prog f84 fun e w'=>
   e=.returned (.tuple #[])∧∃v,Cv H b S t w' f.1 v (es++f.2)∧Keep H b w0 w')
   ⟨(.pointer (some ⟨b,0,none⟩)::u1::u2::u3::u4::u5::u6::u7::u8::u9::u10::u11::u12::u13::u14::u15::u16::u17::u18::u19::u20::u21::u22::u23::u24::u25::u26::u27::u28::u29::u30::u31::u32::u33::u34::u35::u36::u37::u38::u39::u40::u41::u42::u43::u44::u45::u46::u47::u48::u49::u50::u51::u52::u53::u54::u55::u56::u57::u58::u59::u60::u61::u62::u63::u64::u65::u66::u67::u68::u69::u70::u71::u72::u73::u74::u75::u76::u77::u78::u79::u80::u81::u82::u83::u84::[]).toArray,[]⟩ w:=by
 conv=>arg 2;whnf
 have HC:=vl hC;have HK0:=vl hk;have HF:=vl hf;have y1:=HC.out.run.get_opn;have y8:=HC.out.run.get_bAt;have y78:=HC.out.run.get_hAt;cases ho:r.opn
 ·rw[ho] at y1
  go_wp2;refine bodyPost_ret (results_none rfl _ _ _) rfl ?_;refine⟨rfl,v0,?_,HK0.out⟩;rw[HF.out,Rs.ended,if_pos ho,List.append_nil];exact HC.out
 ·rw[ho] at y1
  by_cases he:r.hAt=r.bAt
  ·have hb:((r.hAt:Int)==(r.bAt:Int))=true:=by rw[beq_iff_eq];omega
   have HE:=vl he;go_wp2;go_quiet (fail);go_wp2_with fail;refine(qY b H S t 2 _ r v0 _ _ (Cx.alike (w':=w.drewN nq) HC.out ⟨rfl,rfl,rfl⟩) hn).mono ?_;rintro e w2 ⟨rfl,ao,cap,c2,k2⟩;have C2:=vl c2;go_wp2;go_end0;refine⟨rfl,.slice ao (es.length+1) cap,?_,(HK0.out.trans (Keep.alike (w':=w.drewN nq) ⟨rfl,rfl,rfl⟩)).trans k2⟩;rw[HF.out,Rs.ended,if_neg (by rw[ho];decide),if_pos HE.out];unfold Cv;rw[xQ,List.length_append];exact C2.out
  ·have hb:((r.hAt:Int)==(r.bAt:Int))=false:=by rw[beq_eq_false_iff_ne];omega
   have HE:=vl he;go_wp2;go_quiet (fail);go_wp2_with fail;refine(qY b H S t 3 _ r v0 _ _ (Cx.alike (w':=w.drewN nq) HC.out ⟨rfl,rfl,rfl⟩) hn).mono ?_;rintro e w2 ⟨rfl,ao,cap,c2,k2⟩;have C2:=vl c2;go_wp2;go_end0;refine⟨rfl,.slice ao (es.length+1) cap,?_,(HK0.out.trans (Keep.alike (w':=w.drewN nq) ⟨rfl,rfl,rfl⟩)).trans k2⟩;rw[HF.out,Rs.ended,if_neg (by rw[ho];decide),if_neg HE.out];unfold Cv;rw[xQ,List.length_append];exact C2.out
end Go.Proofs.YtbjcfkdnjaiclaaGreat
