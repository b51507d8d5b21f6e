import Derived.Deep.LoopGhost
import Derived.Deep.WholeRow
import Derived.KernelRfl
import Derived.Laws.AppendOwnNone
import Derived.ProofKit
import Derived.Test.YtbjcfkdnjaiclaaGreatRows
import Derived.Test.YtbjcfkdnjaiclaaGreatA0
import Derived.Test.YtbjcfkdnjaiclaaGreatA1
import Derived.Test.YtbjcfkdnjaiclaaGreatA9
import Derived.Test.YtbjcfkdnjaiclaaGreatA11
/- Parts of the proof. -/
set_option linter.unusedVariables false
set_option linter.unusedSimpArgs false
set_option maxHeartbeats 4000000
set_option maxRecDepth 100000
namespace Go.Proofs.YtbjcfkdnjaiclaaGreat
open Go.RowKit Go.Proofs.Tryz Go.World
open Go.Value (int slice bool pointer string agg tuple)
open Go.IntKind (i64)
open Go.Ending (returned)
section
variable (r:Rs) (t:Tb)
def Rs.ate (r:Rs)(t:Tb):Rs:={r with taken:=r.taken+1,state:=t.next r.state (t.kind (r.byte ((r.first+r.taken)%64)))}
def Rs.marked (r:Rs)(t:Tb):Rs:=if t.ends r.state=-1 then r else{r with rule:=t.ends r.state,length:=r.taken}
def Rs.judged (r:Rs)(t:Tb):Rs×List Ev:=if t.live r.state then(r,[]) else r.long t
def Rs.heldStep (r:Rs)(t:Tb):Rs×List Ev:=((r.ate t).marked t).judged t
def Rs.heldN (r:Rs)(t:Tb):Nat->Rs×List Ev
 |0=>(r,[])
 |n+1=>if(r.heldN t n).1.taken<(r.heldN t n).1.count∧(r.heldN t n).1.opn=true then(((r.heldN t n).1.heldStep t).1,(r.heldN t n).2++((r.heldN t n).1.heldStep t).2) else r.heldN t n
structure Rs.Oth (r:Rs)(t:Tb)(P:Nat):Prop where
 ok:r.Ok t
 len:r.length<=r.taken
 tak:r.taken<=r.count
 rule:r.length=0∨(0<=r.rule∧r.rule<t.nrule)
 pos:r.bAt+r.count<=P
 line:r.bLine<=r.bAt+1
 col1:1<=r.bCol
 col:r.bCol<=r.bAt+1
def xB (b:Bool):Nat:=if b then 1 else 0
def Rs.todo (r:Rs):Nat:=r.count*65+(r.count-r.taken)
theorem Rs.colTo_le2 (h:1<=r.bCol)(i:Nat):1<=r.colTo i∧r.colTo i<=r.bCol+i:=by
 induction i with
 |zero=>exact⟨h,lQ⟩
 |succ i ih=>simp only[Rs.colTo];unfold zBb;split <;> omega
theorem Rs.ate_oth (P:Nat)(ok:t.Ok)(h:r.Oth t P)(hl:r.taken<r.count):(r.ate t).Oth t P:=
 ⟨⟨h.ok.d1,h.ok.d4,h.ok.st,ok.next _ _ h.ok.state (ok.kind _ (h.ok.bytes _ (gY _ (by decide)))),h.ok.first,h.ok.count,h.ok.bytes⟩,Nat.le_succ_of_le h.len,hl,h.rule,h.pos,h.line,h.col1,h.col⟩
theorem Rs.marked_oth (P:Nat)(ok:t.Ok)(h:r.Oth t P):(r.marked t).Oth t P:=by
 unfold Rs.marked;split
 ·exact h
 ·rename_i he
  have e:=ok.ends r.state h.ok.state;exact⟨⟨h.ok.d1,h.ok.d4,h.ok.st,h.ok.state,h.ok.first,h.ok.count,h.ok.bytes⟩,lQ,h.tak,.inr ⟨by show 0<=t.ends r.state;omega,by show t.ends r.state<t.nrule;omega⟩,h.pos,h.line,h.col1,h.col⟩
theorem Rs.marked_same:(r.marked t).count=r.count∧(r.marked t).taken=r.taken∧(r.marked t).opn=r.opn∧(r.marked t).state=r.state:=by
 unfold Rs.marked;split <;> exact⟨rfl,rfl,rfl,rfl⟩
theorem Rs.tok_opn (rule a l c:Nat):((r.tok t rule a l c).1.opn=r.opn∨(r.tok t rule a l c).2≠[])∧((r.tok t rule a l c).1.opn=true->r.opn=true)∧((r.tok t rule a l c).1.taken=r.taken∧(r.tok t rule a l c).1.length=r.length)∧(((r.tok t rule a l c).1.bAt=r.bAt∧(r.tok t rule a l c).1.bLine=r.bLine∧(r.tok t rule a l c).1.bCol=r.bCol∧(r.tok t rule a l c).1.opn=false)∨((r.tok t rule a l c).1.bAt=a∧(r.tok t rule a l c).1.bLine=l∧(r.tok t rule a l c).1.bCol=c)):=by
 unfold Rs.tok Rs.moved;split
 ·exact⟨.inr (by simp),(fun h=>by cases h),⟨rfl,rfl⟩,.inl ⟨rfl,rfl,rfl,rfl⟩⟩
 ·split
  ·exact⟨.inr (by simp),(fun h=>by cases h),⟨rfl,rfl⟩,.inl ⟨rfl,rfl,rfl,rfl⟩⟩
  ·split
   ·exact⟨.inl rfl,id,⟨rfl,rfl⟩,.inr ⟨rfl,rfl,rfl⟩⟩
   ·split <;> exact⟨.inl rfl,id,⟨rfl,rfl⟩,.inr ⟨rfl,rfl,rfl⟩⟩
theorem Rs.long_inv (P:Nat)(ok:t.Ok)(h:r.Oth t P)(ho:r.opn=true)(hc:1<=r.count):
  (r.long t).1.Oth t P∧(r.long t).2.length+(r.long t).1.count+xB (r.long t).1.opn<=r.count+1∧((r.long t).1.opn=true∨(r.long t).2≠[])∧((r.long t).1.count<r.count∨((r.long t).1.opn=false∧(r.long t).1.count=r.count∧(r.long t).1.taken=r.taken)):=by
 unfold Rs.long;have hlt:=h.len;have htk:=h.tak;split
 ·refine⟨⟨⟨h.ok.d1,h.ok.d4,h.ok.st,h.ok.state,h.ok.first,h.ok.count,h.ok.bytes⟩,h.len,h.tak,h.rule,h.pos,h.line,h.col1,h.col⟩,?_,.inr (by simp),.inr ⟨rfl,rfl,rfl⟩⟩
  show 1+r.count+0<=r.count+1;omega
 ·rename_i h0
  have hrule:=h.rule.resolve_left h0;have hr:r.rule.toNat<t.nrule:=by omega
  have hcut:r.cut.Ok t:=⟨h.ok.d1,h.ok.d4,h.ok.st,h.ok.state,gY _ (by decide),lY (Nat.sub_le _ _) h.ok.count,h.ok.bytes⟩
  have hk:=r.cut.tok_ok t r.rule.toNat (r.bAt+r.length) (r.lineTo r.length) (r.colTo r.length) ok hcut hr;have hs:=r.cut.tok_same t r.rule.toNat (r.bAt+r.length) (r.lineTo r.length) (r.colTo r.length)
  have h1:=r.cut.tok_one t r.rule.toNat (r.bAt+r.length) (r.lineTo r.length) (r.colTo r.length)
  obtain⟨o1,o2,⟨o3,o4⟩,o5⟩:=r.cut.tok_opn t r.rule.toNat (r.bAt+r.length) (r.lineTo r.length) (r.colTo r.length)
  generalize r.cut.tok t r.rule.toNat (r.bAt+r.length) (r.lineTo r.length) (r.colTo r.length)=f at *;have e1:f.1.count=r.count-r.length:=hs.count;have e2:f.1.taken=0:=o3;have e3:f.1.length=0:=o4;have hp:=h.pos;have hl:=h.line;have hc1:=h.col1;have hc2:=h.col;have q1:=r.lineTo_le r.length;have q2:=r.colTo_le2 hc1 r.length;refine⟨⟨hk,by omega,by omega,.inl e3,?_,?_,?_,?_⟩,?_,?_,.inl (by omega)⟩
  ·rcases o5 with⟨e,_⟩|⟨e,_⟩
   ·have e':f.1.bAt=r.bAt:=e
    omega
   ·omega
  ·rcases o5 with⟨e,e5,_⟩|⟨e,e5,_⟩
   ·have e':f.1.bAt=r.bAt:=e
    have e6:f.1.bLine=r.bLine:=e5;omega
   ·omega
  ·rcases o5 with⟨_,_,e,_⟩|⟨_,_,e⟩
   ·have e':f.1.bCol=r.bCol:=e
    omega
   ·omega
  ·rcases o5 with⟨e,_,e5,_⟩|⟨e,_,e5⟩
   ·have e':f.1.bAt=r.bAt:=e
    have e6:f.1.bCol=r.bCol:=e5;omega
   ·omega
  ·have:xB f.1.opn<=1:=by unfold xB;split <;> omega
   omega
  ·rcases o1 with o1|o1
   ·left
    rw[o1];exact ho
   ·exact .inr o1
theorem Rs.held_inv (P:Nat)(ok:t.Ok)(h:r.Oth t P)(ho:r.opn=true)(hl:r.taken<r.count):
  (r.heldStep t).1.Oth t P∧(r.heldStep t).2.length+(r.heldStep t).1.count+xB (r.heldStep t).1.opn<=r.count+1∧((r.heldStep t).1.opn=true∨(r.heldStep t).2≠[])∧(r.heldStep t).1.todo<r.todo:=by
 have h1:=(r.ate t).marked_oth t P ok (r.ate_oth t P ok h hl);obtain⟨m1,m2,m3,m4⟩:=(r.ate t).marked_same t;have ho1:((r.ate t).marked t).opn=true:=by rw[m3];exact ho
 have c1:((r.ate t).marked t).count=r.count:=m1;have c2:((r.ate t).marked t).taken=r.taken+1:=m2;have h64:=h.ok.count;unfold Rs.heldStep Rs.judged;split
 ·refine⟨h1,?_,.inl ho1,?_⟩
  ·show 0+((r.ate t).marked t).count+xB ((r.ate t).marked t).opn<=r.count+1
   rw[ho1,c1];show 0+r.count+1<=r.count+1;omega
  ·show((r.ate t).marked t).todo<r.todo
   unfold Rs.todo;rw[c1,c2];omega
 ·obtain⟨a1,a2,a3,a4⟩:=((r.ate t).marked t).long_inv t P ok h1 ho1 (by omega)
  refine⟨a1,by rw[c1] at a2;exact a2,a3,?_⟩;unfold Rs.todo;have:=a1.tak;rcases a4 with a4|⟨_,a4,a5⟩
  ·rw[c1] at a4
   omega
  ·rw[a4,a5,c1,c2]
   omega
end
theorem zMN (b i:Nat)(w:World)(r:Rs){v0:Value}(hR:zL w b r v0)(hf:r.first<64)(hi:i<64):
  Calls prog 151 #[pointer (some ⟨b,12,none⟩),int i64 i] w fun e w'=>e=returned (int .u8 (r.byte ((r.first+i)%64)))∧∃m,w'=w.drewN m:=by
 have h1:=hR.get_first;have hx:=hR.get_byte ((r.first+i)%64) (gY _ (by decide));clear hR;generalize r.first=f at *
 go_enter func151,ntmps151
 go_wp2;go_quiet (fail);go_wp2;go_ret;exact⟨rfl,_,rfl⟩
theorem zEL (b H:Nat)(S:Nat->Prop)(t:Tb)(w:World)(r0:Rs){v0:Value}(es0:List Ev)(P C:Nat)(hC:Cv H b S t w r0 v0 es0)(ok:t.Ok)(hact:∀i,i<t.nrule->t.act i<4)(hO:r0.Oth t P)(hP:P<=1073741824)(hn:es0.length+r0.count+xB r0.opn<=C)(hC4:C<=4194304):
  Calls prog 111 #[pointer (some ⟨b,0,none⟩)] w fun e w'=>
   e=returned (tuple #[])∧∃v n,Cv H b S t w' (r0.heldN t n).1 v (es0++(r0.heldN t n).2)∧Keep H b w w'∧(r0.heldN t n).1.Oth t P∧(es0++(r0.heldN t n).2).length+(r0.heldN t n).1.count+xB (r0.heldN t n).1.opn<=C∧¬((r0.heldN t n).1.taken<(r0.heldN t n).1.count∧(r0.heldN t n).1.opn=true):=by
 have HC0:Hid (Cv H b S t w r0 v0 es0∧r0.Oth t P∧es0.length+r0.count+xB r0.opn<=C):=⟨hC,hO,hn⟩
 clear hC hO hn;go_enter func111,ntmps111
 go_wp2_with fail;go_loopg [] r0.todo (fun q wr=>∃(n:Nat) (r:Rs) (es:List Ev) (v:Value),q=r.todo∧r0.heldN t n=(r,es)∧Cv H b S t wr r v (es0++es)∧Keep H b w wr∧r.Oth t P∧(es0++es).length+r.count+xB r.opn<=C)
 case atStart=>exact⟨0,r0,[],v0,rfl,rfl,by rw[dV];exact HC0.out.1,Keep.refl _ _ _,HC0.out.2.1,by rw[dV];exact HC0.out.2.2⟩
 case round=>
  obtain⟨n,r,es,v,hgk,hN,hC,hk,hO,hn⟩:=hrel;have AA:Hid (gk=r.todo∧r0.heldN t n=(r,es)∧Cv H b S t wr r v (es0++es)∧Keep H b w wr∧r.Oth t P∧(es0++es).length+r.count+xB r.opn<=C):=⟨hgk,hN,hC,hk,hO,hn⟩
  have y1:wr.cell? ⟨b,1,none⟩=some (bool r.opn):=hC.run.get_opn;have y77:wr.cell? ⟨b,77,none⟩=some (int i64 r.count):=hC.run.get_count;have y82:wr.cell? ⟨b,82,none⟩=some (int i64 r.taken):=hC.run.get_taken;have hok:=hO.ok;have htk:=hO.tak;have hct:=hO.ok.count;clear hgk hN hC hk hO hn;by_cases hcond:r.taken<r.count∧r.opn=true
  ·obtain⟨hlt,hop⟩:=hcond
   have i1:(r.taken:Int)<(r.count:Int):=by omega
   rw[hop] at y1;have HOP:Hid (r.opn=true):=hop;clear hop;go_wp2_with fail;go_quiet (fail);obtain⟨w1,hw1,C1,K1⟩:∃w1,w1=wr.drewN nq∧Hid (Cv H b S t w1 r v (es0++es))∧Hid (Keep H b w w1):=⟨_,rfl,Cx.alike (w':=wr.drewN nq) AA.out.2.2.1 ⟨rfl,rfl,rfl⟩,AA.out.2.2.2.1.trans (Keep.alike ⟨rfl,rfl,rfl⟩)⟩
   rw[<-hw1];clear hw1 y1 y77 y82;have y82:w1.cell? ⟨b,82,none⟩=some (int i64 r.taken):=C1.out.run.get_taken;have HAT:Hid (∀q,Ca 151 #[pointer (some ⟨b,12,none⟩),int i64 r.taken] (w1.drewN q) fun e w'=>e=returned (int .u8 (r.byte ((r.first+r.taken)%64)))∧∃m,w'=(w1.drewN q).drewN m):=fun q=>zMN b r.taken _ r (Cx.alike (w':=w1.drewN q) C1.out ⟨rfl,rfl,rfl⟩).run hok.first (by omega)
   have hcb:=hok.bytes ((r.first+r.taken)%64) (gY _ (by decide));have HST:Hid (r.ate t={r with taken:=r.taken+1,state:=t.next r.state (t.kind (r.byte ((r.first+r.taken)%64)))}):=rfl;generalize r.byte ((r.first+r.taken)%64)=c at *;have hst:=hok.state;have HOT:Hid (r.Oth t P):=AA.out.2.2.2.2.1;go_wp2_with fail;go_quiet ((go_at_call 151;exact Calls.quiet_of (HAT.out _)));obtain⟨w2,hw2,C2,K2⟩:∃w2,w2=w1.drewN nq∧Hid (Cv H b S t w2 r v (es0++es))∧Hid (Keep H b w w2):=⟨_,rfl,Cx.alike (w':=w1.drewN nq) C1.out ⟨rfl,rfl,rfl⟩,K1.out.trans (Keep.alike ⟨rfl,rfl,rfl⟩)⟩
   rw[<-hw2];clear hw2 y82 C1 K1 HAT;have y82:w2.cell? ⟨b,82,none⟩=some (int i64 r.taken):=C2.out.run.get_taken;have z82:=C2.out.run.frozen 82;have y0:w2.cell? ⟨b,0,none⟩=some (pointer (some ⟨r.tp,0,none⟩)):=C2.out.run.get_tp;have y11:w2.cell? ⟨b,11,none⟩=some (int i64 r.state):=C2.out.run.get_state;go_wp2_with fail;obtain⟨w3,hw3,C3,K3⟩:∃w3,w3=w2.setCell ⟨b,82,none⟩ (int i64 ((r.taken:Int)+1))∧Hid (Cv H b S t w3 {r with taken:=r.taken+1} v (es0++es))∧Hid (Keep H b w w3):=⟨_,rfl,Cx.stored C2.out 82 _ (C2.out.run.set_taken (r.taken+1)) rfl,K2.out.trans (Keep.set _ _ _)⟩
   rw[<-hw3];clear hw3 y82 z82 y0 y11 C2 K2;have y0:w3.cell? ⟨b,0,none⟩=some (pointer (some ⟨r.tp,0,none⟩)):=C3.out.run.get_tp;have y11:w3.cell? ⟨b,11,none⟩=some (int i64 r.state):=C3.out.run.get_state;have z11:=C3.out.run.frozen 11;have tb3:Hid (TabAt w3.drew S r.tp t):=(Cx.alike (w':=w3.drew) C3.out ⟨rfl,rfl,rfl⟩).tab;have HRA:Hid ((r.ate t).Oth t P∧True):=⟨r.ate_oth t P ok HOT.out hlt,trivial⟩
   have HSTEP:Hid (r.heldStep t=if t.live ((r.ate t).marked t).state then((r.ate t).marked t,[]) else((r.ate t).marked t).long t):=rfl;have INV:Hid ((r.heldStep t).1.Oth t P∧(r.heldStep t).2.length+(r.heldStep t).1.count+xB (r.heldStep t).1.opn<=r.count+1∧((r.heldStep t).1.opn=true∨(r.heldStep t).2≠[])∧(r.heldStep t).1.todo<r.todo):=r.held_inv t P ok HOT.out HOP.out hlt;have HNX:Hid (r0.heldN t (n+1)=((r.heldStep t).1,es++(r.heldStep t).2)):=by show _=_;rw[Rs.heldN,AA.out.2.1,if_pos ⟨hlt,HOP.out⟩]
   generalize r.ate t=ra at *;go_wp2_with fail;go_region_with ((go_at_call 154;go_must ((refine (zEM r.tp _ S t tb3.out ok r.state c hst hcb).mono ?_;rintro e w5 ⟨rfl,ha5⟩;have q11:w5.cell? ⟨b,11,none⟩=some (int i64 r.state):=(ha5.cell ⟨b,11,none⟩).trans y11;have z5:w5.frozen? ⟨b,11,none⟩=false:=(ha5.frozen ⟨b,11,none⟩).trans z11))))
   all_goals
    have c5:Hid (Cv H b S t w5 {r with taken:=r.taken+1} v (es0++es)):=Cx.alike C3.out ha5;have k5:Hid (Keep H b w w5):=K3.out.trans (Keep.alike ha5);obtain⟨w6,hw6,C6,K6⟩:∃w6,w6=w5.setCell ⟨b,11,none⟩ (int i64 (t.next r.state (t.kind c):Nat))∧Hid (Cv H b S t w6 ra v (es0++es))∧Hid (Keep H b w w6):=⟨_,rfl,by rw[HST.out];exact Cx.stored c5.out 11 _ (c5.out.run.set_state (t.next r.state (t.kind c))) rfl,k5.out.trans (Keep.set _ _ _)⟩
    clear c5 k5 ha5;go_wp2_with fail;rw[<-hw6];clear hw6 q11 z5 y0 y11 z11;have y0:w6.cell? ⟨b,0,none⟩=some (pointer (some ⟨ra.tp,0,none⟩)):=C6.out.run.get_tp;have y11:w6.cell? ⟨b,11,none⟩=some (int i64 ra.state):=C6.out.run.get_state;obtain⟨_,h9,b9,o9,cap9,hb9,rfl,hcap9,hml9,hL9⟩:=C6.out.tab.c9;have hsa:=HRA.out.1.ok.state;have hx9:w6.cell? ⟨b9,o9+ra.state,none⟩=some (int i64 (t.ends ra.state)):=hL9 _ hsa;have ia:(ra.state:Int)<(t.nst:Int):=by omega
    clear hL9;by_cases hen:t.ends ra.state=-1
    ·have ie:(t.ends ra.state != -1)=false:=by rw[hen];rfl
     have HMR:Hid (ra.marked t=ra):=by show _=_;unfold Rs.marked;rw[if_pos hen]
     clear hen;generalize t.ends ra.state=ee at *;go_wp2_with fail;go_quiet (fail);obtain⟨wm,hwm,CM,KM⟩:∃wm,wm=w6.drewN nq∧Hid (Cv H b S t wm (ra.marked t) v (es0++es))∧Hid (Keep H b w wm):=⟨_,rfl,by show Cv _ _ _ _ _ _ _ _;rw[HMR.out];exact Cx.alike (w':=w6.drewN nq) C6.out ⟨rfl,rfl,rfl⟩,K6.out.trans (Keep.alike ⟨rfl,rfl,rfl⟩)⟩
     rw[<-hwm];clear hwm y0 y11 h9 hx9 C6 K6;have HM:Hid ((ra.marked t).Oth t P∧True):=⟨ra.marked_oth t P ok HRA.out.1,trivial⟩
     generalize ra.marked t=rm at *;go_wp2_with fail;have y0:wm.cell? ⟨b,0,none⟩=some (pointer (some ⟨rm.tp,0,none⟩)):=CM.out.run.get_tp;have y11:wm.cell? ⟨b,11,none⟩=some (int i64 rm.state):=CM.out.run.get_state;obtain⟨_,h10,b10,o10,cap10,hb10,rfl,hcap10,hml10,hL10⟩:=CM.out.tab.c10;have hsm:=HM.out.1.ok.state;have hx10:wm.cell? ⟨b10,o10+rm.state,none⟩=some (bool (t.live rm.state)):=hL10 _ hsm;have im:(rm.state:Int)<(t.nst:Int):=by omega
     clear hL10;cases hlv:t.live rm.state with
     |true=>
      rw[hlv] at hx10;have HE:Hid (r.heldStep t=(rm,[])):=by show _=_;rw[HSTEP.out,if_pos hlv]
      clear hlv;go_wp2_with fail;go_quiet (fail);obtain⟨w9,hw9,C9,K9⟩:∃w9,w9=wm.drewN nq∧Hid (Cv H b S t w9 rm v (es0++es))∧Hid (Keep H b w w9):=⟨_,rfl,Cx.alike (w':=wm.drewN nq) CM.out ⟨rfl,rfl,rfl⟩,KM.out.trans (Keep.alike ⟨rfl,rfl,rfl⟩)⟩
      rw[<-hw9];clear hw9;go_wp2_with fail;have hI:=INV.out;rw[HE.out] at hI;have hB:=AA.out.2.2.2.2.2;rw[HOP.out] at hB;go_roundg rm.todo
      case measure=>rw[AA.out.1];exact hI.2.2.2
      case rel=>exact⟨n+1,rm,es,v,rfl,by rw[HNX.out,HE.out,dV],C9.out,K9.out,hI.1,by have h2:0+rm.count+xB rm.opn<=r.count+1:=hI.2.1;have h3:(es0++es).length+r.count+1<=C:=hB;omega⟩
     |false=>
      rw[hlv] at hx10;have HE:Hid (r.heldStep t=rm.long t):=by show _=_;rw[HSTEP.out,if_neg (by rw[hlv];decide)]
      clear hlv;go_wp2_with fail;go_quiet (fail);obtain⟨w9,hw9,C9,K9⟩:∃w9,w9=wm.drewN nq∧Hid (Cv H b S t w9 rm v (es0++es))∧Hid (Keep H b w w9):=⟨_,rfl,Cx.alike (w':=wm.drewN nq) CM.out ⟨rfl,rfl,rfl⟩,KM.out.trans (Keep.alike ⟨rfl,rfl,rfl⟩)⟩
      rw[<-hw9];clear hw9 y0 y11 h10 hx10;have hI:=INV.out;rw[HE.out] at hI;have hB:=AA.out.2.2.2.2.2;rw[HOP.out] at hB;have hB2:(es0++es).length+r.count+1<=C:=hB;have hpp:=HM.out.1.pos;have hll:=HM.out.1.line;have hcl:=HM.out.1.col;have HLG:Hid (Ca 119 #[pointer (some ⟨b,0,none⟩)] w9 fun e w'=>e=returned (tuple #[])∧∃v,Cv H b S t w' (rm.long t).1 v ((es0++es)++(rm.long t).2)∧Keep H b w9 w'):=zAW b H S t w9 rm (es0++es) C9.out (by omega) ok hact HM.out.1.ok (lY HM.out.1.len HM.out.1.tak) HM.out.1.rule (by omega) (by omega) (by omega);have HI:Hid ((rm.long t).1.Oth t P∧(rm.long t).2.length+(rm.long t).1.count+xB (rm.long t).1.opn<=r.count+1∧((rm.long t).1.opn=true∨(rm.long t).2≠[])∧(rm.long t).1.todo<r.todo):=hI;clear hI hB hpp hll hcl;go_wp2_with fail;refine Calls.mono HLG.out ?_;rintro e w10 ⟨rfl,v10,c10,k10⟩;have CZ:Hid (Cv H b S t w10 (rm.long t).1 v10 (es0++(es++(rm.long t).2))∧Keep H b w w10):=⟨by rw[<-gV];exact c10,K9.out.trans k10⟩
      clear c10 k10 HLG;go_wp2_with fail;go_roundg (rm.long t).1.todo
      case measure=>rw[AA.out.1];exact HI.out.2.2.2
      case rel=>exact⟨n+1,(rm.long t).1,es++(rm.long t).2,v10,rfl,by rw[HNX.out,HE.out],CZ.out.1,CZ.out.2,HI.out.1,by have h2:=HI.out.2.1;rw[kX,kX];rw[kX] at hB2;omega⟩
    ·have ie:(t.ends ra.state != -1)=true:=by rw[bne_iff_ne];exact hen
     have HMR:Hid (ra.marked t={ra with rule:=t.ends ra.state,length:=ra.taken}):=by show _=_;unfold Rs.marked;rw[if_neg hen]
     clear hen;obtain⟨ee,hee⟩:∃ee,ee=t.ends ra.state:=⟨_,rfl⟩
     rw[<-hee] at hx9 ie HMR;clear hee;go_wp2_with fail;go_quiet (fail);obtain⟨w7,hw7,C7,K7⟩:∃w7,w7=w6.drewN nq∧Hid (Cv H b S t w7 ra v (es0++es))∧Hid (Keep H b w w7):=⟨_,rfl,Cx.alike (w':=w6.drewN nq) C6.out ⟨rfl,rfl,rfl⟩,K6.out.trans (Keep.alike ⟨rfl,rfl,rfl⟩)⟩
     have x9:w7.cell? ⟨b9,o9+ra.state,none⟩=some (int i64 ee):=by rw[hw7];exact hx9
     have x9':w7.cell? ⟨ra.tp,9,none⟩=some (slice (some ⟨b9,o9,none⟩) t.nst cap9):=by rw[hw7];exact h9
     rw[<-hw7];clear hw7 y0 y11 h9 hx9 C6 K6;have y0:w7.cell? ⟨b,0,none⟩=some (pointer (some ⟨ra.tp,0,none⟩)):=C7.out.run.get_tp;have y11:w7.cell? ⟨b,11,none⟩=some (int i64 ra.state):=C7.out.run.get_state;have y84:w7.cell? ⟨b,84,none⟩=some (int i64 ra.rule):=C7.out.run.get_rule;have z84:=C7.out.run.frozen 84;have y82:w7.cell? ⟨b,82,none⟩=some (int i64 ra.taken):=C7.out.run.get_taken;have y83:w7.cell? ⟨b,83,none⟩=some (int i64 ra.length):=C7.out.run.get_length;have z83:=C7.out.run.frozen 83;have nb9:b9≠b:=(C7.out.safe _ hb9).2;have ntp:ra.tp≠b:=(C7.out.safe _ C7.out.tab.safe).2;go_wp2_with fail;go_region
     all_goals
      go_wp2_with fail;obtain⟨wm,hwm,CM,KM⟩:∃wm,wm=((w7.setCell ⟨b,84,none⟩ (int i64 ee)).setCell ⟨b,83,none⟩ (int i64 (ra.taken:Nat))).drew∧Hid (Cv H b S t wm (ra.marked t) v (es0++es))∧Hid (Keep H b w wm):=by
       have d1:=Cx.stored C7.out 84 _ (C7.out.run.set_rule ee) rfl;have d2:=d1.stored 83 _ (d1.run.set_length ra.taken) rfl;exact⟨_,rfl,by show Cv _ _ _ _ _ _ _ _;rw[HMR.out];exact Cx.alike d2 ⟨rfl,rfl,rfl⟩,((K7.out.trans (Keep.set _ _ _)).trans (Keep.set _ _ _)).trans (Keep.drew _)⟩
      rw[<-hwm];clear hwm y0 y11 y84 z84 y82 y83 z83 x9 x9' C7 K7;have HM:Hid ((ra.marked t).Oth t P∧True):=⟨ra.marked_oth t P ok HRA.out.1,trivial⟩
      generalize ra.marked t=rm at *;have y0:wm.cell? ⟨b,0,none⟩=some (pointer (some ⟨rm.tp,0,none⟩)):=CM.out.run.get_tp;have y11:wm.cell? ⟨b,11,none⟩=some (int i64 rm.state):=CM.out.run.get_state;obtain⟨_,h10,b10,o10,cap10,hb10,rfl,hcap10,hml10,hL10⟩:=CM.out.tab.c10;have hsm:=HM.out.1.ok.state;have hx10:wm.cell? ⟨b10,o10+rm.state,none⟩=some (bool (t.live rm.state)):=hL10 _ hsm;have im:(rm.state:Int)<(t.nst:Int):=by omega
      clear hL10;cases hlv:t.live rm.state with
      |true=>
       rw[hlv] at hx10;have HE:Hid (r.heldStep t=(rm,[])):=by show _=_;rw[HSTEP.out,if_pos hlv]
       clear hlv;go_wp2_with fail;go_quiet (fail);obtain⟨w9,hw9,C9,K9⟩:∃w9,w9=wm.drewN nq∧Hid (Cv H b S t w9 rm v (es0++es))∧Hid (Keep H b w w9):=⟨_,rfl,Cx.alike (w':=wm.drewN nq) CM.out ⟨rfl,rfl,rfl⟩,KM.out.trans (Keep.alike ⟨rfl,rfl,rfl⟩)⟩
       rw[<-hw9];clear hw9;go_wp2_with fail;have hI:=INV.out;rw[HE.out] at hI;have hB:=AA.out.2.2.2.2.2;rw[HOP.out] at hB;go_roundg rm.todo
       case measure=>rw[AA.out.1];exact hI.2.2.2
       case rel=>exact⟨n+1,rm,es,v,rfl,by rw[HNX.out,HE.out,dV],C9.out,K9.out,hI.1,by have h2:0+rm.count+xB rm.opn<=r.count+1:=hI.2.1;have h3:(es0++es).length+r.count+1<=C:=hB;omega⟩
      |false=>
       rw[hlv] at hx10;have HE:Hid (r.heldStep t=rm.long t):=by show _=_;rw[HSTEP.out,if_neg (by rw[hlv];decide)]
       clear hlv;go_wp2_with fail;go_quiet (fail);obtain⟨w9,hw9,C9,K9⟩:∃w9,w9=wm.drewN nq∧Hid (Cv H b S t w9 rm v (es0++es))∧Hid (Keep H b w w9):=⟨_,rfl,Cx.alike (w':=wm.drewN nq) CM.out ⟨rfl,rfl,rfl⟩,KM.out.trans (Keep.alike ⟨rfl,rfl,rfl⟩)⟩
       rw[<-hw9];clear hw9 y0 y11 h10 hx10;have hI:=INV.out;rw[HE.out] at hI;have hB:=AA.out.2.2.2.2.2;rw[HOP.out] at hB;have hB2:(es0++es).length+r.count+1<=C:=hB;have hpp:=HM.out.1.pos;have hll:=HM.out.1.line;have hcl:=HM.out.1.col;have HLG:Hid (Ca 119 #[pointer (some ⟨b,0,none⟩)] w9 fun e w'=>e=returned (tuple #[])∧∃v,Cv H b S t w' (rm.long t).1 v ((es0++es)++(rm.long t).2)∧Keep H b w9 w'):=zAW b H S t w9 rm (es0++es) C9.out (by omega) ok hact HM.out.1.ok (lY HM.out.1.len HM.out.1.tak) HM.out.1.rule (by omega) (by omega) (by omega);have HI:Hid ((rm.long t).1.Oth t P∧(rm.long t).2.length+(rm.long t).1.count+xB (rm.long t).1.opn<=r.count+1∧((rm.long t).1.opn=true∨(rm.long t).2≠[])∧(rm.long t).1.todo<r.todo):=hI;clear hI hB hpp hll hcl;go_wp2_with fail;refine Calls.mono HLG.out ?_;rintro e w10 ⟨rfl,v10,c10,k10⟩;have CZ:Hid (Cv H b S t w10 (rm.long t).1 v10 (es0++(es++(rm.long t).2))∧Keep H b w w10):=⟨by rw[<-gV];exact c10,K9.out.trans k10⟩
       clear c10 k10 HLG;go_wp2_with fail;go_roundg (rm.long t).1.todo
       case measure=>rw[AA.out.1];exact HI.out.2.2.2
       case rel=>exact⟨n+1,(rm.long t).1,es++(rm.long t).2,v10,rfl,by rw[HNX.out,HE.out],CZ.out.1,CZ.out.2,HI.out.1,by have h2:=HI.out.2.1;rw[kX,kX];rw[kX] at hB2;omega⟩
  ·have HE:Hid (¬(r.taken<r.count∧r.opn=true)):=hcond
   have fin_:Hid (∃v m,Cv H b S t wr (r0.heldN t m).1 v (es0++(r0.heldN t m).2)∧Keep H b w wr∧(r0.heldN t m).1.Oth t P∧(es0++(r0.heldN t m).2).length+(r0.heldN t m).1.count+xB (r0.heldN t m).1.opn<=C∧¬((r0.heldN t m).1.taken<(r0.heldN t m).1.count∧(r0.heldN t m).1.opn=true)):=by
    refine⟨v,n,?_⟩;rw[AA.out.2.1];exact⟨AA.out.2.2.1,AA.out.2.2.2.1,AA.out.2.2.2.2.1,AA.out.2.2.2.2.2,HE.out⟩
   by_cases hlt:r.taken<r.count
   ·have i1:(r.taken:Int)<(r.count:Int):=by omega
    have hop:r.opn=false:=by
     cases h:r.opn with
     |false=>rfl
     |true=>exact absurd ⟨hlt,h⟩ hcond
    rw[hop] at y1;clear hop hcond;go_wp2_with fail;go_quiet (fail);obtain⟨w1,hw1,FN⟩:∃w1,w1=wr.drewN nq∧Hid (∃v m,Cv H b S t w1 (r0.heldN t m).1 v (es0++(r0.heldN t m).2)∧Keep H b w w1∧(r0.heldN t m).1.Oth t P∧(es0++(r0.heldN t m).2).length+(r0.heldN t m).1.count+xB (r0.heldN t m).1.opn<=C∧¬((r0.heldN t m).1.taken<(r0.heldN t m).1.count∧(r0.heldN t m).1.opn=true)):=by
     obtain⟨v,m,f1,f2,f3⟩:=fin_.out;exact⟨_,rfl,v,m,Cx.alike (w':=wr.drewN nq) f1 ⟨rfl,rfl,rfl⟩,f2.trans (Keep.alike ⟨rfl,rfl,rfl⟩),f3⟩
    rw[<-hw1];clear hw1 fin_;go_wp2_with fail;go_end0;exact⟨rfl,FN.out⟩
   ·have i1:(r.count:Int)<=(r.taken:Int):=by omega
    clear hcond;go_wp2_with fail;go_quiet (fail);obtain⟨w1,hw1,FN⟩:∃w1,w1=wr.drewN nq∧Hid (∃v m,Cv H b S t w1 (r0.heldN t m).1 v (es0++(r0.heldN t m).2)∧Keep H b w w1∧(r0.heldN t m).1.Oth t P∧(es0++(r0.heldN t m).2).length+(r0.heldN t m).1.count+xB (r0.heldN t m).1.opn<=C∧¬((r0.heldN t m).1.taken<(r0.heldN t m).1.count∧(r0.heldN t m).1.opn=true)):=by
     obtain⟨v,m,f1,f2,f3⟩:=fin_.out;exact⟨_,rfl,v,m,Cx.alike (w':=wr.drewN nq) f1 ⟨rfl,rfl,rfl⟩,f2.trans (Keep.alike ⟨rfl,rfl,rfl⟩),f3⟩
    rw[<-hw1];clear hw1 fin_;go_wp2_with fail;go_end0;exact⟨rfl,FN.out⟩
def Rs.added (r:Rs)(c:Nat):Rs:={r with byte:=fun j=>if j=(r.first+r.count)%64 then c else r.byte j,count:=r.count+1}
def Rs.looked (r:Rs)(t:Tb)(d:Nat):Rs:={r with ahead:=t.further r.ahead d}
def Rs.due (r:Rs)(t:Tb):Rs×List Ev:=if t.ahead<r.count then r.step t else(r,[])
def Rs.take (r:Rs)(t:Tb)(c:Nat):Rs×List Ev:=((r.added c).looked t (t.kind c)).due t
theorem Rs.added_ok (r:Rs)(t:Tb)(c:Nat)(h:r.Ok t)(hc:c<256)(hn:r.count<64):(r.added c).Ok t:=
 ⟨h.d1,h.d4,h.st,h.state,h.first,hn,fun j hj=>by
  show(if j=(r.first+r.count)%64 then c else r.byte j)<256;split
  ·exact hc
  ·exact h.bytes j hj⟩
theorem zKF (b H:Nat)(S:Nat->Prop)(t:Tb)(w0 w:World)(r:Rs){v0:Value}(es:List Ev)(hC:Cv H b S t w r v0 es)(hn:es.length<=4194304)(ok:t.Ok)(hact:∀i,i<t.nrule->t.act i<4)(hok:r.Ok t)(ha:r.ahead<t.rows)(hc:1<=r.count)
  (p1:r.hAt<2147483648) (p2:r.hLine<2147483648) (p3:r.hCol<2147483648) (hk:Keep H b w0 w) (f:Rs×List Ev) (hf:f=r.due t)
  {u1 u2 u3 u4 u5 u6 u7 u8 u9 u10 u11 u12 u13 u14 u15 u16 u17 u18 u19 u20 u21 u22 u23 u24 u25 u26 u27 u28 u29 u30 u31 u32 u33 u34 u35 u36 u37 u38 u39 u40 u41 u42 u43 u44 u45:Value}:
  Code.wp prog (yS 2 ((f73.body).getD .skip)) (bodyPost prog f73 fun e w'=>
   e=returned (tuple #[])∧∃v,Cv H b S t w' f.1 v (es++f.2)∧Keep H b w0 w')
   ⟨(pointer (some ⟨b,0,none⟩)::u1::u2::u3::u4::u5::u6::u7::u8::u9::u10::u11::u12::u13::u14::u15::u16::u17::u18::u19::u20::u21::u22::u23::u24::u25::u26::u27::u28::u29::u30::u31::u32::u33::u34::u35::u36::u37::u38::u39::u40::u41::u42::u43::u44::u45::[]).toArray,[]⟩ w:=by
 conv=>arg 2;whnf
 have HC:Hid (Cv H b S t w r v0 es):=hC;have J:Hid (Keep H b w0 w):=hk;have HF:Hid (f=r.due t):=hf;have y0:w.cell? ⟨b,0,none⟩=some (pointer (some ⟨r.tp,0,none⟩)):=HC.out.run.get_tp;have y77:w.cell? ⟨b,77,none⟩=some (int i64 r.count):=HC.out.run.get_count;have x1:w.cell? ⟨r.tp,1,none⟩=some (int i64 t.ahead):=HC.out.tab.c1;clear hC hk hf;by_cases hlt:t.ahead<r.count
 ·have hl1:(t.ahead:Int)<(r.count:Int):=by omega
  go_wp2_with fail;go_quiet (fail);go_wp2_with fail;refine(zHB b H S t _ r es (Cx.alike (w':=w.drewN nq) HC.out ⟨rfl,rfl,rfl⟩) hn ok hact hok hc ha p1 p2 p3).mono ?_;rintro e w2 ⟨rfl,v,c2,k2⟩;have C2:Hid (Cv H b S t w2 f.1 v (es++f.2)):=by
   show Cv H b S t w2 f.1 v (es++f.2);rw[HF.out,Rs.due,if_pos hlt];exact c2
  clear c2;go_wp2_with fail;go_end0;exact⟨rfl,v,C2.out,(J.out.trans (Keep.alike (w':=w.drewN nq) ⟨rfl,rfl,rfl⟩)).trans k2⟩
 ·have hl1:(r.count:Int)<=(t.ahead:Int):=by omega
  go_wp2_with fail;go_quiet (fail);go_wp2_with fail;go_end0;refine⟨rfl,v0,?_,J.out.trans (Keep.alike (w':=w.drewN nq) ⟨rfl,rfl,rfl⟩)⟩;rw[HF.out,Rs.due,if_neg hlt,dV];exact Cx.alike (w':=w.drewN nq) HC.out ⟨rfl,rfl,rfl⟩
theorem zIX (b H:Nat)(S:Nat->Prop)(t:Tb)(w:World)(r:Rs){v0:Value}(es:List Ev)(c:Nat)(hC:Cv H b S t w r v0 es)(hn:es.length<=4194304)(ok:t.Ok)(hact:∀i,i<t.nrule->t.act i<4)(hok:r.Ok t)(ha:r.ahead<t.rows)(hc:r.count<64)(hcb:c<256)
  (p1:r.hAt<2147483648) (p2:r.hLine<2147483648) (p3:r.hCol<2147483648):
  Calls prog 73 #[pointer (some ⟨b,0,none⟩),int .u8 c] w fun e w'=>
   e=returned (tuple #[])∧∃v,Cv H b S t w' (r.take t c).1 v (es++(r.take t c).2)∧Keep H b w w':=by
 have HC:Hid (Cv H b S t w r v0 es):=hC;clear hC;go_enter func73,ntmps73
 refine wp_seq_k ?_;intro K hK;have H0:Hid (∀a w,_->K a w):=hK;clear hK;go_wp2_with fail;refine(zGy b c _ r HC.out.run hok.first hc).mono ?_;rintro e w1 ⟨rfl,hR1,hk1⟩;have c1:Hid (Cv H b S t w1 (r.added c) v0 es):=Cx.kept HC.out hk1 hR1 rfl;have k1:Hid (Keep H b w w1):=hk1 H;clear hk1 hR1;go_wp2_with fail;apply H0.out;clear H0;refine wp_seq_k ?_;intro K hK;have H1:Hid (∀a w,_->K a w):=hK;clear hK;have y0:w1.cell? ⟨b,0,none⟩=some (pointer (some ⟨r.tp,0,none⟩)):=c1.out.run.get_tp;have y81:w1.cell? ⟨b,81,none⟩=some (int i64 r.ahead):=c1.out.run.get_ahead;have z81:=c1.out.run.frozen 81;have h6e:=c1.out.tab.c6;obtain⟨vv,h6,b6,o6,cap6,hb6,rfl,hcap6,hml6,hL6⟩:=h6e;have h6':w1.cell? ⟨r.tp,6,none⟩=some (slice (some ⟨b6,o6,none⟩) 256 cap6):=h6;have hx6:w1.cell? ⟨b6,o6+c,none⟩=some (int i64 (t.kind c:Nat)):=hL6 _ hcb;have i1:(c:Int)<256:=by omega
 have hkd:=ok.kind c hcb;have hct:=ok.count;have hrw:=ok.rows;have tb4:Hid (TabAt w1.drew S r.tp t):=(Cx.alike (w':=w1.drew) c1.out ⟨rfl,rfl,rfl⟩).tab;clear hL6 h6;go_wp2_with fail;go_region_with ((go_at_call 108;go_must ((refine (zAY r.tp _ S t tb4.out ok r.ahead (t.kind c) (by omega) (by omega)).mono ?_;rintro e w5 ⟨rfl,ha5⟩;have q81:w5.cell? ⟨b,81,none⟩=some (int i64 r.ahead):=(ha5.cell ⟨b,81,none⟩).trans y81;have z5:w5.frozen? ⟨b,81,none⟩=false:=(ha5.frozen ⟨b,81,none⟩).trans z81))))
 all_goals
  have c5:Hid (Cv H b S t w5 (r.added c) v0 es):=Cx.alike c1.out ha5;have k5:Hid (Keep H b w w5):=k1.out.trans (Keep.alike ha5);have c6:Hid (Cv H b S t (w5.setCell ⟨b,81,none⟩ (int i64 (t.further r.ahead (t.kind c):Nat))) ((r.added c).looked t (t.kind c)) v0 es):=Cx.stored c5.out 81 _ (c5.out.run.set_ahead (t.further r.ahead (t.kind c))) rfl;clear c1 k1 tb4 ha5 c5;go_wp2_with fail;apply H1.out;exact zKF b H S t w _ ((r.added c).looked t (t.kind c)) es c6.out hn ok hact (let h:=r.added_ok t c hok hcb hc;⟨h.d1,h.d4,h.st,h.state,h.first,h.count,h.bytes⟩) (gY _ ok.rows0) (Nat.succ_le_succ lX) p1 p2 p3 (k5.out.trans (Keep.set _ _ _)) _ rfl
section
variable (r:Rs) (t:Tb) (P:Nat) (ok:t.Ok) (h:r.Oth t P) (n:Nat)
theorem Rs.held_count (ok:t.Ok)(h:r.Oth t P)(ho:r.opn=true)(hl:r.taken<r.count):(r.heldStep t).1.count<=r.count:=by
 obtain⟨_,h2,h3,_⟩:=r.held_inv t P ok h ho hl;rcases h3 with h3|h3
 ·rw[h3] at h2
  have:xB true=1:=rfl;omega
 ·have:=List.length_pos_iff.2 h3
  omega
theorem Rs.heldN_inv (ok:t.Ok)(h:r.Oth t P)(n:Nat):
  (r.heldN t n).1.Oth t P∧(r.heldN t n).2.length+(r.heldN t n).1.count+xB (r.heldN t n).1.opn<=r.count+xB r.opn∧((r.heldN t n).1.opn=r.opn∨(r.heldN t n).2≠[])∧(r.heldN t n).1.count<=r.count∧(¬((r.heldN t n).1.taken<(r.heldN t n).1.count∧(r.heldN t n).1.opn=true)∨(r.heldN t n).1.todo+n<=r.todo)∧((r.heldN t n).1.opn=true->r.opn=true):=by
 induction n with
 |zero=>exact⟨h,by simp[Rs.heldN],.inl rfl,lQ,.inr lQ,id⟩
 |succ n ih=>
  obtain⟨i1,i2,i3,i4,i5,i6⟩:=ih;rw[Rs.heldN];split
  ·rename_i hc
   obtain⟨a1,a2,a3,a4⟩:=(r.heldN t n).1.held_inv t P ok i1 hc.2 hc.1;have a5:=(r.heldN t n).1.held_count t P ok i1 hc.2 hc.1;have hro:=i6 hc.2;refine⟨a1,?_,?_,lY a5 i4,.inr ?_,fun _=>hro⟩
   ·show((r.heldN t n).2++((r.heldN t n).1.heldStep t).2).length+((r.heldN t n).1.heldStep t).1.count+xB ((r.heldN t n).1.heldStep t).1.opn<=_
    rw[hc.2] at i2;have:xB true=1:=rfl;rw[kX];omega
   ·rcases a3 with a3|a3
    ·left
     show((r.heldN t n).1.heldStep t).1.opn=r.opn;rw[a3,hro]
    ·right
     show(r.heldN t n).2++((r.heldN t n).1.heldStep t).2≠[];intro e;exact a3 (List.append_eq_nil_iff.1 e).2
   ·show((r.heldN t n).1.heldStep t).1.todo+(n+1)<=r.todo
    rcases i5 with i5|i5
    ·exact absurd hc i5
    ·omega
  ·rename_i hc
   exact⟨i1,i2,i3,i4,.inl hc,i6⟩
theorem Rs.heldN_stop (n m:Nat)(h:¬((r.heldN t n).1.taken<(r.heldN t n).1.count∧(r.heldN t n).1.opn=true))(hm:n<=m):r.heldN t m=r.heldN t n:=by
 induction m with
 |zero=>rw[show n=0 by omega]
 |succ m ih=>
  by_cases e:n=m+1
  ·rw[e]
  ·rw[Rs.heldN,ih (by omega),if_neg h]
def Rs.heldAll (r:Rs)(t:Tb):Rs×List Ev:=r.heldN t (r.todo+1)
theorem Rs.heldAll_eq (ok:t.Ok)(h:r.Oth t P)(n:Nat)(hs:¬((r.heldN t n).1.taken<(r.heldN t n).1.count∧(r.heldN t n).1.opn=true)):r.heldN t n=r.heldAll t:=by
 have h1:=(r.heldN_inv t P ok h (r.todo+1)).2.2.2.2.1;have h2:¬((r.heldAll t).1.taken<(r.heldAll t).1.count∧(r.heldAll t).1.opn=true):=by
  rcases h1 with h1|h1
  ·exact h1
  ·omega
 rcases Nat.le_total n (r.todo+1) with hl|hl
 ·exact(r.heldN_stop t n _ hs hl).symm
 ·exact r.heldN_stop t _ n h2 hl
theorem Rs.heldAll_inv (ok:t.Ok)(h:r.Oth t P):
  (r.heldAll t).1.Oth t P∧(r.heldAll t).2.length+(r.heldAll t).1.count+xB (r.heldAll t).1.opn<=r.count+xB r.opn∧((r.heldAll t).1.opn=r.opn∨(r.heldAll t).2≠[])∧(r.heldAll t).1.count<=r.count∧((r.heldAll t).1.opn=true->r.opn=true):=by
 obtain⟨a1,a2,a3,a4,_,a6⟩:=r.heldN_inv t P ok h (r.todo+1);exact⟨a1,a2,a3,a4,a6⟩
def Rs.takeO (r:Rs)(t:Tb)(c:Nat):Rs×List Ev:=
 if t.hold<=r.count then({r with opn:=false},[r.lastEv 6]) else(r.added c).heldAll t
theorem Rs.added_oth (P c:Nat)(h:r.Oth t P)(hc:c<256)(hn:r.count<64):(r.added c).Oth t (P+1):=by
 have h1:=h.len;have h2:=h.tak;have h3:=h.pos;exact⟨r.added_ok t c h.ok hc hn,h1,Nat.le_succ_of_le h2,h.rule,by show r.bAt+(r.count+1)<=P+1;omega,h.line,h.col1,h.col⟩
theorem Rs.takeO_inv (P c:Nat)(ok:t.Ok)(h:r.Oth t P)(hc:c<256)(ho:r.opn=true):
  (r.takeO t c).1.Oth t (P+1)∧(r.takeO t c).2.length+(r.takeO t c).1.count+xB (r.takeO t c).1.opn<=r.count+2∧((r.takeO t c).1.opn=true∨(r.takeO t c).2≠[]):=by
 unfold Rs.takeO;split
 ·refine⟨⟨⟨h.ok.d1,h.ok.d4,h.ok.st,h.ok.state,h.ok.first,h.ok.count,h.ok.bytes⟩,h.len,h.tak,h.rule,Nat.le_succ_of_le h.pos,h.line,h.col1,h.col⟩,?_,.inr (by simp)⟩
  show 1+r.count+0<=r.count+2;omega
 ·rename_i hh
  have hlt:r.count<64:=by have:=ok.hold;omega
  obtain⟨a1,a2,a3,a4,a5⟩:=(r.added c).heldAll_inv t (P+1) ok (r.added_oth t P c h hc hlt);have e1:(r.added c).count=r.count+1:=rfl;have e2:(r.added c).opn=true:=ho;rw[e1,e2] at a2;rw[e2] at a3;have:xB true=1:=rfl;exact⟨a1,by omega,a3⟩
def Rs.endO (r:Rs)(t:Tb):Rs×List Ev:=(((r.long t).1.heldAll t).1,(r.long t).2++((r.long t).1.heldAll t).2)
def Rs.endN (r:Rs)(t:Tb):Nat->Rs×List Ev
 |0=>(r,[])
 |n+1=>if 0<(r.endN t n).1.count∧(r.endN t n).1.opn=true then(((r.endN t n).1.endO t).1,(r.endN t n).2++((r.endN t n).1.endO t).2) else r.endN t n
theorem Rs.endO_inv (ok:t.Ok)(h:r.Oth t P)(ho:r.opn=true)(hc:0<r.count):
  (r.endO t).1.Oth t P∧(r.endO t).2.length+(r.endO t).1.count+xB (r.endO t).1.opn<=r.count+1∧((r.endO t).1.opn=true∨(r.endO t).2≠[])∧(r.endO t).1.count+xB (r.endO t).1.opn<r.count+1:=by
 obtain⟨a1,a2,a3,a4⟩:=r.long_inv t P ok h ho hc;obtain⟨b1,b2,b3,b4,b5⟩:=(r.long t).1.heldAll_inv t P ok a1;unfold Rs.endO;have o1:xB true=1:=rfl;have o0:xB false=0:=rfl;refine⟨b1,?_,?_,?_⟩
 ·show((r.long t).2++((r.long t).1.heldAll t).2).length+((r.long t).1.heldAll t).1.count+xB ((r.long t).1.heldAll t).1.opn<=_
  rw[kX];omega
 ·by_cases e:((r.long t).1.heldAll t).1.opn=true
  ·exact .inl e
  ·right
   show(r.long t).2++((r.long t).1.heldAll t).2≠[];intro e2;obtain⟨e3,e4⟩:=List.append_eq_nil_iff.1 e2;have h1:=a3.resolve_right (fun h=>h e3);have h2:=b3.resolve_right (fun h=>h e4);exact e (by rw[h2,h1])
 ·show((r.long t).1.heldAll t).1.count+xB ((r.long t).1.heldAll t).1.opn<r.count+1
  rcases a4 with a4|⟨a4,a5,_⟩
  ·have:xB ((r.long t).1.heldAll t).1.opn<=1:=by unfold xB;split <;> omega
   omega
  ·have e:((r.long t).1.heldAll t).1.opn=false:=by
    cases h:((r.long t).1.heldAll t).1.opn with
    |false=>rfl
    |true=>rw[b5 h] at a4;cases a4
   rw[e];omega
theorem Rs.endN_inv (ok:t.Ok)(h:r.Oth t P)(n:Nat):
  (r.endN t n).1.Oth t P∧(r.endN t n).2.length+(r.endN t n).1.count+xB (r.endN t n).1.opn<=r.count+xB r.opn∧((r.endN t n).1.opn=r.opn∨(r.endN t n).2≠[])∧(¬(0<(r.endN t n).1.count∧(r.endN t n).1.opn=true)∨(r.endN t n).1.count+xB (r.endN t n).1.opn+n<=r.count+xB r.opn)∧((r.endN t n).1.opn=true->r.opn=true):=by
 induction n with
 |zero=>exact⟨h,by simp[Rs.endN],.inl rfl,.inr lQ,id⟩
 |succ n ih=>
  obtain⟨i1,i2,i3,i4,i6⟩:=ih;rw[Rs.endN];split
  ·rename_i hc
   obtain⟨a1,a2,a3,a4⟩:=(r.endN t n).1.endO_inv t P ok i1 hc.2 hc.1;have hro:=i6 hc.2;have o1:xB true=1:=rfl;refine⟨a1,?_,?_,.inr ?_,fun _=>hro⟩
   ·show((r.endN t n).2++((r.endN t n).1.endO t).2).length+((r.endN t n).1.endO t).1.count+xB ((r.endN t n).1.endO t).1.opn<=_
    rw[hc.2] at i2;rw[kX];omega
   ·rcases a3 with a3|a3
    ·left
     show((r.endN t n).1.endO t).1.opn=r.opn;rw[a3,hro]
    ·right
     show(r.endN t n).2++((r.endN t n).1.endO t).2≠[];intro e;exact a3 (List.append_eq_nil_iff.1 e).2
   ·show((r.endN t n).1.endO t).1.count+xB ((r.endN t n).1.endO t).1.opn+(n+1)<=_
    rcases i4 with i4|i4
    ·exact absurd hc i4
    ·rw[hc.2] at i4
     omega
  ·rename_i hc
   exact⟨i1,i2,i3,.inl hc,i6⟩
theorem Rs.endN_stop (n m:Nat)(h:¬(0<(r.endN t n).1.count∧(r.endN t n).1.opn=true))(hm:n<=m):r.endN t m=r.endN t n:=by
 induction m with
 |zero=>rw[show n=0 by omega]
 |succ m ih=>
  by_cases e:n=m+1
  ·rw[e]
  ·rw[Rs.endN,ih (by omega),if_neg h]
def Rs.endAll (r:Rs)(t:Tb):Rs×List Ev:=r.endN t (r.count+2)
theorem Rs.endAll_eq (ok:t.Ok)(h:r.Oth t P)(n:Nat)(hs:¬(0<(r.endN t n).1.count∧(r.endN t n).1.opn=true)):r.endN t n=r.endAll t:=by
 have h1:=(r.endN_inv t P ok h (r.count+2)).2.2.2.1;have h2:¬(0<(r.endAll t).1.count∧(r.endAll t).1.opn=true):=by
  rcases h1 with h1|h1
  ·exact h1
  ·have:xB r.opn<=1:=by unfold xB;split <;> omega
   omega
 rcases Nat.le_total n (r.count+2) with hl|hl
 ·exact(r.endN_stop t n _ hs hl).symm
 ·exact r.endN_stop t _ n h2 hl
def Rs.closeO (r:Rs)(t:Tb):Rs×List Ev:=if(r.endAll t).1.opn then({(r.endAll t).1 with opn:=false},(r.endAll t).2++[(r.endAll t).1.lastEv 2]) else r.endAll t
theorem Rs.closeO_end (ok:t.Ok)(h:r.Oth t P)(ho:r.opn=true):(r.closeO t).1.opn=false∧(r.closeO t).2≠[]:=by
 have h3:=(r.endN_inv t P ok h (r.count+2)).2.2.1;unfold Rs.closeO;split
 ·exact⟨rfl,by simp⟩
 ·rename_i he
  have he':(r.endAll t).1.opn=false:=by simpa using he
  refine⟨he',?_⟩;rcases h3 with h3|h3
  ·have:(r.endAll t).1.opn=r.opn:=h3
   rw[he',ho] at this;cases this
  ·exact h3
end
section
variable (b H:Nat) (S:Nat->Prop) (t:Tb) (w:World) (r:Rs) {v0:Value} (es:List Ev) (P C c:Nat) (hC:Cv H b S t w r v0 es) (ok:t.Ok)
theorem zFm (hC:Cv H b S t w r v0 es)(ok:t.Ok)(hact:∀i,i<t.nrule->t.act i<4)(hO:r.Oth t P)(hP:P<=1073741824)(hn:es.length+r.count+xB r.opn<=C)(hC4:C<=4194304):
  Calls prog 111 #[pointer (some ⟨b,0,none⟩)] w fun e w'=>
   e=returned (tuple #[])∧∃v,Cv H b S t w' (r.heldAll t).1 v (es++(r.heldAll t).2)∧Keep H b w w':=
 (zEL b H S t w r es P C hC ok hact hO hP hn hC4).mono fun e w' ⟨he,v,n,h1,h2,_,_,h5⟩=>by
  rw[r.heldAll_eq t P ok hO n h5] at h1;exact⟨he,v,h1,h2⟩
theorem zHA (hC:Cv H b S t w r v0 es)(ok:t.Ok)(hact:∀i,i<t.nrule->t.act i<4)(hO:r.Oth t P)(hP:P<1073741824)(hn:es.length+r.count+xB r.opn<=C)(hC4:C<4194304)(hcb:c<256):
  Calls prog 74 #[pointer (some ⟨b,0,none⟩),int .u8 c] w fun e w'=>
   e=returned (tuple #[])∧∃v,Cv H b S t w' (r.takeO t c).1 v (es++(r.takeO t c).2)∧Keep H b w w':=by
 have HC:=vl hC;have y0:=hC.run.get_tp;have y77:=hC.run.get_count;have x2:=hC.tab.c2;have hh:=ok.hold;by_cases hf:t.hold<=r.count
 ·have i1:(t.hold:Int)<=(r.count:Int):=by omega
  have HF:Hid (r.takeO t c=({r with opn:=false},[r.lastEv 6])):=if_pos hf;go_in;go_wp2;go_quiet (fail);go_wp2_with fail;refine(vH b H S t 6 _ r v0 _ _ (Cx.alike (w':=w.drewN nq) HC.out ⟨rfl,rfl,rfl⟩) (by omega)).mono ?_;rintro e w2 ⟨rfl,ao,cap,c2,k2⟩;have C2:=vl c2;go_wp2;refine dZ (results_none rfl _ _ _) rfl ?_;refine⟨rfl,slice ao (es.length+1) cap,?_,Keep.trans (w:=w) (w':=w.drewN nq) (Keep.alike ⟨rfl,rfl,rfl⟩) k2⟩;rw[HF.out];unfold Cv;rw[xS,kX];exact C2.out
 ·have i1:(r.count:Int)<(t.hold:Int):=by omega
  have hlt:r.count<64:=by omega
  have HF:Hid (r.takeO t c=(r.added c).heldAll t):=if_neg hf;have HO2:Hid ((r.added c).Oth t (P+1)):=r.added_oth t P c hO hcb hlt;have hfst:=hO.ok.first
  clear hf;go_enter func74,ntmps74
  go_wp2_with fail;go_quiet (fail);obtain⟨w1,hw1,C1,K1⟩:∃w1,w1=w.drewN nq∧Hid (Cv H b S t w1 r v0 es)∧Hid (Keep H b w w1):=⟨_,rfl,Cx.alike (w':=w.drewN nq) HC.out ⟨rfl,rfl,rfl⟩,Keep.alike ⟨rfl,rfl,rfl⟩⟩
  rw[<-hw1];clear hw1 y0 y77 x2;go_wp2_with fail;refine(zGy b c _ r C1.out.run hfst hlt).mono ?_;rintro e w2 ⟨rfl,hR2,hk2⟩;have C2:Hid (Cv H b S t w2 (r.added c) v0 es):=Cx.kept C1.out hk2 hR2 rfl;have K2:Hid (Keep H b w w2):=K1.out.trans (hk2 H);clear hk2 hR2 C1 K1;go_wp2_with fail;refine(zFm b H S t w2 (r.added c) es (P+1) (C+1) C2.out ok hact HO2.out (by omega) (by show es.length+(r.count+1)+xB r.opn<=C+1;omega) (by omega)).mono ?_;rintro e w3 ⟨rfl,v3,c3,k3⟩;have C3:Hid (Cv H b S t w3 (r.takeO t c).1 v3 (es++(r.takeO t c).2)∧Keep H b w w3):=⟨by rw[HF.out];exact c3,K2.out.trans k3⟩
  clear c3 k3;go_wp2_with fail;go_end0;exact⟨rfl,v3,C3.out.1,C3.out.2⟩
theorem zHh (r0:Rs){v0:Value}(es0:List Ev)(P C:Nat)(hC:Cv H b S t w r0 v0 es0)(ok:t.Ok)(hact:∀i,i<t.nrule->t.act i<4)(hO:r0.Oth t P)(hP:P<=1073741824)(hn:es0.length+r0.count+xB r0.opn<=C)(hC4:C<=4194304):
  Calls prog 85 #[pointer (some ⟨b,0,none⟩)] w fun e w'=>
   e=returned (tuple #[])∧∃v,Cv H b S t w' (r0.closeO t).1 v (es0++(r0.closeO t).2)∧Keep H b w w':=by
 have HC0:Hid (Cv H b S t w r0 v0 es0∧r0.Oth t P∧es0.length+r0.count+xB r0.opn<=C):=⟨hC,hO,hn⟩
 go_in;apply wp_cut;intro K HK;go_wp2;go_loopg [] (r0.count+xB r0.opn) (fun q wr=>∃(n:Nat) (r:Rs) (es:List Ev) (v:Value),q=r.count+xB r.opn∧r0.endN t n=(r,es)∧Cv H b S t wr r v (es0++es)∧Keep H b w wr∧r.Oth t P∧(es0++es).length+r.count+xB r.opn<=C)
 case atStart=>exact⟨0,r0,[],v0,rfl,rfl,by rw[dV];exact HC0.out.1,Keep.refl _ _ _,HC0.out.2.1,by rw[dV];exact HC0.out.2.2⟩
 case round=>
  obtain⟨n,r,es,v,hgk,hN,hC,hk,hO,hn⟩:=hrel;have AA:Hid (gk=r.count+xB r.opn∧r0.endN t n=(r,es)∧Cv H b S t wr r v (es0++es)∧Keep H b w wr∧r.Oth t P∧(es0++es).length+r.count+xB r.opn<=C):=⟨hgk,hN,hC,hk,hO,hn⟩
  have y1:=hC.run.get_opn;have y77:=hC.run.get_count;have hct:=hO.ok.count;have htk:=hO.tak;have hpp:=hO.pos;have hll:=hO.line;have hcl:=hO.col;by_cases hcond:0<r.count∧r.opn=true
  ·obtain⟨hlt,hop⟩:=hcond
   have i1:(0:Int)<(r.count:Int):=by omega
   rw[hop] at y1;have HOP:=vl hop;have INV:=r.endO_inv t P ok AA.out.2.2.2.2.1 hop hlt;have hB:=AA.out.2.2.2.2.2;rw[hop] at hB;have hB2:(es0++es).length+r.count+1<=C:=hB;obtain⟨l1,l2,l3,l4⟩:=r.long_inv t P ok AA.out.2.2.2.2.1 hop hlt;have HNX:Hid (r0.endN t (n+1)=((r.endO t).1,es++(r.endO t).2)):=by show _=_;rw[Rs.endN,AA.out.2.1,if_pos ⟨hlt,hop⟩]
   have HI:=vl INV;have HLG:=vl <| zAW b H S t wr r (es0++es) AA.out.2.2.1 (by omega) ok hact AA.out.2.2.2.2.1.ok (lY AA.out.2.2.2.2.1.len htk) AA.out.2.2.2.2.1.rule (by omega) (by omega) (by omega);have HL:Hid ((r.long t).1.Oth t P∧((es0++es)++(r.long t).2).length+(r.long t).1.count+xB (r.long t).1.opn<=C):=⟨l1,by rw[kX];omega⟩
   go_wp2_with fail;refine Calls.mono HLG.out ?_;rintro e w1 ⟨rfl,v1,c1,k1⟩;have C1:=vl c1;go_wp2_with fail;refine(zFm b H S t w1 (r.long t).1 ((es0++es)++(r.long t).2) P C C1.out ok hact HL.out.1 hP HL.out.2 hC4).mono ?_;rintro e w2 ⟨rfl,v2,c2,k2⟩;have CZ:Hid (Cv H b S t w2 (r.endO t).1 v2 (es0++(es++(r.endO t).2))∧Keep H b w w2):=by
    refine⟨?_,(AA.out.2.2.2.1.trans k1).trans k2⟩;rw[gV,gV] at c2;exact c2
   clear c2 k2 k1;go_wp2_with fail;go_roundg ((r.endO t).1.count+xB (r.endO t).1.opn)
   case measure=>rw[AA.out.1,HOP.out];exact HI.out.2.2.2
   case rel=>exact⟨n+1,(r.endO t).1,es++(r.endO t).2,v2,rfl,HNX.out,CZ.out.1,CZ.out.2,HI.out.1,by have h2:=HI.out.2.1;rw[kX,kX];rw[kX] at hB2;omega⟩
  ·have HE:Hid (r0.endAll t=(r,es)):=by
    show _=_;rw[<-r0.endAll_eq t P ok HC0.out.2.1 n (by rw[AA.out.2.1];exact hcond),AA.out.2.1]
   by_cases hop:r.opn=true
   ·have hc0:¬0<r.count:=fun h=>hcond ⟨h,hop⟩
    have i1:(r.count:Int)<=0:=by omega
    rw[hop] at y1;have HF:Hid (r0.closeO t=({r with opn:=false},es++[r.lastEv 2])):=by
     show _=_;unfold Rs.closeO;rw[HE.out,if_pos hop]
    clear hcond;go_wp2_with fail;apply HK.out;clear HK;go_wp2_with fail;refine(vH b H S t 2 _ r v _ _ AA.out.2.2.1 (by have:=AA.out.2.2.2.2.2;omega)).mono ?_;rintro e w2 ⟨rfl,ao,cap,c2,k2⟩;have C2:Hid (Cx _ _ _ _ _ _ _ _ _):=c2;clear c2;go_wp2_with fail;go_end0;refine⟨rfl,slice ao ((es0++es).length+1) cap,?_,AA.out.2.2.2.1.trans k2⟩;rw[HF.out];show Cv H b S t w2 _ _ (es0++(es++[r.lastEv 2]));unfold Cv;rw[<-gV,xS,kX (bs:=[r.lastEv 2])];exact C2.out
   ·have hop':r.opn=false:=by simpa using hop
    rw[hop'] at y1;have HF:Hid (r0.closeO t=(r,es)):=by
     show _=_;unfold Rs.closeO;rw[HE.out,if_neg hop]
    clear hcond hop hop';by_cases hc0:0<r.count
    ·have i1:(0:Int)<(r.count:Int):=by omega
     go_wp2_with fail;apply HK.out;clear HK;go_wp2_with fail;go_end0;exact⟨rfl,v,by rw[HF.out];exact AA.out.2.2.1,AA.out.2.2.2.1⟩
    ·have i1:(r.count:Int)<=0:=by omega
     go_wp2_with fail;apply HK.out;clear HK;go_wp2_with fail;go_end0;exact⟨rfl,v,by rw[HF.out];exact AA.out.2.2.1,AA.out.2.2.2.1⟩
end
def Rs.look (r:Rs)(t:Tb):Rs:={r with ahead:=t.further r.ahead t.count}
def Rs.ended (r:Rs):Rs×List Ev:=if r.opn=false then(r,[]) else({r with opn:=false},[r.lastEv (if r.hAt=r.bAt then 2 else 3)])
theorem zFt (b H:Nat)(S:Nat->Prop)(t:Tb)(w0 w:World)(r:Rs){v0:Value}(es:List Ev)(hC:Cv H b S t w r v0 es)(hn:es.length<=4194304)(hk:Keep H b w0 w)(f:Rs×List Ev)(hf:f=r.ended)
  {u1 u2 u3 u4 u5 u6 u7 u8 u9 u10 u11 u12 u13 u14 u15 u16 u17 u18 u19 u20 u21 u22 u23 u24 u25 u26 u27 u28 u29 u30 u31 u32 u33 u34 u35 u36 u37 u38 u39 u40 u41 u42 u43 u44 u45 u46 u47 u48 u49 u50 u51 u52 u53 u54 u55 u56 u57 u58 u59 u60 u61 u62 u63 u64 u65 u66 u67 u68 u69 u70 u71 u72 u73 u74 u75 u76 u77 u78 u79 u80 u81 u82 u83 u84:Value}:
  Code.wp prog (yS 3 ((f84.body).getD .skip)) (bodyPost prog f84 fun e w'=>
   e=returned (tuple #[])∧∃v,Cv H b S t w' f.1 v (es++f.2)∧Keep H b w0 w')
   ⟨(pointer (some ⟨b,0,none⟩)::u1::u2::u3::u4::u5::u6::u7::u8::u9::u10::u11::u12::u13::u14::u15::u16::u17::u18::u19::u20::u21::u22::u23::u24::u25::u26::u27::u28::u29::u30::u31::u32::u33::u34::u35::u36::u37::u38::u39::u40::u41::u42::u43::u44::u45::u46::u47::u48::u49::u50::u51::u52::u53::u54::u55::u56::u57::u58::u59::u60::u61::u62::u63::u64::u65::u66::u67::u68::u69::u70::u71::u72::u73::u74::u75::u76::u77::u78::u79::u80::u81::u82::u83::u84::[]).toArray,[]⟩ w:=by
 conv=>arg 2;whnf
 have HC:=vl hC;have J:=vl hk;have HF:=vl hf;have y1:=HC.out.run.get_opn;have y8:=HC.out.run.get_bAt;have y78:=HC.out.run.get_hAt;cases ho:r.opn
 ·rw[ho] at y1
  go_wp2;refine dZ (results_none rfl _ _ _) rfl ?_;refine⟨rfl,v0,?_,J.out⟩;rw[HF.out,Rs.ended,if_pos ho,dV];exact HC.out
 ·rw[ho] at y1
  by_cases he:r.hAt=r.bAt
  ·have hb:((r.hAt:Int)==(r.bAt:Int))=true:=by rw[beq_iff_eq];omega
   have HE:=vl he;go_wp2;go_quiet (fail);go_wp2_with fail;refine(vH b H S t 2 _ r v0 _ _ (Cx.alike (w':=w.drewN nq) HC.out ⟨rfl,rfl,rfl⟩) hn).mono ?_;rintro e w2 ⟨rfl,ao,cap,c2,k2⟩;have C2:=vl c2;go_wp2;go_end0;refine⟨rfl,slice ao (es.length+1) cap,?_,(J.out.trans (Keep.alike (w':=w.drewN nq) ⟨rfl,rfl,rfl⟩)).trans k2⟩;rw[HF.out,Rs.ended,if_neg (by rw[ho];decide),if_pos HE.out];unfold Cv;rw[xS,kX];exact C2.out
  ·have hb:((r.hAt:Int)==(r.bAt:Int))=false:=by rw[hJ];omega
   have HE:=vl he;go_wp2;go_quiet (fail);go_wp2_with fail;refine(vH b H S t 3 _ r v0 _ _ (Cx.alike (w':=w.drewN nq) HC.out ⟨rfl,rfl,rfl⟩) hn).mono ?_;rintro e w2 ⟨rfl,ao,cap,c2,k2⟩;have C2:=vl c2;go_wp2;go_end0;refine⟨rfl,slice ao (es.length+1) cap,?_,(J.out.trans (Keep.alike (w':=w.drewN nq) ⟨rfl,rfl,rfl⟩)).trans k2⟩;rw[HF.out,Rs.ended,if_neg (by rw[ho];decide),if_neg HE.out];unfold Cv;rw[xS,kX];exact C2.out
def Rs.drain (t:Tb):Nat->Rs->Rs×List Ev
 |0,r=>(r,[])
 |n+1,r=>if r.opn=false then(r,[]) else((Rs.drain t n ((r.look t).step t).1).1,((r.look t).step t).2++(Rs.drain t n ((r.look t).step t).1).2)
structure Rs.Fit (r:Rs)(t:Tb)(n:Nat):Prop where
 ok:r.Ok t
 ahead:r.ahead<t.rows
 hAt:r.hAt+n<2147483648
 hLine:r.hLine+n<2147483648
 hCol:r.hCol+n<2147483648
theorem Rs.look_ok (r:Rs)(t:Tb)(h:r.Ok t):(r.look t).Ok t:=⟨h.d1,h.d4,h.st,h.state,h.first,h.count,h.bytes⟩
theorem Rs.step_fit (r:Rs)(t:Tb)(n:Nat)(ok:t.Ok)(h:r.Fit t (n+1)):((r.look t).step t).1.Fit t n:=by
 have hs:=((r.look t).took t).fin_same t;have h1:=h.hAt;have h2:=h.hLine;have h3:=h.hCol;refine⟨((r.look t).took t).fin_ok t ok ((r.look t).took_ok t ok (r.look_ok t h.ok)),?_,?_,?_,?_⟩
 ·show(((r.look t).took t).fin t).1.ahead<t.rows
  rw[hs.ahead];exact gY _ ok.rows0
 ·show(((r.look t).took t).fin t).1.hAt+n<2147483648
  rw[hs.hAt];show r.hAt+1+n<2147483648;omega
 ·show(((r.look t).took t).fin t).1.hLine+n<2147483648
  rw[hs.hLine];show jL _ r.hLine+n<2147483648;unfold jL;split <;> omega
 ·show(((r.look t).took t).fin t).1.hCol+n<2147483648
  rw[hs.hCol];show zBb _ r.hCol+n<2147483648;unfold zBb;split <;> omega
theorem Rs.step_count (r:Rs)(t:Tb):((r.look t).step t).1.count=r.count-1:=(((r.look t).took t).fin_same t).count
theorem Rs.step_one (r:Rs)(t:Tb):((r.look t).step t).2.length<=1:=((r.look t).took t).fin_one t
theorem zIs (b H:Nat)(S:Nat->Prop)(t:Tb)(w0 w:World)(r:Rs){v0:Value}(es:List Ev)(hC:Cv H b S t w r v0 es)(hn:es.length+r.count<4194304)(ok:t.Ok)(hact:∀i,i<t.nrule->t.act i<4)(hfit:r.Fit t r.count)(hk:Keep H b w0 w)
  (f:Rs×List Ev) (hf:f=((Rs.drain t r.count r).1.ended.1,(Rs.drain t r.count r).2++(Rs.drain t r.count r).1.ended.2))
  {u1 u3 u4 u5 u6 u7 u8 u9 u10 u11 u12 u13 u14 u15 u16 u17 u18 u19 u20 u21 u22 u23 u24 u25 u26 u27 u28 u29 u30 u31 u32 u33 u34 u35 u36 u37 u38 u39 u40 u41 u42 u43 u44 u45 u46 u47 u48 u49 u50 u51 u52 u53 u54 u55 u56 u57 u58 u59 u60 u61 u62 u63 u64 u65 u66 u67 u68 u69 u70 u71 u72 u73 u74 u75 u76 u77 u78 u79 u80 u81 u82 u83 u84:Value}:
  Code.wp prog (yS 2 ((f84.body).getD .skip)) (bodyPost prog f84 fun e w'=>
   e=returned (tuple #[])∧∃v,Cv H b S t w' f.1 v (es++f.2)∧Keep H b w0 w')
   ⟨(pointer (some ⟨b,0,none⟩)::u1::int i64 (t.count:Int)::u3::u4::u5::u6::u7::u8::u9::u10::u11::u12::u13::u14::u15::u16::u17::u18::u19::u20::u21::u22::u23::u24::u25::u26::u27::u28::u29::u30::u31::u32::u33::u34::u35::u36::u37::u38::u39::u40::u41::u42::u43::u44::u45::u46::u47::u48::u49::u50::u51::u52::u53::u54::u55::u56::u57::u58::u59::u60::u61::u62::u63::u64::u65::u66::u67::u68::u69::u70::u71::u72::u73::u74::u75::u76::u77::u78::u79::u80::u81::u82::u83::u84::[]).toArray,[]⟩ w:=by
 conv=>arg 2;whnf
 refine wp_seq_k ?_;intro K hK0;have HK:=vl hK0;have HC:=vl hC;have J:=vl hk;have HF:=vl hf;clear hC hk hf hK0;go_wp2;go_loopg [] r.count (fun k wr=>∃(r':Rs) (v':Value) (es':List Ev),k=r'.count∧Cv H b S t wr r' v' es'∧Keep H b w0 wr∧r'.Fit t r'.count∧es'.length+r'.count<4194304∧
  f.1=(Rs.drain t r'.count r').1.ended.1∧es++f.2=es'++((Rs.drain t r'.count r').2++(Rs.drain t r'.count r').1.ended.2))
 case atStart=>exact⟨r,v0,es,rfl,HC.out,J.out,hfit,hn,by rw[HF.out],by rw[HF.out]⟩
 case round=>
  obtain⟨r',v',es',hgk,hC',hk',hfit',hn',hf1,hf2⟩:=hrel;have A:Hid (gk=r'.count∧Cv H b S t wr r' v' es'∧Keep H b w0 wr∧f.1=(Rs.drain t r'.count r').1.ended.1∧es++f.2=es'++((Rs.drain t r'.count r').2++(Rs.drain t r'.count r').1.ended.2)):=⟨hgk,hC',hk',hf1,hf2⟩
  have y0:=hC'.run.get_tp;have y1:=hC'.run.get_opn;have y77:=hC'.run.get_count;have y81:=hC'.run.get_ahead;have z81:=hC'.run.frozen 81;by_cases hc0:r'.count=0
  ·have hc1:¬(0:Int)<(r'.count:Int):=by omega
   have H0:=vl hc0;go_wp2;apply HK.out;obtain⟨_,hC',hk',hf1,hf2⟩:=A.out;have hd:Rs.drain t r'.count r'=(r',[]):=by rw[H0.out];rfl
   rw[hd] at hf1 hf2;rw[hf1,show es++f.2=es'++r'.ended.2 from hf2];exact zFt b H S t w0 _ r' es' hC' (by omega) hk' _ rfl
  ·have hc1:(0:Int)<(r'.count:Int):=by omega
   cases ho:r'.opn
   ·rw[ho] at y1
    go_wp2;apply HK.out;obtain⟨_,hC',hk',hf1,hf2⟩:=A.out;have hd:Rs.drain t r'.count r'=(r',[]):=by cases hn0:r'.count with|zero=>rfl|succ n=>rw[Rs.drain,if_pos ho]
    rw[hd] at hf1 hf2;rw[hf1,show es++f.2=es'++r'.ended.2 from hf2];exact zFt b H S t w0 _ r' es' hC' (by omega) hk' _ rfl
   ·rw[ho] at y1
    have Ho:=vl ho;have tb4:=vl <| (Cx.alike (w':=wr.drew) A.out.2.1 ⟨rfl,rfl,rfl⟩).tab;have hct:=ok.count;have hrw:=ok.rows;have hah:=hfit'.ahead;go_wp2;go_region_with ((go_at_call 108;go_must ((refine (zAY r'.tp _ S t tb4.out ok r'.ahead t.count (by omega) (by omega)).mono ?_;rintro e w5 ⟨rfl,ha5⟩;have q81:=(ha5.cell ⟨b,81,none⟩).trans y81;have z5:=(ha5.frozen ⟨b,81,none⟩).trans z81))))
    all_goals
     have c5:=vl <| Cx.alike A.out.2.1 ha5;have k5:=vl <| A.out.2.2.1.trans (Keep.alike ha5);have c6:=vl <| Cx.stored c5.out 81 _ (c5.out.run.set_ahead (t.further r'.ahead t.count)) rfl;clear tb4 ha5 c5;go_wp2_with fail;refine(zHB b H S t _ (r'.look t) es' c6.out (by omega) ok hact (r'.look_ok t hfit'.ok) (by show 1<=r'.count;omega) (gY _ ok.rows0) (by have:=hfit'.hAt;show r'.hAt<_;omega) (by have:=hfit'.hLine;show r'.hLine<_;omega) (by have:=hfit'.hCol;show r'.hCol<_;omega)).mono ?_;rintro e w7 ⟨rfl,v7,c7,k7⟩;have C7:Hid (Cv H b S t w7 ((r'.look t).step t).1 v7 (es'++((r'.look t).step t).2)∧Keep H b w0 w7):=⟨c7,(k5.out.trans (Keep.set _ _ _)).trans k7⟩
     clear c7 k7;go_wp2_with fail;go_roundg ((r'.look t).step t).1.count
     case measure=>rw[A.out.1,Rs.step_count];omega
     case rel=>
      obtain⟨hgk,_,_,hf1,hf2⟩:=A.out;obtain⟨m,hm⟩:∃m,r'.count=m+1:=⟨r'.count-1,by omega⟩
      have hsc:((r'.look t).step t).1.count=m:=by rw[Rs.step_count,hm];rfl
      have hone:=r'.step_one t;rw[hm,Rs.drain,if_neg (by rw[Ho.out];decide)] at hf1 hf2;refine⟨((r'.look t).step t).1,v7,es'++((r'.look t).step t).2,rfl,C7.out.1,C7.out.2,?_,?_,?_,?_⟩
      ·rw[hsc];exact r'.step_fit t m ok (by rw[<-hm];exact hfit')
      ·rw[hsc,kX];omega
      ·rw[hsc];exact hf1
      ·rw[hsc,hf2];simp[gV]
def Tb.aheadTo (t:Tb)(a:Nat):Nat->Nat
 |0=>a
 |j+1=>t.further (t.aheadTo a j) t.count
theorem Tb.aheadTo_lt (t:Tb)(ok:t.Ok)(a j:Nat)(h:a<t.rows):t.aheadTo a j<t.rows:=by
 cases j with
 |zero=>exact h
 |succ j=>exact gY _ ok.rows0
def Rs.pad (r:Rs)(t:Tb)(j:Nat):Rs:={r with ahead:=t.aheadTo r.ahead j}
theorem Rs.pad_ok (r:Rs)(t:Tb)(j:Nat)(h:r.Ok t):(r.pad t j).Ok t:=⟨h.d1,h.d4,h.st,h.state,h.first,h.count,h.bytes⟩
def Rs.closed (r:Rs)(t:Tb):Rs×List Ev:=
 let d:=Rs.drain t r.count (r.pad t (t.ahead-r.count))
 (d.1.ended.1,d.2++d.1.ended.2)
theorem zLy (b H:Nat)(S:Nat->Prop)(t:Tb)(w0 w:World)(r:Rs){v0:Value}(es:List Ev)(hC:Cv H b S t w r v0 es)(hn:es.length+r.count<4194304)(ok:t.Ok)(hact:∀i,i<t.nrule->t.act i<4)(hfit:r.Fit t r.count)(hk:Keep H b w0 w)
  (f:Rs×List Ev) (hf:f=r.closed t)
  {u1 u3 u4 u5 u6 u7 u8 u9 u10 u11 u12 u13 u14 u15 u16 u17 u18 u19 u20 u21 u22 u23 u24 u25 u26 u27 u28 u29 u30 u31 u32 u33 u34 u35 u36 u37 u38 u39 u40 u41 u42 u43 u44 u45 u46 u47 u48 u49 u50 u51 u52 u53 u54 u55 u56 u57 u58 u59 u60 u61 u62 u63 u64 u65 u66 u67 u68 u69 u70 u71 u72 u73 u74 u75 u76 u77 u78 u79 u80 u81 u82 u83 u84:Value}:
  Code.wp prog (yS 1 ((f84.body).getD .skip)) (bodyPost prog f84 fun e w'=>
   e=returned (tuple #[])∧∃v,Cv H b S t w' f.1 v (es++f.2)∧Keep H b w0 w')
   ⟨(pointer (some ⟨b,0,none⟩)::u1::int i64 (t.count:Int)::u3::u4::u5::u6::u7::u8::u9::u10::u11::u12::u13::u14::u15::u16::u17::u18::u19::u20::u21::u22::u23::u24::u25::u26::u27::u28::u29::u30::u31::u32::u33::u34::u35::u36::u37::u38::u39::u40::u41::u42::u43::u44::u45::u46::u47::u48::u49::u50::u51::u52::u53::u54::u55::u56::u57::u58::u59::u60::u61::u62::u63::u64::u65::u66::u67::u68::u69::u70::u71::u72::u73::u74::u75::u76::u77::u78::u79::u80::u81::u82::u83::u84::[]).toArray,[]⟩ w:=by
 conv=>arg 2;whnf
 refine wp_seq_k ?_;intro K hK0;have HK:=vl hK0;have HC:=vl hC;have J:=vl hk;have HF:=vl hf;have y77:w.cell? ⟨b,77,none⟩=some (int i64 r.count):=hC.run.get_count;clear hC hk hf hK0;have hA:=ok.ahead;have hc64:=hfit.ok.count;have hct:=ok.count;have hrw:=ok.rows;go_wp2;go_loopg [3] (t.ahead-r.count) (fun k i wr=>∃j:Nat,k=t.ahead-r.count-j∧j<=t.ahead-r.count∧i=int i64 ((r.count:Int)+(j:Int))∧Cv H b S t wr (r.pad t j) v0 es∧Keep H b w0 wr)
 case atStart=>exact⟨0,rfl,lX,congrArg (Value.int IntKind.i64) (by omega),HC.out,J.out⟩
 case round=>
  obtain⟨j,hgk,hj,rfl,hC',hk'⟩:=hrel;have A:Hid (gk=t.ahead-r.count-j∧Cv H b S t wr (r.pad t j) v0 es∧Keep H b w0 wr):=⟨hgk,hC',hk'⟩
  have y0:wr.cell? ⟨b,0,none⟩=some (pointer (some ⟨r.tp,0,none⟩)):=hC'.run.get_tp;have y81:wr.cell? ⟨b,81,none⟩=some (int i64 (t.aheadTo r.ahead j:Nat)):=hC'.run.get_ahead;have z81:=hC'.run.frozen 81;have x1:wr.cell? ⟨r.tp,1,none⟩=some (int i64 t.ahead):=hC'.tab.c1;have hlt:=t.aheadTo_lt ok r.ahead j hfit.ahead;have HS:Hid (t.aheadTo r.ahead (j+1)=t.further (t.aheadTo r.ahead j) t.count):=rfl;by_cases hjl:j<t.ahead-r.count
  ·have hl:(r.count:Int)+(j:Int)<(t.ahead:Int):=by omega
   have tb4:=vl <| (Cx.alike (w':=wr.drew) A.out.2.1 ⟨rfl,rfl,rfl⟩).tab;generalize t.aheadTo r.ahead j=a at *;go_wp2;go_region_with ((go_at_call 108;go_must ((refine (zAY r.tp _ S t tb4.out ok a t.count (by omega) (by omega)).mono ?_;rintro e w5 ⟨rfl,ha5⟩;have q81:w5.cell? ⟨b,81,none⟩=some (int i64 (a:Nat)):=(ha5.cell ⟨b,81,none⟩).trans y81;have z5:w5.frozen? ⟨b,81,none⟩=false:=(ha5.frozen ⟨b,81,none⟩).trans z81))))
   all_goals
    have c5:=vl <| Cx.alike A.out.2.1 ha5;have k5:=vl <| A.out.2.2.trans (Keep.alike ha5);have c6:Hid (Cv H b S t (w5.setCell ⟨b,81,none⟩ (int i64 (t.further a t.count:Nat))) (r.pad t (j+1)) v0 es):=by
     have h:=Cx.stored c5.out 81 _ (c5.out.run.set_ahead (t.further a t.count)) rfl;rw[<-HS.out] at h ⊢;exact h
    go_wp2;go_roundg (t.ahead-r.count-(j+1))
    case measure=>rw[A.out.1];omega
    case rel=>exact⟨j+1,rfl,by omega,congrArg (Value.int IntKind.i64) (by omega),c6.out,k5.out.trans (Keep.set _ _ _)⟩
  ·have hl:(t.ahead:Int)<=(r.count:Int)+(j:Int):=by omega
   have hje:Hid (j=t.ahead-r.count):=by show j=_;omega
   go_wp2;apply HK.out;refine zIs b H S t w0 _ (r.pad t j) es A.out.2.1 hn ok hact ⟨r.pad_ok t j hfit.ok,hlt,hfit.hAt,hfit.hLine,hfit.hCol⟩ A.out.2.2 f ?_;rw[HF.out,hje.out];rfl
theorem zDh (b H:Nat)(S:Nat->Prop)(t:Tb)(w:World)(r:Rs){v0:Value}(es:List Ev)(hC:Cv H b S t w r v0 es)(hn:es.length+r.count<4194304)(ok:t.Ok)(hact:∀i,i<t.nrule->t.act i<4)(hfit:r.Fit t r.count):
  Calls prog 84 #[pointer (some ⟨b,0,none⟩)] w fun e w'=>
   e=returned (tuple #[])∧∃v,Cv H b S t w' (r.closed t).1 v (es++(r.closed t).2)∧Keep H b w w':=by
 have HC:=vl hC;have y0:=hC.run.get_tp;go_in;apply wp_cut;intro K H0;go_wp2_with fail;refine(zLn r.tp _ S t HC.out.tab).mono ?_;rintro e w1 ⟨rfl,ha1⟩;go_wp2;apply H0.out;exact zLy b H S t w _ r es (Cx.alike HC.out ha1) hn ok hact hfit (Keep.alike ha1) _ rfl
section
variable (r:Rs) (t:Tb)
structure Rs.Str (r:Rs)(t:Tb)(P:Nat):Prop where
 ok:r.Ok t
 ahead:r.ahead<t.rows
 cnt:r.count<=t.ahead
 pos:r.hAt+r.count<=P
 line:r.hLine<=r.hAt+1
 col:r.hCol<=r.hAt+1
theorem Rs.step_opn:((r.step t).1.opn=r.opn∨(r.step t).2≠[])∧((r.step t).1.opn=true->r.opn=true)∧(r.step t).2.length<=1:=by
 have h1:=(r.took t).fin_one t;refine⟨?_,?_,h1⟩
 ·show((r.took t).fin t).1.opn=r.opn∨((r.took t).fin t).2≠[]
  unfold Rs.fin;split
  ·exact((r.took t).tok_opn t _ _ _ _).1
  ·split
   ·exact .inr (by simp)
   ·exact .inl rfl
 ·show((r.took t).fin t).1.opn=true->r.opn=true
  unfold Rs.fin;split
  ·exact((r.took t).tok_opn t _ _ _ _).2.1
  ·split
   ·intro h;cases h
   ·exact id
theorem Rs.take_inv (P c:Nat)(ok:t.Ok)(h:r.Str t P)(hc:c<256)(ho:r.opn=true):
  (r.take t c).1.Str t (P+1)∧(r.take t c).2.length+(r.take t c).1.count+xB (r.take t c).1.opn<=r.count+2∧((r.take t c).1.opn=true∨(r.take t c).2≠[]):=by
 have hA:=ok.ahead;have hcn:=h.cnt;have hps:=h.pos;have hln:=h.line;have hcl:=h.col;have hok:((r.added c).looked t (t.kind c)).Ok t:=let h:=r.added_ok t c h.ok hc (by omega);⟨h.d1,h.d4,h.st,h.state,h.first,h.count,h.bytes⟩;unfold Rs.take Rs.due;generalize hq:(r.added c).looked t (t.kind c)=q at *;have e1:q.count=r.count+1:=by rw[<-hq];rfl
 have e2:q.hAt=r.hAt:=by rw[<-hq];rfl
 have e3:q.hLine=r.hLine:=by rw[<-hq];rfl
 have e4:q.hCol=r.hCol:=by rw[<-hq];rfl
 have e5:q.opn=true:=by rw[<-hq];exact ho
 have e6:q.ahead<t.rows:=by rw[<-hq];exact gY _ ok.rows0
 have o1:xB true=1:=rfl;split
 ·rename_i hd
  obtain⟨s1,s2,s3⟩:=q.step_opn t;have hs:=(q.took t).fin_same t;have f1:(q.step t).1.count=q.count-1:=hs.count;have f2:(q.step t).1.hAt=q.hAt+1:=hs.hAt;have f3:(q.step t).1.hLine<=q.hLine+1:=by
   have e:(q.step t).1.hLine=jL (q.byte q.first) q.hLine:=hs.hLine;rw[e];unfold jL;split <;> omega
  have f4:(q.step t).1.hCol<=q.hCol+1:=by
   have e:(q.step t).1.hCol=zBb (q.byte q.first) q.hCol:=hs.hCol;rw[e];unfold zBb;split <;> omega
  have f5:(q.step t).1.ahead=q.ahead:=hs.ahead;have f6:=(q.took t).fin_ok t ok (q.took_ok t ok hok);have f7:xB (q.step t).1.opn<=1:=by unfold xB;split <;> omega
  exact⟨⟨f6,by omega,by omega,by omega,by omega,by omega⟩,by omega,by rw[e5] at s1;exact s1⟩
 ·rename_i hd
  refine⟨⟨hok,e6,by show q.count<=t.ahead;omega,by show q.hAt+q.count<=P+1;omega,by show q.hLine<=q.hAt+1;omega,by show q.hCol<=q.hAt+1;omega⟩,?_,.inl e5⟩;show 0+q.count+xB q.opn<=r.count+2;rw[e5];omega
def Rs.Good (r:Rs)(t:Tb)(P:Nat):Prop:=if t.stream then r.Str t P else r.Oth t P
theorem Rs.Good.ok {r:Rs}{t:Tb}{P:Nat}(h:r.Good t P):r.Ok t:=by
 unfold Rs.Good at h;split at h
 ·exact h.ok
 ·exact h.ok
theorem Rs.Good.cnt {r:Rs}{t:Tb}{P:Nat}(h:r.Good t P):r.count<=P:=by
 unfold Rs.Good at h;split at h
 ·have:=h.pos;omega
 ·have:=h.pos;omega
def Rs.eat (r:Rs)(t:Tb)(c:Nat):Rs×List Ev:=if t.stream then r.take t c else r.takeO t c
theorem Rs.eat_inv (P c:Nat)(ok:t.Ok)(h:r.Good t P)(hc:c<256)(ho:r.opn=true):
  (r.eat t c).1.Good t (P+1)∧(r.eat t c).2.length+(r.eat t c).1.count+xB (r.eat t c).1.opn<=r.count+2∧((r.eat t c).1.opn=true∨(r.eat t c).2≠[]):=by
 unfold Rs.eat Rs.Good at *;split
 ·rename_i hs
  rw[if_pos hs] at h;exact r.take_inv t P c ok h hc ho
 ·rename_i hs
  rw[if_neg hs] at h;exact r.takeO_inv t P c ok h hc ho
def Rs.feed (t:Tb):List Nat->Rs->Rs×List Ev
 |[],r=>(r,[])
 |c::cs,r=>if r.opn then((Rs.feed t cs (r.eat t c).1).1,(r.eat t c).2++(Rs.feed t cs (r.eat t c).1).2) else(r,[])
theorem Rs.feed_shut (cs:List Nat)(r:Rs)(h:r.opn=false):Rs.feed t cs r=(r,[]):=by
 cases cs with
 |nil=>rfl
 |cons c cs=>unfold Rs.feed;rw[if_neg (by rw[h];decide)]
theorem Rs.feed_append (xs bs:List Nat)(r:Rs):Rs.feed t (xs++bs) r=((Rs.feed t bs (Rs.feed t xs r).1).1,(Rs.feed t xs r).2++(Rs.feed t bs (Rs.feed t xs r).1).2):=by
 induction xs generalizing r with
 |nil=>simp[Rs.feed]
 |cons c xs ih=>
  by_cases h:r.opn=true
  ·simp only[List.cons_append,Rs.feed,h,if_true,ih,gV]
  ·have h':r.opn=false:=by simpa using h
   rw[Rs.feed_shut t _ r h',Rs.feed_shut t _ r h'];rw[Rs.feed_shut t _ r h',dV]
theorem Rs.feed_snoc (cs:List Nat)(c:Nat)(r:Rs)(h:(Rs.feed t cs r).1.opn=true):Rs.feed t (cs++[c]) r=(((Rs.feed t cs r).1.eat t c).1,(Rs.feed t cs r).2++((Rs.feed t cs r).1.eat t c).2):=by
 rw[Rs.feed_append];simp[Rs.feed,h]
theorem Rs.feed_inv (ok:t.Ok)(cs:List Nat)(r:Rs)(P:Nat)(h:r.Good t P)(hc:∀c∈cs,c<256):
  (Rs.feed t cs r).1.Good t (P+cs.length)∧(Rs.feed t cs r).2.length+(Rs.feed t cs r).1.count+xB (Rs.feed t cs r).1.opn<=r.count+xB r.opn+cs.length∧((Rs.feed t cs r).1.opn=r.opn∨(Rs.feed t cs r).2≠[]):=by
 induction cs generalizing r P with
 |nil=>exact⟨h,by simp[Rs.feed],.inl rfl⟩
 |cons c cs ih=>
  by_cases ho:r.opn=true
  ·obtain⟨a1,a2,a3⟩:=r.eat_inv t P c ok h (hc c gW) ho
   obtain⟨b1,b2,b3⟩:=ih (r.eat t c).1 (P+1) a1 fun x hx=>hc x (List.mem_cons_of_mem _ hx);have e:Rs.feed t (c::cs) r=((Rs.feed t cs (r.eat t c).1).1,(r.eat t c).2++(Rs.feed t cs (r.eat t c).1).2):=by
    rw[Rs.feed,if_pos ho]
   rw[e,ho];have o1:xB true=1:=rfl;refine⟨?_,?_,?_⟩
   ·rw[gZ,Nat.add_comm cs.length,<-Nat.add_assoc];exact b1
   ·rw[kX,gZ]
    show(r.eat t c).2.length+(Rs.feed t cs (r.eat t c).1).2.length+(Rs.feed t cs (r.eat t c).1).1.count+xB (Rs.feed t cs (r.eat t c).1).1.opn<=_;omega
   ·show(Rs.feed t cs (r.eat t c).1).1.opn=true∨(r.eat t c).2++(Rs.feed t cs (r.eat t c).1).2≠[]
    by_cases e1:(r.eat t c).2=[]
    ·by_cases e2:(Rs.feed t cs (r.eat t c).1).2=[]
     ·left
      rw[b3.resolve_right (fun h=>h e2)];exact a3.resolve_right (fun h=>h e1)
     ·right;simp[e2]
    ·right;simp[e1]
  ·have h':r.opn=false:=by simpa using ho
   rw[Rs.feed_shut t _ r h'];refine⟨?_,?_,.inl rfl⟩
   ·unfold Rs.Good at *
    split
    ·rename_i hs
     rw[if_pos hs] at h;exact⟨h.ok,h.ahead,h.cnt,lY h.pos (Nat.le_add_right _ _),h.line,h.col⟩
    ·rename_i hs
     rw[if_neg hs] at h;exact⟨h.ok,h.len,h.tak,h.rule,lY h.pos (Nat.le_add_right _ _),h.line,h.col1,h.col⟩
   ·show 0+r.count+xB r.opn<=_
    omega
def Rs.shut (r:Rs)(t:Tb):Rs×List Ev:=if r.opn then(if t.stream then r.closed t else r.closeO t) else(r,[])
theorem Rs.drain_end (n:Nat)(r:Rs):((Rs.drain t n r).1.opn=r.opn∨(Rs.drain t n r).2≠[])∧(Rs.drain t n r).2.length<=n:=by
 induction n generalizing r with
 |zero=>exact⟨.inl rfl,lQ⟩
 |succ n ih=>
  rw[Rs.drain];split
  ·exact⟨.inl rfl,lX⟩
  ·obtain⟨s1,s2,s3⟩:=(r.look t).step_opn t
   obtain⟨i1,i2⟩:=ih ((r.look t).step t).1
   constructor
   ·show(Rs.drain t n ((r.look t).step t).1).1.opn=r.opn∨((r.look t).step t).2++(Rs.drain t n ((r.look t).step t).1).2≠[]
    by_cases e1:((r.look t).step t).2=[]
    ·by_cases e2:(Rs.drain t n ((r.look t).step t).1).2=[]
     ·left
      rw[i1.resolve_right (fun h=>h e2)];exact s1.resolve_right (fun h=>h e1)
     ·right;simp[e2]
    ·right;simp[e1]
   ·show(((r.look t).step t).2++(Rs.drain t n ((r.look t).step t).1).2).length<=n+1
    rw[kX];omega
theorem Rs.closed_end (ho:r.opn=true):(r.closed t).1.opn=false∧(r.closed t).2≠[]∧(r.closed t).2.length<=r.count+1:=by
 obtain⟨d1,d2⟩:=Rs.drain_end t r.count (r.pad t (t.ahead-r.count));have ho':(r.pad t (t.ahead-r.count)).opn=true:=ho;rw[ho'] at d1;unfold Rs.closed;simp only;generalize Rs.drain t r.count (r.pad t (t.ahead-r.count))=d at *;unfold Rs.ended;split
 ·rename_i h
  refine⟨h,?_,?_⟩
  ·have:=d1.resolve_left (by rw[h];decide)
   simpa using this
  ·simp;omega
 ·exact⟨rfl,by simp,by simp;omega⟩
theorem Rs.shut_end (P:Nat)(ok:t.Ok)(h:r.Good t P)(ho:r.opn=true):(r.shut t).1.opn=false∧(r.shut t).2≠[]:=by
 unfold Rs.shut;rw[if_pos ho];unfold Rs.Good at h;split
 ·exact⟨(r.closed_end t ho).1,(r.closed_end t ho).2.1⟩
 ·rename_i hs
  rw[if_neg hs] at h;exact r.closeO_end t P ok h ho
def nats (s:ByteArray):List Nat:=s.data.toList.map UInt8.toNat
theorem zCb (s:ByteArray):∀c∈nats s,c<256:=by
 intro c hc;obtain⟨x,_,rfl⟩:=List.mem_map.1 hc;exact x.toNat_lt
theorem vG (s:ByteArray):(nats s).length=s.size:=by
 unfold nats;rw[kV,Array.length_toList];rfl
end
def zJU (i:Nat):Value:=if i=0 then pointer none else if i=1 then bool false else if i=2 then slice none 0 0 else if 12<=i∧i<76 then int .u8 0 else int i64 0
theorem zB3:zeroCells102=((List.range 85).map zJU).toArray:=by kernel_rfl
theorem zG7:(prog.info? 102).map (·.size)=some 85:=by kernel_rfl
def Rs.zero (p:Nat):Rs:=⟨p,true,fun _=>0,0,0,1,1,0,fun _=>0,0,0,0,1,1,0,0,0,0⟩
def jK (z:Array Value)(p:Nat):Array Value:=(((((((z.setIfInBounds 0 (pointer (some ⟨p,0,none⟩))).setIfInBounds 1 (bool true)).setIfInBounds 8 (int i64 0)).setIfInBounds 9 (int i64 1)).setIfInBounds 10 (int i64 1)).setIfInBounds 78 (int i64 0)).setIfInBounds 79 (int i64 1)).setIfInBounds 80 (int i64 1)
theorem zAd (p:Nat):(jK zeroCells102 p).size=85:=by unfold jK;rw[zB3];simp
theorem zDZ (p i:Nat)(hi:i<85):(jK zeroCells102 p)[i]? =some ((Rs.zero p).cells (slice none 0 0) i):=by
 unfold jK;rw[zB3];simp only[Array.getElem?_setIfInBounds,Array.size_setIfInBounds,List.getElem?_toArray,List.size_toArray,kV,List.length_range,gU];rw[List.getElem?_range hi];unfold Rs.cells zJU Rs.zero;simp only[Option.map_some];by_cases h0:i=0
 ·subst h0;rfl
 by_cases h1:i=1
 ·subst h1;rfl
 by_cases h2:i=2
 ·subst h2;rfl
 by_cases h8:i=8
 ·subst h8;rfl
 by_cases h9:i=9
 ·subst h9;rfl
 by_cases h10:i=10
 ·subst h10;rfl
 by_cases h78:i=78
 ·subst h78;rfl
 by_cases h79:i=79
 ·subst h79;rfl
 by_cases h80:i=80
 ·subst h80;rfl
 rw[if_neg (Ne.symm h80),if_neg (Ne.symm h79),if_neg (Ne.symm h78),if_neg (Ne.symm h10),if_neg (Ne.symm h9),if_neg (Ne.symm h8),if_neg (Ne.symm h1),if_neg (Ne.symm h0)];simp only[h0,h1,h2,h8,h9,h10,h78,h79,h80,if_false];by_cases hb:12<=i∧i<76
 ·rw[if_pos hb]
  repeat rw[if_neg (by omega)]
  rfl
 ·rw[if_neg hb]
  by_cases h3:i=3
  ·subst h3;rfl
  by_cases h4:i=4
  ·subst h4;rfl
  by_cases h5:i=5
  ·subst h5;rfl
  by_cases h6:i=6
  ·subst h6;rfl
  by_cases h7:i=7
  ·subst h7;rfl
  by_cases h11:i=11
  ·subst h11;rfl
  by_cases h76:i=76
  ·subst h76;rfl
  by_cases h77:i=77
  ·subst h77;rfl
  by_cases h81:i=81
  ·subst h81;rfl
  by_cases h82:i=82
  ·subst h82;rfl
  by_cases h83:i=83
  ·subst h83;rfl
  have h84:i=84:=by omega
  subst h84;rfl
theorem zMm {H:Nat}(w:World)(g i:Nat)(x:Value)(hg:H<=g):Keep H H w (w.setCell ⟨g,i,none⟩ x):=⟨rfl,rfl,by simp[World.setCell],fun k h1 _=>lJ _ _ _ _ (by show k≠g;omega)⟩
theorem yF {c:Prop}[Decidable c] {x y:Value}(hx:x.oneCell'=true)(hy:y.oneCell'=true):(if c then x else y).oneCell'=true:=by split <;> assumption
theorem Rs.cells_one (r:Rs)(v:Value)(j:Nat)(hv:v.oneCell'=true):(r.cells v j).oneCell'=true:=by
 unfold Rs.cells;exact yF rfl (yF rfl (yF hv (yF rfl (yF rfl (yF rfl (yF rfl (yF rfl (yF rfl (yF rfl (yF rfl (yF rfl (yF rfl (yF rfl (yF rfl (yF rfl (yF rfl (yF rfl (yF rfl (yF rfl (yF rfl rfl))))))))))))))))))))
theorem zGw (r:Rs)(v:Value)(hv:v.oneCell'=true)(C:Array Value)(hs:C.size=85)(h:∀i,i<85->C[i]? =some (r.cells v i)):C.all (·.oneCell')=true:=by
 rw[Array.all_eq_true];intro i hi;have e:=h i (by omega);rw[Array.getElem?_eq_getElem hi] at e;rw[hU e];exact r.cells_one v i hv
theorem zIA (p:Nat)(S:Nat->Prop)(t:Tb)(w:World)(hT:TabAt w S p t)(hS:∀k,S k->k<w.heap.size)(ok:t.Ok):
  Calls prog 49 #[pointer (some ⟨p,0,none⟩)] w fun e w'=>∃c:Array Value,e=returned (agg c)∧c.size=85∧(∀i,i<85->c[i]? =some (({Rs.zero p with stack:=fun _=>0,depth:=1,state:=t.start 0}:Rs).cells (slice none 0 0) i))∧Grew w w':=by
 have hst:(storeCells {block:=w.heap.size+1+1,off:=0} ((((((((zeroCells102.toList.set 0 (Value.pointer (some {block:=p,off:=0}))).set 1 (Value.bool true)).set 8 (Value.int IntKind.i64 0)).set 9 (Value.int IntKind.i64 1)).set 10 (Value.int IntKind.i64 1)).set 78 (Value.int IntKind.i64 0)).set 79 (Value.int IntKind.i64 1)).set 80 (Value.int IntKind.i64 1))).run prog
   (((w.alloc (Obj.cells zeroCells102 102)).alloc (Obj.cells #[Value.int IntKind.i64 0,Value.int IntKind.i64 1,Value.int IntKind.i64 1] 97)).alloc (Obj.cells zeroCells102 102))=
   .ok () (((w.alloc (Obj.cells zeroCells102 102)).alloc (Obj.cells #[Value.int IntKind.i64 0,Value.int IntKind.i64 1,Value.int IntKind.i64 1] 97)).alloc (Obj.cells (jK zeroCells102 p) 102)):=by
  have h:=run_storeCells_new (P:=prog) ((w.alloc (Obj.cells zeroCells102 102)).alloc (Obj.cells #[Value.int IntKind.i64 0,Value.int IntKind.i64 1,Value.int IntKind.i64 1] 97)) 102 zeroCells102 (jK zeroCells102 p) (by rw[zAd];exact zG7) (by rw[zAd,zB3];simp) (zGw (Rs.zero p) (slice none 0 0) rfl _ (zAd p) (zDZ p));rw[show ((w.alloc (Obj.cells zeroCells102 102)).alloc (Obj.cells #[Value.int IntKind.i64 0,Value.int IntKind.i64 1,Value.int IntKind.i64 1] 97)).heap.size=w.heap.size+1+1 by simp] at h;simpa only[jK,Array.toList_setIfInBounds] using h
 have HT:Hid (TabAt w S p t∧∀k,S k->k<w.heap.size):=⟨hT,hS⟩
 go_in;apply wp_cut;intro K0 J;go_wp2;apply J.out;apply wp_cut;intro K1 HK1;go_wp2;apply HK1.out;apply wp_cut;intro K2 HK2;go_wp2;apply HK2.out;obtain⟨w3,hw3,A3⟩:∃w3,w3=(((w.alloc (Obj.cells zeroCells102 102)).alloc (Obj.cells #[Value.int IntKind.i64 0,Value.int IntKind.i64 1,Value.int IntKind.i64 1] 97)).alloc (Obj.cells (jK zeroCells102 p) 102))∧
   Hid (zL w3 (w.heap.size+1+1) (Rs.zero p) (slice none 0 0)∧w3.heap[w.heap.size]? =some (.cells zeroCells102 102 (0,0))∧TabAt w3 S p t∧Grew w w3∧w.heap.size+3<=w3.heap.size):=by
  have hn:=gJ ((w.alloc (Obj.cells zeroCells102 102)).alloc (Obj.cells #[Value.int IntKind.i64 0,Value.int IntKind.i64 1,Value.int IntKind.i64 1] 97)) (Obj.cells (jK zeroCells102 p) 102);rw[show ((w.alloc (Obj.cells zeroCells102 102)).alloc (Obj.cells #[Value.int IntKind.i64 0,Value.int IntKind.i64 1,Value.int IntKind.i64 1] 97)).heap.size=w.heap.size+1+1 by simp] at hn;refine⟨_,rfl,⟨_,_,hn,zAd p,fun i hi=>zDZ p i hi⟩,?_,?_,?_,by simp⟩
  ·exact(lG _ _ _ (by simp;omega)).trans ((lG _ _ _ (by simp)).trans (gJ w _))
  ·exact HT.out.1.keep fun k hk=>by
    have:=HT.out.2 k hk;exact(lG _ _ _ (by simp;omega)).trans ((lG _ _ _ (by simp;omega)).trans (lG _ _ _ this))
  ·exact((kZ _ _ lQ).trans (kZ _ _ (by simp))).trans (kZ _ _ (by simp;omega))
 rw[<-hw3];clear hw3 hst;apply wp_cut;intro K3 HK3;go_wp2_with fail;refine(zE1 (w.heap.size+1+1) 0 w3 (Rs.zero p) A3.out.1 (by show(0:Nat)<4;decide)).mono ?_;rintro e w4 ⟨rfl,hR4,hk4⟩;have A4:Hid (zL w4 (w.heap.size+1+1) {Rs.zero p with stack:=fun j=>if j=0 then 0 else 0,depth:=1} (slice none 0 0)∧w4.heap[w.heap.size]? =some (.cells zeroCells102 102 (0,0))∧TabAt w4 S p t∧Grew w w4∧w.heap.size+3<=w4.heap.size):=by
  refine⟨hR4,((hk4 w3.heap.size).block _ (by have:=A3.out.2.2.2.2;omega) (by omega)).trans A3.out.2.1,A3.out.2.2.1.keep fun k hk=>(hk4 w3.heap.size).block k (by have:=HT.out.2 k hk;have:=A3.out.2.2.2.2;omega) (by have:=HT.out.2 k hk;omega),A3.out.2.2.2.1.trans ⟨(hk4 0).os,(hk4 0).output,(hk4 0).size,fun k hk _=>(hk4 w3.heap.size).block k (by have:=A3.out.2.2.2.2;omega) (by omega)⟩,lY A3.out.2.2.2.2 (hk4 0).size⟩
 go_wp2;apply HK3.out;refine wp_seq_k ?_;intro K4 hK4;have HK4:Hid (∀a w,_->K4 a w):=hK4;clear hK4;have y11:w4.cell? ⟨w.heap.size+1+1,11,none⟩=some (int i64 0):=A4.out.1.get_state;have z11:=A4.out.1.frozen 11;go_wp2_with fail;refine(zAf (w.heap.size+1+1) w4 _ A4.out.1 S t A4.out.2.2.1 lQ (by show(1:Nat)<=4;decide) ok.nmode).mono ?_;rintro e w5 ⟨rfl,ha5⟩;have y11':w5.cell? ⟨w.heap.size+1+1,11,none⟩=some (int i64 0):=(ha5.cell _).trans y11;have z11':w5.frozen? ⟨w.heap.size+1+1,11,none⟩=false:=(ha5.frozen _).trans z11;clear y11 z11;go_wp2_with fail;apply HK4.out;clear HK4;obtain⟨w6,hw6,A6⟩:∃w6,w6=w5.setCell ⟨w.heap.size+1+1,11,none⟩ (int i64 (t.start 0:Nat))∧Hid (zL w6 (w.heap.size+1+1) {Rs.zero p with stack:=fun _=>0,depth:=1,state:=t.start 0} (slice none 0 0)∧w6.heap[w.heap.size]? =some (.cells zeroCells102 102 (0,0))∧Grew w w6∧w.heap.size+3<=w6.heap.size):=by
  have hR:=(A4.out.1.alike ha5).set_state (t.start 0);rw[show (fun j=>if j=0 then 0 else 0:Nat->Nat)=fun _=>0 from funext fun j=>by split <;> rfl] at hR;refine⟨_,rfl,hR,(lJ _ _ _ _ (by show w.heap.size≠w.heap.size+1+1;omega)).trans ((by rw[ha5.1]:w5.heap[w.heap.size]? =w4.heap[w.heap.size]?).trans A4.out.2.1),(A4.out.2.2.2.1.trans (Keep.alike ha5)).trans (zMm _ _ _ _ (by omega)),?_⟩;have:=A4.out.2.2.2.2;rw[<-ha5.1] at this;simpa[World.setCell] using this
 rw[<-hw6];clear hw6 y11' z11' ha5 A4;obtain⟨hR6,hZ6,hK6,hS6⟩:=A6.out;obtain⟨ty,c,hg6,hc85,hcat⟩:=hR6;have hone:=zGw _ (slice none 0 0) rfl c hc85 hcat
 clear A6;have HCA:Hid (∀i,i<85->c[i]? =some (({Rs.zero p with stack:=fun _=>0,depth:=1,state:=t.start 0}:Rs).cells (slice none 0 0) i)):=hcat
 have HG6:Hid (w6.heap[w.heap.size+1+1]? =some (.cells c ty (0,0))):=hg6;have HZ6:Hid (w6.heap[w.heap.size]? =some (.cells zeroCells102 102 (0,0))):=hZ6;have HON:Hid (c.all (·.oneCell')=true):=hone;clear hcat hg6 hZ6 hone;go_wp2_with fail;refine wp_load_row 102 (.tmp 4) rfl (w.heap.size+1+1) rfl ty c (0,0) _ HG6.out underlying102 rfl (by rw[hc85];exact zG7) ?_;have hs3:(storeCells ⟨w.heap.size,0,none⟩ c.toList).run prog w6=.ok () (w6.setRow w.heap.size c):=by
  have h:=run_storeCells_from (P:=prog) w.heap.size 102 c.toList 0 zeroCells102 w6 HZ6.out (by rw[zB3];simp[hc85]) (fun v hv=>(Array.all_eq_true_iff_forall_mem.1 HON.out) v (by simpa using hv));simpa using h
 go_wp2_with fail;have hg7:(w6.setRow w.heap.size c).heap[w.heap.size]? =some (.cells c 102 (0,0)):=by
  unfold World.setRow;simp[lU,HZ6.out]
 have hl2:(loadVar 102 ⟨w.heap.size,0,none⟩).run prog (w6.setRow w.heap.size c)=.ok (agg c) (w6.setRow w.heap.size c):=run_loadVar_row _ _ 102 102 c (0,0) _ hg7 underlying102 rfl (by rw[hc85];exact zG7);refine dZ (v:=agg c) ?_ rfl ⟨c,rfl,hc85,HCA.out,hK6.trans ?_⟩
 ·unfold results
  rw[results49];simp[hl2,asAddr,Sem.run_bind,Sem.run_pure]
 ·refine⟨rfl,rfl,by simp[World.setRow],fun k hk _=>?_⟩
  unfold World.setRow;simp[lU];intro e;omega
section
variable (b H:Nat) (S:Nat->Prop) (t:Tb) (w:World) (r:Rs) {v0:Value} (es:List Ev) (P C c:Nat) (hC:Cv H b S t w r v0 es) (ok:t.Ok)
theorem zKZ (s:ByteArray)(k:Nat)(hk:k<s.size):(nats s).take (k+1)=(nats s).take k++[s[k].toNat]:=by
 unfold nats;rw[<-List.map_take,zKE s k hk,List.map_append,List.map_take];rfl
theorem zLj (s:ByteArray)(k:Nat)(r:Rs)(hk:k<=s.size)(h:¬(k<s.size∧(Rs.feed t ((nats s).take k) r).1.opn=true)):Rs.feed t ((nats s).take k) r=Rs.feed t (nats s) r:=by
 by_cases e:k<s.size
 ·have ho:(Rs.feed t ((nats s).take k) r).1.opn=false:=by
   cases h':(Rs.feed t ((nats s).take k) r).1.opn with
   |false=>rfl
   |true=>exact absurd ⟨e,h'⟩ h
  conv=>rhs;rw[<-List.take_append_drop k (nats s),Rs.feed_append,Rs.feed_shut t _ _ ho,dV]
 ·rw[List.take_of_length_le (by rw[vG];omega)]
theorem zH7 {w:World}{H e z n:Nat}{v:Value}{xs:List Value}(h:w.ownsRow H e z v n xs):∃ao cap,v=slice ao n cap:=by
 rcases h.2 with⟨h1,h2⟩|⟨g,cap,_,h1,_⟩
 ·exact⟨none,0,by rw[h1,h2]⟩
 ·exact⟨_,cap,h1⟩
theorem zH6 {w w':World}{H b e z n:Nat}{v:Value}{xs:List Value}(h:w.ownsRow H e z v n xs)(hk:∀H,Keep H b w w')(hb:b<H):w'.ownsRow H e z v n xs:=by
 refine⟨h.1,h.2.imp id ?_⟩;rintro⟨g,cap,cur,hv,hg,hh,rest⟩;have hlt:=(kQ.1 hh).1;exact⟨g,cap,cur,hv,hg,((hk w.heap.size).block g hlt (by omega)).trans hh,rest⟩
theorem Rs.Good.str {r:Rs}{t:Tb}{P:Nat}(h:r.Good t P)(hs:t.stream=true):r.Str t P:=by unfold Rs.Good at h;rw[if_pos hs] at h;exact h
theorem Rs.Good.oth {r:Rs}{t:Tb}{P:Nat}(h:r.Good t P)(hs:t.stream=false):r.Oth t P:=by unfold Rs.Good at h;rw[if_neg (by rw[hs];decide)] at h;exact h
theorem zJJ (hC:Cv H b S t w r v0 es)(ok:t.Ok)(hact:∀i,i<t.nrule->t.act i<4)(hG:r.Good t P)(hP:P<1073741824)(hn:es.length<=4194304)(hcb:c<256)(hs:t.stream=true):
  Calls prog 73 #[pointer (some ⟨b,0,none⟩),int .u8 c] w fun e w'=>
   e=returned (tuple #[])∧∃v,Cv H b S t w' (r.eat t c).1 v (es++(r.eat t c).2)∧Keep H b w w':=by
 have h:=hG.str hs;have h1:=h.pos;have h2:=h.line;have h3:=h.col;have h4:=h.cnt;have h5:=ok.ahead;have e:r.eat t c=r.take t c:=if_pos hs;rw[e];exact zIX b H S t w r es c hC hn ok hact h.ok h.ahead (by omega) hcb (by omega) (by omega) (by omega)
theorem zJK (hC:Cv H b S t w r v0 es)(ok:t.Ok)(hact:∀i,i<t.nrule->t.act i<4)(hG:r.Good t P)(hP:P<1073741824)(hn:es.length+r.count+xB r.opn<=C)(hC4:C<4194304)(hcb:c<256)(hs:t.stream=false):
  Calls prog 74 #[pointer (some ⟨b,0,none⟩),int .u8 c] w fun e w'=>
   e=returned (tuple #[])∧∃v,Cv H b S t w' (r.eat t c).1 v (es++(r.eat t c).2)∧Keep H b w w':=by
 have e:r.eat t c=r.takeO t c:=if_neg (by rw[hs];decide);rw[e];exact zHA b H S t w r es P C c hC ok hact (hG.oth hs) hP hn hC4 hcb
theorem zFL (r0:Rs){v0:Value}(es0:List Ev)(s:ByteArray)(P C:Nat)(hC:Cv H b S t w r0 v0 es0)(ok:t.Ok)(hact:∀i,i<t.nrule->t.act i<4)(hG:r0.Good t P)(hP:P+s.size<1073741824)(hn:es0.length+r0.count+xB r0.opn<=C)(hC4:C+s.size<4194304):
  Calls prog 50 #[pointer (some ⟨b,0,none⟩),string s] w fun e w'=>
   ∃v,e=returned v∧zL w' b (Rs.feed t (nats s) r0).1 (slice none 0 0)∧w'.ownsRow H 51 6 v (es0++(Rs.feed t (nats s) r0).2).length (zY (es0++(Rs.feed t (nats s) r0).2))∧Keep H b w w':=by
 have HC0:Hid (Cv H b S t w r0 v0 es0∧r0.Good t P∧es0.length+r0.count+xB r0.opn<=C):=⟨hC,hG,hn⟩
 go_in;apply wp_cut;intro K0 J;go_wp2;apply J.out;apply wp_cut;intro K HK;go_wp2;go_loopg [5] s.size (fun q i wr=>∃(k:Nat) (v:Value),q=s.size-k∧k<=s.size∧i=int i64 (k:Int)∧Cv H b S t wr (Rs.feed t ((nats s).take k) r0).1 v (es0++(Rs.feed t ((nats s).take k) r0).2)∧Keep H b w wr)
 case atStart=>exact⟨0,v0,rfl,lX,rfl,by rw[List.take_zero];show Cv H b S t w r0 v0 (es0++[]);rw[dV];exact HC0.out.1,Keep.refl _ _ _⟩
 case round=>
  obtain⟨k,v,hgk,hk,rfl,hC,hkp⟩:=hrel;have HD:=vl <| zLj t s k r0 hk;have HI:Hid ((Rs.feed t ((nats s).take k) r0).1.Good t (P+k)∧(es0++(Rs.feed t ((nats s).take k) r0).2).length+(Rs.feed t ((nats s).take k) r0).1.count+xB (Rs.feed t ((nats s).take k) r0).1.opn<=C+k):=by
   have h:=Rs.feed_inv t ok ((nats s).take k) r0 P HC0.out.2.1 (fun c hc=>zCb s c (List.mem_of_mem_take hc));have hl:((nats s).take k).length=k:=by rw[List.length_take,vG];omega
   rw[hl] at h;have h3:=HC0.out.2.2;refine⟨h.1,?_⟩;rw[kX];omega
  have HS:Hid (∀hlt:k<s.size,(Rs.feed t ((nats s).take k) r0).1.opn=true->Rs.feed t ((nats s).take (k+1)) r0=(((Rs.feed t ((nats s).take k) r0).1.eat t s[k].toNat).1,(Rs.feed t ((nats s).take k) r0).2++((Rs.feed t ((nats s).take k) r0).1.eat t s[k].toNat).2)):=by
   intro hlt ho;rw[zKZ s k hlt];exact Rs.feed_snoc t _ _ _ ho
  generalize hF:Rs.feed t ((nats s).take k) r0=F at *;obtain⟨r,es⟩:=F;have HF:=vl hF;have HA:Hid (Cv H b S t wr r v (es0++es)∧Keep H b w wr∧gk=s.size-k):=⟨hC,hkp,hgk⟩
  have y1:=hC.run.get_opn;have y0:=hC.run.get_tp;have x0:=hC.tab.c0;by_cases hcond:k<s.size∧r.opn=true
  ·obtain⟨hlt,hop⟩:=hcond
   rw[hop] at y1;have HS2:=vl <| HS.out hlt hop;have hb:=s[k].toNat_lt;cases hst:t.stream with
   |true=>
    have HT:=vl hst;rw[hst] at x0;go_wp2_with fail;refine(zJJ b H S t wr r (es0++es) (P+k) s[k].toNat HA.out.1 ok hact HI.out.1 (by omega) (by have:=HI.out.2;omega) hb HT.out).mono ?_;rintro e w1 ⟨rfl,v1,c1,k1⟩;have C1:Hid (Cv H b S t w1 (r.eat t s[k].toNat).1 v1 ((es0++es)++(r.eat t s[k].toNat).2)∧Keep H b wr w1):=⟨c1,k1⟩
    go_wp2;go_roundg (s.size-(k+1))
    case measure=>rw[HA.out.2.2];omega
    case rel=>exact⟨k+1,v1,rfl,by omega,by go_num,by rw[HS2.out];rw[gV] at C1;exact C1.out.1,HA.out.2.1.trans C1.out.2⟩
   |false=>
    have HT:=vl hst;rw[hst] at x0;clear hst;go_wp2_with fail;refine(zJK b H S t wr r (es0++es) (P+k) (C+k) s[k].toNat HA.out.1 ok hact HI.out.1 (by omega) HI.out.2 (by omega) hb HT.out).mono ?_;rintro e w1 ⟨rfl,v1,c1,k1⟩;have C1:Hid (Cv H b S t w1 (r.eat t s[k].toNat).1 v1 ((es0++es)++(r.eat t s[k].toNat).2)∧Keep H b wr w1):=⟨c1,k1⟩
    clear c1 k1;go_wp2_with fail;go_roundg (s.size-(k+1))
    case measure=>rw[HA.out.2.2];omega
    case rel=>exact⟨k+1,v1,rfl,by omega,by go_num,by rw[HS2.out];rw[gV] at C1;exact C1.out.1,HA.out.2.1.trans C1.out.2⟩
  ·have HE:Hid (Rs.feed t (nats s) r0=(r,es)):=(HD.out hcond).symm
   obtain⟨ao,cap,hv⟩:=zH7 HA.out.1.own;have HV:Hid (v=slice ao (es0++es).length cap):=hv;clear hv HS HD;have fin:∀wz,Cv H b S t wz r v (es0++es)->Keep H b w wz->Calls prog 75 #[pointer (some ⟨b,0,none⟩)] wz fun e w'=>
     ∃v,e=returned v∧zL w' b (Rs.feed t (nats s) r0).1 (slice none 0 0)∧w'.ownsRow H 51 6 v (es0++(Rs.feed t (nats s) r0).2).length (zY (es0++(Rs.feed t (nats s) r0).2))∧Keep H b w w':=by
    intro wz hC hk;rw[HV.out] at hC;refine(zDm b wz r ao _ cap hC.run).mono ?_;rintro e w2 ⟨rfl,hR,hk2⟩;rw[HE.out];exact⟨_,rfl,hR,zH6 hC.own hk2 hC.bH,hk.trans (hk2 H)⟩
   by_cases hlt:k<s.size
   ·have hop:r.opn=false:=by
     cases h:r.opn with
     |false=>rfl
     |true=>exact absurd ⟨hlt,h⟩ hcond
    rw[hop] at y1;have HR:Hid (Ca 75 #[pointer (some ⟨b,0,none⟩)] wr _):=fin wr HA.out.1 HA.out.2.1;clear hop hcond fin;go_wp2_with fail;apply HK.out;clear HK;go_wp2_with fail;refine HR.out.mono ?_;rintro e w2 ⟨v2,rfl,h2⟩;have H2:Hid _:=h2;clear h2;go_wp2_with fail;go_ret;exact⟨v2,rfl,H2.out⟩
   ·have HR:Hid (Ca 75 #[pointer (some ⟨b,0,none⟩)] wr _):=fin wr HA.out.1 HA.out.2.1
    clear hcond fin;go_wp2_with fail;apply HK.out;clear HK;go_wp2_with fail;refine HR.out.mono ?_;rintro e w2 ⟨v2,rfl,h2⟩;have H2:Hid _:=h2;clear h2;go_wp2_with fail;go_ret;exact⟨v2,rfl,H2.out⟩
theorem zHN (hC:Cv H b S t w r v0 es)(ok:t.Ok)(hact:∀i,i<t.nrule->t.act i<4)(hG:r.Good t P)(hP:P<1073741824)(hn:es.length+r.count<4194304)(hs:t.stream=true)(ho:r.opn=true):
  Calls prog 84 #[pointer (some ⟨b,0,none⟩)] w fun e w'=>
   e=returned (tuple #[])∧∃v,Cv H b S t w' (r.shut t).1 v (es++(r.shut t).2)∧Keep H b w w':=by
 have h:=hG.str hs;have h1:=h.pos;have h2:=h.line;have h3:=h.col;have h4:=h.cnt;have h5:=ok.ahead;have e:r.shut t=r.closed t:=by unfold Rs.shut;rw[if_pos ho,if_pos hs]
 rw[e];exact zDh b H S t w r es hC hn ok hact ⟨h.ok,h.ahead,by omega,by omega,by omega⟩
theorem zHO (hC:Cv H b S t w r v0 es)(ok:t.Ok)(hact:∀i,i<t.nrule->t.act i<4)(hG:r.Good t P)(hP:P<1073741824)(hn:es.length+r.count<4194304)(hs:t.stream=false)(ho:r.opn=true):
  Calls prog 85 #[pointer (some ⟨b,0,none⟩)] w fun e w'=>
   e=returned (tuple #[])∧∃v,Cv H b S t w' (r.shut t).1 v (es++(r.shut t).2)∧Keep H b w w':=by
 have e:r.shut t=r.closeO t:=by unfold Rs.shut;rw[if_pos ho,if_neg (by rw[hs];decide)]
 rw[e];have o1:xB r.opn<=1:=by unfold xB;split <;> omega
 exact zHh b H S t w r es P 4194304 hC ok hact (hG.oth hs) (by omega) (by omega) (by omega)
theorem zET (hC:Cv H b S t w r (slice none 0 0) [])(ok:t.Ok)(hact:∀i,i<t.nrule->t.act i<4)(hG:r.Good t P)(hP:P<1073741824):
  Calls prog 55 #[pointer (some ⟨b,0,none⟩)] w fun e w'=>
   ∃v,e=returned v∧zL w' b (r.shut t).1 (slice none 0 0)∧w'.ownsRow H 51 6 v (r.shut t).2.length (zY (r.shut t).2)∧Keep H b w w':=by
 have HC:=vl hC;have y1:=hC.run.get_opn;have y0:=hC.run.get_tp;have x0:=hC.tab.c0;have hcn:=hG.ok.count;have fin:∀wz v,Cv H b S t wz (r.shut t).1 v ([]++(r.shut t).2)->Keep H b w wz->Calls prog 75 #[pointer (some ⟨b,0,none⟩)] wz fun e w'=>
   ∃v,e=returned v∧zL w' b (r.shut t).1 (slice none 0 0)∧w'.ownsRow H 51 6 v (r.shut t).2.length (zY (r.shut t).2)∧Keep H b w w':=by
  intro wz v hC hk;obtain⟨ao,cap,hv⟩:=zH7 hC.own;rw[hv] at hC;refine(zDm b wz _ ao _ cap hC.run).mono ?_;rintro e w2 ⟨rfl,hR,hk2⟩;exact⟨_,rfl,hR,zH6 hC.own hk2 hC.bH,hk.trans (hk2 H)⟩
 cases ho:r.opn with
 |false=>
  have HO:Hid (r.shut t=(r,[])):=by show _=_;unfold Rs.shut;rw[if_neg (by rw[ho];decide)]
  rw[ho] at y1;go_in;go_wp2;go_ret;refine⟨_,rfl,?_⟩;rw[HO.out];exact⟨HC.out.run,ownsRow_nil _ _ _ _,Keep.refl _ _ _⟩
 |true=>
  have HO:=vl ho;rw[ho] at y1;cases hs:t.stream with
  |true=>
   have HR:=vl <| zHN b H S t w r [] P HC.out ok hact hG hP (by show 0+r.count<4194304;omega) hs HO.out;have HN:=vl fin;rw[hs] at x0;go_in;go_wp2_with fail;refine HR.out.mono ?_;rintro e w1 ⟨rfl,v1,c1,k1⟩;have HM:=HN.out w1 v1 c1 k1;have HM2:=vl HM;go_wp2_with fail;refine HM2.out.mono ?_;rintro e w2 ⟨v2,rfl,h2⟩;have H2:Hid _:=h2;clear h2;go_wp2_with fail;go_ret;exact⟨v2,rfl,H2.out⟩
  |false=>
   have HR:Hid (Ca 85 #[pointer (some ⟨b,0,none⟩)] w _):=zHO b H S t w r [] P HC.out ok hact hG hP (by show 0+r.count<4194304;omega) hs HO.out;have HN:Hid (∀wz v,Cv H b S t wz (r.shut t).1 v ([]++(r.shut t).2)->Keep H b w wz->_):=fin;rw[hs] at x0;clear hs fin hG;go_enter func55,ntmps55
   go_wp2_with fail;refine HR.out.mono ?_;rintro e w1 ⟨rfl,v1,c1,k1⟩;have HM:=HN.out w1 v1 c1 k1;have HM2:Hid (Ca 75 #[pointer (some ⟨b,0,none⟩)] w1 _):=HM;clear HM c1 k1 HN HR;go_wp2_with fail;refine HM2.out.mono ?_;rintro e w2 ⟨v2,rfl,h2⟩;have H2:Hid _:=h2;clear h2;go_wp2_with fail;go_ret;exact⟨v2,rfl,H2.out⟩
end
def Rs.born (t:Tb)(p:Nat):Rs:={Rs.zero p with stack:=fun _=>0,depth:=1,state:=t.start 0}
theorem Rs.born_good (t:Tb)(p:Nat)(h:t.Fine):(Rs.born t p).Good t 0:=by
 have ok:(Rs.born t p).Ok t:=⟨lQ,by show(1:Nat)<=4;decide,fun _ _=>h.ok.nmode,h.ok.start 0 h.ok.nmode,by show(0:Nat)<64;decide,lX,fun _ _=>by show(0:Nat)<256;decide⟩
 unfold Rs.Good;split
 ·exact⟨ok,h.ok.rows0,lX,lQ,lQ,lQ⟩
 ·exact⟨ok,lQ,lQ,.inl rfl,lQ,lQ,lQ,lQ⟩
theorem zES (b H:Nat)(S:Nat->Prop)(t:Tb)(w:World)(r0:Rs)(s:ByteArray)(P:Nat)(hC:Cv H b S t w r0 (slice none 0 0) [])(ft:t.Fine)(hG:r0.Good t P)(hP:P+s.size<4194000):
  Calls prog 35 #[pointer (some ⟨b,0,none⟩),string s] w fun e w'=>
   ∃v,e=returned v∧zL w' b (Rs.feed t (nats s) r0).1 (slice none 0 0)∧w'.ownsRow H 51 6 v (Rs.feed t (nats s) r0).2.length (zY (Rs.feed t (nats s) r0).2)∧Keep H b w w':=by
 have HR:Hid (Ca 50 #[pointer (some ⟨b,0,none⟩),string s] w fun e w'=>∃v,e=returned v∧zL w' b (Rs.feed t (nats s) r0).1 (slice none 0 0)∧w'.ownsRow H 51 6 v (Rs.feed t (nats s) r0).2.length (zY (Rs.feed t (nats s) r0).2)∧Keep H b w w'):=by
  have hcn:=hG.cnt;have o1:xB r0.opn<=1:=by unfold xB;split <;> omega
  exact zFL b H S t w r0 [] s P (P+1) hC ft.ok ft.act hG (by omega) (by show 0+r0.count+xB r0.opn<=P+1;omega) (by omega)
 go_in;go_wp2_with fail;refine HR.out.mono ?_;rintro e w2 ⟨v2,rfl,h2⟩;have H2:Hid _:=h2;go_wp2;go_ret;exact⟨v2,rfl,H2.out⟩
theorem zEg (b H:Nat)(S:Nat->Prop)(t:Tb)(w:World)(r:Rs)(P:Nat)(hC:Cv H b S t w r (slice none 0 0) [])(ft:t.Fine)(hG:r.Good t P)(hP:P<4194000):
  Calls prog 42 #[pointer (some ⟨b,0,none⟩)] w fun e w'=>
   ∃v,e=returned v∧zL w' b (r.shut t).1 (slice none 0 0)∧w'.ownsRow H 51 6 v (r.shut t).2.length (zY (r.shut t).2)∧Keep H b w w':=by
 have HR:=vl <| zET b H S t w r P hC ft.ok ft.act hG (by omega);go_in;go_wp2_with fail;refine HR.out.mono ?_;rintro e w2 ⟨v2,rfl,h2⟩;have H2:Hid _:=h2;go_wp2;go_ret;exact⟨v2,rfl,H2.out⟩
theorem zLf (l:List Value)(k:Nat)(z:Array Value)(i:Nat)(h:k+l.length<=z.size):((l.zipIdx k).foldl (fun cs x=>cs.setIfInBounds x.2 x.1) z)[i]? =if k<=i∧i<k+l.length then l[i-k]? else z[i]? :=by
 induction l generalizing k z with
 |nil=>simp;intro h1 h2;omega
 |cons a l ih=>
  rw[List.zipIdx_cons,List.foldl_cons,ih (k+1) (z.setIfInBounds k a) (by simp at h ⊢;omega)];simp only[gZ] at h ⊢;by_cases h1:k+1<=i∧i<k+1+l.length
  ·rw[if_pos h1,if_pos (by omega),show i-k=(i-(k+1))+1 by omega,List.getElem?_cons_succ]
  ·rw[if_neg h1]
   by_cases h2:i=k
   ·subst h2
    rw[if_pos (by omega)];simp[show i<z.size by omega]
   ·rw[if_neg (by omega),Array.getElem?_setIfInBounds_ne (by omega)]
theorem zMx (z c:Array Value)(n:Nat)(h:z.size=n)(hc:c.size=n):Array.foldl (fun cs x=>cs.setIfInBounds x.snd x.fst) z c.zipIdx 0 n=c:=by
 have e:Array.foldl (fun cs x=>cs.setIfInBounds x.snd x.fst) z c.zipIdx 0 n=(c.toList.zipIdx 0).foldl (fun cs x=>cs.setIfInBounds x.2 x.1) z:=by
  have hz:c.zipIdx.size=n:=by simp[hc]
  rw[<-hz,<-Array.foldl_toList];simp
 rw[e];apply Array.ext_getElem?;intro i;rw[zLf _ _ _ _ (by simp;omega)];by_cases hi:i<n
 ·rw[if_pos (by simp;omega)]
  simp
 ·rw[if_neg (by simp;omega),Array.getElem?_eq_none (by omega),Array.getElem?_eq_none (by omega)]
theorem zFG:zeroCells104.size=85:=by kernel_rfl
theorem zFa (x p:Nat)(S:Nat->Prop)(t:Tb)(w:World)(hx:w.cell? ⟨x,0,none⟩=some (pointer (some ⟨p,0,none⟩)))(hT:TabAt w S p t)(hS:∀k,S k->k<w.heap.size)(ft:t.Fine):
  Calls prog 34 #[pointer (some ⟨x,0,none⟩)] w fun e w'=>∃b,e=returned (pointer (some ⟨b,0,none⟩))∧w.heap.size<=b∧b<w'.heap.size∧zL w' b (Rs.born t p) (slice none 0 0)∧Grew w w':=by
 have HR:Hid _:=zIA p S t w hT hS ft.ok;go_in;go_wp2_with fail;refine Calls.mono HR.out ?_;rintro e w2 ⟨c,rfl,hc85,hcat,hk⟩;have HA:Hid ((∀i,i<85->c[i]? =some ((Rs.born t p).cells (slice none 0 0) i))∧Grew w w2):=⟨hcat,hk⟩
 go_wp2;rw[zMx _ c 85 zFG hc85];go_ret;refine⟨w2.heap.size,rfl,HA.out.2.size,by simp,⟨_,c,gJ w2 _,hc85,HA.out.1⟩,HA.out.2.trans (kZ _ _ HA.out.2.size)⟩
def Tb.events (t:Tb)(p:Nat)(s:ByteArray):List Ev:=(Rs.feed t (nats s) (Rs.born t p)).2++((Rs.feed t (nats s) (Rs.born t p)).1.shut t).2
theorem zEm (es:List Ev):(zY es).length=es.length*6:=by
 induction es with
 |nil=>rfl
 |cons e es ih=>simp only[zY,List.flatMap_cons,kX,gZ] at *;rw[ih];simp[Ev.cells,vN];omega
theorem zHc (es:List Ev):∀u∈zY es,u.oneCell'=true:=by
 intro u hu;obtain⟨e,_,hu⟩:=List.mem_flatMap.1 hu;simp[Ev.cells,vN] at hu;rcases hu with rfl|rfl|rfl|rfl|rfl|rfl <;> rfl
theorem zEn (a b:List Ev):zY (a++b)=zY a++zY b:=by simp[zY]
theorem Rs.shut_len (r:Rs)(t:Tb)(P:Nat)(ok:t.Ok)(h:r.Good t P):(r.shut t).2.length<=r.count+1:=by
 unfold Rs.shut;split
 ·rename_i ho
  split
  ·exact(r.closed_end t ho).2.2
  ·rename_i hs
   have hO:=h.oth (by simpa using hs);have h2:=(r.endN_inv t P ok hO (r.count+2)).2.1;have o1:xB r.opn<=1:=by unfold xB;split <;> omega
   have o2:xB r.opn=1:=by rw[ho];rfl
   unfold Rs.closeO;split
   ·rename_i he
    have e:xB (r.endAll t).1.opn=1:=by rw[he];rfl
    show((r.endAll t).2++[_]).length<=_;rw[kX];have h3:(r.endAll t).2.length+(r.endAll t).1.count+xB (r.endAll t).1.opn<=r.count+xB r.opn:=h2;simp only[gZ,List.length_nil];omega
   ·have h3:(r.endAll t).2.length+(r.endAll t).1.count+xB (r.endAll t).1.opn<=r.count+xB r.opn:=h2
    omega
 ·exact lX
theorem Rs.long_tp (r:Rs)(t:Tb):(r.long t).1.tp=r.tp:=by
 unfold Rs.long;split
 ·rfl
 ·exact(r.cut.tok_same t _ _ _ _).tp
theorem Rs.heldStep_tp (r:Rs)(t:Tb):(r.heldStep t).1.tp=r.tp:=by
 have h:((r.ate t).marked t).tp=r.tp:=by unfold Rs.marked;split <;> rfl
 unfold Rs.heldStep Rs.judged;split
 ·exact h
 ·rw[Rs.long_tp];exact h
theorem Rs.heldN_tp (r:Rs)(t:Tb)(n:Nat):(r.heldN t n).1.tp=r.tp:=by
 induction n with
 |zero=>rfl
 |succ n ih=>
  rw[Rs.heldN];split
  ·show((r.heldN t n).1.heldStep t).1.tp=r.tp
   rw[Rs.heldStep_tp,ih]
  ·exact ih
theorem Rs.eat_tp (r:Rs)(t:Tb)(c:Nat):(r.eat t c).1.tp=r.tp:=by
 unfold Rs.eat
 split
 ·unfold Rs.take Rs.due
  split
  ·exact((((r.added c).looked t (t.kind c)).took t).fin_same t).tp
  ·rfl
 ·unfold Rs.takeO
  split
  ·rfl
  ·exact(r.added c).heldN_tp t _
theorem Rs.feed_tp (t:Tb)(cs:List Nat)(r:Rs):(Rs.feed t cs r).1.tp=r.tp:=by
 induction cs generalizing r with
 |nil=>rfl
 |cons c cs ih=>
  rw[Rs.feed];split
  ·show(Rs.feed t cs (r.eat t c).1).1.tp=r.tp
   rw[ih,Rs.eat_tp]
  ·rfl
theorem Keep.less {H b G c:Nat}{w w':World}(h:Keep H b w w')(hG:G<=H)(hb:G<=b):Keep G c w w':=⟨h.os,h.output,h.size,fun k hk _=>h.block k (by omega) (by omega)⟩
theorem Keep.grownEnd {G c:Nat}{w w':World}{row:Option Nat}(hg:w.grownBy w' row)(hG:G<=w.heap.size)(hr:∀k,row=some k->G<=k):Keep G c w w':=Keep.grown hg hG hr
theorem zER (x p:Nat)(S:Nat->Prop)(t:Tb)(w:World)(s:ByteArray)(hx:w.cell? ⟨x,0,none⟩=some (pointer (some ⟨p,0,none⟩)))(hT:TabAt w S p t)(hS:∀k,S k->k<w.heap.size)(ft:t.Fine)(hs:s.size<=1048576):
  Calls prog 27 #[pointer (some ⟨x,0,none⟩),string s] w fun e w'=>∃v,e=returned v∧w'.ownsRow w.heap.size 51 6 v (t.events p s).length (zY (t.events p s))∧Grew w w':=by
 have HB:=vl <| zFa x p S t w hx hT hS ft;have HT:Hid (TabAt w S p t∧∀k,S k->k<w.heap.size):=⟨hT,hS⟩
 have HI:Hid ((Rs.feed t (nats s) (Rs.born t p)).1.Good t (0+(nats s).length)∧(Rs.feed t (nats s) (Rs.born t p)).2.length+(Rs.feed t (nats s) (Rs.born t p)).1.count<=1+s.size):=by
  obtain⟨h1,h2,_⟩:=Rs.feed_inv t ft.ok (nats s) (Rs.born t p) 0 (Rs.born_good t p ft) (zCb s);rw[vG] at h2;have e1:(Rs.born t p).count=0:=rfl;have e2:xB (Rs.born t p).opn=1:=rfl;exact⟨h1,by omega⟩
 go_in;go_wp2_with fail;refine HB.out.mono ?_;rintro e w1 ⟨b,rfl,hb1,hb2,hR,hk1⟩;have C1:Hid (Cv w1.heap.size b S t w1 (Rs.born t p) (slice none 0 0) []):=by
  refine⟨hR,ownsRow_nil _ _ _ _,HT.out.1.keep fun k hk=>?_,hb2,lQ,fun k hk=>?_⟩
  ·have:=HT.out.2 k hk
   exact hk1.block k this (by omega)
  ·have:=HT.out.2 k hk
   omega
 have K1:=vl hk1;have hb1':=hb1;go_wp2_with fail;refine(zES b w1.heap.size S t w1 (Rs.born t p) s 0 C1.out ft (Rs.born_good t p ft) (by omega)).mono ?_;rintro e w2 ⟨v1,rfl,hR2,hO2,hk2⟩;have C2:Hid (Cv w2.heap.size b S t w2 (Rs.feed t (nats s) (Rs.born t p)).1 (slice none 0 0) []):=by
  have hsz:=hk2.size;refine⟨hR2,ownsRow_nil _ _ _ _,?_,by omega,lQ,fun k hk=>?_⟩
  ·have htp:=Rs.feed_tp t (nats s) (Rs.born t p)
   rw[htp];refine C1.out.tab.keep fun k hk=>?_;have:=HT.out.2 k hk;exact hk2.block k (by omega) (by omega)
  ·have:=HT.out.2 k hk
   omega
 have K2:=vl <| K1.out.trans (hk2.less (by omega) (by omega));have O2:=vl hO2;go_wp2_with fail;refine(zEg b w2.heap.size S t w2 _ _ C2.out ft HI.out.1 (by rw[vG];omega)).mono ?_;rintro e w3 ⟨v2,rfl,hR3,hO3,hk3⟩;have K3:Hid (Grew w w3):=K2.out.trans (hk3.less K2.out.size (by omega));have O3:Hid (w3.ownsRow w.heap.size 51 6 v1 (Rs.feed t (nats s) (Rs.born t p)).2.length (zY (Rs.feed t (nats s) (Rs.born t p)).2)):=by
  have h:=O2.out;refine⟨h.1,h.2.imp id ?_⟩;rintro⟨g,cap,cur,hv,hg,hh,rest⟩;have hlt:=(kQ.1 hh).1;exact⟨g,cap,cur,hv,by omega,(hk3.block g hlt (by omega)).trans hh,rest⟩
 have hLen:(Rs.feed t (nats s) (Rs.born t p)).2.length+((Rs.feed t (nats s) (Rs.born t p)).1.shut t).2.length<=2+s.size:=by
  have h1:=Rs.shut_len _ t _ ft.ok HI.out.1;have h2:=HI.out.2;omega
 have HL:Hid (w3.ownsRow w2.heap.size 51 6 v2 ((Rs.feed t (nats s) (Rs.born t p)).1.shut t).2.length (zY ((Rs.feed t (nats s) (Rs.born t p)).1.shut t).2)):=hO3;have HE:Hid (t.events p s=(Rs.feed t (nats s) (Rs.born t p)).2++((Rs.feed t (nats s) (Rs.born t p)).1.shut t).2):=rfl;have hsz3:w.heap.size<=w3.heap.size:=K3.out.size;clear hR3 hO3 hk3 C2 O2;generalize (Rs.feed t (nats s) (Rs.born t p)).2=l1 at *;generalize ((Rs.feed t (nats s) (Rs.born t p)).1.shut t).2=l2 at *;obtain⟨i0,hi0,hz0,hz1,hz2⟩:=info_parts zMq;rcases HL.out.2 with⟨hv2,hn2⟩|⟨g,cap,cur,hv2,_,hg2,_,_,_,htk⟩
 ·have HN:Hid (l2=[]):=List.length_eq_zero_iff.1 hn2
  subst hv2;clear hn2 HL;go_wp2_with (first|(at_builtin;refine wpList_append_own_none rfl _ _ 48 rfl w.heap.size 51 i0 6 underlying48 hi0 _ _ _ rfl O3.out rfl ?_))
  go_ret;refine⟨v1,rfl,?_,K3.out⟩;rw[HE.out,HN.out,dV];exact O3.out
 ·have hl2:(zY l2).length=l2.length*6:=zEm l2
  have hcells:∀j u,(zY l2)[j]? =some u->w3.cell? ((⟨g,0,none⟩:Addr).add j)=some u:=by
   rw[hv2] at HL;exact HL.out.cells rfl
  have HC:Hid (∀j u,(zY l2)[j]? =some u->w3.cell? ((⟨g,0,none⟩:Addr).add j)=some u):=hcells;subst hv2;clear hcells HL hg2 htk;go_wp2_with (first|(at_builtin;refine wpList_append_own _ rfl _ _ 48 rfl w.heap.size 51 i0 _ 6 48 underlying48 hi0 hz0 hz1 hz2 rfl (by decide) _ _ _ rfl O3.out ⟨g,0,none⟩ l2.length cap (zY l2) rfl hl2 HC.out (zHc l2) (by unfold maxLen;omega) (by omega) hsz3 ?_;intro v4 w4 hown hgrow hnil))
  have HO:Hid _:=hown;have HG:Hid _:=hgrow;clear hown hgrow hnil;go_wp2_with fail;go_ret;refine⟨v4,rfl,?_,K3.out.trans (Keep.grownEnd HG.out hsz3 fun k hk=>(O3.out.lt k hk).1)⟩;rw[HE.out,kX,zEn];exact HO.out
def zFC:ByteArray:=⟨#[109,111,100,101,32,109,10,97,32,46,32,97,10,98,32,45,32,98,10]⟩
def vK:List Sm×Sh:=(jR zFC).getD ([],Sh.none)
theorem zNv:(jR zFC).isSome=true:=by kernel_rfl
theorem zLl:zBg vK false=true:=by kernel_rfl
theorem zMB:(((zV vK.1 (ints vK.2.acts) (vK.2.pushesTo vK.2.pushed.length) 64).first.itr 2).spreadTo (zE vK.1 vK.1.length)).2=false:=by kernel_rfl
theorem zLm (p:Nat):(qV vK.1 (ints vK.2.acts) (vK.2.pushesTo vK.2.pushed.length) 64 2 false).events p ⟨#[97,98,97]⟩=[⟨1,0,0,1,1,1⟩,⟨1,0,2,3,1,3⟩,⟨2,0,3,3,1,4⟩]:=by kernel_rfl
theorem zLI:jR zFC=some vK:=by
 have:=zNv;unfold vK;cases h:jR zFC with
 |none=>rw[h] at this;cases this
 |some y=>rfl
theorem zMC:zY [⟨1,0,0,1,1,1⟩,⟨1,0,2,3,1,3⟩,⟨2,0,3,3,1,4⟩]=[int i64 1,int i64 0,int i64 0,int i64 1,int i64 1,int i64 1,int i64 1,int i64 0,int i64 2,int i64 3,int i64 1,int i64 3,int i64 2,int i64 0,int i64 3,int i64 3,int i64 1,int i64 4]:=rfl
theorem zIH (w:World):Calls prog 28 #[] w fun e w'=>e=returned (bool true)∧Grew w w':=by
 have HO:Hid (Ca 16 #[string ⟨#[109,111,100,101,32,109,10,97,32,46,32,97,10,98,32,45,32,98,10]⟩,int i64 64,bool false] w fun e w1=>Grew w w1∧∃L m0 m1 m2 s0 s1 s2 v0 v1 v2 AH LN,e=returned (tuple #[pointer (some ⟨L,0,none⟩),agg #[slice m0 m1 m2,slice s0 s1 s2,slice v0 v1 v2,int i64 AH,bool true,int i64 LN]])∧∀w2,Grew w1 w2->Ca 27 #[pointer (some ⟨L,0,none⟩),string ⟨#[97,98,97]⟩] w2 fun e w3=>∃g cap,e=returned (slice (some ⟨g,0,none⟩) 3 cap)∧Grew w2 w3∧3<=cap∧w3.cell? ⟨g,0,none⟩=some (int i64 1)∧w3.cell? ⟨g,1,none⟩=some (int i64 0)∧w3.cell? ⟨g,2,none⟩=some (int i64 0)∧w3.cell? ⟨g,3,none⟩=some (int i64 1)∧w3.cell? ⟨g,4,none⟩=some (int i64 1)∧w3.cell? ⟨g,5,none⟩=some (int i64 1)∧w3.cell? ⟨g,6,none⟩=some (int i64 1)∧w3.cell? ⟨g,7,none⟩=some (int i64 0)∧w3.cell? ⟨g,8,none⟩=some (int i64 2)∧w3.cell? ⟨g,9,none⟩=some (int i64 3)∧w3.cell? ⟨g,10,none⟩=some (int i64 1)∧w3.cell? ⟨g,11,none⟩=some (int i64 3)∧w3.cell? ⟨g,12,none⟩=some (int i64 2)∧w3.cell? ⟨g,13,none⟩=some (int i64 0)∧w3.cell? ⟨g,14,none⟩=some (int i64 3)∧w3.cell? ⟨g,15,none⟩=some (int i64 3)∧w3.cell? ⟨g,16,none⟩=some (int i64 1)∧w3.cell? ⟨g,17,none⟩=some (int i64 4)):=by
  refine(zH9 w zFC (by decide) 64 (by decide) (by decide) false).mono ?_;rintro e w1 ⟨hk,x,m0,m1,m2,s0,s1,s2,v0,v1,v2,AH,ST,LN,rfl,hq⟩;unfold OfQ at hq;rw[zLI] at hq;obtain⟨L,t,rfl,rfl,rfl,hL⟩:=hq;rw[zLl];refine⟨hk,L,m0,m1,m2,s0,s1,s2,v0,v1,v2,_,LN,rfl,fun w2 hk2=>?_⟩;have hL2:=hL.grown hk2;obtain⟨n,hn1,hn2⟩:=hL2.made;obtain⟨S,p,hA,hS⟩:=hL2.at_;have ht:t=qV vK.1 (ints vK.2.acts) (vK.2.pushesTo vK.2.pushed.length) 64 2 false:=hn1.trans (zMw _ _ _ _ _ _ _ hn2 zMB);have he:t.events p ⟨#[97,98,97]⟩=[⟨1,0,0,1,1,1⟩,⟨1,0,2,3,1,3⟩,⟨2,0,3,3,1,4⟩]:=by rw[ht];exact zLm p
  refine(zER L p S t w2 ⟨#[97,98,97]⟩ hA.cell hA.tab hA.safe hL2.fine (by decide)).mono ?_;rintro e w3 ⟨v,rfl,ho,hk3⟩;rw[he,zMC] at ho;obtain⟨g,cap,rfl,h1,h2,h3,h4,h5,h6⟩:=qL ho (by decide);exact⟨g,cap,rfl,hk3,h3,h5 0 _ rfl,h5 1 _ rfl,h5 2 _ rfl,h5 3 _ rfl,h5 4 _ rfl,h5 5 _ rfl,h5 6 _ rfl,h5 7 _ rfl,h5 8 _ rfl,h5 9 _ rfl,h5 10 _ rfl,h5 11 _ rfl,h5 12 _ rfl,h5 13 _ rfl,h5 14 _ rfl,h5 15 _ rfl,h5 16 _ rfl,h5 17 _ rfl⟩
 go_in;apply wp_cut;intro K0 J;go_wp2;apply J.out;clear J;apply wp_cut;intro K0 J;go_wp2_with (first|(go_at_call 16;refine HO.out.mono ?_;rintro e w1 ⟨hk1,L,m0,m1,m2,s0,s1,s2,v0,v1,v2,AH,LN,rfl,HSC⟩))
 obtain⟨w2,hw2,x4,HW2⟩:∃w2,w2=w1.alloc (.cells #[slice m0 m1 m2,slice s0 s1 s2,slice v0 v1 v2,int i64 AH,bool true,int i64 LN] 30)∧w2.cell? ⟨w1.heap.size,4,none⟩=some (bool true)∧Hid (Grew w w2∧Grew w1 w2):=by
  have hn:=gJ w1 (.cells #[slice m0 m1 m2,slice s0 s1 s2,slice v0 v1 v2,int i64 AH,bool true,int i64 LN] 30);have ha:Grew w1 (w1.alloc (.cells #[slice m0 m1 m2,slice s0 s1 s2,slice v0 v1 v2,int i64 AH,bool true,int i64 LN] 30)):=kZ _ _ lQ;refine⟨_,rfl,?_,hk1.trans (ha.lower hk1.size hk1.size),ha⟩;unfold cell?;rw[hn];rfl
 rw[<-hw2];apply J.out;clear J hw2 HO;have HSC2:=vl <| HSC w2 HW2.out.2;clear HSC;go_wp2_with (first|(go_at_call 27;refine HSC2.out.mono ?_;rintro e w3 ⟨g,cap,rfl,hk3,hcap,c0,c1,c2,c3,c4,c5,c6,c7,c8,c9,c10,c11,c12,c13,c14,c15,c16,c17⟩))
 refine dZ (results_tmp rfl _ _ _) rfl ?_;exact⟨rfl,HW2.out.1.trans (hk3.lower HW2.out.1.size HW2.out.1.size)⟩
theorem zIy (w:World)(s t:ByteArray)(h:65536<s.size∨65536<t.size):Calls prog 14 #[string s,string t] w fun e w'=>e=returned (tuple #[bool false,bool true])∧Grew w w':=by
 by_cases h1:65536<s.size
 ·go_in
  go_wp2;refine dZ (results_tmp2 rfl _ _ _) rfl ?_;exact⟨rfl,Keep.refl _ _ _⟩
 ·have h2:65536<t.size:=by omega
  have h3:s.size<=65536:=by omega
  go_in;go_wp2;refine dZ (results_tmp2 rfl _ _ _) rfl ?_;exact⟨rfl,Keep.refl _ _ _⟩
theorem zIz (w:World)(s t:ByteArray)(h1:s.size<=65536)(h2:t.size<=65536):Calls prog 14 #[string s,string t] w fun e w'=>e=returned (tuple #[bool (jR s).isSome,bool true])∧Grew w w':=by
 have HA:=vl <| zIH w;have HN:Hid (∀w2,Ca 29 #[string s] w2 fun e w'=>e=returned (tuple #[bool (jR s).isNone,bool true])∧Grew w2 w'):=fun w2=>zJe w2 s (by omega);have he:(!(jR s).isNone)=(jR s).isSome:=by cases jR s <;> rfl
 generalize (jR s).isNone=A at *;generalize (jR s).isSome=B at *;subst he;go_in;cases A
 all_goals
  go_wp2_with (first|(go_at_call 28;refine HA.out.mono ?_;rintro e w1 ⟨rfl,hk1⟩)|(go_at_call 29;refine(HN.out _).mono ?_;rintro e w2 ⟨rfl,hk2⟩))
  refine dZ (results_tmp2 rfl _ _ _) rfl ?_;exact⟨rfl,hk1.trans (hk2.lower hk1.size hk1.size)⟩
theorem zLD (w:World)(s d:ByteArray):(Calls prog 14 #[string s,string d] w fun e w'=>e=returned (tuple #[bool false,bool true])∧Grew w w')∨∃y,jR s=some y∧s.size<=65536∧d.size<=65536∧Calls prog 14 #[string s,string d] w fun e w'=>e=returned (tuple #[bool true,bool true])∧Grew w w':=by
 by_cases hz:65536<s.size∨65536<d.size
 ·exact .inl (zIy w s d hz)
 have HB:=zIz w s d (by omega) (by omega);cases hl:jR s with
 |none=>rw[hl] at HB;exact .inl HB
 |some y=>rw[hl] at HB;exact .inr ⟨y,rfl,by omega,by omega,HB⟩
def EvsAt (w:World)(v:Value)(es:List Ev):Prop:=∃ao cap,v=slice ao es.length cap∧es.length<=cap∧cap<=maxLen∧∀i,i<es.length->∃g,ao=some ⟨g,0,none⟩∧g<w.heap.size∧∀j u,(es.getD i ⟨0,0,0,0,0,0⟩).cells[j]? =some u->w.cell? ⟨g,i*6+j,none⟩=some u
theorem zMz (es:List Ev):∀(i j:Nat) (u:Value),i<es.length->(es.getD i ⟨0,0,0,0,0,0⟩).cells[j]? =some u->(zY es)[i*6+j]? =some u:=by
 induction es with
 |nil=>intro i j u hi;exact absurd hi (Nat.not_lt_zero _)
 |cons e es ih=>
  intro i j u hi hu;have hc:(zY (e::es))=e.cells++zY es:=by simp[zY]
  have h6:e.cells.length=6:=rfl;rw[hc];cases i with
  |zero=>
   have hu2:=hu;have hj:j<6:=by rw[<-h6];exact(List.getElem?_eq_some_iff.1 hu2).1
   rw[Nat.zero_mul,Nat.zero_add,kW (by omega)];exact hu2
  |succ i=>
   rw[gQ (by omega),h6,show(i+1)*6+j-6=i*6+j by omega];exact ih i j u (by simpa using hi) hu
theorem zNb {w:World}{H:Nat}{v:Value}{es:List Ev}(h:w.ownsRow H 51 6 v es.length (zY es)):EvsAt w v es:=by
 obtain⟨ao,cap,rfl,h1,h2⟩:=zC4 h;refine⟨ao,cap,rfl,h1,h2,fun i hi=>?_⟩;obtain⟨g,cap2,hv,h3,h4,h5,h6,h7,h8⟩:=qL h (by omega);injection hv with e1 e2 e3;exact⟨g,e1,h4,fun j u hu=>h7 _ u (zMz es i j u hi hu)⟩
theorem EvsAt.grown {w w':World}{v:Value}{es:List Ev}(h:EvsAt w v es)(hk:Grew w w'):EvsAt w' v es:=by
 obtain⟨ao,cap,rfl,h1,h2,h3⟩:=h;refine⟨ao,cap,rfl,h1,h2,fun i hi=>?_⟩;obtain⟨g,e1,e2,e3⟩:=h3 i hi;exact⟨g,e1,lZ e2 hk.size,fun j u hu=>zA (e3 j u hu) e2 hk⟩
theorem zHP {w:World}{S:Nat->Prop}{L p:Nat}{t:Tb}(h:LexAt w S L p t)(ft:t.Fine)(s:ByteArray)(hs:s.size<=1048576):Calls prog 27 #[pointer (some ⟨L,0,none⟩),string s] w fun e w'=>∃v,e=returned v∧EvsAt w' v (t.events p s)∧Grew w w':=by
 refine(zER L p S t w s h.cell h.tab h.safe ft hs).mono ?_;rintro e w' ⟨v,rfl,h2,hk⟩;exact⟨v,rfl,zNb h2,hk⟩
section
open Go.ChangeShapes Go.WideShapes Go.ChangeAt Go.RowKit
open Go.ChangeMaps (open_string shut_string)
theorem own:ownKnob prog.godebug=none:=by kernel_rfl
theorem Keep.frame {W w':World}(h:Grew W w')(may:MemPlace->Prop):W.keptBut w' may:=by
 refine⟨h.os,h.output,fun i hi=>?_⟩;rw[h.block i hi (by omega)];split <;> simp_all
theorem zI8 {H:Type}{enc:TypeId×Value->H}{P:Program}{f:Func}{s:ChangeSpec}{apart fresh handsOn again:Bool}{W W':World}{args:Array Value}{v:Value}{ds gs:List (DataW H)}
  (hW:DataW.Whole enc P f.params.toList s.vars apart W args.toList ds gs [])
  (hres:∀(b:Nat) (sp:Nat->Bool) (hd:Bool),DataW.TrodAll enc P W' b sp hd f.resultTypes.toList (v.resultList f.resultTypes.size) (s.fn H (ds++gs)).results [])
  (hargs:∀sp:Nat->Bool,DataW.TrodAll enc P W' 0 sp true f.params.toList args.toList (s.fn H (ds++gs)).args [])
  (hvars:∀sp:Nat->Bool,DataW.TrodVars enc P W' sp s.vars (s.fn H (ds++gs)).vars [])
  (hk:W.keptBut W' fun _=>False)
  (hok:∀(j:Nat) (t:TypeId) (r:Value),f.resultTypes[j]? =some t->(v.resultList f.resultTypes.size)[j]? =some r->Value.okWide P W' .any 0 t r):
  s.post enc P f apart fresh handsOn again W args v W':=by
 refine⟨ds,gs,[],[],[],[],hW,hres _ _ _,hargs _,hvars _,World.keptBut_mono (fun p hp=>hp.elim) hk,fun _=>⟨hok,_,_,[],⟨[],[],trodAll_append (hargs _) (hres _ _ _),hvars _,rfl,?_,?_⟩,?_⟩⟩
 ·intro b off hp
  simp at hp
 ·intro _
  simp
 ·intro p hp
  simp at hp
theorem zJX {H:Type}{enc:TypeId×Value->H}{P:Program}{w:World}{base:Nat}{sp:Nat->Bool}{hd:Bool}{t:TypeId}{ts:List TypeId}{v:Value}{vs:List Value}{d:DataW H}{ds:List (DataW H)}{p q:List MemPlace}(h:DataW.Trod enc P w base sp hd t v d p)(hs:DataW.TrodAll enc P w base sp hd ts vs ds q):DataW.TrodAll enc P w base sp hd (t::ts) (v::vs) (d::ds) (p++q):=⟨p,q,h,hs,rfl⟩
end
end Go.Proofs.YtbjcfkdnjaiclaaGreat
