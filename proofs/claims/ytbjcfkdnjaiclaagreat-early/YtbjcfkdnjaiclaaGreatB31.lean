import Derived.Deep.LoopGhost
import Derived.Test.YtbjcfkdnjaiclaaGreatB0
import Derived.Test.YtbjcfkdnjaiclaaGreatB30
/- Parts of the proof. -/
set_option linter.unusedVariables false
set_option linter.unusedSimpArgs false
set_option maxHeartbeats 4000000
set_option maxRecDepth 100000
namespace Go.Proofs.YtbjcfkdnjaiclaaGreat
open Go.RowKit Go.Proofs.Tryz Go.World
def Rs.lineTo (r:Rs):Nat->Nat
 |0=>r.bLine
 |i+1=>vI (r.byte ((r.first+i)%64)) (r.lineTo i)
def Rs.colTo (r:Rs):Nat->Nat
 |0=>r.bCol
 |i+1=>zAN (r.byte ((r.first+i)%64)) (r.colTo i)
theorem Rs.lineTo_le (r:Rs)(i:Nat):r.lineTo i<=r.bLine+i:=by
 induction i with
 |zero=>exact lQ
 |succ i ih=>simp only[Rs.lineTo];unfold vI;split <;> omega
theorem Rs.colTo_le (r:Rs)(i:Nat):r.colTo i<=r.bCol+i+1:=by
 induction i with
 |zero=>exact Nat.le_succ _
 |succ i ih=>simp only[Rs.colTo];unfold zAN;split <;> omega
theorem zKC (b H:Nat)(S:Nat->Prop)(t:Tb)(w0 w:World)(r:Rs){v0:Value}(es:List Ev)(hC:Cv H b S t w r v0 es)(hn:es.length<=4194304)(ok:t.Ok)(hact:∀i,i<t.nrule->t.act i<4)(hok:r.Ok t)(hl:r.length<=r.count)(k:Nat)(hrule:r.rule=k)(hkr:k<t.nrule)(hk:Keep H b w0 w)
  (p1:r.bAt+64<2147483648) (p2:r.bLine+64<2147483648) (p3:r.bCol+65<2147483648)
  (g:Nat) (hg:H<=g) (hne:v0.ownBlock≠some g) (hgb:w.heap[g]? =some (.cells #[.int .i64 r.bAt,.int .i64 r.bLine,.int .i64 r.bCol] 97)) (f:Rs×List Ev) (hf:f=r.cut.tok t k (r.bAt+r.length) (r.lineTo r.length) (r.colTo r.length))
  {u1 u3 u4 u5 u6 u7 u8 u9 u10 u11 u12 u13 u14 u15 u16 u17 u18 u19 u20 u21 u22 u23 u24 u25 u26 u27 u28 u29 u30 u31 u32 u33 u34 u35 u36 u37 u38 u39 u40 u41 u42 u43 u44 u45 u46 u47 u48 u49 u50:Value}:
  Code.wp prog (yQ 2 ((f119.body).getD .skip)) (bodyPost prog f119 fun e w'=>
   e=.returned (.tuple #[])∧∃v,Cv H b S t w' f.1 v (es++f.2)∧Keep H b w0 w')
   ⟨(.pointer (some ⟨b,0,none⟩)::u1:: .pointer (some ⟨g,0,none⟩)::u3::u4::u5::u6::u7::u8::u9::u10::u11::u12::u13::u14::u15::u16::u17::u18::u19::u20::u21::u22::u23::u24::u25::u26::u27::u28::u29::u30::u31::u32::u33::u34::u35::u36::u37::u38::u39::u40::u41::u42::u43::u44::u45::u46::u47::u48::u49::u50::[]).toArray,[]⟩ w:=by
 conv=>arg 2;whnf
 refine wp_seq_k ?_;intro K hK0;have HK:Hid (∀a w,_->K a w):=hK0;have HC:Hid (Cv H b S t w r v0 es):=hC;have J:Hid (Keep H b w0 w):=hk;have HF:Hid (f=r.cut.tok t k (r.bAt+r.length) (r.lineTo r.length) (r.colTo r.length)):=hf;have HG:Hid (w.heap[g]? =some (.cells #[.int .i64 r.bAt,.int .i64 r.bLine,.int .i64 r.bCol] 97)):=hgb;have HR:Hid (r.rule=k):=hrule;have hcnt:=hok.count;clear hC hk hf hgb hrule hK0;go_wp2_with fail;go_loopg [3] r.length (fun q i wr=>∃(j A L C:Nat),q=r.length-j∧j<=r.length∧i=.int .i64 (j:Int)∧A=r.bAt+j∧L=r.lineTo j∧C=r.colTo j∧Cv H b S t wr r v0 es∧Keep H b w0 wr∧wr.heap[g]? =some (.cells #[.int .i64 A,.int .i64 L,.int .i64 C] 97))
 case atStart=>exact⟨0,r.bAt,r.bLine,r.bCol,rfl,lX,rfl,rfl,rfl,rfl,HC.out,J.out,HG.out⟩
 case round=>
  obtain⟨j,A,L,C,hgk,hj,rfl,hA,hL,hCc,hC',hk',hgb'⟩:=hrel;have AA:Hid (gk=r.length-j∧A=r.bAt+j∧L=r.lineTo j∧C=r.colTo j∧Cv H b S t wr r v0 es∧Keep H b w0 wr∧wr.heap[g]? =some (.cells #[.int .i64 A,.int .i64 L,.int .i64 C] 97)):=⟨hgk,hA,hL,hCc,hC',hk',hgb'⟩
  have q1:=r.lineTo_le j;have q2:=r.colTo_le j;have a1:A<2147483648:=by omega
  have a2:L<2147483648:=by omega
  have a3:C<2147483648:=by omega
  have y83:wr.cell? ⟨b,83,none⟩=some (.int .i64 r.length):=hC'.run.get_length;have x0:wr.cell? ⟨g,0,none⟩=some (.int .i64 A):=by simp[World.cell?,hgb']
  have x1:wr.cell? ⟨g,1,none⟩=some (.int .i64 L):=by simp[World.cell?,hgb']
  have x2:wr.cell? ⟨g,2,none⟩=some (.int .i64 C):=by simp[World.cell?,hgb']
  have fz:Hid (∀i,wr.frozen? ⟨g,i,none⟩=false):=fun i=>by simp[World.frozen?,hgb']
  have hgs:g<wr.heap.size:=(kQ.1 hgb').1;clear hgk hA hL hCc hC' hk' hgb' q1 q2;by_cases hjl:j<r.length
  ·have hl1:(j:Int)<(r.length:Int):=by omega
   have hcb:=hok.bytes ((r.first+j)%64) (gW _ (by decide));have HL:Hid (r.lineTo (j+1)=vI (r.byte ((r.first+j)%64)) (r.lineTo j)∧r.colTo (j+1)=zAN (r.byte ((r.first+j)%64)) (r.colTo j)):=⟨rfl,rfl⟩
   have HAT:Hid (Calls prog 151 #[.pointer (some ⟨b,12,none⟩),.int .i64 j] wr.drew fun e w'=>e=.returned (.int .u8 (r.byte ((r.first+j)%64)))∧w'.Alike wr.drew):=zIx b j _ r (Cx.alike (w':=wr.drew) AA.out.2.2.2.2.1 ⟨rfl,rfl,rfl⟩).run hok.first (by omega)
   generalize r.byte ((r.first+j)%64)=c at *;go_wp2_with fail;go_region_with ((first|(go_at_call 151;go_must ((refine Calls.mono HAT.out ?_;rintro e w5 ⟨rfl,ha5⟩;have m0:w5.cell? ⟨g,0,none⟩=some (.int .i64 A):=(ha5.cell ⟨g,0,none⟩).trans x0;have m1:w5.cell? ⟨g,1,none⟩=some (.int .i64 L):=(ha5.cell ⟨g,1,none⟩).trans x1;have m2:w5.cell? ⟨g,2,none⟩=some (.int .i64 C):=(ha5.cell ⟨g,2,none⟩).trans x2)))|(go_at_call 153;go_must ((refine (zDq A L C c _ a1 a2 a3 hcb).mono ?_;rintro e w6 ⟨rfl,hb6⟩;have hg5:g<w5.heap.size:=Nat.lt_of_lt_of_eq hgs (congrArg Array.size ha5.1).symm;have n0:w6.cell? ⟨g,0,none⟩=some (.int .i64 A):=(hb6.cell (p:=⟨g,0,none⟩) hg5).trans m0;have n1:w6.cell? ⟨g,1,none⟩=some (.int .i64 L):=(hb6.cell (p:=⟨g,1,none⟩) hg5).trans m1;have n2:w6.cell? ⟨g,2,none⟩=some (.int .i64 C):=(hb6.cell (p:=⟨g,2,none⟩) hg5).trans m2;have o0:w6.frozen? ⟨g,0,none⟩=false:=(hb6.frozen (p:=⟨g,0,none⟩) hg5).trans ((ha5.frozen ⟨g,0,none⟩).trans (fz.out 0));have o1:w6.frozen? ⟨g,1,none⟩=false:=(hb6.frozen (p:=⟨g,1,none⟩) hg5).trans ((ha5.frozen ⟨g,1,none⟩).trans (fz.out 1));have o2:w6.frozen? ⟨g,2,none⟩=false:=(hb6.frozen (p:=⟨g,2,none⟩) hg5).trans ((ha5.frozen ⟨g,2,none⟩).trans (fz.out 2)))))))
   all_goals
    have h5:w5.heap[g]? =wr.heap[g]? :=congrArg (fun h=>h[g]?) ha5.1;have h6:w6.heap[g]? =some (.cells #[.int .i64 A,.int .i64 L,.int .i64 C] 97):=(hb6.block g hg5).trans (h5.trans AA.out.2.2.2.2.2.2);have c5:=Cx.alike AA.out.2.2.2.2.1 ha5;have c6:=Cx.below c5 hb6;have C7:Hid (Cv H b S t (((w6.setCell ⟨g,0,none⟩ (.int .i64 ((A:Int)+1))).setCell ⟨g,1,none⟩ (.int .i64 (vI c L:Nat))).setCell ⟨g,2,none⟩ (.int .i64 (zAN c C:Nat))) r v0 es∧
      Keep H b w0 (((w6.setCell ⟨g,0,none⟩ (.int .i64 ((A:Int)+1))).setCell ⟨g,1,none⟩ (.int .i64 (vI c L:Nat))).setCell ⟨g,2,none⟩ (.int .i64 (zAN c C:Nat)))∧
      (((w6.setCell ⟨g,0,none⟩ (.int .i64 ((A:Int)+1))).setCell ⟨g,1,none⟩ (.int .i64 (vI c L:Nat))).setCell ⟨g,2,none⟩ (.int .i64 (zAN c C:Nat))).heap[g]? =some (.cells #[.int .i64 ((A+1:Nat):Int),.int .i64 (vI c L:Nat),.int .i64 (zAN c C:Nat)] 97)):=by
     refine⟨((Cx.boxed c6 g 0 _ hg hne).boxed g 1 _ hg hne).boxed g 2 _ hg hne,((((AA.out.2.2.2.2.2.1.trans (Keep.alike ha5)).trans (Keep.below hb6 c5.HH)).trans (Keep.boxed _ g 0 _ hg)).trans (Keep.boxed _ g 1 _ hg)).trans (Keep.boxed _ g 2 _ hg),?_⟩;simp[setCell,lU,h6]
    clear h5 h6 c5 c6 hb6 ha5;go_wp2_with fail;go_roundg (r.length-(j+1))
    case measure=>rw[AA.out.1];omega
    case rel=>exact⟨j+1,A+1,vI c L,zAN c C,rfl,by omega,congrArg (Value.int IntKind.i64) (by omega),by rw[AA.out.2.1];omega,by rw[HL.out.1,AA.out.2.2.1],by rw[HL.out.2,AA.out.2.2.2.1],C7.out.1,C7.out.2.1,C7.out.2.2⟩
  ·have hl1:(r.length:Int)<=(j:Int):=by omega
   have hje:Hid (j=r.length):=by show j=_;omega
   go_wp2_with fail;apply HK.out;obtain⟨_,hA,hL,hCc,hC',hk',hgb'⟩:=AA.out;exact zKB b H S t w0 _ r es hC' hn ok hact hok hl k HR.out hkr hk' g A L C hg hgb' f (by rw[HF.out,hA,hL,hCc,hje.out])
def Rs.long (r:Rs)(t:Tb):Rs×List Ev:=
 if r.length=0 then({r with opn:=false},[r.lastEv 3])
 else r.cut.tok t r.rule.toNat (r.bAt+r.length) (r.lineTo r.length) (r.colTo r.length)
theorem zA1 (b H:Nat)(S:Nat->Prop)(t:Tb)(w:World)(r:Rs){v0:Value}(es:List Ev)(hC:Cv H b S t w r v0 es)(hn:es.length<=4194304)(ok:t.Ok)(hact:∀i,i<t.nrule->t.act i<4)(hok:r.Ok t)(hl:r.length<=r.count)(hrule:r.length=0∨(0<=r.rule∧r.rule<t.nrule))
  (p1:r.bAt+64<2147483648) (p2:r.bLine+64<2147483648) (p3:r.bCol+65<2147483648):
  Calls prog 119 #[.pointer (some ⟨b,0,none⟩)] w fun e w'=>
   e=.returned (.tuple #[])∧∃v,Cv H b S t w' (r.long t).1 v (es++(r.long t).2)∧Keep H b w w':=by
 have HC:=vl hC;have y83:=hC.run.get_length;by_cases h0:r.length=0
 ·have hb:((r.length:Int)==0)=true:=by rw[beq_iff_eq];omega
  have HF:Hid (r.long t=({r with opn:=false},[r.lastEv 3])):=by show r.long t=_;unfold Rs.long;rw[if_pos h0]
  go_in;go_wp2_with fail;refine(qZ b H S t 3 _ r v0 _ _ HC.out hn).mono ?_;rintro e w2 ⟨rfl,ao,cap,c2,k2⟩;have C2:=vl c2;go_wp2;refine bodyPost_ret (results_none rfl _ _ _) rfl ?_;refine⟨rfl,.slice ao (es.length+1) cap,?_,k2⟩;rw[HF.out];unfold Cv;rw[xR,kX];exact C2.out
 ·have hb:((r.length:Int)==0)=false:=by rw[gQ];omega
  obtain⟨k,hk0⟩:=Int.eq_ofNat_of_zero_le (show 0<=r.rule by omega);have hkr:k<t.nrule:=by omega
  have HR:=vl hk0;have HF:Hid (r.long t=r.cut.tok t k (r.bAt+r.length) (r.lineTo r.length) (r.colTo r.length)):=by show r.long t=_;unfold Rs.long;rw[if_neg h0,hk0];rfl
  have y8:=HC.out.run.get_bAt;have y9:=HC.out.run.get_bLine;have y10:=HC.out.run.get_bCol;go_in;apply wp_cut;intro K H0;go_wp2;apply H0.out;apply wp_cut;intro K H1;go_wp2;apply H1.out;exact zKC b H S t w _ r es (Cx.alloc HC.out _) hn ok hact hok hl k HR.out hkr (kZ _ _ HC.out.HH) p1 p2 p3 w.heap.size HC.out.HH (fun e=>by have:=(HC.out.own.lt _ e).2;omega) (gG w _) _ HF.out
def Rs.ate (r:Rs)(t:Tb):Rs:={r with taken:=r.taken+1,state:=t.next r.state (t.kind (r.byte ((r.first+r.taken)%64)))}
def Rs.marked (r:Rs)(t:Tb):Rs:=if t.ends r.state=-1 then r else{r with rule:=t.ends r.state,length:=r.taken}
def Rs.judged (r:Rs)(t:Tb):Rs×List Ev:=if t.live r.state then(r,[]) else r.long t
def Rs.heldStep (r:Rs)(t:Tb):Rs×List Ev:=((r.ate t).marked t).judged t
def Rs.heldN (r:Rs)(t:Tb):Nat->Rs×List Ev
 |0=>(r,[])
 |n+1=>if(r.heldN t n).1.taken<(r.heldN t n).1.count∧(r.heldN t n).1.opn=true then(((r.heldN t n).1.heldStep t).1,(r.heldN t n).2++((r.heldN t n).1.heldStep t).2) else r.heldN t n
structure Rs.Oth (r:Rs)(t:Tb)(P:Nat):Prop where
 ok:r.Ok t
 len:r.length<=r.taken
 tak:r.taken<=r.count
 rule:r.length=0∨(0<=r.rule∧r.rule<t.nrule)
 pos:r.bAt+r.count<=P
 line:r.bLine<=r.bAt+1
 col1:1<=r.bCol
 col:r.bCol<=r.bAt+1
def xA (b:Bool):Nat:=if b then 1 else 0
def Rs.todo (r:Rs):Nat:=r.count*65+(r.count-r.taken)
theorem Rs.colTo_le2 (r:Rs)(h:1<=r.bCol)(i:Nat):1<=r.colTo i∧r.colTo i<=r.bCol+i:=by
 induction i with
 |zero=>exact⟨h,lQ⟩
 |succ i ih=>simp only[Rs.colTo];unfold zAN;split <;> omega
theorem Rs.ate_oth (r:Rs)(t:Tb)(P:Nat)(ok:t.Ok)(h:r.Oth t P)(hl:r.taken<r.count):(r.ate t).Oth t P:=
 ⟨⟨h.ok.d1,h.ok.d4,h.ok.st,ok.next _ _ h.ok.state (ok.kind _ (h.ok.bytes _ (gW _ (by decide)))),h.ok.first,h.ok.count,h.ok.bytes⟩,gZ h.len,hl,h.rule,h.pos,h.line,h.col1,h.col⟩
theorem Rs.marked_oth (r:Rs)(t:Tb)(P:Nat)(ok:t.Ok)(h:r.Oth t P):(r.marked t).Oth t P:=by
 unfold Rs.marked;split
 ·exact h
 ·rename_i he
  have e:=ok.ends r.state h.ok.state;exact⟨⟨h.ok.d1,h.ok.d4,h.ok.st,h.ok.state,h.ok.first,h.ok.count,h.ok.bytes⟩,lQ,h.tak,.inr ⟨by show 0<=t.ends r.state;omega,by show t.ends r.state<t.nrule;omega⟩,h.pos,h.line,h.col1,h.col⟩
theorem Rs.marked_same (r:Rs)(t:Tb):(r.marked t).count=r.count∧(r.marked t).taken=r.taken∧(r.marked t).opn=r.opn∧(r.marked t).state=r.state:=by
 unfold Rs.marked;split <;> exact⟨rfl,rfl,rfl,rfl⟩
theorem Rs.tok_opn (r:Rs)(t:Tb)(rule a l c:Nat):((r.tok t rule a l c).1.opn=r.opn∨(r.tok t rule a l c).2≠[])∧((r.tok t rule a l c).1.opn=true->r.opn=true)∧((r.tok t rule a l c).1.taken=r.taken∧(r.tok t rule a l c).1.length=r.length)∧(((r.tok t rule a l c).1.bAt=r.bAt∧(r.tok t rule a l c).1.bLine=r.bLine∧(r.tok t rule a l c).1.bCol=r.bCol∧(r.tok t rule a l c).1.opn=false)∨((r.tok t rule a l c).1.bAt=a∧(r.tok t rule a l c).1.bLine=l∧(r.tok t rule a l c).1.bCol=c)):=by
 unfold Rs.tok Rs.moved;split
 ·exact⟨.inr (by simp),(fun h=>by cases h),⟨rfl,rfl⟩,.inl ⟨rfl,rfl,rfl,rfl⟩⟩
 ·split
  ·exact⟨.inr (by simp),(fun h=>by cases h),⟨rfl,rfl⟩,.inl ⟨rfl,rfl,rfl,rfl⟩⟩
  ·split
   ·exact⟨.inl rfl,id,⟨rfl,rfl⟩,.inr ⟨rfl,rfl,rfl⟩⟩
   ·split <;> exact⟨.inl rfl,id,⟨rfl,rfl⟩,.inr ⟨rfl,rfl,rfl⟩⟩
theorem Rs.long_inv (r:Rs)(t:Tb)(P:Nat)(ok:t.Ok)(h:r.Oth t P)(ho:r.opn=true)(hc:1<=r.count):
  (r.long t).1.Oth t P∧(r.long t).2.length+(r.long t).1.count+xA (r.long t).1.opn<=r.count+1∧((r.long t).1.opn=true∨(r.long t).2≠[])∧((r.long t).1.count<r.count∨((r.long t).1.opn=false∧(r.long t).1.count=r.count∧(r.long t).1.taken=r.taken)):=by
 unfold Rs.long;have hlt:=h.len;have htk:=h.tak;split
 ·refine⟨⟨⟨h.ok.d1,h.ok.d4,h.ok.st,h.ok.state,h.ok.first,h.ok.count,h.ok.bytes⟩,h.len,h.tak,h.rule,h.pos,h.line,h.col1,h.col⟩,?_,.inr (by simp),.inr ⟨rfl,rfl,rfl⟩⟩
  show 1+r.count+0<=r.count+1;omega
 ·rename_i h0
  have hrule:=h.rule.resolve_left h0;have hr:r.rule.toNat<t.nrule:=by omega
  have hcut:r.cut.Ok t:=⟨h.ok.d1,h.ok.d4,h.ok.st,h.ok.state,gW _ (by decide),lY (Nat.sub_le _ _) h.ok.count,h.ok.bytes⟩
  have hk:=r.cut.tok_ok t r.rule.toNat (r.bAt+r.length) (r.lineTo r.length) (r.colTo r.length) ok hcut hr;have hs:=r.cut.tok_same t r.rule.toNat (r.bAt+r.length) (r.lineTo r.length) (r.colTo r.length)
  have h1:=r.cut.tok_one t r.rule.toNat (r.bAt+r.length) (r.lineTo r.length) (r.colTo r.length)
  obtain⟨o1,o2,⟨o3,o4⟩,o5⟩:=r.cut.tok_opn t r.rule.toNat (r.bAt+r.length) (r.lineTo r.length) (r.colTo r.length)
  generalize r.cut.tok t r.rule.toNat (r.bAt+r.length) (r.lineTo r.length) (r.colTo r.length)=f at *;have e1:f.1.count=r.count-r.length:=hs.count;have e2:f.1.taken=0:=o3;have e3:f.1.length=0:=o4;have hp:=h.pos;have hl:=h.line;have hc1:=h.col1;have hc2:=h.col;have q1:=r.lineTo_le r.length;have q2:=r.colTo_le2 hc1 r.length;refine⟨⟨hk,by omega,by omega,.inl e3,?_,?_,?_,?_⟩,?_,?_,.inl (by omega)⟩
  ·rcases o5 with⟨e,_⟩|⟨e,_⟩
   ·have e':f.1.bAt=r.bAt:=e
    omega
   ·omega
  ·rcases o5 with⟨e,e5,_⟩|⟨e,e5,_⟩
   ·have e':f.1.bAt=r.bAt:=e
    have e6:f.1.bLine=r.bLine:=e5;omega
   ·omega
  ·rcases o5 with⟨_,_,e,_⟩|⟨_,_,e⟩
   ·have e':f.1.bCol=r.bCol:=e
    omega
   ·omega
  ·rcases o5 with⟨e,_,e5,_⟩|⟨e,_,e5⟩
   ·have e':f.1.bAt=r.bAt:=e
    have e6:f.1.bCol=r.bCol:=e5;omega
   ·omega
  ·have:xA f.1.opn<=1:=by unfold xA;split <;> omega
   omega
  ·rcases o1 with o1|o1
   ·left
    rw[o1];exact ho
   ·exact .inr o1
theorem Rs.held_inv (r:Rs)(t:Tb)(P:Nat)(ok:t.Ok)(h:r.Oth t P)(ho:r.opn=true)(hl:r.taken<r.count):
  (r.heldStep t).1.Oth t P∧(r.heldStep t).2.length+(r.heldStep t).1.count+xA (r.heldStep t).1.opn<=r.count+1∧((r.heldStep t).1.opn=true∨(r.heldStep t).2≠[])∧(r.heldStep t).1.todo<r.todo:=by
 have h1:=(r.ate t).marked_oth t P ok (r.ate_oth t P ok h hl);obtain⟨m1,m2,m3,m4⟩:=(r.ate t).marked_same t;have ho1:((r.ate t).marked t).opn=true:=by rw[m3];exact ho
 have c1:((r.ate t).marked t).count=r.count:=m1;have c2:((r.ate t).marked t).taken=r.taken+1:=m2;have h64:=h.ok.count;unfold Rs.heldStep Rs.judged;split
 ·refine⟨h1,?_,.inl ho1,?_⟩
  ·show 0+((r.ate t).marked t).count+xA ((r.ate t).marked t).opn<=r.count+1
   rw[ho1,c1];show 0+r.count+1<=r.count+1;omega
  ·show((r.ate t).marked t).todo<r.todo
   unfold Rs.todo;rw[c1,c2];omega
 ·obtain⟨a1,a2,a3,a4⟩:=((r.ate t).marked t).long_inv t P ok h1 ho1 (by omega)
  refine⟨a1,by rw[c1] at a2;exact a2,a3,?_⟩;unfold Rs.todo;have:=a1.tak;rcases a4 with a4|⟨_,a4,a5⟩
  ·rw[c1] at a4
   omega
  ·rw[a4,a5,c1,c2]
   omega
theorem zL4 (b i:Nat)(w:World)(r:Rs){v0:Value}(hR:zK w b r v0)(hf:r.first<64)(hi:i<64):
  Calls prog 151 #[.pointer (some ⟨b,12,none⟩),.int .i64 i] w fun e w'=>e=.returned (.int .u8 (r.byte ((r.first+i)%64)))∧∃m,w'=w.drewN m:=by
 have h1:=hR.get_first;have hx:=hR.get_byte ((r.first+i)%64) (gW _ (by decide));clear hR;generalize r.first=f at *
 go_enter func151,ntmps151
 go_wp2;go_quiet (fail);go_wp2;go_ret;exact⟨rfl,_,rfl⟩
theorem zEN (b H:Nat)(S:Nat->Prop)(t:Tb)(w:World)(r0:Rs){v0:Value}(es0:List Ev)(P C:Nat)(hC:Cv H b S t w r0 v0 es0)(ok:t.Ok)(hact:∀i,i<t.nrule->t.act i<4)(hO:r0.Oth t P)(hP:P<=1073741824)(hn:es0.length+r0.count+xA r0.opn<=C)(hC4:C<=4194304):
  Calls prog 111 #[.pointer (some ⟨b,0,none⟩)] w fun e w'=>
   e=.returned (.tuple #[])∧∃v n,Cv H b S t w' (r0.heldN t n).1 v (es0++(r0.heldN t n).2)∧Keep H b w w'∧(r0.heldN t n).1.Oth t P∧(es0++(r0.heldN t n).2).length+(r0.heldN t n).1.count+xA (r0.heldN t n).1.opn<=C∧¬((r0.heldN t n).1.taken<(r0.heldN t n).1.count∧(r0.heldN t n).1.opn=true):=by
 have HC0:Hid (Cv H b S t w r0 v0 es0∧r0.Oth t P∧es0.length+r0.count+xA r0.opn<=C):=⟨hC,hO,hn⟩
 clear hC hO hn;go_enter func111,ntmps111
 go_wp2_with fail;go_loopg [] r0.todo (fun q wr=>∃(n:Nat) (r:Rs) (es:List Ev) (v:Value),q=r.todo∧r0.heldN t n=(r,es)∧Cv H b S t wr r v (es0++es)∧Keep H b w wr∧r.Oth t P∧(es0++es).length+r.count+xA r.opn<=C)
 case atStart=>exact⟨0,r0,[],v0,rfl,rfl,by rw[List.append_nil];exact HC0.out.1,Keep.refl _ _ _,HC0.out.2.1,by rw[List.append_nil];exact HC0.out.2.2⟩
 case round=>
  obtain⟨n,r,es,v,hgk,hN,hC,hk,hO,hn⟩:=hrel;have AA:Hid (gk=r.todo∧r0.heldN t n=(r,es)∧Cv H b S t wr r v (es0++es)∧Keep H b w wr∧r.Oth t P∧(es0++es).length+r.count+xA r.opn<=C):=⟨hgk,hN,hC,hk,hO,hn⟩
  have y1:wr.cell? ⟨b,1,none⟩=some (.bool r.opn):=hC.run.get_opn;have y77:wr.cell? ⟨b,77,none⟩=some (.int .i64 r.count):=hC.run.get_count;have y82:wr.cell? ⟨b,82,none⟩=some (.int .i64 r.taken):=hC.run.get_taken;have hok:=hO.ok;have htk:=hO.tak;have hct:=hO.ok.count;clear hgk hN hC hk hO hn;by_cases hcond:r.taken<r.count∧r.opn=true
  ·obtain⟨hlt,hop⟩:=hcond
   have i1:(r.taken:Int)<(r.count:Int):=by omega
   rw[hop] at y1;have HOP:Hid (r.opn=true):=hop;clear hop;go_wp2_with fail;go_quiet (fail);obtain⟨w1,hw1,C1,K1⟩:∃w1,w1=wr.drewN nq∧Hid (Cv H b S t w1 r v (es0++es))∧Hid (Keep H b w w1):=⟨_,rfl,Cx.alike (w':=wr.drewN nq) AA.out.2.2.1 ⟨rfl,rfl,rfl⟩,AA.out.2.2.2.1.trans (Keep.alike ⟨rfl,rfl,rfl⟩)⟩
   rw[<-hw1];clear hw1 y1 y77 y82;have y82:w1.cell? ⟨b,82,none⟩=some (.int .i64 r.taken):=C1.out.run.get_taken;have HAT:Hid (∀q,Calls prog 151 #[.pointer (some ⟨b,12,none⟩),.int .i64 r.taken] (w1.drewN q) fun e w'=>e=.returned (.int .u8 (r.byte ((r.first+r.taken)%64)))∧∃m,w'=(w1.drewN q).drewN m):=fun q=>zL4 b r.taken _ r (Cx.alike (w':=w1.drewN q) C1.out ⟨rfl,rfl,rfl⟩).run hok.first (by omega)
   have hcb:=hok.bytes ((r.first+r.taken)%64) (gW _ (by decide));have HST:Hid (r.ate t={r with taken:=r.taken+1,state:=t.next r.state (t.kind (r.byte ((r.first+r.taken)%64)))}):=rfl;generalize r.byte ((r.first+r.taken)%64)=c at *;have hst:=hok.state;have HOT:Hid (r.Oth t P):=AA.out.2.2.2.2.1;go_wp2_with fail;go_quiet ((go_at_call 151;exact Calls.quiet_of (HAT.out _)));obtain⟨w2,hw2,C2,K2⟩:∃w2,w2=w1.drewN nq∧Hid (Cv H b S t w2 r v (es0++es))∧Hid (Keep H b w w2):=⟨_,rfl,Cx.alike (w':=w1.drewN nq) C1.out ⟨rfl,rfl,rfl⟩,K1.out.trans (Keep.alike ⟨rfl,rfl,rfl⟩)⟩
   rw[<-hw2];clear hw2 y82 C1 K1 HAT;have y82:w2.cell? ⟨b,82,none⟩=some (.int .i64 r.taken):=C2.out.run.get_taken;have z82:=C2.out.run.frozen 82;have y0:w2.cell? ⟨b,0,none⟩=some (.pointer (some ⟨r.tp,0,none⟩)):=C2.out.run.get_tp;have y11:w2.cell? ⟨b,11,none⟩=some (.int .i64 r.state):=C2.out.run.get_state;go_wp2_with fail;obtain⟨w3,hw3,C3,K3⟩:∃w3,w3=w2.setCell ⟨b,82,none⟩ (.int .i64 ((r.taken:Int)+1))∧Hid (Cv H b S t w3 {r with taken:=r.taken+1} v (es0++es))∧Hid (Keep H b w w3):=⟨_,rfl,Cx.stored C2.out 82 _ (C2.out.run.set_taken (r.taken+1)) rfl,K2.out.trans (Keep.set _ _ _)⟩
   rw[<-hw3];clear hw3 y82 z82 y0 y11 C2 K2;have y0:w3.cell? ⟨b,0,none⟩=some (.pointer (some ⟨r.tp,0,none⟩)):=C3.out.run.get_tp;have y11:w3.cell? ⟨b,11,none⟩=some (.int .i64 r.state):=C3.out.run.get_state;have z11:=C3.out.run.frozen 11;have tb3:Hid (TabAt w3.drew S r.tp t):=(Cx.alike (w':=w3.drew) C3.out ⟨rfl,rfl,rfl⟩).tab;have HRA:Hid ((r.ate t).Oth t P∧True):=⟨r.ate_oth t P ok HOT.out hlt,trivial⟩
   have HSTEP:Hid (r.heldStep t=if t.live ((r.ate t).marked t).state then((r.ate t).marked t,[]) else((r.ate t).marked t).long t):=rfl;have INV:Hid ((r.heldStep t).1.Oth t P∧(r.heldStep t).2.length+(r.heldStep t).1.count+xA (r.heldStep t).1.opn<=r.count+1∧((r.heldStep t).1.opn=true∨(r.heldStep t).2≠[])∧(r.heldStep t).1.todo<r.todo):=r.held_inv t P ok HOT.out HOP.out hlt;have HNX:Hid (r0.heldN t (n+1)=((r.heldStep t).1,es++(r.heldStep t).2)):=by show _=_;rw[Rs.heldN,AA.out.2.1,if_pos ⟨hlt,HOP.out⟩]
   generalize r.ate t=ra at *;go_wp2_with fail;go_region_with ((go_at_call 154;go_must ((refine (zEO r.tp _ S t tb3.out ok r.state c hst hcb).mono ?_;rintro e w5 ⟨rfl,ha5⟩;have q11:w5.cell? ⟨b,11,none⟩=some (.int .i64 r.state):=(ha5.cell ⟨b,11,none⟩).trans y11;have z5:w5.frozen? ⟨b,11,none⟩=false:=(ha5.frozen ⟨b,11,none⟩).trans z11))))
   all_goals
    have c5:Hid (Cv H b S t w5 {r with taken:=r.taken+1} v (es0++es)):=Cx.alike C3.out ha5;have k5:Hid (Keep H b w w5):=K3.out.trans (Keep.alike ha5);obtain⟨w6,hw6,C6,K6⟩:∃w6,w6=w5.setCell ⟨b,11,none⟩ (.int .i64 (t.next r.state (t.kind c):Nat))∧Hid (Cv H b S t w6 ra v (es0++es))∧Hid (Keep H b w w6):=⟨_,rfl,by rw[HST.out];exact Cx.stored c5.out 11 _ (c5.out.run.set_state (t.next r.state (t.kind c))) rfl,k5.out.trans (Keep.set _ _ _)⟩
    clear c5 k5 ha5;go_wp2_with fail;rw[<-hw6];clear hw6 q11 z5 y0 y11 z11;have y0:w6.cell? ⟨b,0,none⟩=some (.pointer (some ⟨ra.tp,0,none⟩)):=C6.out.run.get_tp;have y11:w6.cell? ⟨b,11,none⟩=some (.int .i64 ra.state):=C6.out.run.get_state;obtain⟨_,h9,b9,o9,cap9,hb9,rfl,hcap9,hml9,hL9⟩:=C6.out.tab.c9;have hsa:=HRA.out.1.ok.state;have hx9:w6.cell? ⟨b9,o9+ra.state,none⟩=some (.int .i64 (t.ends ra.state)):=hL9 _ hsa;have ia:(ra.state:Int)<(t.nst:Int):=by omega
    clear hL9;by_cases hen:t.ends ra.state=-1
    ·have ie:(t.ends ra.state != -1)=false:=by rw[hen];rfl
     have HMR:Hid (ra.marked t=ra):=by show _=_;unfold Rs.marked;rw[if_pos hen]
     clear hen;generalize t.ends ra.state=ee at *;go_wp2_with fail;go_quiet (fail);obtain⟨wm,hwm,CM,KM⟩:∃wm,wm=w6.drewN nq∧Hid (Cv H b S t wm (ra.marked t) v (es0++es))∧Hid (Keep H b w wm):=⟨_,rfl,by show Cv _ _ _ _ _ _ _ _;rw[HMR.out];exact Cx.alike (w':=w6.drewN nq) C6.out ⟨rfl,rfl,rfl⟩,K6.out.trans (Keep.alike ⟨rfl,rfl,rfl⟩)⟩
     rw[<-hwm];clear hwm y0 y11 h9 hx9 C6 K6;have HM:Hid ((ra.marked t).Oth t P∧True):=⟨ra.marked_oth t P ok HRA.out.1,trivial⟩
     generalize ra.marked t=rm at *;go_wp2_with fail;have y0:wm.cell? ⟨b,0,none⟩=some (.pointer (some ⟨rm.tp,0,none⟩)):=CM.out.run.get_tp;have y11:wm.cell? ⟨b,11,none⟩=some (.int .i64 rm.state):=CM.out.run.get_state;obtain⟨_,h10,b10,o10,cap10,hb10,rfl,hcap10,hml10,hL10⟩:=CM.out.tab.c10;have hsm:=HM.out.1.ok.state;have hx10:wm.cell? ⟨b10,o10+rm.state,none⟩=some (.bool (t.live rm.state)):=hL10 _ hsm;have im:(rm.state:Int)<(t.nst:Int):=by omega
     clear hL10;cases hlv:t.live rm.state with
     |true=>
      rw[hlv] at hx10;have HE:Hid (r.heldStep t=(rm,[])):=by show _=_;rw[HSTEP.out,if_pos hlv]
      clear hlv;go_wp2_with fail;go_quiet (fail);obtain⟨w9,hw9,C9,K9⟩:∃w9,w9=wm.drewN nq∧Hid (Cv H b S t w9 rm v (es0++es))∧Hid (Keep H b w w9):=⟨_,rfl,Cx.alike (w':=wm.drewN nq) CM.out ⟨rfl,rfl,rfl⟩,KM.out.trans (Keep.alike ⟨rfl,rfl,rfl⟩)⟩
      rw[<-hw9];clear hw9;go_wp2_with fail;have hI:=INV.out;rw[HE.out] at hI;have hB:=AA.out.2.2.2.2.2;rw[HOP.out] at hB;go_roundg rm.todo
      case measure=>rw[AA.out.1];exact hI.2.2.2
      case rel=>exact⟨n+1,rm,es,v,rfl,by rw[HNX.out,HE.out,List.append_nil],C9.out,K9.out,hI.1,by have h2:0+rm.count+xA rm.opn<=r.count+1:=hI.2.1;have h3:(es0++es).length+r.count+1<=C:=hB;omega⟩
     |false=>
      rw[hlv] at hx10;have HE:Hid (r.heldStep t=rm.long t):=by show _=_;rw[HSTEP.out,if_neg (by rw[hlv];decide)]
      clear hlv;go_wp2_with fail;go_quiet (fail);obtain⟨w9,hw9,C9,K9⟩:∃w9,w9=wm.drewN nq∧Hid (Cv H b S t w9 rm v (es0++es))∧Hid (Keep H b w w9):=⟨_,rfl,Cx.alike (w':=wm.drewN nq) CM.out ⟨rfl,rfl,rfl⟩,KM.out.trans (Keep.alike ⟨rfl,rfl,rfl⟩)⟩
      rw[<-hw9];clear hw9 y0 y11 h10 hx10;have hI:=INV.out;rw[HE.out] at hI;have hB:=AA.out.2.2.2.2.2;rw[HOP.out] at hB;have hB2:(es0++es).length+r.count+1<=C:=hB;have hpp:=HM.out.1.pos;have hll:=HM.out.1.line;have hcl:=HM.out.1.col;have HLG:Hid (Calls prog 119 #[.pointer (some ⟨b,0,none⟩)] w9 fun e w'=>e=.returned (.tuple #[])∧∃v,Cv H b S t w' (rm.long t).1 v ((es0++es)++(rm.long t).2)∧Keep H b w9 w'):=zA1 b H S t w9 rm (es0++es) C9.out (by omega) ok hact HM.out.1.ok (lY HM.out.1.len HM.out.1.tak) HM.out.1.rule (by omega) (by omega) (by omega);have HI:Hid ((rm.long t).1.Oth t P∧(rm.long t).2.length+(rm.long t).1.count+xA (rm.long t).1.opn<=r.count+1∧((rm.long t).1.opn=true∨(rm.long t).2≠[])∧(rm.long t).1.todo<r.todo):=hI;clear hI hB hpp hll hcl;go_wp2_with fail;refine Calls.mono HLG.out ?_;rintro e w10 ⟨rfl,v10,c10,k10⟩;have CZ:Hid (Cv H b S t w10 (rm.long t).1 v10 (es0++(es++(rm.long t).2))∧Keep H b w w10):=⟨by rw[<-gU];exact c10,K9.out.trans k10⟩
      clear c10 k10 HLG;go_wp2_with fail;go_roundg (rm.long t).1.todo
      case measure=>rw[AA.out.1];exact HI.out.2.2.2
      case rel=>exact⟨n+1,(rm.long t).1,es++(rm.long t).2,v10,rfl,by rw[HNX.out,HE.out],CZ.out.1,CZ.out.2,HI.out.1,by have h2:=HI.out.2.1;rw[kX,kX];rw[kX] at hB2;omega⟩
    ·have ie:(t.ends ra.state != -1)=true:=by rw[bne_iff_ne];exact hen
     have HMR:Hid (ra.marked t={ra with rule:=t.ends ra.state,length:=ra.taken}):=by show _=_;unfold Rs.marked;rw[if_neg hen]
     clear hen;obtain⟨ee,hee⟩:∃ee,ee=t.ends ra.state:=⟨_,rfl⟩
     rw[<-hee] at hx9 ie HMR;clear hee;go_wp2_with fail;go_quiet (fail);obtain⟨w7,hw7,C7,K7⟩:∃w7,w7=w6.drewN nq∧Hid (Cv H b S t w7 ra v (es0++es))∧Hid (Keep H b w w7):=⟨_,rfl,Cx.alike (w':=w6.drewN nq) C6.out ⟨rfl,rfl,rfl⟩,K6.out.trans (Keep.alike ⟨rfl,rfl,rfl⟩)⟩
     have x9:w7.cell? ⟨b9,o9+ra.state,none⟩=some (.int .i64 ee):=by rw[hw7];exact hx9
     have x9':w7.cell? ⟨ra.tp,9,none⟩=some (.slice (some ⟨b9,o9,none⟩) t.nst cap9):=by rw[hw7];exact h9
     rw[<-hw7];clear hw7 y0 y11 h9 hx9 C6 K6;have y0:w7.cell? ⟨b,0,none⟩=some (.pointer (some ⟨ra.tp,0,none⟩)):=C7.out.run.get_tp;have y11:w7.cell? ⟨b,11,none⟩=some (.int .i64 ra.state):=C7.out.run.get_state;have y84:w7.cell? ⟨b,84,none⟩=some (.int .i64 ra.rule):=C7.out.run.get_rule;have z84:=C7.out.run.frozen 84;have y82:w7.cell? ⟨b,82,none⟩=some (.int .i64 ra.taken):=C7.out.run.get_taken;have y83:w7.cell? ⟨b,83,none⟩=some (.int .i64 ra.length):=C7.out.run.get_length;have z83:=C7.out.run.frozen 83;have nb9:b9≠b:=(C7.out.safe _ hb9).2;have ntp:ra.tp≠b:=(C7.out.safe _ C7.out.tab.safe).2;go_wp2_with fail;go_region
     all_goals
      go_wp2_with fail;obtain⟨wm,hwm,CM,KM⟩:∃wm,wm=((w7.setCell ⟨b,84,none⟩ (.int .i64 ee)).setCell ⟨b,83,none⟩ (.int .i64 (ra.taken:Nat))).drew∧Hid (Cv H b S t wm (ra.marked t) v (es0++es))∧Hid (Keep H b w wm):=by
       have d1:=Cx.stored C7.out 84 _ (C7.out.run.set_rule ee) rfl;have d2:=d1.stored 83 _ (d1.run.set_length ra.taken) rfl;exact⟨_,rfl,by show Cv _ _ _ _ _ _ _ _;rw[HMR.out];exact Cx.alike d2 ⟨rfl,rfl,rfl⟩,((K7.out.trans (Keep.set _ _ _)).trans (Keep.set _ _ _)).trans (Keep.drew _)⟩
      rw[<-hwm];clear hwm y0 y11 y84 z84 y82 y83 z83 x9 x9' C7 K7;have HM:Hid ((ra.marked t).Oth t P∧True):=⟨ra.marked_oth t P ok HRA.out.1,trivial⟩
      generalize ra.marked t=rm at *;have y0:wm.cell? ⟨b,0,none⟩=some (.pointer (some ⟨rm.tp,0,none⟩)):=CM.out.run.get_tp;have y11:wm.cell? ⟨b,11,none⟩=some (.int .i64 rm.state):=CM.out.run.get_state;obtain⟨_,h10,b10,o10,cap10,hb10,rfl,hcap10,hml10,hL10⟩:=CM.out.tab.c10;have hsm:=HM.out.1.ok.state;have hx10:wm.cell? ⟨b10,o10+rm.state,none⟩=some (.bool (t.live rm.state)):=hL10 _ hsm;have im:(rm.state:Int)<(t.nst:Int):=by omega
      clear hL10;cases hlv:t.live rm.state with
      |true=>
       rw[hlv] at hx10;have HE:Hid (r.heldStep t=(rm,[])):=by show _=_;rw[HSTEP.out,if_pos hlv]
       clear hlv;go_wp2_with fail;go_quiet (fail);obtain⟨w9,hw9,C9,K9⟩:∃w9,w9=wm.drewN nq∧Hid (Cv H b S t w9 rm v (es0++es))∧Hid (Keep H b w w9):=⟨_,rfl,Cx.alike (w':=wm.drewN nq) CM.out ⟨rfl,rfl,rfl⟩,KM.out.trans (Keep.alike ⟨rfl,rfl,rfl⟩)⟩
       rw[<-hw9];clear hw9;go_wp2_with fail;have hI:=INV.out;rw[HE.out] at hI;have hB:=AA.out.2.2.2.2.2;rw[HOP.out] at hB;go_roundg rm.todo
       case measure=>rw[AA.out.1];exact hI.2.2.2
       case rel=>exact⟨n+1,rm,es,v,rfl,by rw[HNX.out,HE.out,List.append_nil],C9.out,K9.out,hI.1,by have h2:0+rm.count+xA rm.opn<=r.count+1:=hI.2.1;have h3:(es0++es).length+r.count+1<=C:=hB;omega⟩
      |false=>
       rw[hlv] at hx10;have HE:Hid (r.heldStep t=rm.long t):=by show _=_;rw[HSTEP.out,if_neg (by rw[hlv];decide)]
       clear hlv;go_wp2_with fail;go_quiet (fail);obtain⟨w9,hw9,C9,K9⟩:∃w9,w9=wm.drewN nq∧Hid (Cv H b S t w9 rm v (es0++es))∧Hid (Keep H b w w9):=⟨_,rfl,Cx.alike (w':=wm.drewN nq) CM.out ⟨rfl,rfl,rfl⟩,KM.out.trans (Keep.alike ⟨rfl,rfl,rfl⟩)⟩
       rw[<-hw9];clear hw9 y0 y11 h10 hx10;have hI:=INV.out;rw[HE.out] at hI;have hB:=AA.out.2.2.2.2.2;rw[HOP.out] at hB;have hB2:(es0++es).length+r.count+1<=C:=hB;have hpp:=HM.out.1.pos;have hll:=HM.out.1.line;have hcl:=HM.out.1.col;have HLG:Hid (Calls prog 119 #[.pointer (some ⟨b,0,none⟩)] w9 fun e w'=>e=.returned (.tuple #[])∧∃v,Cv H b S t w' (rm.long t).1 v ((es0++es)++(rm.long t).2)∧Keep H b w9 w'):=zA1 b H S t w9 rm (es0++es) C9.out (by omega) ok hact HM.out.1.ok (lY HM.out.1.len HM.out.1.tak) HM.out.1.rule (by omega) (by omega) (by omega);have HI:Hid ((rm.long t).1.Oth t P∧(rm.long t).2.length+(rm.long t).1.count+xA (rm.long t).1.opn<=r.count+1∧((rm.long t).1.opn=true∨(rm.long t).2≠[])∧(rm.long t).1.todo<r.todo):=hI;clear hI hB hpp hll hcl;go_wp2_with fail;refine Calls.mono HLG.out ?_;rintro e w10 ⟨rfl,v10,c10,k10⟩;have CZ:Hid (Cv H b S t w10 (rm.long t).1 v10 (es0++(es++(rm.long t).2))∧Keep H b w w10):=⟨by rw[<-gU];exact c10,K9.out.trans k10⟩
       clear c10 k10 HLG;go_wp2_with fail;go_roundg (rm.long t).1.todo
       case measure=>rw[AA.out.1];exact HI.out.2.2.2
       case rel=>exact⟨n+1,(rm.long t).1,es++(rm.long t).2,v10,rfl,by rw[HNX.out,HE.out],CZ.out.1,CZ.out.2,HI.out.1,by have h2:=HI.out.2.1;rw[kX,kX];rw[kX] at hB2;omega⟩
  ·have HE:Hid (¬(r.taken<r.count∧r.opn=true)):=hcond
   have fin_:Hid (∃v m,Cv H b S t wr (r0.heldN t m).1 v (es0++(r0.heldN t m).2)∧Keep H b w wr∧(r0.heldN t m).1.Oth t P∧(es0++(r0.heldN t m).2).length+(r0.heldN t m).1.count+xA (r0.heldN t m).1.opn<=C∧¬((r0.heldN t m).1.taken<(r0.heldN t m).1.count∧(r0.heldN t m).1.opn=true)):=by
    refine⟨v,n,?_⟩;rw[AA.out.2.1];exact⟨AA.out.2.2.1,AA.out.2.2.2.1,AA.out.2.2.2.2.1,AA.out.2.2.2.2.2,HE.out⟩
   by_cases hlt:r.taken<r.count
   ·have i1:(r.taken:Int)<(r.count:Int):=by omega
    have hop:r.opn=false:=by
     cases h:r.opn with
     |false=>rfl
     |true=>exact absurd ⟨hlt,h⟩ hcond
    rw[hop] at y1;clear hop hcond;go_wp2_with fail;go_quiet (fail);obtain⟨w1,hw1,FN⟩:∃w1,w1=wr.drewN nq∧Hid (∃v m,Cv H b S t w1 (r0.heldN t m).1 v (es0++(r0.heldN t m).2)∧Keep H b w w1∧(r0.heldN t m).1.Oth t P∧(es0++(r0.heldN t m).2).length+(r0.heldN t m).1.count+xA (r0.heldN t m).1.opn<=C∧¬((r0.heldN t m).1.taken<(r0.heldN t m).1.count∧(r0.heldN t m).1.opn=true)):=by
     obtain⟨v,m,f1,f2,f3⟩:=fin_.out;exact⟨_,rfl,v,m,Cx.alike (w':=wr.drewN nq) f1 ⟨rfl,rfl,rfl⟩,f2.trans (Keep.alike ⟨rfl,rfl,rfl⟩),f3⟩
    rw[<-hw1];clear hw1 fin_;go_wp2_with fail;go_end0;exact⟨rfl,FN.out⟩
   ·have i1:(r.count:Int)<=(r.taken:Int):=by omega
    clear hcond;go_wp2_with fail;go_quiet (fail);obtain⟨w1,hw1,FN⟩:∃w1,w1=wr.drewN nq∧Hid (∃v m,Cv H b S t w1 (r0.heldN t m).1 v (es0++(r0.heldN t m).2)∧Keep H b w w1∧(r0.heldN t m).1.Oth t P∧(es0++(r0.heldN t m).2).length+(r0.heldN t m).1.count+xA (r0.heldN t m).1.opn<=C∧¬((r0.heldN t m).1.taken<(r0.heldN t m).1.count∧(r0.heldN t m).1.opn=true)):=by
     obtain⟨v,m,f1,f2,f3⟩:=fin_.out;exact⟨_,rfl,v,m,Cx.alike (w':=wr.drewN nq) f1 ⟨rfl,rfl,rfl⟩,f2.trans (Keep.alike ⟨rfl,rfl,rfl⟩),f3⟩
    rw[<-hw1];clear hw1 fin_;go_wp2_with fail;go_end0;exact⟨rfl,FN.out⟩
def Rs.added (r:Rs)(c:Nat):Rs:={r with byte:=fun j=>if j=(r.first+r.count)%64 then c else r.byte j,count:=r.count+1}
def Rs.looked (r:Rs)(t:Tb)(d:Nat):Rs:={r with ahead:=t.further r.ahead d}
def Rs.due (r:Rs)(t:Tb):Rs×List Ev:=if t.ahead<r.count then r.step t else(r,[])
def Rs.take (r:Rs)(t:Tb)(c:Nat):Rs×List Ev:=((r.added c).looked t (t.kind c)).due t
theorem Rs.added_ok (r:Rs)(t:Tb)(c:Nat)(h:r.Ok t)(hc:c<256)(hn:r.count<64):(r.added c).Ok t:=
 ⟨h.d1,h.d4,h.st,h.state,h.first,hn,fun j hj=>by
  show(if j=(r.first+r.count)%64 then c else r.byte j)<256;split
  ·exact hc
  ·exact h.bytes j hj⟩
theorem zKf (b H:Nat)(S:Nat->Prop)(t:Tb)(w0 w:World)(r:Rs){v0:Value}(es:List Ev)(hC:Cv H b S t w r v0 es)(hn:es.length<=4194304)(ok:t.Ok)(hact:∀i,i<t.nrule->t.act i<4)(hok:r.Ok t)(ha:r.ahead<t.rows)(hc:1<=r.count)
  (p1:r.hAt<2147483648) (p2:r.hLine<2147483648) (p3:r.hCol<2147483648) (hk:Keep H b w0 w) (f:Rs×List Ev) (hf:f=r.due t)
  {u1 u2 u3 u4 u5 u6 u7 u8 u9 u10 u11 u12 u13 u14 u15 u16 u17 u18 u19 u20 u21 u22 u23 u24 u25 u26 u27 u28 u29 u30 u31 u32 u33 u34 u35 u36 u37 u38 u39 u40 u41 u42 u43 u44 u45:Value}:
  Code.wp prog (yQ 2 ((f73.body).getD .skip)) (bodyPost prog f73 fun e w'=>
   e=.returned (.tuple #[])∧∃v,Cv H b S t w' f.1 v (es++f.2)∧Keep H b w0 w')
   ⟨(.pointer (some ⟨b,0,none⟩)::u1::u2::u3::u4::u5::u6::u7::u8::u9::u10::u11::u12::u13::u14::u15::u16::u17::u18::u19::u20::u21::u22::u23::u24::u25::u26::u27::u28::u29::u30::u31::u32::u33::u34::u35::u36::u37::u38::u39::u40::u41::u42::u43::u44::u45::[]).toArray,[]⟩ w:=by
 conv=>arg 2;whnf
 have HC:Hid (Cv H b S t w r v0 es):=hC;have J:Hid (Keep H b w0 w):=hk;have HF:Hid (f=r.due t):=hf;have y0:w.cell? ⟨b,0,none⟩=some (.pointer (some ⟨r.tp,0,none⟩)):=HC.out.run.get_tp;have y77:w.cell? ⟨b,77,none⟩=some (.int .i64 r.count):=HC.out.run.get_count;have x1:w.cell? ⟨r.tp,1,none⟩=some (.int .i64 t.ahead):=HC.out.tab.c1;clear hC hk hf;by_cases hlt:t.ahead<r.count
 ·have hl1:(t.ahead:Int)<(r.count:Int):=by omega
  go_wp2_with fail;go_quiet (fail);go_wp2_with fail;refine(zHy b H S t _ r es (Cx.alike (w':=w.drewN nq) HC.out ⟨rfl,rfl,rfl⟩) hn ok hact hok hc ha p1 p2 p3).mono ?_;rintro e w2 ⟨rfl,v,c2,k2⟩;have C2:Hid (Cv H b S t w2 f.1 v (es++f.2)):=by
   show Cv H b S t w2 f.1 v (es++f.2);rw[HF.out,Rs.due,if_pos hlt];exact c2
  clear c2;go_wp2_with fail;go_end0;exact⟨rfl,v,C2.out,(J.out.trans (Keep.alike (w':=w.drewN nq) ⟨rfl,rfl,rfl⟩)).trans k2⟩
 ·have hl1:(r.count:Int)<=(t.ahead:Int):=by omega
  go_wp2_with fail;go_quiet (fail);go_wp2_with fail;go_end0;refine⟨rfl,v0,?_,J.out.trans (Keep.alike (w':=w.drewN nq) ⟨rfl,rfl,rfl⟩)⟩;rw[HF.out,Rs.due,if_neg hlt,List.append_nil];exact Cx.alike (w':=w.drewN nq) HC.out ⟨rfl,rfl,rfl⟩
theorem zIN (b H:Nat)(S:Nat->Prop)(t:Tb)(w:World)(r:Rs){v0:Value}(es:List Ev)(c:Nat)(hC:Cv H b S t w r v0 es)(hn:es.length<=4194304)(ok:t.Ok)(hact:∀i,i<t.nrule->t.act i<4)(hok:r.Ok t)(ha:r.ahead<t.rows)(hc:r.count<64)(hcb:c<256)
  (p1:r.hAt<2147483648) (p2:r.hLine<2147483648) (p3:r.hCol<2147483648):
  Calls prog 73 #[.pointer (some ⟨b,0,none⟩),.int .u8 c] w fun e w'=>
   e=.returned (.tuple #[])∧∃v,Cv H b S t w' (r.take t c).1 v (es++(r.take t c).2)∧Keep H b w w':=by
 have HC:Hid (Cv H b S t w r v0 es):=hC;clear hC;go_enter func73,ntmps73
 refine wp_seq_k ?_;intro K hK;have H0:Hid (∀a w,_->K a w):=hK;clear hK;go_wp2_with fail;refine(zGv b c _ r HC.out.run hok.first hc).mono ?_;rintro e w1 ⟨rfl,hR1,hk1⟩;have c1:Hid (Cv H b S t w1 (r.added c) v0 es):=Cx.kept HC.out hk1 hR1 rfl;have k1:Hid (Keep H b w w1):=hk1 H;clear hk1 hR1;go_wp2_with fail;apply H0.out;clear H0;refine wp_seq_k ?_;intro K hK;have H1:Hid (∀a w,_->K a w):=hK;clear hK;have y0:w1.cell? ⟨b,0,none⟩=some (.pointer (some ⟨r.tp,0,none⟩)):=c1.out.run.get_tp;have y81:w1.cell? ⟨b,81,none⟩=some (.int .i64 r.ahead):=c1.out.run.get_ahead;have z81:=c1.out.run.frozen 81;have h6e:=c1.out.tab.c6;obtain⟨vv,h6,b6,o6,cap6,hb6,rfl,hcap6,hml6,hL6⟩:=h6e;have h6':w1.cell? ⟨r.tp,6,none⟩=some (.slice (some ⟨b6,o6,none⟩) 256 cap6):=h6;have hx6:w1.cell? ⟨b6,o6+c,none⟩=some (.int .i64 (t.kind c:Nat)):=hL6 _ hcb;have i1:(c:Int)<256:=by omega
 have hkd:=ok.kind c hcb;have hct:=ok.count;have hrw:=ok.rows;have tb4:Hid (TabAt w1.drew S r.tp t):=(Cx.alike (w':=w1.drew) c1.out ⟨rfl,rfl,rfl⟩).tab;clear hL6 h6;go_wp2_with fail;go_region_with ((go_at_call 108;go_must ((refine (zA2 r.tp _ S t tb4.out ok r.ahead (t.kind c) (by omega) (by omega)).mono ?_;rintro e w5 ⟨rfl,ha5⟩;have q81:w5.cell? ⟨b,81,none⟩=some (.int .i64 r.ahead):=(ha5.cell ⟨b,81,none⟩).trans y81;have z5:w5.frozen? ⟨b,81,none⟩=false:=(ha5.frozen ⟨b,81,none⟩).trans z81))))
 all_goals
  have c5:Hid (Cv H b S t w5 (r.added c) v0 es):=Cx.alike c1.out ha5;have k5:Hid (Keep H b w w5):=k1.out.trans (Keep.alike ha5);have c6:Hid (Cv H b S t (w5.setCell ⟨b,81,none⟩ (.int .i64 (t.further r.ahead (t.kind c):Nat))) ((r.added c).looked t (t.kind c)) v0 es):=Cx.stored c5.out 81 _ (c5.out.run.set_ahead (t.further r.ahead (t.kind c))) rfl;clear c1 k1 tb4 ha5 c5;go_wp2_with fail;apply H1.out;exact zKf b H S t w _ ((r.added c).looked t (t.kind c)) es c6.out hn ok hact (let h:=r.added_ok t c hok hcb hc;⟨h.d1,h.d4,h.st,h.state,h.first,h.count,h.bytes⟩) (gW _ ok.rows0) (Nat.succ_le_succ lX) p1 p2 p3 (k5.out.trans (Keep.set _ _ _)) _ rfl
theorem Rs.held_count (r:Rs)(t:Tb)(P:Nat)(ok:t.Ok)(h:r.Oth t P)(ho:r.opn=true)(hl:r.taken<r.count):(r.heldStep t).1.count<=r.count:=by
 obtain⟨_,h2,h3,_⟩:=r.held_inv t P ok h ho hl;rcases h3 with h3|h3
 ·rw[h3] at h2
  have:xA true=1:=rfl;omega
 ·have:=List.length_pos_iff.2 h3
  omega
theorem Rs.heldN_inv (r:Rs)(t:Tb)(P:Nat)(ok:t.Ok)(h:r.Oth t P)(n:Nat):
  (r.heldN t n).1.Oth t P∧(r.heldN t n).2.length+(r.heldN t n).1.count+xA (r.heldN t n).1.opn<=r.count+xA r.opn∧((r.heldN t n).1.opn=r.opn∨(r.heldN t n).2≠[])∧(r.heldN t n).1.count<=r.count∧(¬((r.heldN t n).1.taken<(r.heldN t n).1.count∧(r.heldN t n).1.opn=true)∨(r.heldN t n).1.todo+n<=r.todo)∧((r.heldN t n).1.opn=true->r.opn=true):=by
 induction n with
 |zero=>exact⟨h,by simp[Rs.heldN],.inl rfl,lQ,.inr lQ,id⟩
 |succ n ih=>
  obtain⟨i1,i2,i3,i4,i5,i6⟩:=ih;rw[Rs.heldN];split
  ·rename_i hc
   obtain⟨a1,a2,a3,a4⟩:=(r.heldN t n).1.held_inv t P ok i1 hc.2 hc.1;have a5:=(r.heldN t n).1.held_count t P ok i1 hc.2 hc.1;have hro:=i6 hc.2;refine⟨a1,?_,?_,lY a5 i4,.inr ?_,fun _=>hro⟩
   ·show((r.heldN t n).2++((r.heldN t n).1.heldStep t).2).length+((r.heldN t n).1.heldStep t).1.count+xA ((r.heldN t n).1.heldStep t).1.opn<=_
    rw[hc.2] at i2;have:xA true=1:=rfl;rw[kX];omega
   ·rcases a3 with a3|a3
    ·left
     show((r.heldN t n).1.heldStep t).1.opn=r.opn;rw[a3,hro]
    ·right
     show(r.heldN t n).2++((r.heldN t n).1.heldStep t).2≠[];intro e;exact a3 (List.append_eq_nil_iff.1 e).2
   ·show((r.heldN t n).1.heldStep t).1.todo+(n+1)<=r.todo
    rcases i5 with i5|i5
    ·exact absurd hc i5
    ·omega
  ·rename_i hc
   exact⟨i1,i2,i3,i4,.inl hc,i6⟩
theorem Rs.heldN_stop (r:Rs)(t:Tb)(n m:Nat)(h:¬((r.heldN t n).1.taken<(r.heldN t n).1.count∧(r.heldN t n).1.opn=true))(hm:n<=m):r.heldN t m=r.heldN t n:=by
 induction m with
 |zero=>rw[show n=0 by omega]
 |succ m ih=>
  by_cases e:n=m+1
  ·rw[e]
  ·rw[Rs.heldN,ih (by omega),if_neg h]
def Rs.heldAll (r:Rs)(t:Tb):Rs×List Ev:=r.heldN t (r.todo+1)
theorem Rs.heldAll_eq (r:Rs)(t:Tb)(P:Nat)(ok:t.Ok)(h:r.Oth t P)(n:Nat)(hs:¬((r.heldN t n).1.taken<(r.heldN t n).1.count∧(r.heldN t n).1.opn=true)):r.heldN t n=r.heldAll t:=by
 have h1:=(r.heldN_inv t P ok h (r.todo+1)).2.2.2.2.1;have h2:¬((r.heldAll t).1.taken<(r.heldAll t).1.count∧(r.heldAll t).1.opn=true):=by
  rcases h1 with h1|h1
  ·exact h1
  ·omega
 rcases Nat.le_total n (r.todo+1) with hl|hl
 ·exact(r.heldN_stop t n _ hs hl).symm
 ·exact r.heldN_stop t _ n h2 hl
theorem Rs.heldAll_inv (r:Rs)(t:Tb)(P:Nat)(ok:t.Ok)(h:r.Oth t P):
  (r.heldAll t).1.Oth t P∧(r.heldAll t).2.length+(r.heldAll t).1.count+xA (r.heldAll t).1.opn<=r.count+xA r.opn∧((r.heldAll t).1.opn=r.opn∨(r.heldAll t).2≠[])∧(r.heldAll t).1.count<=r.count∧((r.heldAll t).1.opn=true->r.opn=true):=by
 obtain⟨a1,a2,a3,a4,_,a6⟩:=r.heldN_inv t P ok h (r.todo+1);exact⟨a1,a2,a3,a4,a6⟩
def Rs.takeO (r:Rs)(t:Tb)(c:Nat):Rs×List Ev:=
 if t.hold<=r.count then({r with opn:=false},[r.lastEv 6]) else(r.added c).heldAll t
theorem Rs.added_oth (r:Rs)(t:Tb)(P c:Nat)(h:r.Oth t P)(hc:c<256)(hn:r.count<64):(r.added c).Oth t (P+1):=by
 have h1:=h.len;have h2:=h.tak;have h3:=h.pos;exact⟨r.added_ok t c h.ok hc hn,h1,gZ h2,h.rule,by show r.bAt+(r.count+1)<=P+1;omega,h.line,h.col1,h.col⟩
theorem Rs.takeO_inv (r:Rs)(t:Tb)(P c:Nat)(ok:t.Ok)(h:r.Oth t P)(hc:c<256)(ho:r.opn=true):
  (r.takeO t c).1.Oth t (P+1)∧(r.takeO t c).2.length+(r.takeO t c).1.count+xA (r.takeO t c).1.opn<=r.count+2∧((r.takeO t c).1.opn=true∨(r.takeO t c).2≠[]):=by
 unfold Rs.takeO;split
 ·refine⟨⟨⟨h.ok.d1,h.ok.d4,h.ok.st,h.ok.state,h.ok.first,h.ok.count,h.ok.bytes⟩,h.len,h.tak,h.rule,gZ h.pos,h.line,h.col1,h.col⟩,?_,.inr (by simp)⟩
  show 1+r.count+0<=r.count+2;omega
 ·rename_i hh
  have hlt:r.count<64:=by have:=ok.hold;omega
  obtain⟨a1,a2,a3,a4,a5⟩:=(r.added c).heldAll_inv t (P+1) ok (r.added_oth t P c h hc hlt);have e1:(r.added c).count=r.count+1:=rfl;have e2:(r.added c).opn=true:=ho;rw[e1,e2] at a2;rw[e2] at a3;have:xA true=1:=rfl;exact⟨a1,by omega,a3⟩
def Rs.endO (r:Rs)(t:Tb):Rs×List Ev:=(((r.long t).1.heldAll t).1,(r.long t).2++((r.long t).1.heldAll t).2)
def Rs.endN (r:Rs)(t:Tb):Nat->Rs×List Ev
 |0=>(r,[])
 |n+1=>if 0<(r.endN t n).1.count∧(r.endN t n).1.opn=true then(((r.endN t n).1.endO t).1,(r.endN t n).2++((r.endN t n).1.endO t).2) else r.endN t n
theorem Rs.endO_inv (r:Rs)(t:Tb)(P:Nat)(ok:t.Ok)(h:r.Oth t P)(ho:r.opn=true)(hc:0<r.count):
  (r.endO t).1.Oth t P∧(r.endO t).2.length+(r.endO t).1.count+xA (r.endO t).1.opn<=r.count+1∧((r.endO t).1.opn=true∨(r.endO t).2≠[])∧(r.endO t).1.count+xA (r.endO t).1.opn<r.count+1:=by
 obtain⟨a1,a2,a3,a4⟩:=r.long_inv t P ok h ho hc;obtain⟨b1,b2,b3,b4,b5⟩:=(r.long t).1.heldAll_inv t P ok a1;unfold Rs.endO;have o1:xA true=1:=rfl;have o0:xA false=0:=rfl;refine⟨b1,?_,?_,?_⟩
 ·show((r.long t).2++((r.long t).1.heldAll t).2).length+((r.long t).1.heldAll t).1.count+xA ((r.long t).1.heldAll t).1.opn<=_
  rw[kX];omega
 ·by_cases e:((r.long t).1.heldAll t).1.opn=true
  ·exact .inl e
  ·right
   show(r.long t).2++((r.long t).1.heldAll t).2≠[];intro e2;obtain⟨e3,e4⟩:=List.append_eq_nil_iff.1 e2;have h1:=a3.resolve_right (fun h=>h e3);have h2:=b3.resolve_right (fun h=>h e4);exact e (by rw[h2,h1])
 ·show((r.long t).1.heldAll t).1.count+xA ((r.long t).1.heldAll t).1.opn<r.count+1
  rcases a4 with a4|⟨a4,a5,_⟩
  ·have:xA ((r.long t).1.heldAll t).1.opn<=1:=by unfold xA;split <;> omega
   omega
  ·have e:((r.long t).1.heldAll t).1.opn=false:=by
    cases h:((r.long t).1.heldAll t).1.opn with
    |false=>rfl
    |true=>rw[b5 h] at a4;cases a4
   rw[e];omega
theorem Rs.endN_inv (r:Rs)(t:Tb)(P:Nat)(ok:t.Ok)(h:r.Oth t P)(n:Nat):
  (r.endN t n).1.Oth t P∧(r.endN t n).2.length+(r.endN t n).1.count+xA (r.endN t n).1.opn<=r.count+xA r.opn∧((r.endN t n).1.opn=r.opn∨(r.endN t n).2≠[])∧(¬(0<(r.endN t n).1.count∧(r.endN t n).1.opn=true)∨(r.endN t n).1.count+xA (r.endN t n).1.opn+n<=r.count+xA r.opn)∧((r.endN t n).1.opn=true->r.opn=true):=by
 induction n with
 |zero=>exact⟨h,by simp[Rs.endN],.inl rfl,.inr lQ,id⟩
 |succ n ih=>
  obtain⟨i1,i2,i3,i4,i6⟩:=ih;rw[Rs.endN];split
  ·rename_i hc
   obtain⟨a1,a2,a3,a4⟩:=(r.endN t n).1.endO_inv t P ok i1 hc.2 hc.1;have hro:=i6 hc.2;have o1:xA true=1:=rfl;refine⟨a1,?_,?_,.inr ?_,fun _=>hro⟩
   ·show((r.endN t n).2++((r.endN t n).1.endO t).2).length+((r.endN t n).1.endO t).1.count+xA ((r.endN t n).1.endO t).1.opn<=_
    rw[hc.2] at i2;rw[kX];omega
   ·rcases a3 with a3|a3
    ·left
     show((r.endN t n).1.endO t).1.opn=r.opn;rw[a3,hro]
    ·right
     show(r.endN t n).2++((r.endN t n).1.endO t).2≠[];intro e;exact a3 (List.append_eq_nil_iff.1 e).2
   ·show((r.endN t n).1.endO t).1.count+xA ((r.endN t n).1.endO t).1.opn+(n+1)<=_
    rcases i4 with i4|i4
    ·exact absurd hc i4
    ·rw[hc.2] at i4
     omega
  ·rename_i hc
   exact⟨i1,i2,i3,.inl hc,i6⟩
theorem Rs.endN_stop (r:Rs)(t:Tb)(n m:Nat)(h:¬(0<(r.endN t n).1.count∧(r.endN t n).1.opn=true))(hm:n<=m):r.endN t m=r.endN t n:=by
 induction m with
 |zero=>rw[show n=0 by omega]
 |succ m ih=>
  by_cases e:n=m+1
  ·rw[e]
  ·rw[Rs.endN,ih (by omega),if_neg h]
def Rs.endAll (r:Rs)(t:Tb):Rs×List Ev:=r.endN t (r.count+2)
theorem Rs.endAll_eq (r:Rs)(t:Tb)(P:Nat)(ok:t.Ok)(h:r.Oth t P)(n:Nat)(hs:¬(0<(r.endN t n).1.count∧(r.endN t n).1.opn=true)):r.endN t n=r.endAll t:=by
 have h1:=(r.endN_inv t P ok h (r.count+2)).2.2.2.1;have h2:¬(0<(r.endAll t).1.count∧(r.endAll t).1.opn=true):=by
  rcases h1 with h1|h1
  ·exact h1
  ·have:xA r.opn<=1:=by unfold xA;split <;> omega
   omega
 rcases Nat.le_total n (r.count+2) with hl|hl
 ·exact(r.endN_stop t n _ hs hl).symm
 ·exact r.endN_stop t _ n h2 hl
def Rs.closeO (r:Rs)(t:Tb):Rs×List Ev:=if(r.endAll t).1.opn then({(r.endAll t).1 with opn:=false},(r.endAll t).2++[(r.endAll t).1.lastEv 2]) else r.endAll t
theorem Rs.closeO_end (r:Rs)(t:Tb)(P:Nat)(ok:t.Ok)(h:r.Oth t P)(ho:r.opn=true):(r.closeO t).1.opn=false∧(r.closeO t).2≠[]:=by
 have h3:=(r.endN_inv t P ok h (r.count+2)).2.2.1;unfold Rs.closeO;split
 ·exact⟨rfl,by simp⟩
 ·rename_i he
  have he':(r.endAll t).1.opn=false:=by simpa using he
  refine⟨he',?_⟩;rcases h3 with h3|h3
  ·have:(r.endAll t).1.opn=r.opn:=h3
   rw[he',ho] at this;cases this
  ·exact h3
end Go.Proofs.YtbjcfkdnjaiclaaGreat
