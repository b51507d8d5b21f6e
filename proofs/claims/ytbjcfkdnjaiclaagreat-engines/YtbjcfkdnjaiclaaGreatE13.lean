import Derived.Deep.LoopGhost
import Derived.Deep.WholeRow
import Derived.KernelRfl
import Derived.Laws.AppendOwnNone
import Derived.ProofKit
import Derived.Test.YtbjcfkdnjaiclaaGreatRows
import Derived.Test.YtbjcfkdnjaiclaaGreatE0
import Derived.Test.YtbjcfkdnjaiclaaGreatE1
import Derived.Test.YtbjcfkdnjaiclaaGreatE10
import Derived.Test.YtbjcfkdnjaiclaaGreatE11
import Derived.Test.YtbjcfkdnjaiclaaGreatE12
/- Parts of the proof. -/
set_option linter.unusedVariables false
set_option linter.unusedSimpArgs false
set_option maxHeartbeats 4000000
set_option maxRecDepth 100000
namespace Go.Proofs.YtbjcfkdnjaiclaaGreat
open Go.RowKit Go.Proofs.Tryz Go.World
open Go.Value (int slice bool pointer string agg tuple)
open Go.IntKind (i64)
open Go.Ending (returned)
def Rs.drain (t:Tb):Nat->Rs->Rs×List Ev
 |0,r=>(r,[])
 |n+1,r=>if r.opn=false then(r,[]) else((Rs.drain t n ((r.look t).step t).1).1,((r.look t).step t).2++(Rs.drain t n ((r.look t).step t).1).2)
structure Rs.Fit (r:Rs)(t:Tb)(n:Nat):Prop where
 ok:r.Ok t
 ahead:r.ahead<t.rows
 hAt:r.hAt+n<2147483648
 hLine:r.hLine+n<2147483648
 hCol:r.hCol+n<2147483648
theorem Rs.look_ok (r:Rs)(t:Tb)(h:r.Ok t):(r.look t).Ok t:=⟨h.d1,h.d4,h.st,h.state,h.first,h.count,h.bytes⟩
theorem Rs.step_fit (r:Rs)(t:Tb)(n:Nat)(ok:t.Ok)(h:r.Fit t (n+1)):((r.look t).step t).1.Fit t n:=by
 have hs:=((r.look t).took t).fin_same t;have h1:=h.hAt;have h2:=h.hLine;have h3:=h.hCol;refine⟨((r.look t).took t).fin_ok t ok ((r.look t).took_ok t ok (r.look_ok t h.ok)),?_,?_,?_,?_⟩
 ·show(((r.look t).took t).fin t).1.ahead<t.rows
  rw[hs.ahead];exact gZ _ ok.rows0
 ·show(((r.look t).took t).fin t).1.hAt+n<2147483648
  rw[hs.hAt];show r.hAt+1+n<2147483648;omega
 ·show(((r.look t).took t).fin t).1.hLine+n<2147483648
  rw[hs.hLine];show jH _ r.hLine+n<2147483648;unfold jH;split <;> omega
 ·show(((r.look t).took t).fin t).1.hCol+n<2147483648
  rw[hs.hCol];show zA8 _ r.hCol+n<2147483648;unfold zA8;split <;> omega
theorem Rs.step_count (r:Rs)(t:Tb):((r.look t).step t).1.count=r.count-1:=(((r.look t).took t).fin_same t).count
theorem Rs.step_one (r:Rs)(t:Tb):((r.look t).step t).2.length<=1:=((r.look t).took t).fin_one t
theorem zIr (b H:Nat)(S:Nat->Prop)(t:Tb)(w0 w:World)(r:Rs){v0:Value}(es:List Ev)(hC:Cv H b S t w r v0 es)(hn:es.length+r.count<4194304)(ok:t.Ok)(hact:∀i,i<t.nrule->t.act i<4)(hfit:r.Fit t r.count)(hk:Keep H b w0 w)
  (f:Rs×List Ev) (hf:f=((Rs.drain t r.count r).1.ended.1,(Rs.drain t r.count r).2++(Rs.drain t r.count r).1.ended.2))
  {u1 u3 u4 u5 u6 u7 u8 u9 u10 u11 u12 u13 u14 u15 u16 u17 u18 u19 u20 u21 u22 u23 u24 u25 u26 u27 u28 u29 u30 u31 u32 u33 u34 u35 u36 u37 u38 u39 u40 u41 u42 u43 u44 u45 u46 u47 u48 u49 u50 u51 u52 u53 u54 u55 u56 u57 u58 u59 u60 u61 u62 u63 u64 u65 u66 u67 u68 u69 u70 u71 u72 u73 u74 u75 u76 u77 u78 u79 u80 u81 u82 u83 u84:Value}:
  Code.wp prog (yQ 2 ((f84.body).getD .skip)) (bodyPost prog f84 fun e w'=>
   e=returned (tuple #[])∧∃v,Cv H b S t w' f.1 v (es++f.2)∧Keep H b w0 w')
   ⟨(pointer (some ⟨b,0,none⟩)::u1::int i64 (t.count:Int)::u3::u4::u5::u6::u7::u8::u9::u10::u11::u12::u13::u14::u15::u16::u17::u18::u19::u20::u21::u22::u23::u24::u25::u26::u27::u28::u29::u30::u31::u32::u33::u34::u35::u36::u37::u38::u39::u40::u41::u42::u43::u44::u45::u46::u47::u48::u49::u50::u51::u52::u53::u54::u55::u56::u57::u58::u59::u60::u61::u62::u63::u64::u65::u66::u67::u68::u69::u70::u71::u72::u73::u74::u75::u76::u77::u78::u79::u80::u81::u82::u83::u84::[]).toArray,[]⟩ w:=by
 conv=>arg 2;whnf
 refine wp_seq_k ?_;intro K hK0;have HK:=vl hK0;have HC:=vl hC;have J:=vl hk;have HF:=vl hf;clear hC hk hf hK0;go_wp2;go_loopg [] r.count (fun k wr=>∃(r':Rs) (v':Value) (es':List Ev),k=r'.count∧Cv H b S t wr r' v' es'∧Keep H b w0 wr∧r'.Fit t r'.count∧es'.length+r'.count<4194304∧
  f.1=(Rs.drain t r'.count r').1.ended.1∧es++f.2=es'++((Rs.drain t r'.count r').2++(Rs.drain t r'.count r').1.ended.2))
 case atStart=>exact⟨r,v0,es,rfl,HC.out,J.out,hfit,hn,by rw[HF.out],by rw[HF.out]⟩
 case round=>
  obtain⟨r',v',es',hgk,hC',hk',hfit',hn',hf1,hf2⟩:=hrel;have A:Hid (gk=r'.count∧Cv H b S t wr r' v' es'∧Keep H b w0 wr∧f.1=(Rs.drain t r'.count r').1.ended.1∧es++f.2=es'++((Rs.drain t r'.count r').2++(Rs.drain t r'.count r').1.ended.2)):=⟨hgk,hC',hk',hf1,hf2⟩
  have y0:=hC'.run.get_tp;have y1:=hC'.run.get_opn;have y77:=hC'.run.get_count;have y81:=hC'.run.get_ahead;have z81:=hC'.run.frozen 81;by_cases hc0:r'.count=0
  ·have hc1:¬(0:Int)<(r'.count:Int):=by omega
   have H0:=vl hc0;go_wp2;apply HK.out;obtain⟨_,hC',hk',hf1,hf2⟩:=A.out;have hd:Rs.drain t r'.count r'=(r',[]):=by rw[H0.out];rfl
   rw[hd] at hf1 hf2;rw[hf1,show es++f.2=es'++r'.ended.2 from hf2];exact zFo b H S t w0 _ r' es' hC' (by omega) hk' _ rfl
  ·have hc1:(0:Int)<(r'.count:Int):=by omega
   cases ho:r'.opn
   ·rw[ho] at y1
    go_wp2;apply HK.out;obtain⟨_,hC',hk',hf1,hf2⟩:=A.out;have hd:Rs.drain t r'.count r'=(r',[]):=by cases hn0:r'.count with|zero=>rfl|succ n=>rw[Rs.drain,if_pos ho]
    rw[hd] at hf1 hf2;rw[hf1,show es++f.2=es'++r'.ended.2 from hf2];exact zFo b H S t w0 _ r' es' hC' (by omega) hk' _ rfl
   ·rw[ho] at y1
    have Ho:=vl ho;have tb4:=vl <| (Cx.alike (w':=wr.drew) A.out.2.1 ⟨rfl,rfl,rfl⟩).tab;have hct:=ok.count;have hrw:=ok.rows;have hah:=hfit'.ahead;go_wp2;go_region_with ((go_at_call 108;go_must ((refine (zAW r'.tp _ S t tb4.out ok r'.ahead t.count (by omega) (by omega)).mono ?_;rintro e w5 ⟨rfl,ha5⟩;have q81:=(ha5.cell ⟨b,81,none⟩).trans y81;have z5:=(ha5.frozen ⟨b,81,none⟩).trans z81))))
    all_goals
     have c5:=vl <| Cx.alike A.out.2.1 ha5;have k5:=vl <| A.out.2.2.1.trans (Keep.alike ha5);have c6:=vl <| Cx.stored c5.out 81 _ (c5.out.run.set_ahead (t.further r'.ahead t.count)) rfl;clear tb4 ha5 c5;go_wp2_with fail;refine(zHy b H S t _ (r'.look t) es' c6.out (by omega) ok hact (r'.look_ok t hfit'.ok) (by show 1<=r'.count;omega) (gZ _ ok.rows0) (by have:=hfit'.hAt;show r'.hAt<_;omega) (by have:=hfit'.hLine;show r'.hLine<_;omega) (by have:=hfit'.hCol;show r'.hCol<_;omega)).mono ?_;rintro e w7 ⟨rfl,v7,c7,k7⟩;have C7:Hid (Cv H b S t w7 ((r'.look t).step t).1 v7 (es'++((r'.look t).step t).2)∧Keep H b w0 w7):=⟨c7,(k5.out.trans (Keep.set _ _ _)).trans k7⟩
     clear c7 k7;go_wp2_with fail;go_roundg ((r'.look t).step t).1.count
     case measure=>rw[A.out.1,Rs.step_count];omega
     case rel=>
      obtain⟨hgk,_,_,hf1,hf2⟩:=A.out;obtain⟨m,hm⟩:∃m,r'.count=m+1:=⟨r'.count-1,by omega⟩
      have hsc:((r'.look t).step t).1.count=m:=by rw[Rs.step_count,hm];rfl
      have hone:=r'.step_one t;rw[hm,Rs.drain,if_neg (by rw[Ho.out];decide)] at hf1 hf2;refine⟨((r'.look t).step t).1,v7,es'++((r'.look t).step t).2,rfl,C7.out.1,C7.out.2,?_,?_,?_,?_⟩
      ·rw[hsc];exact r'.step_fit t m ok (by rw[<-hm];exact hfit')
      ·rw[hsc,kX];omega
      ·rw[hsc];exact hf1
      ·rw[hsc,hf2];simp[gW]
def Tb.aheadTo (t:Tb)(a:Nat):Nat->Nat
 |0=>a
 |j+1=>t.further (t.aheadTo a j) t.count
theorem Tb.aheadTo_lt (t:Tb)(ok:t.Ok)(a j:Nat)(h:a<t.rows):t.aheadTo a j<t.rows:=by
 cases j with
 |zero=>exact h
 |succ j=>exact gZ _ ok.rows0
def Rs.pad (r:Rs)(t:Tb)(j:Nat):Rs:={r with ahead:=t.aheadTo r.ahead j}
theorem Rs.pad_ok (r:Rs)(t:Tb)(j:Nat)(h:r.Ok t):(r.pad t j).Ok t:=⟨h.d1,h.d4,h.st,h.state,h.first,h.count,h.bytes⟩
def Rs.closed (r:Rs)(t:Tb):Rs×List Ev:=
 let d:=Rs.drain t r.count (r.pad t (t.ahead-r.count))
 (d.1.ended.1,d.2++d.1.ended.2)
theorem zLr (b H:Nat)(S:Nat->Prop)(t:Tb)(w0 w:World)(r:Rs){v0:Value}(es:List Ev)(hC:Cv H b S t w r v0 es)(hn:es.length+r.count<4194304)(ok:t.Ok)(hact:∀i,i<t.nrule->t.act i<4)(hfit:r.Fit t r.count)(hk:Keep H b w0 w)
  (f:Rs×List Ev) (hf:f=r.closed t)
  {u1 u3 u4 u5 u6 u7 u8 u9 u10 u11 u12 u13 u14 u15 u16 u17 u18 u19 u20 u21 u22 u23 u24 u25 u26 u27 u28 u29 u30 u31 u32 u33 u34 u35 u36 u37 u38 u39 u40 u41 u42 u43 u44 u45 u46 u47 u48 u49 u50 u51 u52 u53 u54 u55 u56 u57 u58 u59 u60 u61 u62 u63 u64 u65 u66 u67 u68 u69 u70 u71 u72 u73 u74 u75 u76 u77 u78 u79 u80 u81 u82 u83 u84:Value}:
  Code.wp prog (yQ 1 ((f84.body).getD .skip)) (bodyPost prog f84 fun e w'=>
   e=returned (tuple #[])∧∃v,Cv H b S t w' f.1 v (es++f.2)∧Keep H b w0 w')
   ⟨(pointer (some ⟨b,0,none⟩)::u1::int i64 (t.count:Int)::u3::u4::u5::u6::u7::u8::u9::u10::u11::u12::u13::u14::u15::u16::u17::u18::u19::u20::u21::u22::u23::u24::u25::u26::u27::u28::u29::u30::u31::u32::u33::u34::u35::u36::u37::u38::u39::u40::u41::u42::u43::u44::u45::u46::u47::u48::u49::u50::u51::u52::u53::u54::u55::u56::u57::u58::u59::u60::u61::u62::u63::u64::u65::u66::u67::u68::u69::u70::u71::u72::u73::u74::u75::u76::u77::u78::u79::u80::u81::u82::u83::u84::[]).toArray,[]⟩ w:=by
 conv=>arg 2;whnf
 refine wp_seq_k ?_;intro K hK0;have HK:=vl hK0;have HC:=vl hC;have J:=vl hk;have HF:=vl hf;have y77:w.cell? ⟨b,77,none⟩=some (int i64 r.count):=hC.run.get_count;clear hC hk hf hK0;have hA:=ok.ahead;have hc64:=hfit.ok.count;have hct:=ok.count;have hrw:=ok.rows;go_wp2;go_loopg [3] (t.ahead-r.count) (fun k i wr=>∃j:Nat,k=t.ahead-r.count-j∧j<=t.ahead-r.count∧i=int i64 ((r.count:Int)+(j:Int))∧Cv H b S t wr (r.pad t j) v0 es∧Keep H b w0 wr)
 case atStart=>exact⟨0,rfl,lX,congrArg (Value.int IntKind.i64) (by omega),HC.out,J.out⟩
 case round=>
  obtain⟨j,hgk,hj,rfl,hC',hk'⟩:=hrel;have A:Hid (gk=t.ahead-r.count-j∧Cv H b S t wr (r.pad t j) v0 es∧Keep H b w0 wr):=⟨hgk,hC',hk'⟩
  have y0:wr.cell? ⟨b,0,none⟩=some (pointer (some ⟨r.tp,0,none⟩)):=hC'.run.get_tp;have y81:wr.cell? ⟨b,81,none⟩=some (int i64 (t.aheadTo r.ahead j:Nat)):=hC'.run.get_ahead;have z81:=hC'.run.frozen 81;have x1:wr.cell? ⟨r.tp,1,none⟩=some (int i64 t.ahead):=hC'.tab.c1;have hlt:=t.aheadTo_lt ok r.ahead j hfit.ahead;have HS:Hid (t.aheadTo r.ahead (j+1)=t.further (t.aheadTo r.ahead j) t.count):=rfl;by_cases hjl:j<t.ahead-r.count
  ·have hl:(r.count:Int)+(j:Int)<(t.ahead:Int):=by omega
   have tb4:=vl <| (Cx.alike (w':=wr.drew) A.out.2.1 ⟨rfl,rfl,rfl⟩).tab;generalize t.aheadTo r.ahead j=a at *;go_wp2;go_region_with ((go_at_call 108;go_must ((refine (zAW r.tp _ S t tb4.out ok a t.count (by omega) (by omega)).mono ?_;rintro e w5 ⟨rfl,ha5⟩;have q81:w5.cell? ⟨b,81,none⟩=some (int i64 (a:Nat)):=(ha5.cell ⟨b,81,none⟩).trans y81;have z5:w5.frozen? ⟨b,81,none⟩=false:=(ha5.frozen ⟨b,81,none⟩).trans z81))))
   all_goals
    have c5:=vl <| Cx.alike A.out.2.1 ha5;have k5:=vl <| A.out.2.2.trans (Keep.alike ha5);have c6:Hid (Cv H b S t (w5.setCell ⟨b,81,none⟩ (int i64 (t.further a t.count:Nat))) (r.pad t (j+1)) v0 es):=by
     have h:=Cx.stored c5.out 81 _ (c5.out.run.set_ahead (t.further a t.count)) rfl;rw[<-HS.out] at h ⊢;exact h
    go_wp2;go_roundg (t.ahead-r.count-(j+1))
    case measure=>rw[A.out.1];omega
    case rel=>exact⟨j+1,rfl,by omega,congrArg (Value.int IntKind.i64) (by omega),c6.out,k5.out.trans (Keep.set _ _ _)⟩
  ·have hl:(t.ahead:Int)<=(r.count:Int)+(j:Int):=by omega
   have hje:Hid (j=t.ahead-r.count):=by show j=_;omega
   go_wp2;apply HK.out;refine zIr b H S t w0 _ (r.pad t j) es A.out.2.1 hn ok hact ⟨r.pad_ok t j hfit.ok,hlt,hfit.hAt,hfit.hLine,hfit.hCol⟩ A.out.2.2 f ?_;rw[HF.out,hje.out];rfl
theorem zDd (b H:Nat)(S:Nat->Prop)(t:Tb)(w:World)(r:Rs){v0:Value}(es:List Ev)(hC:Cv H b S t w r v0 es)(hn:es.length+r.count<4194304)(ok:t.Ok)(hact:∀i,i<t.nrule->t.act i<4)(hfit:r.Fit t r.count):
  Calls prog 84 #[pointer (some ⟨b,0,none⟩)] w fun e w'=>
   e=returned (tuple #[])∧∃v,Cv H b S t w' (r.closed t).1 v (es++(r.closed t).2)∧Keep H b w w':=by
 have HC:=vl hC;have y0:=hC.run.get_tp;go_in;apply wp_cut;intro K H0;go_wp2_with fail;refine(zLg r.tp _ S t HC.out.tab).mono ?_;rintro e w1 ⟨rfl,ha1⟩;go_wp2;apply H0.out;exact zLr b H S t w _ r es (Cx.alike HC.out ha1) hn ok hact hfit (Keep.alike ha1) _ rfl
structure Rs.Str (r:Rs)(t:Tb)(P:Nat):Prop where
 ok:r.Ok t
 ahead:r.ahead<t.rows
 cnt:r.count<=t.ahead
 pos:r.hAt+r.count<=P
 line:r.hLine<=r.hAt+1
 col:r.hCol<=r.hAt+1
theorem Rs.step_opn (r:Rs)(t:Tb):((r.step t).1.opn=r.opn∨(r.step t).2≠[])∧((r.step t).1.opn=true->r.opn=true)∧(r.step t).2.length<=1:=by
 have h1:=(r.took t).fin_one t;refine⟨?_,?_,h1⟩
 ·show((r.took t).fin t).1.opn=r.opn∨((r.took t).fin t).2≠[]
  unfold Rs.fin;split
  ·exact((r.took t).tok_opn t _ _ _ _).1
  ·split
   ·exact .inr (by simp)
   ·exact .inl rfl
 ·show((r.took t).fin t).1.opn=true->r.opn=true
  unfold Rs.fin;split
  ·exact((r.took t).tok_opn t _ _ _ _).2.1
  ·split
   ·intro h;cases h
   ·exact id
theorem Rs.take_inv (r:Rs)(t:Tb)(P c:Nat)(ok:t.Ok)(h:r.Str t P)(hc:c<256)(ho:r.opn=true):
  (r.take t c).1.Str t (P+1)∧(r.take t c).2.length+(r.take t c).1.count+xB (r.take t c).1.opn<=r.count+2∧((r.take t c).1.opn=true∨(r.take t c).2≠[]):=by
 have hA:=ok.ahead;have hcn:=h.cnt;have hps:=h.pos;have hln:=h.line;have hcl:=h.col;have hok:((r.added c).looked t (t.kind c)).Ok t:=let h:=r.added_ok t c h.ok hc (by omega);⟨h.d1,h.d4,h.st,h.state,h.first,h.count,h.bytes⟩;unfold Rs.take Rs.due;generalize hq:(r.added c).looked t (t.kind c)=q at *;have e1:q.count=r.count+1:=by rw[<-hq];rfl
 have e2:q.hAt=r.hAt:=by rw[<-hq];rfl
 have e3:q.hLine=r.hLine:=by rw[<-hq];rfl
 have e4:q.hCol=r.hCol:=by rw[<-hq];rfl
 have e5:q.opn=true:=by rw[<-hq];exact ho
 have e6:q.ahead<t.rows:=by rw[<-hq];exact gZ _ ok.rows0
 have o1:xB true=1:=rfl;split
 ·rename_i hd
  obtain⟨s1,s2,s3⟩:=q.step_opn t;have hs:=(q.took t).fin_same t;have f1:(q.step t).1.count=q.count-1:=hs.count;have f2:(q.step t).1.hAt=q.hAt+1:=hs.hAt;have f3:(q.step t).1.hLine<=q.hLine+1:=by
   have e:(q.step t).1.hLine=jH (q.byte q.first) q.hLine:=hs.hLine;rw[e];unfold jH;split <;> omega
  have f4:(q.step t).1.hCol<=q.hCol+1:=by
   have e:(q.step t).1.hCol=zA8 (q.byte q.first) q.hCol:=hs.hCol;rw[e];unfold zA8;split <;> omega
  have f5:(q.step t).1.ahead=q.ahead:=hs.ahead;have f6:=(q.took t).fin_ok t ok (q.took_ok t ok hok);have f7:xB (q.step t).1.opn<=1:=by unfold xB;split <;> omega
  exact⟨⟨f6,by omega,by omega,by omega,by omega,by omega⟩,by omega,by rw[e5] at s1;exact s1⟩
 ·rename_i hd
  refine⟨⟨hok,e6,by show q.count<=t.ahead;omega,by show q.hAt+q.count<=P+1;omega,by show q.hLine<=q.hAt+1;omega,by show q.hCol<=q.hAt+1;omega⟩,?_,.inl e5⟩;show 0+q.count+xB q.opn<=r.count+2;rw[e5];omega
def Rs.Good (r:Rs)(t:Tb)(P:Nat):Prop:=if t.stream then r.Str t P else r.Oth t P
theorem Rs.Good.ok {r:Rs}{t:Tb}{P:Nat}(h:r.Good t P):r.Ok t:=by
 unfold Rs.Good at h;split at h
 ·exact h.ok
 ·exact h.ok
theorem Rs.Good.cnt {r:Rs}{t:Tb}{P:Nat}(h:r.Good t P):r.count<=P:=by
 unfold Rs.Good at h;split at h
 ·have:=h.pos;omega
 ·have:=h.pos;omega
def Rs.eat (r:Rs)(t:Tb)(c:Nat):Rs×List Ev:=if t.stream then r.take t c else r.takeO t c
theorem Rs.eat_inv (r:Rs)(t:Tb)(P c:Nat)(ok:t.Ok)(h:r.Good t P)(hc:c<256)(ho:r.opn=true):
  (r.eat t c).1.Good t (P+1)∧(r.eat t c).2.length+(r.eat t c).1.count+xB (r.eat t c).1.opn<=r.count+2∧((r.eat t c).1.opn=true∨(r.eat t c).2≠[]):=by
 unfold Rs.eat Rs.Good at *;split
 ·rename_i hs
  rw[if_pos hs] at h;exact r.take_inv t P c ok h hc ho
 ·rename_i hs
  rw[if_neg hs] at h;exact r.takeO_inv t P c ok h hc ho
def Rs.feed (t:Tb):List Nat->Rs->Rs×List Ev
 |[],r=>(r,[])
 |c::cs,r=>if r.opn then((Rs.feed t cs (r.eat t c).1).1,(r.eat t c).2++(Rs.feed t cs (r.eat t c).1).2) else(r,[])
theorem Rs.feed_shut (t:Tb)(cs:List Nat)(r:Rs)(h:r.opn=false):Rs.feed t cs r=(r,[]):=by
 cases cs with
 |nil=>rfl
 |cons c cs=>unfold Rs.feed;rw[if_neg (by rw[h];decide)]
theorem Rs.feed_append (t:Tb)(xs bs:List Nat)(r:Rs):Rs.feed t (xs++bs) r=((Rs.feed t bs (Rs.feed t xs r).1).1,(Rs.feed t xs r).2++(Rs.feed t bs (Rs.feed t xs r).1).2):=by
 induction xs generalizing r with
 |nil=>simp[Rs.feed]
 |cons c xs ih=>
  by_cases h:r.opn=true
  ·simp only[List.cons_append,Rs.feed,h,if_true,ih,gW]
  ·have h':r.opn=false:=by simpa using h
   rw[Rs.feed_shut t _ r h',Rs.feed_shut t _ r h'];rw[Rs.feed_shut t _ r h',List.append_nil]
theorem Rs.feed_snoc (t:Tb)(cs:List Nat)(c:Nat)(r:Rs)(h:(Rs.feed t cs r).1.opn=true):Rs.feed t (cs++[c]) r=(((Rs.feed t cs r).1.eat t c).1,(Rs.feed t cs r).2++((Rs.feed t cs r).1.eat t c).2):=by
 rw[Rs.feed_append];simp[Rs.feed,h]
theorem Rs.feed_inv (t:Tb)(ok:t.Ok)(cs:List Nat)(r:Rs)(P:Nat)(h:r.Good t P)(hc:∀c∈cs,c<256):
  (Rs.feed t cs r).1.Good t (P+cs.length)∧(Rs.feed t cs r).2.length+(Rs.feed t cs r).1.count+xB (Rs.feed t cs r).1.opn<=r.count+xB r.opn+cs.length∧((Rs.feed t cs r).1.opn=r.opn∨(Rs.feed t cs r).2≠[]):=by
 induction cs generalizing r P with
 |nil=>exact⟨h,by simp[Rs.feed],.inl rfl⟩
 |cons c cs ih=>
  by_cases ho:r.opn=true
  ·obtain⟨a1,a2,a3⟩:=r.eat_inv t P c ok h (hc c gY) ho
   obtain⟨b1,b2,b3⟩:=ih (r.eat t c).1 (P+1) a1 fun x hx=>hc x (List.mem_cons_of_mem _ hx);have e:Rs.feed t (c::cs) r=((Rs.feed t cs (r.eat t c).1).1,(r.eat t c).2++(Rs.feed t cs (r.eat t c).1).2):=by
    rw[Rs.feed,if_pos ho]
   rw[e,ho];have o1:xB true=1:=rfl;refine⟨?_,?_,?_⟩
   ·rw[gX,Nat.add_comm cs.length,<-Nat.add_assoc];exact b1
   ·rw[kX,gX]
    show(r.eat t c).2.length+(Rs.feed t cs (r.eat t c).1).2.length+(Rs.feed t cs (r.eat t c).1).1.count+xB (Rs.feed t cs (r.eat t c).1).1.opn<=_;omega
   ·show(Rs.feed t cs (r.eat t c).1).1.opn=true∨(r.eat t c).2++(Rs.feed t cs (r.eat t c).1).2≠[]
    by_cases e1:(r.eat t c).2=[]
    ·by_cases e2:(Rs.feed t cs (r.eat t c).1).2=[]
     ·left
      rw[b3.resolve_right (fun h=>h e2)];exact a3.resolve_right (fun h=>h e1)
     ·right;simp[e2]
    ·right;simp[e1]
  ·have h':r.opn=false:=by simpa using ho
   rw[Rs.feed_shut t _ r h'];refine⟨?_,?_,.inl rfl⟩
   ·unfold Rs.Good at *
    split
    ·rename_i hs
     rw[if_pos hs] at h;exact⟨h.ok,h.ahead,h.cnt,lY h.pos (Nat.le_add_right _ _),h.line,h.col⟩
    ·rename_i hs
     rw[if_neg hs] at h;exact⟨h.ok,h.len,h.tak,h.rule,lY h.pos (Nat.le_add_right _ _),h.line,h.col1,h.col⟩
   ·show 0+r.count+xB r.opn<=_
    omega
def Rs.shut (r:Rs)(t:Tb):Rs×List Ev:=if r.opn then(if t.stream then r.closed t else r.closeO t) else(r,[])
theorem Rs.drain_end (t:Tb)(n:Nat)(r:Rs):((Rs.drain t n r).1.opn=r.opn∨(Rs.drain t n r).2≠[])∧(Rs.drain t n r).2.length<=n:=by
 induction n generalizing r with
 |zero=>exact⟨.inl rfl,lQ⟩
 |succ n ih=>
  rw[Rs.drain];split
  ·exact⟨.inl rfl,lX⟩
  ·obtain⟨s1,s2,s3⟩:=(r.look t).step_opn t
   obtain⟨i1,i2⟩:=ih ((r.look t).step t).1
   constructor
   ·show(Rs.drain t n ((r.look t).step t).1).1.opn=r.opn∨((r.look t).step t).2++(Rs.drain t n ((r.look t).step t).1).2≠[]
    by_cases e1:((r.look t).step t).2=[]
    ·by_cases e2:(Rs.drain t n ((r.look t).step t).1).2=[]
     ·left
      rw[i1.resolve_right (fun h=>h e2)];exact s1.resolve_right (fun h=>h e1)
     ·right;simp[e2]
    ·right;simp[e1]
   ·show(((r.look t).step t).2++(Rs.drain t n ((r.look t).step t).1).2).length<=n+1
    rw[kX];omega
theorem Rs.closed_end (r:Rs)(t:Tb)(ho:r.opn=true):(r.closed t).1.opn=false∧(r.closed t).2≠[]∧(r.closed t).2.length<=r.count+1:=by
 obtain⟨d1,d2⟩:=Rs.drain_end t r.count (r.pad t (t.ahead-r.count));have ho':(r.pad t (t.ahead-r.count)).opn=true:=ho;rw[ho'] at d1;unfold Rs.closed;simp only;generalize Rs.drain t r.count (r.pad t (t.ahead-r.count))=d at *;unfold Rs.ended;split
 ·rename_i h
  refine⟨h,?_,?_⟩
  ·have:=d1.resolve_left (by rw[h];decide)
   simpa using this
  ·simp;omega
 ·exact⟨rfl,by simp,by simp;omega⟩
theorem Rs.shut_end (r:Rs)(t:Tb)(P:Nat)(ok:t.Ok)(h:r.Good t P)(ho:r.opn=true):(r.shut t).1.opn=false∧(r.shut t).2≠[]:=by
 unfold Rs.shut;rw[if_pos ho];unfold Rs.Good at h;split
 ·exact⟨(r.closed_end t ho).1,(r.closed_end t ho).2.1⟩
 ·rename_i hs
  rw[if_neg hs] at h;exact r.closeO_end t P ok h ho
def nats (s:ByteArray):List Nat:=s.data.toList.map UInt8.toNat
theorem zC1 (s:ByteArray):∀c∈nats s,c<256:=by
 intro c hc;obtain⟨x,_,rfl⟩:=List.mem_map.1 hc;exact x.toNat_lt
theorem zAb (s:ByteArray):(nats s).length=s.size:=by
 unfold nats;rw[kV,Array.length_toList];rfl
def zJO (i:Nat):Value:=if i=0 then pointer none else if i=1 then bool false else if i=2 then slice none 0 0 else if 12<=i∧i<76 then int .u8 0 else int i64 0
theorem zB0:zeroCells102=((List.range 85).map zJO).toArray:=by kernel_rfl
theorem zG4:(prog.info? 102).map (·.size)=some 85:=by kernel_rfl
def Rs.zero (p:Nat):Rs:=⟨p,true,fun _=>0,0,0,1,1,0,fun _=>0,0,0,0,1,1,0,0,0,0⟩
def jF (z:Array Value)(p:Nat):Array Value:=(((((((z.setIfInBounds 0 (pointer (some ⟨p,0,none⟩))).setIfInBounds 1 (bool true)).setIfInBounds 8 (int i64 0)).setIfInBounds 9 (int i64 1)).setIfInBounds 10 (int i64 1)).setIfInBounds 78 (int i64 0)).setIfInBounds 79 (int i64 1)).setIfInBounds 80 (int i64 1)
theorem jX (p:Nat):(jF zeroCells102 p).size=85:=by unfold jF;rw[zB0];simp
theorem zDT (p i:Nat)(hi:i<85):(jF zeroCells102 p)[i]? =some ((Rs.zero p).cells (slice none 0 0) i):=by
 unfold jF;rw[zB0];simp only[Array.getElem?_setIfInBounds,Array.size_setIfInBounds,List.getElem?_toArray,List.size_toArray,kV,List.length_range,gV];rw[List.getElem?_range hi];unfold Rs.cells zJO Rs.zero;simp only[Option.map_some];by_cases h0:i=0
 ·subst h0;rfl
 by_cases h1:i=1
 ·subst h1;rfl
 by_cases h2:i=2
 ·subst h2;rfl
 by_cases h8:i=8
 ·subst h8;rfl
 by_cases h9:i=9
 ·subst h9;rfl
 by_cases h10:i=10
 ·subst h10;rfl
 by_cases h78:i=78
 ·subst h78;rfl
 by_cases h79:i=79
 ·subst h79;rfl
 by_cases h80:i=80
 ·subst h80;rfl
 rw[if_neg (Ne.symm h80),if_neg (Ne.symm h79),if_neg (Ne.symm h78),if_neg (Ne.symm h10),if_neg (Ne.symm h9),if_neg (Ne.symm h8),if_neg (Ne.symm h1),if_neg (Ne.symm h0)];simp only[h0,h1,h2,h8,h9,h10,h78,h79,h80,if_false];by_cases hb:12<=i∧i<76
 ·rw[if_pos hb]
  repeat rw[if_neg (by omega)]
  rfl
 ·rw[if_neg hb]
  by_cases h3:i=3
  ·subst h3;rfl
  by_cases h4:i=4
  ·subst h4;rfl
  by_cases h5:i=5
  ·subst h5;rfl
  by_cases h6:i=6
  ·subst h6;rfl
  by_cases h7:i=7
  ·subst h7;rfl
  by_cases h11:i=11
  ·subst h11;rfl
  by_cases h76:i=76
  ·subst h76;rfl
  by_cases h77:i=77
  ·subst h77;rfl
  by_cases h81:i=81
  ·subst h81;rfl
  by_cases h82:i=82
  ·subst h82;rfl
  by_cases h83:i=83
  ·subst h83;rfl
  have h84:i=84:=by omega
  subst h84;rfl
theorem zMe {H:Nat}(w:World)(g i:Nat)(x:Value)(hg:H<=g):Keep H H w (w.setCell ⟨g,i,none⟩ x):=⟨rfl,rfl,by simp[World.setCell],fun k h1 _=>lJ _ _ _ _ (by show k≠g;omega)⟩
theorem yD {c:Prop}[Decidable c] {x y:Value}(hx:x.oneCell'=true)(hy:y.oneCell'=true):(if c then x else y).oneCell'=true:=by split <;> assumption
theorem Rs.cells_one (r:Rs)(v:Value)(j:Nat)(hv:v.oneCell'=true):(r.cells v j).oneCell'=true:=by
 unfold Rs.cells;exact yD rfl (yD rfl (yD hv (yD rfl (yD rfl (yD rfl (yD rfl (yD rfl (yD rfl (yD rfl (yD rfl (yD rfl (yD rfl (yD rfl (yD rfl (yD rfl (yD rfl (yD rfl (yD rfl (yD rfl (yD rfl rfl))))))))))))))))))))
theorem zGt (r:Rs)(v:Value)(hv:v.oneCell'=true)(C:Array Value)(hs:C.size=85)(h:∀i,i<85->C[i]? =some (r.cells v i)):C.all (·.oneCell')=true:=by
 rw[Array.all_eq_true];intro i hi;have e:=h i (by omega);rw[Array.getElem?_eq_getElem hi] at e;rw[hU e];exact r.cells_one v i hv
theorem zIB (p:Nat)(S:Nat->Prop)(t:Tb)(w:World)(hT:TabAt w S p t)(hS:∀k,S k->k<w.heap.size)(ok:t.Ok):
  Calls prog 49 #[pointer (some ⟨p,0,none⟩)] w fun e w'=>∃c:Array Value,e=returned (agg c)∧c.size=85∧(∀i,i<85->c[i]? =some (({Rs.zero p with stack:=fun _=>0,depth:=1,state:=t.start 0}:Rs).cells (slice none 0 0) i))∧Grew w w':=by
 have hst:(storeCells {block:=w.heap.size+1+1,off:=0} ((((((((zeroCells102.toList.set 0 (Value.pointer (some {block:=p,off:=0}))).set 1 (Value.bool true)).set 8 (Value.int IntKind.i64 0)).set 9 (Value.int IntKind.i64 1)).set 10 (Value.int IntKind.i64 1)).set 78 (Value.int IntKind.i64 0)).set 79 (Value.int IntKind.i64 1)).set 80 (Value.int IntKind.i64 1))).run prog
   (((w.alloc (Obj.cells zeroCells102 102)).alloc (Obj.cells #[Value.int IntKind.i64 0,Value.int IntKind.i64 1,Value.int IntKind.i64 1] 97)).alloc (Obj.cells zeroCells102 102))=
   .ok () (((w.alloc (Obj.cells zeroCells102 102)).alloc (Obj.cells #[Value.int IntKind.i64 0,Value.int IntKind.i64 1,Value.int IntKind.i64 1] 97)).alloc (Obj.cells (jF zeroCells102 p) 102)):=by
  have h:=run_storeCells_new (P:=prog) ((w.alloc (Obj.cells zeroCells102 102)).alloc (Obj.cells #[Value.int IntKind.i64 0,Value.int IntKind.i64 1,Value.int IntKind.i64 1] 97)) 102 zeroCells102 (jF zeroCells102 p) (by rw[jX];exact zG4) (by rw[jX,zB0];simp) (zGt (Rs.zero p) (slice none 0 0) rfl _ (jX p) (zDT p));rw[show ((w.alloc (Obj.cells zeroCells102 102)).alloc (Obj.cells #[Value.int IntKind.i64 0,Value.int IntKind.i64 1,Value.int IntKind.i64 1] 97)).heap.size=w.heap.size+1+1 by simp] at h;simpa only[jF,Array.toList_setIfInBounds] using h
 have HT:Hid (TabAt w S p t∧∀k,S k->k<w.heap.size):=⟨hT,hS⟩
 go_in;apply wp_cut;intro K0 J;go_wp2;apply J.out;apply wp_cut;intro K1 HK1;go_wp2;apply HK1.out;apply wp_cut;intro K2 HK2;go_wp2;apply HK2.out;obtain⟨w3,hw3,A3⟩:∃w3,w3=(((w.alloc (Obj.cells zeroCells102 102)).alloc (Obj.cells #[Value.int IntKind.i64 0,Value.int IntKind.i64 1,Value.int IntKind.i64 1] 97)).alloc (Obj.cells (jF zeroCells102 p) 102))∧
   Hid (zL w3 (w.heap.size+1+1) (Rs.zero p) (slice none 0 0)∧w3.heap[w.heap.size]? =some (.cells zeroCells102 102 (0,0))∧TabAt w3 S p t∧Grew w w3∧w.heap.size+3<=w3.heap.size):=by
  have hn:=gU ((w.alloc (Obj.cells zeroCells102 102)).alloc (Obj.cells #[Value.int IntKind.i64 0,Value.int IntKind.i64 1,Value.int IntKind.i64 1] 97)) (Obj.cells (jF zeroCells102 p) 102);rw[show ((w.alloc (Obj.cells zeroCells102 102)).alloc (Obj.cells #[Value.int IntKind.i64 0,Value.int IntKind.i64 1,Value.int IntKind.i64 1] 97)).heap.size=w.heap.size+1+1 by simp] at hn;refine⟨_,rfl,⟨_,_,hn,jX p,fun i hi=>zDT p i hi⟩,?_,?_,?_,by simp⟩
  ·exact(lG _ _ _ (by simp;omega)).trans ((lG _ _ _ (by simp)).trans (gU w _))
  ·exact HT.out.1.keep fun k hk=>by
    have:=HT.out.2 k hk;exact(lG _ _ _ (by simp;omega)).trans ((lG _ _ _ (by simp;omega)).trans (lG _ _ _ this))
  ·exact((kZ _ _ lQ).trans (kZ _ _ (by simp))).trans (kZ _ _ (by simp;omega))
 rw[<-hw3];clear hw3 hst;apply wp_cut;intro K3 HK3;go_wp2_with fail;refine(zEW (w.heap.size+1+1) 0 w3 (Rs.zero p) A3.out.1 (by show(0:Nat)<4;decide)).mono ?_;rintro e w4 ⟨rfl,hR4,hk4⟩;have A4:Hid (zL w4 (w.heap.size+1+1) {Rs.zero p with stack:=fun j=>if j=0 then 0 else 0,depth:=1} (slice none 0 0)∧w4.heap[w.heap.size]? =some (.cells zeroCells102 102 (0,0))∧TabAt w4 S p t∧Grew w w4∧w.heap.size+3<=w4.heap.size):=by
  refine⟨hR4,((hk4 w3.heap.size).block _ (by have:=A3.out.2.2.2.2;omega) (by omega)).trans A3.out.2.1,A3.out.2.2.1.keep fun k hk=>(hk4 w3.heap.size).block k (by have:=HT.out.2 k hk;have:=A3.out.2.2.2.2;omega) (by have:=HT.out.2 k hk;omega),A3.out.2.2.2.1.trans ⟨(hk4 0).os,(hk4 0).output,(hk4 0).size,fun k hk _=>(hk4 w3.heap.size).block k (by have:=A3.out.2.2.2.2;omega) (by omega)⟩,lY A3.out.2.2.2.2 (hk4 0).size⟩
 go_wp2;apply HK3.out;refine wp_seq_k ?_;intro K4 hK4;have HK4:Hid (∀a w,_->K4 a w):=hK4;clear hK4;have y11:w4.cell? ⟨w.heap.size+1+1,11,none⟩=some (int i64 0):=A4.out.1.get_state;have z11:=A4.out.1.frozen 11;go_wp2_with fail;refine(jZ (w.heap.size+1+1) w4 _ A4.out.1 S t A4.out.2.2.1 lQ (by show(1:Nat)<=4;decide) ok.nmode).mono ?_;rintro e w5 ⟨rfl,ha5⟩;have y11':w5.cell? ⟨w.heap.size+1+1,11,none⟩=some (int i64 0):=(ha5.cell _).trans y11;have z11':w5.frozen? ⟨w.heap.size+1+1,11,none⟩=false:=(ha5.frozen _).trans z11;clear y11 z11;go_wp2_with fail;apply HK4.out;clear HK4;obtain⟨w6,hw6,A6⟩:∃w6,w6=w5.setCell ⟨w.heap.size+1+1,11,none⟩ (int i64 (t.start 0:Nat))∧Hid (zL w6 (w.heap.size+1+1) {Rs.zero p with stack:=fun _=>0,depth:=1,state:=t.start 0} (slice none 0 0)∧w6.heap[w.heap.size]? =some (.cells zeroCells102 102 (0,0))∧Grew w w6∧w.heap.size+3<=w6.heap.size):=by
  have hR:=(A4.out.1.alike ha5).set_state (t.start 0);rw[show (fun j=>if j=0 then 0 else 0:Nat->Nat)=fun _=>0 from funext fun j=>by split <;> rfl] at hR;refine⟨_,rfl,hR,(lJ _ _ _ _ (by show w.heap.size≠w.heap.size+1+1;omega)).trans ((by rw[ha5.1]:w5.heap[w.heap.size]? =w4.heap[w.heap.size]?).trans A4.out.2.1),(A4.out.2.2.2.1.trans (Keep.alike ha5)).trans (zMe _ _ _ _ (by omega)),?_⟩;have:=A4.out.2.2.2.2;rw[<-ha5.1] at this;simpa[World.setCell] using this
 rw[<-hw6];clear hw6 y11' z11' ha5 A4;obtain⟨hR6,hZ6,hK6,hS6⟩:=A6.out;obtain⟨ty,c,hg6,hc85,hcat⟩:=hR6;have hone:=zGt _ (slice none 0 0) rfl c hc85 hcat
 clear A6;have HCA:Hid (∀i,i<85->c[i]? =some (({Rs.zero p with stack:=fun _=>0,depth:=1,state:=t.start 0}:Rs).cells (slice none 0 0) i)):=hcat
 have HG6:Hid (w6.heap[w.heap.size+1+1]? =some (.cells c ty (0,0))):=hg6;have HZ6:Hid (w6.heap[w.heap.size]? =some (.cells zeroCells102 102 (0,0))):=hZ6;have HON:Hid (c.all (·.oneCell')=true):=hone;clear hcat hg6 hZ6 hone;go_wp2_with fail;refine wp_load_row 102 (.tmp 4) rfl (w.heap.size+1+1) rfl ty c (0,0) _ HG6.out underlying102 rfl (by rw[hc85];exact zG4) ?_;have hs3:(storeCells ⟨w.heap.size,0,none⟩ c.toList).run prog w6=.ok () (w6.setRow w.heap.size c):=by
  have h:=run_storeCells_from (P:=prog) w.heap.size 102 c.toList 0 zeroCells102 w6 HZ6.out (by rw[zB0];simp[hc85]) (fun v hv=>(Array.all_eq_true_iff_forall_mem.1 HON.out) v (by simpa using hv));simpa using h
 go_wp2_with fail;have hg7:(w6.setRow w.heap.size c).heap[w.heap.size]? =some (.cells c 102 (0,0)):=by
  unfold World.setRow;simp[lU,HZ6.out]
 have hl2:(loadVar 102 ⟨w.heap.size,0,none⟩).run prog (w6.setRow w.heap.size c)=.ok (agg c) (w6.setRow w.heap.size c):=run_loadVar_row _ _ 102 102 c (0,0) _ hg7 underlying102 rfl (by rw[hc85];exact zG4);refine bodyPost_ret (v:=agg c) ?_ rfl ⟨c,rfl,hc85,HCA.out,hK6.trans ?_⟩
 ·unfold results
  rw[results49];simp[hl2,asAddr,Sem.run_bind,Sem.run_pure]
 ·refine⟨rfl,rfl,by simp[World.setRow],fun k hk _=>?_⟩
  unfold World.setRow;simp[lU];intro e;omega
theorem zKT (s:ByteArray)(k:Nat)(hk:k<s.size):(nats s).take (k+1)=(nats s).take k++[s[k].toNat]:=by
 unfold nats;rw[<-List.map_take,zKv s k hk,List.map_append,List.map_take];rfl
theorem zLc (t:Tb)(s:ByteArray)(k:Nat)(r:Rs)(hk:k<=s.size)(h:¬(k<s.size∧(Rs.feed t ((nats s).take k) r).1.opn=true)):Rs.feed t ((nats s).take k) r=Rs.feed t (nats s) r:=by
 by_cases e:k<s.size
 ·have ho:(Rs.feed t ((nats s).take k) r).1.opn=false:=by
   cases h':(Rs.feed t ((nats s).take k) r).1.opn with
   |false=>rfl
   |true=>exact absurd ⟨e,h'⟩ h
  conv=>rhs;rw[<-List.take_append_drop k (nats s),Rs.feed_append,Rs.feed_shut t _ _ ho,List.append_nil]
 ·rw[List.take_of_length_le (by rw[zAb];omega)]
theorem zH2 {w:World}{H e z n:Nat}{v:Value}{xs:List Value}(h:w.ownsRow H e z v n xs):∃ao cap,v=slice ao n cap:=by
 rcases h.2 with⟨h1,h2⟩|⟨g,cap,_,h1,_⟩
 ·exact⟨none,0,by rw[h1,h2]⟩
 ·exact⟨_,cap,h1⟩
theorem zH1 {w w':World}{H b e z n:Nat}{v:Value}{xs:List Value}(h:w.ownsRow H e z v n xs)(hk:∀H,Keep H b w w')(hb:b<H):w'.ownsRow H e z v n xs:=by
 refine⟨h.1,h.2.imp id ?_⟩;rintro⟨g,cap,cur,hv,hg,hh,rest⟩;have hlt:=(kQ.1 hh).1;exact⟨g,cap,cur,hv,hg,((hk w.heap.size).block g hlt (by omega)).trans hh,rest⟩
theorem Rs.Good.str {r:Rs}{t:Tb}{P:Nat}(h:r.Good t P)(hs:t.stream=true):r.Str t P:=by unfold Rs.Good at h;rw[if_pos hs] at h;exact h
theorem Rs.Good.oth {r:Rs}{t:Tb}{P:Nat}(h:r.Good t P)(hs:t.stream=false):r.Oth t P:=by unfold Rs.Good at h;rw[if_neg (by rw[hs];decide)] at h;exact h
theorem zJF (b H:Nat)(S:Nat->Prop)(t:Tb)(w:World)(r:Rs){v0:Value}(es:List Ev)(P c:Nat)(hC:Cv H b S t w r v0 es)(ok:t.Ok)(hact:∀i,i<t.nrule->t.act i<4)(hG:r.Good t P)(hP:P<1073741824)(hn:es.length<=4194304)(hcb:c<256)(hs:t.stream=true):
  Calls prog 73 #[pointer (some ⟨b,0,none⟩),int .u8 c] w fun e w'=>
   e=returned (tuple #[])∧∃v,Cv H b S t w' (r.eat t c).1 v (es++(r.eat t c).2)∧Keep H b w w':=by
 have h:=hG.str hs;have h1:=h.pos;have h2:=h.line;have h3:=h.col;have h4:=h.cnt;have h5:=ok.ahead;have e:r.eat t c=r.take t c:=if_pos hs;rw[e];exact zIX b H S t w r es c hC hn ok hact h.ok h.ahead (by omega) hcb (by omega) (by omega) (by omega)
theorem zJG (b H:Nat)(S:Nat->Prop)(t:Tb)(w:World)(r:Rs){v0:Value}(es:List Ev)(P C c:Nat)(hC:Cv H b S t w r v0 es)(ok:t.Ok)(hact:∀i,i<t.nrule->t.act i<4)(hG:r.Good t P)(hP:P<1073741824)(hn:es.length+r.count+xB r.opn<=C)(hC4:C<4194304)(hcb:c<256)(hs:t.stream=false):
  Calls prog 74 #[pointer (some ⟨b,0,none⟩),int .u8 c] w fun e w'=>
   e=returned (tuple #[])∧∃v,Cv H b S t w' (r.eat t c).1 v (es++(r.eat t c).2)∧Keep H b w w':=by
 have e:r.eat t c=r.takeO t c:=if_neg (by rw[hs];decide);rw[e];exact zHx b H S t w r es P C c hC ok hact (hG.oth hs) hP hn hC4 hcb
theorem zFG (b H:Nat)(S:Nat->Prop)(t:Tb)(w:World)(r0:Rs){v0:Value}(es0:List Ev)(s:ByteArray)(P C:Nat)(hC:Cv H b S t w r0 v0 es0)(ok:t.Ok)(hact:∀i,i<t.nrule->t.act i<4)(hG:r0.Good t P)(hP:P+s.size<1073741824)(hn:es0.length+r0.count+xB r0.opn<=C)(hC4:C+s.size<4194304):
  Calls prog 50 #[pointer (some ⟨b,0,none⟩),string s] w fun e w'=>
   ∃v,e=returned v∧zL w' b (Rs.feed t (nats s) r0).1 (slice none 0 0)∧w'.ownsRow H 51 6 v (es0++(Rs.feed t (nats s) r0).2).length (zY (es0++(Rs.feed t (nats s) r0).2))∧Keep H b w w':=by
 have HC0:Hid (Cv H b S t w r0 v0 es0∧r0.Good t P∧es0.length+r0.count+xB r0.opn<=C):=⟨hC,hG,hn⟩
 go_in;apply wp_cut;intro K0 J;go_wp2;apply J.out;apply wp_cut;intro K HK;go_wp2;go_loopg [5] s.size (fun q i wr=>∃(k:Nat) (v:Value),q=s.size-k∧k<=s.size∧i=int i64 (k:Int)∧Cv H b S t wr (Rs.feed t ((nats s).take k) r0).1 v (es0++(Rs.feed t ((nats s).take k) r0).2)∧Keep H b w wr)
 case atStart=>exact⟨0,v0,rfl,lX,rfl,by rw[List.take_zero];show Cv H b S t w r0 v0 (es0++[]);rw[List.append_nil];exact HC0.out.1,Keep.refl _ _ _⟩
 case round=>
  obtain⟨k,v,hgk,hk,rfl,hC,hkp⟩:=hrel;have HD:=vl <| zLc t s k r0 hk;have HI:Hid ((Rs.feed t ((nats s).take k) r0).1.Good t (P+k)∧(es0++(Rs.feed t ((nats s).take k) r0).2).length+(Rs.feed t ((nats s).take k) r0).1.count+xB (Rs.feed t ((nats s).take k) r0).1.opn<=C+k):=by
   have h:=Rs.feed_inv t ok ((nats s).take k) r0 P HC0.out.2.1 (fun c hc=>zC1 s c (List.mem_of_mem_take hc));have hl:((nats s).take k).length=k:=by rw[List.length_take,zAb];omega
   rw[hl] at h;have h3:=HC0.out.2.2;refine⟨h.1,?_⟩;rw[kX];omega
  have HS:Hid (∀hlt:k<s.size,(Rs.feed t ((nats s).take k) r0).1.opn=true->Rs.feed t ((nats s).take (k+1)) r0=(((Rs.feed t ((nats s).take k) r0).1.eat t s[k].toNat).1,(Rs.feed t ((nats s).take k) r0).2++((Rs.feed t ((nats s).take k) r0).1.eat t s[k].toNat).2)):=by
   intro hlt ho;rw[zKT s k hlt];exact Rs.feed_snoc t _ _ _ ho
  generalize hF:Rs.feed t ((nats s).take k) r0=F at *;obtain⟨r,es⟩:=F;have HF:=vl hF;have HA:Hid (Cv H b S t wr r v (es0++es)∧Keep H b w wr∧gk=s.size-k):=⟨hC,hkp,hgk⟩
  have y1:=hC.run.get_opn;have y0:=hC.run.get_tp;have x0:=hC.tab.c0;by_cases hcond:k<s.size∧r.opn=true
  ·obtain⟨hlt,hop⟩:=hcond
   rw[hop] at y1;have HS2:=vl <| HS.out hlt hop;have hb:=s[k].toNat_lt;cases hst:t.stream with
   |true=>
    have HT:=vl hst;rw[hst] at x0;go_wp2_with fail;refine(zJF b H S t wr r (es0++es) (P+k) s[k].toNat HA.out.1 ok hact HI.out.1 (by omega) (by have:=HI.out.2;omega) hb HT.out).mono ?_;rintro e w1 ⟨rfl,v1,c1,k1⟩;have C1:Hid (Cv H b S t w1 (r.eat t s[k].toNat).1 v1 ((es0++es)++(r.eat t s[k].toNat).2)∧Keep H b wr w1):=⟨c1,k1⟩
    go_wp2;go_roundg (s.size-(k+1))
    case measure=>rw[HA.out.2.2];omega
    case rel=>exact⟨k+1,v1,rfl,by omega,by go_num,by rw[HS2.out];rw[gW] at C1;exact C1.out.1,HA.out.2.1.trans C1.out.2⟩
   |false=>
    have HT:=vl hst;rw[hst] at x0;clear hst;go_wp2_with fail;refine(zJG b H S t wr r (es0++es) (P+k) (C+k) s[k].toNat HA.out.1 ok hact HI.out.1 (by omega) HI.out.2 (by omega) hb HT.out).mono ?_;rintro e w1 ⟨rfl,v1,c1,k1⟩;have C1:Hid (Cv H b S t w1 (r.eat t s[k].toNat).1 v1 ((es0++es)++(r.eat t s[k].toNat).2)∧Keep H b wr w1):=⟨c1,k1⟩
    clear c1 k1;go_wp2_with fail;go_roundg (s.size-(k+1))
    case measure=>rw[HA.out.2.2];omega
    case rel=>exact⟨k+1,v1,rfl,by omega,by go_num,by rw[HS2.out];rw[gW] at C1;exact C1.out.1,HA.out.2.1.trans C1.out.2⟩
  ·have HE:Hid (Rs.feed t (nats s) r0=(r,es)):=(HD.out hcond).symm
   obtain⟨ao,cap,hv⟩:=zH2 HA.out.1.own;have HV:Hid (v=slice ao (es0++es).length cap):=hv;clear hv HS HD;have fin:∀wz,Cv H b S t wz r v (es0++es)->Keep H b w wz->Calls prog 75 #[pointer (some ⟨b,0,none⟩)] wz fun e w'=>
     ∃v,e=returned v∧zL w' b (Rs.feed t (nats s) r0).1 (slice none 0 0)∧w'.ownsRow H 51 6 v (es0++(Rs.feed t (nats s) r0).2).length (zY (es0++(Rs.feed t (nats s) r0).2))∧Keep H b w w':=by
    intro wz hC hk;rw[HV.out] at hC;refine(zDh b wz r ao _ cap hC.run).mono ?_;rintro e w2 ⟨rfl,hR,hk2⟩;rw[HE.out];exact⟨_,rfl,hR,zH1 hC.own hk2 hC.bH,hk.trans (hk2 H)⟩
   by_cases hlt:k<s.size
   ·have hop:r.opn=false:=by
     cases h:r.opn with
     |false=>rfl
     |true=>exact absurd ⟨hlt,h⟩ hcond
    rw[hop] at y1;have HR:Hid (Ca 75 #[pointer (some ⟨b,0,none⟩)] wr _):=fin wr HA.out.1 HA.out.2.1;clear hop hcond fin;go_wp2_with fail;apply HK.out;clear HK;go_wp2_with fail;refine HR.out.mono ?_;rintro e w2 ⟨v2,rfl,h2⟩;have H2:Hid _:=h2;clear h2;go_wp2_with fail;go_ret;exact⟨v2,rfl,H2.out⟩
   ·have HR:Hid (Ca 75 #[pointer (some ⟨b,0,none⟩)] wr _):=fin wr HA.out.1 HA.out.2.1
    clear hcond fin;go_wp2_with fail;apply HK.out;clear HK;go_wp2_with fail;refine HR.out.mono ?_;rintro e w2 ⟨v2,rfl,h2⟩;have H2:Hid _:=h2;clear h2;go_wp2_with fail;go_ret;exact⟨v2,rfl,H2.out⟩
theorem zHI (b H:Nat)(S:Nat->Prop)(t:Tb)(w:World)(r:Rs){v0:Value}(es:List Ev)(P:Nat)(hC:Cv H b S t w r v0 es)(ok:t.Ok)(hact:∀i,i<t.nrule->t.act i<4)(hG:r.Good t P)(hP:P<1073741824)(hn:es.length+r.count<4194304)(hs:t.stream=true)(ho:r.opn=true):
  Calls prog 84 #[pointer (some ⟨b,0,none⟩)] w fun e w'=>
   e=returned (tuple #[])∧∃v,Cv H b S t w' (r.shut t).1 v (es++(r.shut t).2)∧Keep H b w w':=by
 have h:=hG.str hs;have h1:=h.pos;have h2:=h.line;have h3:=h.col;have h4:=h.cnt;have h5:=ok.ahead;have e:r.shut t=r.closed t:=by unfold Rs.shut;rw[if_pos ho,if_pos hs]
 rw[e];exact zDd b H S t w r es hC hn ok hact ⟨h.ok,h.ahead,by omega,by omega,by omega⟩
theorem zHJ (b H:Nat)(S:Nat->Prop)(t:Tb)(w:World)(r:Rs){v0:Value}(es:List Ev)(P:Nat)(hC:Cv H b S t w r v0 es)(ok:t.Ok)(hact:∀i,i<t.nrule->t.act i<4)(hG:r.Good t P)(hP:P<1073741824)(hn:es.length+r.count<4194304)(hs:t.stream=false)(ho:r.opn=true):
  Calls prog 85 #[pointer (some ⟨b,0,none⟩)] w fun e w'=>
   e=returned (tuple #[])∧∃v,Cv H b S t w' (r.shut t).1 v (es++(r.shut t).2)∧Keep H b w w':=by
 have e:r.shut t=r.closeO t:=by unfold Rs.shut;rw[if_pos ho,if_neg (by rw[hs];decide)]
 rw[e];have o1:xB r.opn<=1:=by unfold xB;split <;> omega
 exact zHf b H S t w r es P 4194304 hC ok hact (hG.oth hs) (by omega) (by omega) (by omega)
theorem zEO (b H:Nat)(S:Nat->Prop)(t:Tb)(w:World)(r:Rs)(P:Nat)(hC:Cv H b S t w r (slice none 0 0) [])(ok:t.Ok)(hact:∀i,i<t.nrule->t.act i<4)(hG:r.Good t P)(hP:P<1073741824):
  Calls prog 55 #[pointer (some ⟨b,0,none⟩)] w fun e w'=>
   ∃v,e=returned v∧zL w' b (r.shut t).1 (slice none 0 0)∧w'.ownsRow H 51 6 v (r.shut t).2.length (zY (r.shut t).2)∧Keep H b w w':=by
 have HC:=vl hC;have y1:=hC.run.get_opn;have y0:=hC.run.get_tp;have x0:=hC.tab.c0;have hcn:=hG.ok.count;have fin:∀wz v,Cv H b S t wz (r.shut t).1 v ([]++(r.shut t).2)->Keep H b w wz->Calls prog 75 #[pointer (some ⟨b,0,none⟩)] wz fun e w'=>
   ∃v,e=returned v∧zL w' b (r.shut t).1 (slice none 0 0)∧w'.ownsRow H 51 6 v (r.shut t).2.length (zY (r.shut t).2)∧Keep H b w w':=by
  intro wz v hC hk;obtain⟨ao,cap,hv⟩:=zH2 hC.own;rw[hv] at hC;refine(zDh b wz _ ao _ cap hC.run).mono ?_;rintro e w2 ⟨rfl,hR,hk2⟩;exact⟨_,rfl,hR,zH1 hC.own hk2 hC.bH,hk.trans (hk2 H)⟩
 cases ho:r.opn with
 |false=>
  have HO:Hid (r.shut t=(r,[])):=by show _=_;unfold Rs.shut;rw[if_neg (by rw[ho];decide)]
  rw[ho] at y1;go_in;go_wp2;go_ret;refine⟨_,rfl,?_⟩;rw[HO.out];exact⟨HC.out.run,ownsRow_nil _ _ _ _,Keep.refl _ _ _⟩
 |true=>
  have HO:=vl ho;rw[ho] at y1;cases hs:t.stream with
  |true=>
   have HR:=vl <| zHI b H S t w r [] P HC.out ok hact hG hP (by show 0+r.count<4194304;omega) hs HO.out;have HN:=vl fin;rw[hs] at x0;go_in;go_wp2_with fail;refine HR.out.mono ?_;rintro e w1 ⟨rfl,v1,c1,k1⟩;have HM:=HN.out w1 v1 c1 k1;have HM2:=vl HM;go_wp2_with fail;refine HM2.out.mono ?_;rintro e w2 ⟨v2,rfl,h2⟩;have H2:Hid _:=h2;clear h2;go_wp2_with fail;go_ret;exact⟨v2,rfl,H2.out⟩
  |false=>
   have HR:Hid (Ca 85 #[pointer (some ⟨b,0,none⟩)] w _):=zHJ b H S t w r [] P HC.out ok hact hG hP (by show 0+r.count<4194304;omega) hs HO.out;have HN:Hid (∀wz v,Cv H b S t wz (r.shut t).1 v ([]++(r.shut t).2)->Keep H b w wz->_):=fin;rw[hs] at x0;clear hs fin hG;go_enter func55,ntmps55
   go_wp2_with fail;refine HR.out.mono ?_;rintro e w1 ⟨rfl,v1,c1,k1⟩;have HM:=HN.out w1 v1 c1 k1;have HM2:Hid (Ca 75 #[pointer (some ⟨b,0,none⟩)] w1 _):=HM;clear HM c1 k1 HN HR;go_wp2_with fail;refine HM2.out.mono ?_;rintro e w2 ⟨v2,rfl,h2⟩;have H2:Hid _:=h2;clear h2;go_wp2_with fail;go_ret;exact⟨v2,rfl,H2.out⟩
def Rs.born (t:Tb)(p:Nat):Rs:={Rs.zero p with stack:=fun _=>0,depth:=1,state:=t.start 0}
theorem Rs.born_good (t:Tb)(p:Nat)(h:t.Fine):(Rs.born t p).Good t 0:=by
 have ok:(Rs.born t p).Ok t:=⟨lQ,by show(1:Nat)<=4;decide,fun _ _=>h.ok.nmode,h.ok.start 0 h.ok.nmode,by show(0:Nat)<64;decide,lX,fun _ _=>by show(0:Nat)<256;decide⟩
 unfold Rs.Good;split
 ·exact⟨ok,h.ok.rows0,lX,lQ,lQ,lQ⟩
 ·exact⟨ok,lQ,lQ,.inl rfl,lQ,lQ,lQ,lQ⟩
theorem zEM (b H:Nat)(S:Nat->Prop)(t:Tb)(w:World)(r0:Rs)(s:ByteArray)(P:Nat)(hC:Cv H b S t w r0 (slice none 0 0) [])(ft:t.Fine)(hG:r0.Good t P)(hP:P+s.size<4194000):
  Calls prog 35 #[pointer (some ⟨b,0,none⟩),string s] w fun e w'=>
   ∃v,e=returned v∧zL w' b (Rs.feed t (nats s) r0).1 (slice none 0 0)∧w'.ownsRow H 51 6 v (Rs.feed t (nats s) r0).2.length (zY (Rs.feed t (nats s) r0).2)∧Keep H b w w':=by
 have HR:Hid (Ca 50 #[pointer (some ⟨b,0,none⟩),string s] w fun e w'=>∃v,e=returned v∧zL w' b (Rs.feed t (nats s) r0).1 (slice none 0 0)∧w'.ownsRow H 51 6 v (Rs.feed t (nats s) r0).2.length (zY (Rs.feed t (nats s) r0).2)∧Keep H b w w'):=by
  have hcn:=hG.cnt;have o1:xB r0.opn<=1:=by unfold xB;split <;> omega
  exact zFG b H S t w r0 [] s P (P+1) hC ft.ok ft.act hG (by omega) (by show 0+r0.count+xB r0.opn<=P+1;omega) (by omega)
 go_in;go_wp2_with fail;refine HR.out.mono ?_;rintro e w2 ⟨v2,rfl,h2⟩;have H2:Hid _:=h2;go_wp2;go_ret;exact⟨v2,rfl,H2.out⟩
theorem zD9 (b H:Nat)(S:Nat->Prop)(t:Tb)(w:World)(r:Rs)(P:Nat)(hC:Cv H b S t w r (slice none 0 0) [])(ft:t.Fine)(hG:r.Good t P)(hP:P<4194000):
  Calls prog 42 #[pointer (some ⟨b,0,none⟩)] w fun e w'=>
   ∃v,e=returned v∧zL w' b (r.shut t).1 (slice none 0 0)∧w'.ownsRow H 51 6 v (r.shut t).2.length (zY (r.shut t).2)∧Keep H b w w':=by
 have HR:=vl <| zEO b H S t w r P hC ft.ok ft.act hG (by omega);go_in;go_wp2_with fail;refine HR.out.mono ?_;rintro e w2 ⟨v2,rfl,h2⟩;have H2:Hid _:=h2;go_wp2;go_ret;exact⟨v2,rfl,H2.out⟩
theorem zK8 (l:List Value)(k:Nat)(z:Array Value)(i:Nat)(h:k+l.length<=z.size):((l.zipIdx k).foldl (fun cs x=>cs.setIfInBounds x.2 x.1) z)[i]? =if k<=i∧i<k+l.length then l[i-k]? else z[i]? :=by
 induction l generalizing k z with
 |nil=>simp;intro h1 h2;omega
 |cons a l ih=>
  rw[List.zipIdx_cons,List.foldl_cons,ih (k+1) (z.setIfInBounds k a) (by simp at h ⊢;omega)];simp only[gX] at h ⊢;by_cases h1:k+1<=i∧i<k+1+l.length
  ·rw[if_pos h1,if_pos (by omega),show i-k=(i-(k+1))+1 by omega,List.getElem?_cons_succ]
  ·rw[if_neg h1]
   by_cases h2:i=k
   ·subst h2
    rw[if_pos (by omega)];simp[show i<z.size by omega]
   ·rw[if_neg (by omega),Array.getElem?_setIfInBounds_ne (by omega)]
theorem zMp (z c:Array Value)(n:Nat)(h:z.size=n)(hc:c.size=n):Array.foldl (fun cs x=>cs.setIfInBounds x.snd x.fst) z c.zipIdx 0 n=c:=by
 have e:Array.foldl (fun cs x=>cs.setIfInBounds x.snd x.fst) z c.zipIdx 0 n=(c.toList.zipIdx 0).foldl (fun cs x=>cs.setIfInBounds x.2 x.1) z:=by
  have hz:c.zipIdx.size=n:=by simp[hc]
  rw[<-hz,<-Array.foldl_toList];simp
 rw[e];apply Array.ext_getElem?;intro i;rw[zK8 _ _ _ _ (by simp;omega)];by_cases hi:i<n
 ·rw[if_pos (by simp;omega)]
  simp
 ·rw[if_neg (by simp;omega),Array.getElem?_eq_none (by omega),Array.getElem?_eq_none (by omega)]
theorem zFB:zeroCells104.size=85:=by kernel_rfl
theorem zE4 (x p:Nat)(S:Nat->Prop)(t:Tb)(w:World)(hx:w.cell? ⟨x,0,none⟩=some (pointer (some ⟨p,0,none⟩)))(hT:TabAt w S p t)(hS:∀k,S k->k<w.heap.size)(ft:t.Fine):
  Calls prog 34 #[pointer (some ⟨x,0,none⟩)] w fun e w'=>∃b,e=returned (pointer (some ⟨b,0,none⟩))∧w.heap.size<=b∧b<w'.heap.size∧zL w' b (Rs.born t p) (slice none 0 0)∧Grew w w':=by
 have HR:Hid _:=zIB p S t w hT hS ft.ok;go_in;go_wp2_with fail;refine Calls.mono HR.out ?_;rintro e w2 ⟨c,rfl,hc85,hcat,hk⟩;have HA:Hid ((∀i,i<85->c[i]? =some ((Rs.born t p).cells (slice none 0 0) i))∧Grew w w2):=⟨hcat,hk⟩
 go_wp2;rw[zMp _ c 85 zFB hc85];go_ret;refine⟨w2.heap.size,rfl,HA.out.2.size,by simp,⟨_,c,gU w2 _,hc85,HA.out.1⟩,HA.out.2.trans (kZ _ _ HA.out.2.size)⟩
def Tb.events (t:Tb)(p:Nat)(s:ByteArray):List Ev:=(Rs.feed t (nats s) (Rs.born t p)).2++((Rs.feed t (nats s) (Rs.born t p)).1.shut t).2
theorem Tb.events_some (t:Tb)(ft:t.Fine)(p:Nat)(s:ByteArray):t.events p s≠[]:=by
 obtain⟨h1,h2,h3⟩:=Rs.feed_inv t ft.ok (nats s) (Rs.born t p) 0 (Rs.born_good t p ft) (zC1 s);unfold Tb.events;by_cases ho:(Rs.feed t (nats s) (Rs.born t p)).1.opn=true
 ·have:=((Rs.feed t (nats s) (Rs.born t p)).1.shut_end t _ ft.ok h1 ho).2
  simp[this]
 ·rcases h3 with h3|h3
  ·exact absurd h3 ho
  ·simp[h3]
theorem zEf (es:List Ev):(zY es).length=es.length*6:=by
 induction es with
 |nil=>rfl
 |cons e es ih=>simp only[zY,List.flatMap_cons,kX,gX] at *;rw[ih];simp[Ev.cells,vJ];omega
theorem zG9 (es:List Ev):∀u∈zY es,u.oneCell'=true:=by
 intro u hu;obtain⟨e,_,hu⟩:=List.mem_flatMap.1 hu;simp[Ev.cells,vJ] at hu;rcases hu with rfl|rfl|rfl|rfl|rfl|rfl <;> rfl
theorem zEg (a b:List Ev):zY (a++b)=zY a++zY b:=by simp[zY]
theorem Rs.shut_len (r:Rs)(t:Tb)(P:Nat)(ok:t.Ok)(h:r.Good t P):(r.shut t).2.length<=r.count+1:=by
 unfold Rs.shut;split
 ·rename_i ho
  split
  ·exact(r.closed_end t ho).2.2
  ·rename_i hs
   have hO:=h.oth (by simpa using hs);have h2:=(r.endN_inv t P ok hO (r.count+2)).2.1;have o1:xB r.opn<=1:=by unfold xB;split <;> omega
   have o2:xB r.opn=1:=by rw[ho];rfl
   unfold Rs.closeO;split
   ·rename_i he
    have e:xB (r.endAll t).1.opn=1:=by rw[he];rfl
    show((r.endAll t).2++[_]).length<=_;rw[kX];have h3:(r.endAll t).2.length+(r.endAll t).1.count+xB (r.endAll t).1.opn<=r.count+xB r.opn:=h2;simp only[gX,List.length_nil];omega
   ·have h3:(r.endAll t).2.length+(r.endAll t).1.count+xB (r.endAll t).1.opn<=r.count+xB r.opn:=h2
    omega
 ·exact lX
theorem Rs.long_tp (r:Rs)(t:Tb):(r.long t).1.tp=r.tp:=by
 unfold Rs.long;split
 ·rfl
 ·exact(r.cut.tok_same t _ _ _ _).tp
theorem Rs.heldStep_tp (r:Rs)(t:Tb):(r.heldStep t).1.tp=r.tp:=by
 have h:((r.ate t).marked t).tp=r.tp:=by unfold Rs.marked;split <;> rfl
 unfold Rs.heldStep Rs.judged;split
 ·exact h
 ·rw[Rs.long_tp];exact h
theorem Rs.heldN_tp (r:Rs)(t:Tb)(n:Nat):(r.heldN t n).1.tp=r.tp:=by
 induction n with
 |zero=>rfl
 |succ n ih=>
  rw[Rs.heldN];split
  ·show((r.heldN t n).1.heldStep t).1.tp=r.tp
   rw[Rs.heldStep_tp,ih]
  ·exact ih
theorem Rs.eat_tp (r:Rs)(t:Tb)(c:Nat):(r.eat t c).1.tp=r.tp:=by
 unfold Rs.eat
 split
 ·unfold Rs.take Rs.due
  split
  ·exact((((r.added c).looked t (t.kind c)).took t).fin_same t).tp
  ·rfl
 ·unfold Rs.takeO
  split
  ·rfl
  ·exact(r.added c).heldN_tp t _
theorem Rs.feed_tp (t:Tb)(cs:List Nat)(r:Rs):(Rs.feed t cs r).1.tp=r.tp:=by
 induction cs generalizing r with
 |nil=>rfl
 |cons c cs ih=>
  rw[Rs.feed];split
  ·show(Rs.feed t cs (r.eat t c).1).1.tp=r.tp
   rw[ih,Rs.eat_tp]
  ·rfl
theorem Keep.less {H b G c:Nat}{w w':World}(h:Keep H b w w')(hG:G<=H)(hb:G<=b):Keep G c w w':=⟨h.os,h.output,h.size,fun k hk _=>h.block k (by omega) (by omega)⟩
theorem Keep.grownEnd {G c:Nat}{w w':World}{row:Option Nat}(hg:w.grownBy w' row)(hG:G<=w.heap.size)(hr:∀k,row=some k->G<=k):Keep G c w w':=Keep.grown hg hG hr
theorem zEL (x p:Nat)(S:Nat->Prop)(t:Tb)(w:World)(s:ByteArray)(hx:w.cell? ⟨x,0,none⟩=some (pointer (some ⟨p,0,none⟩)))(hT:TabAt w S p t)(hS:∀k,S k->k<w.heap.size)(ft:t.Fine)(hs:s.size<=1048576):
  Calls prog 27 #[pointer (some ⟨x,0,none⟩),string s] w fun e w'=>∃v,e=returned v∧w'.ownsRow w.heap.size 51 6 v (t.events p s).length (zY (t.events p s))∧Grew w w':=by
 have HB:=vl <| zE4 x p S t w hx hT hS ft;have HT:Hid (TabAt w S p t∧∀k,S k->k<w.heap.size):=⟨hT,hS⟩
 have HI:Hid ((Rs.feed t (nats s) (Rs.born t p)).1.Good t (0+(nats s).length)∧(Rs.feed t (nats s) (Rs.born t p)).2.length+(Rs.feed t (nats s) (Rs.born t p)).1.count<=1+s.size):=by
  obtain⟨h1,h2,_⟩:=Rs.feed_inv t ft.ok (nats s) (Rs.born t p) 0 (Rs.born_good t p ft) (zC1 s);rw[zAb] at h2;have e1:(Rs.born t p).count=0:=rfl;have e2:xB (Rs.born t p).opn=1:=rfl;exact⟨h1,by omega⟩
 go_in;go_wp2_with fail;refine HB.out.mono ?_;rintro e w1 ⟨b,rfl,hb1,hb2,hR,hk1⟩;have C1:Hid (Cv w1.heap.size b S t w1 (Rs.born t p) (slice none 0 0) []):=by
  refine⟨hR,ownsRow_nil _ _ _ _,HT.out.1.keep fun k hk=>?_,hb2,lQ,fun k hk=>?_⟩
  ·have:=HT.out.2 k hk
   exact hk1.block k this (by omega)
  ·have:=HT.out.2 k hk
   omega
 have K1:=vl hk1;have hb1':=hb1;go_wp2_with fail;refine(zEM b w1.heap.size S t w1 (Rs.born t p) s 0 C1.out ft (Rs.born_good t p ft) (by omega)).mono ?_;rintro e w2 ⟨v1,rfl,hR2,hO2,hk2⟩;have C2:Hid (Cv w2.heap.size b S t w2 (Rs.feed t (nats s) (Rs.born t p)).1 (slice none 0 0) []):=by
  have hsz:=hk2.size;refine⟨hR2,ownsRow_nil _ _ _ _,?_,by omega,lQ,fun k hk=>?_⟩
  ·have htp:=Rs.feed_tp t (nats s) (Rs.born t p)
   rw[htp];refine C1.out.tab.keep fun k hk=>?_;have:=HT.out.2 k hk;exact hk2.block k (by omega) (by omega)
  ·have:=HT.out.2 k hk
   omega
 have K2:=vl <| K1.out.trans (hk2.less (by omega) (by omega));have O2:=vl hO2;go_wp2_with fail;refine(zD9 b w2.heap.size S t w2 _ _ C2.out ft HI.out.1 (by rw[zAb];omega)).mono ?_;rintro e w3 ⟨v2,rfl,hR3,hO3,hk3⟩;have K3:Hid (Grew w w3):=K2.out.trans (hk3.less K2.out.size (by omega));have O3:Hid (w3.ownsRow w.heap.size 51 6 v1 (Rs.feed t (nats s) (Rs.born t p)).2.length (zY (Rs.feed t (nats s) (Rs.born t p)).2)):=by
  have h:=O2.out;refine⟨h.1,h.2.imp id ?_⟩;rintro⟨g,cap,cur,hv,hg,hh,rest⟩;have hlt:=(kQ.1 hh).1;exact⟨g,cap,cur,hv,by omega,(hk3.block g hlt (by omega)).trans hh,rest⟩
 have hLen:(Rs.feed t (nats s) (Rs.born t p)).2.length+((Rs.feed t (nats s) (Rs.born t p)).1.shut t).2.length<=2+s.size:=by
  have h1:=Rs.shut_len _ t _ ft.ok HI.out.1;have h2:=HI.out.2;omega
 have HL:Hid (w3.ownsRow w2.heap.size 51 6 v2 ((Rs.feed t (nats s) (Rs.born t p)).1.shut t).2.length (zY ((Rs.feed t (nats s) (Rs.born t p)).1.shut t).2)):=hO3;have HE:Hid (t.events p s=(Rs.feed t (nats s) (Rs.born t p)).2++((Rs.feed t (nats s) (Rs.born t p)).1.shut t).2):=rfl;have hsz3:w.heap.size<=w3.heap.size:=K3.out.size;clear hR3 hO3 hk3 C2 O2;generalize (Rs.feed t (nats s) (Rs.born t p)).2=l1 at *;generalize ((Rs.feed t (nats s) (Rs.born t p)).1.shut t).2=l2 at *;obtain⟨i0,hi0,hz0,hz1,hz2⟩:=info_parts zMi;rcases HL.out.2 with⟨hv2,hn2⟩|⟨g,cap,cur,hv2,_,hg2,_,_,_,htk⟩
 ·have HN:Hid (l2=[]):=List.length_eq_zero_iff.1 hn2
  subst hv2;clear hn2 HL;go_wp2_with (first|(at_builtin;refine wpList_append_own_none rfl _ _ 48 rfl w.heap.size 51 i0 6 underlying48 hi0 _ _ _ rfl O3.out rfl ?_))
  go_ret;refine⟨v1,rfl,?_,K3.out⟩;rw[HE.out,HN.out,List.append_nil];exact O3.out
 ·have hl2:(zY l2).length=l2.length*6:=zEf l2
  have hcells:∀j u,(zY l2)[j]? =some u->w3.cell? ((⟨g,0,none⟩:Addr).add j)=some u:=by
   rw[hv2] at HL;exact HL.out.cells rfl
  have HC:Hid (∀j u,(zY l2)[j]? =some u->w3.cell? ((⟨g,0,none⟩:Addr).add j)=some u):=hcells;subst hv2;clear hcells HL hg2 htk;go_wp2_with (first|(at_builtin;refine wpList_append_own _ rfl _ _ 48 rfl w.heap.size 51 i0 _ 6 48 underlying48 hi0 hz0 hz1 hz2 rfl (by decide) _ _ _ rfl O3.out ⟨g,0,none⟩ l2.length cap (zY l2) rfl hl2 HC.out (zG9 l2) (by unfold maxLen;omega) (by omega) hsz3 ?_;intro v4 w4 hown hgrow hnil))
  have HO:Hid _:=hown;have HG:Hid _:=hgrow;clear hown hgrow hnil;go_wp2_with fail;go_ret;refine⟨v4,rfl,?_,K3.out.trans (Keep.grownEnd HG.out hsz3 fun k hk=>(O3.out.lt k hk).1)⟩;rw[HE.out,kX,zEg];exact HO.out
def zFx:ByteArray:=⟨#[109,111,100,101,32,109,10,97,32,46,32,97,10,98,32,45,32,98,10]⟩
def vG:List Sm×Sh:=(zAd zFx).getD ([],Sh.none)
theorem zNq:(zAd zFx).isSome=true:=by kernel_rfl
theorem zLe:zBd vG false=true:=by kernel_rfl
theorem zMt:(((zU vG.1 (ints vG.2.acts) (vG.2.pushesTo vG.2.pushed.length) 64).first.itr 2).spreadTo (zE vG.1 vG.1.length)).2=false:=by kernel_rfl
theorem zLf (p:Nat):(qO vG.1 (ints vG.2.acts) (vG.2.pushesTo vG.2.pushed.length) 64 2 false).events p ⟨#[97,98,97]⟩=[⟨1,0,0,1,1,1⟩,⟨1,0,2,3,1,3⟩,⟨2,0,3,3,1,4⟩]:=by kernel_rfl
theorem zLA:zAd zFx=some vG:=by
 have:=zNq;unfold vG;cases h:zAd zFx with
 |none=>rw[h] at this;cases this
 |some y=>rfl
theorem zMu:zY [⟨1,0,0,1,1,1⟩,⟨1,0,2,3,1,3⟩,⟨2,0,3,3,1,4⟩]=[int i64 1,int i64 0,int i64 0,int i64 1,int i64 1,int i64 1,int i64 1,int i64 0,int i64 2,int i64 3,int i64 1,int i64 3,int i64 2,int i64 0,int i64 3,int i64 3,int i64 1,int i64 4]:=rfl
theorem zIH (w:World):Calls prog 28 #[] w fun e w'=>e=returned (bool true)∧Grew w w':=by
 have HO:Hid (Ca 16 #[string ⟨#[109,111,100,101,32,109,10,97,32,46,32,97,10,98,32,45,32,98,10]⟩,int i64 64,bool false] w fun e w1=>Grew w w1∧∃L m0 m1 m2 s0 s1 s2 v0 v1 v2 AH LN,e=returned (tuple #[pointer (some ⟨L,0,none⟩),agg #[slice m0 m1 m2,slice s0 s1 s2,slice v0 v1 v2,int i64 AH,bool true,int i64 LN]])∧∀w2,Grew w1 w2->Ca 27 #[pointer (some ⟨L,0,none⟩),string ⟨#[97,98,97]⟩] w2 fun e w3=>∃g cap,e=returned (slice (some ⟨g,0,none⟩) 3 cap)∧Grew w2 w3∧3<=cap∧w3.cell? ⟨g,0,none⟩=some (int i64 1)∧w3.cell? ⟨g,1,none⟩=some (int i64 0)∧w3.cell? ⟨g,2,none⟩=some (int i64 0)∧w3.cell? ⟨g,3,none⟩=some (int i64 1)∧w3.cell? ⟨g,4,none⟩=some (int i64 1)∧w3.cell? ⟨g,5,none⟩=some (int i64 1)∧w3.cell? ⟨g,6,none⟩=some (int i64 1)∧w3.cell? ⟨g,7,none⟩=some (int i64 0)∧w3.cell? ⟨g,8,none⟩=some (int i64 2)∧w3.cell? ⟨g,9,none⟩=some (int i64 3)∧w3.cell? ⟨g,10,none⟩=some (int i64 1)∧w3.cell? ⟨g,11,none⟩=some (int i64 3)∧w3.cell? ⟨g,12,none⟩=some (int i64 2)∧w3.cell? ⟨g,13,none⟩=some (int i64 0)∧w3.cell? ⟨g,14,none⟩=some (int i64 3)∧w3.cell? ⟨g,15,none⟩=some (int i64 3)∧w3.cell? ⟨g,16,none⟩=some (int i64 1)∧w3.cell? ⟨g,17,none⟩=some (int i64 4)):=by
  refine(zH4 w zFx (by decide) 64 (by decide) (by decide) false).mono ?_;rintro e w1 ⟨hk,x,m0,m1,m2,s0,s1,s2,v0,v1,v2,AH,ST,LN,rfl,hq⟩;unfold OfQ at hq;rw[zLA] at hq;obtain⟨L,t,rfl,rfl,rfl,hL⟩:=hq;rw[zLe];refine⟨hk,L,m0,m1,m2,s0,s1,s2,v0,v1,v2,_,LN,rfl,fun w2 hk2=>?_⟩;have hL2:=hL.grown hk2;obtain⟨n,hn1,hn2⟩:=hL2.made;obtain⟨S,p,hA,hS⟩:=hL2.at_;have ht:t=qO vG.1 (ints vG.2.acts) (vG.2.pushesTo vG.2.pushed.length) 64 2 false:=hn1.trans (zMo _ _ _ _ _ _ _ hn2 zMt);have he:t.events p ⟨#[97,98,97]⟩=[⟨1,0,0,1,1,1⟩,⟨1,0,2,3,1,3⟩,⟨2,0,3,3,1,4⟩]:=by rw[ht];exact zLf p
  refine(zEL L p S t w2 ⟨#[97,98,97]⟩ hA.cell hA.tab hA.safe hL2.fine (by decide)).mono ?_;rintro e w3 ⟨v,rfl,ho,hk3⟩;rw[he,zMu] at ho;obtain⟨g,cap,rfl,h1,h2,h3,h4,h5,h6⟩:=qL ho (by decide);exact⟨g,cap,rfl,hk3,h3,h5 0 _ rfl,h5 1 _ rfl,h5 2 _ rfl,h5 3 _ rfl,h5 4 _ rfl,h5 5 _ rfl,h5 6 _ rfl,h5 7 _ rfl,h5 8 _ rfl,h5 9 _ rfl,h5 10 _ rfl,h5 11 _ rfl,h5 12 _ rfl,h5 13 _ rfl,h5 14 _ rfl,h5 15 _ rfl,h5 16 _ rfl,h5 17 _ rfl⟩
 go_in;apply wp_cut;intro K0 J;go_wp2;apply J.out;clear J;apply wp_cut;intro K0 J;go_wp2_with (first|(go_at_call 16;refine HO.out.mono ?_;rintro e w1 ⟨hk1,L,m0,m1,m2,s0,s1,s2,v0,v1,v2,AH,LN,rfl,HSC⟩))
 obtain⟨w2,hw2,x4,HW2⟩:∃w2,w2=w1.alloc (.cells #[slice m0 m1 m2,slice s0 s1 s2,slice v0 v1 v2,int i64 AH,bool true,int i64 LN] 30)∧w2.cell? ⟨w1.heap.size,4,none⟩=some (bool true)∧Hid (Grew w w2∧Grew w1 w2):=by
  have hn:=gU w1 (.cells #[slice m0 m1 m2,slice s0 s1 s2,slice v0 v1 v2,int i64 AH,bool true,int i64 LN] 30);have ha:Grew w1 (w1.alloc (.cells #[slice m0 m1 m2,slice s0 s1 s2,slice v0 v1 v2,int i64 AH,bool true,int i64 LN] 30)):=kZ _ _ lQ;refine⟨_,rfl,?_,hk1.trans (ha.lower hk1.size hk1.size),ha⟩;unfold cell?;rw[hn];rfl
 rw[<-hw2];apply J.out;clear J hw2 HO;have HSC2:=vl <| HSC w2 HW2.out.2;clear HSC;go_wp2_with (first|(go_at_call 27;refine HSC2.out.mono ?_;rintro e w3 ⟨g,cap,rfl,hk3,hcap,c0,c1,c2,c3,c4,c5,c6,c7,c8,c9,c10,c11,c12,c13,c14,c15,c16,c17⟩))
 refine bodyPost_ret (results_tmp rfl _ _ _) rfl ?_;exact⟨rfl,HW2.out.1.trans (hk3.lower HW2.out.1.size HW2.out.1.size)⟩
theorem zIz (w:World)(s t:ByteArray)(h:65536<s.size∨65536<t.size):Calls prog 14 #[string s,string t] w fun e w'=>e=returned (tuple #[bool false,bool true])∧Grew w w':=by
 by_cases h1:65536<s.size
 ·go_in
  go_wp2;refine bodyPost_ret (results_tmp2 rfl _ _ _) rfl ?_;exact⟨rfl,Keep.refl _ _ _⟩
 ·have h2:65536<t.size:=by omega
  have h3:s.size<=65536:=by omega
  go_in;go_wp2;refine bodyPost_ret (results_tmp2 rfl _ _ _) rfl ?_;exact⟨rfl,Keep.refl _ _ _⟩
theorem zIA (w:World)(s t:ByteArray)(h1:s.size<=65536)(h2:t.size<=65536):Calls prog 14 #[string s,string t] w fun e w'=>e=returned (tuple #[bool (zAd s).isSome,bool true])∧Grew w w':=by
 have HA:=vl <| zIH w;have HN:Hid (∀w2,Ca 29 #[string s] w2 fun e w'=>e=returned (tuple #[bool (zAd s).isNone,bool true])∧Grew w2 w'):=fun w2=>zJe w2 s (by omega);have he:(!(zAd s).isNone)=(zAd s).isSome:=by cases zAd s <;> rfl
 generalize (zAd s).isNone=A at *;generalize (zAd s).isSome=B at *;subst he;go_in;cases A
 all_goals
  go_wp2_with (first|(go_at_call 28;refine HA.out.mono ?_;rintro e w1 ⟨rfl,hk1⟩)|(go_at_call 29;refine(HN.out _).mono ?_;rintro e w2 ⟨rfl,hk2⟩))
  refine bodyPost_ret (results_tmp2 rfl _ _ _) rfl ?_;exact⟨rfl,hk1.trans (hk2.lower hk1.size hk1.size)⟩
theorem zLw (w:World)(s d:ByteArray):(Calls prog 14 #[string s,string d] w fun e w'=>e=returned (tuple #[bool false,bool true])∧Grew w w')∨∃y,zAd s=some y∧s.size<=65536∧d.size<=65536∧Calls prog 14 #[string s,string d] w fun e w'=>e=returned (tuple #[bool true,bool true])∧Grew w w':=by
 by_cases hz:65536<s.size∨65536<d.size
 ·exact .inl (zIz w s d hz)
 have HB:=zIA w s d (by omega) (by omega);cases hl:zAd s with
 |none=>rw[hl] at HB;exact .inl HB
 |some y=>rw[hl] at HB;exact .inr ⟨y,rfl,by omega,by omega,HB⟩
def EvsAt (w:World)(v:Value)(es:List Ev):Prop:=∃ao cap,v=slice ao es.length cap∧es.length<=cap∧cap<=maxLen∧∀i,i<es.length->∃g,ao=some ⟨g,0,none⟩∧g<w.heap.size∧∀j u,(es.getD i ⟨0,0,0,0,0,0⟩).cells[j]? =some u->w.cell? ⟨g,i*6+j,none⟩=some u
theorem zMr (es:List Ev):∀(i j:Nat) (u:Value),i<es.length->(es.getD i ⟨0,0,0,0,0,0⟩).cells[j]? =some u->(zY es)[i*6+j]? =some u:=by
 induction es with
 |nil=>intro i j u hi;exact absurd hi (Nat.not_lt_zero _)
 |cons e es ih=>
  intro i j u hi hu;have hc:(zY (e::es))=e.cells++zY es:=by simp[zY]
  have h6:e.cells.length=6:=rfl;rw[hc];cases i with
  |zero=>
   have hu2:=hu;have hj:j<6:=by rw[<-h6];exact(List.getElem?_eq_some_iff.1 hu2).1
   rw[Nat.zero_mul,Nat.zero_add,kW (by omega)];exact hu2
  |succ i=>
   rw[gQ (by omega),h6,show(i+1)*6+j-6=i*6+j by omega];exact ih i j u (by simpa using hi) hu
theorem zM3 {w:World}{H:Nat}{v:Value}{es:List Ev}(h:w.ownsRow H 51 6 v es.length (zY es)):EvsAt w v es:=by
 obtain⟨ao,cap,rfl,h1,h2⟩:=zCZ h;refine⟨ao,cap,rfl,h1,h2,fun i hi=>?_⟩;obtain⟨g,cap2,hv,h3,h4,h5,h6,h7,h8⟩:=qL h (by omega);injection hv with e1 e2 e3;exact⟨g,e1,h4,fun j u hu=>h7 _ u (zMr es i j u hi hu)⟩
theorem EvsAt.grown {w w':World}{v:Value}{es:List Ev}(h:EvsAt w v es)(hk:Grew w w'):EvsAt w' v es:=by
 obtain⟨ao,cap,rfl,h1,h2,h3⟩:=h;refine⟨ao,cap,rfl,h1,h2,fun i hi=>?_⟩;obtain⟨g,e1,e2,e3⟩:=h3 i hi;exact⟨g,e1,lZ e2 hk.size,fun j u hu=>zA (e3 j u hu) e2 hk⟩
theorem zEN (w:World)(va vb:Value)(es:List Ev)(hA:EvsAt w va es)(hB:EvsAt w vb es):
  Calls prog 32 #[va,vb] w fun e w'=>e=returned (bool true)∧∃m,w'=w.drewN m:=by
 obtain⟨aa,ca,rfl,ha1,ha2,hac⟩:=hA;obtain⟨ab,cb,rfl,-,-,hbc⟩:=hB;have hl:es.length<=9223372036854775807:=by unfold maxLen at ha2;omega
 have HAC:=vl hac;have HBC:=vl hbc;generalize hn:es.length=n at *;go_in;go_wp2;go_loopg [5] n (fun q i wr=>∃j:Nat,q=n-j∧j<=n∧i=int i64 (j:Int)∧∃m,wr=w.drewN m)
 case atStart=>exact⟨0,rfl,lX,rfl,0,rfl⟩
 case round=>
  obtain⟨j,hgk,hj,rfl,hwr⟩:=hrel;have HA:Hid (gk=n-j∧∃m,wr=w.drewN m):=⟨hgk,hwr⟩
  have hkp:Grew w wr:=by obtain⟨m,rfl⟩:=hwr;exact Keep.alike ⟨rfl,rfl,rfl⟩
  clear hwr;by_cases hj2:j<n
  ·have i1:(j:Int)<(n:Int):=by omega
   obtain⟨b1,rfl,hb1,c1⟩:=HAC.out j hj2;obtain⟨b2,rfl,hb2,c2⟩:=HBC.out j hj2;generalize es.getD j ⟨0,0,0,0,0,0⟩=ev at *;obtain⟨k0,k1,k2,k3,k4,k5⟩:=ev;have y0:wr.cell? ⟨b1,j*6,none⟩=some (int i64 k0):=zA (c1 0 _ rfl) hb1 hkp;have y1:wr.cell? ⟨b1,j*6+1,none⟩=some (int i64 k1):=zA (c1 1 _ rfl) hb1 hkp;have y2:wr.cell? ⟨b1,j*6+2,none⟩=some (int i64 k2):=zA (c1 2 _ rfl) hb1 hkp;have y3:wr.cell? ⟨b1,j*6+3,none⟩=some (int i64 k3):=zA (c1 3 _ rfl) hb1 hkp;have y4:wr.cell? ⟨b1,j*6+4,none⟩=some (int i64 k4):=zA (c1 4 _ rfl) hb1 hkp;have y5:wr.cell? ⟨b1,j*6+5,none⟩=some (int i64 k5):=zA (c1 5 _ rfl) hb1 hkp;have z0:wr.cell? ⟨b2,j*6,none⟩=some (int i64 k0):=zA (c2 0 _ rfl) hb2 hkp;have z1:wr.cell? ⟨b2,j*6+1,none⟩=some (int i64 k1):=zA (c2 1 _ rfl) hb2 hkp;have z2:wr.cell? ⟨b2,j*6+2,none⟩=some (int i64 k2):=zA (c2 2 _ rfl) hb2 hkp;have z3:wr.cell? ⟨b2,j*6+3,none⟩=some (int i64 k3):=zA (c2 3 _ rfl) hb2 hkp;have z4:wr.cell? ⟨b2,j*6+4,none⟩=some (int i64 k4):=zA (c2 4 _ rfl) hb2 hkp;have z5:wr.cell? ⟨b2,j*6+5,none⟩=some (int i64 k5):=zA (c2 5 _ rfl) hb2 hkp;go_wp2;go_quiet (fail);go_wp2;go_roundg (n-(j+1))
   case measure=>rw[HA.out.1];omega
   case rel=>exact⟨j+1,rfl,by omega,by go_num,by obtain⟨m,rfl⟩:=HA.out.2;exact⟨m+nq,by simp[World.drewN,Nat.add_assoc]⟩⟩
  ·have i1:¬((j:Int)<(n:Int)):=by omega
   go_wp2;refine bodyPost_ret (results_tmp rfl _ _ _) rfl ?_;exact⟨rfl,HA.out.2⟩
theorem zI4 (w:World)(va vb:Value)(es:List Ev)(hA:EvsAt w va es)(hB:EvsAt w vb es):
  Calls prog 32 #[va,vb] w fun e w'=>e=returned (bool true)∧Grew w w':=
 (zEN w va vb es hA hB).mono (by rintro e w' ⟨rfl,m,rfl⟩;exact⟨rfl,Keep.alike ⟨rfl,rfl,rfl⟩⟩)
theorem zDR {w:World}{S:Nat->Prop}{L p:Nat}{t:Tb}(h:LexAt w S L p t)(ft:t.Fine)(s:ByteArray)(hs:s.size<=1048576):Calls prog 27 #[pointer (some ⟨L,0,none⟩),string s] w fun e w'=>∃v,e=returned v∧EvsAt w' v (t.events p s)∧Grew w w':=by
 refine(zEL L p S t w s h.cell h.tab h.safe ft hs).mono ?_;rintro e w' ⟨v,rfl,h2,hk⟩;exact⟨v,rfl,zM3 h2,hk⟩
theorem EvsAt.pre {w:World}{ao:Option Addr}{n cap:Nat}{es rest:List Ev}(h:EvsAt w (slice ao n cap) (es++rest)):n=(es++rest).length∧es.length<=n∧n<=cap∧EvsAt w (slice ao es.length cap) es:=by
 obtain⟨ao',cap',hv,h1,h2,h3⟩:=h;injection hv with e1 e2 e3;subst e1 e3;rw[kX] at h1 e2 h3;refine⟨by rw[kX];exact e2,by omega,by omega,ao,cap,rfl,by omega,h2,fun i hi=>?_⟩;obtain⟨g,a1,a2,a3⟩:=h3 i (by omega);refine⟨g,a1,a2,fun j u hu=>a3 j u ?_⟩;rw[lW,kW hi,<-lW];exact hu
section
open Go.ChangeShapes Go.WideShapes Go.ChangeAt Go.RowKit
open Go.ChangeMaps (open_string shut_string)
theorem own:ownKnob prog.godebug=none:=by kernel_rfl
theorem Keep.frame {W w':World}(h:Grew W w')(may:MemPlace->Prop):W.keptBut w' may:=by
 refine⟨h.os,h.output,fun i hi=>?_⟩;rw[h.block i hi (by omega)];split <;> simp_all
theorem zI8 {H:Type}{enc:TypeId×Value->H}{P:Program}{f:Func}{s:ChangeSpec}{apart fresh handsOn again:Bool}{W W':World}{args:Array Value}{v:Value}{ds gs:List (DataW H)}
  (hW:DataW.Whole enc P f.params.toList s.vars apart W args.toList ds gs [])
  (hres:∀(b:Nat) (sp:Nat->Bool) (hd:Bool),DataW.TrodAll enc P W' b sp hd f.resultTypes.toList (v.resultList f.resultTypes.size) (s.fn H (ds++gs)).results [])
  (hargs:∀sp:Nat->Bool,DataW.TrodAll enc P W' 0 sp true f.params.toList args.toList (s.fn H (ds++gs)).args [])
  (hvars:∀sp:Nat->Bool,DataW.TrodVars enc P W' sp s.vars (s.fn H (ds++gs)).vars [])
  (hk:W.keptBut W' fun _=>False)
  (hok:∀(j:Nat) (t:TypeId) (r:Value),f.resultTypes[j]? =some t->(v.resultList f.resultTypes.size)[j]? =some r->Value.okWide P W' .any 0 t r):
  s.post enc P f apart fresh handsOn again W args v W':=by
 refine⟨ds,gs,[],[],[],[],hW,hres _ _ _,hargs _,hvars _,World.keptBut_mono (fun p hp=>hp.elim) hk,fun _=>⟨hok,_,_,[],⟨[],[],trodAll_append (hargs _) (hres _ _ _),hvars _,rfl,?_,?_⟩,?_⟩⟩
 ·intro b off hp
  simp at hp
 ·intro _
  simp
 ·intro p hp
  simp at hp
theorem zJR {H:Type}{enc:TypeId×Value->H}{P:Program}{w:World}{base:Nat}{sp:Nat->Bool}{hd:Bool}{t:TypeId}{ts:List TypeId}{v:Value}{vs:List Value}{d:DataW H}{ds:List (DataW H)}{p q:List MemPlace}(h:DataW.Trod enc P w base sp hd t v d p)(hs:DataW.TrodAll enc P w base sp hd ts vs ds q):DataW.TrodAll enc P w base sp hd (t::ts) (v::vs) (d::ds) (p++q):=⟨p,q,h,hs,rfl⟩
end
end Go.Proofs.YtbjcfkdnjaiclaaGreat
