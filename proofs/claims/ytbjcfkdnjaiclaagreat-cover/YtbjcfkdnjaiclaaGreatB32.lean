import Derived.Deep.LoopGhost
import Derived.Deep.WholeRow
import Derived.KernelRfl
import Derived.Test.YtbjcfkdnjaiclaaGreatB0
import Derived.Test.YtbjcfkdnjaiclaaGreatB30
import Derived.Test.YtbjcfkdnjaiclaaGreatB31
/- Parts of the proof. -/
set_option linter.unusedVariables false
set_option linter.unusedSimpArgs false
set_option maxHeartbeats 4000000
set_option maxRecDepth 100000
namespace Go.Proofs.YtbjcfkdnjaiclaaGreat
open Go.RowKit Go.Proofs.Tryz Go.World
theorem zFn (b H:Nat)(S:Nat->Prop)(t:Tb)(w:World)(r:Rs){v0:Value}(es:List Ev)(P C:Nat)(hC:Cv H b S t w r v0 es)(ok:t.Ok)(hact:∀i,i<t.nrule->t.act i<4)(hO:r.Oth t P)(hP:P<=1073741824)(hn:es.length+r.count+xA r.opn<=C)(hC4:C<=4194304):
  Calls prog 111 #[.pointer (some ⟨b,0,none⟩)] w fun e w'=>
   e=.returned (.tuple #[])∧∃v,Cv H b S t w' (r.heldAll t).1 v (es++(r.heldAll t).2)∧Keep H b w w':=
 (zEN b H S t w r es P C hC ok hact hO hP hn hC4).mono fun e w' ⟨he,v,n,h1,h2,_,_,h5⟩=>by
  rw[r.heldAll_eq t P ok hO n h5] at h1;exact⟨he,v,h1,h2⟩
theorem zHx (b H:Nat)(S:Nat->Prop)(t:Tb)(w:World)(r:Rs){v0:Value}(es:List Ev)(P C c:Nat)(hC:Cv H b S t w r v0 es)(ok:t.Ok)(hact:∀i,i<t.nrule->t.act i<4)(hO:r.Oth t P)(hP:P<1073741824)(hn:es.length+r.count+xA r.opn<=C)(hC4:C<4194304)(hcb:c<256):
  Calls prog 74 #[.pointer (some ⟨b,0,none⟩),.int .u8 c] w fun e w'=>
   e=.returned (.tuple #[])∧∃v,Cv H b S t w' (r.takeO t c).1 v (es++(r.takeO t c).2)∧Keep H b w w':=by
 have HC:=vl hC;have y0:=hC.run.get_tp;have y77:=hC.run.get_count;have x2:=hC.tab.c2;have hh:=ok.hold;by_cases hf:t.hold<=r.count
 ·have i1:(t.hold:Int)<=(r.count:Int):=by omega
  have HF:Hid (r.takeO t c=({r with opn:=false},[r.lastEv 6])):=if_pos hf;go_in;go_wp2;go_quiet (fail);go_wp2_with fail;refine(qZ b H S t 6 _ r v0 _ _ (Cx.alike (w':=w.drewN nq) HC.out ⟨rfl,rfl,rfl⟩) (by omega)).mono ?_;rintro e w2 ⟨rfl,ao,cap,c2,k2⟩;have C2:=vl c2;go_wp2;refine bodyPost_ret (results_none rfl _ _ _) rfl ?_;refine⟨rfl,.slice ao (es.length+1) cap,?_,Keep.trans (w:=w) (w':=w.drewN nq) (Keep.alike ⟨rfl,rfl,rfl⟩) k2⟩;rw[HF.out];unfold Cv;rw[xR,kX];exact C2.out
 ·have i1:(r.count:Int)<(t.hold:Int):=by omega
  have hlt:r.count<64:=by omega
  have HF:Hid (r.takeO t c=(r.added c).heldAll t):=if_neg hf;have HO2:Hid ((r.added c).Oth t (P+1)):=r.added_oth t P c hO hcb hlt;have hfst:=hO.ok.first
  clear hf;go_enter func74,ntmps74
  go_wp2_with fail;go_quiet (fail);obtain⟨w1,hw1,C1,K1⟩:∃w1,w1=w.drewN nq∧Hid (Cv H b S t w1 r v0 es)∧Hid (Keep H b w w1):=⟨_,rfl,Cx.alike (w':=w.drewN nq) HC.out ⟨rfl,rfl,rfl⟩,Keep.alike ⟨rfl,rfl,rfl⟩⟩
  rw[<-hw1];clear hw1 y0 y77 x2;go_wp2_with fail;refine(zGv b c _ r C1.out.run hfst hlt).mono ?_;rintro e w2 ⟨rfl,hR2,hk2⟩;have C2:Hid (Cv H b S t w2 (r.added c) v0 es):=Cx.kept C1.out hk2 hR2 rfl;have K2:Hid (Keep H b w w2):=K1.out.trans (hk2 H);clear hk2 hR2 C1 K1;go_wp2_with fail;refine(zFn b H S t w2 (r.added c) es (P+1) (C+1) C2.out ok hact HO2.out (by omega) (by show es.length+(r.count+1)+xA r.opn<=C+1;omega) (by omega)).mono ?_;rintro e w3 ⟨rfl,v3,c3,k3⟩;have C3:Hid (Cv H b S t w3 (r.takeO t c).1 v3 (es++(r.takeO t c).2)∧Keep H b w w3):=⟨by rw[HF.out];exact c3,K2.out.trans k3⟩
  clear c3 k3;go_wp2_with fail;go_end0;exact⟨rfl,v3,C3.out.1,C3.out.2⟩
theorem zHf (b H:Nat)(S:Nat->Prop)(t:Tb)(w:World)(r0:Rs){v0:Value}(es0:List Ev)(P C:Nat)(hC:Cv H b S t w r0 v0 es0)(ok:t.Ok)(hact:∀i,i<t.nrule->t.act i<4)(hO:r0.Oth t P)(hP:P<=1073741824)(hn:es0.length+r0.count+xA r0.opn<=C)(hC4:C<=4194304):
  Calls prog 85 #[.pointer (some ⟨b,0,none⟩)] w fun e w'=>
   e=.returned (.tuple #[])∧∃v,Cv H b S t w' (r0.closeO t).1 v (es0++(r0.closeO t).2)∧Keep H b w w':=by
 have HC0:Hid (Cv H b S t w r0 v0 es0∧r0.Oth t P∧es0.length+r0.count+xA r0.opn<=C):=⟨hC,hO,hn⟩
 go_in;apply wp_cut;intro K HK;go_wp2;go_loopg [] (r0.count+xA r0.opn) (fun q wr=>∃(n:Nat) (r:Rs) (es:List Ev) (v:Value),q=r.count+xA r.opn∧r0.endN t n=(r,es)∧Cv H b S t wr r v (es0++es)∧Keep H b w wr∧r.Oth t P∧(es0++es).length+r.count+xA r.opn<=C)
 case atStart=>exact⟨0,r0,[],v0,rfl,rfl,by rw[List.append_nil];exact HC0.out.1,Keep.refl _ _ _,HC0.out.2.1,by rw[List.append_nil];exact HC0.out.2.2⟩
 case round=>
  obtain⟨n,r,es,v,hgk,hN,hC,hk,hO,hn⟩:=hrel;have AA:Hid (gk=r.count+xA r.opn∧r0.endN t n=(r,es)∧Cv H b S t wr r v (es0++es)∧Keep H b w wr∧r.Oth t P∧(es0++es).length+r.count+xA r.opn<=C):=⟨hgk,hN,hC,hk,hO,hn⟩
  have y1:=hC.run.get_opn;have y77:=hC.run.get_count;have hct:=hO.ok.count;have htk:=hO.tak;have hpp:=hO.pos;have hll:=hO.line;have hcl:=hO.col;by_cases hcond:0<r.count∧r.opn=true
  ·obtain⟨hlt,hop⟩:=hcond
   have i1:(0:Int)<(r.count:Int):=by omega
   rw[hop] at y1;have HOP:=vl hop;have INV:=r.endO_inv t P ok AA.out.2.2.2.2.1 hop hlt;have hB:=AA.out.2.2.2.2.2;rw[hop] at hB;have hB2:(es0++es).length+r.count+1<=C:=hB;obtain⟨l1,l2,l3,l4⟩:=r.long_inv t P ok AA.out.2.2.2.2.1 hop hlt;have HNX:Hid (r0.endN t (n+1)=((r.endO t).1,es++(r.endO t).2)):=by show _=_;rw[Rs.endN,AA.out.2.1,if_pos ⟨hlt,hop⟩]
   have HI:=vl INV;have HLG:=vl <| zA1 b H S t wr r (es0++es) AA.out.2.2.1 (by omega) ok hact AA.out.2.2.2.2.1.ok (lY AA.out.2.2.2.2.1.len htk) AA.out.2.2.2.2.1.rule (by omega) (by omega) (by omega);have HL:Hid ((r.long t).1.Oth t P∧((es0++es)++(r.long t).2).length+(r.long t).1.count+xA (r.long t).1.opn<=C):=⟨l1,by rw[kX];omega⟩
   go_wp2_with fail;refine Calls.mono HLG.out ?_;rintro e w1 ⟨rfl,v1,c1,k1⟩;have C1:=vl c1;go_wp2_with fail;refine(zFn b H S t w1 (r.long t).1 ((es0++es)++(r.long t).2) P C C1.out ok hact HL.out.1 hP HL.out.2 hC4).mono ?_;rintro e w2 ⟨rfl,v2,c2,k2⟩;have CZ:Hid (Cv H b S t w2 (r.endO t).1 v2 (es0++(es++(r.endO t).2))∧Keep H b w w2):=by
    refine⟨?_,(AA.out.2.2.2.1.trans k1).trans k2⟩;rw[gU,gU] at c2;exact c2
   clear c2 k2 k1;go_wp2_with fail;go_roundg ((r.endO t).1.count+xA (r.endO t).1.opn)
   case measure=>rw[AA.out.1,HOP.out];exact HI.out.2.2.2
   case rel=>exact⟨n+1,(r.endO t).1,es++(r.endO t).2,v2,rfl,HNX.out,CZ.out.1,CZ.out.2,HI.out.1,by have h2:=HI.out.2.1;rw[kX,kX];rw[kX] at hB2;omega⟩
  ·have HE:Hid (r0.endAll t=(r,es)):=by
    show _=_;rw[<-r0.endAll_eq t P ok HC0.out.2.1 n (by rw[AA.out.2.1];exact hcond),AA.out.2.1]
   by_cases hop:r.opn=true
   ·have hc0:¬0<r.count:=fun h=>hcond ⟨h,hop⟩
    have i1:(r.count:Int)<=0:=by omega
    rw[hop] at y1;have HF:Hid (r0.closeO t=({r with opn:=false},es++[r.lastEv 2])):=by
     show _=_;unfold Rs.closeO;rw[HE.out,if_pos hop]
    clear hcond;go_wp2_with fail;apply HK.out;clear HK;go_wp2_with fail;refine(qZ b H S t 2 _ r v _ _ AA.out.2.2.1 (by have:=AA.out.2.2.2.2.2;omega)).mono ?_;rintro e w2 ⟨rfl,ao,cap,c2,k2⟩;have C2:Hid (Cx _ _ _ _ _ _ _ _ _):=c2;clear c2;go_wp2_with fail;go_end0;refine⟨rfl,.slice ao ((es0++es).length+1) cap,?_,AA.out.2.2.2.1.trans k2⟩;rw[HF.out];show Cv H b S t w2 _ _ (es0++(es++[r.lastEv 2]));unfold Cv;rw[<-gU,xR,List.length_append (bs:=[r.lastEv 2])];exact C2.out
   ·have hop':r.opn=false:=by simpa using hop
    rw[hop'] at y1;have HF:Hid (r0.closeO t=(r,es)):=by
     show _=_;unfold Rs.closeO;rw[HE.out,if_neg hop]
    clear hcond hop hop';by_cases hc0:0<r.count
    ·have i1:(0:Int)<(r.count:Int):=by omega
     go_wp2_with fail;apply HK.out;clear HK;go_wp2_with fail;go_end0;exact⟨rfl,v,by rw[HF.out];exact AA.out.2.2.1,AA.out.2.2.2.1⟩
    ·have i1:(r.count:Int)<=0:=by omega
     go_wp2_with fail;apply HK.out;clear HK;go_wp2_with fail;go_end0;exact⟨rfl,v,by rw[HF.out];exact AA.out.2.2.1,AA.out.2.2.2.1⟩
def Rs.look (r:Rs)(t:Tb):Rs:={r with ahead:=t.further r.ahead t.count}
def Rs.ended (r:Rs):Rs×List Ev:=if r.opn=false then(r,[]) else({r with opn:=false},[r.lastEv (if r.hAt=r.bAt then 2 else 3)])
theorem zFx (b H:Nat)(S:Nat->Prop)(t:Tb)(w0 w:World)(r:Rs){v0:Value}(es:List Ev)(hC:Cv H b S t w r v0 es)(hn:es.length<=4194304)(hk:Keep H b w0 w)(f:Rs×List Ev)(hf:f=r.ended)
  {u1 u2 u3 u4 u5 u6 u7 u8 u9 u10 u11 u12 u13 u14 u15 u16 u17 u18 u19 u20 u21 u22 u23 u24 u25 u26 u27 u28 u29 u30 u31 u32 u33 u34 u35 u36 u37 u38 u39 u40 u41 u42 u43 u44 u45 u46 u47 u48 u49 u50 u51 u52 u53 u54 u55 u56 u57 u58 u59 u60 u61 u62 u63 u64 u65 u66 u67 u68 u69 u70 u71 u72 u73 u74 u75 u76 u77 u78 u79 u80 u81 u82 u83 u84:Value}:
  Code.wp prog (yQ 3 ((f84.body).getD .skip)) (bodyPost prog f84 fun e w'=>
   e=.returned (.tuple #[])∧∃v,Cv H b S t w' f.1 v (es++f.2)∧Keep H b w0 w')
   ⟨(.pointer (some ⟨b,0,none⟩)::u1::u2::u3::u4::u5::u6::u7::u8::u9::u10::u11::u12::u13::u14::u15::u16::u17::u18::u19::u20::u21::u22::u23::u24::u25::u26::u27::u28::u29::u30::u31::u32::u33::u34::u35::u36::u37::u38::u39::u40::u41::u42::u43::u44::u45::u46::u47::u48::u49::u50::u51::u52::u53::u54::u55::u56::u57::u58::u59::u60::u61::u62::u63::u64::u65::u66::u67::u68::u69::u70::u71::u72::u73::u74::u75::u76::u77::u78::u79::u80::u81::u82::u83::u84::[]).toArray,[]⟩ w:=by
 conv=>arg 2;whnf
 have HC:=vl hC;have J:=vl hk;have HF:=vl hf;have y1:=HC.out.run.get_opn;have y8:=HC.out.run.get_bAt;have y78:=HC.out.run.get_hAt;cases ho:r.opn
 ·rw[ho] at y1
  go_wp2;refine bodyPost_ret (results_none rfl _ _ _) rfl ?_;refine⟨rfl,v0,?_,J.out⟩;rw[HF.out,Rs.ended,if_pos ho,List.append_nil];exact HC.out
 ·rw[ho] at y1
  by_cases he:r.hAt=r.bAt
  ·have hb:((r.hAt:Int)==(r.bAt:Int))=true:=by rw[beq_iff_eq];omega
   have HE:=vl he;go_wp2;go_quiet (fail);go_wp2_with fail;refine(qZ b H S t 2 _ r v0 _ _ (Cx.alike (w':=w.drewN nq) HC.out ⟨rfl,rfl,rfl⟩) hn).mono ?_;rintro e w2 ⟨rfl,ao,cap,c2,k2⟩;have C2:=vl c2;go_wp2;go_end0;refine⟨rfl,.slice ao (es.length+1) cap,?_,(J.out.trans (Keep.alike (w':=w.drewN nq) ⟨rfl,rfl,rfl⟩)).trans k2⟩;rw[HF.out,Rs.ended,if_neg (by rw[ho];decide),if_pos HE.out];unfold Cv;rw[xR,kX];exact C2.out
  ·have hb:((r.hAt:Int)==(r.bAt:Int))=false:=by rw[gQ];omega
   have HE:=vl he;go_wp2;go_quiet (fail);go_wp2_with fail;refine(qZ b H S t 3 _ r v0 _ _ (Cx.alike (w':=w.drewN nq) HC.out ⟨rfl,rfl,rfl⟩) hn).mono ?_;rintro e w2 ⟨rfl,ao,cap,c2,k2⟩;have C2:=vl c2;go_wp2;go_end0;refine⟨rfl,.slice ao (es.length+1) cap,?_,(J.out.trans (Keep.alike (w':=w.drewN nq) ⟨rfl,rfl,rfl⟩)).trans k2⟩;rw[HF.out,Rs.ended,if_neg (by rw[ho];decide),if_neg HE.out];unfold Cv;rw[xR,kX];exact C2.out
def Rs.drain (t:Tb):Nat->Rs->Rs×List Ev
 |0,r=>(r,[])
 |n+1,r=>if r.opn=false then(r,[]) else((Rs.drain t n ((r.look t).step t).1).1,((r.look t).step t).2++(Rs.drain t n ((r.look t).step t).1).2)
structure Rs.Fit (r:Rs)(t:Tb)(n:Nat):Prop where
 ok:r.Ok t
 ahead:r.ahead<t.rows
 hAt:r.hAt+n<2147483648
 hLine:r.hLine+n<2147483648
 hCol:r.hCol+n<2147483648
theorem Rs.look_ok (r:Rs)(t:Tb)(h:r.Ok t):(r.look t).Ok t:=⟨h.d1,h.d4,h.st,h.state,h.first,h.count,h.bytes⟩
theorem Rs.step_fit (r:Rs)(t:Tb)(n:Nat)(ok:t.Ok)(h:r.Fit t (n+1)):((r.look t).step t).1.Fit t n:=by
 have hs:=((r.look t).took t).fin_same t;have h1:=h.hAt;have h2:=h.hLine;have h3:=h.hCol;refine⟨((r.look t).took t).fin_ok t ok ((r.look t).took_ok t ok (r.look_ok t h.ok)),?_,?_,?_,?_⟩
 ·show(((r.look t).took t).fin t).1.ahead<t.rows
  rw[hs.ahead];exact gW _ ok.rows0
 ·show(((r.look t).took t).fin t).1.hAt+n<2147483648
  rw[hs.hAt];show r.hAt+1+n<2147483648;omega
 ·show(((r.look t).took t).fin t).1.hLine+n<2147483648
  rw[hs.hLine];show vI _ r.hLine+n<2147483648;unfold vI;split <;> omega
 ·show(((r.look t).took t).fin t).1.hCol+n<2147483648
  rw[hs.hCol];show zAN _ r.hCol+n<2147483648;unfold zAN;split <;> omega
theorem Rs.step_count (r:Rs)(t:Tb):((r.look t).step t).1.count=r.count-1:=(((r.look t).took t).fin_same t).count
theorem Rs.step_one (r:Rs)(t:Tb):((r.look t).step t).2.length<=1:=((r.look t).took t).fin_one t
theorem zIo (b H:Nat)(S:Nat->Prop)(t:Tb)(w0 w:World)(r:Rs){v0:Value}(es:List Ev)(hC:Cv H b S t w r v0 es)(hn:es.length+r.count<4194304)(ok:t.Ok)(hact:∀i,i<t.nrule->t.act i<4)(hfit:r.Fit t r.count)(hk:Keep H b w0 w)
  (f:Rs×List Ev) (hf:f=((Rs.drain t r.count r).1.ended.1,(Rs.drain t r.count r).2++(Rs.drain t r.count r).1.ended.2))
  {u1 u3 u4 u5 u6 u7 u8 u9 u10 u11 u12 u13 u14 u15 u16 u17 u18 u19 u20 u21 u22 u23 u24 u25 u26 u27 u28 u29 u30 u31 u32 u33 u34 u35 u36 u37 u38 u39 u40 u41 u42 u43 u44 u45 u46 u47 u48 u49 u50 u51 u52 u53 u54 u55 u56 u57 u58 u59 u60 u61 u62 u63 u64 u65 u66 u67 u68 u69 u70 u71 u72 u73 u74 u75 u76 u77 u78 u79 u80 u81 u82 u83 u84:Value}:
  Code.wp prog (yQ 2 ((f84.body).getD .skip)) (bodyPost prog f84 fun e w'=>
   e=.returned (.tuple #[])∧∃v,Cv H b S t w' f.1 v (es++f.2)∧Keep H b w0 w')
   ⟨(.pointer (some ⟨b,0,none⟩)::u1:: .int .i64 (t.count:Int)::u3::u4::u5::u6::u7::u8::u9::u10::u11::u12::u13::u14::u15::u16::u17::u18::u19::u20::u21::u22::u23::u24::u25::u26::u27::u28::u29::u30::u31::u32::u33::u34::u35::u36::u37::u38::u39::u40::u41::u42::u43::u44::u45::u46::u47::u48::u49::u50::u51::u52::u53::u54::u55::u56::u57::u58::u59::u60::u61::u62::u63::u64::u65::u66::u67::u68::u69::u70::u71::u72::u73::u74::u75::u76::u77::u78::u79::u80::u81::u82::u83::u84::[]).toArray,[]⟩ w:=by
 conv=>arg 2;whnf
 refine wp_seq_k ?_;intro K hK0;have HK:=vl hK0;have HC:=vl hC;have J:=vl hk;have HF:=vl hf;clear hC hk hf hK0;go_wp2;go_loopg [] r.count (fun k wr=>∃(r':Rs) (v':Value) (es':List Ev),k=r'.count∧Cv H b S t wr r' v' es'∧Keep H b w0 wr∧r'.Fit t r'.count∧es'.length+r'.count<4194304∧
  f.1=(Rs.drain t r'.count r').1.ended.1∧es++f.2=es'++((Rs.drain t r'.count r').2++(Rs.drain t r'.count r').1.ended.2))
 case atStart=>exact⟨r,v0,es,rfl,HC.out,J.out,hfit,hn,by rw[HF.out],by rw[HF.out]⟩
 case round=>
  obtain⟨r',v',es',hgk,hC',hk',hfit',hn',hf1,hf2⟩:=hrel;have A:Hid (gk=r'.count∧Cv H b S t wr r' v' es'∧Keep H b w0 wr∧f.1=(Rs.drain t r'.count r').1.ended.1∧es++f.2=es'++((Rs.drain t r'.count r').2++(Rs.drain t r'.count r').1.ended.2)):=⟨hgk,hC',hk',hf1,hf2⟩
  have y0:=hC'.run.get_tp;have y1:=hC'.run.get_opn;have y77:=hC'.run.get_count;have y81:=hC'.run.get_ahead;have z81:=hC'.run.frozen 81;by_cases hc0:r'.count=0
  ·have hc1:¬(0:Int)<(r'.count:Int):=by omega
   have H0:=vl hc0;go_wp2;apply HK.out;obtain⟨_,hC',hk',hf1,hf2⟩:=A.out;have hd:Rs.drain t r'.count r'=(r',[]):=by rw[H0.out];rfl
   rw[hd] at hf1 hf2;rw[hf1,show es++f.2=es'++r'.ended.2 from hf2];exact zFx b H S t w0 _ r' es' hC' (by omega) hk' _ rfl
  ·have hc1:(0:Int)<(r'.count:Int):=by omega
   cases ho:r'.opn
   ·rw[ho] at y1
    go_wp2;apply HK.out;obtain⟨_,hC',hk',hf1,hf2⟩:=A.out;have hd:Rs.drain t r'.count r'=(r',[]):=by cases hn0:r'.count with|zero=>rfl|succ n=>rw[Rs.drain,if_pos ho]
    rw[hd] at hf1 hf2;rw[hf1,show es++f.2=es'++r'.ended.2 from hf2];exact zFx b H S t w0 _ r' es' hC' (by omega) hk' _ rfl
   ·rw[ho] at y1
    have Ho:=vl ho;have tb4:=vl <| (Cx.alike (w':=wr.drew) A.out.2.1 ⟨rfl,rfl,rfl⟩).tab;have hct:=ok.count;have hrw:=ok.rows;have hah:=hfit'.ahead;go_wp2;go_region_with ((go_at_call 108;go_must ((refine (zA2 r'.tp _ S t tb4.out ok r'.ahead t.count (by omega) (by omega)).mono ?_;rintro e w5 ⟨rfl,ha5⟩;have q81:=(ha5.cell ⟨b,81,none⟩).trans y81;have z5:=(ha5.frozen ⟨b,81,none⟩).trans z81))))
    all_goals
     have c5:=vl <| Cx.alike A.out.2.1 ha5;have k5:=vl <| A.out.2.2.1.trans (Keep.alike ha5);have c6:=vl <| Cx.stored c5.out 81 _ (c5.out.run.set_ahead (t.further r'.ahead t.count)) rfl;clear tb4 ha5 c5;go_wp2_with fail;refine(zHy b H S t _ (r'.look t) es' c6.out (by omega) ok hact (r'.look_ok t hfit'.ok) (by show 1<=r'.count;omega) (gW _ ok.rows0) (by have:=hfit'.hAt;show r'.hAt<_;omega) (by have:=hfit'.hLine;show r'.hLine<_;omega) (by have:=hfit'.hCol;show r'.hCol<_;omega)).mono ?_;rintro e w7 ⟨rfl,v7,c7,k7⟩;have C7:Hid (Cv H b S t w7 ((r'.look t).step t).1 v7 (es'++((r'.look t).step t).2)∧Keep H b w0 w7):=⟨c7,(k5.out.trans (Keep.set _ _ _)).trans k7⟩
     clear c7 k7;go_wp2_with fail;go_roundg ((r'.look t).step t).1.count
     case measure=>rw[A.out.1,Rs.step_count];omega
     case rel=>
      obtain⟨hgk,_,_,hf1,hf2⟩:=A.out;obtain⟨m,hm⟩:∃m,r'.count=m+1:=⟨r'.count-1,by omega⟩
      have hsc:((r'.look t).step t).1.count=m:=by rw[Rs.step_count,hm];rfl
      have hone:=r'.step_one t;rw[hm,Rs.drain,if_neg (by rw[Ho.out];decide)] at hf1 hf2;refine⟨((r'.look t).step t).1,v7,es'++((r'.look t).step t).2,rfl,C7.out.1,C7.out.2,?_,?_,?_,?_⟩
      ·rw[hsc];exact r'.step_fit t m ok (by rw[<-hm];exact hfit')
      ·rw[hsc,kX];omega
      ·rw[hsc];exact hf1
      ·rw[hsc,hf2];simp[gU]
def Tb.aheadTo (t:Tb)(a:Nat):Nat->Nat
 |0=>a
 |j+1=>t.further (t.aheadTo a j) t.count
theorem Tb.aheadTo_lt (t:Tb)(ok:t.Ok)(a j:Nat)(h:a<t.rows):t.aheadTo a j<t.rows:=by
 cases j with
 |zero=>exact h
 |succ j=>exact gW _ ok.rows0
def Rs.pad (r:Rs)(t:Tb)(j:Nat):Rs:={r with ahead:=t.aheadTo r.ahead j}
theorem Rs.pad_ok (r:Rs)(t:Tb)(j:Nat)(h:r.Ok t):(r.pad t j).Ok t:=⟨h.d1,h.d4,h.st,h.state,h.first,h.count,h.bytes⟩
def Rs.closed (r:Rs)(t:Tb):Rs×List Ev:=
 let d:=Rs.drain t r.count (r.pad t (t.ahead-r.count))
 (d.1.ended.1,d.2++d.1.ended.2)
theorem zK6 (b H:Nat)(S:Nat->Prop)(t:Tb)(w0 w:World)(r:Rs){v0:Value}(es:List Ev)(hC:Cv H b S t w r v0 es)(hn:es.length+r.count<4194304)(ok:t.Ok)(hact:∀i,i<t.nrule->t.act i<4)(hfit:r.Fit t r.count)(hk:Keep H b w0 w)
  (f:Rs×List Ev) (hf:f=r.closed t)
  {u1 u3 u4 u5 u6 u7 u8 u9 u10 u11 u12 u13 u14 u15 u16 u17 u18 u19 u20 u21 u22 u23 u24 u25 u26 u27 u28 u29 u30 u31 u32 u33 u34 u35 u36 u37 u38 u39 u40 u41 u42 u43 u44 u45 u46 u47 u48 u49 u50 u51 u52 u53 u54 u55 u56 u57 u58 u59 u60 u61 u62 u63 u64 u65 u66 u67 u68 u69 u70 u71 u72 u73 u74 u75 u76 u77 u78 u79 u80 u81 u82 u83 u84:Value}:
  Code.wp prog (yQ 1 ((f84.body).getD .skip)) (bodyPost prog f84 fun e w'=>
   e=.returned (.tuple #[])∧∃v,Cv H b S t w' f.1 v (es++f.2)∧Keep H b w0 w')
   ⟨(.pointer (some ⟨b,0,none⟩)::u1:: .int .i64 (t.count:Int)::u3::u4::u5::u6::u7::u8::u9::u10::u11::u12::u13::u14::u15::u16::u17::u18::u19::u20::u21::u22::u23::u24::u25::u26::u27::u28::u29::u30::u31::u32::u33::u34::u35::u36::u37::u38::u39::u40::u41::u42::u43::u44::u45::u46::u47::u48::u49::u50::u51::u52::u53::u54::u55::u56::u57::u58::u59::u60::u61::u62::u63::u64::u65::u66::u67::u68::u69::u70::u71::u72::u73::u74::u75::u76::u77::u78::u79::u80::u81::u82::u83::u84::[]).toArray,[]⟩ w:=by
 conv=>arg 2;whnf
 refine wp_seq_k ?_;intro K hK0;have HK:=vl hK0;have HC:=vl hC;have J:=vl hk;have HF:=vl hf;have y77:w.cell? ⟨b,77,none⟩=some (.int .i64 r.count):=hC.run.get_count;clear hC hk hf hK0;have hA:=ok.ahead;have hc64:=hfit.ok.count;have hct:=ok.count;have hrw:=ok.rows;go_wp2;go_loopg [3] (t.ahead-r.count) (fun k i wr=>∃j:Nat,k=t.ahead-r.count-j∧j<=t.ahead-r.count∧i=.int .i64 ((r.count:Int)+(j:Int))∧Cv H b S t wr (r.pad t j) v0 es∧Keep H b w0 wr)
 case atStart=>exact⟨0,rfl,lX,congrArg (Value.int IntKind.i64) (by omega),HC.out,J.out⟩
 case round=>
  obtain⟨j,hgk,hj,rfl,hC',hk'⟩:=hrel;have A:Hid (gk=t.ahead-r.count-j∧Cv H b S t wr (r.pad t j) v0 es∧Keep H b w0 wr):=⟨hgk,hC',hk'⟩
  have y0:wr.cell? ⟨b,0,none⟩=some (.pointer (some ⟨r.tp,0,none⟩)):=hC'.run.get_tp;have y81:wr.cell? ⟨b,81,none⟩=some (.int .i64 (t.aheadTo r.ahead j:Nat)):=hC'.run.get_ahead;have z81:=hC'.run.frozen 81;have x1:wr.cell? ⟨r.tp,1,none⟩=some (.int .i64 t.ahead):=hC'.tab.c1;have hlt:=t.aheadTo_lt ok r.ahead j hfit.ahead;have HS:Hid (t.aheadTo r.ahead (j+1)=t.further (t.aheadTo r.ahead j) t.count):=rfl;by_cases hjl:j<t.ahead-r.count
  ·have hl:(r.count:Int)+(j:Int)<(t.ahead:Int):=by omega
   have tb4:=vl <| (Cx.alike (w':=wr.drew) A.out.2.1 ⟨rfl,rfl,rfl⟩).tab;generalize t.aheadTo r.ahead j=a at *;go_wp2;go_region_with ((go_at_call 108;go_must ((refine (zA2 r.tp _ S t tb4.out ok a t.count (by omega) (by omega)).mono ?_;rintro e w5 ⟨rfl,ha5⟩;have q81:w5.cell? ⟨b,81,none⟩=some (.int .i64 (a:Nat)):=(ha5.cell ⟨b,81,none⟩).trans y81;have z5:w5.frozen? ⟨b,81,none⟩=false:=(ha5.frozen ⟨b,81,none⟩).trans z81))))
   all_goals
    have c5:=vl <| Cx.alike A.out.2.1 ha5;have k5:=vl <| A.out.2.2.trans (Keep.alike ha5);have c6:Hid (Cv H b S t (w5.setCell ⟨b,81,none⟩ (.int .i64 (t.further a t.count:Nat))) (r.pad t (j+1)) v0 es):=by
     have h:=Cx.stored c5.out 81 _ (c5.out.run.set_ahead (t.further a t.count)) rfl;rw[<-HS.out] at h ⊢;exact h
    go_wp2;go_roundg (t.ahead-r.count-(j+1))
    case measure=>rw[A.out.1];omega
    case rel=>exact⟨j+1,rfl,by omega,congrArg (Value.int IntKind.i64) (by omega),c6.out,k5.out.trans (Keep.set _ _ _)⟩
  ·have hl:(t.ahead:Int)<=(r.count:Int)+(j:Int):=by omega
   have hje:Hid (j=t.ahead-r.count):=by show j=_;omega
   go_wp2;apply HK.out;refine zIo b H S t w0 _ (r.pad t j) es A.out.2.1 hn ok hact ⟨r.pad_ok t j hfit.ok,hlt,hfit.hAt,hfit.hLine,hfit.hCol⟩ A.out.2.2 f ?_;rw[HF.out,hje.out];rfl
theorem zDp (b H:Nat)(S:Nat->Prop)(t:Tb)(w:World)(r:Rs){v0:Value}(es:List Ev)(hC:Cv H b S t w r v0 es)(hn:es.length+r.count<4194304)(ok:t.Ok)(hact:∀i,i<t.nrule->t.act i<4)(hfit:r.Fit t r.count):
  Calls prog 84 #[.pointer (some ⟨b,0,none⟩)] w fun e w'=>
   e=.returned (.tuple #[])∧∃v,Cv H b S t w' (r.closed t).1 v (es++(r.closed t).2)∧Keep H b w w':=by
 have HC:=vl hC;have y0:=hC.run.get_tp;go_in;apply wp_cut;intro K H0;go_wp2_with fail;refine(zKU r.tp _ S t HC.out.tab).mono ?_;rintro e w1 ⟨rfl,ha1⟩;go_wp2;apply H0.out;exact zK6 b H S t w _ r es (Cx.alike HC.out ha1) hn ok hact hfit (Keep.alike ha1) _ rfl
structure Rs.Str (r:Rs)(t:Tb)(P:Nat):Prop where
 ok:r.Ok t
 ahead:r.ahead<t.rows
 cnt:r.count<=t.ahead
 pos:r.hAt+r.count<=P
 line:r.hLine<=r.hAt+1
 col:r.hCol<=r.hAt+1
theorem Rs.step_opn (r:Rs)(t:Tb):((r.step t).1.opn=r.opn∨(r.step t).2≠[])∧((r.step t).1.opn=true->r.opn=true)∧(r.step t).2.length<=1:=by
 have h1:=(r.took t).fin_one t;refine⟨?_,?_,h1⟩
 ·show((r.took t).fin t).1.opn=r.opn∨((r.took t).fin t).2≠[]
  unfold Rs.fin;split
  ·exact((r.took t).tok_opn t _ _ _ _).1
  ·split
   ·exact .inr (by simp)
   ·exact .inl rfl
 ·show((r.took t).fin t).1.opn=true->r.opn=true
  unfold Rs.fin;split
  ·exact((r.took t).tok_opn t _ _ _ _).2.1
  ·split
   ·intro h;cases h
   ·exact id
theorem Rs.take_inv (r:Rs)(t:Tb)(P c:Nat)(ok:t.Ok)(h:r.Str t P)(hc:c<256)(ho:r.opn=true):
  (r.take t c).1.Str t (P+1)∧(r.take t c).2.length+(r.take t c).1.count+xA (r.take t c).1.opn<=r.count+2∧((r.take t c).1.opn=true∨(r.take t c).2≠[]):=by
 have hA:=ok.ahead;have hcn:=h.cnt;have hps:=h.pos;have hln:=h.line;have hcl:=h.col;have hok:((r.added c).looked t (t.kind c)).Ok t:=let h:=r.added_ok t c h.ok hc (by omega);⟨h.d1,h.d4,h.st,h.state,h.first,h.count,h.bytes⟩;unfold Rs.take Rs.due;generalize hq:(r.added c).looked t (t.kind c)=q at *;have e1:q.count=r.count+1:=by rw[<-hq];rfl
 have e2:q.hAt=r.hAt:=by rw[<-hq];rfl
 have e3:q.hLine=r.hLine:=by rw[<-hq];rfl
 have e4:q.hCol=r.hCol:=by rw[<-hq];rfl
 have e5:q.opn=true:=by rw[<-hq];exact ho
 have e6:q.ahead<t.rows:=by rw[<-hq];exact gW _ ok.rows0
 have o1:xA true=1:=rfl;split
 ·rename_i hd
  obtain⟨s1,s2,s3⟩:=q.step_opn t;have hs:=(q.took t).fin_same t;have f1:(q.step t).1.count=q.count-1:=hs.count;have f2:(q.step t).1.hAt=q.hAt+1:=hs.hAt;have f3:(q.step t).1.hLine<=q.hLine+1:=by
   have e:(q.step t).1.hLine=vI (q.byte q.first) q.hLine:=hs.hLine;rw[e];unfold vI;split <;> omega
  have f4:(q.step t).1.hCol<=q.hCol+1:=by
   have e:(q.step t).1.hCol=zAN (q.byte q.first) q.hCol:=hs.hCol;rw[e];unfold zAN;split <;> omega
  have f5:(q.step t).1.ahead=q.ahead:=hs.ahead;have f6:=(q.took t).fin_ok t ok (q.took_ok t ok hok);have f7:xA (q.step t).1.opn<=1:=by unfold xA;split <;> omega
  exact⟨⟨f6,by omega,by omega,by omega,by omega,by omega⟩,by omega,by rw[e5] at s1;exact s1⟩
 ·rename_i hd
  refine⟨⟨hok,e6,by show q.count<=t.ahead;omega,by show q.hAt+q.count<=P+1;omega,by show q.hLine<=q.hAt+1;omega,by show q.hCol<=q.hAt+1;omega⟩,?_,.inl e5⟩;show 0+q.count+xA q.opn<=r.count+2;rw[e5];omega
def Rs.Good (r:Rs)(t:Tb)(P:Nat):Prop:=if t.stream then r.Str t P else r.Oth t P
theorem Rs.Good.ok {r:Rs}{t:Tb}{P:Nat}(h:r.Good t P):r.Ok t:=by
 unfold Rs.Good at h;split at h
 ·exact h.ok
 ·exact h.ok
theorem Rs.Good.cnt {r:Rs}{t:Tb}{P:Nat}(h:r.Good t P):r.count<=P:=by
 unfold Rs.Good at h;split at h
 ·have:=h.pos;omega
 ·have:=h.pos;omega
def Rs.eat (r:Rs)(t:Tb)(c:Nat):Rs×List Ev:=if t.stream then r.take t c else r.takeO t c
theorem Rs.eat_inv (r:Rs)(t:Tb)(P c:Nat)(ok:t.Ok)(h:r.Good t P)(hc:c<256)(ho:r.opn=true):
  (r.eat t c).1.Good t (P+1)∧(r.eat t c).2.length+(r.eat t c).1.count+xA (r.eat t c).1.opn<=r.count+2∧((r.eat t c).1.opn=true∨(r.eat t c).2≠[]):=by
 unfold Rs.eat Rs.Good at *;split
 ·rename_i hs
  rw[if_pos hs] at h;exact r.take_inv t P c ok h hc ho
 ·rename_i hs
  rw[if_neg hs] at h;exact r.takeO_inv t P c ok h hc ho
def Rs.feed (t:Tb):List Nat->Rs->Rs×List Ev
 |[],r=>(r,[])
 |c::cs,r=>if r.opn then((Rs.feed t cs (r.eat t c).1).1,(r.eat t c).2++(Rs.feed t cs (r.eat t c).1).2) else(r,[])
theorem Rs.feed_shut (t:Tb)(cs:List Nat)(r:Rs)(h:r.opn=false):Rs.feed t cs r=(r,[]):=by
 cases cs with
 |nil=>rfl
 |cons c cs=>unfold Rs.feed;rw[if_neg (by rw[h];decide)]
theorem Rs.feed_append (t:Tb)(xs bs:List Nat)(r:Rs):Rs.feed t (xs++bs) r=((Rs.feed t bs (Rs.feed t xs r).1).1,(Rs.feed t xs r).2++(Rs.feed t bs (Rs.feed t xs r).1).2):=by
 induction xs generalizing r with
 |nil=>simp[Rs.feed]
 |cons c xs ih=>
  by_cases h:r.opn=true
  ·simp only[List.cons_append,Rs.feed,h,if_true,ih,gU]
  ·have h':r.opn=false:=by simpa using h
   rw[Rs.feed_shut t _ r h',Rs.feed_shut t _ r h'];rw[Rs.feed_shut t _ r h',List.append_nil]
theorem Rs.feed_snoc (t:Tb)(cs:List Nat)(c:Nat)(r:Rs)(h:(Rs.feed t cs r).1.opn=true):Rs.feed t (cs++[c]) r=(((Rs.feed t cs r).1.eat t c).1,(Rs.feed t cs r).2++((Rs.feed t cs r).1.eat t c).2):=by
 rw[Rs.feed_append];simp[Rs.feed,h]
theorem Rs.feed_inv (t:Tb)(ok:t.Ok)(cs:List Nat)(r:Rs)(P:Nat)(h:r.Good t P)(hc:∀c∈cs,c<256):
  (Rs.feed t cs r).1.Good t (P+cs.length)∧(Rs.feed t cs r).2.length+(Rs.feed t cs r).1.count+xA (Rs.feed t cs r).1.opn<=r.count+xA r.opn+cs.length∧((Rs.feed t cs r).1.opn=r.opn∨(Rs.feed t cs r).2≠[]):=by
 induction cs generalizing r P with
 |nil=>exact⟨h,by simp[Rs.feed],.inl rfl⟩
 |cons c cs ih=>
  by_cases ho:r.opn=true
  ·obtain⟨a1,a2,a3⟩:=r.eat_inv t P c ok h (hc c gV) ho
   obtain⟨b1,b2,b3⟩:=ih (r.eat t c).1 (P+1) a1 fun x hx=>hc x (List.mem_cons_of_mem _ hx);have e:Rs.feed t (c::cs) r=((Rs.feed t cs (r.eat t c).1).1,(r.eat t c).2++(Rs.feed t cs (r.eat t c).1).2):=by
    rw[Rs.feed,if_pos ho]
   rw[e,ho];have o1:xA true=1:=rfl;refine⟨?_,?_,?_⟩
   ·rw[gY,Nat.add_comm cs.length,<-Nat.add_assoc];exact b1
   ·rw[kX,gY]
    show(r.eat t c).2.length+(Rs.feed t cs (r.eat t c).1).2.length+(Rs.feed t cs (r.eat t c).1).1.count+xA (Rs.feed t cs (r.eat t c).1).1.opn<=_;omega
   ·show(Rs.feed t cs (r.eat t c).1).1.opn=true∨(r.eat t c).2++(Rs.feed t cs (r.eat t c).1).2≠[]
    by_cases e1:(r.eat t c).2=[]
    ·by_cases e2:(Rs.feed t cs (r.eat t c).1).2=[]
     ·left
      rw[b3.resolve_right (fun h=>h e2)];exact a3.resolve_right (fun h=>h e1)
     ·right;simp[e2]
    ·right;simp[e1]
  ·have h':r.opn=false:=by simpa using ho
   rw[Rs.feed_shut t _ r h'];refine⟨?_,?_,.inl rfl⟩
   ·unfold Rs.Good at *
    split
    ·rename_i hs
     rw[if_pos hs] at h;exact⟨h.ok,h.ahead,h.cnt,lY h.pos (Nat.le_add_right _ _),h.line,h.col⟩
    ·rename_i hs
     rw[if_neg hs] at h;exact⟨h.ok,h.len,h.tak,h.rule,lY h.pos (Nat.le_add_right _ _),h.line,h.col1,h.col⟩
   ·show 0+r.count+xA r.opn<=_
    omega
def Rs.shut (r:Rs)(t:Tb):Rs×List Ev:=if r.opn then(if t.stream then r.closed t else r.closeO t) else(r,[])
theorem Rs.drain_end (t:Tb)(n:Nat)(r:Rs):((Rs.drain t n r).1.opn=r.opn∨(Rs.drain t n r).2≠[])∧(Rs.drain t n r).2.length<=n:=by
 induction n generalizing r with
 |zero=>exact⟨.inl rfl,lQ⟩
 |succ n ih=>
  rw[Rs.drain];split
  ·exact⟨.inl rfl,lX⟩
  ·obtain⟨s1,s2,s3⟩:=(r.look t).step_opn t
   obtain⟨i1,i2⟩:=ih ((r.look t).step t).1
   constructor
   ·show(Rs.drain t n ((r.look t).step t).1).1.opn=r.opn∨((r.look t).step t).2++(Rs.drain t n ((r.look t).step t).1).2≠[]
    by_cases e1:((r.look t).step t).2=[]
    ·by_cases e2:(Rs.drain t n ((r.look t).step t).1).2=[]
     ·left
      rw[i1.resolve_right (fun h=>h e2)];exact s1.resolve_right (fun h=>h e1)
     ·right;simp[e2]
    ·right;simp[e1]
   ·show(((r.look t).step t).2++(Rs.drain t n ((r.look t).step t).1).2).length<=n+1
    rw[kX];omega
theorem Rs.closed_end (r:Rs)(t:Tb)(ho:r.opn=true):(r.closed t).1.opn=false∧(r.closed t).2≠[]∧(r.closed t).2.length<=r.count+1:=by
 obtain⟨d1,d2⟩:=Rs.drain_end t r.count (r.pad t (t.ahead-r.count));have ho':(r.pad t (t.ahead-r.count)).opn=true:=ho;rw[ho'] at d1;unfold Rs.closed;simp only;generalize Rs.drain t r.count (r.pad t (t.ahead-r.count))=d at *;unfold Rs.ended;split
 ·rename_i h
  refine⟨h,?_,?_⟩
  ·have:=d1.resolve_left (by rw[h];decide)
   simpa using this
  ·simp;omega
 ·exact⟨rfl,by simp,by simp;omega⟩
theorem Rs.shut_end (r:Rs)(t:Tb)(P:Nat)(ok:t.Ok)(h:r.Good t P)(ho:r.opn=true):(r.shut t).1.opn=false∧(r.shut t).2≠[]:=by
 unfold Rs.shut;rw[if_pos ho];unfold Rs.Good at h;split
 ·exact⟨(r.closed_end t ho).1,(r.closed_end t ho).2.1⟩
 ·rename_i hs
  rw[if_neg hs] at h;exact r.closeO_end t P ok h ho
def nats (s:ByteArray):List Nat:=s.data.toList.map UInt8.toNat
theorem vT (s:ByteArray):∀c∈nats s,c<256:=by
 intro c hc;obtain⟨x,_,rfl⟩:=List.mem_map.1 hc;exact x.toNat_lt
theorem yR (s:ByteArray):(nats s).length=s.size:=by
 unfold nats;rw[kV,Array.length_toList];rfl
def zJA (i:Nat):Value:=if i=0 then .pointer none else if i=1 then .bool false else if i=2 then .slice none 0 0 else if 12<=i∧i<76 then .int .u8 0 else .int .i64 0
theorem zCc:zeroCells102=((List.range 85).map zJA).toArray:=by kernel_rfl
theorem zG3:(prog.info? 102).map (·.size)=some 85:=by kernel_rfl
def Rs.zero (p:Nat):Rs:=⟨p,true,fun _=>0,0,0,1,1,0,fun _=>0,0,0,0,1,1,0,0,0,0⟩
def jI (z:Array Value)(p:Nat):Array Value:=(((((((z.setIfInBounds 0 (.pointer (some ⟨p,0,none⟩))).setIfInBounds 1 (.bool true)).setIfInBounds 8 (.int .i64 0)).setIfInBounds 9 (.int .i64 1)).setIfInBounds 10 (.int .i64 1)).setIfInBounds 78 (.int .i64 0)).setIfInBounds 79 (.int .i64 1)).setIfInBounds 80 (.int .i64 1)
theorem jZ (p:Nat):(jI zeroCells102 p).size=85:=by unfold jI;rw[zCc];simp
theorem zD8 (p i:Nat)(hi:i<85):(jI zeroCells102 p)[i]? =some ((Rs.zero p).cells (.slice none 0 0) i):=by
 unfold jI;rw[zCc];simp only[Array.getElem?_setIfInBounds,Array.size_setIfInBounds,List.getElem?_toArray,List.size_toArray,kV,List.length_range,gJ];rw[List.getElem?_range hi];unfold Rs.cells zJA Rs.zero;simp only[Option.map_some];by_cases h0:i=0
 ·subst h0;rfl
 by_cases h1:i=1
 ·subst h1;rfl
 by_cases h2:i=2
 ·subst h2;rfl
 by_cases h8:i=8
 ·subst h8;rfl
 by_cases h9:i=9
 ·subst h9;rfl
 by_cases h10:i=10
 ·subst h10;rfl
 by_cases h78:i=78
 ·subst h78;rfl
 by_cases h79:i=79
 ·subst h79;rfl
 by_cases h80:i=80
 ·subst h80;rfl
 rw[if_neg (Ne.symm h80),if_neg (Ne.symm h79),if_neg (Ne.symm h78),if_neg (Ne.symm h10),if_neg (Ne.symm h9),if_neg (Ne.symm h8),if_neg (Ne.symm h1),if_neg (Ne.symm h0)];simp only[h0,h1,h2,h8,h9,h10,h78,h79,h80,if_false];by_cases hb:12<=i∧i<76
 ·rw[if_pos hb]
  repeat rw[if_neg (by omega)]
  rfl
 ·rw[if_neg hb]
  by_cases h3:i=3
  ·subst h3;rfl
  by_cases h4:i=4
  ·subst h4;rfl
  by_cases h5:i=5
  ·subst h5;rfl
  by_cases h6:i=6
  ·subst h6;rfl
  by_cases h7:i=7
  ·subst h7;rfl
  by_cases h11:i=11
  ·subst h11;rfl
  by_cases h76:i=76
  ·subst h76;rfl
  by_cases h77:i=77
  ·subst h77;rfl
  by_cases h81:i=81
  ·subst h81;rfl
  by_cases h82:i=82
  ·subst h82;rfl
  by_cases h83:i=83
  ·subst h83;rfl
  have h84:i=84:=by omega
  subst h84;rfl
theorem zLH {H:Nat}(w:World)(g i:Nat)(x:Value)(hg:H<=g):Keep H H w (w.setCell ⟨g,i,none⟩ x):=⟨rfl,rfl,by simp[World.setCell],fun k h1 _=>lJ _ _ _ _ (by show k≠g;omega)⟩
theorem yD {c:Prop}[Decidable c] {x y:Value}(hx:x.oneCell'=true)(hy:y.oneCell'=true):(if c then x else y).oneCell'=true:=by split <;> assumption
theorem Rs.cells_one (r:Rs)(v:Value)(j:Nat)(hv:v.oneCell'=true):(r.cells v j).oneCell'=true:=by
 unfold Rs.cells;exact yD rfl (yD rfl (yD hv (yD rfl (yD rfl (yD rfl (yD rfl (yD rfl (yD rfl (yD rfl (yD rfl (yD rfl (yD rfl (yD rfl (yD rfl (yD rfl (yD rfl (yD rfl (yD rfl (yD rfl (yD rfl rfl))))))))))))))))))))
theorem zGt (r:Rs)(v:Value)(hv:v.oneCell'=true)(C:Array Value)(hs:C.size=85)(h:∀i,i<85->C[i]? =some (r.cells v i)):C.all (·.oneCell')=true:=by
 rw[Array.all_eq_true];intro i hi;have e:=h i (by omega);rw[Array.getElem?_eq_getElem hi] at e;rw[hU e];exact r.cells_one v i hv
theorem zIv (p:Nat)(S:Nat->Prop)(t:Tb)(w:World)(hT:TabAt w S p t)(hS:∀k,S k->k<w.heap.size)(ok:t.Ok):
  Calls prog 49 #[.pointer (some ⟨p,0,none⟩)] w fun e w'=>∃c:Array Value,e=.returned (.agg c)∧c.size=85∧(∀i,i<85->c[i]? =some (({Rs.zero p with stack:=fun _=>0,depth:=1,state:=t.start 0}:Rs).cells (.slice none 0 0) i))∧Grew w w':=by
 have hst:(storeCells {block:=w.heap.size+1+1,off:=0} ((((((((zeroCells102.toList.set 0 (Value.pointer (some {block:=p,off:=0}))).set 1 (Value.bool true)).set 8 (Value.int IntKind.i64 0)).set 9 (Value.int IntKind.i64 1)).set 10 (Value.int IntKind.i64 1)).set 78 (Value.int IntKind.i64 0)).set 79 (Value.int IntKind.i64 1)).set 80 (Value.int IntKind.i64 1))).run prog
   (((w.alloc (Obj.cells zeroCells102 102)).alloc (Obj.cells #[Value.int IntKind.i64 0,Value.int IntKind.i64 1,Value.int IntKind.i64 1] 97)).alloc (Obj.cells zeroCells102 102))=
   .ok () (((w.alloc (Obj.cells zeroCells102 102)).alloc (Obj.cells #[Value.int IntKind.i64 0,Value.int IntKind.i64 1,Value.int IntKind.i64 1] 97)).alloc (Obj.cells (jI zeroCells102 p) 102)):=by
  have h:=run_storeCells_new (P:=prog) ((w.alloc (Obj.cells zeroCells102 102)).alloc (Obj.cells #[Value.int IntKind.i64 0,Value.int IntKind.i64 1,Value.int IntKind.i64 1] 97)) 102 zeroCells102 (jI zeroCells102 p) (by rw[jZ];exact zG3) (by rw[jZ,zCc];simp) (zGt (Rs.zero p) (.slice none 0 0) rfl _ (jZ p) (zD8 p));rw[show ((w.alloc (Obj.cells zeroCells102 102)).alloc (Obj.cells #[Value.int IntKind.i64 0,Value.int IntKind.i64 1,Value.int IntKind.i64 1] 97)).heap.size=w.heap.size+1+1 by simp] at h;simpa only[jI,Array.toList_setIfInBounds] using h
 have HT:Hid (TabAt w S p t∧∀k,S k->k<w.heap.size):=⟨hT,hS⟩
 go_in;apply wp_cut;intro K0 J;go_wp2;apply J.out;apply wp_cut;intro K1 HK1;go_wp2;apply HK1.out;apply wp_cut;intro K2 HK2;go_wp2;apply HK2.out;obtain⟨w3,hw3,A3⟩:∃w3,w3=(((w.alloc (Obj.cells zeroCells102 102)).alloc (Obj.cells #[Value.int IntKind.i64 0,Value.int IntKind.i64 1,Value.int IntKind.i64 1] 97)).alloc (Obj.cells (jI zeroCells102 p) 102))∧
   Hid (zK w3 (w.heap.size+1+1) (Rs.zero p) (.slice none 0 0)∧w3.heap[w.heap.size]? =some (.cells zeroCells102 102 (0,0))∧TabAt w3 S p t∧Grew w w3∧w.heap.size+3<=w3.heap.size):=by
  have hn:=gG ((w.alloc (Obj.cells zeroCells102 102)).alloc (Obj.cells #[Value.int IntKind.i64 0,Value.int IntKind.i64 1,Value.int IntKind.i64 1] 97)) (Obj.cells (jI zeroCells102 p) 102);rw[show ((w.alloc (Obj.cells zeroCells102 102)).alloc (Obj.cells #[Value.int IntKind.i64 0,Value.int IntKind.i64 1,Value.int IntKind.i64 1] 97)).heap.size=w.heap.size+1+1 by simp] at hn;refine⟨_,rfl,⟨_,_,hn,jZ p,fun i hi=>zD8 p i hi⟩,?_,?_,?_,by simp⟩
  ·exact(lG _ _ _ (by simp;omega)).trans ((lG _ _ _ (by simp)).trans (gG w _))
  ·exact HT.out.1.keep fun k hk=>by
    have:=HT.out.2 k hk;exact(lG _ _ _ (by simp;omega)).trans ((lG _ _ _ (by simp;omega)).trans (lG _ _ _ this))
  ·exact((kZ _ _ lQ).trans (kZ _ _ (by simp))).trans (kZ _ _ (by simp;omega))
 rw[<-hw3];clear hw3 hst;apply wp_cut;intro K3 HK3;go_wp2_with fail;refine(zE3 (w.heap.size+1+1) 0 w3 (Rs.zero p) A3.out.1 (by show(0:Nat)<4;decide)).mono ?_;rintro e w4 ⟨rfl,hR4,hk4⟩;have A4:Hid (zK w4 (w.heap.size+1+1) {Rs.zero p with stack:=fun j=>if j=0 then 0 else 0,depth:=1} (.slice none 0 0)∧w4.heap[w.heap.size]? =some (.cells zeroCells102 102 (0,0))∧TabAt w4 S p t∧Grew w w4∧w.heap.size+3<=w4.heap.size):=by
  refine⟨hR4,((hk4 w3.heap.size).block _ (by have:=A3.out.2.2.2.2;omega) (by omega)).trans A3.out.2.1,A3.out.2.2.1.keep fun k hk=>(hk4 w3.heap.size).block k (by have:=HT.out.2 k hk;have:=A3.out.2.2.2.2;omega) (by have:=HT.out.2 k hk;omega),A3.out.2.2.2.1.trans ⟨(hk4 0).os,(hk4 0).output,(hk4 0).size,fun k hk _=>(hk4 w3.heap.size).block k (by have:=A3.out.2.2.2.2;omega) (by omega)⟩,lY A3.out.2.2.2.2 (hk4 0).size⟩
 go_wp2;apply HK3.out;refine wp_seq_k ?_;intro K4 hK4;have HK4:Hid (∀a w,_->K4 a w):=hK4;clear hK4;have y11:w4.cell? ⟨w.heap.size+1+1,11,none⟩=some (.int .i64 0):=A4.out.1.get_state;have z11:=A4.out.1.frozen 11;go_wp2_with fail;refine(zAb (w.heap.size+1+1) w4 _ A4.out.1 S t A4.out.2.2.1 lQ (by show(1:Nat)<=4;decide) ok.nmode).mono ?_;rintro e w5 ⟨rfl,ha5⟩;have y11':w5.cell? ⟨w.heap.size+1+1,11,none⟩=some (.int .i64 0):=(ha5.cell _).trans y11;have z11':w5.frozen? ⟨w.heap.size+1+1,11,none⟩=false:=(ha5.frozen _).trans z11;clear y11 z11;go_wp2_with fail;apply HK4.out;clear HK4;obtain⟨w6,hw6,A6⟩:∃w6,w6=w5.setCell ⟨w.heap.size+1+1,11,none⟩ (.int .i64 (t.start 0:Nat))∧Hid (zK w6 (w.heap.size+1+1) {Rs.zero p with stack:=fun _=>0,depth:=1,state:=t.start 0} (.slice none 0 0)∧w6.heap[w.heap.size]? =some (.cells zeroCells102 102 (0,0))∧Grew w w6∧w.heap.size+3<=w6.heap.size):=by
  have hR:=(A4.out.1.alike ha5).set_state (t.start 0);rw[show (fun j=>if j=0 then 0 else 0:Nat->Nat)=fun _=>0 from funext fun j=>by split <;> rfl] at hR;refine⟨_,rfl,hR,(lJ _ _ _ _ (by show w.heap.size≠w.heap.size+1+1;omega)).trans ((by rw[ha5.1]:w5.heap[w.heap.size]? =w4.heap[w.heap.size]?).trans A4.out.2.1),(A4.out.2.2.2.1.trans (Keep.alike ha5)).trans (zLH _ _ _ _ (by omega)),?_⟩;have:=A4.out.2.2.2.2;rw[<-ha5.1] at this;simpa[World.setCell] using this
 rw[<-hw6];clear hw6 y11' z11' ha5 A4;obtain⟨hR6,hZ6,hK6,hS6⟩:=A6.out;obtain⟨ty,c,hg6,hc85,hcat⟩:=hR6;have hone:=zGt _ (.slice none 0 0) rfl c hc85 hcat
 clear A6;have HCA:Hid (∀i,i<85->c[i]? =some (({Rs.zero p with stack:=fun _=>0,depth:=1,state:=t.start 0}:Rs).cells (.slice none 0 0) i)):=hcat
 have HG6:Hid (w6.heap[w.heap.size+1+1]? =some (.cells c ty (0,0))):=hg6;have HZ6:Hid (w6.heap[w.heap.size]? =some (.cells zeroCells102 102 (0,0))):=hZ6;have HON:Hid (c.all (·.oneCell')=true):=hone;clear hcat hg6 hZ6 hone;go_wp2_with fail;refine wp_load_row 102 (.tmp 4) rfl (w.heap.size+1+1) rfl ty c (0,0) _ HG6.out underlying102 rfl (by rw[hc85];exact zG3) ?_;have hs3:(storeCells ⟨w.heap.size,0,none⟩ c.toList).run prog w6=.ok () (w6.setRow w.heap.size c):=by
  have h:=run_storeCells_from (P:=prog) w.heap.size 102 c.toList 0 zeroCells102 w6 HZ6.out (by rw[zCc];simp[hc85]) (fun v hv=>(Array.all_eq_true_iff_forall_mem.1 HON.out) v (by simpa using hv));simpa using h
 go_wp2_with fail;have hg7:(w6.setRow w.heap.size c).heap[w.heap.size]? =some (.cells c 102 (0,0)):=by
  unfold World.setRow;simp[lU,HZ6.out]
 have hl2:(loadVar 102 ⟨w.heap.size,0,none⟩).run prog (w6.setRow w.heap.size c)=.ok (.agg c) (w6.setRow w.heap.size c):=run_loadVar_row _ _ 102 102 c (0,0) _ hg7 underlying102 rfl (by rw[hc85];exact zG3);refine bodyPost_ret (v:=.agg c) ?_ rfl ⟨c,rfl,hc85,HCA.out,hK6.trans ?_⟩
 ·unfold results
  rw[results49];simp[hl2,asAddr,Sem.run_bind,Sem.run_pure]
 ·refine⟨rfl,rfl,by simp[World.setRow],fun k hk _=>?_⟩
  unfold World.setRow;simp[lU];intro e;omega
end Go.Proofs.YtbjcfkdnjaiclaaGreat
