import Derived.Deep.LoopGhost
import Derived.Deep.RegionWith
import Derived.Test.YtbjcfkdnjaiclaaGreatB0
import Derived.Test.YtbjcfkdnjaiclaaGreatB2
import Derived.Test.YtbjcfkdnjaiclaaGreatB35
/- Parts of the proof, in order. -/
set_option linter.unusedVariables false
set_option linter.unusedSimpArgs false
set_option maxHeartbeats 4000000
set_option maxRecDepth 100000
namespace Go.Proofs.YtbjcfkdnjaiclaaGreat
open Go.RowKit Go.Proofs.Tryz Go.World
structure Ev where
 kind:Int
 rule:Int
 from_:Int
 to:Int
 line:Int
 col:Int
def Ev.cells (e:Ev):List Value:=vF e.kind e.rule e.from_ e.to e.line e.col
def zX (es:List Ev):List Value:=es.flatMap Ev.cells
theorem xQ (es:List Ev)(e:Ev):zX (es++[e])=zX es++e.cells:=by simp[zX]
abbrev Cv (H b:Nat)(S:Nat->Prop)(t:Tb)(w:World)(r:Rs)(v0:Value)(es:List Ev):Prop:=Cx H b S t w r v0 es.length (zX es)
structure Rs.Ok (r:Rs)(t:Tb):Prop where
 d1:1<=r.depth
 d4:r.depth<=4
 st:∀j,j<r.depth->r.stack j<t.nmode
 state:r.state<t.nst
 first:r.first<64
 count:r.count<=64
 bytes:∀j,j<64->r.byte j<256
def Rs.lastEv (r:Rs)(kind:Int):Ev:=⟨kind,0,r.bAt,r.bAt,r.bLine,r.bCol⟩
def Rs.moved (r:Rs)(t:Tb)(rule:Nat):Rs:=
 if t.act rule=3 then{r with depth:=r.depth-1}
 else if t.act rule=2 then{r with stack:=fun j=>if j=r.depth then t.push rule else r.stack j,depth:=r.depth+1}
 else r
def Rs.tok (r:Rs)(t:Tb)(rule eAt eLine eCol:Nat):Rs×List Ev:=
 if t.act rule=2∧r.depth=4 then({r with opn:=false},[r.lastEv 4])
 else if t.act rule=3∧r.depth=1 then({r with opn:=false},[r.lastEv 5])
 else({r.moved t rule with bAt:=eAt,bLine:=eLine,bCol:=eCol,state:=t.start ((r.moved t rule).stack ((r.moved t rule).depth-1))},
  if t.act rule=1 then[] else[⟨1,rule,r.bAt,eAt,r.bLine,r.bCol⟩])
theorem zDQ (b H:Nat)(S:Nat->Prop)(t:Tb)(w:World)(r:Rs){v0:Value}(es:List Ev)(hC:Cv H b S t w r v0 es)(hn:es.length<=4194304)
  (rule eAt eLine eCol:Nat) (hr:rule<t.nrule) (ha:t.act rule<4) (ok:t.Ok) (hok:r.Ok t):
  Calls prog 156 #[.pointer (some ⟨b,0,none⟩),.int .i64 rule,.agg #[.int .i64 eAt,.int .i64 eLine,.int .i64 eCol]] w fun e w'=>
   e=.returned (.tuple #[])∧∃v,Cv H b S t w' (r.tok t rule eAt eLine eCol).1 v (es++(r.tok t rule eAt eLine eCol).2)∧Keep H b w w':=by
 have d1:=hok.d1;have d4:=hok.d4;by_cases h2:t.act rule=2∧r.depth=4
 ·refine(zIq b H S t w r v0 _ _ hC hn rule eAt eLine eCol hr h2.1 h2.2).mono ?_
  rintro e w' ⟨rfl,ao,cap,hC',hk⟩;refine⟨rfl,.slice ao (es.length+1) cap,?_,hk⟩;unfold Rs.tok Cv;rw[if_pos h2,xQ,List.length_append];exact hC'
 ·by_cases h3:t.act rule=3∧r.depth=1
  ·refine(zHg b H S t w r v0 _ _ hC hn rule eAt eLine eCol hr h3.1 h3.2).mono ?_
   rintro e w' ⟨rfl,ao,cap,hC',hk⟩;refine⟨rfl,.slice ao (es.length+1) cap,?_,hk⟩;unfold Rs.tok Cv;rw[if_neg h2,if_pos h3,xQ,List.length_append];exact hC'
  ·by_cases a1:t.act rule=1
   ·refine(zIo b H S t w r v0 _ _ hC rule eAt eLine eCol hr a1 d1 d4 (hok.st _ (by omega))).mono ?_
    rintro e w' ⟨rfl,hC',hk⟩;refine⟨rfl,v0,?_,hk⟩;unfold Rs.tok Cv Rs.moved;rw[if_neg h2,if_neg h3,if_neg (by omega),if_neg (by omega),if_pos a1,List.append_nil];exact hC'
   ·by_cases a2:t.act rule=2
    ·refine(zIp b H S t w r v0 _ _ hC hn rule eAt eLine eCol hr a2 d1 (by omega) (ok.push _ hr)).mono ?_
     rintro e w' ⟨rfl,ao,cap,hC',hk⟩;refine⟨rfl,.slice ao (es.length+1) cap,?_,hk⟩;unfold Rs.tok Cv Rs.moved;rw[if_neg h2,if_neg h3,if_neg (by omega),if_pos a2,if_neg a1,xQ,List.length_append];simpa[Ev.cells] using hC'
    ·by_cases a3:t.act rule=3
     ·refine(zJT b H S t w r v0 _ _ hC hn rule eAt eLine eCol hr a3 (by omega) d4 (hok.st _ (by omega))).mono ?_
      rintro e w' ⟨rfl,ao,cap,hC',hk⟩;refine⟨rfl,.slice ao (es.length+1) cap,?_,hk⟩;unfold Rs.tok Cv Rs.moved;rw[if_neg h2,if_neg h3,if_pos a3,if_neg a1,xQ,List.length_append];exact hC'
     ·refine(zIr b H S t w r v0 _ _ hC hn rule eAt eLine eCol hr (by omega) d1 d4 (hok.st _ (by omega))).mono ?_
      rintro e w' ⟨rfl,ao,cap,hC',hk⟩;refine⟨rfl,.slice ao (es.length+1) cap,?_,hk⟩;unfold Rs.tok Cv Rs.moved;rw[if_neg h2,if_neg h3,if_neg a3,if_neg a2,if_neg a1,xQ,List.length_append];exact hC'
def Rs.fin (r:Rs)(t:Tb):Rs×List Ev:=
 if t.ends r.state≠-1∧t.longer r.ahead r.state=false then r.tok t (t.ends r.state).toNat r.hAt r.hLine r.hCol
 else if t.live r.state=false then({r with opn:=false},[r.lastEv 3])
 else(r,[])
theorem zFW (b H:Nat)(S:Nat->Prop)(t:Tb)(w0 w:World)(r:Rs){v0:Value}(es:List Ev)(hC:Cv H b S t w r v0 es)(hn:es.length<=4194304)(hok:r.Ok t)(hk:Keep H b w0 w)
  (f:Rs×List Ev) (hf:f=if t.live r.state=false then({r with opn:=false},[r.lastEv 3]) else(r,[]))
  {u1 u2 u3 u4 u5 u6 u7 u8 u9 u10 u11 u12 u13 u14 u15 u16 u17 u18 u19 u20 u21 u22 u23 u24 u25 u26 u27 u28 u29 u30 u31 u32 u33 u34 u35 u36 u37 u38 u39 u40 u41 u42 u43 u44 u45 u46 u47 u48 u49 u50 u51 u52 u53 u54 u55 u56 u57 u58 u59 u60 u61 u62 u63 u65 u66 u67 u68 u69 u70 u71 u72 u73 u74 u75 u76 u77 u78 u79 u80 u81 u82 u83 u84 u85 u86 u87:Value}:
  Code.wp prog (yQ 6 ((f109.body).getD .skip)) (bodyPost prog f109 fun e w'=>
   e=.returned (.tuple #[])∧∃v,Cv H b S t w' f.1 v (es++f.2)∧Keep H b w0 w')
   ⟨(.pointer (some ⟨b,0,none⟩)::u1::u2::u3::u4::u5::u6::u7::u8::u9::u10::u11::u12::u13::u14::u15::u16::u17::u18::u19::u20::u21::u22::u23::u24::u25::u26::u27::u28::u29::u30::u31::u32::u33::u34::u35::u36::u37::u38::u39::u40::u41::u42::u43::u44::u45::u46::u47::u48::u49::u50::u51::u52::u53::u54::u55::u56::u57::u58::u59::u60::u61::u62::u63:: .bool false::u65::u66::u67::u68::u69::u70::u71::u72::u73::u74::u75::u76::u77::u78::u79::u80::u81::u82::u83::u84::u85::u86::u87::[]).toArray,[]⟩ w:=by
 conv=>arg 2;whnf
 have HC:=vl hC;have HK0:=vl hk;have HF:=vl hf;have y0:w.cell? ⟨b,0,none⟩=some (.pointer (some ⟨r.tp,0,none⟩)):=HC.out.run.get_tp;have y11:w.cell? ⟨b,11,none⟩=some (.int .i64 r.state):=HC.out.run.get_state;obtain⟨_,h10,b10,o10,cap10,hb10,rfl,hcap10,hml10,hL10⟩:=HC.out.tab.c10;have hst:=hok.state;have hx10:w.cell? ⟨b10,o10+r.state,none⟩=some (.bool (t.live r.state)):=hL10 _ hst;have i1:(r.state:Int)<(t.nst:Int):=by omega
 cases hl:t.live r.state
 ·rw[hl] at hx10
  go_wp2;go_quiet (fail);go_wp2_with fail;refine(qY b H S t 3 _ r v0 _ _ (Cx.alike (w':=w.drewN nq) HC.out ⟨rfl,rfl,rfl⟩) hn).mono ?_;rintro e w2 ⟨rfl,ao,cap,c2,k2⟩;have C2:=vl c2;go_wp2;go_end0;refine⟨rfl,.slice ao (es.length+1) cap,?_,(HK0.out.trans (Keep.alike (w':=w.drewN nq) ⟨rfl,rfl,rfl⟩)).trans k2⟩;rw[HF.out,if_pos hl];unfold Cv;rw[xQ,List.length_append];exact C2.out
 ·rw[hl] at hx10
  go_wp2;go_quiet (fail);go_wp2;go_end0;refine⟨rfl,v0,?_,HK0.out.trans (Keep.alike (w':=w.drewN nq) ⟨rfl,rfl,rfl⟩)⟩;rw[HF.out,if_neg (by rw[hl];decide),List.append_nil];exact Cx.alike (w':=w.drewN nq) HC.out ⟨rfl,rfl,rfl⟩
theorem zKX (b H:Nat)(S:Nat->Prop)(t:Tb)(w0 w:World)(r:Rs){v0:Value}(es:List Ev)(hC:Cv H b S t w r v0 es)(hn:es.length<=4194304)(ok:t.Ok)(hact:∀i,i<t.nrule->t.act i<4)(hok:r.Ok t)(hk:Keep H b w0 w)(hE:¬t.ends r.state=-1)
  (f:Rs×List Ev) (hf:f=r.tok t (t.ends r.state).toNat r.hAt r.hLine r.hCol)
  {u1 u2 u4 u5 u6 u7 u8 u9 u10 u11 u12 u13 u14 u15 u16 u17 u18 u19 u20 u21 u22 u23 u24 u25 u26 u27 u28 u29 u30 u31 u32 u33 u34 u35 u36 u37 u38 u39 u40 u41 u42 u43 u44 u45 u46 u47 u48 u49 u50 u51 u52 u53 u54 u55 u56 u57 u58 u59 u60 u61 u62 u63 u65 u66 u67 u68 u69 u70 u71 u72 u73 u74 u75 u76 u77 u78 u79 u80 u81 u82 u83 u84 u85 u86 u87:Value}:
  Code.wp prog (yQ 6 ((f109.body).getD .skip)) (bodyPost prog f109 fun e w'=>
   e=.returned (.tuple #[])∧∃v,Cv H b S t w' f.1 v (es++f.2)∧Keep H b w0 w')
   ⟨(.pointer (some ⟨b,0,none⟩)::u1::u2:: .int .i64 (t.ends r.state)::u4::u5::u6::u7::u8::u9::u10::u11::u12::u13::u14::u15::u16::u17::u18::u19::u20::u21::u22::u23::u24::u25::u26::u27::u28::u29::u30::u31::u32::u33::u34::u35::u36::u37::u38::u39::u40::u41::u42::u43::u44::u45::u46::u47::u48::u49::u50::u51::u52::u53::u54::u55::u56::u57::u58::u59::u60::u61::u62::u63:: .bool true::u65::u66::u67::u68::u69::u70::u71::u72::u73::u74::u75::u76::u77::u78::u79::u80::u81::u82::u83::u84::u85::u86::u87::[]).toArray,[]⟩ w:=by
 conv=>arg 2;whnf
 obtain⟨e1,e2⟩:=ok.ends r.state hok.state;obtain⟨k,hk0⟩:=Int.eq_ofNat_of_zero_le (show 0<=t.ends r.state by omega);have hkr:k<t.nrule:=by omega
 rw[hk0] at hf ⊢;rw[Int.toNat_natCast] at hf;have HC:=vl hC;have HK0:=vl hk;have HF:=vl hf;have y78:=HC.out.run.get_hAt;have y79:=HC.out.run.get_hLine;have y80:=HC.out.run.get_hCol;go_wp2_with fail;refine(zDQ b H S t _ r es HC.out hn k r.hAt r.hLine r.hCol hkr (hact k hkr) ok hok).mono ?_;rintro e w2 ⟨rfl,v,c2,k2⟩;rw[<-HF.out] at c2;have C2:=vl c2;go_wp2;go_end0;exact⟨rfl,v,C2.out,HK0.out.trans k2⟩
theorem zJ0 (b H:Nat)(S:Nat->Prop)(t:Tb)(w0 w:World)(r:Rs){v0:Value}(es:List Ev)(hC:Cv H b S t w r v0 es)(hn:es.length<=4194304)(ok:t.Ok)(hact:∀i,i<t.nrule->t.act i<4)(hok:r.Ok t)(ha:r.ahead<t.rows)(hk:Keep H b w0 w)
  {u1 u2 u3 u4 u5 u6 u7 u8 u9 u10 u11 u12 u13 u14 u15 u16 u17 u18 u19 u20 u21 u22 u23 u24 u25 u26 u27 u28 u29 u30 u31 u32 u33 u34 u35 u36 u37 u38 u39 u40 u41 u42 u43 u44 u45 u46 u47 u48 u49 u50 u51 u52 u53 u54 u55 u56 u57 u58 u59 u60 u61 u62 u63 u64 u65 u66 u67 u68 u69 u70 u71 u72 u73 u74 u75 u76 u77 u78 u79 u80 u81 u82 u83 u84 u85 u86 u87:Value}:
  Code.wp prog (yQ 4 ((f109.body).getD .skip)) (bodyPost prog f109 fun e w'=>
   e=.returned (.tuple #[])∧∃v,Cv H b S t w' (r.fin t).1 v (es++(r.fin t).2)∧Keep H b w0 w')
   ⟨(.pointer (some ⟨b,0,none⟩)::u1::u2::u3::u4::u5::u6::u7::u8::u9::u10::u11::u12::u13::u14::u15::u16::u17::u18::u19::u20::u21::u22::u23::u24::u25::u26::u27::u28::u29::u30::u31::u32::u33::u34::u35::u36::u37::u38::u39::u40::u41::u42::u43::u44::u45::u46::u47::u48::u49::u50::u51::u52::u53::u54::u55::u56::u57::u58::u59::u60::u61::u62::u63::u64::u65::u66::u67::u68::u69::u70::u71::u72::u73::u74::u75::u76::u77::u78::u79::u80::u81::u82::u83::u84::u85::u86::u87::[]).toArray,[]⟩ w:=by
 conv=>arg 2;whnf
 have HC:=vl hC;have HK0:=vl hk;refine wp_cut ?_;intro K H4;have y0:w.cell? ⟨b,0,none⟩=some (.pointer (some ⟨r.tp,0,none⟩)):=HC.out.run.get_tp;have y11:w.cell? ⟨b,11,none⟩=some (.int .i64 r.state):=HC.out.run.get_state;obtain⟨_,h9,b9,o9,cap9,hb9,rfl,hcap9,hml9,hL9⟩:=HC.out.tab.c9;have hst:=hok.state;have hx9:w.cell? ⟨b9,o9+r.state,none⟩=some (.int .i64 (t.ends r.state)):=hL9 _ hst;have i1:(r.state:Int)<(t.nst:Int):=by omega
 go_wp2;go_quiet (fail);go_wp2;refine H4.out _ _ ?_;clear H4 hx9 h9 y0 y11;obtain⟨w1,hw1,c1,k1⟩:∃w1,w1=w.drewN nq∧Hid (Cv H b S t w1 r v0 es)∧Hid (Keep H b w0 w1):=⟨_,rfl,Cx.alike (w':=w.drewN nq) HC.out ⟨rfl,rfl,rfl⟩,HK0.out.trans (Keep.alike ⟨rfl,rfl,rfl⟩)⟩
 rw[<-hw1];clear hw1 HC HK0;refine wp_cut ?_;intro K H5;have y0:w1.cell? ⟨b,0,none⟩=some (.pointer (some ⟨r.tp,0,none⟩)):=c1.out.run.get_tp;have y11:w1.cell? ⟨b,11,none⟩=some (.int .i64 r.state):=c1.out.run.get_state;have y81:w1.cell? ⟨b,81,none⟩=some (.int .i64 r.ahead):=c1.out.run.get_ahead;have tbn:Hid (∀n,TabAt (w1.drewN n) S r.tp t):=fun n=>(Cx.alike (w':=w1.drewN n) c1.out ⟨rfl,rfl,rfl⟩).tab;by_cases hE:t.ends r.state=-1
 ·have hB:(t.ends r.state != -1)=false:=by rw[hE];rfl
  have hf:Hid (r.fin t=if t.live r.state=false then({r with opn:=false},[r.lastEv 3]) else(r,[])):=by show r.fin t=_;unfold Rs.fin;rw[if_neg (fun h=>h.1 hE)]
  clear hE;go_wp2;go_quiet (fail);go_wp2;refine H5.out _ _ ?_;clear H5;exact zFW b H S t w0 _ r es (Cx.alike (w':=w1.drewN nq) c1.out ⟨rfl,rfl,rfl⟩) hn hok (k1.out.trans (Keep.alike (w':=w1.drewN nq) ⟨rfl,rfl,rfl⟩)) _ hf.out
 ·have hB:(t.ends r.state != -1)=true:=by rw[bne_iff_ne];exact hE
  cases hL:t.longer r.ahead r.state
  ·go_wp2
   go_quiet ((go_at_call 155;exact Calls.quiet_of_same (zD2 r.tp _ S t (tbn.out _) ok r.ahead r.state ha hst)));go_wp2;refine H5.out _ _ ?_;clear H5;exact zKX b H S t w0 _ r es (Cx.alike (w':=w1.drewN nq) c1.out ⟨rfl,rfl,rfl⟩) hn ok hact hok (k1.out.trans (Keep.alike (w':=w1.drewN nq) ⟨rfl,rfl,rfl⟩)) hE _ (by unfold Rs.fin;rw[if_pos ⟨hE,hL⟩])
  ·have hf:Hid (r.fin t=if t.live r.state=false then({r with opn:=false},[r.lastEv 3]) else(r,[])):=by show r.fin t=_;unfold Rs.fin;rw[if_neg (fun h=>by rw[hL] at h;exact absurd h.2 (by decide))]
   go_wp2;go_quiet ((go_at_call 155;exact Calls.quiet_of_same (zD2 r.tp _ S t (tbn.out _) ok r.ahead r.state ha hst)));go_wp2;refine H5.out _ _ ?_;clear H5;exact zFW b H S t w0 _ r es (Cx.alike (w':=w1.drewN nq) c1.out ⟨rfl,rfl,rfl⟩) hn hok (k1.out.trans (Keep.alike (w':=w1.drewN nq) ⟨rfl,rfl,rfl⟩)) _ hf.out
def Rs.here1 (r:Rs)(c:Nat):Rs:={r with hAt:=r.hAt+1,hLine:=zAk c r.hLine,hCol:=zBW c r.hCol}
def Rs.took (r:Rs)(t:Tb):Rs:=
 {(({r with first:=(r.first+1)%64,count:=r.count-1}:Rs).here1 (r.byte r.first)) with state:=t.next r.state (t.kind (r.byte r.first))}
def Rs.step (r:Rs)(t:Tb):Rs×List Ev:=(r.took t).fin t
theorem Rs.took_ok (r:Rs)(t:Tb)(ok:t.Ok)(h:r.Ok t):(r.took t).Ok t:=
 ⟨h.d1,h.d4,h.st,ok.next _ _ h.state (ok.kind _ (h.bytes _ h.first)),Nat.mod_lt _ (by decide),Nat.le_trans (Nat.sub_le _ _) h.count,h.bytes⟩
theorem zHj (b H:Nat)(S:Nat->Prop)(t:Tb)(w:World)(r:Rs){v0:Value}(es:List Ev)(hC:Cv H b S t w r v0 es)(hn:es.length<=4194304)(ok:t.Ok)(hact:∀i,i<t.nrule->t.act i<4)(hok:r.Ok t)(hc:1<=r.count)(ha:r.ahead<t.rows)
  (p1:r.hAt<2147483648) (p2:r.hLine<2147483648) (p3:r.hCol<2147483648):
  Calls prog 109 #[.pointer (some ⟨b,0,none⟩)] w fun e w'=>
   e=.returned (.tuple #[])∧∃v,Cv H b S t w' (r.step t).1 v (es++(r.step t).2)∧Keep H b w w':=by
 have HC:=vl hC;go_in;refine wp_cut ?_;intro K H0;go_wp2_with fail;refine(zId b 0 _ r HC.out.run hok.first (by omega)).mono ?_;rintro e w1 ⟨rfl,ha1⟩;have c1:=vl <| HC.out.alike ha1;have k1:Hid (Keep H b w w1):=Keep.alike ha1;have hcb:=hok.bytes r.first hok.first
 rw[show (r.first+0)%64=r.first by have:=hok.first;omega];generalize hc0:r.byte r.first=c at *
 have Hc0:=vl hc0;go_wp2;refine H0.out _ _ ?_;refine wp_cut ?_;intro K H1;go_wp2_with fail;refine(zFi b 1 _ r c1.out.run hok.first hc hok.count).mono ?_;rintro e w2 ⟨rfl,hR2,hk2⟩;have c2:Hid (Cv H b S t w2 {r with first:=(r.first+1)%64,count:=r.count-1} v0 es):=c1.out.kept hk2 hR2 rfl;have k2:Hid (Keep H b w w2):=k1.out.trans (hk2 H);clear hk2 hR2 k1 c1;go_wp2_with fail;refine H1.out _ _ ?_;clear H1;refine wp_seq_k ?_;intro K hK;have H2:Hid (∀a w,_->K a w):=hK;clear hK;have x78:=c2.out.run.get_hAt;have x79:=c2.out.run.get_hLine;have x80:=c2.out.run.get_hCol;go_wp2_with fail;refine(zDh r.hAt r.hLine r.hCol c _ p1 p2 p3 hcb).mono ?_;rintro e w3 ⟨rfl,hb3⟩;have c3:Hid (Cv H b S t w3 {r with first:=(r.first+1)%64,count:=r.count-1} v0 es):=c2.out.below hb3;have k3:Hid (Keep H b w w3):=k2.out.trans (Keep.below hb3 c2.out.HH);clear hb3 c2 k2 x78 x79 x80;have x78:=c3.out.run.get_hAt;have x79:=c3.out.run.get_hLine;have x80:=c3.out.run.get_hCol;have z78:=c3.out.run.frozen 78;have z79:=c3.out.run.frozen 79;have z80:=c3.out.run.frozen 80;go_wp2_with fail;refine H2.out _ _ ?_;clear H2 x78 x79 x80 z78 z79 z80;obtain⟨w4,hw4,c4,k4⟩:∃w4,w4=((w3.setCell ⟨b,78,none⟩ (.int .i64 ((r.hAt:Int)+1))).setCell ⟨b,79,none⟩ (.int .i64 (zAk c r.hLine:Nat))).setCell ⟨b,80,none⟩ (.int .i64 (zBW c r.hCol:Nat))∧
   Hid (Cv H b S t w4 (({r with first:=(r.first+1)%64,count:=r.count-1}:Rs).here1 c) v0 es)∧Hid (Keep H b w w4):=by
  have d1:=Cx.stored c3.out 78 _ (c3.out.run.set_hAt (r.hAt+1)) rfl;have d2:=d1.stored 79 _ (d1.run.set_hLine (zAk c r.hLine)) rfl;have d3:=d2.stored 80 _ (d2.run.set_hCol (zBW c r.hCol)) rfl;exact⟨_,rfl,d3,((k3.out.trans (Keep.set _ _ _)).trans (Keep.set _ _ _)).trans (Keep.set _ _ _)⟩
 rw[<-hw4];clear hw4 c3 k3;refine wp_seq_k ?_;intro K hK;have H3:Hid (∀a w,_->K a w):=hK;clear hK;have y0:w4.cell? ⟨b,0,none⟩=some (.pointer (some ⟨r.tp,0,none⟩)):=c4.out.run.get_tp;have y11:w4.cell? ⟨b,11,none⟩=some (.int .i64 r.state):=c4.out.run.get_state;have z11:=c4.out.run.frozen 11;have tb4:Hid (TabAt w4.drew S r.tp t):=(Cx.alike (w':=w4.drew) c4.out ⟨rfl,rfl,rfl⟩).tab;go_wp2_with fail;go_region_with ((go_at_call 154;go_must ((refine (zEE r.tp _ S t tb4.out ok r.state c hok.state hcb).mono ?_;rintro e w5 ⟨rfl,ha5⟩;have q11:w5.cell? ⟨b,11,none⟩=some (.int .i64 r.state):=(ha5.cell ⟨b,11,none⟩).trans y11;have z5:w5.frozen? ⟨b,11,none⟩=false:=(ha5.frozen ⟨b,11,none⟩).trans z11))))
 all_goals
  have c5:Hid (Cv H b S t w5 (({r with first:=(r.first+1)%64,count:=r.count-1}:Rs).here1 c) v0 es):=Cx.alike c4.out ha5;have k5:Hid (Keep H b w w5):=k4.out.trans (Keep.alike ha5);have c6:Hid (Cv H b S t (w5.setCell ⟨b,11,none⟩ (.int .i64 (t.next r.state (t.kind c):Nat))) (r.took t) v0 es):=by
   have h:=Cx.stored c5.out 11 _ (c5.out.run.set_state (t.next r.state (t.kind c))) rfl;show Cv H b S t _ (r.took t) v0 es;unfold Rs.took;rw[Hc0.out];exact h
  clear c4 k4 tb4 ha5 c5;go_wp2_with fail;refine H3.out _ _ ?_;exact zJ0 b H S t w _ (r.took t) es c6.out hn ok hact (r.took_ok t ok hok) ha (k5.out.trans (Keep.set _ _ _))
structure Rs.Same (s r:Rs):Prop where
 count:s.count=r.count
 first:s.first=r.first
 byte:s.byte=r.byte
 hAt:s.hAt=r.hAt
 hLine:s.hLine=r.hLine
 hCol:s.hCol=r.hCol
 ahead:s.ahead=r.ahead
 tp:s.tp=r.tp
theorem Rs.tok_same (r:Rs)(t:Tb)(rule a l c:Nat):(r.tok t rule a l c).1.Same r:=by
 unfold Rs.tok Rs.moved;split
 ·exact⟨rfl,rfl,rfl,rfl,rfl,rfl,rfl,rfl⟩
 ·split
  ·exact⟨rfl,rfl,rfl,rfl,rfl,rfl,rfl,rfl⟩
  ·split
   ·exact⟨rfl,rfl,rfl,rfl,rfl,rfl,rfl,rfl⟩
   ·split <;> exact⟨rfl,rfl,rfl,rfl,rfl,rfl,rfl,rfl⟩
theorem Rs.tok_one (r:Rs)(t:Tb)(rule a l c:Nat):(r.tok t rule a l c).2.length<=1:=by
 unfold Rs.tok;split
 ·exact Nat.le_refl _
 ·split
  ·exact Nat.le_refl _
  ·show(if t.act rule=1 then[] else[_]:List Ev).length<=1
   split <;> simp
theorem Rs.tok_ok (r:Rs)(t:Tb)(rule a l c:Nat)(ok:t.Ok)(h:r.Ok t)(hr:rule<t.nrule):(r.tok t rule a l c).1.Ok t:=by
 unfold Rs.tok;split
 ·exact⟨h.d1,h.d4,h.st,h.state,h.first,h.count,h.bytes⟩
 ·split
  ·exact⟨h.d1,h.d4,h.st,h.state,h.first,h.count,h.bytes⟩
  ·rename_i h2 h3
   have d1:=h.d1;have d4:=h.d4;have key:1<=(r.moved t rule).depth∧(r.moved t rule).depth<=4∧∀j,j<(r.moved t rule).depth->(r.moved t rule).stack j<t.nmode:=by
    unfold Rs.moved;split
    ·exact⟨by show 1<=r.depth-1;omega,by show r.depth-1<=4;omega,fun j hj=>h.st j (by have:j<r.depth-1:=hj;omega)⟩
    ·split
     ·refine⟨by show 1<=r.depth+1;omega,by show r.depth+1<=4;omega,fun j hj=>?_⟩
      have hj':j<r.depth+1:=hj;show(if j=r.depth then t.push rule else r.stack j)<t.nmode;split
      ·exact ok.push _ hr
      ·exact h.st j (by omega)
     ·exact⟨d1,d4,h.st⟩
   obtain⟨k1,k2,k3⟩:=key;have hs:=r.tok_same t rule a l c;unfold Rs.tok at hs;rw[if_neg h2,if_neg h3] at hs;exact⟨k1,k2,k3,ok.start _ (k3 _ (by omega)),by rw[hs.first];exact h.first,by rw[hs.count];exact h.count,by rw[hs.byte];exact h.bytes⟩
theorem Rs.fin_same (r:Rs)(t:Tb):(r.fin t).1.Same r:=by
 unfold Rs.fin;split
 ·exact r.tok_same t _ _ _ _
 ·split <;> exact⟨rfl,rfl,rfl,rfl,rfl,rfl,rfl,rfl⟩
theorem Rs.fin_one (r:Rs)(t:Tb):(r.fin t).2.length<=1:=by
 unfold Rs.fin;split
 ·exact r.tok_one t _ _ _ _
 ·split <;> simp
theorem Rs.fin_ok (r:Rs)(t:Tb)(ok:t.Ok)(h:r.Ok t):(r.fin t).1.Ok t:=by
 have he:=ok.ends r.state h.state;unfold Rs.fin;split
 ·rename_i hx
  exact r.tok_ok t _ _ _ _ ok h (by have:=hx.1;omega)
 ·split
  ·exact⟨h.d1,h.d4,h.st,h.state,h.first,h.count,h.bytes⟩
  ·exact h
theorem Cx.boxed {H b:Nat}{S:Nat->Prop}{t:Tb}{w:World}{r:Rs}{v0:Value}{n:Nat}{xs:List Value}(h:Cx H b S t w r v0 n xs)(g i:Nat)(x:Value)(hg:H<=g)(hne:v0.ownBlock≠some g):Cx H b S t (w.setCell ⟨g,i,none⟩ x) r v0 n xs:=by
 have hbH:=h.bH;refine⟨h.run.of_block (Below.heap_setCell _ _ _ _ (by show b≠g;omega)),⟨h.own.1,h.own.2.imp id ?_⟩,h.tab.keep fun k hk=>Below.heap_setCell _ _ _ _ (by have:=(h.safe k hk).1;show k≠g;omega),hbH,by simpa[World.setCell] using h.HH,h.safe⟩;rintro⟨g',cap,cur,hv,hb',hh,rest⟩;refine⟨g',cap,cur,hv,hb',(Below.heap_setCell _ _ _ _ ?_).trans hh,rest⟩;intro e;have e':=e;rw[hv,e'] at hne;exact hne rfl
theorem Keep.boxed {H b:Nat}(w:World)(g i:Nat)(x:Value)(hg:H<=g):Keep H b w (w.setCell ⟨g,i,none⟩ x):=
 ⟨rfl,rfl,by simp[World.setCell],fun k h1 _=>Below.heap_setCell _ _ _ _ (by show k≠g;omega)⟩
def Rs.cut (r:Rs):Rs:={r with first:=(r.first+r.length)%64,count:=r.count-r.length,taken:=0,length:=0}
theorem zKj (b H:Nat)(S:Nat->Prop)(t:Tb)(w0 w:World)(r:Rs){v0:Value}(es:List Ev)(hC:Cv H b S t w r v0 es)(hn:es.length<=4194304)(ok:t.Ok)(hact:∀i,i<t.nrule->t.act i<4)(hok:r.Ok t)(hl:r.length<=r.count)(k:Nat)(hrule:r.rule=k)(hkr:k<t.nrule)(hk:Keep H b w0 w)
  (g eA eL eC:Nat) (hg:H<=g) (hgb:w.heap[g]? =some (.cells #[.int .i64 eA,.int .i64 eL,.int .i64 eC] 97)) (f:Rs×List Ev) (hf:f=r.cut.tok t k eA eL eC)
  {u1 u3 u4 u5 u6 u7 u8 u9 u10 u11 u12 u13 u14 u15 u16 u17 u18 u19 u20 u21 u22 u23 u24 u25 u26 u27 u28 u29 u30 u31 u32 u33 u34 u35 u36 u37 u38 u39 u40 u41 u42 u43 u44 u45 u46 u47 u48 u49 u50:Value}:
  Code.wp prog (yQ 3 ((f119.body).getD .skip)) (bodyPost prog f119 fun e w'=>
   e=.returned (.tuple #[])∧∃v,Cv H b S t w' f.1 v (es++f.2)∧Keep H b w0 w')
   ⟨(.pointer (some ⟨b,0,none⟩)::u1:: .pointer (some ⟨g,0,none⟩)::u3::u4::u5::u6::u7::u8::u9::u10::u11::u12::u13::u14::u15::u16::u17::u18::u19::u20::u21::u22::u23::u24::u25::u26::u27::u28::u29::u30::u31::u32::u33::u34::u35::u36::u37::u38::u39::u40::u41::u42::u43::u44::u45::u46::u47::u48::u49::u50::[]).toArray,[]⟩ w:=by
 conv=>arg 2;whnf
 have HC:=vl hC;have HK0:=vl hk;have HF:=vl hf;have HG:=vl hgb;have HR:=vl hrule;have y83:=HC.out.run.get_length;have hgne:g≠b:=by have:=HC.out.bH;omega
 refine wp_cut ?_;intro K H7;go_wp2;go_region_with ((go_at_call 152;go_must ((refine (zFi b r.length _ r (Cx.alike (w':=w.drew) HC.out ⟨rfl,rfl,rfl⟩).run hok.first hl hok.count).mono ?_;rintro e w1 ⟨rfl,hR1,hk1⟩))))
 all_goals
  have c1:=vl <| Cx.kept (Cx.alike (w':=w.drew) HC.out ⟨rfl,rfl,rfl⟩) hk1 hR1 rfl;have k1:=vl <| (HK0.out.trans (Keep.drew _)).trans (hk1 H);have g1:=vl <| ((hk1 (g+1)).block g (by omega) hgne).trans HG.out;go_wp2;refine H7.out _ _ ?_;have y82:=c1.out.run.get_taken;have y83:=c1.out.run.get_length;have y84:w1.cell? ⟨b,84,none⟩=some (.int .i64 k):=by rw[<-HR.out];exact c1.out.run.get_rule
  have z82:=c1.out.run.frozen 82;have z83:=c1.out.run.frozen 83;have x0:w1.cell? ⟨g,0,none⟩=some (.int .i64 eA):=by simp[World.cell?,g1.out]
  have x1:w1.cell? ⟨g,1,none⟩=some (.int .i64 eL):=by simp[World.cell?,g1.out]
  have x2:w1.cell? ⟨g,2,none⟩=some (.int .i64 eC):=by simp[World.cell?,g1.out]
  go_wp2;obtain⟨w2,hw2,c2,k2,g2⟩:∃w2,w2=(w1.setCell ⟨b,82,none⟩ (.int .i64 0)).setCell ⟨b,83,none⟩ (.int .i64 0)∧Hid (Cv H b S t w2 r.cut v0 es)∧Hid (Keep H b w0 w2)∧Hid (w2.heap[g]? =some (.cells #[.int .i64 eA,.int .i64 eL,.int .i64 eC] 97)):=by
   have d1:=Cx.stored c1.out 82 _ (c1.out.run.set_taken 0) rfl;have d2:=d1.stored 83 _ (d1.run.set_length 0) rfl;exact⟨_,rfl,d2,(k1.out.trans (Keep.set _ _ _)).trans (Keep.set _ _ _),((Below.heap_setCell _ _ _ _ (by exact hgne)).trans (Below.heap_setCell _ _ _ _ (by exact hgne))).trans g1.out⟩
  rw[<-hw2];clear hw2 c1 k1 g1 y82 y83 y84 z82 z83 x0 x1 x2;have y84:w2.cell? ⟨b,84,none⟩=some (.int .i64 k):=by rw[<-HR.out];exact c2.out.run.get_rule
  have x0:w2.cell? ⟨g,0,none⟩=some (.int .i64 eA):=by simp[World.cell?,g2.out]
  have x1:w2.cell? ⟨g,1,none⟩=some (.int .i64 eL):=by simp[World.cell?,g2.out]
  have x2:w2.cell? ⟨g,2,none⟩=some (.int .i64 eC):=by simp[World.cell?,g2.out]
  have hok2:r.cut.Ok t:=⟨hok.d1,hok.d4,hok.st,hok.state,Nat.mod_lt _ (by decide),Nat.le_trans (Nat.sub_le _ _) hok.count,hok.bytes⟩
  go_region_with ((go_at_call 156;go_must ((refine (zDQ b H S t _ r.cut es (Cx.alike (w':=w2.drew) c2.out ⟨rfl,rfl,rfl⟩) hn k eA eL eC hkr (hact k hkr) ok hok2).mono ?_;rintro e w3 ⟨rfl,v3,c3,k3⟩))))
  all_goals
   have C3:Hid (Cv H b S t w3 f.1 v3 (es++f.2)):=by show Cv H b S t w3 f.1 v3 (es++f.2);rw[HF.out];exact c3
   go_wp2;go_end0;exact⟨rfl,v3,C3.out,(k2.out.trans (Keep.drew _)).trans k3⟩
def Rs.lineTo (r:Rs):Nat->Nat
 |0=>r.bLine
 |i+1=>zAk (r.byte ((r.first+i)%64)) (r.lineTo i)
def Rs.colTo (r:Rs):Nat->Nat
 |0=>r.bCol
 |i+1=>zBW (r.byte ((r.first+i)%64)) (r.colTo i)
theorem Rs.lineTo_le (r:Rs)(i:Nat):r.lineTo i<=r.bLine+i:=by
 induction i with
 |zero=>exact Nat.le_refl _
 |succ i ih=>simp only[Rs.lineTo];unfold zAk;split <;> omega
theorem Rs.colTo_le (r:Rs)(i:Nat):r.colTo i<=r.bCol+i+1:=by
 induction i with
 |zero=>exact Nat.le_succ _
 |succ i ih=>simp only[Rs.colTo];unfold zBW;split <;> omega
theorem zKk (b H:Nat)(S:Nat->Prop)(t:Tb)(w0 w:World)(r:Rs){v0:Value}(es:List Ev)(hC:Cv H b S t w r v0 es)(hn:es.length<=4194304)(ok:t.Ok)(hact:∀i,i<t.nrule->t.act i<4)(hok:r.Ok t)(hl:r.length<=r.count)(k:Nat)(hrule:r.rule=k)(hkr:k<t.nrule)(hk:Keep H b w0 w)
  (p1:r.bAt+64<2147483648) (p2:r.bLine+64<2147483648) (p3:r.bCol+65<2147483648)
  (g:Nat) (hg:H<=g) (hne:v0.ownBlock≠some g) (hgb:w.heap[g]? =some (.cells #[.int .i64 r.bAt,.int .i64 r.bLine,.int .i64 r.bCol] 97)) (f:Rs×List Ev) (hf:f=r.cut.tok t k (r.bAt+r.length) (r.lineTo r.length) (r.colTo r.length))
  {u1 u3 u4 u5 u6 u7 u8 u9 u10 u11 u12 u13 u14 u15 u16 u17 u18 u19 u20 u21 u22 u23 u24 u25 u26 u27 u28 u29 u30 u31 u32 u33 u34 u35 u36 u37 u38 u39 u40 u41 u42 u43 u44 u45 u46 u47 u48 u49 u50:Value}:
  Code.wp prog (yQ 2 ((f119.body).getD .skip)) (bodyPost prog f119 fun e w'=>
   e=.returned (.tuple #[])∧∃v,Cv H b S t w' f.1 v (es++f.2)∧Keep H b w0 w')
   ⟨(.pointer (some ⟨b,0,none⟩)::u1:: .pointer (some ⟨g,0,none⟩)::u3::u4::u5::u6::u7::u8::u9::u10::u11::u12::u13::u14::u15::u16::u17::u18::u19::u20::u21::u22::u23::u24::u25::u26::u27::u28::u29::u30::u31::u32::u33::u34::u35::u36::u37::u38::u39::u40::u41::u42::u43::u44::u45::u46::u47::u48::u49::u50::[]).toArray,[]⟩ w:=by
 conv=>arg 2;whnf
 refine wp_seq_k ?_;intro K hK0;have HK:Hid (∀a w,_->K a w):=hK0;have HC:Hid (Cv H b S t w r v0 es):=hC;have HK0:Hid (Keep H b w0 w):=hk;have HF:Hid (f=r.cut.tok t k (r.bAt+r.length) (r.lineTo r.length) (r.colTo r.length)):=hf;have HG:Hid (w.heap[g]? =some (.cells #[.int .i64 r.bAt,.int .i64 r.bLine,.int .i64 r.bCol] 97)):=hgb;have HR:Hid (r.rule=k):=hrule;have hcnt:=hok.count;clear hC hk hf hgb hrule hK0;go_wp2_with fail;go_loopg [3] r.length (fun q i wr=>∃(j A L C:Nat),q=r.length-j∧j<=r.length∧i=.int .i64 (j:Int)∧A=r.bAt+j∧L=r.lineTo j∧C=r.colTo j∧Cv H b S t wr r v0 es∧Keep H b w0 wr∧wr.heap[g]? =some (.cells #[.int .i64 A,.int .i64 L,.int .i64 C] 97))
 case atStart=>exact⟨0,r.bAt,r.bLine,r.bCol,rfl,Nat.zero_le _,rfl,rfl,rfl,rfl,HC.out,HK0.out,HG.out⟩
 case round=>
  obtain⟨j,A,L,C,hgk,hj,rfl,hA,hL,hCc,hC',hk',hgb'⟩:=hrel;have AA:Hid (gk=r.length-j∧A=r.bAt+j∧L=r.lineTo j∧C=r.colTo j∧Cv H b S t wr r v0 es∧Keep H b w0 wr∧wr.heap[g]? =some (.cells #[.int .i64 A,.int .i64 L,.int .i64 C] 97)):=⟨hgk,hA,hL,hCc,hC',hk',hgb'⟩
  have q1:=r.lineTo_le j;have q2:=r.colTo_le j;have a1:A<2147483648:=by omega
  have a2:L<2147483648:=by omega
  have a3:C<2147483648:=by omega
  have y83:wr.cell? ⟨b,83,none⟩=some (.int .i64 r.length):=hC'.run.get_length;have x0:wr.cell? ⟨g,0,none⟩=some (.int .i64 A):=by simp[World.cell?,hgb']
  have x1:wr.cell? ⟨g,1,none⟩=some (.int .i64 L):=by simp[World.cell?,hgb']
  have x2:wr.cell? ⟨g,2,none⟩=some (.int .i64 C):=by simp[World.cell?,hgb']
  have fz:Hid (∀i,wr.frozen? ⟨g,i,none⟩=false):=fun i=>by simp[World.frozen?,hgb']
  have hgs:g<wr.heap.size:=(Array.getElem?_eq_some_iff.1 hgb').1;clear hgk hA hL hCc hC' hk' hgb' q1 q2;by_cases hjl:j<r.length
  ·have hl1:(j:Int)<(r.length:Int):=by omega
   have hcb:=hok.bytes ((r.first+j)%64) (Nat.mod_lt _ (by decide));have HL:Hid (r.lineTo (j+1)=zAk (r.byte ((r.first+j)%64)) (r.lineTo j)∧r.colTo (j+1)=zBW (r.byte ((r.first+j)%64)) (r.colTo j)):=⟨rfl,rfl⟩
   have HAT:Hid (Calls prog 151 #[.pointer (some ⟨b,12,none⟩),.int .i64 j] wr.drew fun e w'=>e=.returned (.int .u8 (r.byte ((r.first+j)%64)))∧w'.Alike wr.drew):=zId b j _ r (Cx.alike (w':=wr.drew) AA.out.2.2.2.2.1 ⟨rfl,rfl,rfl⟩).run hok.first (by omega)
   generalize r.byte ((r.first+j)%64)=c at *;go_wp2_with fail;go_region_with ((first|(go_at_call 151;go_must ((refine Calls.mono HAT.out ?_;rintro e w5 ⟨rfl,ha5⟩;have m0:w5.cell? ⟨g,0,none⟩=some (.int .i64 A):=(ha5.cell ⟨g,0,none⟩).trans x0;have m1:w5.cell? ⟨g,1,none⟩=some (.int .i64 L):=(ha5.cell ⟨g,1,none⟩).trans x1;have m2:w5.cell? ⟨g,2,none⟩=some (.int .i64 C):=(ha5.cell ⟨g,2,none⟩).trans x2)))|(go_at_call 153;go_must ((refine (zDh A L C c _ a1 a2 a3 hcb).mono ?_;rintro e w6 ⟨rfl,hb6⟩;have hg5:g<w5.heap.size:=Nat.lt_of_lt_of_eq hgs (congrArg Array.size ha5.1).symm;have n0:w6.cell? ⟨g,0,none⟩=some (.int .i64 A):=(hb6.cell (p:=⟨g,0,none⟩) hg5).trans m0;have n1:w6.cell? ⟨g,1,none⟩=some (.int .i64 L):=(hb6.cell (p:=⟨g,1,none⟩) hg5).trans m1;have n2:w6.cell? ⟨g,2,none⟩=some (.int .i64 C):=(hb6.cell (p:=⟨g,2,none⟩) hg5).trans m2;have o0:w6.frozen? ⟨g,0,none⟩=false:=(hb6.frozen (p:=⟨g,0,none⟩) hg5).trans ((ha5.frozen ⟨g,0,none⟩).trans (fz.out 0));have o1:w6.frozen? ⟨g,1,none⟩=false:=(hb6.frozen (p:=⟨g,1,none⟩) hg5).trans ((ha5.frozen ⟨g,1,none⟩).trans (fz.out 1));have o2:w6.frozen? ⟨g,2,none⟩=false:=(hb6.frozen (p:=⟨g,2,none⟩) hg5).trans ((ha5.frozen ⟨g,2,none⟩).trans (fz.out 2)))))))
   all_goals
    have h5:w5.heap[g]? =wr.heap[g]? :=congrArg (fun h=>h[g]?) ha5.1;have h6:w6.heap[g]? =some (.cells #[.int .i64 A,.int .i64 L,.int .i64 C] 97):=(hb6.block g hg5).trans (h5.trans AA.out.2.2.2.2.2.2);have c5:=Cx.alike AA.out.2.2.2.2.1 ha5;have c6:=Cx.below c5 hb6;have C7:Hid (Cv H b S t (((w6.setCell ⟨g,0,none⟩ (.int .i64 ((A:Int)+1))).setCell ⟨g,1,none⟩ (.int .i64 (zAk c L:Nat))).setCell ⟨g,2,none⟩ (.int .i64 (zBW c C:Nat))) r v0 es∧
      Keep H b w0 (((w6.setCell ⟨g,0,none⟩ (.int .i64 ((A:Int)+1))).setCell ⟨g,1,none⟩ (.int .i64 (zAk c L:Nat))).setCell ⟨g,2,none⟩ (.int .i64 (zBW c C:Nat)))∧
      (((w6.setCell ⟨g,0,none⟩ (.int .i64 ((A:Int)+1))).setCell ⟨g,1,none⟩ (.int .i64 (zAk c L:Nat))).setCell ⟨g,2,none⟩ (.int .i64 (zBW c C:Nat))).heap[g]? =some (.cells #[.int .i64 ((A+1:Nat):Int),.int .i64 (zAk c L:Nat),.int .i64 (zBW c C:Nat)] 97)):=by
     refine⟨((Cx.boxed c6 g 0 _ hg hne).boxed g 1 _ hg hne).boxed g 2 _ hg hne,((((AA.out.2.2.2.2.2.1.trans (Keep.alike ha5)).trans (Keep.below hb6 c5.HH)).trans (Keep.boxed _ g 0 _ hg)).trans (Keep.boxed _ g 1 _ hg)).trans (Keep.boxed _ g 2 _ hg),?_⟩;simp[setCell,Array.getElem?_modify,h6]
    clear h5 h6 c5 c6 hb6 ha5;go_wp2_with fail;go_roundg (r.length-(j+1))
    case measure=>rw[AA.out.1];omega
    case rel=>exact⟨j+1,A+1,zAk c L,zBW c C,rfl,by omega,congrArg (Value.int IntKind.i64) (by omega),by rw[AA.out.2.1];omega,by rw[HL.out.1,AA.out.2.2.1],by rw[HL.out.2,AA.out.2.2.2.1],C7.out.1,C7.out.2.1,C7.out.2.2⟩
  ·have hl1:(r.length:Int)<=(j:Int):=by omega
   have hje:Hid (j=r.length):=by show j=_;omega
   go_wp2_with fail;refine HK.out _ _ ?_;obtain⟨_,hA,hL,hCc,hC',hk',hgb'⟩:=AA.out;exact zKj b H S t w0 _ r es hC' hn ok hact hok hl k HR.out hkr hk' g A L C hg hgb' f (by rw[HF.out,hA,hL,hCc,hje.out])
def Rs.long (r:Rs)(t:Tb):Rs×List Ev:=
 if r.length=0 then({r with opn:=false},[r.lastEv 3])
 else r.cut.tok t r.rule.toNat (r.bAt+r.length) (r.lineTo r.length) (r.colTo r.length)
theorem zAW (b H:Nat)(S:Nat->Prop)(t:Tb)(w:World)(r:Rs){v0:Value}(es:List Ev)(hC:Cv H b S t w r v0 es)(hn:es.length<=4194304)(ok:t.Ok)(hact:∀i,i<t.nrule->t.act i<4)(hok:r.Ok t)(hl:r.length<=r.count)(hrule:r.length=0∨(0<=r.rule∧r.rule<t.nrule))
  (p1:r.bAt+64<2147483648) (p2:r.bLine+64<2147483648) (p3:r.bCol+65<2147483648):
  Calls prog 119 #[.pointer (some ⟨b,0,none⟩)] w fun e w'=>
   e=.returned (.tuple #[])∧∃v,Cv H b S t w' (r.long t).1 v (es++(r.long t).2)∧Keep H b w w':=by
 have HC:=vl hC;have y83:=hC.run.get_length;by_cases h0:r.length=0
 ·have hb:((r.length:Int)==0)=true:=by rw[beq_iff_eq];omega
  have HF:Hid (r.long t=({r with opn:=false},[r.lastEv 3])):=by show r.long t=_;unfold Rs.long;rw[if_pos h0]
  go_in;go_wp2_with fail;refine(qY b H S t 3 _ r v0 _ _ HC.out hn).mono ?_;rintro e w2 ⟨rfl,ao,cap,c2,k2⟩;have C2:=vl c2;go_wp2;refine bodyPost_ret (results_none rfl _ _ _) rfl ?_;refine⟨rfl,.slice ao (es.length+1) cap,?_,k2⟩;rw[HF.out];unfold Cv;rw[xQ,List.length_append];exact C2.out
 ·have hb:((r.length:Int)==0)=false:=by rw[beq_eq_false_iff_ne];omega
  obtain⟨k,hk0⟩:=Int.eq_ofNat_of_zero_le (show 0<=r.rule by omega);have hkr:k<t.nrule:=by omega
  have HR:=vl hk0;have HF:Hid (r.long t=r.cut.tok t k (r.bAt+r.length) (r.lineTo r.length) (r.colTo r.length)):=by show r.long t=_;unfold Rs.long;rw[if_neg h0,hk0];rfl
  have y8:=HC.out.run.get_bAt;have y9:=HC.out.run.get_bLine;have y10:=HC.out.run.get_bCol;go_in;refine wp_cut ?_;intro K H0;go_wp2;refine H0.out _ _ ?_;refine wp_cut ?_;intro K H1;go_wp2;refine H1.out _ _ ?_;exact zKk b H S t w _ r es (Cx.alloc HC.out _) hn ok hact hok hl k HR.out hkr (Keep.alloc _ _ HC.out.HH) p1 p2 p3 w.heap.size HC.out.HH (fun e=>by have:=(HC.out.own.lt _ e).2;omega) (heap_alloc_new w _) _ HF.out
def Rs.ate (r:Rs)(t:Tb):Rs:={r with taken:=r.taken+1,state:=t.next r.state (t.kind (r.byte ((r.first+r.taken)%64)))}
def Rs.marked (r:Rs)(t:Tb):Rs:=if t.ends r.state=-1 then r else{r with rule:=t.ends r.state,length:=r.taken}
def Rs.judged (r:Rs)(t:Tb):Rs×List Ev:=if t.live r.state then(r,[]) else r.long t
def Rs.heldStep (r:Rs)(t:Tb):Rs×List Ev:=((r.ate t).marked t).judged t
def Rs.heldN (r:Rs)(t:Tb):Nat->Rs×List Ev
 |0=>(r,[])
 |n+1=>if(r.heldN t n).1.taken<(r.heldN t n).1.count∧(r.heldN t n).1.opn=true then(((r.heldN t n).1.heldStep t).1,(r.heldN t n).2++((r.heldN t n).1.heldStep t).2) else r.heldN t n
structure Rs.Oth (r:Rs)(t:Tb)(P:Nat):Prop where
 ok:r.Ok t
 len:r.length<=r.taken
 tak:r.taken<=r.count
 rule:r.length=0∨(0<=r.rule∧r.rule<t.nrule)
 pos:r.bAt+r.count<=P
 line:r.bLine<=r.bAt+1
 col1:1<=r.bCol
 col:r.bCol<=r.bAt+1
def xB (b:Bool):Nat:=if b then 1 else 0
def Rs.todo (r:Rs):Nat:=r.count*65+(r.count-r.taken)
theorem Rs.colTo_le2 (r:Rs)(h:1<=r.bCol)(i:Nat):1<=r.colTo i∧r.colTo i<=r.bCol+i:=by
 induction i with
 |zero=>exact⟨h,Nat.le_refl _⟩
 |succ i ih=>simp only[Rs.colTo];unfold zBW;split <;> omega
theorem Rs.ate_oth (r:Rs)(t:Tb)(P:Nat)(ok:t.Ok)(h:r.Oth t P)(hl:r.taken<r.count):(r.ate t).Oth t P:=
 ⟨⟨h.ok.d1,h.ok.d4,h.ok.st,ok.next _ _ h.ok.state (ok.kind _ (h.ok.bytes _ (Nat.mod_lt _ (by decide)))),h.ok.first,h.ok.count,h.ok.bytes⟩,Nat.le_succ_of_le h.len,hl,h.rule,h.pos,h.line,h.col1,h.col⟩
theorem Rs.marked_oth (r:Rs)(t:Tb)(P:Nat)(ok:t.Ok)(h:r.Oth t P):(r.marked t).Oth t P:=by
 unfold Rs.marked;split
 ·exact h
 ·rename_i he
  have e:=ok.ends r.state h.ok.state;exact⟨⟨h.ok.d1,h.ok.d4,h.ok.st,h.ok.state,h.ok.first,h.ok.count,h.ok.bytes⟩,Nat.le_refl _,h.tak,.inr ⟨by show 0<=t.ends r.state;omega,by show t.ends r.state<t.nrule;omega⟩,h.pos,h.line,h.col1,h.col⟩
theorem Rs.marked_same (r:Rs)(t:Tb):(r.marked t).count=r.count∧(r.marked t).taken=r.taken∧(r.marked t).opn=r.opn∧(r.marked t).state=r.state:=by
 unfold Rs.marked;split <;> exact⟨rfl,rfl,rfl,rfl⟩
theorem Rs.tok_opn (r:Rs)(t:Tb)(rule a l c:Nat):((r.tok t rule a l c).1.opn=r.opn∨(r.tok t rule a l c).2≠[])∧((r.tok t rule a l c).1.opn=true->r.opn=true)∧((r.tok t rule a l c).1.taken=r.taken∧(r.tok t rule a l c).1.length=r.length)∧(((r.tok t rule a l c).1.bAt=r.bAt∧(r.tok t rule a l c).1.bLine=r.bLine∧(r.tok t rule a l c).1.bCol=r.bCol∧(r.tok t rule a l c).1.opn=false)∨((r.tok t rule a l c).1.bAt=a∧(r.tok t rule a l c).1.bLine=l∧(r.tok t rule a l c).1.bCol=c)):=by
 unfold Rs.tok Rs.moved;split
 ·exact⟨.inr (by simp),(fun h=>by cases h),⟨rfl,rfl⟩,.inl ⟨rfl,rfl,rfl,rfl⟩⟩
 ·split
  ·exact⟨.inr (by simp),(fun h=>by cases h),⟨rfl,rfl⟩,.inl ⟨rfl,rfl,rfl,rfl⟩⟩
  ·split
   ·exact⟨.inl rfl,id,⟨rfl,rfl⟩,.inr ⟨rfl,rfl,rfl⟩⟩
   ·split <;> exact⟨.inl rfl,id,⟨rfl,rfl⟩,.inr ⟨rfl,rfl,rfl⟩⟩
theorem Rs.long_inv (r:Rs)(t:Tb)(P:Nat)(ok:t.Ok)(h:r.Oth t P)(ho:r.opn=true)(hc:1<=r.count):
  (r.long t).1.Oth t P∧(r.long t).2.length+(r.long t).1.count+xB (r.long t).1.opn<=r.count+1∧((r.long t).1.opn=true∨(r.long t).2≠[])∧((r.long t).1.count<r.count∨((r.long t).1.opn=false∧(r.long t).1.count=r.count∧(r.long t).1.taken=r.taken)):=by
 unfold Rs.long;have hlt:=h.len;have htk:=h.tak;split
 ·refine⟨⟨⟨h.ok.d1,h.ok.d4,h.ok.st,h.ok.state,h.ok.first,h.ok.count,h.ok.bytes⟩,h.len,h.tak,h.rule,h.pos,h.line,h.col1,h.col⟩,?_,.inr (by simp),.inr ⟨rfl,rfl,rfl⟩⟩
  show 1+r.count+0<=r.count+1;omega
 ·rename_i h0
  have hrule:=h.rule.resolve_left h0;have hr:r.rule.toNat<t.nrule:=by omega
  have hcut:r.cut.Ok t:=⟨h.ok.d1,h.ok.d4,h.ok.st,h.ok.state,Nat.mod_lt _ (by decide),Nat.le_trans (Nat.sub_le _ _) h.ok.count,h.ok.bytes⟩
  have hk:=r.cut.tok_ok t r.rule.toNat (r.bAt+r.length) (r.lineTo r.length) (r.colTo r.length) ok hcut hr;have hs:=r.cut.tok_same t r.rule.toNat (r.bAt+r.length) (r.lineTo r.length) (r.colTo r.length)
  have h1:=r.cut.tok_one t r.rule.toNat (r.bAt+r.length) (r.lineTo r.length) (r.colTo r.length)
  obtain⟨o1,o2,⟨o3,o4⟩,o5⟩:=r.cut.tok_opn t r.rule.toNat (r.bAt+r.length) (r.lineTo r.length) (r.colTo r.length)
  generalize r.cut.tok t r.rule.toNat (r.bAt+r.length) (r.lineTo r.length) (r.colTo r.length)=f at *;have e1:f.1.count=r.count-r.length:=hs.count;have e2:f.1.taken=0:=o3;have e3:f.1.length=0:=o4;have hp:=h.pos;have hl:=h.line;have hc1:=h.col1;have hc2:=h.col;have q1:=r.lineTo_le r.length;have q2:=r.colTo_le2 hc1 r.length;refine⟨⟨hk,by omega,by omega,.inl e3,?_,?_,?_,?_⟩,?_,?_,.inl (by omega)⟩
  ·rcases o5 with⟨e,_⟩|⟨e,_⟩
   ·have e':f.1.bAt=r.bAt:=e
    omega
   ·omega
  ·rcases o5 with⟨e,e5,_⟩|⟨e,e5,_⟩
   ·have e':f.1.bAt=r.bAt:=e
    have e6:f.1.bLine=r.bLine:=e5;omega
   ·omega
  ·rcases o5 with⟨_,_,e,_⟩|⟨_,_,e⟩
   ·have e':f.1.bCol=r.bCol:=e
    omega
   ·omega
  ·rcases o5 with⟨e,_,e5,_⟩|⟨e,_,e5⟩
   ·have e':f.1.bAt=r.bAt:=e
    have e6:f.1.bCol=r.bCol:=e5;omega
   ·omega
  ·have:xB f.1.opn<=1:=by unfold xB;split <;> omega
   omega
  ·rcases o1 with o1|o1
   ·left
    rw[o1];exact ho
   ·exact .inr o1
theorem Rs.held_inv (r:Rs)(t:Tb)(P:Nat)(ok:t.Ok)(h:r.Oth t P)(ho:r.opn=true)(hl:r.taken<r.count):
  (r.heldStep t).1.Oth t P∧(r.heldStep t).2.length+(r.heldStep t).1.count+xB (r.heldStep t).1.opn<=r.count+1∧((r.heldStep t).1.opn=true∨(r.heldStep t).2≠[])∧(r.heldStep t).1.todo<r.todo:=by
 have h1:=(r.ate t).marked_oth t P ok (r.ate_oth t P ok h hl);obtain⟨m1,m2,m3,m4⟩:=(r.ate t).marked_same t;have ho1:((r.ate t).marked t).opn=true:=by rw[m3];exact ho
 have c1:((r.ate t).marked t).count=r.count:=m1;have c2:((r.ate t).marked t).taken=r.taken+1:=m2;have h64:=h.ok.count;unfold Rs.heldStep Rs.judged;split
 ·refine⟨h1,?_,.inl ho1,?_⟩
  ·show 0+((r.ate t).marked t).count+xB ((r.ate t).marked t).opn<=r.count+1
   rw[ho1,c1];show 0+r.count+1<=r.count+1;omega
  ·show((r.ate t).marked t).todo<r.todo
   unfold Rs.todo;rw[c1,c2];omega
 ·obtain⟨a1,a2,a3,a4⟩:=((r.ate t).marked t).long_inv t P ok h1 ho1 (by omega)
  refine⟨a1,by rw[c1] at a2;exact a2,a3,?_⟩;unfold Rs.todo;have:=a1.tak;rcases a4 with a4|⟨_,a4,a5⟩
  ·rw[c1] at a4
   omega
  ·rw[a4,a5,c1,c2]
   omega
end Go.Proofs.YtbjcfkdnjaiclaaGreat
