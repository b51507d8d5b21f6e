import Derived.Deep.LoopGhost
import Derived.Test.YtbjcfkdnjaiclaaGreatS0
import Derived.Test.YtbjcfkdnjaiclaaGreatS3
import Derived.Test.YtbjcfkdnjaiclaaGreatS26
/- Parts of the proof. -/
set_option linter.unusedVariables false
set_option linter.unusedSimpArgs false
set_option maxHeartbeats 4000000
set_option maxRecDepth 100000
namespace Go.Proofs.YtbjcfkdnjaiclaaGreat
open Go.RowKit Go.Proofs.Tryz Go.World
open Go.Value (int slice bool pointer string agg tuple)
open Go.IntKind (i64)
open Go.Ending (returned)
def Rs.fin (r:Rs)(t:Tb):Rs×List Ev:=
 if t.ends r.state≠-1/\t.longer r.ahead r.state=false then r.tok t (t.ends r.state).toNat r.hAt r.hLine r.hCol
 else if t.live r.state=false then({r with opn:=false},[r.lastEv 3])
 else(r,[])
theorem zHg (b H:Nat)(S:Nat->Prop)(t:Tb)(g w:World)(r:Rs){v0:Value}(c:List Ev)(k:Cv H b S t w r v0 c)(l:c.length<=4194304)(m:r.Ok t)(o:Keep H b g w)
  (f:Rs×List Ev) (p:f=if t.live r.state=false then({r with opn:=false},[r.lastEv 3]) else(r,[]))
  {u1 u2 u3 u4 u5 u6 u7 u8 u9 u10 u11 u12 u13 u14 u15 u16 u17 u18 u19 u20 u21 u22 u23 u24 u25 u26 u27 u28 u29 u30 u31 u32 u33 u34 u35 u36 u37 u38 u39 u40 u41 u42 u43 u44 u45 u46 u47 u48 u49 u50 u51 u52 u53 u54 u55 u56 u57 u58 u59 u60 u61 u62 u63 u65 u66 u67 u68 u69 u70 u71 u72 u73 u74 u75 u76 u77 u78 u79 u80 u81 u82 u83 u84 u85 u86 u87:Value}:
  Code.wp prog (xO 6 ((f109.body).getD .skip)) (bodyPost prog f109 λe w'=>
   e=returned (tuple #[])/\∃v,Cv H b S t w' f.1 v (c++f.2)/\Keep H b g w')
   ⟨(pX b::u1::u2::u3::u4::u5::u6::u7::u8::u9::u10::u11::u12::u13::u14::u15::u16::u17::u18::u19::u20::u21::u22::u23::u24::u25::u26::u27::u28::u29::u30::u31::u32::u33::u34::u35::u36::u37::u38::u39::u40::u41::u42::u43::u44::u45::u46::u47::u48::u49::u50::u51::u52::u53::u54::u55::u56::u57::u58::u59::u60::u61::u62::u63::bool false::u65::u66::u67::u68::u69::u70::u71::u72::u73::u74::u75::u76::u77::u78::u79::u80::u81::u82::u83::u84::u85::u86::u87::[]).toArray,[]⟩ w:=by
 conv=>arg 2;whnf
 have a:=vl k;have h:=vl o;have i:=vl p;have A:cX w b 0=some (pX r.tp):=a.run.get_tp;have B:cX w b 11=some (iX r.state):=a.run.get_state;obtain⟨_,C,q,s,D,E,rfl,F,G,u⟩:=a.tab.c10;have x:=m.state;have j:cX w q (s+r.state)=some (bool (t.live r.state)):=u _ x;have I:(r.state:Int)<(t.nst:Int):=by omega
 cases d:t.live r.state
 ·rw[d] at j
  go_wp2;go_quiet (fail);go_wp2_with fail;refine(jD b H S t 3 _ r v0 _ _ (Cx.alike (w':=w.drewN nq) a ⟨rfl,rfl,rfl⟩) l).mono ?_;rintro e w2 ⟨rfl,ao,cap,c2,y⟩;have z:=vl c2;go_wp2;go_end0;refine⟨rfl,slice ao (c.length+1) cap,?_,(h.trans (Keep.alike (w':=w.drewN nq) ⟨rfl,rfl,rfl⟩)).trans y⟩;rw[i.out,if_pos d];unfold Cv;rw[yE,kX];exact z
 ·rw[d] at j
  go_wp2;go_quiet (fail);go_wp2;go_end0;refine⟨rfl,v0,?_,h.trans (Keep.alike (w':=w.drewN nq) ⟨rfl,rfl,rfl⟩)⟩;rw[i.out,if_neg (by rw[d];decide),gG];exact Cx.alike (w':=w.drewN nq) a ⟨rfl,rfl,rfl⟩
theorem zNM (b H:Nat)(S:Nat->Prop)(t:Tb)(g w:World)(r:Rs){v0:Value}(a:List Ev)(l:Cv H b S t w r v0 a)(m:a.length<=4194304)(ok:t.Ok)(o:∀i,i<t.nrule->t.act i<4)(h:r.Ok t)(p:Keep H b g w)(z:¬t.ends r.state=-1)
  (f:Rs×List Ev) (d:f=r.tok t (t.ends r.state).toNat r.hAt r.hLine r.hCol)
  {u1 u2 u4 u5 u6 u7 u8 u9 u10 u11 u12 u13 u14 u15 u16 u17 u18 u19 u20 u21 u22 u23 u24 u25 u26 u27 u28 u29 u30 u31 u32 u33 u34 u35 u36 u37 u38 u39 u40 u41 u42 u43 u44 u45 u46 u47 u48 u49 u50 u51 u52 u53 u54 u55 u56 u57 u58 u59 u60 u61 u62 u63 u65 u66 u67 u68 u69 u70 u71 u72 u73 u74 u75 u76 u77 u78 u79 u80 u81 u82 u83 u84 u85 u86 u87:Value}:
  Code.wp prog (xO 6 ((f109.body).getD .skip)) (bodyPost prog f109 λe w'=>
   e=returned (tuple #[])/\∃v,Cv H b S t w' f.1 v (a++f.2)/\Keep H b g w')
   ⟨(pX b::u1::u2::iX (t.ends r.state)::u4::u5::u6::u7::u8::u9::u10::u11::u12::u13::u14::u15::u16::u17::u18::u19::u20::u21::u22::u23::u24::u25::u26::u27::u28::u29::u30::u31::u32::u33::u34::u35::u36::u37::u38::u39::u40::u41::u42::u43::u44::u45::u46::u47::u48::u49::u50::u51::u52::u53::u54::u55::u56::u57::u58::u59::u60::u61::u62::u63::bool true::u65::u66::u67::u68::u69::u70::u71::u72::u73::u74::u75::u76::u77::u78::u79::u80::u81::u82::u83::u84::u85::u86::u87::[]).toArray,[]⟩ w:=by
 conv=>arg 2;whnf
 obtain⟨A,B⟩:=ok.ends r.state h.state;obtain⟨k,q⟩:=Int.eq_ofNat_of_zero_le (show 0<=t.ends r.state by omega);have j:k<t.nrule:=by omega
 rw[q] at d ⊢;rw[Int.toNat_natCast] at d;have c:=vl l;have s:=vl p;have u:=vl d;have C:=c.run.get_hAt;have D:=c.run.get_hLine;have E:=c.run.get_hCol;go_wp2_with fail;refine(zEY b H S t _ r a c m k r.hAt r.hLine r.hCol j (o k j) ok h).mono ?_;rintro e w2 ⟨rfl,v,c2,x⟩;rw[<-u.out] at c2;have y:=vl c2;go_wp2;go_end0;exact⟨rfl,v,y,s.trans x⟩
theorem zMz (b H:Nat)(S:Nat->Prop)(t:Tb)(c w:World)(r:Rs){v0:Value}(a:List Ev)(C:Cv H b S t w r v0 a)(l:a.length<=4194304)(ok:t.Ok)(D:∀i,i<t.nrule->t.act i<4)(j:r.Ok t)(q:r.ahead<t.rows)(E:Keep H b c w)
  {u1 u2 u3 u4 u5 u6 u7 u8 u9 u10 u11 u12 u13 u14 u15 u16 u17 u18 u19 u20 u21 u22 u23 u24 u25 u26 u27 u28 u29 u30 u31 u32 u33 u34 u35 u36 u37 u38 u39 u40 u41 u42 u43 u44 u45 u46 u47 u48 u49 u50 u51 u52 u53 u54 u55 u56 u57 u58 u59 u60 u61 u62 u63 u64 u65 u66 u67 u68 u69 u70 u71 u72 u73 u74 u75 u76 u77 u78 u79 u80 u81 u82 u83 u84 u85 u86 u87:Value}:
  Code.wp prog (xO 4 ((f109.body).getD .skip)) (bodyPost prog f109 λe w'=>
   e=returned (tuple #[])/\∃v,Cv H b S t w' (r.fin t).1 v (a++(r.fin t).2)/\Keep H b c w')
   ⟨(pX b::u1::u2::u3::u4::u5::u6::u7::u8::u9::u10::u11::u12::u13::u14::u15::u16::u17::u18::u19::u20::u21::u22::u23::u24::u25::u26::u27::u28::u29::u30::u31::u32::u33::u34::u35::u36::u37::u38::u39::u40::u41::u42::u43::u44::u45::u46::u47::u48::u49::u50::u51::u52::u53::u54::u55::u56::u57::u58::u59::u60::u61::u62::u63::u64::u65::u66::u67::u68::u69::u70::u71::u72::u73::u74::u75::u76::u77::u78::u79::u80::u81::u82::u83::u84::u85::u86::u87::[]).toArray,[]⟩ w:=by
 conv=>arg 2;whnf
 have g:=vl C;have s:=vl E;apply wp_cut;intro F u;have x:cX w b 0=some (pX r.tp):=g.run.get_tp;have y:cX w b 11=some (iX r.state):=g.run.get_state;obtain⟨_,G,I,J,O,P,rfl,Q,R,L⟩:=g.tab.c9;have m:=j.state;have M:cX w I (J+r.state)=some (iX (t.ends r.state)):=L _ m;have T:(r.state:Int)<(t.nst:Int):=by omega
 go_wp2;go_quiet (fail);go_wp2;apply u.out;clear u M G x y;obtain⟨w1,z,c1,o⟩:∃w1,w1=w.drewN nq/\Hid (Cv H b S t w1 r v0 a)/\Hid (Keep H b c w1):=⟨_,rfl,Cx.alike (w':=w.drewN nq) g ⟨rfl,rfl,rfl⟩,s.trans (Keep.alike ⟨rfl,rfl,rfl⟩)⟩
 rw[<-z];clear z g s;apply wp_cut;intro F d;have x:cX w1 b 0=some (pX r.tp):=c1.run.get_tp;have y:cX w1 b 11=some (iX r.state):=c1.run.get_state;have U:cX w1 b 81=some (iX r.ahead):=c1.run.get_ahead;have A:Hid (∀n,TabAt (w1.drewN n) S r.tp t):=λn=>(Cx.alike (w':=w1.drewN n) c1 ⟨rfl,rfl,rfl⟩).tab;by_cases f:t.ends r.state=-1
 ·have N:(t.ends r.state != -1)=false:=by rw[f];rfl
  have p:Hid (r.fin t=if t.live r.state=false then({r with opn:=false},[r.lastEv 3]) else(r,[])):=by show r.fin t=_;unfold Rs.fin;rw[if_neg (λk=>k.1 f)]
  clear f;go_wp2;go_quiet (fail);go_wp2;apply d.out;clear d;exact zHg b H S t c _ r a (Cx.alike (w':=w1.drewN nq) c1 ⟨rfl,rfl,rfl⟩) l j (o.trans (Keep.alike (w':=w1.drewN nq) ⟨rfl,rfl,rfl⟩)) _ p
 ·have N:(t.ends r.state != -1)=true:=by rw[bne_iff_ne];exact f
  cases B:t.longer r.ahead r.state
  ·go_wp2
   go_quiet ((go_at_call 155;exact Calls.quiet_of_same (zFa r.tp _ S t (A _) ok r.ahead r.state q m)));go_wp2;apply d.out;clear d;exact zNM b H S t c _ r a (Cx.alike (w':=w1.drewN nq) c1 ⟨rfl,rfl,rfl⟩) l ok D j (o.trans (Keep.alike (w':=w1.drewN nq) ⟨rfl,rfl,rfl⟩)) f _ (by unfold Rs.fin;rw[if_pos ⟨f,B⟩])
  ·have p:Hid (r.fin t=if t.live r.state=false then({r with opn:=false},[r.lastEv 3]) else(r,[])):=by show r.fin t=_;unfold Rs.fin;rw[if_neg (λk=>by rw[B] at k;exact absurd k.2 (by decide))]
   go_wp2;go_quiet ((go_at_call 155;exact Calls.quiet_of_same (zFa r.tp _ S t (A _) ok r.ahead r.state q m)));go_wp2;apply d.out;clear d;exact zHg b H S t c _ r a (Cx.alike (w':=w1.drewN nq) c1 ⟨rfl,rfl,rfl⟩) l j (o.trans (Keep.alike (w':=w1.drewN nq) ⟨rfl,rfl,rfl⟩)) _ p
def Rs.here1 (r:Rs)(c:Nat):Rs:={r with hAt:=r.hAt+1,hLine:=zAV c r.hLine,hCol:=zCL c r.hCol}
def Rs.took (r:Rs)(t:Tb):Rs:=
 {(({r with first:=(r.first+1)%64,count:=r.count-1}:Rs).here1 (r.byte r.first)) with state:=t.next r.state (t.kind (r.byte r.first))}
def Rs.step (r:Rs)(t:Tb):Rs×List Ev:=(r.took t).fin t
theorem Rs.took_ok (r:Rs)(t:Tb)(ok:t.Ok)(a:r.Ok t):(r.took t).Ok t:=
 ⟨a.d1,a.d4,a.st,ok.next _ _ a.state (ok.kind _ (a.bytes _ a.first)),hY _ (by decide),lY (Nat.sub_le _ _) a.count,a.bytes⟩
theorem zI7 (b H:Nat)(S:Nat->Prop)(t:Tb)(w:World)(r:Rs){v0:Value}(d:List Ev)(R:Cv H b S t w r v0 d)(T:d.length<=4194304)(ok:t.Ok)(U:∀i,i<t.nrule->t.act i<4)(g:r.Ok t)(V:1<=r.count)(W:r.ahead<t.rows)
  (X:r.hAt<2147483648) (Y:r.hLine<2147483648) (aa:r.hCol<2147483648):
  Calls prog 109 #[pX b] w λe w'=>
   e=returned (tuple #[])/\∃v,Cv H b S t w' (r.step t).1 v (d++(r.step t).2)/\Keep H b w w':=by
 have B:=vl R;go_in;apply wp_cut;intro l ab;go_wp2_with fail;refine(zKl b 0 _ r B.run g.first (by omega)).mono ?_;rintro e w1 ⟨rfl,C⟩;have c1:=vl <| B.alike C;have D:Hid (Keep H b w w1):=Keep.alike C;have E:=g.bytes r.first g.first
 rw[show (r.first+0)%64=r.first by have:=g.first;omega];generalize ac:r.byte r.first=c at *
 have ad:=vl ac;go_wp2;apply ab.out;apply wp_cut;intro l F;go_wp2_with fail;refine(zGA b 1 _ r c1.run g.first V g.count).mono ?_;rintro e w2 ⟨rfl,G,q⟩;have c2:Hid (Cv H b S t w2 {r with first:=(r.first+1)%64,count:=r.count-1} v0 d):=c1.kept q G rfl;have I:Hid (Keep H b w w2):=D.trans (q H);clear q G D c1;go_wp2_with fail;apply F.out;clear F;refine wp_seq_k ?_;intro l m;have J:Hid (∀a w,_->l a w):=m;clear m;have s:=c2.run.get_hAt;have u:=c2.run.get_hLine;have x:=c2.run.get_hCol;go_wp2_with fail;refine(zEk r.hAt r.hLine r.hCol c _ X Y aa E).mono ?_;rintro e y ⟨rfl,z⟩;have f:Hid (Cv H b S t y {r with first:=(r.first+1)%64,count:=r.count-1} v0 d):=c2.below z;have L:Hid (Keep H b w y):=I.trans (Keep.below z c2.HH);clear z c2 I s u x;have s:=f.run.get_hAt;have u:=f.run.get_hLine;have x:=f.run.get_hCol;have ae:=f.run.frozen 78;have af:=f.run.frozen 79;have ag:=f.run.frozen 80;go_wp2_with fail;apply J.out;clear J s u x ae af ag;obtain⟨j,M,k,N⟩:∃j,j=((y.setCell ⟨b,78,none⟩ (iX ((r.hAt:Int)+1))).setCell ⟨b,79,none⟩ (iX (zAV c r.hLine:Nat))).setCell ⟨b,80,none⟩ (iX (zCL c r.hCol:Nat))/\
   Hid (Cv H b S t j (({r with first:=(r.first+1)%64,count:=r.count-1}:Rs).here1 c) v0 d)/\Hid (Keep H b w j):=by
  have O:=Cx.stored f 78 _ (f.run.set_hAt (r.hAt+1)) rfl;have P:=O.stored 79 _ (O.run.set_hLine (zAV c r.hLine)) rfl;have ah:=P.stored 80 _ (P.run.set_hCol (zCL c r.hCol)) rfl;exact⟨_,rfl,ah,((L.trans (Keep.set _ _ _)).trans (Keep.set _ _ _)).trans (Keep.set _ _ _)⟩
 rw[<-M];clear M f L;refine wp_seq_k ?_;intro l m;have ai:Hid (∀a w,_->l a w):=m;clear m;have ao:cX j b 0=some (pX r.tp):=k.run.get_tp;have aj:cX j b 11=some (iX r.state):=k.run.get_state;have ak:=k.run.frozen 11;have Q:Hid (TabAt j.drew S r.tp t):=(Cx.alike (w':=j.drew) k ⟨rfl,rfl,rfl⟩).tab;go_wp2_with fail;go_region_with ((go_at_call 154;go_must ((refine (zFS r.tp _ S t Q ok r.state c g.state E).mono ?_;rintro e o ⟨rfl,p⟩;have ap:cX o b 11=some (iX r.state):=(p.cell ⟨b,11,none⟩).trans aj;have aq:o.frozen? ⟨b,11,none⟩=false:=(p.frozen ⟨b,11,none⟩).trans ak))))
 all_goals
  have A:Hid (Cv H b S t o (({r with first:=(r.first+1)%64,count:=r.count-1}:Rs).here1 c) v0 d):=Cx.alike k p;have al:Hid (Keep H b w o):=N.trans (Keep.alike p);have am:Hid (Cv H b S t (o.setCell ⟨b,11,none⟩ (iX (t.next r.state (t.kind c):Nat))) (r.took t) v0 d):=by
   have an:=Cx.stored A 11 _ (A.run.set_state (t.next r.state (t.kind c))) rfl;show Cv H b S t _ (r.took t) v0 d;unfold Rs.took;rw[ad.out];exact an
  clear k N Q p A;go_wp2_with fail;apply ai.out;exact zMz b H S t w _ (r.took t) d am T ok U (r.took_ok t ok g) W (al.trans (Keep.set _ _ _))
structure Rs.Same (s r:Rs):Prop where
 count:s.count=r.count
 first:s.first=r.first
 byte:s.byte=r.byte
 hAt:s.hAt=r.hAt
 hLine:s.hLine=r.hLine
 hCol:s.hCol=r.hCol
 ahead:s.ahead=r.ahead
 tp:s.tp=r.tp
theorem Rs.tok_same (r:Rs)(t:Tb)(rule a l c:Nat):(r.tok t rule a l c).1.Same r:=by
 unfold Rs.tok Rs.moved;split
 ·exact⟨rfl,rfl,rfl,rfl,rfl,rfl,rfl,rfl⟩
 ·split
  ·exact⟨rfl,rfl,rfl,rfl,rfl,rfl,rfl,rfl⟩
  ·split
   ·exact⟨rfl,rfl,rfl,rfl,rfl,rfl,rfl,rfl⟩
   ·split <;> exact⟨rfl,rfl,rfl,rfl,rfl,rfl,rfl,rfl⟩
theorem Rs.tok_one (r:Rs)(t:Tb)(rule a l c:Nat):(r.tok t rule a l c).2.length<=1:=by
 unfold Rs.tok;split
 ·exact lQ
 ·split
  ·exact lQ
  ·show(if t.act rule=1 then[] else[_]:List Ev).length<=1
   split <;> simp
theorem Rs.tok_ok (r:Rs)(t:Tb)(rule a l c:Nat)(ok:t.Ok)(b:r.Ok t)(g:rule<t.nrule):(r.tok t rule a l c).1.Ok t:=by
 unfold Rs.tok;split
 ·exact⟨b.d1,b.d4,b.st,b.state,b.first,b.count,b.bytes⟩
 ·split
  ·exact⟨b.d1,b.d4,b.st,b.state,b.first,b.count,b.bytes⟩
  ·rename_i i k
   have m:=b.d1;have o:=b.d4;have p:1<=(r.moved t rule).depth/\(r.moved t rule).depth<=4/\∀j,j<(r.moved t rule).depth->(r.moved t rule).stack j<t.nmode:=by
    unfold Rs.moved;split
    ·exact⟨by show 1<=r.depth-1;omega,by show r.depth-1<=4;omega,λj e=>b.st j (by have:j<r.depth-1:=e;omega)⟩
    ·split
     ·refine⟨by show 1<=r.depth+1;omega,by show r.depth+1<=4;omega,λj e=>?_⟩
      have u:j<r.depth+1:=e;show(if j=r.depth then t.push rule else r.stack j)<t.nmode;split
      ·exact ok.push _ g
      ·exact b.st j (by omega)
     ·exact⟨m,o,b.st⟩
   obtain⟨q,s,f⟩:=p;have d:=r.tok_same t rule a l c;unfold Rs.tok at d;rw[if_neg i,if_neg k] at d;exact⟨q,s,f,ok.start _ (f _ (by omega)),by rw[d.first];exact b.first,by rw[d.count];exact b.count,by rw[d.byte];exact b.bytes⟩
theorem Rs.fin_same (r:Rs)(t:Tb):(r.fin t).1.Same r:=by
 unfold Rs.fin;split
 ·exact r.tok_same t _ _ _ _
 ·split <;> exact⟨rfl,rfl,rfl,rfl,rfl,rfl,rfl,rfl⟩
theorem Rs.fin_one (r:Rs)(t:Tb):(r.fin t).2.length<=1:=by
 unfold Rs.fin;split
 ·exact r.tok_one t _ _ _ _
 ·split <;> simp
theorem Rs.fin_ok (r:Rs)(t:Tb)(ok:t.Ok)(a:r.Ok t):(r.fin t).1.Ok t:=by
 have c:=ok.ends r.state a.state;unfold Rs.fin;split
 ·rename_i b
  exact r.tok_ok t _ _ _ _ ok a (by have:=b.1;omega)
 ·split
  ·exact⟨a.d1,a.d4,a.st,a.state,a.first,a.count,a.bytes⟩
  ·exact a
theorem Cx.boxed {H b:Nat}{S:Nat->Prop}{t:Tb}{w:World}{r:Rs}{v0:Value}{n:Nat}{xs:List Value}(a:Cx H b S t w r v0 n xs)(g i:Nat)(x:Value)(u:H<=g)(c:v0.ownBlock≠some g):Cx H b S t (w.setCell ⟨g,i,none⟩ x) r v0 n xs:=by
 have f:=a.bH;refine⟨a.run.of_block (lJ _ _ _ _ (by show b≠g;omega)),⟨a.own.1,a.own.2.imp id ?_⟩,a.tab.keep λk j=>lJ _ _ _ _ (by have:=(a.safe k j).1;show k≠g;omega),f,by simpa[World.setCell] using a.HH,a.safe⟩;rintro⟨l,cap,m,d,o,p,q⟩;refine⟨l,cap,m,d,o,(lJ _ _ _ _ ?_).trans p,q⟩;intro e;have s:=e;rw[d,s] at c;exact c rfl
theorem Keep.boxed {H b:Nat}(w:World)(g i:Nat)(x:Value)(a:H<=g):Keep H b w (w.setCell ⟨g,i,none⟩ x):=
 ⟨rfl,rfl,by simp[World.setCell],λk c _=>lJ _ _ _ _ (by show k≠g;omega)⟩
def Rs.cut (r:Rs):Rs:={r with first:=(r.first+r.length)%64,count:=r.count-r.length,taken:=0,length:=0}
theorem zMV (b H:Nat)(S:Nat->Prop)(t:Tb)(o w:World)(r:Rs){v0:Value}(c:List Ev)(J:Cv H b S t w r v0 c)(L:c.length<=4194304)(ok:t.Ok)(M:∀i,i<t.nrule->t.act i<4)(a:r.Ok t)(N:r.length<=r.count)(k:Nat)(O:r.rule=k)(x:k<t.nrule)(P:Keep H b o w)
  (g d h j:Nat) (ai:H<=g) (Q:w.heap[g]? =some (.cells #[iX d,iX h,iX j] 97)) (f:Rs×List Ev) (R:f=r.cut.tok t k d h j)
  {u1 u3 u4 u5 u6 u7 u8 u9 u10 u11 u12 u13 u14 u15 u16 u17 u18 u19 u20 u21 u22 u23 u24 u25 u26 u27 u28 u29 u30 u31 u32 u33 u34 u35 u36 u37 u38 u39 u40 u41 u42 u43 u44 u45 u46 u47 u48 u49 u50:Value}:
  Code.wp prog (xO 3 ((f119.body).getD .skip)) (bodyPost prog f119 λe w'=>
   e=returned (tuple #[])/\∃v,Cv H b S t w' f.1 v (c++f.2)/\Keep H b o w')
   ⟨(pX b::u1::pX g::u3::u4::u5::u6::u7::u8::u9::u10::u11::u12::u13::u14::u15::u16::u17::u18::u19::u20::u21::u22::u23::u24::u25::u26::u27::u28::u29::u30::u31::u32::u33::u34::u35::u36::u37::u38::u39::u40::u41::u42::u43::u44::u45::u46::u47::u48::u49::u50::[]).toArray,[]⟩ w:=by
 conv=>arg 2;whnf
 have m:=vl J;have T:=vl P;have U:=vl R;have V:=vl Q;have y:=vl O;have z:=m.run.get_length;have p:g≠b:=by have:=m.bH;omega
 apply wp_cut;intro aj W;go_wp2;go_region_with ((go_at_call 152;go_must ((refine (zGA b r.length _ r (Cx.alike (w':=w.drew) m ⟨rfl,rfl,rfl⟩).run a.first N a.count).mono ?_;rintro e w1 ⟨rfl,X,q⟩))))
 all_goals
  have c1:=vl <| Cx.kept (Cx.alike (w':=w.drew) m ⟨rfl,rfl,rfl⟩) q X rfl;have A:=vl <| (T.trans (Keep.drew _)).trans (q H);have l:=vl <| ((q (g+1)).block g (by omega) p).trans V;go_wp2;apply W.out;have Y:=c1.run.get_taken;have z:=c1.run.get_length;have B:cX w1 b 84=some (iX k):=by rw[<-y.out];exact c1.run.get_rule
  have aa:=c1.run.frozen 82;have ab:=c1.run.frozen 83;have C:cX w1 g 0=some (iX d):=by simp[World.cell?,l.out]
  have D:cX w1 g 1=some (iX h):=by simp[World.cell?,l.out]
  have E:cX w1 g 2=some (iX j):=by simp[World.cell?,l.out]
  go_wp2;obtain⟨w2,F,c2,ac,s⟩:∃w2,w2=(w1.setCell ⟨b,82,none⟩ (iX 0)).setCell ⟨b,83,none⟩ (iX 0)/\Hid (Cv H b S t w2 r.cut v0 c)/\Hid (Keep H b o w2)/\Hid (w2.heap[g]? =some (.cells #[iX d,iX h,iX j] 97)):=by
   have G:=Cx.stored c1 82 _ (c1.run.set_taken 0) rfl;have ad:=G.stored 83 _ (G.run.set_length 0) rfl;exact⟨_,rfl,ad,(A.trans (Keep.set _ _ _)).trans (Keep.set _ _ _),((lJ _ _ _ _ (by exact p)).trans (lJ _ _ _ _ (by exact p))).trans l⟩
  rw[<-F];clear F c1 A l Y z B aa ab C D E;have B:cX w2 b 84=some (iX k):=by rw[<-y.out];exact c2.run.get_rule
  have C:cX w2 g 0=some (iX d):=by simp[World.cell?,s.out]
  have D:cX w2 g 1=some (iX h):=by simp[World.cell?,s.out]
  have E:cX w2 g 2=some (iX j):=by simp[World.cell?,s.out]
  have ae:r.cut.Ok t:=⟨a.d1,a.d4,a.st,a.state,hY _ (by decide),lY (Nat.sub_le _ _) a.count,a.bytes⟩
  go_region_with ((go_at_call 156;go_must ((refine (zEY b H S t _ r.cut c (Cx.alike (w':=w2.drew) c2 ⟨rfl,rfl,rfl⟩) L k d h j x (M k x) ok ae).mono ?_;rintro e I ⟨rfl,u,af,ag⟩))))
  all_goals
   have ah:Hid (Cv H b S t I f.1 u (c++f.2)):=by show Cv H b S t I f.1 u (c++f.2);rw[U.out];exact af
   go_wp2;go_end0;exact⟨rfl,u,ah,(ac.trans (Keep.drew _)).trans ag⟩
def Rs.lineTo (r:Rs):Nat->Nat
 |0=>r.bLine
 |i+1=>zAV (r.byte ((r.first+i)%64)) (r.lineTo i)
def Rs.colTo (r:Rs):Nat->Nat
 |0=>r.bCol
 |i+1=>zCL (r.byte ((r.first+i)%64)) (r.colTo i)
theorem Rs.lineTo_le (r:Rs)(i:Nat):r.lineTo i<=r.bLine+i:=by
 induction i with
 |zero=>exact lQ
 |succ i a=>simp only[Rs.lineTo];unfold zAV;split <;> omega
theorem Rs.colTo_le (r:Rs)(i:Nat):r.colTo i<=r.bCol+i+1:=by
 induction i with
 |zero=>exact Nat.le_succ _
 |succ i a=>simp only[Rs.colTo];unfold zCL;split <;> omega
theorem zMW (b H:Nat)(S:Nat->Prop)(t:Tb)(z w:World)(r:Rs){v0:Value}(y:List Ev)(R:Cv H b S t w r v0 y)(ad:y.length<=4194304)(ok:t.Ok)(ae:∀i,i<t.nrule->t.act i<4)(G:r.Ok t)(af:r.length<=r.count)(k:Nat)(T:r.rule=k)(ag:k<t.nrule)(U:Keep H b z w)
  (aD:r.bAt+64<2147483648) (aE:r.bLine+64<2147483648) (aF:r.bCol+65<2147483648)
  (g:Nat) (B:H<=g) (O:v0.ownBlock≠some g) (V:w.heap[g]? =some (.cells #[iX r.bAt,iX r.bLine,iX r.bCol] 97)) (f:Rs×List Ev) (W:f=r.cut.tok t k (r.bAt+r.length) (r.lineTo r.length) (r.colTo r.length))
  {u1 u3 u4 u5 u6 u7 u8 u9 u10 u11 u12 u13 u14 u15 u16 u17 u18 u19 u20 u21 u22 u23 u24 u25 u26 u27 u28 u29 u30 u31 u32 u33 u34 u35 u36 u37 u38 u39 u40 u41 u42 u43 u44 u45 u46 u47 u48 u49 u50:Value}:
  Code.wp prog (xO 2 ((f119.body).getD .skip)) (bodyPost prog f119 λe w'=>
   e=returned (tuple #[])/\∃v,Cv H b S t w' f.1 v (y++f.2)/\Keep H b z w')
   ⟨(pX b::u1::pX g::u3::u4::u5::u6::u7::u8::u9::u10::u11::u12::u13::u14::u15::u16::u17::u18::u19::u20::u21::u22::u23::u24::u25::u26::u27::u28::u29::u30::u31::u32::u33::u34::u35::u36::u37::u38::u39::u40::u41::u42::u43::u44::u45::u46::u47::u48::u49::u50::[]).toArray,[]⟩ w:=by
 conv=>arg 2;whnf
 refine wp_seq_k ?_;intro ah hK0;have ai:Hid (∀a w,_->ah a w):=hK0;have aj:Hid (Cv H b S t w r v0 y):=R;have ak:Hid (Keep H b z w):=U;have al:Hid (f=r.cut.tok t k (r.bAt+r.length) (r.lineTo r.length) (r.colTo r.length)):=W;have am:Hid (w.heap[g]? =some (.cells #[iX r.bAt,iX r.bLine,iX r.bCol] 97)):=V;have an:Hid (r.rule=k):=T;have aG:=G.count;clear R U W V T hK0;go_wp2_with fail;go_loopg [3] r.length (λq i wr=>∃(j d l C:Nat),q=r.length-j/\j<=r.length/\i=iX (j:Int)/\d=r.bAt+j/\l=r.lineTo j/\C=r.colTo j/\Cv H b S t wr r v0 y/\Keep H b z wr/\wr.heap[g]? =some (.cells #[iX d,iX l,iX C] 97))
 case atStart=>exact⟨0,r.bAt,r.bLine,r.bCol,rfl,lX,rfl,rfl,rfl,rfl,aj,ak,am⟩
 case round=>
  obtain⟨j,d,l,C,X,aH,rfl,I,J,M,E,N,u⟩:=hrel;have x:Hid (gk=r.length-j/\d=r.bAt+j/\l=r.lineTo j/\C=r.colTo j/\Cv H b S t wr r v0 y/\Keep H b z wr/\wr.heap[g]? =some (.cells #[iX d,iX l,iX C] 97)):=⟨X,I,J,M,E,N,u⟩
  have ao:=r.lineTo_le j;have q2:=r.colTo_le j;have ap:d<2147483648:=by omega
  have aq:l<2147483648:=by omega
  have ar:C<2147483648:=by omega
  have aI:cX wr b 83=some (iX r.length):=E.run.get_length;have au:cX wr g 0=some (iX d):=by simp[World.cell?,u]
  have av:cX wr g 1=some (iX l):=by simp[World.cell?,u]
  have aw:cX wr g 2=some (iX C):=by simp[World.cell?,u]
  have fz:Hid (∀i,wr.frozen? ⟨g,i,none⟩=false):=λi=>by simp[World.frozen?,u]
  have ax:g<wr.heap.size:=(kQ.1 u).1;clear X I J M E N u ao q2;by_cases aJ:j<r.length
  ·have ay:(j:Int)<(r.length:Int):=by omega
   have az:=G.bytes ((r.first+j)%64) (hY _ (by decide));have Y:Hid (r.lineTo (j+1)=zAV (r.byte ((r.first+j)%64)) (r.lineTo j)/\r.colTo (j+1)=zCL (r.byte ((r.first+j)%64)) (r.colTo j)):=⟨rfl,rfl⟩
   have aA:Hid (Ca 151 #[pointer (some ⟨b,12,none⟩),iX j] wr.drew λe w'=>e=returned (int .u8 (r.byte ((r.first+j)%64)))/\w'.Alike wr.drew):=zKl b j _ r (Cx.alike (w':=wr.drew) x.2.2.2.2.1 ⟨rfl,rfl,rfl⟩).run G.first (by omega)
   generalize r.byte ((r.first+j)%64)=c at *;go_wp2_with fail;go_region_with ((first|(go_at_call 151;go_must ((refine Calls.mono aA ?_;rintro e F ⟨rfl,m⟩;have m0:cX F g 0=some (iX d):=(m.cell ⟨g,0,none⟩).trans au;have m1:cX F g 1=some (iX l):=(m.cell ⟨g,1,none⟩).trans av;have m2:cX F g 2=some (iX C):=(m.cell ⟨g,2,none⟩).trans aw)))|(go_at_call 153;go_must ((refine (zEk d l C c _ ap aq ar az).mono ?_;rintro e o ⟨rfl,s⟩;have D:g<F.heap.size:=Nat.lt_of_lt_of_eq ax (congrArg Array.size m.1).symm;have aK:cX o g 0=some (iX d):=(s.cell (p:=⟨g,0,none⟩) D).trans m0;have aL:cX o g 1=some (iX l):=(s.cell (p:=⟨g,1,none⟩) D).trans m1;have aM:cX o g 2=some (iX C):=(s.cell (p:=⟨g,2,none⟩) D).trans m2;have aN:o.frozen? ⟨g,0,none⟩=false:=(s.frozen (p:=⟨g,0,none⟩) D).trans ((m.frozen ⟨g,0,none⟩).trans (fz 0));have aO:o.frozen? ⟨g,1,none⟩=false:=(s.frozen (p:=⟨g,1,none⟩) D).trans ((m.frozen ⟨g,1,none⟩).trans (fz 1));have aP:o.frozen? ⟨g,2,none⟩=false:=(s.frozen (p:=⟨g,2,none⟩) D).trans ((m.frozen ⟨g,2,none⟩).trans (fz 2)))))))
   all_goals
    have aa:F.heap[g]? =wr.heap[g]? :=congrArg (λaB=>aB[g]?) m.1;have ab:o.heap[g]? =some (.cells #[iX d,iX l,iX C] 97):=(s.block g D).trans (aa.trans x.2.2.2.2.2.2);have P:=Cx.alike x.2.2.2.2.1 m;have ac:=Cx.below P s;have Q:Hid (Cv H b S t (((o.setCell ⟨g,0,none⟩ (iX ((d:Int)+1))).setCell ⟨g,1,none⟩ (iX (zAV c l:Nat))).setCell ⟨g,2,none⟩ (iX (zCL c C:Nat))) r v0 y/\
      Keep H b z (((o.setCell ⟨g,0,none⟩ (iX ((d:Int)+1))).setCell ⟨g,1,none⟩ (iX (zAV c l:Nat))).setCell ⟨g,2,none⟩ (iX (zCL c C:Nat)))/\
      (((o.setCell ⟨g,0,none⟩ (iX ((d:Int)+1))).setCell ⟨g,1,none⟩ (iX (zAV c l:Nat))).setCell ⟨g,2,none⟩ (iX (zCL c C:Nat))).heap[g]? =some (.cells #[iX ((d+1:Nat):Int),iX (zAV c l:Nat),iX (zCL c C:Nat)] 97)):=by
     refine⟨((Cx.boxed ac g 0 _ B O).boxed g 1 _ B O).boxed g 2 _ B O,((((x.2.2.2.2.2.1.trans (Keep.alike m)).trans (Keep.below s P.HH)).trans (Keep.boxed _ g 0 _ B)).trans (Keep.boxed _ g 1 _ B)).trans (Keep.boxed _ g 2 _ B),?_⟩;simp[setCell,lU,ab]
    clear aa ab P ac s m;go_wp2_with fail;go_roundg (r.length-(j+1))
    case measure=>rw[x.out.1];omega
    case rel=>exact⟨j+1,d+1,zAV c l,zCL c C,rfl,by omega,congrArg (Value.int IntKind.i64) (by omega),by rw[x.out.2.1];omega,by rw[Y.out.1,x.out.2.2.1],by rw[Y.out.2,x.out.2.2.2.1],Q.1,Q.2.1,Q.2.2⟩
  ·have ay:(r.length:Int)<=(j:Int):=by omega
   have aC:Hid (j=r.length):=by show j=_;omega
   go_wp2_with fail;apply ai.out;obtain⟨_,I,J,M,E,N,u⟩:=x;exact zMV b H S t z _ r y E ad ok ae G af k an ag N g d l C B u f (by rw[al.out,I,J,M,aC.out])
def Rs.long (r:Rs)(t:Tb):Rs×List Ev:=
 if r.length=0 then({r with opn:=false},[r.lastEv 3])
 else r.cut.tok t r.rule.toNat (r.bAt+r.length) (r.lineTo r.length) (r.colTo r.length)
theorem zBC (b H:Nat)(S:Nat->Prop)(t:Tb)(w:World)(r:Rs){v0:Value}(c:List Ev)(f:Cv H b S t w r v0 c)(g:c.length<=4194304)(ok:t.Ok)(l:∀i,i<t.nrule->t.act i<4)(m:r.Ok t)(o:r.length<=r.count)(E:r.length=0\/(0<=r.rule/\r.rule<t.nrule))
  (p:r.bAt+64<2147483648) (q:r.bLine+64<2147483648) (s:r.bCol+65<2147483648):
  Calls prog 119 #[pX b] w λe w'=>
   e=returned (tuple #[])/\∃v,Cv H b S t w' (r.long t).1 v (c++(r.long t).2)/\Keep H b w w':=by
 have a:=vl f;have F:=f.run.get_length;by_cases h:r.length=0
 ·have u:((r.length:Int)==0)=true:=by rw[beq_iff_eq];omega
  have d:Hid (r.long t=({r with opn:=false},[r.lastEv 3])):=by show r.long t=_;unfold Rs.long;rw[if_pos h]
  go_in;go_wp2_with fail;refine(jD b H S t 3 _ r v0 _ _ a g).mono ?_;rintro e w2 ⟨rfl,ao,cap,c2,x⟩;have y:=vl c2;go_wp2;refine gV (results_none rfl _ _ _) rfl ?_;refine⟨rfl,slice ao (c.length+1) cap,?_,x⟩;rw[d.out];unfold Cv;rw[yE,kX];exact y
 ·have u:((r.length:Int)==0)=false:=by rw[hX];omega
  obtain⟨k,j⟩:=Int.eq_ofNat_of_zero_le (show 0<=r.rule by omega);have z:k<t.nrule:=by omega
  have A:=vl j;have d:Hid (r.long t=r.cut.tok t k (r.bAt+r.length) (r.lineTo r.length) (r.colTo r.length)):=by show r.long t=_;unfold Rs.long;rw[if_neg h,j];rfl
  have G:=a.run.get_bAt;have I:=a.run.get_bLine;have J:=a.run.get_bCol;go_in;apply wp_cut;intro B C;go_wp2;apply C.out;apply wp_cut;intro B D;go_wp2;apply D.out;exact zMW b H S t w _ r c (Cx.alloc a _) g ok l m o k A z (kZ _ _ a.HH) p q s w.heap.size a.HH (λe=>by have:=(a.own.lt _ e).2;omega) (gX w _) _ d
def Rs.ate (r:Rs)(t:Tb):Rs:={r with taken:=r.taken+1,state:=t.next r.state (t.kind (r.byte ((r.first+r.taken)%64)))}
def Rs.marked (r:Rs)(t:Tb):Rs:=if t.ends r.state=-1 then r else{r with rule:=t.ends r.state,length:=r.taken}
def Rs.judged (r:Rs)(t:Tb):Rs×List Ev:=if t.live r.state then(r,[]) else r.long t
def Rs.heldStep (r:Rs)(t:Tb):Rs×List Ev:=((r.ate t).marked t).judged t
def Rs.heldN (r:Rs)(t:Tb):Nat->Rs×List Ev
 |0=>(r,[])
 |n+1=>if(r.heldN t n).1.taken<(r.heldN t n).1.count/\(r.heldN t n).1.opn=true then(((r.heldN t n).1.heldStep t).1,(r.heldN t n).2++((r.heldN t n).1.heldStep t).2) else r.heldN t n
structure Rs.Oth (r:Rs)(t:Tb)(P:Nat):Prop where
 ok:r.Ok t
 len:r.length<=r.taken
 tak:r.taken<=r.count
 rule:r.length=0\/(0<=r.rule/\r.rule<t.nrule)
 pos:r.bAt+r.count<=P
 line:r.bLine<=r.bAt+1
 col1:1<=r.bCol
 col:r.bCol<=r.bAt+1
def xN (b:Bool):Nat:=if b then 1 else 0
def Rs.todo (r:Rs):Nat:=r.count*65+(r.count-r.taken)
theorem Rs.colTo_le2 (r:Rs)(a:1<=r.bCol)(i:Nat):1<=r.colTo i/\r.colTo i<=r.bCol+i:=by
 induction i with
 |zero=>exact⟨a,lQ⟩
 |succ i b=>simp only[Rs.colTo];unfold zCL;split <;> omega
theorem Rs.ate_oth (r:Rs)(t:Tb)(P:Nat)(ok:t.Ok)(a:r.Oth t P)(b:r.taken<r.count):(r.ate t).Oth t P:=
 ⟨⟨a.ok.d1,a.ok.d4,a.ok.st,ok.next _ _ a.ok.state (ok.kind _ (a.ok.bytes _ (hY _ (by decide)))),a.ok.first,a.ok.count,a.ok.bytes⟩,Nat.le_succ_of_le a.len,b,a.rule,a.pos,a.line,a.col1,a.col⟩
theorem Rs.marked_oth (r:Rs)(t:Tb)(P:Nat)(ok:t.Ok)(a:r.Oth t P):(r.marked t).Oth t P:=by
 unfold Rs.marked;split
 ·exact a
 ·rename_i b
  have e:=ok.ends r.state a.ok.state;exact⟨⟨a.ok.d1,a.ok.d4,a.ok.st,a.ok.state,a.ok.first,a.ok.count,a.ok.bytes⟩,lQ,a.tak,.inr ⟨by show 0<=t.ends r.state;omega,by show t.ends r.state<t.nrule;omega⟩,a.pos,a.line,a.col1,a.col⟩
theorem Rs.marked_same (r:Rs)(t:Tb):(r.marked t).count=r.count/\(r.marked t).taken=r.taken/\(r.marked t).opn=r.opn/\(r.marked t).state=r.state:=by
 unfold Rs.marked;split <;> exact⟨rfl,rfl,rfl,rfl⟩
theorem Rs.tok_opn (r:Rs)(t:Tb)(rule a l c:Nat):((r.tok t rule a l c).1.opn=r.opn\/(r.tok t rule a l c).2≠[])/\((r.tok t rule a l c).1.opn=true->r.opn=true)/\((r.tok t rule a l c).1.taken=r.taken/\(r.tok t rule a l c).1.length=r.length)/\(((r.tok t rule a l c).1.bAt=r.bAt/\(r.tok t rule a l c).1.bLine=r.bLine/\(r.tok t rule a l c).1.bCol=r.bCol/\(r.tok t rule a l c).1.opn=false)\/((r.tok t rule a l c).1.bAt=a/\(r.tok t rule a l c).1.bLine=l/\(r.tok t rule a l c).1.bCol=c)):=by
 unfold Rs.tok Rs.moved;split
 ·exact⟨.inr (by simp),(λb=>by cases b),⟨rfl,rfl⟩,.inl ⟨rfl,rfl,rfl,rfl⟩⟩
 ·split
  ·exact⟨.inr (by simp),(λb=>by cases b),⟨rfl,rfl⟩,.inl ⟨rfl,rfl,rfl,rfl⟩⟩
  ·split
   ·exact⟨.inl rfl,id,⟨rfl,rfl⟩,.inr ⟨rfl,rfl,rfl⟩⟩
   ·split <;> exact⟨.inl rfl,id,⟨rfl,rfl⟩,.inr ⟨rfl,rfl,rfl⟩⟩
theorem Rs.long_inv (r:Rs)(t:Tb)(P:Nat)(ok:t.Ok)(a:r.Oth t P)(i:r.opn=true)(v:1<=r.count):
  (r.long t).1.Oth t P/\(r.long t).2.length+(r.long t).1.count+xN (r.long t).1.opn<=r.count+1/\((r.long t).1.opn=true\/(r.long t).2≠[])/\((r.long t).1.count<r.count\/((r.long t).1.opn=false/\(r.long t).1.count=r.count/\(r.long t).1.taken=r.taken)):=by
 unfold Rs.long;have w:=a.len;have x:=a.tak;split
 ·refine⟨⟨⟨a.ok.d1,a.ok.d4,a.ok.st,a.ok.state,a.ok.first,a.ok.count,a.ok.bytes⟩,a.len,a.tak,a.rule,a.pos,a.line,a.col1,a.col⟩,?_,.inr (by simp),.inr ⟨rfl,rfl,rfl⟩⟩
  show 1+r.count+0<=r.count+1;omega
 ·rename_i j
  have y:=a.rule.resolve_left j;have k:r.rule.toNat<t.nrule:=by omega
  have hcut:r.cut.Ok t:=⟨a.ok.d1,a.ok.d4,a.ok.st,a.ok.state,hY _ (by decide),lY (Nat.sub_le _ _) a.ok.count,a.ok.bytes⟩
  have l:=r.cut.tok_ok t r.rule.toNat (r.bAt+r.length) (r.lineTo r.length) (r.colTo r.length) ok hcut k;have m:=r.cut.tok_same t r.rule.toNat (r.bAt+r.length) (r.lineTo r.length) (r.colTo r.length)
  have z:=r.cut.tok_one t r.rule.toNat (r.bAt+r.length) (r.lineTo r.length) (r.colTo r.length)
  obtain⟨b,A,⟨o,p⟩,d⟩:=r.cut.tok_opn t r.rule.toNat (r.bAt+r.length) (r.lineTo r.length) (r.colTo r.length)
  generalize r.cut.tok t r.rule.toNat (r.bAt+r.length) (r.lineTo r.length) (r.colTo r.length)=f at *;have B:f.1.count=r.count-r.length:=m.count;have C:f.1.taken=0:=o;have q:f.1.length=0:=p;have D:=a.pos;have E:=a.line;have s:=a.col1;have F:=a.col;have G:=r.lineTo_le r.length;have q2:=r.colTo_le2 s r.length;refine⟨⟨l,by omega,by omega,.inl q,?_,?_,?_,?_⟩,?_,?_,.inl (by omega)⟩
  ·rcases d with⟨e,_⟩|⟨e,_⟩
   ·have g:f.1.bAt=r.bAt:=e
    omega
   ·omega
  ·rcases d with⟨e,c,_⟩|⟨e,c,_⟩
   ·have g:f.1.bAt=r.bAt:=e
    have u:f.1.bLine=r.bLine:=c;omega
   ·omega
  ·rcases d with⟨_,_,e,_⟩|⟨_,_,e⟩
   ·have g:f.1.bCol=r.bCol:=e
    omega
   ·omega
  ·rcases d with⟨e,_,c,_⟩|⟨e,_,c⟩
   ·have g:f.1.bAt=r.bAt:=e
    have u:f.1.bCol=r.bCol:=c;omega
   ·omega
  ·have:xN f.1.opn<=1:=by unfold xN;split <;> omega
   omega
  ·rcases b with b|b
   ·left
    rw[b];exact i
   ·exact .inr b
theorem Rs.held_inv (r:Rs)(t:Tb)(P:Nat)(ok:t.Ok)(c:r.Oth t P)(g:r.opn=true)(i:r.taken<r.count):
  (r.heldStep t).1.Oth t P/\(r.heldStep t).2.length+(r.heldStep t).1.count+xN (r.heldStep t).1.opn<=r.count+1/\((r.heldStep t).1.opn=true\/(r.heldStep t).2≠[])/\(r.heldStep t).1.todo<r.todo:=by
 have d:=(r.ate t).marked_oth t P ok (r.ate_oth t P ok c i);obtain⟨m1,m2,j,m⟩:=(r.ate t).marked_same t;have b:((r.ate t).marked t).opn=true:=by rw[j];exact g
 have c1:((r.ate t).marked t).count=r.count:=m1;have c2:((r.ate t).marked t).taken=r.taken+1:=m2;have o:=c.ok.count;unfold Rs.heldStep Rs.judged;split
 ·refine⟨d,?_,.inl b,?_⟩
  ·show 0+((r.ate t).marked t).count+xN ((r.ate t).marked t).opn<=r.count+1
   rw[b,c1];show 0+r.count+1<=r.count+1;omega
  ·show((r.ate t).marked t).todo<r.todo
   unfold Rs.todo;rw[c1,c2];omega
 ·obtain⟨e,f,k,a⟩:=((r.ate t).marked t).long_inv t P ok d b (by omega)
  refine⟨e,by rw[c1] at f;exact f,k,?_⟩;unfold Rs.todo;have:=e.tak;rcases a with a|⟨_,a,l⟩
  ·rw[c1] at a
   omega
  ·rw[a,l,c1,c2]
   omega
theorem zOG (b i:Nat)(w:World)(r:Rs){v0:Value}(a:zL w b r v0)(c:r.first<64)(d:i<64):
  Calls prog 151 #[pointer (some ⟨b,12,none⟩),iX i] w λe w'=>e=returned (int .u8 (r.byte ((r.first+i)%64)))/\∃m,w'=w.drewN m:=by
 have g:=a.get_first;have h:=a.get_byte ((r.first+i)%64) (hY _ (by decide));clear a;generalize r.first=f at *
 go_enter func151,ntmps151
 go_wp2;go_quiet (fail);go_wp2;go_ret;exact⟨rfl,_,rfl⟩
theorem zFP (b H:Nat)(S:Nat->Prop)(t:Tb)(w:World)(r0:Rs){v0:Value}(es0:List Ev)(P C:Nat)(hC:Cv H b S t w r0 v0 es0)(ok:t.Ok)(hact:∀i,i<t.nrule->t.act i<4)(hO:r0.Oth t P)(hP:P<=1073741824)(hn:es0.length+r0.count+xN r0.opn<=C)(hC4:C<=4194304):
  Calls prog 111 #[pX b] w λe w'=>
   e=returned (tuple #[])/\∃v n,Cv H b S t w' (r0.heldN t n).1 v (es0++(r0.heldN t n).2)/\Keep H b w w'/\(r0.heldN t n).1.Oth t P/\(es0++(r0.heldN t n).2).length+(r0.heldN t n).1.count+xN (r0.heldN t n).1.opn<=C/\¬((r0.heldN t n).1.taken<(r0.heldN t n).1.count/\(r0.heldN t n).1.opn=true):=by
 have HC0:Hid (Cv H b S t w r0 v0 es0/\r0.Oth t P/\es0.length+r0.count+xN r0.opn<=C):=⟨hC,hO,hn⟩
 clear hC hO hn;go_enter func111,ntmps111
 go_wp2_with fail;go_loopg [] r0.todo (λq wr=>∃(n:Nat) (r:Rs) (es:List Ev) (v:Value),q=r.todo/\r0.heldN t n=(r,es)/\Cv H b S t wr r v (es0++es)/\Keep H b w wr/\r.Oth t P/\(es0++es).length+r.count+xN r.opn<=C)
 case atStart=>exact⟨0,r0,[],v0,rfl,rfl,by rw[gG];exact HC0.1,Keep.refl _ _ _,HC0.2.1,by rw[gG];exact HC0.2.2⟩
 case round=>
  obtain⟨n,r,es,v,hgk,hN,hC,hk,hO,hn⟩:=hrel;have AA:Hid (gk=r.todo/\r0.heldN t n=(r,es)/\Cv H b S t wr r v (es0++es)/\Keep H b w wr/\r.Oth t P/\(es0++es).length+r.count+xN r.opn<=C):=⟨hgk,hN,hC,hk,hO,hn⟩
  have y1:cX wr b 1=some (bool r.opn):=hC.run.get_opn;have y77:cX wr b 77=some (iX r.count):=hC.run.get_count;have y82:cX wr b 82=some (iX r.taken):=hC.run.get_taken;have hok:=hO.ok;have htk:=hO.tak;have hct:=hO.ok.count;clear hgk hN hC hk hO hn;by_cases hcond:r.taken<r.count/\r.opn=true
  ·obtain⟨hlt,hop⟩:=hcond
   have i1:(r.taken:Int)<(r.count:Int):=by omega
   rw[hop] at y1;have HOP:Hid (r.opn=true):=hop;clear hop;go_wp2_with fail;go_quiet (fail);obtain⟨w1,hw1,C1,K1⟩:∃w1,w1=wr.drewN nq/\Hid (Cv H b S t w1 r v (es0++es))/\Hid (Keep H b w w1):=⟨_,rfl,Cx.alike (w':=wr.drewN nq) AA.2.2.1 ⟨rfl,rfl,rfl⟩,AA.2.2.2.1.trans (Keep.alike ⟨rfl,rfl,rfl⟩)⟩
   rw[<-hw1];clear hw1 y1 y77 y82;have y82:cX w1 b 82=some (iX r.taken):=C1.run.get_taken;have HAT:Hid (∀q,Ca 151 #[pointer (some ⟨b,12,none⟩),iX r.taken] (w1.drewN q) λe w'=>e=returned (int .u8 (r.byte ((r.first+r.taken)%64)))/\∃m,w'=(w1.drewN q).drewN m):=λq=>zOG b r.taken _ r (Cx.alike (w':=w1.drewN q) C1 ⟨rfl,rfl,rfl⟩).run hok.first (by omega)
   have hcb:=hok.bytes ((r.first+r.taken)%64) (hY _ (by decide));have HST:Hid (r.ate t={r with taken:=r.taken+1,state:=t.next r.state (t.kind (r.byte ((r.first+r.taken)%64)))}):=rfl;generalize r.byte ((r.first+r.taken)%64)=c at *;have hst:=hok.state;have HOT:Hid (r.Oth t P):=AA.2.2.2.2.1;go_wp2_with fail;go_quiet ((go_at_call 151;exact Calls.quiet_of (HAT _)));obtain⟨w2,hw2,C2,K2⟩:∃w2,w2=w1.drewN nq/\Hid (Cv H b S t w2 r v (es0++es))/\Hid (Keep H b w w2):=⟨_,rfl,Cx.alike (w':=w1.drewN nq) C1 ⟨rfl,rfl,rfl⟩,K1.trans (Keep.alike ⟨rfl,rfl,rfl⟩)⟩
   rw[<-hw2];clear hw2 y82 C1 K1 HAT;have y82:cX w2 b 82=some (iX r.taken):=C2.run.get_taken;have z82:=C2.run.frozen 82;have y0:cX w2 b 0=some (pX r.tp):=C2.run.get_tp;have y11:cX w2 b 11=some (iX r.state):=C2.run.get_state;go_wp2_with fail;obtain⟨w3,hw3,C3,K3⟩:∃w3,w3=w2.setCell ⟨b,82,none⟩ (iX ((r.taken:Int)+1))/\Hid (Cv H b S t w3 {r with taken:=r.taken+1} v (es0++es))/\Hid (Keep H b w w3):=⟨_,rfl,Cx.stored C2 82 _ (C2.run.set_taken (r.taken+1)) rfl,K2.trans (Keep.set _ _ _)⟩
   rw[<-hw3];clear hw3 y82 z82 y0 y11 C2 K2;have y0:cX w3 b 0=some (pX r.tp):=C3.run.get_tp;have y11:cX w3 b 11=some (iX r.state):=C3.run.get_state;have z11:=C3.run.frozen 11;have tb3:Hid (TabAt w3.drew S r.tp t):=(Cx.alike (w':=w3.drew) C3 ⟨rfl,rfl,rfl⟩).tab;have HRA:Hid ((r.ate t).Oth t P/\True):=⟨r.ate_oth t P ok HOT hlt,trivial⟩
   have HSTEP:Hid (r.heldStep t=if t.live ((r.ate t).marked t).state then((r.ate t).marked t,[]) else((r.ate t).marked t).long t):=rfl;have INV:Hid ((r.heldStep t).1.Oth t P/\(r.heldStep t).2.length+(r.heldStep t).1.count+xN (r.heldStep t).1.opn<=r.count+1/\((r.heldStep t).1.opn=true\/(r.heldStep t).2≠[])/\(r.heldStep t).1.todo<r.todo):=r.held_inv t P ok HOT HOP hlt;have HNX:Hid (r0.heldN t (n+1)=((r.heldStep t).1,es++(r.heldStep t).2)):=by show _=_;rw[Rs.heldN,AA.out.2.1,if_pos ⟨hlt,HOP.out⟩]
   generalize r.ate t=ra at *;go_wp2_with fail;go_region_with ((go_at_call 154;go_must ((refine (zFS r.tp _ S t tb3 ok r.state c hst hcb).mono ?_;rintro e w5 ⟨rfl,ha5⟩;have q11:cX w5 b 11=some (iX r.state):=(ha5.cell ⟨b,11,none⟩).trans y11;have z5:w5.frozen? ⟨b,11,none⟩=false:=(ha5.frozen ⟨b,11,none⟩).trans z11))))
   all_goals
    have c5:Hid (Cv H b S t w5 {r with taken:=r.taken+1} v (es0++es)):=Cx.alike C3 ha5;have k5:Hid (Keep H b w w5):=K3.trans (Keep.alike ha5);obtain⟨w6,hw6,C6,K6⟩:∃w6,w6=w5.setCell ⟨b,11,none⟩ (iX (t.next r.state (t.kind c):Nat))/\Hid (Cv H b S t w6 ra v (es0++es))/\Hid (Keep H b w w6):=⟨_,rfl,by rw[HST.out];exact Cx.stored c5 11 _ (c5.run.set_state (t.next r.state (t.kind c))) rfl,k5.trans (Keep.set _ _ _)⟩
    clear c5 k5 ha5;go_wp2_with fail;rw[<-hw6];clear hw6 q11 z5 y0 y11 z11;have y0:cX w6 b 0=some (pX ra.tp):=C6.run.get_tp;have y11:cX w6 b 11=some (iX ra.state):=C6.run.get_state;obtain⟨_,h9,b9,o9,cap9,hb9,rfl,hcap9,hml9,hL9⟩:=C6.tab.c9;have hsa:=HRA.1.ok.state;have hx9:cX w6 b9 (o9+ra.state)=some (iX (t.ends ra.state)):=hL9 _ hsa;have ia:(ra.state:Int)<(t.nst:Int):=by omega
    clear hL9;by_cases hen:t.ends ra.state=-1
    ·have ie:(t.ends ra.state != -1)=false:=by rw[hen];rfl
     have HMR:Hid (ra.marked t=ra):=by show _=_;unfold Rs.marked;rw[if_pos hen]
     clear hen;generalize t.ends ra.state=ee at *;go_wp2_with fail;go_quiet (fail);obtain⟨wm,hwm,CM,KM⟩:∃wm,wm=w6.drewN nq/\Hid (Cv H b S t wm (ra.marked t) v (es0++es))/\Hid (Keep H b w wm):=⟨_,rfl,by show Cv _ _ _ _ _ _ _ _;rw[HMR.out];exact Cx.alike (w':=w6.drewN nq) C6 ⟨rfl,rfl,rfl⟩,K6.trans (Keep.alike ⟨rfl,rfl,rfl⟩)⟩
     rw[<-hwm];clear hwm y0 y11 h9 hx9 C6 K6;have HM:Hid ((ra.marked t).Oth t P/\True):=⟨ra.marked_oth t P ok HRA.1,trivial⟩
     generalize ra.marked t=rm at *;go_wp2_with fail;have y0:cX wm b 0=some (pX rm.tp):=CM.run.get_tp;have y11:cX wm b 11=some (iX rm.state):=CM.run.get_state;obtain⟨_,h10,b10,o10,cap10,hb10,rfl,hcap10,hml10,hL10⟩:=CM.tab.c10;have hsm:=HM.1.ok.state;have hx10:cX wm b10 (o10+rm.state)=some (bool (t.live rm.state)):=hL10 _ hsm;have im:(rm.state:Int)<(t.nst:Int):=by omega
     clear hL10;cases hlv:t.live rm.state with
     |true=>
      rw[hlv] at hx10;have HE:Hid (r.heldStep t=(rm,[])):=by show _=_;rw[HSTEP.out,if_pos hlv]
      clear hlv;go_wp2_with fail;go_quiet (fail);obtain⟨w9,hw9,C9,K9⟩:∃w9,w9=wm.drewN nq/\Hid (Cv H b S t w9 rm v (es0++es))/\Hid (Keep H b w w9):=⟨_,rfl,Cx.alike (w':=wm.drewN nq) CM ⟨rfl,rfl,rfl⟩,KM.trans (Keep.alike ⟨rfl,rfl,rfl⟩)⟩
      rw[<-hw9];clear hw9;go_wp2_with fail;have hI:=INV.out;rw[HE.out] at hI;have hB:=AA.2.2.2.2.2;rw[HOP.out] at hB;go_roundg rm.todo
      case measure=>rw[AA.out.1];exact hI.2.2.2
      case rel=>exact⟨n+1,rm,es,v,rfl,by rw[HNX.out,HE.out,gG],C9,K9,hI.1,by have h2:0+rm.count+xN rm.opn<=r.count+1:=hI.2.1;have h3:(es0++es).length+r.count+1<=C:=hB;omega⟩
     |false=>
      rw[hlv] at hx10;have HE:Hid (r.heldStep t=rm.long t):=by show _=_;rw[HSTEP.out,if_neg (by rw[hlv];decide)]
      clear hlv;go_wp2_with fail;go_quiet (fail);obtain⟨w9,hw9,C9,K9⟩:∃w9,w9=wm.drewN nq/\Hid (Cv H b S t w9 rm v (es0++es))/\Hid (Keep H b w w9):=⟨_,rfl,Cx.alike (w':=wm.drewN nq) CM ⟨rfl,rfl,rfl⟩,KM.trans (Keep.alike ⟨rfl,rfl,rfl⟩)⟩
      rw[<-hw9];clear hw9 y0 y11 h10 hx10;have hI:=INV.out;rw[HE.out] at hI;have hB:=AA.2.2.2.2.2;rw[HOP.out] at hB;have hB2:(es0++es).length+r.count+1<=C:=hB;have hpp:=HM.1.pos;have hll:=HM.1.line;have hcl:=HM.1.col;have HLG:Hid (Ca 119 #[pX b] w9 λe w'=>e=returned (tuple #[])/\∃v,Cv H b S t w' (rm.long t).1 v ((es0++es)++(rm.long t).2)/\Keep H b w9 w'):=zBC b H S t w9 rm (es0++es) C9 (by omega) ok hact HM.1.ok (lY HM.1.len HM.1.tak) HM.1.rule (by omega) (by omega) (by omega);have HI:Hid ((rm.long t).1.Oth t P/\(rm.long t).2.length+(rm.long t).1.count+xN (rm.long t).1.opn<=r.count+1/\((rm.long t).1.opn=true\/(rm.long t).2≠[])/\(rm.long t).1.todo<r.todo):=hI;clear hI hB hpp hll hcl;go_wp2_with fail;refine Calls.mono HLG ?_;rintro e w10 ⟨rfl,v10,c10,k10⟩;have CZ:Hid (Cv H b S t w10 (rm.long t).1 v10 (es0++(es++(rm.long t).2))/\Keep H b w w10):=⟨by rw[<-hJ];exact c10,K9.trans k10⟩
      clear c10 k10 HLG;go_wp2_with fail;go_roundg (rm.long t).1.todo
      case measure=>rw[AA.out.1];exact HI.2.2.2
      case rel=>exact⟨n+1,(rm.long t).1,es++(rm.long t).2,v10,rfl,by rw[HNX.out,HE.out],CZ.1,CZ.2,HI.1,by have h2:=HI.2.1;rw[kX,kX];rw[kX] at hB2;omega⟩
    ·have ie:(t.ends ra.state != -1)=true:=by rw[bne_iff_ne];exact hen
     have HMR:Hid (ra.marked t={ra with rule:=t.ends ra.state,length:=ra.taken}):=by show _=_;unfold Rs.marked;rw[if_neg hen]
     clear hen;obtain⟨ee,hee⟩:∃ee,ee=t.ends ra.state:=⟨_,rfl⟩
     rw[<-hee] at hx9 ie HMR;clear hee;go_wp2_with fail;go_quiet (fail);obtain⟨w7,hw7,C7,K7⟩:∃w7,w7=w6.drewN nq/\Hid (Cv H b S t w7 ra v (es0++es))/\Hid (Keep H b w w7):=⟨_,rfl,Cx.alike (w':=w6.drewN nq) C6 ⟨rfl,rfl,rfl⟩,K6.trans (Keep.alike ⟨rfl,rfl,rfl⟩)⟩
     have x9:cX w7 b9 (o9+ra.state)=some (iX ee):=by rw[hw7];exact hx9
     have x9':cX w7 ra.tp 9=some (slice (some ⟨b9,o9,none⟩) t.nst cap9):=by rw[hw7];exact h9
     rw[<-hw7];clear hw7 y0 y11 h9 hx9 C6 K6;have y0:cX w7 b 0=some (pX ra.tp):=C7.run.get_tp;have y11:cX w7 b 11=some (iX ra.state):=C7.run.get_state;have y84:cX w7 b 84=some (iX ra.rule):=C7.run.get_rule;have z84:=C7.run.frozen 84;have y82:cX w7 b 82=some (iX ra.taken):=C7.run.get_taken;have y83:cX w7 b 83=some (iX ra.length):=C7.run.get_length;have z83:=C7.run.frozen 83;have nb9:b9≠b:=(C7.safe _ hb9).2;have ntp:ra.tp≠b:=(C7.safe _ C7.tab.safe).2;go_wp2_with fail;go_region
     all_goals
      go_wp2_with fail;obtain⟨wm,hwm,CM,KM⟩:∃wm,wm=((w7.setCell ⟨b,84,none⟩ (iX ee)).setCell ⟨b,83,none⟩ (iX (ra.taken:Nat))).drew/\Hid (Cv H b S t wm (ra.marked t) v (es0++es))/\Hid (Keep H b w wm):=by
       have d1:=Cx.stored C7 84 _ (C7.run.set_rule ee) rfl;have d2:=d1.stored 83 _ (d1.run.set_length ra.taken) rfl;exact⟨_,rfl,by show Cv _ _ _ _ _ _ _ _;rw[HMR.out];exact Cx.alike d2 ⟨rfl,rfl,rfl⟩,((K7.trans (Keep.set _ _ _)).trans (Keep.set _ _ _)).trans (Keep.drew _)⟩
      rw[<-hwm];clear hwm y0 y11 y84 z84 y82 y83 z83 x9 x9' C7 K7;have HM:Hid ((ra.marked t).Oth t P/\True):=⟨ra.marked_oth t P ok HRA.1,trivial⟩
      generalize ra.marked t=rm at *;have y0:cX wm b 0=some (pX rm.tp):=CM.run.get_tp;have y11:cX wm b 11=some (iX rm.state):=CM.run.get_state;obtain⟨_,h10,b10,o10,cap10,hb10,rfl,hcap10,hml10,hL10⟩:=CM.tab.c10;have hsm:=HM.1.ok.state;have hx10:cX wm b10 (o10+rm.state)=some (bool (t.live rm.state)):=hL10 _ hsm;have im:(rm.state:Int)<(t.nst:Int):=by omega
      clear hL10;cases hlv:t.live rm.state with
      |true=>
       rw[hlv] at hx10;have HE:Hid (r.heldStep t=(rm,[])):=by show _=_;rw[HSTEP.out,if_pos hlv]
       clear hlv;go_wp2_with fail;go_quiet (fail);obtain⟨w9,hw9,C9,K9⟩:∃w9,w9=wm.drewN nq/\Hid (Cv H b S t w9 rm v (es0++es))/\Hid (Keep H b w w9):=⟨_,rfl,Cx.alike (w':=wm.drewN nq) CM ⟨rfl,rfl,rfl⟩,KM.trans (Keep.alike ⟨rfl,rfl,rfl⟩)⟩
       rw[<-hw9];clear hw9;go_wp2_with fail;have hI:=INV.out;rw[HE.out] at hI;have hB:=AA.2.2.2.2.2;rw[HOP.out] at hB;go_roundg rm.todo
       case measure=>rw[AA.out.1];exact hI.2.2.2
       case rel=>exact⟨n+1,rm,es,v,rfl,by rw[HNX.out,HE.out,gG],C9,K9,hI.1,by have h2:0+rm.count+xN rm.opn<=r.count+1:=hI.2.1;have h3:(es0++es).length+r.count+1<=C:=hB;omega⟩
      |false=>
       rw[hlv] at hx10;have HE:Hid (r.heldStep t=rm.long t):=by show _=_;rw[HSTEP.out,if_neg (by rw[hlv];decide)]
       clear hlv;go_wp2_with fail;go_quiet (fail);obtain⟨w9,hw9,C9,K9⟩:∃w9,w9=wm.drewN nq/\Hid (Cv H b S t w9 rm v (es0++es))/\Hid (Keep H b w w9):=⟨_,rfl,Cx.alike (w':=wm.drewN nq) CM ⟨rfl,rfl,rfl⟩,KM.trans (Keep.alike ⟨rfl,rfl,rfl⟩)⟩
       rw[<-hw9];clear hw9 y0 y11 h10 hx10;have hI:=INV.out;rw[HE.out] at hI;have hB:=AA.2.2.2.2.2;rw[HOP.out] at hB;have hB2:(es0++es).length+r.count+1<=C:=hB;have hpp:=HM.1.pos;have hll:=HM.1.line;have hcl:=HM.1.col;have HLG:Hid (Ca 119 #[pX b] w9 λe w'=>e=returned (tuple #[])/\∃v,Cv H b S t w' (rm.long t).1 v ((es0++es)++(rm.long t).2)/\Keep H b w9 w'):=zBC b H S t w9 rm (es0++es) C9 (by omega) ok hact HM.1.ok (lY HM.1.len HM.1.tak) HM.1.rule (by omega) (by omega) (by omega);have HI:Hid ((rm.long t).1.Oth t P/\(rm.long t).2.length+(rm.long t).1.count+xN (rm.long t).1.opn<=r.count+1/\((rm.long t).1.opn=true\/(rm.long t).2≠[])/\(rm.long t).1.todo<r.todo):=hI;clear hI hB hpp hll hcl;go_wp2_with fail;refine Calls.mono HLG ?_;rintro e w10 ⟨rfl,v10,c10,k10⟩;have CZ:Hid (Cv H b S t w10 (rm.long t).1 v10 (es0++(es++(rm.long t).2))/\Keep H b w w10):=⟨by rw[<-hJ];exact c10,K9.trans k10⟩
       clear c10 k10 HLG;go_wp2_with fail;go_roundg (rm.long t).1.todo
       case measure=>rw[AA.out.1];exact HI.2.2.2
       case rel=>exact⟨n+1,(rm.long t).1,es++(rm.long t).2,v10,rfl,by rw[HNX.out,HE.out],CZ.1,CZ.2,HI.1,by have h2:=HI.2.1;rw[kX,kX];rw[kX] at hB2;omega⟩
  ·have HE:Hid (¬(r.taken<r.count/\r.opn=true)):=hcond
   have fin_:Hid (∃v m,Cv H b S t wr (r0.heldN t m).1 v (es0++(r0.heldN t m).2)/\Keep H b w wr/\(r0.heldN t m).1.Oth t P/\(es0++(r0.heldN t m).2).length+(r0.heldN t m).1.count+xN (r0.heldN t m).1.opn<=C/\¬((r0.heldN t m).1.taken<(r0.heldN t m).1.count/\(r0.heldN t m).1.opn=true)):=by
    refine⟨v,n,?_⟩;rw[AA.out.2.1];exact⟨AA.2.2.1,AA.2.2.2.1,AA.2.2.2.2.1,AA.2.2.2.2.2,HE⟩
   by_cases hlt:r.taken<r.count
   ·have i1:(r.taken:Int)<(r.count:Int):=by omega
    have hop:r.opn=false:=by
     cases h:r.opn with
     |false=>rfl
     |true=>exact absurd ⟨hlt,h⟩ hcond
    rw[hop] at y1;clear hop hcond;go_wp2_with fail;go_quiet (fail);obtain⟨w1,hw1,FN⟩:∃w1,w1=wr.drewN nq/\Hid (∃v m,Cv H b S t w1 (r0.heldN t m).1 v (es0++(r0.heldN t m).2)/\Keep H b w w1/\(r0.heldN t m).1.Oth t P/\(es0++(r0.heldN t m).2).length+(r0.heldN t m).1.count+xN (r0.heldN t m).1.opn<=C/\¬((r0.heldN t m).1.taken<(r0.heldN t m).1.count/\(r0.heldN t m).1.opn=true)):=by
     obtain⟨v,m,f1,f2,f3⟩:=fin_;exact⟨_,rfl,v,m,Cx.alike (w':=wr.drewN nq) f1 ⟨rfl,rfl,rfl⟩,f2.trans (Keep.alike ⟨rfl,rfl,rfl⟩),f3⟩
    rw[<-hw1];clear hw1 fin_;go_wp2_with fail;go_end0;exact⟨rfl,FN⟩
   ·have i1:(r.count:Int)<=(r.taken:Int):=by omega
    clear hcond;go_wp2_with fail;go_quiet (fail);obtain⟨w1,hw1,FN⟩:∃w1,w1=wr.drewN nq/\Hid (∃v m,Cv H b S t w1 (r0.heldN t m).1 v (es0++(r0.heldN t m).2)/\Keep H b w w1/\(r0.heldN t m).1.Oth t P/\(es0++(r0.heldN t m).2).length+(r0.heldN t m).1.count+xN (r0.heldN t m).1.opn<=C/\¬((r0.heldN t m).1.taken<(r0.heldN t m).1.count/\(r0.heldN t m).1.opn=true)):=by
     obtain⟨v,m,f1,f2,f3⟩:=fin_;exact⟨_,rfl,v,m,Cx.alike (w':=wr.drewN nq) f1 ⟨rfl,rfl,rfl⟩,f2.trans (Keep.alike ⟨rfl,rfl,rfl⟩),f3⟩
    rw[<-hw1];clear hw1 fin_;go_wp2_with fail;go_end0;exact⟨rfl,FN⟩
end Go.Proofs.YtbjcfkdnjaiclaaGreat
