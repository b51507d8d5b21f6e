import Derived.Deep.DrawnRows
import Derived.Deep.RegionLaw
import Derived.Test.YtbjcfkdnjaiclaaGreatB0
import Derived.Test.YtbjcfkdnjaiclaaGreatB17
/- Parts of the proof. -/
set_option linter.unusedVariables false
set_option linter.unusedSimpArgs false
set_option maxHeartbeats 4000000
set_option maxRecDepth 100000
namespace Go.Proofs.YtbjcfkdnjaiclaaGreat
open Go.RowKit Go.Proofs.Tryz Go.World
section
attribute [local go_sem ↓] Go.wp_at_zero Go.wp_at_succ
def zJ3 (w:World)(d:Nat)(v:Value)(l:List Tr):Prop:=∃ao cap,v=.slice ao l.length cap∧l.length<=cap∧cap<=maxLen∧∀i,i<l.length->∃g o p,ao=some ⟨g,o,none⟩∧In w g∧w.cell? ⟨g,o+i,none⟩=some (.pointer (some ⟨p,0,none⟩))∧TreeAt w d p (l.getD i Tr.none)
theorem zKE (w:World)(d:Nat)(v:Value)(rules:List Tr)(hT:zJ3 w d v rules)(h8:rules.length<=8)(hl:zW (yN d) rules rules.length<=24):
  Calls prog 60 #[v] w fun e w'=>∃nb,e=.returned (.pointer (some ⟨nb,0,none⟩))∧NwIs w w' nb (xK d rules rules.length):=by
 obtain⟨i0,hi0,hz0,hz1,hz2⟩:=info_parts yH;obtain⟨ib,hib,hb0,hb1,hb2⟩:=info_parts qP;obtain⟨ao,cap,rfl,_,_,hpc⟩:=hT;have HPT:Hid (∀wr n2,NwIs w wr w.heap.size n2->∀i,i<rules.length->∃g o p,ao=some ⟨g,o,none⟩∧wr.cell? ⟨g,o+i,none⟩=some (.pointer (some ⟨p,0,none⟩))∧TreeAt w d p (rules.getD i Tr.none)):=by
  rintro wr n2 ⟨_,_,_,_,_,hN⟩ i hi;obtain⟨g,o,p,ha,hgi,hc,hti⟩:=hpc i hi;exact⟨g,o,p,ha,zA hc hgi hN.keep,hti⟩
 obtain⟨w1,hw1,HN1⟩:∃w1,w1=w.alloc (.cells #[.slice none 0 0,.slice none 0 0,.int .i64 0,.int .i64 0,.slice none 0 0,.slice none 0 0] 132)∧Hid (NwIs w w1 w.heap.size Nt.blank):=⟨_,rfl,_,_,_,_,_,Nw.begin w⟩
 have HTC:Hid (zCa w w.heap.size d (xC d) (yN d)):=zEK w w.heap.size d;obtain⟨LT,hLT⟩:∃LT,LT=xK d rules:=⟨_,rfl⟩
 have HLT:Hid (LT 0=Nt.blank∧(∀j,LT (j+1)=zLm (LT j).sets.length (xC d (LT j) (rules.getD j Tr.none)))∧(∀j,j<=rules.length->(LT j).Good∧(LT j).Laid j)∧(∀j,j<rules.length->(LT j).sets.length+yN d (rules.getD j Tr.none)<=24∧(xC d (LT j) (rules.getD j Tr.none)).1.Good∧(xC d (LT j) (rules.getD j Tr.none)).2.Small 24∧(xC d (LT j) (rules.getD j Tr.none)).1.first<16777216∧(xC d (LT j) (rules.getD j Tr.none)).1.ends<16777216∧(xC d (LT j) (rules.getD j Tr.none)).1.rules.length=j∧(xC d (LT j) (rules.getD j Tr.none)).1.empty.length=j)∧LT rules.length=xK d rules rules.length∧∀j,j<rules.length->(LT j).sets.length<=(xC d (LT j) (rules.getD j Tr.none)).1.sets.length):=by
  rw[hLT];have hm:∀j,j<=rules.length->zW (yN d) rules j<=24:=fun j hj=>lY (zCT _ rules j _ hj) hl;refine⟨rfl,fun j=>rfl,fun j hj=>⟨(zAG d rules j (hm j hj)).1,zBq d rules j (hm j hj)⟩,fun j hj=>?_,rfl,fun j hj=>?_⟩;rotate_left
  ·have h1:=zAG d rules j (hm j (by omega))
   have h2:zW (yN d) rules j+yN d (rules.getD j Tr.none)<=24:=hm (j+1) hj;have h3:=jU d (xK d rules j) (rules.getD j Tr.none) h1.1 (by omega);omega
  have h1:=zAG d rules j (hm j (by omega));have h2:zW (yN d) rules j+yN d (rules.getD j Tr.none)<=24:=hm (j+1) hj;have h3:=jU d (xK d rules j) (rules.getD j Tr.none) h1.1 (by omega);obtain⟨s1,s2,s3,s4⟩:=zFe d (xK d rules j) (rules.getD j Tr.none);have h4:=zBq d rules j (hm j (by omega));have hp:2^(xK d rules j).sets.length<=2^24:=kG (by omega) h1.1.len;exact⟨by omega,h3.1,h3.2.2.up (by omega),by rw[s1];exact lZ h4.first hp,by rw[s2];exact lZ h4.ends hp,by rw[s3];exact h4.rlen,by rw[s4];exact h4.elen⟩
 have HNC:Hid (∀wr n2,NwIs w wr w.heap.size n2->∃sa sc,wr.cell? ⟨w.heap.size,0,none⟩=some (.slice sa n2.sets.length sc)):=by
  rintro wr n2 ⟨sv,_,_,_,_,hN⟩;obtain⟨sa,sc,hsv⟩:=zE hN.sOwn;exact⟨sa,sc,by rw[<-hsv];exact hN.cells.1⟩
 generalize xK d rules rules.length=LE at *;clear hLT hl hpc;go_enter func60,ntmps60
 refine wp_seq_k ?_;intro K0 hK0;have J:Hid (∀a w,_->K0 a w):=hK0;clear hK0;go_wp2_with fail;apply J.out;clear J;refine wp_seq_k ?_;intro K0 hK0;have J:Hid (∀a w,_->K0 a w):=hK0;clear hK0;go_wp2_with fail;apply J.out;clear J;rw[<-hw1];clear hw1;go_wp2_with fail;go_loopg [12] rules.length (fun q i wr=>∃j:Nat,q=rules.length-j∧j<=rules.length∧i=.int .i64 (j:Int)∧NwIs w wr w.heap.size (LT j))
 case atStart=>exact⟨0,rfl,lX,rfl,by rw[HLT.out.1];exact HN1.out⟩
 case round=>
  obtain⟨j,hgk,hj,rfl,hN⟩:=hrel;have HB:Hid (gk=rules.length-j∧NwIs w wr w.heap.size (LT j)):=⟨hgk,hN⟩
  by_cases hj2:j<rules.length
  ·have i1:(j:Int)<(rules.length:Int):=by omega
   obtain⟨g,o,p,rfl,hc,hti⟩:=HPT.out wr _ hN j hj2;obtain⟨b1,b2,b3,b4,b5,b6,b7⟩:=HLT.out.2.2.2.1 j hj2;obtain⟨g1,g2⟩:=HLT.out.2.2.1 j hj;have HC0:=HTC.out wr (LT j) p (rules.getD j Tr.none) hN g1 hti b1;have HNX:Hid (LT (j+1)=zLm (LT j).sets.length (xC d (LT j) (rules.getD j Tr.none))):=HLT.out.2.1 j;obtain⟨sa,sc,y0⟩:=HNC.out wr _ hN;have hBL:=g1.len;have hBq0:(LT j).sets.length<=(xC d (LT j) (rules.getD j Tr.none)).1.sets.length:=HLT.out.2.2.2.2.2 j hj2;clear hgk hN hti b1 g1 g2;generalize (LT j).sets.length=B at *;generalize xC d (LT j) (rules.getD j Tr.none)=q at *;obtain⟨q1,⟨qf,ql,qe⟩⟩:=q;have b2':q1.sets.length<=24:=b2.len;have l3:qf<16777216:=b3.first
   have l4:ql<16777216:=b3.last;have b4':q1.first<16777216:=b4
   have b5':q1.ends<16777216:=b5;have b6':q1.rules.length=j:=b6;have b7':q1.empty.length=j:=b7;have HC:Hid (Calls prog 89 #[.pointer (some ⟨w.heap.size,0,none⟩),.pointer (some ⟨p,0,none⟩)] wr fun e w'=>e=.returned (.agg #[.int .i64 (qf:Int),.int .i64 (ql:Int),.bool qe])∧NwIs w w' w.heap.size q1∧StayS wr w'):=HC0;have HNX2:Hid (LT (j+1)={q1 with first:=q1.first|||qf,ends:=q1.ends|||ql,rules:=q1.rules++[2^q1.sets.length-2^B],empty:=q1.empty++[qe]}):=HNX.out;clear HC0 HNX b2 b3 b4 b5 b6 b7;go_wp2_with (first|(go_at_call 89;refine HC.out.mono ?_;rintro e w5 ⟨rfl,⟨sv,fv,rv,ev,ps,hN5⟩,hS5⟩;have HN5:Hid (Nw w w5 w.heap.size q1 sv fv rv ev ps):=hN5;clear hN5 hS5))
   obtain⟨w6,hw6,HN6,HB6⟩:∃w6,w6=w5.alloc (.cells #[.int .i64 (qf:Int),.int .i64 (ql:Int),.bool qe] 167)∧Hid (Nw w w6 w.heap.size q1 sv fv rv ev ps)∧Hid (w6.heap[w5.heap.size]? =some (.cells (Sn.mk qf ql qe).cells 167)):=⟨_,rfl,HN5.out.grown (kZ _ _ lQ),gG _ _⟩
   rw[<-hw6];clear hw6 HN5 y0 hc;generalize w5.heap.size=b8 at *;obtain⟨c0,c1,c2,c3,c4,c5,cf⟩:=HN6.out.cells;obtain⟨d0,d1,d2,-⟩:=zF HB6.out;have cf2:=cf 2;have hor1:bits .or .i64 (q1.first:Int) (qf:Int)=((q1.first|||qf:Nat):Int):=yK _ _ (by omega) (by omega);have hor2:bits .or .i64 (q1.ends:Int) (ql:Int)=((q1.ends|||ql:Nat):Int):=yK _ _ (by omega) (by omega);clear cf;go_region;obtain⟨w7,hw7,HN7,HB7⟩:∃w7,w7=(w6.setCell ⟨w.heap.size,2,none⟩ (.int .i64 ((q1.first|||qf:Nat):Int))).drew∧Hid (Nw w w7 w.heap.size {q1 with first:=q1.first|||qf} sv fv rv ev ps)∧Hid (w7.heap[b8]? =some (.cells (Sn.mk qf ql qe).cells 167)):=by
    have h:=HN6.out.setFirst (q1.first|||qf);exact⟨_,rfl,h.1.grown (Keep.drew _),h.2 _ _ HB6.out⟩
   rw[<-hw7];clear hw7 c0 c1 c2 c3 c4 c5 d0 d1 d2 cf2 HN6 HB6;obtain⟨c0,c1,c2,c3,c4,c5,cf⟩:=HN7.out.cells;obtain⟨d0,d1,d2,-⟩:=zF HB7.out;have cf3:=cf 3;clear cf;go_wp2_with fail;go_region;obtain⟨w8,hw8,HN8,HB8⟩:∃w8,w8=(w7.setCell ⟨w.heap.size,3,none⟩ (.int .i64 ((q1.ends|||ql:Nat):Int))).drew∧Hid (Nw w w8 w.heap.size {q1 with first:=q1.first|||qf,ends:=q1.ends|||ql} sv fv rv ev ps)∧Hid (w8.heap[b8]? =some (.cells (Sn.mk qf ql qe).cells 167)):=by
    have h:=HN7.out.setEnds (q1.ends|||ql);exact⟨_,rfl,h.1.grown (Keep.drew _),h.2 _ _ HB7.out⟩
   rw[<-hw8];clear hw8 c0 c1 c2 c3 c4 c5 d0 d1 d2 cf3 HN7 HB7 hor1 hor2;go_wp2_with fail;have hpl:q1.sets.length<=24:=b2';have hBq:B<=q1.sets.length:=hBq0;obtain⟨P1,hP1e⟩:∃P1:Nat,P1=2^q1.sets.length:=⟨_,rfl⟩
   obtain⟨P2,hP2e⟩:∃P2:Nat,P2=2^B:=⟨_,rfl⟩
   have hP1:P1<=16777216:=by rw[hP1e];exact(kG (by omega) hpl:2^q1.sets.length<=2^24)
   have hP2:P2<=16777216:=by rw[hP2e];exact(kG (by omega) hBL:2^B<=2^24)
   have hP3:P2<=P1:=by rw[hP1e,hP2e];exact kG (by omega) hBq
   obtain⟨R,hR⟩:∃R:Nat,R=P1-P2:=⟨_,rfl⟩
   have hR1:(P1:Int)-(P2:Int)=(R:Int):=by omega
   have hR0:R<16777217:=by omega
   have HR:Hid (R=P1-P2):=hR;have HX:Hid ((IntKind.i64.wrap (IntKind.i64.wrap ((2:Int)^q1.sets.length)-IntKind.i64.wrap ((2:Int)^B)))=(R:Int)):=by
    show _=_;have e1:((2:Int)^q1.sets.length)=(P1:Int):=by rw[hP1e];simp
    have e2:((2:Int)^B)=(P2:Int):=by rw[hP2e];simp
    rw[e1,e2,zAQ (P1:Int) (by omega) (by omega),zAQ (P2:Int) (by omega) (by omega),hR1];exact zAQ _ (by omega) (by omega)
   have HPP:Hid (P1=2^q1.sets.length∧P2=2^B):=⟨hP1e,hP2e⟩
   clear hP1e hP2e;obtain⟨sa2,sc2,hsv⟩:=zE HN8.out.sOwn;obtain⟨ra,rc,hrv⟩:=HN8.out.rOwn.form;obtain⟨ea,ec,hev⟩:=zE HN8.out.eOwn;rw[zM] at hrv;have hrv2:rv=.slice ra j rc:=by rw[hrv];show Value.slice ra q1.rules.length rc=_;rw[b6']
   have hev2:ev=.slice ea j ec:=by rw[hev];show Value.slice ea q1.empty.length ec=_;rw[b7']
   have hsv2:sv=.slice sa2 q1.sets.length sc2:=hsv;clear hsv hrv hev;subst hsv2 hrv2 hev2;obtain⟨c0,-,-,-,c4,c5,cf⟩:=HN8.out.cells;have cf4:=cf 4;have hlt:=HN8.out.lt;have hH8:w.heap.size<=w8.heap.size:=HN8.out.keep.size;have HNP:Hid (some w.heap.size≠(Value.slice ra j rc).ownBlock):=HN8.out.box.2.2.1;have OW:w8.ownsRow w.heap.size 3 1 (.slice ra j rc) j ((ints q1.rules).map fun x=>.int .i64 x):=by
    have:=HN8.out.rOwn;unfold OwnI at this;rw[zM] at this;have h2:w8.ownsRow w.heap.size 3 1 (.slice ra j rc) q1.rules.length ((ints q1.rules).map fun x=>.int .i64 x):=this;rw[b6'] at h2;exact h2
   obtain⟨d0,d1,d2,-⟩:=zF HB8.out;clear cf hR hP1 hP2 hP3 hBq hBq0 hR1;go_region_law ((refine step_append_lies _ (by rfl) (.tmp 46) (.tmp 56) 45 (by rfl) w.heap.size 3 i0 _ 1 8 underlying45 hi0 hz0 hz1 hz2 rfl (by decide) (.slice ra j rc) j ((ints q1.rules).map fun x=>.int .i64 x) (by simp[Act.eval,Act.put]) ((OW.alloc _).drew) ⟨w8.heap.size,0,none⟩ 1 1 [.int .i64 (IntKind.i64.wrap (IntKind.i64.wrap ((2:Int)^q1.sets.length)-IntKind.i64.wrap ((2:Int)^B)))] (by simp[Act.eval,Act.put]) (by rfl) (news_of_block (cs:=#[.int .i64 (IntKind.i64.wrap (IntKind.i64.wrap ((2:Int)^q1.sets.length)-IntKind.i64.wrap ((2:Int)^B)))]) (t:=3) (fr:=(0,0)) (gG w8 _)) (by simp[Value.oneCell']) (by decide) (by unfold maxLen;omega) (by omega) (by simp;omega) (w8.heap.size+1) (by simp) ?_;intro gg cap2 w9 hown hgrow hat hlt9;have hPB:=hgrow.block w.heap.size (by simp;omega) HNP.out;have c4b:w9.cell? ⟨w.heap.size,4,none⟩=some (.slice ra j rc):=(cell?_of_block hPB).trans ((cell?_alloc_past _ _ _ hlt).trans c4);have cf4b:w9.frozen? ⟨w.heap.size,4,none⟩=false:=(frozen?_of_block hPB).trans ((frozen?_alloc_past _ _ _ hlt).trans cf4)))
   all_goals
    rw[HX.out] at hown;have HN9:Hid (Nw w (w9.setCell ⟨w.heap.size,4,none⟩ (.slice (some ⟨gg,0,none⟩) (j+1) cap2)) w.heap.size {q1 with first:=q1.first|||qf,ends:=q1.ends|||ql,rules:=q1.rules++[R]} (.slice sa2 q1.sets.length sc2) fv (.slice (some ⟨gg,0,none⟩) (j+1) cap2) (.slice ea j ec) ps∧StayS w8.drew (w9.setCell ⟨w.heap.size,4,none⟩ (.slice (some ⟨gg,0,none⟩) (j+1) cap2))):=(HN8.out.grown (Keep.drew _)).addRule (o:=Obj.cells #[.int .i64 (IntKind.i64.wrap (IntKind.i64.wrap ((2:Int)^q1.sets.length)-IntKind.i64.wrap ((2:Int)^B)))] 3) b6'.symm hown hgrow (by
     rcases hat with ha|ha
     ·exact .inl ha
     ·right;show w8.heap.size<=gg;omega)
    have HB9:Hid ((w9.setCell ⟨w.heap.size,4,none⟩ (.slice (some ⟨gg,0,none⟩) (j+1) cap2)).heap[b8]? =some (.cells (Sn.mk qf ql qe).cells 167)):=HN9.out.2 _ _ HB8.out;clear hown hgrow hat hlt9 hPB c4b cf4b OW c0 c4 c5 cf4 d0 d1 d2 HX HN8 HB8 HNP;generalize w9.setCell ⟨w.heap.size,4,none⟩ (.slice (some ⟨gg,0,none⟩) (j+1) cap2)=w10 at *;obtain⟨-,-,-,-,-,c5,cf⟩:=HN9.out.1.cells;have cf5:=cf 5;have hlt10:=HN9.out.1.lt;have hH10:w.heap.size<=w10.heap.size:=HN9.out.1.keep.size;have HNE:Hid (some w.heap.size≠(Value.slice ea j ec).ownBlock):=HN9.out.1.box.2.2.2;have OE:w10.ownsRow w.heap.size 4 1 (.slice ea j ec) j (q1.empty.map fun x=>.bool x):=by
     have:=HN9.out.1.eOwn;unfold OwnB at this;have h2:w10.ownsRow w.heap.size 4 1 (.slice ea j ec) q1.empty.length (q1.empty.map fun x=>.bool x):=this;rw[b7'] at h2;exact h2
    obtain⟨d0,d1,d2,-⟩:=zF HB9.out;clear cf;go_wp2_with fail;go_region_law ((refine step_append_lies _ (by rfl) (.tmp 64) (.tmp 67) 28 (by rfl) w.heap.size 4 ib _ 1 1 underlying28 hib hb0 hb1 hb2 rfl (by decide) (.slice ea j ec) j (q1.empty.map fun x=>.bool x) (by simp[Act.eval,Act.put]) ((OE.alloc _).drew) ⟨w10.heap.size,0,none⟩ 1 1 [.bool qe] (by simp[Act.eval,Act.put]) (by rfl) (news_of_block (cs:=#[.bool qe]) (t:=4) (fr:=(0,0)) (gG w10 _)) (by simp[Value.oneCell']) (by decide) (by unfold maxLen;omega) (by omega) (by simp;omega) (w10.heap.size+1) (by simp) ?_;intro g5 cap5 w11 hown5 hgrow5 hat5 hlt11;have hPB5:=hgrow5.block w.heap.size (by simp;omega) HNE.out;have c5b:w11.cell? ⟨w.heap.size,5,none⟩=some (.slice ea j ec):=(cell?_of_block hPB5).trans ((cell?_alloc_past _ _ _ hlt10).trans c5);have cf5b:w11.frozen? ⟨w.heap.size,5,none⟩=false:=(frozen?_of_block hPB5).trans ((frozen?_alloc_past _ _ _ hlt10).trans cf5)))
    all_goals
     have HN12:Hid (NwIs w (w11.setCell ⟨w.heap.size,5,none⟩ (.slice (some ⟨g5,0,none⟩) (j+1) cap5)) w.heap.size (LT (j+1))):=by
      have h:=(HN9.out.1.grown (Keep.drew _)).addEmpty (o:=Obj.cells #[.bool qe] 4) b7'.symm hown5 hgrow5 (by
       rcases hat5 with ha|ha
       ·exact .inl ha
       ·right;show w10.heap.size<=g5;omega)
      show NwIs _ _ _ (LT (j+1));rw[HNX2.out,<-HPP.out.1,<-HPP.out.2,<-HR.out];exact⟨_,_,_,_,_,h.1⟩
     clear hown5 hgrow5 hat5 hlt11 hPB5 c5b cf5b OE c5 cf5 d0 d1 d2;go_wp2_with fail;go_roundg (rules.length-(j+1))
     case measure=>rw[HB.out.1];omega
     case rel=>exact⟨j+1,rfl,by omega,by go_num,HN12.out⟩
  ·have i1:(rules.length:Int)<=(j:Int):=by omega
   have e:j=rules.length:=by omega
   subst e;rw[HLT.out.2.2.2.2.1] at hN;clear hgk;go_wp2_with fail;go_ret;exact⟨_,rfl,hN⟩
end
def xF (c:Nat):Bool:=decide (48<=c)&&decide (c<=57)
def zCi (c:Nat):Bool:=(decide (97<=c)&&decide (c<=122))||(decide (65<=c)&&decide (c<=90))
def isPrintedB (c:Nat):Bool:=decide (32<=c)&&decide (c<=126)
theorem zAa (w:World)(c:Nat):Calls prog 206 #[.int .u8 (c:Int)] w fun e w'=>e=.returned (.bool (xF c))∧w'=w:=by
 have hv:xF c=(decide (48<=c)&&decide (c<=57)):=rfl;rcases(show c<48∨(48<=c∧c<=57)∨(48<=c∧57<c) by omega) with h|⟨h,h2⟩|⟨h,h2⟩
 all_goals
  have HV:=vl hv;clear hv
  try have i1:(c:Int)<48:=by omega
  try have i1:(c:Int)>=48:=by omega
  try have i2:(c:Int)<=57:=by omega
  try have i2:57<(c:Int):=by omega
  go_in;go_wp2;go_ret;exact⟨by rw[HV.out];first|(simp;done)|(simp;omega)|(simp;rw[Bool.eq_iff_iff];simp;omega),rfl⟩
theorem zBE (w:World)(c:Nat):Calls prog 218 #[.int .u8 (c:Int)] w fun e w'=>e=.returned (.bool (isPrintedB c))∧w'=w:=by
 have hv:isPrintedB c=(decide (32<=c)&&decide (c<=126)):=rfl;rcases(show c<32∨(32<=c∧c<=126)∨(32<=c∧126<c) by omega) with h|⟨h,h2⟩|⟨h,h2⟩
 all_goals
  have HV:=vl hv;clear hv
  try have i1:(c:Int)<32:=by omega
  try have i1:(c:Int)>=32:=by omega
  try have i2:(c:Int)<=126:=by omega
  try have i2:126<(c:Int):=by omega
  go_in;go_wp2;go_ret;exact⟨by rw[HV.out];first|(simp;done)|(simp;omega)|(simp;rw[Bool.eq_iff_iff];simp;omega),rfl⟩
theorem zFi (w:World)(c:Nat):Calls prog 217 #[.int .u8 (c:Int)] w fun e w'=>e=.returned (.bool (zCi c))∧w'=w:=by
 have hc:(c<65)∨(65<=c∧c<=90)∨(90<c∧c<97)∨(97<=c∧c<=122)∨(122<c):=by omega
 have hv:zCi c=((decide (97<=c)&&decide (c<=122))||(decide (65<=c)&&decide (c<=90))):=rfl;rcases hc with h|h|h|h|h
 all_goals
  have HV:=vl hv;clear hv
  try have i0:(c:Int)<97:=by omega
  try have i0:(c:Int)>=97:=by omega
  try have i1:(c:Int)<65:=by omega
  try have i1:(c:Int)>=65:=by omega
  try have i2:(c:Int)<=90:=by omega
  try have i2:90<(c:Int):=by omega
  try have i3:(c:Int)<=122:=by omega
  try have i3:122<(c:Int):=by omega
  go_in;go_wp2;go_ret;exact⟨by rw[HV.out];first|(simp;done)|(simp;omega)|(simp;rw[Bool.eq_iff_iff];simp;omega),rfl⟩
def zAJ (c:Nat):Bool:=!(c==92||c==124||c==40||c==41||c==91||c==93||c==123||c==125||c==42||c==43||c==63||c==46)&&isPrintedB c
theorem zCw (w:World)(c:Nat):Calls prog 212 #[.int .u8 (c:Int)] w fun e w'=>e=.returned (.bool (zAJ c))∧w'=w:=by
 have HP:Hid (∀w,Calls prog 218 #[.int .u8 (c:Int)] w fun e w'=>e=.returned (.bool (isPrintedB c))∧w'=w):=fun w=>zBE w c;by_cases hq:c=92∨c=124∨c=40∨c=41∨c=91∨c=93∨c=123∨c=125∨c=42∨c=43∨c=63∨c=46
 ·rcases hq with rfl|rfl|rfl|rfl|rfl|rfl|rfl|rfl|rfl|rfl|rfl|rfl
  all_goals
   go_in;go_wp2;go_ret;exact⟨rfl,rfl⟩
 obtain⟨h0,h1,h2,h3,h4,h5,h6,h7,h8,h9,h10,h11⟩:¬c=92∧¬c=124∧¬c=40∧¬c=41∧¬c=91∧¬c=93∧¬c=123∧¬c=125∧¬c=42∧¬c=43∧¬c=63∧¬c=46:=by omega
 have HV:Hid (zAJ c=isPrintedB c):=by
  show _=_;unfold zAJ;simp[h0,h1,h2,h3,h4,h5,h6,h7,h8,h9,h10,h11]
 have e0:((c:Int)==92)=false:=by rw[gQ];omega
 have e1:((c:Int)==124)=false:=by rw[gQ];omega
 have e2:((c:Int)==40)=false:=by rw[gQ];omega
 have e3:((c:Int)==41)=false:=by rw[gQ];omega
 have e4:((c:Int)==91)=false:=by rw[gQ];omega
 have e5:((c:Int)==93)=false:=by rw[gQ];omega
 have e6:((c:Int)==123)=false:=by rw[gQ];omega
 have e7:((c:Int)==125)=false:=by rw[gQ];omega
 have e8:((c:Int)==42)=false:=by rw[gQ];omega
 have e9:((c:Int)==43)=false:=by rw[gQ];omega
 have e10:((c:Int)==63)=false:=by rw[gQ];omega
 have e11:((c:Int)==46)=false:=by rw[gQ];omega
 generalize isPrintedB c=b at *;go_in;go_wp2_with (first|(go_at_call 218;refine(HP.out _).mono ?_;rintro e w9 ⟨rfl,hw9⟩;have hw8:=hw9.symm;subst hw8))
 go_ret;exact⟨by rw[HV.out];rfl,rfl⟩
def vW (c:Nat):Int:=if xF c then(c:Int)-48 else if 97<=c∧c<=102 then(c:Int)-87 else -1
theorem zFm (w:World)(c:Nat)(h8:c<256):Calls prog 220 #[.int .u8 (c:Int)] w fun e w'=>e=.returned (.int .i64 (vW c))∧w'=w:=by
 have HP0:Hid (∀w,Calls prog 206 #[.int .u8 (c:Int)] w fun e w'=>e=.returned (.bool (xF c))∧w'=w):=fun w=>zAa w c;by_cases hd:48<=c∧c<=57
 ·have hdb:xF c=true:=by unfold xF;simp;omega
  rw[hdb] at HP0;have HP:=vl HP0.out;have HV:Hid (vW c=(c:Int)-48):=by show _=_;unfold vW;rw[if_pos hdb]
  have hw:IntKind.u8.wrap ((c:Int)-48)=(c:Int)-48:=by rw[IntKind.wrap_u8];omega
  go_in;go_wp2_with (first|(go_at_call 206;refine(HP.out _).mono ?_;rintro e w9 ⟨rfl,hw9⟩;have hw8:=hw9.symm;subst hw8))
  go_ret;exact⟨by rw[HV.out];first|rfl|(simp [hw];done)|(simp;omega),rfl⟩
 ·have hdb:xF c=false:=by unfold xF;simp;omega
  rw[hdb] at HP0;have HP:=vl HP0.out;by_cases hh:97<=c∧c<=102
  ·have HV:Hid (vW c=(c:Int)-87):=by show _=_;unfold vW;rw[if_neg (by rw[hdb];decide),if_pos hh]
   have i1:(c:Int)>=97:=by omega
   have i2:(c:Int)<=102:=by omega
   have hw:IntKind.u8.wrap ((c:Int)-97)=(c:Int)-97:=by rw[IntKind.wrap_u8];omega
   go_in;go_wp2_with (first|(go_at_call 206;refine(HP.out _).mono ?_;rintro e w9 ⟨rfl,hw9⟩;have hw8:=hw9.symm;subst hw8))
   go_ret;exact⟨by rw[HV.out];first|rfl|(simp [hw];done)|(simp;omega),rfl⟩
  ·have HV:Hid (vW c=-1):=by show _=_;unfold vW;rw[if_neg (by rw[hdb];decide),if_neg hh]
   by_cases h97:97<=c
   ·have i1:(c:Int)>=97:=by omega
    have i2:102<(c:Int):=by omega
    go_in;go_wp2_with (first|(go_at_call 206;refine(HP.out _).mono ?_;rintro e w9 ⟨rfl,hw9⟩;have hw8:=hw9.symm;subst hw8))
    go_ret;exact⟨by rw[HV.out];rfl,rfl⟩
   ·have i1:(c:Int)<97:=by omega
    go_in;go_wp2_with (first|(go_at_call 206;refine(HP.out _).mono ?_;rintro e w9 ⟨rfl,hw9⟩;have hw8:=hw9.symm;subst hw8))
    go_ret;exact⟨by rw[HV.out];rfl,rfl⟩
def yY (c:Nat):Bool:=decide (97<=c)&&decide (c<=122)
theorem zCv (w:World)(c:Nat):Calls prog 181 #[.int .u8 (c:Int)] w fun e w'=>e=.returned (.bool (yY c))∧w'=w:=by
 by_cases h1:97<=c
 ·by_cases h2:c<=122
  ·have HV:Hid (yY c=true):=by show _=_;unfold yY;rw[decide_eq_true h1,decide_eq_true h2];rfl
   have i1:(c:Int)>=97:=by omega
   have i2:(c:Int)<=122:=by omega
   go_in;go_wp2;go_ret;exact⟨by rw[HV.out];first|rfl|(simp;done)|(simp;omega),rfl⟩
  ·have HV:Hid (yY c=false):=by show _=_;unfold yY;rw[decide_eq_true h1,decide_eq_false h2];rfl
   have i1:(c:Int)>=97:=by omega
   have i2:122<(c:Int):=by omega
   go_in;go_wp2;go_ret;exact⟨by rw[HV.out];first|rfl|(simp;done)|(simp;omega),rfl⟩
 ·have HV:Hid (yY c=false):=by show _=_;unfold yY;rw[decide_eq_false h1];rfl
  have i1:(c:Int)<97:=by omega
  go_in;go_wp2;go_ret;exact⟨by rw[HV.out];first|rfl|(simp;done)|(simp;omega),rfl⟩
def zHb (s:ByteArray)(c:Nat):Nat:=(List.range s.size).findIdx fun i=>byt s i==c
theorem zMO (s:ByteArray)(c j:Nat)(hj:j<s.size)(h:byt s j=c)(hn:∀i,i<j->byt s i≠c):zHb s c=j:=
 zDk _ _ j (by rw[List.length_range];exact hj) (by rw[qL _ _ hj];exact beq_iff_eq.2 h) fun k hk=>by rw[qL _ _ (by omega)];exact gQ.2 (hn k hk)
theorem zK0 (s:ByteArray)(c:Nat)(hn:∀i,i<s.size->byt s i≠c):zHb s c=s.size:=by
 have h:=zBb (List.range s.size) (fun i=>byt s i==c) fun k hk=>by
  rw[List.length_range] at hk;rw[qL _ _ hk];exact gQ.2 (hn k hk)
 rw[List.length_range] at h;exact h
def jW (s:ByteArray)(c:Nat):Bool:=decide (zHb s c<s.size)
def yM (s:ByteArray)(c:Nat):ByteArray:=if jW s c then s.extract 0 (zHb s c) else s
def qF (s:ByteArray)(c:Nat):ByteArray:=if jW s c then s.extract (zHb s c+1) s.size else⟨#[]⟩
theorem zCl (w:World)(s:ByteArray)(hs:s.size<=1048576)(c:Nat):
  Calls prog 86 #[.string s,.int .u8 (c:Int)] w fun e w'=>e=.returned (.tuple #[.string (yM s c),.string (qF s c),.bool (jW s c)])∧Grew w w':=by
 have H1:Hid (∀j,j<s.size->byt s j=c->(∀i,i<j->byt s i≠c)->zHb s c=j):=fun j=>zMO s c j;have H2:=vl <| zK0 s c;have HV:Hid (∀j,zHb s c=j->j<s.size->(jW s c=true∧yM s c=s.extract 0 j∧qF s c=s.extract (j+1) s.size)):=fun j e hj=>by
  have h1:jW s c=true:=by unfold jW;rw[e];exact decide_eq_true hj
  exact⟨h1,by unfold yM;rw[if_pos h1,e],by unfold qF;rw[if_pos h1,e]⟩
 have HN:Hid (zHb s c=s.size->(jW s c=false∧yM s c=s∧qF s c=⟨#[]⟩)):=fun e=>by
  have h1:jW s c=false:=by unfold jW;rw[e];exact decide_eq_false (by omega)
  exact⟨h1,by unfold yM;rw[if_neg (by rw[h1];decide)],by unfold qF;rw[if_neg (by rw[h1];decide)]⟩
 generalize jW s c=K at *;generalize yM s c=A at *;generalize qF s c=B at *;go_in;go_wp2;go_loopg [7] s.size (fun q i wr=>∃j:Nat,q=s.size-j∧j<=s.size∧i=.int .i64 (j:Int)∧(∀k,k<j->byt s k≠c)∧wr=w)
 case atStart=>exact⟨0,rfl,lX,rfl,fun k hk=>by omega,rfl⟩
 case round=>
  obtain⟨j,hgk,hj,rfl,hno,rfl⟩:=hrel;have HA:Hid (gk=s.size-j∧(∀k,k<j->byt s k≠c)):=⟨hgk,hno⟩
  by_cases hj2:j<s.size
  ·have i1:(j:Int)<(s.size:Int):=by omega
   have i0:¬(j:Int)<0:=by omega
   have hbe:=zDX s j hj2;clear hgk hno;by_cases hc:byt s j=c
   ·have HC:=vl <| HV.out j (H1.out j hj2 hc HA.out.2) hj2
    have ec:((byt s j:Int)==(c:Int))=true:=by rw[hc];exact beq_self_eq_true _
    have i3:(0:Int)<=(j:Int):=by omega
    have i4:(j:Int)<=(s.size:Int):=by omega
    have i5:(0:Int)<=(j:Int)+1:=by omega
    have i6:(j:Int)+1<=(s.size:Int):=by omega
    have HTN:Hid (((j:Int)+1).toNat=j+1):=by show _=_;omega
    generalize byt s j=x at *;go_wp2;go_quiet (fail);go_wp2;refine bodyPost_ret (v:=.tuple #[.string (s.extract 0 j),.string (s.extract (j+1) s.size),.bool true]) (by simp[results,results86,go_sem]) rfl ?_;exact⟨by rw[HC.out.1,HC.out.2.1,HC.out.2.2],Keep.alike (w':=wr.drewN nq) ⟨rfl,rfl,rfl⟩⟩
   ·have ec:((byt s j:Int)==(c:Int))=false:=by rw[gQ];omega
    have HNO:Hid (∀k,k<j+1->byt s k≠c):=fun k hk=>by
     by_cases e:k=j
     ·rw[e];exact hc
     ·exact HA.out.2 k (by omega)
    clear hc;generalize byt s j=x at *;go_wp2;go_roundg (s.size-(j+1))
    case measure=>rw[HA.out.1];omega
    case rel=>exact⟨j+1,rfl,by omega,by go_num,HNO.out,rfl⟩
  ·have i1:(s.size:Int)<=(j:Int):=by omega
   have HC:=vl <| HN.out (H2.out fun k hk=>hno k (by omega));clear hgk hno;go_wp2;refine bodyPost_ret (v:=.tuple #[.string s,.string ⟨#[]⟩,.bool false]) (by simp[results,results86,go_sem]) rfl ?_;exact⟨by rw[HC.out.1,HC.out.2.1,HC.out.2.2],Keep.refl _ _ _⟩
theorem zAo (s:ByteArray):s.toList.isEmpty=decide (s.size=0):=by
 rw[ByteArray.toList_eq];have e:s.size=s.data.toList.length:=rfl;cases h:s.data.toList with
 |nil=>rw[e,h];rfl
 |cons a l=>rw[e,h];rfl
def vU (c:Nat):Bool:=yY c||xF c
def xG (s:ByteArray):Bool:=decide (0<s.size)&&(decide (s.size<=6)&&(yY (byt s 0)&&decide (∀i,i<s.size->i=0∨vU (byt s i)=true)))
theorem vF (w:World)(s:ByteArray)(hs:s.size<=1048576):Calls prog 160 #[.string s] w fun e w'=>e=.returned (.bool (xG s))∧w'=w:=by
 have hE:=zAo s;by_cases h0:s.size=0
 ·have HV:Hid (xG s=false):=by show _=_;unfold xG;rw[decide_eq_false (show¬0<s.size by omega),Bool.false_and]
  rw[decide_eq_true h0] at hE;go_in;go_wp2;go_ret;exact⟨by rw[HV.out];rfl,rfl⟩
 rw[decide_eq_false h0] at hE;by_cases h6:6<s.size
 ·have HV:Hid (xG s=false):=by show _=_;unfold xG;rw[decide_eq_false (show¬s.size<=6 by omega),Bool.false_and,Bool.and_false]
  have i6:6<(s.size:Int):=by omega
  go_in;go_wp2;go_ret;exact⟨by rw[HV.out];rfl,rfl⟩
 have i6:(s.size:Int)<=6:=by omega
 have hz:0<s.size:=by omega
 have i0:(0:Int)<(s.size:Int):=by omega
 have hb0:=zDX s 0 hz;have HV0:Hid (xG s=(yY (byt s 0)&&decide (∀i,i<s.size->i=0∨vU (byt s i)=true))):=by show _=_;unfold xG;rw[decide_eq_true hz,decide_eq_true (show s.size<=6 by omega),Bool.true_and,Bool.true_and]
 have HS0:Hid (∀w,Calls prog 181 #[.int .u8 (byt s 0:Nat)] w fun e w'=>e=.returned (.bool (yY (byt s 0)))∧w'=w):=fun w=>zCv w (byt s 0);cases hsm:yY (byt s 0) with
 |false=>
  have HV:Hid (xG s=false):=by show _=_;rw[HV0.out,hsm,Bool.false_and]
  rw[hsm] at HS0;have HS1:=vl HS0;generalize byt s 0=c0 at *;go_in;go_wp2_with (first|(go_at_call 181;refine(HS1.out _).mono ?_;rintro e w9 ⟨rfl,hw9⟩;have hw8:=hw9.symm;subst hw8))
  go_ret;exact⟨by rw[HV.out];rfl,rfl⟩
 |true=>
  have HV:Hid (xG s=decide (∀i,i<s.size->i=0∨vU (byt s i)=true)):=by show _=_;rw[HV0.out,hsm,Bool.true_and]
  rw[hsm] at HS0;have HS1:=vl HS0;generalize xG s=V at *;go_in;apply wp_cut;intro K0 J;go_wp2;apply J.out;generalize byt s 0=c0 at hb0 HS1;apply wp_cut;intro K0 J;go_wp2_with (first|(go_at_call 181;refine(HS1.out _).mono ?_;rintro e w9 ⟨rfl,hw9⟩;have hw8:=hw9.symm;subst hw8))
  apply J.out;go_wp2;go_loopg [3] (s.size-1) (fun q i wr=>∃j:Nat,q=s.size-j∧1<=j∧j<=s.size∧i=.int .i64 (j:Int)∧(∀k,k<j->k=0∨vU (byt s k)=true)∧wr=w)
  case atStart=>exact⟨1,rfl,lQ,hz,rfl,fun k hk=>.inl (by omega),rfl⟩
  case round=>
   obtain⟨j,hgk,hj1,hj,rfl,hno,rfl⟩:=hrel;have HA:Hid (gk=s.size-j∧(∀k,k<j->k=0∨vU (byt s k)=true)):=⟨hgk,hno⟩
   by_cases hj2:j<s.size
   ·have i1:(j:Int)<(s.size:Int):=by omega
    have i2:¬(j:Int)<0:=by omega
    have hbe:=zDX s j hj2;have HSJ:Hid (∀w,Calls prog 181 #[.int .u8 (byt s j:Nat)] w fun e w'=>e=.returned (.bool (yY (byt s j)))∧w'=w):=fun w=>zCv w (byt s j);have HNO:Hid (vU (byt s j)=true->∀k,k<j+1->k=0∨vU (byt s k)=true):=fun h k hk=>by
     by_cases e:k=j
     ·rw[e];exact .inr h
     ·exact HA.out.2 k (by omega)
    have HNV:Hid (vU (byt s j)=false->V=false):=fun h=>by
     rw[HV.out];exact decide_eq_false fun hh=>by
      rcases hh j hj2 with h1|h1
      ·omega
      ·rw[h] at h1;cases h1
    generalize byt s j=c at *;cases hsj:yY c with
    |true=>
     rw[hsj] at HSJ;have HSK:=vl HSJ;have HN2:=HNO.out (by unfold vU;rw[hsj];rfl);go_wp2_with (first|(go_at_call 181;refine(HSK.out _).mono ?_;rintro e w9 ⟨rfl,hw9⟩;have hw8:=hw9.symm;subst hw8))
     go_roundg (s.size-(j+1))
     case measure=>rw[HA.out.1];omega
     case rel=>exact⟨j+1,rfl,by omega,by omega,by go_num,HN2,rfl⟩
    |false=>
     rw[hsj] at HSJ;have HSK:=vl HSJ;by_cases c1:c<48
     ·have d1:(c:Int)<48:=by omega
      have HN2:=vl <| HNV.out (by unfold vU xF;rw[hsj,decide_eq_false (show¬48<=c by omega)];rfl);go_wp2_with (first|(go_at_call 181;refine(HSK.out _).mono ?_;rintro e w9 ⟨rfl,hw9⟩;have hw8:=hw9.symm;subst hw8))
      go_ret;exact⟨by rw[HN2.out];rfl,rfl⟩
     by_cases c2:57<c
     ·have d1:¬(c:Int)<48:=by omega
      have d2:57<(c:Int):=by omega
      have HN2:=vl <| HNV.out (by unfold vU xF;rw[hsj,decide_eq_false (show¬c<=57 by omega),Bool.and_false];rfl);go_wp2_with (first|(go_at_call 181;refine(HSK.out _).mono ?_;rintro e w9 ⟨rfl,hw9⟩;have hw8:=hw9.symm;subst hw8))
      go_ret;exact⟨by rw[HN2.out];rfl,rfl⟩
     ·have d1:¬(c:Int)<48:=by omega
      have d2:¬57<(c:Int):=by omega
      have HN2:=HNO.out (by unfold vU xF;rw[hsj,decide_eq_true (show 48<=c by omega),decide_eq_true (show c<=57 by omega)];rfl);go_wp2_with (first|(go_at_call 181;refine(HSK.out _).mono ?_;rintro e w9 ⟨rfl,hw9⟩;have hw8:=hw9.symm;subst hw8))
      go_roundg (s.size-(j+1))
      case measure=>rw[HA.out.1];omega
      case rel=>exact⟨j+1,rfl,by omega,by omega,by go_num,HN2,rfl⟩
   ·have i1:(s.size:Int)<=(j:Int):=by omega
    have HN2:Hid (V=true):=by
     show _=_;rw[HV.out];exact decide_eq_true fun i hi=>hno i (by omega)
    go_wp2;go_ret;exact⟨by rw[HN2.out];rfl,rfl⟩
structure Ac where
 act:Nat
 name:ByteArray
 ok:Bool
def eqS (a b:ByteArray):Bool:=a.toList==b.toList
def zHW (s:ByteArray):Ac:=if byt s 0=62&&xG (s.extract 1 s.size) then⟨2,s.extract 1 s.size,true⟩ else⟨0,⟨#[]⟩,false⟩
def zA4 (s:ByteArray):Ac:=if s.size=0 then⟨0,⟨#[]⟩,false⟩ else if eqS s ⟨#[46]⟩ then⟨0,⟨#[]⟩,true⟩ else if eqS s ⟨#[45]⟩ then⟨1,⟨#[]⟩,true⟩ else if eqS s ⟨#[60]⟩ then⟨3,⟨#[]⟩,true⟩ else zHW s
theorem zCp (w:World)(s:ByteArray)(hs:s.size<=1048576):Calls prog 163 #[.string s] w fun e w'=>e=.returned (.tuple #[.int .i64 ((zA4 s).act:Int),.string (zA4 s).name,.bool (zA4 s).ok])∧Grew w w':=by
 have hE:=zAo s;have h46:(⟨#[46]⟩:ByteArray).toList=[46]:=by rw[ByteArray.toList_eq]
 have h45:(⟨#[45]⟩:ByteArray).toList=[45]:=by rw[ByteArray.toList_eq]
 have h60:(⟨#[60]⟩:ByteArray).toList=[60]:=by rw[ByteArray.toList_eq]
 by_cases h0:s.size=0
 ·have HV:Hid (zA4 s=⟨0,⟨#[]⟩,false⟩):=by show _=_;unfold zA4;rw[if_pos h0]
  rw[decide_eq_true h0] at hE;rw[HV.out];go_in;go_wp2;refine bodyPost_ret (v:=.tuple #[.int .i64 0,.string ⟨#[]⟩,.bool false]) (by simp[results,results163,go_sem]) rfl ?_;exact⟨rfl,Keep.refl _ _ _⟩
 rw[decide_eq_false h0] at hE;have HV0:Hid (zA4 s=if eqS s ⟨#[46]⟩ then⟨0,⟨#[]⟩,true⟩ else if eqS s ⟨#[45]⟩ then⟨1,⟨#[]⟩,true⟩ else if eqS s ⟨#[60]⟩ then⟨3,⟨#[]⟩,true⟩ else zHW s):=by show _=_;unfold zA4;rw[if_neg h0]
 cases e1:eqS s ⟨#[46]⟩ with
 |true=>
  have HV:Hid (zA4 s=⟨0,⟨#[]⟩,true⟩):=by show _=_;rw[HV0.out,e1];rfl
  have e2:(s.toList==[46])=true:=by rw[<-h46];exact e1
  rw[HV.out];go_in;go_wp2;refine bodyPost_ret (v:=.tuple #[.int .i64 0,.string ⟨#[]⟩,.bool true]) (by simp[results,results163,go_sem]) rfl ?_;exact⟨rfl,Keep.refl _ _ _⟩
 |false=>
 have f1:(s.toList==[46])=false:=by rw[<-h46];exact e1
 rw[e1] at HV0;cases e2:eqS s ⟨#[45]⟩ with
 |true=>
  have HV:Hid (zA4 s=⟨1,⟨#[]⟩,true⟩):=by show _=_;rw[HV0.out,e2];rfl
  have g2:(s.toList==[45])=true:=by rw[<-h45];exact e2
  rw[HV.out];go_in;go_wp2;refine bodyPost_ret (v:=.tuple #[.int .i64 1,.string ⟨#[]⟩,.bool true]) (by simp[results,results163,go_sem]) rfl ?_;exact⟨rfl,Keep.refl _ _ _⟩
 |false=>
 have f2:(s.toList==[45])=false:=by rw[<-h45];exact e2
 rw[e2] at HV0;cases e3:eqS s ⟨#[60]⟩ with
 |true=>
  have HV:Hid (zA4 s=⟨3,⟨#[]⟩,true⟩):=by show _=_;rw[HV0.out,e3];rfl
  have g3:(s.toList==[60])=true:=by rw[<-h60];exact e3
  rw[HV.out];go_in;go_wp2;refine bodyPost_ret (v:=.tuple #[.int .i64 3,.string ⟨#[]⟩,.bool true]) (by simp[results,results163,go_sem]) rfl ?_;exact⟨rfl,Keep.refl _ _ _⟩
 |false=>
 have f3:(s.toList==[60])=false:=by rw[<-h60];exact e3
 rw[e3] at HV0;have HV1:=vl HV0.out;have hz:0<s.size:=by omega
 have i0:(0:Int)<(s.size:Int):=by omega
 have i1:(1:Int)<=(s.size:Int):=by omega
 have hb0:=zDX s 0 hz;have HVP:Hid (zHW s=if byt s 0=62&&xG (s.extract 1 s.size) then⟨2,s.extract 1 s.size,true⟩ else⟨0,⟨#[]⟩,false⟩):=rfl;have HNM:Hid (∀w,Calls prog 160 #[.string (s.extract 1 s.size)] w fun e w'=>e=.returned (.bool (xG (s.extract 1 s.size)))∧w'=w):=fun w=>vF w _ (by rw[ByteArray.size_extract];omega);rw[HV1.out];generalize xG (s.extract 1 s.size)=nb at *;generalize zHW s=pa at *;generalize byt s 0=c at *;by_cases hc:c=62
 ·subst hc
  cases nb with
  |true=>
   have HV:=vl HVP.out;rw[HV.out];go_in;go_wp2_with (first|(go_at_call 160;refine(HNM.out _).mono ?_;rintro e w9 ⟨rfl,hw9⟩;have hw8:=hw9.symm;subst hw8))
   go_quiet (fail);go_wp2;refine bodyPost_ret (v:=.tuple #[.int .i64 2,.string (s.extract 1 s.size),.bool true]) (by simp[results,results163,go_sem]) rfl ?_;exact⟨rfl,Keep.alike (w':=w.drewN nq) ⟨rfl,rfl,rfl⟩⟩
  |false=>
   have HV:=vl HVP.out;rw[HV.out];go_in;go_wp2_with (first|(go_at_call 160;refine(HNM.out _).mono ?_;rintro e w9 ⟨rfl,hw9⟩;have hw8:=hw9.symm;subst hw8))
   refine bodyPost_ret (v:=.tuple #[.int .i64 0,.string ⟨#[]⟩,.bool false]) (by simp[results,results163,go_sem]) rfl ?_;exact⟨rfl,Keep.refl _ _ _⟩
 ·have HV:Hid (pa=⟨0,⟨#[]⟩,false⟩):=by show _=_;rw[HVP.out,decide_eq_false hc];rfl
  have ec:((c:Int) != 62)=true:=by simp;omega
  rw[HV.out];go_in;go_wp2;refine bodyPost_ret (v:=.tuple #[.int .i64 0,.string ⟨#[]⟩,.bool false]) (by simp[results,results163,go_sem]) rfl ?_;exact⟨rfl,Keep.refl _ _ _⟩
section
structure Rx where
 at_:Nat
 depth:Nat
 both:Bool
def RxAt (w:World)(b:Nat)(s:ByteArray)(dv:Value)(r:Rx):Prop:=w.heap[b]? =some (.cells #[.string s,dv,.int .i64 (r.at_:Int),.int .i64 (r.depth:Int),.bool r.both] 252)
namespace RxAt
variable {w w':World} {b:Nat} {s:ByteArray} {dv:Value} {r:Rx}
theorem lt (h:RxAt w b s dv r):b<w.heap.size:=(kQ.1 h).1
theorem cells (h:RxAt w b s dv r):w.cell? ⟨b,0,none⟩=some (.string s)∧w.cell? ⟨b,1,none⟩=some dv∧w.cell? ⟨b,2,none⟩=some (.int .i64 (r.at_:Int))∧w.cell? ⟨b,3,none⟩=some (.int .i64 (r.depth:Int))∧w.cell? ⟨b,4,none⟩=some (.bool r.both)∧∀i,w.frozen? ⟨b,i,none⟩=false:=by
 unfold RxAt at h;refine⟨?_,?_,?_,?_,?_,fun i=>?_⟩
 all_goals first|(unfold cell?;rw[h];rfl)|(unfold frozen?;rw[h];simp)
theorem of_block (h:RxAt w b s dv r)(e:w'.heap[b]? =w.heap[b]?):RxAt w' b s dv r:=e.trans h
theorem setAt (h:RxAt w b s dv r)(q:Nat):RxAt (w.setCell ⟨b,2,none⟩ (.int .i64 (q:Int))) b s dv {r with at_:=q}:=by
 unfold RxAt at *;simp[setCell,lU,h]
end RxAt
theorem qD (w:World)(b:Nat)(s:ByteArray)(dv:Value)(r:Rx)(h:RxAt w b s dv r)(hs:s.size<=1048576)(ha:r.at_<=2000000)(k:Nat)(hk:k<=1):
  Calls prog 200 #[.pointer (some ⟨b,0,none⟩),.int .i64 (k:Int)] w fun e w'=>e=.returned (.int .u8 (byt s (r.at_+k):Nat))∧w'=w:=by
 obtain⟨c0,-,c2,-,-,-⟩:=h.cells;by_cases hi:r.at_+k<s.size
 ·have HV:Hid (byt s (r.at_+k)=byt s (r.at_+k)):=rfl
  have i0:¬((r.at_:Int)+(k:Int)<0):=by omega
  have i1:(r.at_:Int)+(k:Int)<(s.size:Int):=by omega
  go_in;go_wp2;go_ret;exact⟨by rw[<-zDX s _ hi];rfl,rfl⟩
 ·have HV:Hid (byt s (r.at_+k)=0):=zJY s _ (by omega)
  have i0:¬((r.at_:Int)+(k:Int)<0):=by omega
  have i1:(s.size:Int)<=(r.at_:Int)+(k:Int):=by omega
  go_in;go_wp2;go_ret;exact⟨by rw[HV.out];rfl,rfl⟩
def zI (s:ByteArray)(i:Nat)(t:ByteArray):Bool:=decide (i+t.size<=s.size)&&((s.extract i (i+t.size)).toList==t.toList)
def Rx.take (r:Rx)(s t:ByteArray):Rx:=if zI s r.at_ t then{r with at_:=r.at_+t.size} else r
theorem jF (w:World)(b:Nat)(s:ByteArray)(dv:Value)(r:Rx)(h:RxAt w b s dv r)(hs:s.size<=1048576)(ha:r.at_<=2000000)(t:ByteArray)(ht:t.size<=1000000):
  Calls prog 189 #[.pointer (some ⟨b,0,none⟩),.string t] w fun e w'=>e=.returned (.bool (zI s r.at_ t))∧RxAt w' b s dv (r.take s t)∧∀H,Keep H b w w':=by
 obtain⟨c0,-,c2,-,-,cf⟩:=h.cells;have cf2:=cf 2;have HR:=vl h;have htn:((r.at_:Int)+(t.size:Int)).toNat=r.at_+t.size:=by omega
 by_cases hi:r.at_+t.size<=s.size
 ·have i0:¬((s.size:Int)<(r.at_:Int)+(t.size:Int)):=by omega
  have i1:(r.at_:Int)+(t.size:Int)<=(s.size:Int):=by omega
  have i2:(0:Int)<=(r.at_:Int):=by omega
  have i3:(r.at_:Int)<=(r.at_:Int)+(t.size:Int):=by omega
  cases hc:((s.extract r.at_ (r.at_+t.size)).toList==t.toList) with
  |true=>
   have htb:zI s r.at_ t=true:=by unfold zI;rw[decide_eq_true hi,hc];rfl
   have HV:Hid (zI s r.at_ t=true∧r.take s t={r with at_:=r.at_+t.size}):=⟨htb,by unfold Rx.take;rw[if_pos htb]⟩
   have hce:((s.extract r.at_ ((r.at_:Int)+(t.size:Int)).toNat).toList==t.toList)=true:=by rw[htn];exact hc
   go_in;go_wp2;go_quiet (fail);go_wp2;go_ret;refine⟨by rw[HV.out.1];rfl,?_,fun H=>Keep.drewSet w _ _ _⟩;rw[HV.out.2];have h2:=(RxAt.of_block (w':=w.drewN nq) HR.out rfl).setAt (r.at_+t.size);rw[show ((r.at_+t.size:Nat):Int)=(r.at_:Int)+(t.size:Int) by omega] at h2;exact h2
  |false=>
   have htb:zI s r.at_ t=false:=by unfold zI;rw[decide_eq_true hi,hc];rfl
   have HV:Hid (zI s r.at_ t=false∧r.take s t=r):=⟨htb,by unfold Rx.take;rw[if_neg (by rw[htb];decide)]⟩
   have hce:((s.extract r.at_ ((r.at_:Int)+(t.size:Int)).toNat).toList==t.toList)=false:=by rw[htn];exact hc
   go_in;go_wp2;go_quiet (fail);go_wp2;go_ret;exact⟨by rw[HV.out.1];rfl,by rw[HV.out.2];exact RxAt.of_block HR.out rfl,fun H=>Keep.alike (w':=w.drewN nq) ⟨rfl,rfl,rfl⟩⟩
 ·have htb:zI s r.at_ t=false:=by unfold zI;rw[decide_eq_false hi];rfl
  have HV:Hid (zI s r.at_ t=false∧r.take s t=r):=⟨htb,by unfold Rx.take;rw[if_neg (by rw[htb];decide)]⟩
  have i1:(s.size:Int)<(r.at_:Int)+(t.size:Int):=by omega
  go_in;go_wp2;go_quiet (fail);go_wp2;go_ret;exact⟨by rw[HV.out.1];rfl,by rw[HV.out.2];exact RxAt.of_block HR.out rfl,fun H=>Keep.alike (w':=w.drewN nq) ⟨rfl,rfl,rfl⟩⟩
end
def xX (c:Nat):Bool:=xF c&&decide (c<=52)
def zA3 (c:Nat):Int:=if xX c then(c:Int)-48 else -1
def Rx.on (r:Rx)(k:Bool):Rx:=if k then{r with at_:=r.at_+1} else r
theorem zEl (w:World)(b:Nat)(s:ByteArray)(dv:Value)(r:Rx)(h:RxAt w b s dv r)(hs:s.size<=1048576)(ha:r.at_<=2000000):
  Calls prog 214 #[.pointer (some ⟨b,0,none⟩)] w fun e w'=>e=.returned (.int .i64 (zA3 (byt s r.at_)))∧RxAt w' b s dv (r.on (xX (byt s r.at_)))∧∀H,Keep H b w w':=by
 obtain⟨-,-,c2,-,-,cf⟩:=h.cells;have cf2:=cf 2;have HR:=vl h;have HPK:=vl <| qD w b s dv r h hs ha 0 (by omega);have hlt:=zAl s r.at_;generalize byt s r.at_=c at *;have HDG0:Hid (∀w,Calls prog 206 #[.int .u8 (c:Int)] w fun e w'=>e=.returned (.bool (xF c))∧w'=w):=fun w=>zAa w c;cases hd:xF c with
 |false=>
  have hk:xX c=false:=by unfold xX;rw[hd];rfl
  have HV:Hid (zA3 c=-1∧r.on (xX c)=r):=⟨by unfold zA3;rw[if_neg (by rw[hk];decide)],by unfold Rx.on;rw[if_neg (by rw[hk];decide)]⟩
  rw[hd] at HDG0;have HDG:=vl HDG0.out;go_in;go_wp2_with (first|(go_at_call 200;refine HPK.out.mono ?_;rintro e w9 ⟨rfl,hw9⟩;have hw8:=hw9.symm;subst hw8)|(go_at_call 206;refine(HDG.out _).mono ?_;rintro e w9 ⟨rfl,hw9⟩;have hw8:=hw9.symm;subst hw8))
  go_ret;exact⟨by rw[HV.out.1];rfl,by rw[HV.out.2];exact HR.out,fun H=>Keep.refl _ _ _⟩
 |true=>
  have hr:48<=c∧c<=57:=by unfold xF at hd;simpa using hd
  rw[hd] at HDG0;have HDG:=vl HDG0.out;have hw:IntKind.u8.wrap ((c:Int)-48)=(c:Int)-48:=by rw[IntKind.wrap_u8];omega
  by_cases h4:c<=52
  ·have hk:xX c=true:=by unfold xX;rw[hd,decide_eq_true h4];rfl
   have HV:Hid (zA3 c=(c:Int)-48∧r.on (xX c)={r with at_:=r.at_+1}):=⟨by unfold zA3;rw[if_pos hk],by unfold Rx.on;rw[if_pos hk]⟩
   have i1:(c:Int)-48<=4:=by omega
   go_in;go_wp2_with (first|(go_at_call 200;refine HPK.out.mono ?_;rintro e w9 ⟨rfl,hw9⟩;have hw8:=hw9.symm;subst hw8)|(go_at_call 206;refine(HDG.out _).mono ?_;rintro e w9 ⟨rfl,hw9⟩;have hw8:=hw9.symm;subst hw8))
   go_ret;refine⟨by rw[HV.out.1];first|rfl|(simp [hw];done)|(simp;omega),?_,fun H=>Keep.set _ _ _⟩;rw[HV.out.2];have h2:=HR.out.setAt (r.at_+1);rw[show ((r.at_+1:Nat):Int)=(r.at_:Int)+1 by omega] at h2;exact h2
  ·have hk:xX c=false:=by unfold xX;rw[hd,decide_eq_false h4];rfl
   have HV:Hid (zA3 c=-1∧r.on (xX c)=r):=⟨by unfold zA3;rw[if_neg (by rw[hk];decide)],by unfold Rx.on;rw[if_neg (by rw[hk];decide)]⟩
   have i1:4<(c:Int)-48:=by omega
   go_in;go_wp2_with (first|(go_at_call 200;refine HPK.out.mono ?_;rintro e w9 ⟨rfl,hw9⟩;have hw8:=hw9.symm;subst hw8)|(go_at_call 206;refine(HDG.out _).mono ?_;rintro e w9 ⟨rfl,hw9⟩;have hw8:=hw9.symm;subst hw8))
   go_ret;exact⟨by rw[HV.out.1];rfl,by rw[HV.out.2];exact HR.out,fun H=>Keep.refl _ _ _⟩
def zBI (s:ByteArray)(i:Nat):Bool:=decide (s.size<=i)||(byt s i==124||byt s i==41)
theorem zFP (w:World)(b:Nat)(s:ByteArray)(dv:Value)(r:Rx)(h:RxAt w b s dv r)(hs:s.size<=1048576)(ha:r.at_<=2000000):
  Calls prog 194 #[.pointer (some ⟨b,0,none⟩)] w fun e w'=>e=.returned (.bool (zBI s r.at_))∧∀H c,Keep H c w w':=by
 obtain⟨c0,-,c2,-,-,-⟩:=h.cells;by_cases hi:s.size<=r.at_
 ·have HV:Hid (zBI s r.at_=true):=by show _=_;unfold zBI;rw[decide_eq_true hi];rfl
  have i1:(r.at_:Int)>=(s.size:Int):=by omega
  go_in;go_wp2;go_quiet (fail);go_wp2;go_ret;exact⟨by rw[HV.out];rfl,fun H c=>Keep.alike (w':=w.drewN nq) ⟨rfl,rfl,rfl⟩⟩
 ·have HV:Hid (zBI s r.at_=(byt s r.at_==124||byt s r.at_==41)):=by show _=_;unfold zBI;rw[decide_eq_false hi];rfl
  have i1:(r.at_:Int)<(s.size:Int):=by omega
  have HPK:Hid (∀nq,Calls prog 200 #[.pointer (some ⟨b,0,none⟩),.int .i64 0] (w.drewN nq) fun e w'=>e=.returned (.int .u8 (byt s r.at_:Nat))∧w'=w.drewN nq):=fun nq=>qD (w.drewN nq) b s dv r (RxAt.of_block h rfl) hs ha 0 (by omega);generalize byt s r.at_=c at *;by_cases h1:c=124
  ·subst h1
   go_in;go_wp2;go_quiet (fail);go_wp2_with (first|(go_at_call 200;refine(HPK.out _).mono ?_;rintro e w9 ⟨rfl,hw9⟩))
   go_ret;exact⟨by rw[HV.out];rfl,fun H c=>Keep.alike (w':=w.drewN nq) ⟨rfl,rfl,rfl⟩⟩
  ·have d1:((c:Int)==124)=false:=by rw[gQ];omega
   have e1:(c==124)=false:=by rw[gQ];exact h1
   have HV2:Hid (zBI s r.at_=((c:Int)==41)):=by
    show _=_;rw[HV.out,e1,Bool.false_or];by_cases h2:c=41
    ·rw[h2];rfl
    ·rw[show (c==41)=false by rw[gQ];exact h2,show((c:Int)==41)=false by rw[gQ];omega]
   go_in;go_wp2;go_quiet (fail);go_wp2_with (first|(go_at_call 200;refine(HPK.out _).mono ?_;rintro e w9 ⟨rfl,hw9⟩))
   go_ret;exact⟨by rw[HV2.out];rfl,fun H c=>Keep.alike (w':=w.drewN nq) ⟨rfl,rfl,rfl⟩⟩
end Go.Proofs.YtbjcfkdnjaiclaaGreat
