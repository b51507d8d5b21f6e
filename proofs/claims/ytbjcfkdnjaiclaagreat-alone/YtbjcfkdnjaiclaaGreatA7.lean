import Derived.Deep.DrawnRows
import Derived.Deep.RegionLaw
import Derived.Test.YtbjcfkdnjaiclaaGreatA0
import Derived.Test.YtbjcfkdnjaiclaaGreatA6
/- Parts of the proof. -/
set_option linter.unusedVariables false
set_option linter.unusedSimpArgs false
set_option maxHeartbeats 4000000
set_option maxRecDepth 100000
namespace Go.Proofs.YtbjcfkdnjaiclaaGreat
open Go.RowKit Go.Proofs.Tryz Go.World
open Go.Value (int slice bool pointer string agg tuple)
open Go.IntKind (i64)
open Go.Ending (returned)
section
attribute [local go_sem ↓] Go.wp_at_zero Go.wp_at_succ
def zKu (w:World)(d:Nat)(v:Value)(l:List Tr):Prop:=∃ao cap,v=slice ao l.length cap∧l.length<=cap∧cap<=maxLen∧∀i,i<l.length->∃g o p,ao=some ⟨g,o,none⟩∧In w g∧w.cell? ⟨g,o+i,none⟩=some (pointer (some ⟨p,0,none⟩))∧TreeAt w d p (l.getD i Tr.none)
theorem zK7 (w:World)(d:Nat)(v:Value)(rules:List Tr)(hT:zKu w d v rules)(h8:rules.length<=8)(hl:zW (yQ d) rules rules.length<=24):
  Calls prog 60 #[v] w fun e w'=>∃nb,e=returned (pointer (some ⟨nb,0,none⟩))∧NwIs w w' nb (xJ d rules rules.length):=by
 obtain⟨i0,hi0,hz0,hz1,hz2⟩:=info_parts yL;obtain⟨ib,hib,hb0,hb1,hb2⟩:=info_parts qU;obtain⟨ao,cap,rfl,_,_,hpc⟩:=hT;have HPT:Hid (∀wr n2,NwIs w wr w.heap.size n2->∀i,i<rules.length->∃g o p,ao=some ⟨g,o,none⟩∧wr.cell? ⟨g,o+i,none⟩=some (pointer (some ⟨p,0,none⟩))∧TreeAt w d p (rules.getD i Tr.none)):=by
  rintro wr n2 ⟨_,_,_,_,_,hN⟩ i hi;obtain⟨g,o,p,ha,hgi,hc,hti⟩:=hpc i hi;exact⟨g,o,p,ha,zA hc hgi hN.keep,hti⟩
 obtain⟨w1,hw1,HN1⟩:∃w1,w1=w.alloc (.cells #[slice none 0 0,slice none 0 0,int i64 0,int i64 0,slice none 0 0,slice none 0 0] 132)∧Hid (NwIs w w1 w.heap.size Nt.blank):=⟨_,rfl,_,_,_,_,_,Nw.begin w⟩
 have HTC:Hid (zB1 w w.heap.size d (xC d) (yQ d)):=zEI w w.heap.size d;obtain⟨LT,hLT⟩:∃LT,LT=xJ d rules:=⟨_,rfl⟩
 have HLT:Hid (LT 0=Nt.blank∧(∀j,LT (j+1)=zL0 (LT j).sets.length (xC d (LT j) (rules.getD j Tr.none)))∧(∀j,j<=rules.length->(LT j).Good∧(LT j).Laid j)∧(∀j,j<rules.length->(LT j).sets.length+yQ d (rules.getD j Tr.none)<=24∧(xC d (LT j) (rules.getD j Tr.none)).1.Good∧(xC d (LT j) (rules.getD j Tr.none)).2.Small 24∧(xC d (LT j) (rules.getD j Tr.none)).1.first<16777216∧(xC d (LT j) (rules.getD j Tr.none)).1.ends<16777216∧(xC d (LT j) (rules.getD j Tr.none)).1.rules.length=j∧(xC d (LT j) (rules.getD j Tr.none)).1.empty.length=j)∧LT rules.length=xJ d rules rules.length∧∀j,j<rules.length->(LT j).sets.length<=(xC d (LT j) (rules.getD j Tr.none)).1.sets.length):=by
  rw[hLT];have hm:∀j,j<=rules.length->zW (yQ d) rules j<=24:=fun j hj=>lY (zCK _ rules j _ hj) hl;refine⟨rfl,fun j=>rfl,fun j hj=>⟨(zAF d rules j (hm j hj)).1,zBn d rules j (hm j hj)⟩,fun j hj=>?_,rfl,fun j hj=>?_⟩;rotate_left
  ·have h1:=zAF d rules j (hm j (by omega))
   have h2:zW (yQ d) rules j+yQ d (rules.getD j Tr.none)<=24:=hm (j+1) hj;have h3:=jW d (xJ d rules j) (rules.getD j Tr.none) h1.1 (by omega);omega
  have h1:=zAF d rules j (hm j (by omega));have h2:zW (yQ d) rules j+yQ d (rules.getD j Tr.none)<=24:=hm (j+1) hj;have h3:=jW d (xJ d rules j) (rules.getD j Tr.none) h1.1 (by omega);obtain⟨s1,s2,s3,s4⟩:=zFc d (xJ d rules j) (rules.getD j Tr.none);have h4:=zBn d rules j (hm j (by omega));have hp:2^(xJ d rules j).sets.length<=2^24:=kG (by omega) h1.1.len;exact⟨by omega,h3.1,h3.2.2.up (by omega),by rw[s1];exact lZ h4.first hp,by rw[s2];exact lZ h4.ends hp,by rw[s3];exact h4.rlen,by rw[s4];exact h4.elen⟩
 have HNC:Hid (∀wr n2,NwIs w wr w.heap.size n2->∃sa sc,wr.cell? ⟨w.heap.size,0,none⟩=some (slice sa n2.sets.length sc)):=by
  rintro wr n2 ⟨sv,_,_,_,_,hN⟩;obtain⟨sa,sc,hsv⟩:=zG hN.sOwn;exact⟨sa,sc,by rw[<-hsv];exact hN.cells.1⟩
 generalize xJ d rules rules.length=LE at *;clear hLT hl hpc;go_enter func60,ntmps60
 refine wp_seq_k ?_;intro K0 hK0;have J:Hid (∀a w,_->K0 a w):=hK0;clear hK0;go_wp2_with fail;apply J.out;clear J;refine wp_seq_k ?_;intro K0 hK0;have J:Hid (∀a w,_->K0 a w):=hK0;clear hK0;go_wp2_with fail;apply J.out;clear J;rw[<-hw1];clear hw1;go_wp2_with fail;go_loopg [12] rules.length (fun q i wr=>∃j:Nat,q=rules.length-j∧j<=rules.length∧i=int i64 (j:Int)∧NwIs w wr w.heap.size (LT j))
 case atStart=>exact⟨0,rfl,lX,rfl,by rw[HLT.out.1];exact HN1.out⟩
 case round=>
  obtain⟨j,hgk,hj,rfl,hN⟩:=hrel;have HB:Hid (gk=rules.length-j∧NwIs w wr w.heap.size (LT j)):=⟨hgk,hN⟩
  by_cases hj2:j<rules.length
  ·have i1:(j:Int)<(rules.length:Int):=by omega
   obtain⟨g,o,p,rfl,hc,hti⟩:=HPT.out wr _ hN j hj2;obtain⟨b1,b2,b3,b4,b5,b6,b7⟩:=HLT.out.2.2.2.1 j hj2;obtain⟨g1,g2⟩:=HLT.out.2.2.1 j hj;have HC0:=HTC.out wr (LT j) p (rules.getD j Tr.none) hN g1 hti b1;have HNX:Hid (LT (j+1)=zL0 (LT j).sets.length (xC d (LT j) (rules.getD j Tr.none))):=HLT.out.2.1 j;obtain⟨sa,sc,y0⟩:=HNC.out wr _ hN;have hBL:=g1.len;have hBq0:(LT j).sets.length<=(xC d (LT j) (rules.getD j Tr.none)).1.sets.length:=HLT.out.2.2.2.2.2 j hj2;clear hgk hN hti b1 g1 g2;generalize (LT j).sets.length=B at *;generalize xC d (LT j) (rules.getD j Tr.none)=q at *;obtain⟨q1,⟨qf,ql,qe⟩⟩:=q;have b2':q1.sets.length<=24:=b2.len;have l3:qf<16777216:=b3.first
   have l4:ql<16777216:=b3.last;have b4':q1.first<16777216:=b4
   have b5':q1.ends<16777216:=b5;have b6':q1.rules.length=j:=b6;have b7':q1.empty.length=j:=b7;have HC:Hid (Ca 89 #[pointer (some ⟨w.heap.size,0,none⟩),pointer (some ⟨p,0,none⟩)] wr fun e w'=>e=returned (agg #[int i64 (qf:Int),int i64 (ql:Int),bool qe])∧NwIs w w' w.heap.size q1∧StayS wr w'):=HC0;have HNX2:Hid (LT (j+1)={q1 with first:=q1.first|||qf,ends:=q1.ends|||ql,rules:=q1.rules++[2^q1.sets.length-2^B],empty:=q1.empty++[qe]}):=HNX.out;clear HC0 HNX b2 b3 b4 b5 b6 b7;go_wp2_with (first|(go_at_call 89;refine HC.out.mono ?_;rintro e w5 ⟨rfl,⟨sv,fv,rv,ev,ps,hN5⟩,hS5⟩;have HN5:Hid (Nw w w5 w.heap.size q1 sv fv rv ev ps):=hN5;clear hN5 hS5))
   obtain⟨w6,hw6,HN6,HB6⟩:∃w6,w6=w5.alloc (.cells #[int i64 (qf:Int),int i64 (ql:Int),bool qe] 167)∧Hid (Nw w w6 w.heap.size q1 sv fv rv ev ps)∧Hid (w6.heap[w5.heap.size]? =some (.cells (Sn.mk qf ql qe).cells 167)):=⟨_,rfl,HN5.out.grown (kZ _ _ lQ),gJ _ _⟩
   rw[<-hw6];clear hw6 HN5 y0 hc;generalize w5.heap.size=b8 at *;obtain⟨c0,c1,c2,c3,c4,c5,cf⟩:=HN6.out.cells;obtain⟨d0,d1,d2,-⟩:=zI HB6.out;have cf2:=cf 2;have hor1:bits .or i64 (q1.first:Int) (qf:Int)=((q1.first|||qf:Nat):Int):=yO _ _ (by omega) (by omega);have hor2:bits .or i64 (q1.ends:Int) (ql:Int)=((q1.ends|||ql:Nat):Int):=yO _ _ (by omega) (by omega);clear cf;go_region;obtain⟨w7,hw7,HN7,HB7⟩:∃w7,w7=(w6.setCell ⟨w.heap.size,2,none⟩ (int i64 ((q1.first|||qf:Nat):Int))).drew∧Hid (Nw w w7 w.heap.size {q1 with first:=q1.first|||qf} sv fv rv ev ps)∧Hid (w7.heap[b8]? =some (.cells (Sn.mk qf ql qe).cells 167)):=by
    have h:=HN6.out.setFirst (q1.first|||qf);exact⟨_,rfl,h.1.grown (Keep.drew _),h.2 _ _ HB6.out⟩
   rw[<-hw7];clear hw7 c0 c1 c2 c3 c4 c5 d0 d1 d2 cf2 HN6 HB6;obtain⟨c0,c1,c2,c3,c4,c5,cf⟩:=HN7.out.cells;obtain⟨d0,d1,d2,-⟩:=zI HB7.out;have cf3:=cf 3;clear cf;go_wp2_with fail;go_region;obtain⟨w8,hw8,HN8,HB8⟩:∃w8,w8=(w7.setCell ⟨w.heap.size,3,none⟩ (int i64 ((q1.ends|||ql:Nat):Int))).drew∧Hid (Nw w w8 w.heap.size {q1 with first:=q1.first|||qf,ends:=q1.ends|||ql} sv fv rv ev ps)∧Hid (w8.heap[b8]? =some (.cells (Sn.mk qf ql qe).cells 167)):=by
    have h:=HN7.out.setEnds (q1.ends|||ql);exact⟨_,rfl,h.1.grown (Keep.drew _),h.2 _ _ HB7.out⟩
   rw[<-hw8];clear hw8 c0 c1 c2 c3 c4 c5 d0 d1 d2 cf3 HN7 HB7 hor1 hor2;go_wp2_with fail;have hpl:q1.sets.length<=24:=b2';have hBq:B<=q1.sets.length:=hBq0;obtain⟨P1,hP1e⟩:∃P1:Nat,P1=2^q1.sets.length:=⟨_,rfl⟩
   obtain⟨P2,hP2e⟩:∃P2:Nat,P2=2^B:=⟨_,rfl⟩
   have hP1:P1<=16777216:=by rw[hP1e];exact(kG (by omega) hpl:2^q1.sets.length<=2^24)
   have hP2:P2<=16777216:=by rw[hP2e];exact(kG (by omega) hBL:2^B<=2^24)
   have hP3:P2<=P1:=by rw[hP1e,hP2e];exact kG (by omega) hBq
   obtain⟨R,hR⟩:∃R:Nat,R=P1-P2:=⟨_,rfl⟩
   have hR1:(P1:Int)-(P2:Int)=(R:Int):=by omega
   have hR0:R<16777217:=by omega
   have HR:Hid (R=P1-P2):=hR;have HX:Hid ((IntKind.i64.wrap (IntKind.i64.wrap ((2:Int)^q1.sets.length)-IntKind.i64.wrap ((2:Int)^B)))=(R:Int)):=by
    show _=_;have e1:((2:Int)^q1.sets.length)=(P1:Int):=by rw[hP1e];simp
    have e2:((2:Int)^B)=(P2:Int):=by rw[hP2e];simp
    rw[e1,e2,zAL (P1:Int) (by omega) (by omega),zAL (P2:Int) (by omega) (by omega),hR1];exact zAL _ (by omega) (by omega)
   have HPP:Hid (P1=2^q1.sets.length∧P2=2^B):=⟨hP1e,hP2e⟩
   clear hP1e hP2e;obtain⟨sa2,sc2,hsv⟩:=zG HN8.out.sOwn;obtain⟨ra,rc,hrv⟩:=HN8.out.rOwn.form;obtain⟨ea,ec,hev⟩:=zG HN8.out.eOwn;rw[zN] at hrv;have hrv2:rv=slice ra j rc:=by rw[hrv];show Value.slice ra q1.rules.length rc=_;rw[b6']
   have hev2:ev=slice ea j ec:=by rw[hev];show Value.slice ea q1.empty.length ec=_;rw[b7']
   have hsv2:sv=slice sa2 q1.sets.length sc2:=hsv;clear hsv hrv hev;subst hsv2 hrv2 hev2;obtain⟨c0,-,-,-,c4,c5,cf⟩:=HN8.out.cells;have cf4:=cf 4;have hlt:=HN8.out.lt;have hH8:w.heap.size<=w8.heap.size:=HN8.out.keep.size;have HNP:Hid (some w.heap.size≠(Value.slice ra j rc).ownBlock):=HN8.out.box.2.2.1;have OW:w8.ownsRow w.heap.size 3 1 (slice ra j rc) j ((ints q1.rules).map fun x=>int i64 x):=by
    have:=HN8.out.rOwn;unfold OwnI at this;rw[zN] at this;have h2:w8.ownsRow w.heap.size 3 1 (slice ra j rc) q1.rules.length ((ints q1.rules).map fun x=>int i64 x):=this;rw[b6'] at h2;exact h2
   obtain⟨d0,d1,d2,-⟩:=zI HB8.out;clear cf hR hP1 hP2 hP3 hBq hBq0 hR1;go_region_law ((refine step_append_lies _ (by rfl) (.tmp 46) (.tmp 56) 45 (by rfl) w.heap.size 3 i0 _ 1 8 underlying45 hi0 hz0 hz1 hz2 rfl (by decide) (slice ra j rc) j ((ints q1.rules).map fun x=>int i64 x) (by simp[Act.eval,Act.put]) ((OW.alloc _).drew) ⟨w8.heap.size,0,none⟩ 1 1 [int i64 (IntKind.i64.wrap (IntKind.i64.wrap ((2:Int)^q1.sets.length)-IntKind.i64.wrap ((2:Int)^B)))] (by simp[Act.eval,Act.put]) (by rfl) (news_of_block (cs:=#[int i64 (IntKind.i64.wrap (IntKind.i64.wrap ((2:Int)^q1.sets.length)-IntKind.i64.wrap ((2:Int)^B)))]) (t:=3) (fr:=(0,0)) (gJ w8 _)) (by simp[Value.oneCell']) (by decide) (by unfold maxLen;omega) (by omega) (by simp;omega) (w8.heap.size+1) (by simp) ?_;intro gg cap2 w9 hown hgrow hat hlt9;have hPB:=hgrow.block w.heap.size (by simp;omega) HNP.out;have c4b:w9.cell? ⟨w.heap.size,4,none⟩=some (slice ra j rc):=(gG hPB).trans ((dX _ _ _ hlt).trans c4);have cf4b:w9.frozen? ⟨w.heap.size,4,none⟩=false:=(dQ hPB).trans ((frozen?_alloc_past _ _ _ hlt).trans cf4)))
   all_goals
    rw[HX.out] at hown;have HN9:Hid (Nw w (w9.setCell ⟨w.heap.size,4,none⟩ (slice (some ⟨gg,0,none⟩) (j+1) cap2)) w.heap.size {q1 with first:=q1.first|||qf,ends:=q1.ends|||ql,rules:=q1.rules++[R]} (slice sa2 q1.sets.length sc2) fv (slice (some ⟨gg,0,none⟩) (j+1) cap2) (slice ea j ec) ps∧StayS w8.drew (w9.setCell ⟨w.heap.size,4,none⟩ (slice (some ⟨gg,0,none⟩) (j+1) cap2))):=(HN8.out.grown (Keep.drew _)).addRule (o:=Obj.cells #[int i64 (IntKind.i64.wrap (IntKind.i64.wrap ((2:Int)^q1.sets.length)-IntKind.i64.wrap ((2:Int)^B)))] 3) b6'.symm hown hgrow (by
     rcases hat with ha|ha
     ·exact .inl ha
     ·right;show w8.heap.size<=gg;omega)
    have HB9:Hid ((w9.setCell ⟨w.heap.size,4,none⟩ (slice (some ⟨gg,0,none⟩) (j+1) cap2)).heap[b8]? =some (.cells (Sn.mk qf ql qe).cells 167)):=HN9.out.2 _ _ HB8.out;clear hown hgrow hat hlt9 hPB c4b cf4b OW c0 c4 c5 cf4 d0 d1 d2 HX HN8 HB8 HNP;generalize w9.setCell ⟨w.heap.size,4,none⟩ (slice (some ⟨gg,0,none⟩) (j+1) cap2)=w10 at *;obtain⟨-,-,-,-,-,c5,cf⟩:=HN9.out.1.cells;have cf5:=cf 5;have hlt10:=HN9.out.1.lt;have hH10:w.heap.size<=w10.heap.size:=HN9.out.1.keep.size;have HNE:Hid (some w.heap.size≠(Value.slice ea j ec).ownBlock):=HN9.out.1.box.2.2.2;have OE:w10.ownsRow w.heap.size 4 1 (slice ea j ec) j (q1.empty.map fun x=>bool x):=by
     have:=HN9.out.1.eOwn;unfold OwnB at this;have h2:w10.ownsRow w.heap.size 4 1 (slice ea j ec) q1.empty.length (q1.empty.map fun x=>bool x):=this;rw[b7'] at h2;exact h2
    obtain⟨d0,d1,d2,-⟩:=zI HB9.out;clear cf;go_wp2_with fail;go_region_law ((refine step_append_lies _ (by rfl) (.tmp 64) (.tmp 67) 28 (by rfl) w.heap.size 4 ib _ 1 1 underlying28 hib hb0 hb1 hb2 rfl (by decide) (slice ea j ec) j (q1.empty.map fun x=>bool x) (by simp[Act.eval,Act.put]) ((OE.alloc _).drew) ⟨w10.heap.size,0,none⟩ 1 1 [bool qe] (by simp[Act.eval,Act.put]) (by rfl) (news_of_block (cs:=#[bool qe]) (t:=4) (fr:=(0,0)) (gJ w10 _)) (by simp[Value.oneCell']) (by decide) (by unfold maxLen;omega) (by omega) (by simp;omega) (w10.heap.size+1) (by simp) ?_;intro g5 cap5 w11 hown5 hgrow5 hat5 hlt11;have hPB5:=hgrow5.block w.heap.size (by simp;omega) HNE.out;have c5b:w11.cell? ⟨w.heap.size,5,none⟩=some (slice ea j ec):=(gG hPB5).trans ((dX _ _ _ hlt10).trans c5);have cf5b:w11.frozen? ⟨w.heap.size,5,none⟩=false:=(dQ hPB5).trans ((frozen?_alloc_past _ _ _ hlt10).trans cf5)))
    all_goals
     have HN12:Hid (NwIs w (w11.setCell ⟨w.heap.size,5,none⟩ (slice (some ⟨g5,0,none⟩) (j+1) cap5)) w.heap.size (LT (j+1))):=by
      have h:=(HN9.out.1.grown (Keep.drew _)).addEmpty (o:=Obj.cells #[bool qe] 4) b7'.symm hown5 hgrow5 (by
       rcases hat5 with ha|ha
       ·exact .inl ha
       ·right;show w10.heap.size<=g5;omega)
      show NwIs _ _ _ (LT (j+1));rw[HNX2.out,<-HPP.out.1,<-HPP.out.2,<-HR.out];exact⟨_,_,_,_,_,h.1⟩
     clear hown5 hgrow5 hat5 hlt11 hPB5 c5b cf5b OE c5 cf5 d0 d1 d2;go_wp2_with fail;go_roundg (rules.length-(j+1))
     case measure=>rw[HB.out.1];omega
     case rel=>exact⟨j+1,rfl,by omega,by go_num,HN12.out⟩
  ·have i1:(rules.length:Int)<=(j:Int):=by omega
   have e:j=rules.length:=by omega
   subst e;rw[HLT.out.2.2.2.2.1] at hN;clear hgk;go_wp2_with fail;go_ret;exact⟨_,rfl,hN⟩
end
def xF (c:Nat):Bool:=decide (48<=c)&&decide (c<=57)
def zCf (c:Nat):Bool:=(decide (97<=c)&&decide (c<=122))||(decide (65<=c)&&decide (c<=90))
def isPrintedB (c:Nat):Bool:=decide (32<=c)&&decide (c<=126)
theorem zAe (w:World)(c:Nat):Calls prog 206 #[int .u8 (c:Int)] w fun e w'=>e=returned (bool (xF c))∧w'=w:=by
 have hv:xF c=(decide (48<=c)&&decide (c<=57)):=rfl;rcases(show c<48∨(48<=c∧c<=57)∨(48<=c∧57<c) by omega) with h|⟨h,h2⟩|⟨h,h2⟩
 all_goals
  have HV:=vl hv;clear hv
  try have i1:(c:Int)<48:=by omega
  try have i1:(c:Int)>=48:=by omega
  try have i2:(c:Int)<=57:=by omega
  try have i2:57<(c:Int):=by omega
  go_in;go_wp2;go_ret;exact⟨by rw[HV.out];first|(simp;done)|(simp;omega)|(simp;rw[Bool.eq_iff_iff];simp;omega),rfl⟩
theorem zBC (w:World)(c:Nat):Calls prog 218 #[int .u8 (c:Int)] w fun e w'=>e=returned (bool (isPrintedB c))∧w'=w:=by
 have hv:isPrintedB c=(decide (32<=c)&&decide (c<=126)):=rfl;rcases(show c<32∨(32<=c∧c<=126)∨(32<=c∧126<c) by omega) with h|⟨h,h2⟩|⟨h,h2⟩
 all_goals
  have HV:=vl hv;clear hv
  try have i1:(c:Int)<32:=by omega
  try have i1:(c:Int)>=32:=by omega
  try have i2:(c:Int)<=126:=by omega
  try have i2:126<(c:Int):=by omega
  go_in;go_wp2;go_ret;exact⟨by rw[HV.out];first|(simp;done)|(simp;omega)|(simp;rw[Bool.eq_iff_iff];simp;omega),rfl⟩
theorem zFg (w:World)(c:Nat):Calls prog 217 #[int .u8 (c:Int)] w fun e w'=>e=returned (bool (zCf c))∧w'=w:=by
 have hc:(c<65)∨(65<=c∧c<=90)∨(90<c∧c<97)∨(97<=c∧c<=122)∨(122<c):=by omega
 have hv:zCf c=((decide (97<=c)&&decide (c<=122))||(decide (65<=c)&&decide (c<=90))):=rfl;rcases hc with h|h|h|h|h
 all_goals
  have HV:=vl hv;clear hv
  try have i0:(c:Int)<97:=by omega
  try have i0:(c:Int)>=97:=by omega
  try have i1:(c:Int)<65:=by omega
  try have i1:(c:Int)>=65:=by omega
  try have i2:(c:Int)<=90:=by omega
  try have i2:90<(c:Int):=by omega
  try have i3:(c:Int)<=122:=by omega
  try have i3:122<(c:Int):=by omega
  go_in;go_wp2;go_ret;exact⟨by rw[HV.out];first|(simp;done)|(simp;omega)|(simp;rw[Bool.eq_iff_iff];simp;omega),rfl⟩
def zAG (c:Nat):Bool:=!(c==92||c==124||c==40||c==41||c==91||c==93||c==123||c==125||c==42||c==43||c==63||c==46)&&isPrintedB c
theorem zCs (w:World)(c:Nat):Calls prog 212 #[int .u8 (c:Int)] w fun e w'=>e=returned (bool (zAG c))∧w'=w:=by
 have HP:Hid (∀w,Ca 218 #[int .u8 (c:Int)] w fun e w'=>e=returned (bool (isPrintedB c))∧w'=w):=fun w=>zBC w c;by_cases hq:c=92∨c=124∨c=40∨c=41∨c=91∨c=93∨c=123∨c=125∨c=42∨c=43∨c=63∨c=46
 ·rcases hq with rfl|rfl|rfl|rfl|rfl|rfl|rfl|rfl|rfl|rfl|rfl|rfl
  all_goals
   go_in;go_wp2;go_ret;exact⟨rfl,rfl⟩
 obtain⟨h0,h1,h2,h3,h4,h5,h6,h7,h8,h9,h10,h11⟩:¬c=92∧¬c=124∧¬c=40∧¬c=41∧¬c=91∧¬c=93∧¬c=123∧¬c=125∧¬c=42∧¬c=43∧¬c=63∧¬c=46:=by omega
 have HV:Hid (zAG c=isPrintedB c):=by
  show _=_;unfold zAG;simp[h0,h1,h2,h3,h4,h5,h6,h7,h8,h9,h10,h11]
 have e0:((c:Int)==92)=false:=by rw[hJ];omega
 have e1:((c:Int)==124)=false:=by rw[hJ];omega
 have e2:((c:Int)==40)=false:=by rw[hJ];omega
 have e3:((c:Int)==41)=false:=by rw[hJ];omega
 have e4:((c:Int)==91)=false:=by rw[hJ];omega
 have e5:((c:Int)==93)=false:=by rw[hJ];omega
 have e6:((c:Int)==123)=false:=by rw[hJ];omega
 have e7:((c:Int)==125)=false:=by rw[hJ];omega
 have e8:((c:Int)==42)=false:=by rw[hJ];omega
 have e9:((c:Int)==43)=false:=by rw[hJ];omega
 have e10:((c:Int)==63)=false:=by rw[hJ];omega
 have e11:((c:Int)==46)=false:=by rw[hJ];omega
 generalize isPrintedB c=b at *;go_in;go_wp2_with (first|(go_at_call 218;refine(HP.out _).mono ?_;rintro e w9 ⟨rfl,hw9⟩;have hw8:=hw9.symm;subst hw8))
 go_ret;exact⟨by rw[HV.out];rfl,rfl⟩
def jA (c:Nat):Int:=if xF c then(c:Int)-48 else if 97<=c∧c<=102 then(c:Int)-87 else -1
theorem zFl (w:World)(c:Nat)(h8:c<256):Calls prog 220 #[int .u8 (c:Int)] w fun e w'=>e=returned (int i64 (jA c))∧w'=w:=by
 have HP0:Hid (∀w,Ca 206 #[int .u8 (c:Int)] w fun e w'=>e=returned (bool (xF c))∧w'=w):=fun w=>zAe w c;by_cases hd:48<=c∧c<=57
 ·have hdb:xF c=true:=by unfold xF;simp;omega
  rw[hdb] at HP0;have HP:=vl HP0.out;have HV:Hid (jA c=(c:Int)-48):=by show _=_;unfold jA;rw[if_pos hdb]
  have hw:IntKind.u8.wrap ((c:Int)-48)=(c:Int)-48:=by rw[IntKind.wrap_u8];omega
  go_in;go_wp2_with (first|(go_at_call 206;refine(HP.out _).mono ?_;rintro e w9 ⟨rfl,hw9⟩;have hw8:=hw9.symm;subst hw8))
  go_ret;exact⟨by rw[HV.out];first|rfl|(simp [hw];done)|(simp;omega),rfl⟩
 ·have hdb:xF c=false:=by unfold xF;simp;omega
  rw[hdb] at HP0;have HP:=vl HP0.out;by_cases hh:97<=c∧c<=102
  ·have HV:Hid (jA c=(c:Int)-87):=by show _=_;unfold jA;rw[if_neg (by rw[hdb];decide),if_pos hh]
   have i1:(c:Int)>=97:=by omega
   have i2:(c:Int)<=102:=by omega
   have hw:IntKind.u8.wrap ((c:Int)-97)=(c:Int)-97:=by rw[IntKind.wrap_u8];omega
   go_in;go_wp2_with (first|(go_at_call 206;refine(HP.out _).mono ?_;rintro e w9 ⟨rfl,hw9⟩;have hw8:=hw9.symm;subst hw8))
   go_ret;exact⟨by rw[HV.out];first|rfl|(simp [hw];done)|(simp;omega),rfl⟩
  ·have HV:Hid (jA c=-1):=by show _=_;unfold jA;rw[if_neg (by rw[hdb];decide),if_neg hh]
   by_cases h97:97<=c
   ·have i1:(c:Int)>=97:=by omega
    have i2:102<(c:Int):=by omega
    go_in;go_wp2_with (first|(go_at_call 206;refine(HP.out _).mono ?_;rintro e w9 ⟨rfl,hw9⟩;have hw8:=hw9.symm;subst hw8))
    go_ret;exact⟨by rw[HV.out];rfl,rfl⟩
   ·have i1:(c:Int)<97:=by omega
    go_in;go_wp2_with (first|(go_at_call 206;refine(HP.out _).mono ?_;rintro e w9 ⟨rfl,hw9⟩;have hw8:=hw9.symm;subst hw8))
    go_ret;exact⟨by rw[HV.out];rfl,rfl⟩
def qA (c:Nat):Bool:=decide (97<=c)&&decide (c<=122)
theorem zCr (w:World)(c:Nat):Calls prog 181 #[int .u8 (c:Int)] w fun e w'=>e=returned (bool (qA c))∧w'=w:=by
 by_cases h1:97<=c
 ·by_cases h2:c<=122
  ·have HV:Hid (qA c=true):=by show _=_;unfold qA;rw[dW h1,dW h2];rfl
   have i1:(c:Int)>=97:=by omega
   have i2:(c:Int)<=122:=by omega
   go_in;go_wp2;go_ret;exact⟨by rw[HV.out];first|rfl|(simp;done)|(simp;omega),rfl⟩
  ·have HV:Hid (qA c=false):=by show _=_;unfold qA;rw[dW h1,dY h2];rfl
   have i1:(c:Int)>=97:=by omega
   have i2:122<(c:Int):=by omega
   go_in;go_wp2;go_ret;exact⟨by rw[HV.out];first|rfl|(simp;done)|(simp;omega),rfl⟩
 ·have HV:Hid (qA c=false):=by show _=_;unfold qA;rw[dY h1];rfl
  have i1:(c:Int)<97:=by omega
  go_in;go_wp2;go_ret;exact⟨by rw[HV.out];first|rfl|(simp;done)|(simp;omega),rfl⟩
def jO (s:ByteArray)(c:Nat):Nat:=(List.range s.size).findIdx fun i=>byt s i==c
theorem zNA (s:ByteArray)(c j:Nat)(hj:j<s.size)(h:byt s j=c)(hn:∀i,i<j->byt s i≠c):jO s c=j:=
 zDb _ _ j (by rw[List.length_range];exact hj) (by rw[qP _ _ hj];exact beq_iff_eq.2 h) fun k hk=>by rw[qP _ _ (by omega)];exact hJ.2 (hn k hk)
theorem zLt (s:ByteArray)(c:Nat)(hn:∀i,i<s.size->byt s i≠c):jO s c=s.size:=by
 have h:=zA8 (List.range s.size) (fun i=>byt s i==c) fun k hk=>by
  rw[List.length_range] at hk;rw[qP _ _ hk];exact hJ.2 (hn k hk)
 rw[List.length_range] at h;exact h
def jS (s:ByteArray)(c:Nat):Bool:=decide (jO s c<s.size)
def xX (s:ByteArray)(c:Nat):ByteArray:=if jS s c then s.extract 0 (jO s c) else s
def yK (s:ByteArray)(c:Nat):ByteArray:=if jS s c then s.extract (jO s c+1) s.size else⟨#[]⟩
theorem zCi (w:World)(s:ByteArray)(hs:s.size<=1048576)(c:Nat):
  Calls prog 86 #[string s,int .u8 (c:Int)] w fun e w'=>e=returned (tuple #[string (xX s c),string (yK s c),bool (jS s c)])∧Grew w w':=by
 have H1:Hid (∀j,j<s.size->byt s j=c->(∀i,i<j->byt s i≠c)->jO s c=j):=fun j=>zNA s c j;have H2:=vl <| zLt s c;have HV:Hid (∀j,jO s c=j->j<s.size->(jS s c=true∧xX s c=s.extract 0 j∧yK s c=s.extract (j+1) s.size)):=fun j e hj=>by
  have h1:jS s c=true:=by unfold jS;rw[e];exact dW hj
  exact⟨h1,by unfold xX;rw[if_pos h1,e],by unfold yK;rw[if_pos h1,e]⟩
 have HN:Hid (jO s c=s.size->(jS s c=false∧xX s c=s∧yK s c=⟨#[]⟩)):=fun e=>by
  have h1:jS s c=false:=by unfold jS;rw[e];exact dY (by omega)
  exact⟨h1,by unfold xX;rw[if_neg (by rw[h1];decide)],by unfold yK;rw[if_neg (by rw[h1];decide)]⟩
 generalize jS s c=K at *;generalize xX s c=A at *;generalize yK s c=B at *;go_in;go_wp2;go_loopg [7] s.size (fun q i wr=>∃j:Nat,q=s.size-j∧j<=s.size∧i=int i64 (j:Int)∧(∀k,k<j->byt s k≠c)∧wr=w)
 case atStart=>exact⟨0,rfl,lX,rfl,fun k hk=>by omega,rfl⟩
 case round=>
  obtain⟨j,hgk,hj,rfl,hno,rfl⟩:=hrel;have HA:Hid (gk=s.size-j∧(∀k,k<j->byt s k≠c)):=⟨hgk,hno⟩
  by_cases hj2:j<s.size
  ·have i1:(j:Int)<(s.size:Int):=by omega
   have i0:¬(j:Int)<0:=by omega
   have hbe:=zDQ s j hj2;clear hgk hno;by_cases hc:byt s j=c
   ·have HC:=vl <| HV.out j (H1.out j hj2 hc HA.out.2) hj2
    have ec:((byt s j:Int)==(c:Int))=true:=by rw[hc];exact beq_self_eq_true _
    have i3:(0:Int)<=(j:Int):=by omega
    have i4:(j:Int)<=(s.size:Int):=by omega
    have i5:(0:Int)<=(j:Int)+1:=by omega
    have i6:(j:Int)+1<=(s.size:Int):=by omega
    have HTN:Hid (((j:Int)+1).toNat=j+1):=by show _=_;omega
    generalize byt s j=x at *;go_wp2;go_quiet (fail);go_wp2;refine dZ (v:=tuple #[string (s.extract 0 j),string (s.extract (j+1) s.size),bool true]) (by simp[results,results86,go_sem]) rfl ?_;exact⟨by rw[HC.out.1,HC.out.2.1,HC.out.2.2],Keep.alike (w':=wr.drewN nq) ⟨rfl,rfl,rfl⟩⟩
   ·have ec:((byt s j:Int)==(c:Int))=false:=by rw[hJ];omega
    have HNO:Hid (∀k,k<j+1->byt s k≠c):=fun k hk=>by
     by_cases e:k=j
     ·rw[e];exact hc
     ·exact HA.out.2 k (by omega)
    clear hc;generalize byt s j=x at *;go_wp2;go_roundg (s.size-(j+1))
    case measure=>rw[HA.out.1];omega
    case rel=>exact⟨j+1,rfl,by omega,by go_num,HNO.out,rfl⟩
  ·have i1:(s.size:Int)<=(j:Int):=by omega
   have HC:=vl <| HN.out (H2.out fun k hk=>hno k (by omega));clear hgk hno;go_wp2;refine dZ (v:=tuple #[string s,string ⟨#[]⟩,bool false]) (by simp[results,results86,go_sem]) rfl ?_;exact⟨by rw[HC.out.1,HC.out.2.1,HC.out.2.2],Keep.refl _ _ _⟩
theorem zAs (s:ByteArray):s.toList.isEmpty=decide (s.size=0):=by
 rw[ByteArray.toList_eq];have e:s.size=s.data.toList.length:=rfl;cases h:s.data.toList with
 |nil=>rw[e,h];rfl
 |cons a l=>rw[e,h];rfl
def vY (c:Nat):Bool:=qA c||xF c
def xD (s:ByteArray):Bool:=decide (0<s.size)&&(decide (s.size<=6)&&(qA (byt s 0)&&decide (∀i,i<s.size->i=0∨vY (byt s i)=true)))
theorem vM (w:World)(s:ByteArray)(hs:s.size<=1048576):Calls prog 160 #[string s] w fun e w'=>e=returned (bool (xD s))∧w'=w:=by
 have hE:=zAs s;by_cases h0:s.size=0
 ·have HV:Hid (xD s=false):=by show _=_;unfold xD;rw[dY (show¬0<s.size by omega),Bool.false_and]
  rw[dW h0] at hE;go_in;go_wp2;go_ret;exact⟨by rw[HV.out];rfl,rfl⟩
 rw[dY h0] at hE;by_cases h6:6<s.size
 ·have HV:Hid (xD s=false):=by show _=_;unfold xD;rw[dY (show¬s.size<=6 by omega),Bool.false_and,Bool.and_false]
  have i6:6<(s.size:Int):=by omega
  go_in;go_wp2;go_ret;exact⟨by rw[HV.out];rfl,rfl⟩
 have i6:(s.size:Int)<=6:=by omega
 have hz:0<s.size:=by omega
 have i0:(0:Int)<(s.size:Int):=by omega
 have hb0:=zDQ s 0 hz;have HV0:Hid (xD s=(qA (byt s 0)&&decide (∀i,i<s.size->i=0∨vY (byt s i)=true))):=by show _=_;unfold xD;rw[dW hz,dW (show s.size<=6 by omega),Bool.true_and,Bool.true_and]
 have HS0:Hid (∀w,Ca 181 #[int .u8 (byt s 0:Nat)] w fun e w'=>e=returned (bool (qA (byt s 0)))∧w'=w):=fun w=>zCr w (byt s 0);cases hsm:qA (byt s 0) with
 |false=>
  have HV:Hid (xD s=false):=by show _=_;rw[HV0.out,hsm,Bool.false_and]
  rw[hsm] at HS0;have HS1:=vl HS0;generalize byt s 0=c0 at *;go_in;go_wp2_with (first|(go_at_call 181;refine(HS1.out _).mono ?_;rintro e w9 ⟨rfl,hw9⟩;have hw8:=hw9.symm;subst hw8))
  go_ret;exact⟨by rw[HV.out];rfl,rfl⟩
 |true=>
  have HV:Hid (xD s=decide (∀i,i<s.size->i=0∨vY (byt s i)=true)):=by show _=_;rw[HV0.out,hsm,Bool.true_and]
  rw[hsm] at HS0;have HS1:=vl HS0;generalize xD s=V at *;go_in;apply wp_cut;intro K0 J;go_wp2;apply J.out;generalize byt s 0=c0 at hb0 HS1;apply wp_cut;intro K0 J;go_wp2_with (first|(go_at_call 181;refine(HS1.out _).mono ?_;rintro e w9 ⟨rfl,hw9⟩;have hw8:=hw9.symm;subst hw8))
  apply J.out;go_wp2;go_loopg [3] (s.size-1) (fun q i wr=>∃j:Nat,q=s.size-j∧1<=j∧j<=s.size∧i=int i64 (j:Int)∧(∀k,k<j->k=0∨vY (byt s k)=true)∧wr=w)
  case atStart=>exact⟨1,rfl,lQ,hz,rfl,fun k hk=>.inl (by omega),rfl⟩
  case round=>
   obtain⟨j,hgk,hj1,hj,rfl,hno,rfl⟩:=hrel;have HA:Hid (gk=s.size-j∧(∀k,k<j->k=0∨vY (byt s k)=true)):=⟨hgk,hno⟩
   by_cases hj2:j<s.size
   ·have i1:(j:Int)<(s.size:Int):=by omega
    have i2:¬(j:Int)<0:=by omega
    have hbe:=zDQ s j hj2;have HSJ:Hid (∀w,Ca 181 #[int .u8 (byt s j:Nat)] w fun e w'=>e=returned (bool (qA (byt s j)))∧w'=w):=fun w=>zCr w (byt s j);have HNO:Hid (vY (byt s j)=true->∀k,k<j+1->k=0∨vY (byt s k)=true):=fun h k hk=>by
     by_cases e:k=j
     ·rw[e];exact .inr h
     ·exact HA.out.2 k (by omega)
    have HNV:Hid (vY (byt s j)=false->V=false):=fun h=>by
     rw[HV.out];exact dY fun hh=>by
      rcases hh j hj2 with h1|h1
      ·omega
      ·rw[h] at h1;cases h1
    generalize byt s j=c at *;cases hsj:qA c with
    |true=>
     rw[hsj] at HSJ;have HSK:=vl HSJ;have HN2:=HNO.out (by unfold vY;rw[hsj];rfl);go_wp2_with (first|(go_at_call 181;refine(HSK.out _).mono ?_;rintro e w9 ⟨rfl,hw9⟩;have hw8:=hw9.symm;subst hw8))
     go_roundg (s.size-(j+1))
     case measure=>rw[HA.out.1];omega
     case rel=>exact⟨j+1,rfl,by omega,by omega,by go_num,HN2,rfl⟩
    |false=>
     rw[hsj] at HSJ;have HSK:=vl HSJ;by_cases c1:c<48
     ·have d1:(c:Int)<48:=by omega
      have HN2:=vl <| HNV.out (by unfold vY xF;rw[hsj,dY (show¬48<=c by omega)];rfl);go_wp2_with (first|(go_at_call 181;refine(HSK.out _).mono ?_;rintro e w9 ⟨rfl,hw9⟩;have hw8:=hw9.symm;subst hw8))
      go_ret;exact⟨by rw[HN2.out];rfl,rfl⟩
     by_cases c2:57<c
     ·have d1:¬(c:Int)<48:=by omega
      have d2:57<(c:Int):=by omega
      have HN2:=vl <| HNV.out (by unfold vY xF;rw[hsj,dY (show¬c<=57 by omega),Bool.and_false];rfl);go_wp2_with (first|(go_at_call 181;refine(HSK.out _).mono ?_;rintro e w9 ⟨rfl,hw9⟩;have hw8:=hw9.symm;subst hw8))
      go_ret;exact⟨by rw[HN2.out];rfl,rfl⟩
     ·have d1:¬(c:Int)<48:=by omega
      have d2:¬57<(c:Int):=by omega
      have HN2:=HNO.out (by unfold vY xF;rw[hsj,dW (show 48<=c by omega),dW (show c<=57 by omega)];rfl);go_wp2_with (first|(go_at_call 181;refine(HSK.out _).mono ?_;rintro e w9 ⟨rfl,hw9⟩;have hw8:=hw9.symm;subst hw8))
      go_roundg (s.size-(j+1))
      case measure=>rw[HA.out.1];omega
      case rel=>exact⟨j+1,rfl,by omega,by omega,by go_num,HN2,rfl⟩
   ·have i1:(s.size:Int)<=(j:Int):=by omega
    have HN2:Hid (V=true):=by
     show _=_;rw[HV.out];exact dW fun i hi=>hno i (by omega)
    go_wp2;go_ret;exact⟨by rw[HN2.out];rfl,rfl⟩
structure Ac where
 act:Nat
 name:ByteArray
 ok:Bool
def eqS (a b:ByteArray):Bool:=a.toList==b.toList
def zGa (s:ByteArray):Ac:=if byt s 0=62&&xD (s.extract 1 s.size) then⟨2,s.extract 1 s.size,true⟩ else⟨0,⟨#[]⟩,false⟩
def zAv (s:ByteArray):Ac:=if s.size=0 then⟨0,⟨#[]⟩,false⟩ else if eqS s ⟨#[46]⟩ then⟨0,⟨#[]⟩,true⟩ else if eqS s ⟨#[45]⟩ then⟨1,⟨#[]⟩,true⟩ else if eqS s ⟨#[60]⟩ then⟨3,⟨#[]⟩,true⟩ else zGa s
theorem zCl (w:World)(s:ByteArray)(hs:s.size<=1048576):Calls prog 163 #[string s] w fun e w'=>e=returned (tuple #[int i64 ((zAv s).act:Int),string (zAv s).name,bool (zAv s).ok])∧Grew w w':=by
 have hE:=zAs s;have h46:(⟨#[46]⟩:ByteArray).toList=[46]:=by rw[ByteArray.toList_eq]
 have h45:(⟨#[45]⟩:ByteArray).toList=[45]:=by rw[ByteArray.toList_eq]
 have h60:(⟨#[60]⟩:ByteArray).toList=[60]:=by rw[ByteArray.toList_eq]
 by_cases h0:s.size=0
 ·have HV:Hid (zAv s=⟨0,⟨#[]⟩,false⟩):=by show _=_;unfold zAv;rw[if_pos h0]
  rw[dW h0] at hE;rw[HV.out];go_in;go_wp2;refine dZ (v:=tuple #[int i64 0,string ⟨#[]⟩,bool false]) (by simp[results,results163,go_sem]) rfl ?_;exact⟨rfl,Keep.refl _ _ _⟩
 rw[dY h0] at hE;have HV0:Hid (zAv s=if eqS s ⟨#[46]⟩ then⟨0,⟨#[]⟩,true⟩ else if eqS s ⟨#[45]⟩ then⟨1,⟨#[]⟩,true⟩ else if eqS s ⟨#[60]⟩ then⟨3,⟨#[]⟩,true⟩ else zGa s):=by show _=_;unfold zAv;rw[if_neg h0]
 cases e1:eqS s ⟨#[46]⟩ with
 |true=>
  have HV:Hid (zAv s=⟨0,⟨#[]⟩,true⟩):=by show _=_;rw[HV0.out,e1];rfl
  have e2:(s.toList==[46])=true:=by rw[<-h46];exact e1
  rw[HV.out];go_in;go_wp2;refine dZ (v:=tuple #[int i64 0,string ⟨#[]⟩,bool true]) (by simp[results,results163,go_sem]) rfl ?_;exact⟨rfl,Keep.refl _ _ _⟩
 |false=>
 have f1:(s.toList==[46])=false:=by rw[<-h46];exact e1
 rw[e1] at HV0;cases e2:eqS s ⟨#[45]⟩ with
 |true=>
  have HV:Hid (zAv s=⟨1,⟨#[]⟩,true⟩):=by show _=_;rw[HV0.out,e2];rfl
  have g2:(s.toList==[45])=true:=by rw[<-h45];exact e2
  rw[HV.out];go_in;go_wp2;refine dZ (v:=tuple #[int i64 1,string ⟨#[]⟩,bool true]) (by simp[results,results163,go_sem]) rfl ?_;exact⟨rfl,Keep.refl _ _ _⟩
 |false=>
 have f2:(s.toList==[45])=false:=by rw[<-h45];exact e2
 rw[e2] at HV0;cases e3:eqS s ⟨#[60]⟩ with
 |true=>
  have HV:Hid (zAv s=⟨3,⟨#[]⟩,true⟩):=by show _=_;rw[HV0.out,e3];rfl
  have g3:(s.toList==[60])=true:=by rw[<-h60];exact e3
  rw[HV.out];go_in;go_wp2;refine dZ (v:=tuple #[int i64 3,string ⟨#[]⟩,bool true]) (by simp[results,results163,go_sem]) rfl ?_;exact⟨rfl,Keep.refl _ _ _⟩
 |false=>
 have f3:(s.toList==[60])=false:=by rw[<-h60];exact e3
 rw[e3] at HV0;have HV1:=vl HV0.out;have hz:0<s.size:=by omega
 have i0:(0:Int)<(s.size:Int):=by omega
 have i1:(1:Int)<=(s.size:Int):=by omega
 have hb0:=zDQ s 0 hz;have HVP:Hid (zGa s=if byt s 0=62&&xD (s.extract 1 s.size) then⟨2,s.extract 1 s.size,true⟩ else⟨0,⟨#[]⟩,false⟩):=rfl;have HNM:Hid (∀w,Ca 160 #[string (s.extract 1 s.size)] w fun e w'=>e=returned (bool (xD (s.extract 1 s.size)))∧w'=w):=fun w=>vM w _ (by rw[ByteArray.size_extract];omega);rw[HV1.out];generalize xD (s.extract 1 s.size)=nb at *;generalize zGa s=pa at *;generalize byt s 0=c at *;by_cases hc:c=62
 ·subst hc
  cases nb with
  |true=>
   have HV:=vl HVP.out;rw[HV.out];go_in;go_wp2_with (first|(go_at_call 160;refine(HNM.out _).mono ?_;rintro e w9 ⟨rfl,hw9⟩;have hw8:=hw9.symm;subst hw8))
   go_quiet (fail);go_wp2;refine dZ (v:=tuple #[int i64 2,string (s.extract 1 s.size),bool true]) (by simp[results,results163,go_sem]) rfl ?_;exact⟨rfl,Keep.alike (w':=w.drewN nq) ⟨rfl,rfl,rfl⟩⟩
  |false=>
   have HV:=vl HVP.out;rw[HV.out];go_in;go_wp2_with (first|(go_at_call 160;refine(HNM.out _).mono ?_;rintro e w9 ⟨rfl,hw9⟩;have hw8:=hw9.symm;subst hw8))
   refine dZ (v:=tuple #[int i64 0,string ⟨#[]⟩,bool false]) (by simp[results,results163,go_sem]) rfl ?_;exact⟨rfl,Keep.refl _ _ _⟩
 ·have HV:Hid (pa=⟨0,⟨#[]⟩,false⟩):=by show _=_;rw[HVP.out,dY hc];rfl
  have ec:((c:Int) != 62)=true:=by simp;omega
  rw[HV.out];go_in;go_wp2;refine dZ (v:=tuple #[int i64 0,string ⟨#[]⟩,bool false]) (by simp[results,results163,go_sem]) rfl ?_;exact⟨rfl,Keep.refl _ _ _⟩
section
structure Rx where
 at_:Nat
 depth:Nat
 both:Bool
def RxAt (w:World)(b:Nat)(s:ByteArray)(dv:Value)(r:Rx):Prop:=w.heap[b]? =some (.cells #[string s,dv,int i64 (r.at_:Int),int i64 (r.depth:Int),bool r.both] 252)
namespace RxAt
variable {w w':World} {b:Nat} {s:ByteArray} {dv:Value} {r:Rx}
theorem lt (h:RxAt w b s dv r):b<w.heap.size:=(kQ.1 h).1
theorem cells (h:RxAt w b s dv r):w.cell? ⟨b,0,none⟩=some (string s)∧w.cell? ⟨b,1,none⟩=some dv∧w.cell? ⟨b,2,none⟩=some (int i64 (r.at_:Int))∧w.cell? ⟨b,3,none⟩=some (int i64 (r.depth:Int))∧w.cell? ⟨b,4,none⟩=some (bool r.both)∧∀i,w.frozen? ⟨b,i,none⟩=false:=by
 unfold RxAt at h;refine⟨?_,?_,?_,?_,?_,fun i=>?_⟩
 all_goals first|(unfold cell?;rw[h];rfl)|(unfold frozen?;rw[h];simp)
theorem of_block (h:RxAt w b s dv r)(e:w'.heap[b]? =w.heap[b]?):RxAt w' b s dv r:=e.trans h
theorem setAt (h:RxAt w b s dv r)(q:Nat):RxAt (w.setCell ⟨b,2,none⟩ (int i64 (q:Int))) b s dv {r with at_:=q}:=by
 unfold RxAt at *;simp[setCell,lU,h]
end RxAt
theorem qF (w:World)(b:Nat)(s:ByteArray)(dv:Value)(r:Rx)(h:RxAt w b s dv r)(hs:s.size<=1048576)(ha:r.at_<=2000000)(k:Nat)(hk:k<=1):
  Calls prog 200 #[pointer (some ⟨b,0,none⟩),int i64 (k:Int)] w fun e w'=>e=returned (int .u8 (byt s (r.at_+k):Nat))∧w'=w:=by
 obtain⟨c0,-,c2,-,-,-⟩:=h.cells;by_cases hi:r.at_+k<s.size
 ·have HV:Hid (byt s (r.at_+k)=byt s (r.at_+k)):=rfl
  have i0:¬((r.at_:Int)+(k:Int)<0):=by omega
  have i1:(r.at_:Int)+(k:Int)<(s.size:Int):=by omega
  go_in;go_wp2;go_ret;exact⟨by rw[<-zDQ s _ hi];rfl,rfl⟩
 ·have HV:Hid (byt s (r.at_+k)=0):=zKp s _ (by omega)
  have i0:¬((r.at_:Int)+(k:Int)<0):=by omega
  have i1:(s.size:Int)<=(r.at_:Int)+(k:Int):=by omega
  go_in;go_wp2;go_ret;exact⟨by rw[HV.out];rfl,rfl⟩
def zJ (s:ByteArray)(i:Nat)(t:ByteArray):Bool:=decide (i+t.size<=s.size)&&((s.extract i (i+t.size)).toList==t.toList)
def Rx.take (r:Rx)(s t:ByteArray):Rx:=if zJ s r.at_ t then{r with at_:=r.at_+t.size} else r
theorem jH (w:World)(b:Nat)(s:ByteArray)(dv:Value)(r:Rx)(h:RxAt w b s dv r)(hs:s.size<=1048576)(ha:r.at_<=2000000)(t:ByteArray)(ht:t.size<=1000000):
  Calls prog 189 #[pointer (some ⟨b,0,none⟩),string t] w fun e w'=>e=returned (bool (zJ s r.at_ t))∧RxAt w' b s dv (r.take s t)∧∀H,Keep H b w w':=by
 obtain⟨c0,-,c2,-,-,cf⟩:=h.cells;have cf2:=cf 2;have HR:=vl h;have htn:((r.at_:Int)+(t.size:Int)).toNat=r.at_+t.size:=by omega
 by_cases hi:r.at_+t.size<=s.size
 ·have i0:¬((s.size:Int)<(r.at_:Int)+(t.size:Int)):=by omega
  have i1:(r.at_:Int)+(t.size:Int)<=(s.size:Int):=by omega
  have i2:(0:Int)<=(r.at_:Int):=by omega
  have i3:(r.at_:Int)<=(r.at_:Int)+(t.size:Int):=by omega
  cases hc:((s.extract r.at_ (r.at_+t.size)).toList==t.toList) with
  |true=>
   have htb:zJ s r.at_ t=true:=by unfold zJ;rw[dW hi,hc];rfl
   have HV:Hid (zJ s r.at_ t=true∧r.take s t={r with at_:=r.at_+t.size}):=⟨htb,by unfold Rx.take;rw[if_pos htb]⟩
   have hce:((s.extract r.at_ ((r.at_:Int)+(t.size:Int)).toNat).toList==t.toList)=true:=by rw[htn];exact hc
   go_in;go_wp2;go_quiet (fail);go_wp2;go_ret;refine⟨by rw[HV.out.1];rfl,?_,fun H=>Keep.drewSet w _ _ _⟩;rw[HV.out.2];have h2:=(RxAt.of_block (w':=w.drewN nq) HR.out rfl).setAt (r.at_+t.size);rw[show ((r.at_+t.size:Nat):Int)=(r.at_:Int)+(t.size:Int) by omega] at h2;exact h2
  |false=>
   have htb:zJ s r.at_ t=false:=by unfold zJ;rw[dW hi,hc];rfl
   have HV:Hid (zJ s r.at_ t=false∧r.take s t=r):=⟨htb,by unfold Rx.take;rw[if_neg (by rw[htb];decide)]⟩
   have hce:((s.extract r.at_ ((r.at_:Int)+(t.size:Int)).toNat).toList==t.toList)=false:=by rw[htn];exact hc
   go_in;go_wp2;go_quiet (fail);go_wp2;go_ret;exact⟨by rw[HV.out.1];rfl,by rw[HV.out.2];exact RxAt.of_block HR.out rfl,fun H=>Keep.alike (w':=w.drewN nq) ⟨rfl,rfl,rfl⟩⟩
 ·have htb:zJ s r.at_ t=false:=by unfold zJ;rw[dY hi];rfl
  have HV:Hid (zJ s r.at_ t=false∧r.take s t=r):=⟨htb,by unfold Rx.take;rw[if_neg (by rw[htb];decide)]⟩
  have i1:(s.size:Int)<(r.at_:Int)+(t.size:Int):=by omega
  go_in;go_wp2;go_quiet (fail);go_wp2;go_ret;exact⟨by rw[HV.out.1];rfl,by rw[HV.out.2];exact RxAt.of_block HR.out rfl,fun H=>Keep.alike (w':=w.drewN nq) ⟨rfl,rfl,rfl⟩⟩
end
def xY (c:Nat):Bool:=xF c&&decide (c<=52)
def zAZ (c:Nat):Int:=if xY c then(c:Int)-48 else -1
def Rx.on (r:Rx)(k:Bool):Rx:=if k then{r with at_:=r.at_+1} else r
theorem zEb (w:World)(b:Nat)(s:ByteArray)(dv:Value)(r:Rx)(h:RxAt w b s dv r)(hs:s.size<=1048576)(ha:r.at_<=2000000):
  Calls prog 214 #[pointer (some ⟨b,0,none⟩)] w fun e w'=>e=returned (int i64 (zAZ (byt s r.at_)))∧RxAt w' b s dv (r.on (xY (byt s r.at_)))∧∀H,Keep H b w w':=by
 obtain⟨-,-,c2,-,-,cf⟩:=h.cells;have cf2:=cf 2;have HR:=vl h;have HPK:=vl <| qF w b s dv r h hs ha 0 (by omega);have hlt:=zAo s r.at_;generalize byt s r.at_=c at *;have HDG0:Hid (∀w,Ca 206 #[int .u8 (c:Int)] w fun e w'=>e=returned (bool (xF c))∧w'=w):=fun w=>zAe w c;cases hd:xF c with
 |false=>
  have hk:xY c=false:=by unfold xY;rw[hd];rfl
  have HV:Hid (zAZ c=-1∧r.on (xY c)=r):=⟨by unfold zAZ;rw[if_neg (by rw[hk];decide)],by unfold Rx.on;rw[if_neg (by rw[hk];decide)]⟩
  rw[hd] at HDG0;have HDG:=vl HDG0.out;go_in;go_wp2_with (first|(go_at_call 200;refine HPK.out.mono ?_;rintro e w9 ⟨rfl,hw9⟩;have hw8:=hw9.symm;subst hw8)|(go_at_call 206;refine(HDG.out _).mono ?_;rintro e w9 ⟨rfl,hw9⟩;have hw8:=hw9.symm;subst hw8))
  go_ret;exact⟨by rw[HV.out.1];rfl,by rw[HV.out.2];exact HR.out,fun H=>Keep.refl _ _ _⟩
 |true=>
  have hr:48<=c∧c<=57:=by unfold xF at hd;simpa using hd
  rw[hd] at HDG0;have HDG:=vl HDG0.out;have hw:IntKind.u8.wrap ((c:Int)-48)=(c:Int)-48:=by rw[IntKind.wrap_u8];omega
  by_cases h4:c<=52
  ·have hk:xY c=true:=by unfold xY;rw[hd,dW h4];rfl
   have HV:Hid (zAZ c=(c:Int)-48∧r.on (xY c)={r with at_:=r.at_+1}):=⟨by unfold zAZ;rw[if_pos hk],by unfold Rx.on;rw[if_pos hk]⟩
   have i1:(c:Int)-48<=4:=by omega
   go_in;go_wp2_with (first|(go_at_call 200;refine HPK.out.mono ?_;rintro e w9 ⟨rfl,hw9⟩;have hw8:=hw9.symm;subst hw8)|(go_at_call 206;refine(HDG.out _).mono ?_;rintro e w9 ⟨rfl,hw9⟩;have hw8:=hw9.symm;subst hw8))
   go_ret;refine⟨by rw[HV.out.1];first|rfl|(simp [hw];done)|(simp;omega),?_,fun H=>Keep.set _ _ _⟩;rw[HV.out.2];have h2:=HR.out.setAt (r.at_+1);rw[show ((r.at_+1:Nat):Int)=(r.at_:Int)+1 by omega] at h2;exact h2
  ·have hk:xY c=false:=by unfold xY;rw[hd,dY h4];rfl
   have HV:Hid (zAZ c=-1∧r.on (xY c)=r):=⟨by unfold zAZ;rw[if_neg (by rw[hk];decide)],by unfold Rx.on;rw[if_neg (by rw[hk];decide)]⟩
   have i1:4<(c:Int)-48:=by omega
   go_in;go_wp2_with (first|(go_at_call 200;refine HPK.out.mono ?_;rintro e w9 ⟨rfl,hw9⟩;have hw8:=hw9.symm;subst hw8)|(go_at_call 206;refine(HDG.out _).mono ?_;rintro e w9 ⟨rfl,hw9⟩;have hw8:=hw9.symm;subst hw8))
   go_ret;exact⟨by rw[HV.out.1];rfl,by rw[HV.out.2];exact HR.out,fun H=>Keep.refl _ _ _⟩
def zBD (s:ByteArray)(i:Nat):Bool:=decide (s.size<=i)||(byt s i==124||byt s i==41)
theorem zFM (w:World)(b:Nat)(s:ByteArray)(dv:Value)(r:Rx)(h:RxAt w b s dv r)(hs:s.size<=1048576)(ha:r.at_<=2000000):
  Calls prog 194 #[pointer (some ⟨b,0,none⟩)] w fun e w'=>e=returned (bool (zBD s r.at_))∧∀H c,Keep H c w w':=by
 obtain⟨c0,-,c2,-,-,-⟩:=h.cells;by_cases hi:s.size<=r.at_
 ·have HV:Hid (zBD s r.at_=true):=by show _=_;unfold zBD;rw[dW hi];rfl
  have i1:(r.at_:Int)>=(s.size:Int):=by omega
  go_in;go_wp2;go_quiet (fail);go_wp2;go_ret;exact⟨by rw[HV.out];rfl,fun H c=>Keep.alike (w':=w.drewN nq) ⟨rfl,rfl,rfl⟩⟩
 ·have HV:Hid (zBD s r.at_=(byt s r.at_==124||byt s r.at_==41)):=by show _=_;unfold zBD;rw[dY hi];rfl
  have i1:(r.at_:Int)<(s.size:Int):=by omega
  have HPK:Hid (∀nq,Ca 200 #[pointer (some ⟨b,0,none⟩),int i64 0] (w.drewN nq) fun e w'=>e=returned (int .u8 (byt s r.at_:Nat))∧w'=w.drewN nq):=fun nq=>qF (w.drewN nq) b s dv r (RxAt.of_block h rfl) hs ha 0 (by omega);generalize byt s r.at_=c at *;by_cases h1:c=124
  ·subst h1
   go_in;go_wp2;go_quiet (fail);go_wp2_with (first|(go_at_call 200;refine(HPK.out _).mono ?_;rintro e w9 ⟨rfl,hw9⟩))
   go_ret;exact⟨by rw[HV.out];rfl,fun H c=>Keep.alike (w':=w.drewN nq) ⟨rfl,rfl,rfl⟩⟩
  ·have d1:((c:Int)==124)=false:=by rw[hJ];omega
   have e1:(c==124)=false:=by rw[hJ];exact h1
   have HV2:Hid (zBD s r.at_=((c:Int)==41)):=by
    show _=_;rw[HV.out,e1,Bool.false_or];by_cases h2:c=41
    ·rw[h2];rfl
    ·rw[show (c==41)=false by rw[hJ];exact h2,show((c:Int)==41)=false by rw[hJ];omega]
   go_in;go_wp2;go_quiet (fail);go_wp2_with (first|(go_at_call 200;refine(HPK.out _).mono ?_;rintro e w9 ⟨rfl,hw9⟩))
   go_ret;exact⟨by rw[HV2.out];rfl,fun H c=>Keep.alike (w':=w.drewN nq) ⟨rfl,rfl,rfl⟩⟩
def zAK (s:ByteArray)(i:Nat):Nat->Nat
 |0=>0
 |j+1=>zAK s i j*16+(jA (byt s (i+j))).toNat
def yJ (s:ByteArray)(i most:Nat):Nat:=(List.range most).findIdx fun j=>decide (jA (byt s (i+j))<0)
theorem zKi (c:Nat):jA c<16∧-1<=jA c:=by
 unfold jA;by_cases h:xF c=true
 ·have hr:48<=c∧c<=57:=by unfold xF at h;simpa using h
  rw[if_pos h];omega
 ·rw[if_neg h]
  split <;> omega
theorem zKg (s:ByteArray)(i j:Nat):zAK s i j<16^j:=by
 induction j with
 |zero=>exact Nat.one_pos
 |succ j ih=>
  have:=(zKi (byt s (i+j))).1;show zAK s i j*16+(jA (byt s (i+j))).toNat<16^(j+1);rw[Nat.pow_succ];omega
theorem zNs (s:ByteArray)(i most j:Nat)(hj:j<most)(h:jA (byt s (i+j))<0)(hn:∀k,k<j->0<=jA (byt s (i+k))):yJ s i most=j:=
 zDb _ _ j (by rw[List.length_range];exact hj) (by rw[qP _ _ hj];exact dW h) fun k hk=>by rw[qP _ _ (by omega)];exact dY (by have:=hn k hk;omega)
theorem zMt (s:ByteArray)(i most:Nat)(hn:∀k,k<most->0<=jA (byt s (i+k))):yJ s i most=most:=by
 have h:=zA8 (List.range most) (fun j=>decide (jA (byt s (i+j))<0)) fun k hk=>by
  rw[List.length_range] at hk;rw[qP _ _ hk];exact dY (by have:=hn k hk;omega)
 rw[List.length_range] at h;exact h
theorem zK9 (w:World)(b:Nat)(s:ByteArray)(dv:Value)(r:Rx)(h:RxAt w b s dv r)(hs:s.size<=1048576)(ha:r.at_<=1900000)(most:Nat)(hm:most<=6):
  Calls prog 216 #[pointer (some ⟨b,0,none⟩),int i64 (most:Int)] w fun e w'=>e=returned (tuple #[int i64 (zAK s r.at_ (yJ s r.at_ most):Nat),int i64 (yJ s r.at_ most:Nat)])∧RxAt w' b s dv {r with at_:=r.at_+yJ s r.at_ most}∧∀H,Keep H b w w':=by
 have HR0:=vl h;have HB1:Hid (∀j,j<=most->zAK s r.at_ j<=16777216):=fun j hj=>Nat.le_of_lt (lZ (zKg s r.at_ j) (kG (by omega) (by omega:j<=6)));have H1:Hid (∀j,j<most->jA (byt s (r.at_+j))<0->(∀k,k<j->0<=jA (byt s (r.at_+k)))->yJ s r.at_ most=j):=fun j=>zNs s r.at_ most j;have H2:=vl <| zMt s r.at_ most;have HNS:Hid (∀j,zAK s r.at_ (j+1)=zAK s r.at_ j*16+(jA (byt s (r.at_+j))).toNat):=fun j=>rfl;have HN0:Hid (zAK s r.at_ 0=0):=rfl;generalize hHN:zAK s r.at_=HN at *;go_in;go_wp2;go_loopg [6,7] most (fun q n i wr=>∃j:Nat,q=most-j∧j<=most∧n=int i64 (HN j:Int)∧i=int i64 (j:Int)∧(∀k,k<j->0<=jA (byt s (r.at_+k)))∧RxAt wr b s dv {r with at_:=r.at_+j}∧∀H,Keep H b w wr)
 case atStart=>exact⟨0,rfl,lX,by rw[HN0.out];rfl,rfl,fun k hk=>by omega,HR0.out,fun H=>Keep.refl _ _ _⟩
 case round=>
  obtain⟨j,hgk,hj,rfl,rfl,hno,hR,hkp⟩:=hrel;have HB:Hid (gk=most-j∧(∀k,k<j->0<=jA (byt s (r.at_+k)))∧RxAt wr b s dv {r with at_:=r.at_+j}∧∀H,Keep H b w wr):=⟨hgk,hno,hR,hkp⟩
  by_cases hj2:j<most
  ·have i1:(j:Int)<(most:Int):=by omega
   have HPK0:=qF wr b s dv {r with at_:=r.at_+j} hR hs (by show r.at_+j<=2000000;omega) 0 (by omega);have HPK:=vl HPK0;have HHX:Hid (∀w2,Ca 220 #[int .u8 (byt s (r.at_+j):Nat)] w2 fun e w'=>e=returned (int i64 (jA (byt s (r.at_+j))))∧w'=w2):=fun w2=>zFl w2 _ (zAo s _);obtain⟨-,-,c2,-,-,cf⟩:=hR.cells;have c2':=c2;have cf2:=cf 2;have hrange:=zKi (byt s (r.at_+j));have HS3:Hid (jA (byt s (r.at_+j))<0->yJ s r.at_ most=j):=fun h=>H1.out j hj2 h HB.out.2.1;have HN3:Hid (0<=jA (byt s (r.at_+j))->∀k,k<j+1->0<=jA (byt s (r.at_+k))):=fun h k hk=>by
    by_cases e:k=j
    ·rw[e];exact h
    ·exact HB.out.2.1 k (by omega)
   have HNX:=vl <| HNS.out j;have hnl:=HB1.out j (by omega);have HSA:=vl <| hR.setAt (r.at_+(j+1));generalize jA (byt s (r.at_+j))=d at *;generalize byt s (r.at_+j)=c at *;by_cases hd:d<0
   ·have HC:=vl <| HS3.out hd
    go_wp2_with (first|(go_at_call 200;refine HPK.out.mono ?_;rintro e w9 ⟨rfl,hw9⟩;have hw8:=hw9.symm;subst hw8)|(go_at_call 220;refine(HHX.out _).mono ?_;rintro e w9 ⟨rfl,hw9⟩;have hw8:=hw9.symm;subst hw8))
    refine dZ (results_tmp2 rfl _ _ _) rfl ?_;exact⟨by rw[HC.out];rfl,by rw[HC.out];exact HB.out.2.2.1,HB.out.2.2.2⟩
   ·have HNO:=vl <| HN3.out (by omega)
    have i2:0<=d:=by omega
    have HEQ:Hid ((HN (j+1):Int)=(HN j:Int)*16+d):=by show _=_;rw[HNX.out];omega
    have c3:wr.cell? ⟨b,2,none⟩=some (int i64 ((r.at_:Int)+(j:Int))):=by rw[c2'];congr 2
    have HE2:Hid (((r.at_+(j+1):Nat):Int)=(r.at_:Int)+(j:Int)+1):=by show _=_;omega
    rw[HE2.out] at HSA;generalize HN j=nn at *;go_wp2_with (first|(go_at_call 200;refine HPK.out.mono ?_;rintro e w9 ⟨rfl,hw9⟩;have hw8:=hw9.symm;subst hw8)|(go_at_call 220;refine(HHX.out _).mono ?_;rintro e w9 ⟨rfl,hw9⟩;have hw8:=hw9.symm;subst hw8))
    go_roundg (most-(j+1))
    case measure=>rw[HB.out.1];omega
    case rel=>exact⟨j+1,rfl,by omega,by rw[HEQ.out],by go_num,HNO.out,HSA.out,fun H=>(HB.out.2.2.2 H).trans (Keep.set _ _ _)⟩
  ·have i1:(most:Int)<=(j:Int):=by omega
   have e:j=most:=by omega
   have HC:=vl <| H2.out fun k hk=>hno k (by omega);subst e;go_wp2;refine dZ (results_tmp2 rfl _ _ _) rfl ?_;exact⟨by rw[HC.out];rfl,by rw[HC.out];exact HB.out.2.2.1,HB.out.2.2.2⟩
def zAP (s:ByteArray)(i:Nat):Bool:=byt s i==42||byt s i==43||byt s i==63||(byt s i==123&&xF (byt s (i+1)))
theorem zDG (w:World)(b:Nat)(s:ByteArray)(dv:Value)(r:Rx)(h:RxAt w b s dv r)(hs:s.size<=1048576)(ha:r.at_<=2000000):
  Calls prog 197 #[pointer (some ⟨b,0,none⟩)] w fun e w'=>e=returned (bool (zAP s r.at_))∧w'=w:=by
 have HP0:=vl <| qF w b s dv r h hs ha 0 (by omega);have HP1:=vl <| qF w b s dv r h hs ha 1 (by omega);have HD:Hid (∀w2,Ca 206 #[int .u8 (byt s (r.at_+1):Nat)] w2 fun e w'=>e=returned (bool (xF (byt s (r.at_+1))))∧w'=w2):=fun w2=>zAe w2 _;have HV:Hid (zAP s r.at_=(byt s r.at_==42||byt s r.at_==43||byt s r.at_==63||(byt s r.at_==123&&xF (byt s (r.at_+1))))):=rfl;generalize xF (byt s (r.at_+1))=dg at *;generalize byt s (r.at_+1)=c1 at *;generalize byt s r.at_=c at *;by_cases h1:c=42
 ·subst h1
  go_in;go_wp2_with (first|(go_at_call 200;refine HP0.out.mono ?_;rintro e w9 ⟨rfl,hw9⟩;have hw8:=hw9.symm;subst hw8))
  go_ret;exact⟨by rw[HV.out];rfl,rfl⟩
 by_cases h2:c=43
 ·subst h2
  go_in;go_wp2_with (first|(go_at_call 200;refine HP0.out.mono ?_;rintro e w9 ⟨rfl,hw9⟩;have hw8:=hw9.symm;subst hw8))
  go_ret;exact⟨by rw[HV.out];rfl,rfl⟩
 by_cases h3:c=63
 ·subst h3
  go_in;go_wp2_with (first|(go_at_call 200;refine HP0.out.mono ?_;rintro e w9 ⟨rfl,hw9⟩;have hw8:=hw9.symm;subst hw8))
  go_ret;exact⟨by rw[HV.out];rfl,rfl⟩
 by_cases h4:c=123
 ·subst h4
  have HV2:Hid (zAP s r.at_=dg):=by show _=_;rw[HV.out];rfl
  go_in;go_wp2_with (first|(go_at_call 200;first|(have m2:=mark1;refine HP1.out.mono ?_;rintro e w9 ⟨rfl,hw9⟩;have hw8:=hw9.symm;subst hw8)|(refine HP0.out.mono ?_;rintro e w9 ⟨rfl,hw9⟩;have hw8:=hw9.symm;subst hw8;have mark1:=trivial))|(go_at_call 206;refine(HD.out _).mono ?_;rintro e w9 ⟨rfl,hw9⟩;have hw8:=hw9.symm;subst hw8))
  go_ret;exact⟨by rw[HV2.out];rfl,rfl⟩
 ·have HV2:Hid (zAP s r.at_=false):=by
   show _=_;rw[HV.out,show(c==42)=false by rw[hJ];exact h1,show(c==43)=false by rw[hJ];exact h2,show(c==63)=false by rw[hJ];exact h3,show(c==123)=false by rw[hJ];exact h4];rfl
  have e1:((c:Int)==42)=false:=by rw[hJ];omega
  have e2:((c:Int)==43)=false:=by rw[hJ];omega
  have e3:((c:Int)==63)=false:=by rw[hJ];omega
  have e4:((c:Int)==123)=false:=by rw[hJ];omega
  go_in;go_wp2_with (first|(go_at_call 200;refine HP0.out.mono ?_;rintro e w9 ⟨rfl,hw9⟩;have hw8:=hw9.symm;subst hw8))
  go_ret;exact⟨by rw[HV2.out];rfl,rfl⟩
def zH8 (c:Int):Cs:=⟨[(c,c)],false⟩
def zOh:Cs:=⟨[(10,10)],true⟩
theorem zKX (w:World)(c:Int)(b:Nat)(h:w.heap[b]? =some (.cells #[int i64 c,int i64 c] 255)):RangesAt w (slice (some ⟨b,0,none⟩) 1 1) [(c,c)]:=by
 have hl:=(kQ.1 h).1;refine⟨_,1,rfl,lQ,by unfold maxLen;omega,fun i hi=>?_⟩;have e:i=0:=by simp at hi;omega
 subst e;refine⟨b,0,rfl,hl,?_,?_⟩
 ·unfold cell?;rw[h];rfl
 ·unfold cell?;rw[h];rfl
theorem zDy (w:World)(c:Int):
  Calls prog 210 #[int i64 c] w fun e w'=>∃u,e=returned (agg #[u,bool false])∧(∃g,w.heap.size<=g∧u=slice (some ⟨g,0,none⟩) 1 1∧w'.heap[g]? =some (.cells #[int i64 c,int i64 c] 255))∧Grew w w':=by
 obtain⟨w2,hw2,z0,z1,HB,HK⟩:∃w2,w2=(w.alloc (Obj.cells #[slice (some ⟨w.heap.size+1,0,none⟩) 1 1,bool false] 161)).alloc (Obj.cells #[int i64 c,int i64 c] 255)∧w2.cell? ⟨w.heap.size,0,none⟩=some (slice (some ⟨w.heap.size+1,0,none⟩) 1 1)∧w2.cell? ⟨w.heap.size,1,none⟩=some (bool false)∧Hid (w2.heap[w.heap.size+1]? =some (.cells #[int i64 c,int i64 c] 255))∧Hid (Grew w w2):=by
  have s1:(w.alloc (Obj.cells #[slice (some ⟨w.heap.size+1,0,none⟩) 1 1,bool false] 161)).heap.size=w.heap.size+1:=by simp
  have h1:((w.alloc (Obj.cells #[slice (some ⟨w.heap.size+1,0,none⟩) 1 1,bool false] 161)).alloc (Obj.cells #[int i64 c,int i64 c] 255)).heap[w.heap.size]? =some (Obj.cells #[slice (some ⟨w.heap.size+1,0,none⟩) 1 1,bool false] 161):=(lG _ _ _ (by rw[s1];omega)).trans (gJ _ _);have h2:=gJ (w.alloc (Obj.cells #[slice (some ⟨w.heap.size+1,0,none⟩) 1 1,bool false] 161)) (Obj.cells #[int i64 c,int i64 c] 255);rw[s1] at h2;refine⟨_,rfl,?_,?_,h2,(kZ _ _ lQ).trans (kZ _ _ (by rw[s1];omega))⟩
  ·unfold cell?;rw[h1];rfl
  ·unfold cell?;rw[h1];rfl
 go_in;go_wp2;rw[<-hw2];refine dZ (v:=agg #[slice (some ⟨w.heap.size+1,0,none⟩) 1 1,bool false]) (by simp[results,results210,go_sem,z0,z1]) rfl ?_;exact⟨_,rfl,⟨_,by omega,rfl,HB.out⟩,HK.out⟩
theorem zLp (w:World):
  Calls prog 211 #[] w fun e w'=>∃u,e=returned (agg #[u,bool true])∧(∃g,w.heap.size<=g∧u=slice (some ⟨g,0,none⟩) 1 1∧w'.heap[g]? =some (.cells #[int i64 10,int i64 10] 255))∧Grew w w':=by
 obtain⟨w2,hw2,z0,z1,HB,HK⟩:∃w2,w2=(w.alloc (Obj.cells #[slice (some ⟨w.heap.size+1,0,none⟩) 1 1,bool true] 161)).alloc (Obj.cells #[int i64 10,int i64 10] 255)∧w2.cell? ⟨w.heap.size,0,none⟩=some (slice (some ⟨w.heap.size+1,0,none⟩) 1 1)∧w2.cell? ⟨w.heap.size,1,none⟩=some (bool true)∧Hid (w2.heap[w.heap.size+1]? =some (.cells #[int i64 10,int i64 10] 255))∧Hid (Grew w w2):=by
  have s1:(w.alloc (Obj.cells #[slice (some ⟨w.heap.size+1,0,none⟩) 1 1,bool true] 161)).heap.size=w.heap.size+1:=by simp
  have h1:((w.alloc (Obj.cells #[slice (some ⟨w.heap.size+1,0,none⟩) 1 1,bool true] 161)).alloc (Obj.cells #[int i64 10,int i64 10] 255)).heap[w.heap.size]? =some (Obj.cells #[slice (some ⟨w.heap.size+1,0,none⟩) 1 1,bool true] 161):=(lG _ _ _ (by rw[s1];omega)).trans (gJ _ _);have h2:=gJ (w.alloc (Obj.cells #[slice (some ⟨w.heap.size+1,0,none⟩) 1 1,bool true] 161)) (Obj.cells #[int i64 10,int i64 10] 255);rw[s1] at h2;refine⟨_,rfl,?_,?_,h2,(kZ _ _ lQ).trans (kZ _ _ (by rw[s1];omega))⟩
  ·unfold cell?;rw[h1];rfl
  ·unfold cell?;rw[h1];rfl
 go_in;go_wp2;rw[<-hw2];refine dZ (v:=agg #[slice (some ⟨w.heap.size+1,0,none⟩) 1 1,bool true]) (by simp[results,results211,go_sem,z0,z1]) rfl ?_;exact⟨_,rfl,⟨_,by omega,rfl,HB.out⟩,HK.out⟩
def xI (n:Nat):Nat:=if 24<n then 25 else n
theorem zCy (w:World)(n:Nat):Calls prog 195 #[int i64 (n:Int)] w fun e w'=>e=returned (int i64 (xI n:Int))∧w'=w:=by
 by_cases h:24<n
 ·have HV:Hid (xI n=25):=by show _=_;unfold xI;rw[if_pos h]
  have i1:(n:Int)>24:=by omega
  go_in;go_wp2;go_ret;exact⟨by rw[HV.out];rfl,rfl⟩
 ·have HV:Hid (xI n=n):=by show _=_;unfold xI;rw[if_neg h]
  have i1:(n:Int)<=24:=by omega
  go_in;go_wp2;go_ret;exact⟨by rw[HV.out];rfl,rfl⟩
section
variable {w0 w:World} {b:Nat} {s t:ByteArray} {dv:Value} {r:Rx}
theorem zHz (h:zJ s r.at_ t=true):r.take s t={r with at_:=r.at_+t.size}:=by unfold Rx.take;rw[if_pos h]
theorem zJY (h:zJ s r.at_ t=false):r.take s t=r:=by unfold Rx.take;rw[if_neg (by rw[h];decide)]
theorem zNU (hv:zJ s r.at_ t=true)(h:RxAt w b s dv r)(hk:∀H,Keep H b w0 w)(hs:s.size<=1048576)(ha:r.at_<=2000000)(ht:t.size<=1000000):
  Calls prog 189 #[pointer (some ⟨b,0,none⟩),string t] w fun e w'=>e=returned (bool true)∧RxAt w' b s dv {r with at_:=r.at_+t.size}∧∀H,Keep H b w0 w':=by
 refine(jH w b s dv r h hs ha t ht).mono ?_;rintro e w' ⟨rfl,h1,h2⟩;rw[zHz hv] at h1;exact⟨by rw[hv],h1,fun H=>(hk H).trans (h2 H)⟩
theorem zNV (hv:zJ s r.at_ t=false)(h:RxAt w b s dv r)(hk:∀H,Keep H b w0 w)(hs:s.size<=1048576)(ha:r.at_<=2000000)(ht:t.size<=1000000):
  Calls prog 189 #[pointer (some ⟨b,0,none⟩),string t] w fun e w'=>e=returned (bool false)∧RxAt w' b s dv r∧∀H,Keep H b w0 w':=by
 refine(jH w b s dv r h hs ha t ht).mono ?_;rintro e w' ⟨rfl,h1,h2⟩;rw[zJY hv] at h1;exact⟨by rw[hv],h1,fun H=>(hk H).trans (h2 H)⟩
theorem zIW {x y:Nat}{v:Bool}{t:ByteArray}(hv:zJ s x t=v)(hs:s.size<=1048576)(hx:x<=2000000)(ht:t.size<=1000000)(hy:y=if v then x+t.size else x):Hid (∀w,RxAt w b s dv {r with at_:=x}->Calls prog 189 #[pointer (some ⟨b,0,none⟩),string t] w fun e w'=>e=returned (bool v)∧RxAt w' b s dv {r with at_:=y}∧∀H,Keep H b w w'):=fun w h=>by
 subst hy;cases v with
 |true=>exact zNU (r:={r with at_:=x}) hv h (fun H=>Keep.refl _ _ _) hs hx ht
 |false=>exact zNV (r:={r with at_:=x}) hv h (fun H=>Keep.refl _ _ _) hs hx ht
theorem zAb {x y:Nat}{v:Bool}(t:ByteArray)(hs:s.size<=1048576)(hx:x<=2000000)(ht:t.size<=1000000)(hv:zJ s x t=v)(hy:y=if v then x+t.size else x)(h:RxAt w b s dv {r with at_:=x}):
  Calls prog 189 #[pointer (some ⟨b,0,none⟩),string t] w fun e w'=>e=returned (bool v)∧RxAt w' b s dv {r with at_:=y}∧∀H,Keep H b w w':=(zIW hv hs hx ht hy).out w h
theorem zNS {b x:Nat}{s:ByteArray}{c:UInt8}{dv:Value}{r:Rx}(hv:zJ s x ⟨#[c]⟩=true)(h:RxAt w b s dv {r with at_:=x})(hk:∀H,Keep H b w0 w)(hs:s.size<=1048576)(ha:x<=2000000):
  Calls prog 189 #[pointer (some ⟨b,0,none⟩),string ⟨#[c]⟩] w fun e w'=>e=returned (bool true)∧RxAt w' b s dv {r with at_:=x+1}∧∀H,Keep H b w0 w':=zNU (r:={r with at_:=x}) hv h hk hs ha (by show 1<=1000000;decide)
theorem zNT {b x:Nat}{s:ByteArray}{c:UInt8}{dv:Value}{r:Rx}(hv:zJ s x ⟨#[c]⟩=false)(h:RxAt w b s dv {r with at_:=x})(hk:∀H,Keep H b w0 w)(hs:s.size<=1048576)(ha:x<=2000000):
  Calls prog 189 #[pointer (some ⟨b,0,none⟩),string ⟨#[c]⟩] w fun e w'=>e=returned (bool false)∧RxAt w' b s dv {r with at_:=x}∧∀H,Keep H b w0 w':=zNV (r:={r with at_:=x}) hv h hk hs ha (by show 1<=1000000;decide)
theorem zEv (s:ByteArray)(p m:Nat):yJ s p m<=m:=by
 have h:(List.range m).findIdx (fun j=>decide (jA (byt s (p+j))<0))<=(List.range m).length:=List.findIdx_le_length;rw[List.length_range] at h;exact h
theorem zNM (x m:Nat)(hs:s.size<=1048576)(hx:x<=1900000)(hm:m<=6):Hid (∀w,RxAt w b s dv {r with at_:=x}->Calls prog 216 #[pointer (some ⟨b,0,none⟩),int i64 (m:Int)] w fun e w'=>e=returned (tuple #[int i64 (zAK s x (yJ s x m):Nat),int i64 (yJ s x m:Nat)])∧RxAt w' b s dv {r with at_:=x+yJ s x m}∧∀H,Keep H b w w'):=fun w h=>zK9 w b s dv _ h hs hx m hm
theorem zGV (hs:s.size<=1048576)(ha:r.at_<=2000000):Hid (∀w,RxAt w b s dv r->Calls prog 200 #[pointer (some ⟨b,0,none⟩),int i64 0] w fun e w'=>e=returned (int .u8 (byt s r.at_:Nat))∧w'=w):=fun w h=>qF w b s dv r h hs ha 0 (by omega)
theorem zNX:Hid (∀w,RxAt w b s dv r->RxAt (w.setCell ⟨b,2,none⟩ (int i64 ((r.at_:Int)+1))) b s dv {r with at_:=r.at_+1}):=fun w h=>h.setAt (r.at_+1)
theorem zML (h:RxAt w b s dv r):∃r1 w0,r1.at_=r.at_+1∧w0=w.setCell ⟨b,2,none⟩ (int i64 ((r.at_:Int)+1))∧RxAt w0 b s dv r1∧(∀H,Keep H b w w0)∧Hid (∀q:Nat,({r1 with at_:=q}:Rx)={r with at_:=q})∧w.cell? ⟨b,2,none⟩=some (int i64 (r.at_:Int))∧w.frozen? ⟨b,2,none⟩=false:=by
 have h2:=h.setAt (r.at_+1);rw[show ((r.at_+1:Nat):Int)=(r.at_:Int)+1 by omega] at h2;exact⟨_,_,rfl,rfl,h2,fun H=>Keep.set _ _ _,fun q=>rfl,h.cells.2.2.1,h.cells.2.2.2.2.2 2⟩
structure Sg where
 num:Int
 ok:Bool
 at_:Nat
def zG9 (s:ByteArray)(p:Nat):Sg:=⟨(zAK s p (yJ s p 2):Nat),yJ s p 2==2,p+yJ s p 2⟩
def zGC (s:ByteArray)(p:Nat):Sg:=⟨(zAK s p (yJ s p 6):Nat),zJ s (p+yJ s p 6) ⟨#[125]⟩&&decide (0<yJ s p 6)&&zDH (zAK s p (yJ s p 6):Nat),if zJ s (p+yJ s p 6) ⟨#[125]⟩ then p+yJ s p 6+1 else p+yJ s p 6⟩
def zKs (c:Nat):Bool:=decide (c<33)||decide (126<c)||xF c||zCf c
def zAJ (s:ByteArray)(p:Nat):Sg:=if zJ s p ⟨#[110]⟩ then⟨10,true,p+1⟩ else if zJ s p ⟨#[116]⟩ then⟨9,true,p+1⟩ else if zJ s p ⟨#[120]⟩ then zG9 s (p+1) else if zJ s p ⟨#[117,123]⟩ then zGC s (p+2) else if zKs (byt s p) then⟨0,false,p⟩ else⟨(byt s p:Nat),true,p+1⟩
theorem zBq (w:World)(b:Nat)(s:ByteArray)(dv:Value)(r:Rx)(h:RxAt w b s dv r)(hs:s.size<=1048576)(ha:r.at_<=1800000):
  Calls prog 209 #[pointer (some ⟨b,0,none⟩)] w fun e w'=>e=returned (tuple #[int i64 (zAJ s (r.at_+1)).num,bool (zAJ s (r.at_+1)).ok])∧RxAt w' b s dv {r with at_:=(zAJ s (r.at_+1)).at_}∧∀H,Keep H b w w':=by
 obtain⟨r1,w0,hat1,hw0,hR,hk,HFR,c2,cf2⟩:=zML h;have ha1:r1.at_<=2000000:=by omega
 have ha2:r1.at_+8<=2000000:=by omega
 obtain⟨es,hes⟩:∃es,es=zAJ s (r.at_+1):=⟨_,rfl⟩
 rw[<-hes];rw[<-hat1] at hes;unfold zAJ zG9 zGC zKs at hes;have HV:=vl hes;have HX2:=zNM (b:=b) (dv:=dv) (r:=r1) (r1.at_+1) 2 hs (by omega) (by omega);have HX6:=zNM (b:=b) (dv:=dv) (r:=r1) (r1.at_+2) 6 hs (by omega) (by omega);have hk6:=zEv s (r1.at_+2) 6;have HIS:=vl fun w=>zFe w ((zAK s (r1.at_+2) (yJ s (r1.at_+2) 6):Nat):Int);have HP:=zGV (b:=b) (dv:=dv) (r:=r1) hs ha1;have HS:=zNX (b:=b) (s:=s) (dv:=dv) (r:=r1);have hcl:=zAo s r1.at_;have HDG:=vl fun w=>zAe w (byt s r1.at_);have HLT:=vl fun w=>zFg w (byt s r1.at_);clear h hes hat1;generalize zDH ((zAK s (r1.at_+2) (yJ s (r1.at_+2) 6):Nat):Int)=ic at *;generalize zAK s (r1.at_+2) (yJ s (r1.at_+2) 6)=n6 at *;generalize yJ s (r1.at_+2) 6=k6 at *;generalize zAK s (r1.at_+1) (yJ s (r1.at_+1) 2)=n2 at *;generalize yJ s (r1.at_+1) 2=k2 at *;generalize byt s r1.at_=c at *;have HB:Hid (((k2:Int)==2)=(k2==2)):=by
  show _=_;by_cases e:k2=2
  ·rw[e];rfl
  ·rw[show (k2==2)=false by rw[hJ];exact e,hJ];omega
 go_in;apply wp_cut;intro K0 J;go_wp2;apply J.out;clear J;apply wp_cut;intro K0 J;go_wp2;apply J.out;clear J;rw[<-hw0];clear hw0 c2 cf2;rcases hn:zJ s r1.at_ ⟨#[110]⟩ with _|_;rcases ht:zJ s r1.at_ ⟨#[116]⟩ with _|_;rcases hx:zJ s r1.at_ ⟨#[120]⟩ with _|_;rcases hu:zJ s r1.at_ ⟨#[117,123]⟩ with _|_;rcases Nat.lt_or_ge c 33 with q1|q1;rotate_left;rcases Nat.lt_or_ge 126 c with q2|q2;rotate_left;rcases hdg:xF c with _|_;rcases hlt:zCf c with _|_;rotate_left 3;rcases hc:zJ s (r1.at_+2+k6) ⟨#[125]⟩ with _|_;rotate_left;rcases Nat.lt_or_ge 0 k6 with q6|q6
 all_goals
  try rw[hn] at HV
  try rw[ht] at HV
  try rw[hx] at HV
  try rw[hu] at HV
  try rw[hc] at HV
  try rw[dW q6] at HV
  try rw[dY (Nat.not_lt.2 q6)] at HV
  try rw[dW q1] at HV
  try rw[dY (Nat.not_lt.2 q1)] at HV
  try rw[dW q2] at HV
  try rw[dY (Nat.not_lt.2 q2)] at HV
  try rw[hdg] at HV HDG
  try rw[hlt] at HV HLT
  try clear hdg
  try clear hlt
  try have i6:(k6:Int)>0:=by omega
  try have i6:(k6:Int)<=0:=by omega
  try have i1:(c:Int)<33:=by omega
  try have i1:33<=(c:Int):=by omega
  try have i2:126<(c:Int):=by omega
  try have i2:(c:Int)<=126:=by omega
  go_wp2_with (first|(go_at_call 189;(first|refine(zNV (by assumption) hR hk hs (by first|exact ha1|(show r1.at_+2+k6<=2000000;omega)) (by decide)).mono ?_|refine(zNU (by assumption) hR hk hs (by first|exact ha1|(show r1.at_+2+k6<=2000000;omega)) (by decide)).mono ?_);rintro e v ⟨rfl,hR,hk⟩)|(go_at_call 216;(first|refine(HX2.out v hR).mono ?_|refine(HX6.out v hR).mono ?_);rintro e v ⟨rfl,hR,hk2⟩;replace hk:=fun H=>(hk H).trans (hk2 H))|(go_at_call 200;refine(HP.out v hR).mono ?_;rintro e w9 ⟨rfl,hw9⟩;have hw8:=hw9.symm;subst hw8;obtain⟨-,-,c2,-,-,cf⟩:=hR.cells;have cf2:=cf 2;clear cf)|(go_at_call 191;refine(HIS.out _).mono ?_;rintro e w9 ⟨rfl,hw9⟩;have hw8:=hw9.symm;subst hw8)|(go_at_call 206;refine(HDG.out _).mono ?_;rintro e w9 ⟨rfl,hw9⟩;have hw8:=hw9.symm;subst hw8)|(go_at_call 217;refine(HLT.out _).mono ?_;rintro e w9 ⟨rfl,hw9⟩;have hw8:=hw9.symm;subst hw8))
  refine dZ (results_tmp2 rfl _ _ _) rfl ?_
  first
  |exact⟨by rw[HV.out];rfl,by rw[HV.out,<-HFR.out];exact hR,fun H=>hk H⟩
  |exact⟨by rw[HV.out,HB.out];rfl,by rw[HV.out,<-HFR.out];exact hR,fun H=>hk H⟩
  |exact⟨by rw[HV.out];first|rfl|(simp;done),by rw[HV.out,<-HFR.out];exact HS.out _ hR,fun H=>(hk H).trans (Keep.set _ _ _)⟩
end
def zEs (c:Nat):Bool:=c==91||c==93||c==94||c==45|| !isPrintedB c
def xE (s:ByteArray)(p:Nat):Sg:=if byt s p=92 then zAJ s (p+1) else if zEs (byt s p) then⟨0,false,p⟩ else⟨(byt s p:Nat),true,p+1⟩
theorem zCY (w:World)(b:Nat)(s:ByteArray)(dv:Value)(r:Rx)(h:RxAt w b s dv r)(hs:s.size<=1048576)(ha:r.at_<=1800000):
  Calls prog 219 #[pointer (some ⟨b,0,none⟩)] w fun e w'=>e=returned (tuple #[int i64 (xE s r.at_).num,bool (xE s r.at_).ok])∧RxAt w' b s dv {r with at_:=(xE s r.at_).at_}∧∀H,Keep H b w w':=by
 obtain⟨-,-,c2,-,-,cf⟩:=h.cells;have cf2:=cf 2;have HR:=vl h;have HP0:=vl <| qF w b s dv r h hs (by omega) 0 (by omega);have HES:=vl <| zBq w b s dv r h hs ha;have HV:Hid (xE s r.at_=if byt s r.at_=92 then zAJ s (r.at_+1) else if zEs (byt s r.at_) then⟨0,false,r.at_⟩ else⟨(byt s r.at_:Nat),true,r.at_+1⟩):=rfl;have hlt:=zAo s r.at_;generalize byt s r.at_=c at *;generalize zAJ s (r.at_+1)=es at *;generalize xE s r.at_=si at *;by_cases h1:c=92
 ·subst h1
  have HV2:Hid (si=es):=by show _=_;rw[HV.out,if_pos rfl]
  go_in;go_wp2_with (first|(go_at_call 200;refine HP0.out.mono ?_;rintro e w9 ⟨rfl,hw9⟩;have hw8:=hw9.symm;subst hw8)|(go_at_call 209;refine HES.out.mono ?_;rintro e w2 ⟨rfl,hR2,hk2⟩))
  refine dZ (results_tmp2 rfl _ _ _) rfl ?_;exact⟨by rw[HV2.out];rfl,by rw[HV2.out];exact hR2,hk2⟩
 by_cases hq:c=91∨c=93∨c=94∨c=45
 ·rcases hq with rfl|rfl|rfl|rfl
  all_goals
   have HV2:Hid (si=⟨0,false,r.at_⟩):=by show _=_;rw[HV.out,if_neg (by decide),if_pos (by decide)]
   go_in;go_wp2_with (first|(go_at_call 200;refine HP0.out.mono ?_;rintro e w9 ⟨rfl,hw9⟩;have hw8:=hw9.symm;subst hw8))
   refine dZ (results_tmp2 rfl _ _ _) rfl ?_;exact⟨by rw[HV2.out];rfl,by rw[HV2.out];exact HR.out,fun H=>Keep.refl _ _ _⟩
 have h91:c≠91:=by omega
 have h93:c≠93:=by omega
 have h94:c≠94:=by omega
 have h45:c≠45:=by omega
 have HPR0:Hid (∀w,Ca 218 #[int .u8 (c:Int)] w fun e w'=>e=returned (bool (isPrintedB c))∧w'=w):=fun w=>zBC w c;have HB:Hid (zEs c= !isPrintedB c):=by
  show _=_;unfold zEs;rw[show (c==91)=false by rw[hJ];exact h91,show(c==93)=false by rw[hJ];exact h93,show(c==94)=false by rw[hJ];exact h94,show(c==45)=false by rw[hJ];exact h45];rfl
 have e1:((c:Int)==92)=false:=by rw[hJ];omega
 have e2:((c:Int)==91)=false:=by rw[hJ];omega
 have e3:((c:Int)==93)=false:=by rw[hJ];omega
 have e4:((c:Int)==94)=false:=by rw[hJ];omega
 have e5:((c:Int)==45)=false:=by rw[hJ];omega
 cases hp:isPrintedB c with
 |false=>
  have HV2:Hid (si=⟨0,false,r.at_⟩):=by show _=_;rw[HV.out,if_neg h1,if_pos (by rw[HB.out,hp];rfl)]
  rw[hp] at HPR0;have HPR:=vl HPR0.out;go_in;go_wp2_with (first|(go_at_call 200;refine HP0.out.mono ?_;rintro e w9 ⟨rfl,hw9⟩;have hw8:=hw9.symm;subst hw8)|(go_at_call 218;refine(HPR.out _).mono ?_;rintro e w9 ⟨rfl,hw9⟩;have hw8:=hw9.symm;subst hw8))
  refine dZ (results_tmp2 rfl _ _ _) rfl ?_;exact⟨by rw[HV2.out];rfl,by rw[HV2.out];exact HR.out,fun H=>Keep.refl _ _ _⟩
 |true=>
  have HV2:Hid (si=⟨(c:Nat),true,r.at_+1⟩):=by show _=_;rw[HV.out,if_neg h1,if_neg (by rw[HB.out,hp];decide)]
  rw[hp] at HPR0;have HPR:=vl HPR0.out;have HS:Hid (RxAt (w.setCell ⟨b,2,none⟩ (int i64 ((r.at_:Int)+1))) b s dv {r with at_:=r.at_+1}):=by
   have h5:=HR.out.setAt (r.at_+1);rw[show ((r.at_+1:Nat):Int)=(r.at_:Int)+1 by omega] at h5;exact h5
  go_in;go_wp2_with (first|(go_at_call 200;refine HP0.out.mono ?_;rintro e w9 ⟨rfl,hw9⟩;have hw8:=hw9.symm;subst hw8)|(go_at_call 218;refine(HPR.out _).mono ?_;rintro e w9 ⟨rfl,hw9⟩;have hw8:=hw9.symm;subst hw8))
  refine dZ (results_tmp2 rfl _ _ _) rfl ?_;exact⟨by rw[HV2.out];first|rfl|(simp;done),by rw[HV2.out];exact HS.out,fun H=>Keep.set _ _ _⟩
structure Mb where
 low:Int
 high:Int
 ok:Bool
 at_:Nat
def toM (a e:Sg):Mb:=⟨a.num,e.num,e.ok&&decide (a.num<=e.num),e.at_⟩
def yI (s:ByteArray)(p:Nat):Mb:=if(xE s p).ok&&zJ s (xE s p).at_ ⟨#[45]⟩ then toM (xE s p) (xE s ((xE s p).at_+1)) else⟨(xE s p).num,(xE s p).num,(xE s p).ok,(xE s p).at_⟩
theorem zHZ (w0 w:World)(b q:Nat)(s:ByteArray)(dv:Value)(r:Rx)(lo hi:Int)(hq:w0.heap.size=q)(h:RxAt w b s dv r)(hb:b≠q)(hB:∃x y,w.heap[q]? =some (.cells #[x,y] 255))(hk:Keep w0.heap.size b w0 w):
  ∃w2,w2=(w.setCell ⟨q,0,none⟩ (int i64 lo)).setCell ⟨q,1,none⟩ (int i64 hi)∧w2.cell? ⟨q,0,none⟩=some (int i64 lo)∧w2.cell? ⟨q,1,none⟩=some (int i64 hi)∧Hid (RxAt w2 b s dv r∧Keep w0.heap.size b w0 w2):=by
 obtain⟨x,y,hB⟩:=hB;have h2:((w.setCell ⟨q,0,none⟩ (int i64 lo)).setCell ⟨q,1,none⟩ (int i64 hi)).heap[q]? =some (.cells #[int i64 lo,int i64 hi] 255):=by
  simp[setCell,lU,hB]
 have hne:∀i,i≠q->((w.setCell ⟨q,0,none⟩ (int i64 lo)).setCell ⟨q,1,none⟩ (int i64 hi)).heap[i]? =w.heap[i]? :=fun i hi2=>by
  simp[setCell,lU,Ne.symm hi2]
 refine⟨_,rfl,?_,?_,RxAt.of_block h (hne b hb),hk.trans ⟨rfl,rfl,by simp[World.setCell],fun k h1 _=>hne k (by omega)⟩⟩
 ·unfold cell?;rw[h2];rfl
 ·unfold cell?;rw[h2];rfl
theorem zFw {w:World}{q:Nat}(h:∃x y,w.heap[q]? =some (.cells #[x,y] 255)):(∀i,w.frozen? ⟨q,i,none⟩=false)∧∃x y,w.cell? ⟨q,0,none⟩=some x∧w.cell? ⟨q,1,none⟩=some y:=by
 obtain⟨x,y,h⟩:=h;refine⟨fun i=>?_,x,y,?_,?_⟩
 all_goals first|(unfold cell?;rw[h];rfl)|(unfold frozen?;rw[h];simp)
theorem zG0 (w:World)(b:Nat)(s:ByteArray)(dv:Value)(r:Rx)(h:RxAt w b s dv r)(hs:s.size<=1048576)(ha:r.at_<=1700000)(hp1:(xE s r.at_).at_<=1700000):
  Calls prog 215 #[pointer (some ⟨b,0,none⟩)] w fun e w'=>e=returned (tuple #[agg #[int i64 (yI s r.at_).low,int i64 (yI s r.at_).high],bool (yI s r.at_).ok])∧RxAt w' b s dv {r with at_:=(yI s r.at_).at_}∧Keep w.heap.size b w w':=by
 obtain⟨w0,hw0,hR0,hB0,J⟩:∃w0,w0=w.alloc (.cells #[int i64 0,int i64 0] 255)∧RxAt w0 b s dv r∧w0.heap[w.heap.size]? =some (.cells #[int i64 0,int i64 0] 255)∧Hid (Keep w.heap.size b w w0):=⟨_,rfl,RxAt.of_block h (lG _ _ _ h.lt),gJ _ _,kZ _ _ lQ⟩
 have hbq:b≠w.heap.size:=kJ h.lt;have hq0:w.heap.size<w0.heap.size:=(kQ.1 hB0).1;have HBB:Hid (∀w9,(∀H,Keep H b w0 w9)->∃x y,w9.heap[w.heap.size]? =some (.cells #[x,y] 255)):=fun w9 hk=>⟨_,_,((hk w0.heap.size).block _ hq0 (Ne.symm hbq)).trans hB0⟩
 have HS1:=vl <| zCY w0 b s dv r hR0 hs (by omega);have HS2:=vl fun(w2:World) (h9:RxAt w2 b s dv {r with at_:=(xE s r.at_).at_+1})=>zCY w2 b s dv {r with at_:=(xE s r.at_).at_+1} h9 hs (by show(xE s r.at_).at_+1<=1800000;omega);have HV:Hid (yI s r.at_=if(xE s r.at_).ok&&zJ s (xE s r.at_).at_ ⟨#[45]⟩ then toM (xE s r.at_) (xE s ((xE s r.at_).at_+1)) else⟨(xE s r.at_).num,(xE s r.at_).num,(xE s r.at_).ok,(xE s r.at_).at_⟩):=rfl;have HST:=vl fun(w9:World) (r9:Rx) (lo hi:Int) (h9:RxAt w9 b s dv r9) (hk9:∀H,Keep H b w0 w9)=>zHZ w w9 b w.heap.size s dv r9 lo hi rfl h9 hbq (HBB.out w9 hk9) (J.out.trans (hk9 _));go_in;apply wp_cut;intro K0 HK9;go_wp2;apply HK9.out;rw[<-hw0];clear hw0;generalize yI s r.at_=mm at *;generalize xE s ((xE s r.at_).at_+1)=s2 at *;generalize xE s r.at_=s1 at *;rcases h1:s1.ok with _|_;rotate_left;rcases h2:zJ s s1.at_ ⟨#[45]⟩ with _|_;rotate_left;rcases h3:s2.ok with _|_;rotate_left;rcases h4:decide (s1.num<=s2.num) with _|_
 all_goals
  rw[h1] at HS1 HV;clear h1
  try rw[h2] at HV
  try unfold toM at HV
  try rw[h3] at HS2 HV
  try clear h3
  try have h44:=of_decide_eq_true h4
  try have h44:s2.num<s1.num:=by have:=of_decide_eq_false h4;omega
  try rw[h4] at HV
  try clear h4
  go_wp2_with (((first|(go_at_call 219;first|(have m2:=mark1;refine(HS2.out v hR).mono ?_;rintro e v ⟨rfl,hR,hk2⟩;replace hk:=fun H=>(hk H).trans (hk2 H))|(refine HS1.out.mono ?_;rintro e v ⟨rfl,hR,hk⟩;have mark1:=trivial))|(go_at_call 189;(first|refine(zNT (by assumption) hR hk hs (by omega)).mono ?_|refine(zNS (by assumption) hR hk hs (by omega)).mono ?_);rintro e v ⟨rfl,hR,hk⟩)));obtain⟨hf,x0,x1,y0,y1⟩:=zFw (HBB.out v hk);have hf0:=hf 0;have hf1:=hf 1;clear hf)
  first
  |(obtain ⟨w9,hw9,z0,z1,HZ⟩:=HST.out v _ s1.num s1.num hR hk;rw[<-hw9];refine dZ (v:=tuple #[agg #[int i64 s1.num,int i64 s1.num],bool false]) (by simp[results,results215,go_sem,z0,z1];done) rfl ?_;exact⟨by rw[HV.out];rfl,by rw[HV.out];exact HZ.out.1,HZ.out.2⟩)
  |(obtain ⟨w9,hw9,z0,z1,HZ⟩:=HST.out v _ s1.num s1.num hR hk;rw[<-hw9];refine dZ (v:=tuple #[agg #[int i64 s1.num,int i64 s1.num],bool true]) (by simp[results,results215,go_sem,z0,z1];done) rfl ?_;exact⟨by rw[HV.out];rfl,by rw[HV.out];exact HZ.out.1,HZ.out.2⟩)
  |(obtain ⟨w9,hw9,z0,z1,HZ⟩:=HST.out v _ s1.num s2.num hR hk;rw[<-hw9];refine dZ (v:=tuple #[agg #[int i64 s1.num,int i64 s2.num],bool false]) (by first|(simp [results,results215,go_sem,z0,z1];done)|(simp [results,results215,go_sem,z0,z1];omega)) rfl ?_;exact⟨by rw[HV.out];rfl,by rw[HV.out];exact HZ.out.1,HZ.out.2⟩)
  |(obtain ⟨w9,hw9,z0,z1,HZ⟩:=HST.out v _ s1.num s2.num hR hk;rw[<-hw9];refine dZ (v:=tuple #[agg #[int i64 s1.num,int i64 s2.num],bool true]) (by first|(simp [results,results215,go_sem,z0,z1];done)|(simp [results,results215,go_sem,z0,z1];omega)) rfl ?_;exact⟨by rw[HV.out];rfl,by rw[HV.out];exact HZ.out.1,HZ.out.2⟩)
section
attribute [local go_sem ↓] Go.wp_at_zero Go.wp_at_succ
structure Agree (X:Nat->Prop)(w w2:World):Prop where
 os:w2.os=w.os
 output:w2.output=w.output
 size:w.heap.size<=w2.heap.size
 block:∀i,i<w.heap.size->X i->w2.heap[i]? =w.heap[i]?
theorem Agree.refl (X:Nat->Prop)(w:World):Agree X w w:=⟨rfl,rfl,lQ,fun _ _ _=>rfl⟩
theorem Agree.trans {X:Nat->Prop}{w w2 w3:World}(h:Agree X w w2)(k:Agree X w2 w3):Agree X w w3:=⟨k.os.trans h.os,k.output.trans h.output,lY h.size k.size,fun i hi hx=>(k.block i (lZ hi h.size) hx).trans (h.block i hi hx)⟩
theorem Agree.mono {X Y:Nat->Prop}{w w2:World}(h:Agree X w w2)(hx:∀i,i<w.heap.size->Y i->X i):Agree Y w w2:=⟨h.os,h.output,h.size,fun i hi hy=>h.block i hi (hx i hi hy)⟩
theorem Keep.agree {H b:Nat}{X:Nat->Prop}{w w2:World}(h:Keep H b w w2)(hx:∀i,i<w.heap.size->X i->i<H∧i≠b):Agree X w w2:=⟨h.os,h.output,h.size,fun i hi hxi=>h.block i (hx i hi hxi).1 (hx i hi hxi).2⟩
def RangesIn (X:Nat->Prop)(w:World)(v:Value)(l:List (Int×Int)):Prop:=∀w2,Agree X w w2->RangesAt w2 v l
theorem RangesIn.at {X:Nat->Prop}{w:World}{v:Value}{l:List (Int×Int)}(h:RangesIn X w v l):RangesAt w v l:=h w (Agree.refl X w)
theorem RangesIn.go {X:Nat->Prop}{w w2:World}{v:Value}{l:List (Int×Int)}(h:RangesIn X w v l)(a:Agree X w w2):RangesIn X w2 v l:=fun w3 h3=>h w3 (a.trans h3)
theorem RangesIn.mono {X Y:Nat->Prop}{w:World}{v:Value}{l:List (Int×Int)}(h:RangesIn X w v l)(hx:∀i,i<w.heap.size->X i->Y i):RangesIn Y w v l:=fun w3 h3=>h w3 (h3.mono hx)
theorem zGX {X:Nat->Prop}{w:World}{c:Int}{b:Nat}(h:w.heap[b]? =some (.cells #[int i64 c,int i64 c] 255))(hx:X b):RangesIn X w (slice (some ⟨b,0,none⟩) 1 1) [(c,c)]:=fun w2 a=>zKX w2 c b ((a.block b (kQ.1 h).1 hx).trans h)
theorem zJf (X:Nat->Prop)(w:World):RangesIn X w (slice none 0 0) []:=fun w2 _=>⟨none,0,rfl,lQ,by unfold maxLen;omega,fun i hi=>absurd hi (Nat.not_lt_zero _)⟩
def yW (ps:List (Int×Int)):List Value:=ps.flatMap fun p=>[int i64 p.1,int i64 p.2]
theorem zE0 (ps:List (Int×Int))(x y:Int):yW (ps++[(x,y)])=yW ps++[int i64 x,int i64 y]:=by simp[yW]
theorem zCn (ps:List (Int×Int))(i:Nat)(hi:i<ps.length):(yW ps)[i*2]? =some (int i64 (ps.getD i (0,0)).1)∧(yW ps)[i*2+1]? =some (int i64 (ps.getD i (0,0)).2):=by
 induction ps generalizing i with
 |nil=>simp at hi
 |cons p ps ih=>
  cases i with
  |zero=>exact⟨rfl,rfl⟩
  |succ i=>
   have:=ih i (by simpa using hi);have e:yW (p::ps)=int i64 p.1::int i64 p.2::yW ps:=rfl;rw[e,show(i+1)*2=i*2+1+1 by omega];exact this
structure Rw (w:World)(H p:Nat)(sv:Value)(l:List (Int×Int))(o:Bool):Prop where
 blk:w.heap[p]? =some (.cells #[sv,bool o] 161)
 own:w.ownsRow H 255 2 sv l.length (yW l)
 pH:p<H
 lt:H<=w.heap.size
def zOo (w:World)(H p:Nat)(l:List (Int×Int))(o:Bool):Prop:=∃sv,Rw w H p sv l o
structure KeepO (p:Nat)(sv sv':Value)(w w':World):Prop where
 os:w'.os=w.os
 output:w'.output=w.output
 size:w.heap.size<=w'.heap.size
 block:∀k,k<w.heap.size->k≠p->some k≠sv.ownBlock->w'.heap[k]? =w.heap[k]?∧some k≠sv'.ownBlock
theorem KeepO.trans {p:Nat}{sv sv2 sv3:Value}{w w2 w3:World}(h:KeepO p sv sv2 w w2)(k:KeepO p sv2 sv3 w2 w3):KeepO p sv sv3 w w3:=⟨k.os.trans h.os,k.output.trans h.output,lY h.size k.size,fun i h1 h2 h3=>by
 obtain⟨a1,a2⟩:=h.block i h1 h2 h3;obtain⟨b1,b2⟩:=k.block i (lZ h1 h.size) h2 a2;exact⟨b1.trans a1,b2⟩⟩
theorem KeepO.of_keep {p:Nat}{sv:Value}{w w2:World}(h:Grew w w2):KeepO p sv sv w w2:=⟨h.os,h.output,h.size,fun k h1 _ h3=>⟨h.block k h1 (kJ h1),h3⟩⟩
theorem KeepO.keep {p H e z n:Nat}{sv sv':Value}{xs:List Value}{w w2:World}(h:KeepO p sv sv' w w2)(ho:w.ownsRow H e z sv n xs)(hH:H<=w.heap.size):Keep H p w w2:=⟨h.os,h.output,h.size,fun k h1 h2=>(h.block k (lZ h1 hH) h2 fun e=>absurd (ho.lt k e.symm).1 (Nat.not_le_of_lt h1)).1⟩
theorem zDJ:(prog.info? 255).map (fun i=>(i.zero,i.size,i.bytes))=some (some (agg #[int i64 0,int i64 0]),2,16):=by kernel_rfl
section
variable {w w2:World} {H p b:Nat} {sv:Value} {l:List (Int×Int)} {o:Bool}
theorem Rw.cells (h:Rw w H p sv l o):w.cell? ⟨p,0,none⟩=some sv∧w.cell? ⟨p,1,none⟩=some (bool o)∧∀i,w.frozen? ⟨p,i,none⟩=false:=by
 refine⟨?_,?_,fun i=>?_⟩
 all_goals first|(unfold cell?;rw[h.blk];rfl)|(unfold frozen?;rw[h.blk];simp)
theorem Rw.keep (h:Rw w H p sv l o)(hk:Keep w.heap.size b w w2)(hb:b<H∨b=w.heap.size)(hbp:b≠p):Rw w2 H p sv l o:=by
 have h1:=h.pH;have h2:=h.lt;refine⟨(hk.block p (by omega) (Ne.symm hbp)).trans h.blk,zD h.own fun g hg hgl _=>hk.block g hgl (by omega),h1,lY h2 hk.size⟩
theorem Rw.in (h:Rw w H p sv l o):RangesIn (fun i=>H<=i) w sv l:=fun w3 a=>by
 rcases h.own.2 with⟨hv,h0⟩|⟨g,cap,cur,hv,hH,hh,h1,h2,h3,h4⟩
 ·exact⟨none,0,by rw[hv,h0],by omega,by unfold maxLen;omega,fun i hi=>by omega⟩
 ·have hg2:=h.own.lt g (by rw[hv];rfl)
  have hbb:=a.block g hg2.2 hg2.1;refine⟨some ⟨g,0,none⟩,cap,hv,h1,h2,fun i hi=>⟨g,0,rfl,lZ hg2.2 a.size,?_,?_⟩⟩
  ·have:=h.own.cells (g:=g) (by rw[hv];rfl) (i*2) _ (zCn l i hi).1
   rw[Addr.add_lit] at this;rw[Nat.zero_add] at this ⊢;exact(gG hbb).trans this
  ·have:=h.own.cells (g:=g) (by rw[hv];rfl) (i*2+1) _ (zCn l i hi).2
   rw[Addr.add_lit] at this;rw[Nat.zero_add] at this ⊢;exact(gG hbb).trans this
theorem Rw.app {ob:Obj}{g cap m:Nat}{x y:Int}(h:Rw w H p sv l o)(hm:m=l.length)(hown:w2.ownsRow H 255 2 (slice (some ⟨g,0,none⟩) (m+1) cap) (m+1) (yW l++[int i64 x,int i64 y]))(hg:(w.alloc ob).grownBy w2 sv.ownBlock)(hat:sv.ownBlock=some g∨w.heap.size<=g):
  Rw (w2.setCell ⟨p,0,none⟩ (slice (some ⟨g,0,none⟩) (m+1) cap)) H p (slice (some ⟨g,0,none⟩) (m+1) cap) (l++[(x,y)]) o∧KeepO p sv (slice (some ⟨g,0,none⟩) (m+1) cap) w (w2.setCell ⟨p,0,none⟩ (slice (some ⟨g,0,none⟩) (m+1) cap)):=by
 subst hm;have hpH:=h.pH;have hlt:=h.lt;have hbl:∀j,j<H->w2.heap[j]? =w.heap[j]? :=fun j hj=>(hg.block j (by simp;omega) fun e=>by have:=(h.own.lt j e.symm).1;omega).trans (lG _ _ _ (by omega));have hb:=(hbl p hpH).trans h.blk;have hsz:w.heap.size<=w2.heap.size:=lY (by simp) hg.size;refine⟨⟨?_,?_,hpH,by rw[zC];omega⟩,⟨hg.os,hg.output,by rw[zC];exact hsz,fun k h1 h2 h3=>⟨(lJ _ _ _ _ h2).trans ((hg.block k (by simp;omega) h3).trans (lG _ _ _ h1)),fun e=>by
  have e2:k=g:=by simpa[Value.ownBlock] using e
  rcases hat with ha|ha
  ·exact h3 (by rw[ha,e2])
  ·omega⟩⟩⟩
 ·simp[setCell,lU,hb]
 ·rw[zE0,show(l++[(x,y)]).length=l.length+1 by simp]
  exact zX hown hpH
end
def yV (r:Int×Int)(first last far:Int):List (Int×Int):=if(if first<r.1 then r.1 else first)<=(if r.2<last then r.2 else last) then[((if first<r.1 then r.1 else first)+far,(if r.2<last then r.2 else last)+far)] else[]
theorem zB0 (w:World)(H p:Nat)(sv:Value)(l:List (Int×Int))(o:Bool)(h:Rw w H p sv l o)(hl:l.length<=1000000000)(lo hi first last far:Int)(hf:0<=first∧first<=1000)(hla:0<=last∧last<=1000)(hfar:-100<=far∧far<=100):
  Calls prog 213 #[pointer (some ⟨p,0,none⟩),agg #[int i64 lo,int i64 hi],int i64 first,int i64 last,int i64 far] w fun e w'=>e=returned (tuple #[])∧∃sv',Rw w' H p sv' (l++yV (lo,hi) first last far) o∧KeepO p sv sv' w w':=by
 obtain⟨i0,hi0,hz0,hz1,hz2⟩:=info_parts zDJ;obtain⟨w1,hw1,HN1,y0,y1,HK1⟩:∃w1,w1=w.alloc (.cells #[int i64 lo,int i64 hi] 255)∧Hid (Rw w1 H p sv l o)∧w1.cell? ⟨w.heap.size,0,none⟩=some (int i64 lo)∧w1.cell? ⟨w.heap.size,1,none⟩=some (int i64 hi)∧Hid (KeepO p sv sv w w1):=by
  have hb:=gJ w (.cells #[int i64 lo,int i64 hi] 255);have hlt:=h.lt;have hpH:=h.pH;refine⟨_,rfl,h.keep (kZ (b:=w.heap.size) _ _ lQ) (.inr rfl) (by omega),?_,?_,KeepO.of_keep (kZ _ _ lQ)⟩
  ·unfold cell?;rw[hb];rfl
  ·unfold cell?;rw[hb];rfl
 clear h;obtain⟨ff,hff⟩:∃ff,ff=(if first<lo then lo else first):=⟨_,rfl⟩
 obtain⟨ll,hll⟩:∃ll,ll=(if hi<last then hi else last):=⟨_,rfl⟩
 have HM:Hid (yV (lo,hi) first last far=if ff<=ll then[(ff+far,ll+far)] else[]):=by show _=_;unfold yV;rw[hff,hll]
 have hf2:first<=ff:=by rw[hff];split <;> omega
 have hl2:ll<=last:=by rw[hll];split <;> omega
 obtain⟨x0,-,xf⟩:=HN1.out.cells;have xf0:=xf 0;obtain⟨asv,csv,hsv⟩:=zG HN1.out.own;subst hsv;have OW:w1.ownsRow H 255 2 (slice asv l.length csv) l.length (yW l):=HN1.out.own;have hlt1:p<w1.heap.size:=lZ HN1.out.pH HN1.out.lt;have hH1:H<=w1.heap.size:=HN1.out.lt;have HNP:=vl <| zM HN1.out.own HN1.out.blk (by decide);clear xf;rcases Int.lt_or_le first lo with a1|a1 <;> rcases Int.lt_or_le hi last with a2|a2
 ·
  have e1:lo=ff:=by rw[hff];exact(if_pos a1).symm
  have e2:hi=ll:=by rw[hll];exact(if_pos a2).symm
  clear hff hll;subst e1 e2;by_cases a3:lo<=hi
  ·have HM2:Hid (yV (lo,hi) first last far=[(lo+far,hi+far)]):=by show _=_;rw[HM.out,if_pos a3]
   clear HM;go_in;apply wp_cut;intro K0 J;go_wp2;apply J.out;clear J;rw[<-hw1];clear hw1;go_wp2_with (first|(at_builtin;refine wpList_append_lies _ rfl _ _ 159 rfl (H) 255 i0 (agg #[int i64 0,int i64 0]) 2 16 underlying159 hi0 hz0 hz1 hz2 rfl (by decide) _ _ _ rfl (OW.alloc _) ⟨w1.heap.size,0,none⟩ 1 1 [int i64 (lo+far),int i64 (hi+far)] rfl rfl (news_of_block (cs:=#[int i64 (lo+far),int i64 (hi+far)]) (t:=255) (fr:=(0,0)) (gJ w1 _)) (by simp[Value.oneCell']) (by decide) (by unfold maxLen;omega) (by omega) (by simp;omega) _ rfl ?_;intro gg cap w2 hown hgrow hat hlt;have hPB:=hgrow.block p (by simp;omega) HNP.out;have x0b:w2.cell? ⟨p,0,none⟩=some (slice asv l.length csv):=(gG hPB).trans ((dX _ _ _ hlt1).trans x0);have xf0b:w2.frozen? ⟨p,0,none⟩=false:=(dQ hPB).trans ((frozen?_alloc_past _ _ _ hlt1).trans xf0)))
   obtain⟨w9,hw9,HN4⟩:∃w9,w9=w2.setCell ⟨p,0,none⟩ (slice (some ⟨gg,0,none⟩) (l.length+1) cap)∧Hid (∃sv',Rw w9 H p sv' (l++yV (lo,hi) first last far) o∧KeepO p (slice asv l.length csv) sv' w w9):=⟨_,rfl,_,by rw[HM2.out];exact(HN1.out.app rfl hown hgrow (by rcases hat with ha|ha;exact .inl ha;right;rw[ha];simp)).1,HK1.out.trans (HN1.out.app rfl hown hgrow (by rcases hat with ha|ha;exact .inl ha;right;rw[ha];simp)).2⟩
   rw[<-hw9];go_end0;exact⟨rfl,HN4.out⟩
  ·have a4:hi<lo:=by omega
   have HM2:Hid (yV (lo,hi) first last far=[]):=by show _=_;rw[HM.out,if_neg a3]
   clear HM;go_in;apply wp_cut;intro K0 J;go_wp2;apply J.out;clear J;rw[<-hw1];clear hw1;go_wp2;go_end0;exact⟨rfl,_,by rw[HM2.out,dV];exact HN1.out,HK1.out⟩
 ·
  have e1:lo=ff:=by rw[hff];exact(if_pos a1).symm
  have e2:last=ll:=by rw[hll];exact(if_neg (by omega)).symm
  clear hff hll;subst e1 e2;by_cases a3:lo<=last
  ·have HM2:Hid (yV (lo,hi) first last far=[(lo+far,last+far)]):=by show _=_;rw[HM.out,if_pos a3]
   clear HM;go_in;apply wp_cut;intro K0 J;go_wp2;apply J.out;clear J;rw[<-hw1];clear hw1;go_wp2_with (first|(at_builtin;refine wpList_append_lies _ rfl _ _ 159 rfl (H) 255 i0 (agg #[int i64 0,int i64 0]) 2 16 underlying159 hi0 hz0 hz1 hz2 rfl (by decide) _ _ _ rfl (OW.alloc _) ⟨w1.heap.size,0,none⟩ 1 1 [int i64 (lo+far),int i64 (last+far)] rfl rfl (news_of_block (cs:=#[int i64 (lo+far),int i64 (last+far)]) (t:=255) (fr:=(0,0)) (gJ w1 _)) (by simp[Value.oneCell']) (by decide) (by unfold maxLen;omega) (by omega) (by simp;omega) _ rfl ?_;intro gg cap w2 hown hgrow hat hlt;have hPB:=hgrow.block p (by simp;omega) HNP.out;have x0b:w2.cell? ⟨p,0,none⟩=some (slice asv l.length csv):=(gG hPB).trans ((dX _ _ _ hlt1).trans x0);have xf0b:w2.frozen? ⟨p,0,none⟩=false:=(dQ hPB).trans ((frozen?_alloc_past _ _ _ hlt1).trans xf0)))
   obtain⟨w9,hw9,HN4⟩:∃w9,w9=w2.setCell ⟨p,0,none⟩ (slice (some ⟨gg,0,none⟩) (l.length+1) cap)∧Hid (∃sv',Rw w9 H p sv' (l++yV (lo,hi) first last far) o∧KeepO p (slice asv l.length csv) sv' w w9):=⟨_,rfl,_,by rw[HM2.out];exact(HN1.out.app rfl hown hgrow (by rcases hat with ha|ha;exact .inl ha;right;rw[ha];simp)).1,HK1.out.trans (HN1.out.app rfl hown hgrow (by rcases hat with ha|ha;exact .inl ha;right;rw[ha];simp)).2⟩
   rw[<-hw9];go_end0;exact⟨rfl,HN4.out⟩
  ·have a4:last<lo:=by omega
   have HM2:Hid (yV (lo,hi) first last far=[]):=by show _=_;rw[HM.out,if_neg a3]
   clear HM;go_in;apply wp_cut;intro K0 J;go_wp2;apply J.out;clear J;rw[<-hw1];clear hw1;go_wp2;go_end0;exact⟨rfl,_,by rw[HM2.out,dV];exact HN1.out,HK1.out⟩
 ·
  have e1:first=ff:=by rw[hff];exact(if_neg (by omega)).symm
  have e2:hi=ll:=by rw[hll];exact(if_pos a2).symm
  clear hff hll;subst e1 e2;by_cases a3:first<=hi
  ·have HM2:Hid (yV (lo,hi) first last far=[(first+far,hi+far)]):=by show _=_;rw[HM.out,if_pos a3]
   clear HM;go_in;apply wp_cut;intro K0 J;go_wp2;apply J.out;clear J;rw[<-hw1];clear hw1;go_wp2_with (first|(at_builtin;refine wpList_append_lies _ rfl _ _ 159 rfl (H) 255 i0 (agg #[int i64 0,int i64 0]) 2 16 underlying159 hi0 hz0 hz1 hz2 rfl (by decide) _ _ _ rfl (OW.alloc _) ⟨w1.heap.size,0,none⟩ 1 1 [int i64 (first+far),int i64 (hi+far)] rfl rfl (news_of_block (cs:=#[int i64 (first+far),int i64 (hi+far)]) (t:=255) (fr:=(0,0)) (gJ w1 _)) (by simp[Value.oneCell']) (by decide) (by unfold maxLen;omega) (by omega) (by simp;omega) _ rfl ?_;intro gg cap w2 hown hgrow hat hlt;have hPB:=hgrow.block p (by simp;omega) HNP.out;have x0b:w2.cell? ⟨p,0,none⟩=some (slice asv l.length csv):=(gG hPB).trans ((dX _ _ _ hlt1).trans x0);have xf0b:w2.frozen? ⟨p,0,none⟩=false:=(dQ hPB).trans ((frozen?_alloc_past _ _ _ hlt1).trans xf0)))
   obtain⟨w9,hw9,HN4⟩:∃w9,w9=w2.setCell ⟨p,0,none⟩ (slice (some ⟨gg,0,none⟩) (l.length+1) cap)∧Hid (∃sv',Rw w9 H p sv' (l++yV (lo,hi) first last far) o∧KeepO p (slice asv l.length csv) sv' w w9):=⟨_,rfl,_,by rw[HM2.out];exact(HN1.out.app rfl hown hgrow (by rcases hat with ha|ha;exact .inl ha;right;rw[ha];simp)).1,HK1.out.trans (HN1.out.app rfl hown hgrow (by rcases hat with ha|ha;exact .inl ha;right;rw[ha];simp)).2⟩
   rw[<-hw9];go_end0;exact⟨rfl,HN4.out⟩
  ·have a4:hi<first:=by omega
   have HM2:Hid (yV (lo,hi) first last far=[]):=by show _=_;rw[HM.out,if_neg a3]
   clear HM;go_in;apply wp_cut;intro K0 J;go_wp2;apply J.out;clear J;rw[<-hw1];clear hw1;go_wp2;go_end0;exact⟨rfl,_,by rw[HM2.out,dV];exact HN1.out,HK1.out⟩
 ·
  have e1:first=ff:=by rw[hff];exact(if_neg (by omega)).symm
  have e2:last=ll:=by rw[hll];exact(if_neg (by omega)).symm
  clear hff hll;subst e1 e2;by_cases a3:first<=last
  ·have HM2:Hid (yV (lo,hi) first last far=[(first+far,last+far)]):=by show _=_;rw[HM.out,if_pos a3]
   clear HM;go_in;apply wp_cut;intro K0 J;go_wp2;apply J.out;clear J;rw[<-hw1];clear hw1;go_wp2_with (first|(at_builtin;refine wpList_append_lies _ rfl _ _ 159 rfl (H) 255 i0 (agg #[int i64 0,int i64 0]) 2 16 underlying159 hi0 hz0 hz1 hz2 rfl (by decide) _ _ _ rfl (OW.alloc _) ⟨w1.heap.size,0,none⟩ 1 1 [int i64 (first+far),int i64 (last+far)] rfl rfl (news_of_block (cs:=#[int i64 (first+far),int i64 (last+far)]) (t:=255) (fr:=(0,0)) (gJ w1 _)) (by simp[Value.oneCell']) (by decide) (by unfold maxLen;omega) (by omega) (by simp;omega) _ rfl ?_;intro gg cap w2 hown hgrow hat hlt;have hPB:=hgrow.block p (by simp;omega) HNP.out;have x0b:w2.cell? ⟨p,0,none⟩=some (slice asv l.length csv):=(gG hPB).trans ((dX _ _ _ hlt1).trans x0);have xf0b:w2.frozen? ⟨p,0,none⟩=false:=(dQ hPB).trans ((frozen?_alloc_past _ _ _ hlt1).trans xf0)))
   obtain⟨w9,hw9,HN4⟩:∃w9,w9=w2.setCell ⟨p,0,none⟩ (slice (some ⟨gg,0,none⟩) (l.length+1) cap)∧Hid (∃sv',Rw w9 H p sv' (l++yV (lo,hi) first last far) o∧KeepO p (slice asv l.length csv) sv' w w9):=⟨_,rfl,_,by rw[HM2.out];exact(HN1.out.app rfl hown hgrow (by rcases hat with ha|ha;exact .inl ha;right;rw[ha];simp)).1,HK1.out.trans (HN1.out.app rfl hown hgrow (by rcases hat with ha|ha;exact .inl ha;right;rw[ha];simp)).2⟩
   rw[<-hw9];go_end0;exact⟨rfl,HN4.out⟩
  ·have a4:last<first:=by omega
   have HM2:Hid (yV (lo,hi) first last far=[]):=by show _=_;rw[HM.out,if_neg a3]
   clear HM;go_in;apply wp_cut;intro K0 J;go_wp2;apply J.out;clear J;rw[<-hw1];clear hw1;go_wp2;go_end0;exact⟨rfl,_,by rw[HM2.out,dV];exact HN1.out,HK1.out⟩
end
def zIx (r:Int×Int):List (Int×Int):=r::(yV r 65 90 32++yV r 97 122 (-32))
def qC (l:List (Int×Int)):List (Int×Int):=l.flatMap zIx
theorem zDz (r:Int×Int)(a b c:Int):(yV r a b c).length<=1:=by
 have h:∀(p:Prop) [Decidable p] (x:Int×Int),(if p then[x] else[]).length<=1:=by intro p _ x;split <;> simp
 exact h _ _
theorem zGx (l:List (Int×Int)):(qC l).length<=3*l.length:=by
 induction l with
 |nil=>exact lX
 |cons r l ih=>
  have h1:=zDz r 65 90 32;have h2:=zDz r 97 122 (-32);have e:qC (r::l)=zIx r++qC l:=rfl;rw[e,kX];unfold zIx;simp only[gZ,kX];omega
theorem zJP (l:List (Int×Int))(j:Nat)(hj:j<l.length):qC (l.take (j+1))=((qC (l.take j)++[l.getD j (0,0)])++yV (l.getD j (0,0)) 65 90 32)++yV (l.getD j (0,0)) 97 122 (-32):=by
 have e:l.take (j+1)=l.take j++[l.getD j (0,0)]:=by rw[List.take_add_one,lV hj,lW,lV hj];rfl
 rw[e];unfold qC;rw[List.flatMap_append];simp[zIx]
theorem zEp (w:World)(u:Value)(l:List (Int×Int))(o:Bool)(h:RangesAt w u l)(hl:l.length<=10000000):
  Calls prog 204 #[agg #[u,bool o]] w fun e w'=>∃u',e=returned (agg #[u',bool o])∧RangesIn (fun i=>w.heap.size<=i) w' u' (qC l)∧Grew w w':=by
 obtain⟨i0,hi0,hz0,hz1,hz2⟩:=info_parts zDJ;obtain⟨ao,cap,rfl,_,_,hrc⟩:=h;have HRC:=vl hrc;obtain⟨w3,hw3,HN3,y0,y1,HB3,HK3⟩:∃w3,w3=((w.alloc (.cells #[slice ao l.length cap,bool o] 161)).alloc (.cells #[slice none 0 0,bool false] 161)).alloc (.cells #[slice none 0 0,bool o] 161)∧Hid (Rw w3 (w.heap.size+3) (w.heap.size+1+1) (slice none 0 0) [] o)∧w3.cell? ⟨w.heap.size,0,none⟩=some (slice ao l.length cap)∧w3.cell? ⟨w.heap.size,1,none⟩=some (bool o)∧Hid (w3.heap[w.heap.size+1]? =some (.cells #[slice none 0 0,bool false] 161))∧Hid (Grew w w3):=by
  have s1:(w.alloc (.cells #[slice ao l.length cap,bool o] 161)).heap.size=w.heap.size+1:=by simp
  have s2:((w.alloc (.cells #[slice ao l.length cap,bool o] 161)).alloc (.cells #[slice none 0 0,bool false] 161)).heap.size=w.heap.size+1+1:=by simp
  have b1:=gJ w (.cells #[slice ao l.length cap,bool o] 161);have b2:=gJ (w.alloc (.cells #[slice ao l.length cap,bool o] 161)) (.cells #[slice none 0 0,bool false] 161);rw[s1] at b2;have b3:=gJ ((w.alloc (.cells #[slice ao l.length cap,bool o] 161)).alloc (.cells #[slice none 0 0,bool false] 161)) (.cells #[slice none 0 0,bool o] 161);rw[s2] at b3;have b1':=(lG ((w.alloc (.cells #[slice ao l.length cap,bool o] 161)).alloc (.cells #[slice none 0 0,bool false] 161)) (.cells #[slice none 0 0,bool o] 161) w.heap.size (by rw[s2];omega)).trans ((lG _ _ _ (by rw[s1];omega)).trans b1);have b2':=(lG ((w.alloc (.cells #[slice ao l.length cap,bool o] 161)).alloc (.cells #[slice none 0 0,bool false] 161)) (.cells #[slice none 0 0,bool o] 161) (w.heap.size+1) (by rw[s2];omega)).trans b2;refine⟨_,rfl,⟨b3,ownsRow_nil _ _ _ _,by omega,by simp⟩,?_,?_,b2',((kZ _ _ lQ).trans (kZ _ _ (by rw[s1];omega))).trans (kZ _ _ (by rw[s2];omega))⟩
  ·unfold cell?;rw[b1'];rfl
  ·unfold cell?;rw[b1'];rfl
 go_in;apply wp_cut;intro K0 J;go_wp2;apply J.out;apply wp_cut;intro K0 J;go_wp2;apply J.out;clear J;rw[<-hw3];clear hw3;go_wp2;clear y0 y1;go_loopg [12] l.length (fun q i wr=>∃j:Nat,q=l.length-j∧j<=l.length∧i=int i64 (j:Int)∧zOo wr (w.heap.size+3) (w.heap.size+1+1) (qC (l.take j)) o∧Keep (w.heap.size+3) (w.heap.size+1+1) w3 wr)
 case atStart=>exact⟨0,rfl,lX,rfl,⟨_,by rw[List.take_zero];exact HN3.out⟩,Keep.refl _ _ _⟩
 case round=>
  obtain⟨j,hgk,hj,rfl,⟨sv,hR⟩,hk⟩:=hrel;have HA:Hid (gk=l.length-j∧Rw wr (w.heap.size+3) (w.heap.size+1+1) sv (qC (l.take j)) o∧Keep (w.heap.size+3) (w.heap.size+1+1) w3 wr):=⟨hgk,hR,hk⟩
  by_cases hj2:j<l.length
  ·have i1:(j:Int)<(l.length:Int):=by omega
   obtain⟨b,o2,rfl,hb,d0,d1⟩:=HRC.out j hj2;have hlt3:=HK3.out.size;have hbl:b<w.heap.size:=hb;have eb:wr.heap[b]? =w.heap[b]? :=(hk.block b (by omega) (by omega)).trans (HK3.out.block b hbl (by omega));have y0:=(gG eb).trans d0;have y1:=(gG eb).trans d1;have HBT:=vl <| zJP l j hj2;have hLn:(qC (l.take j)).length<=30000000:=by
    have h1:=zGx (l.take j);rw[List.length_take] at h1;omega
   clear d0 d1 eb hgk hk hR;generalize l.getD j (0,0)=r at *;generalize hL:qC (l.take j)=L at *;clear hL;obtain⟨lo,hi⟩:=r;simp only at y0 y1;obtain⟨asv,csv,hsv⟩:=zG HA.out.2.1.own;subst hsv;obtain⟨wa,hwa,hRa,HBa,HKa,hsa⟩:∃wa,wa=wr.alloc (.cells #[int i64 lo,int i64 hi] 255)∧Rw wa (w.heap.size+3) (w.heap.size+1+1) (slice asv L.length csv) L o∧Hid (wa.heap[wr.heap.size]? =some (.cells #[int i64 lo,int i64 hi] 255)∧some wr.heap.size≠(Value.slice asv L.length csv).ownBlock)∧Hid (Keep (w.heap.size+3) (w.heap.size+1+1) wr wa)∧wr.heap.size+1<=wa.heap.size:=by
    have hlt:=HA.out.2.1.lt;refine⟨_,rfl,HA.out.2.1.keep (kZ (b:=wr.heap.size) _ _ lQ) (.inr rfl) (by omega),⟨gJ _ _,fun e=>by have:=(HA.out.2.1.own.lt _ e.symm).2;omega⟩,kZ _ _ hlt,by simp⟩
   have hwr:w.heap.size+3<=wr.heap.size:=HA.out.2.1.lt;apply wp_cut;intro K0 J;go_wp2;apply J.out;clear J;apply wp_cut;intro K0 J;go_wp2;apply J.out;clear J;apply wp_cut;intro KB HKB;refine wp_block ?_;apply wp_cut;intro K0 J;go_wp2;apply J.out;clear J;rw[<-hwa];clear hwa y0 y1;obtain⟨x0,-,xf⟩:=hRa.cells;have xf0:=xf 0;have OW:wa.ownsRow (w.heap.size+3) 255 2 (slice asv L.length csv) L.length (yW L):=hRa.own;have hlt1:w.heap.size+1+1<wa.heap.size:=by omega
   have HNP:=vl <| zM hRa.own hRa.blk (by decide);have c0:wa.cell? ⟨wr.heap.size,0,none⟩=some (int i64 lo):=by unfold cell?;rw[HBa.out.1];rfl
   have c1:wa.cell? ⟨wr.heap.size,1,none⟩=some (int i64 hi):=by unfold cell?;rw[HBa.out.1];rfl
   have HRa:=vl hRa;clear xf hRa;apply wp_cut;intro K0 J;go_wp2_with (first|(at_builtin;refine wpList_append_lies _ rfl _ _ 159 rfl (w.heap.size+3) 255 i0 (agg #[int i64 0,int i64 0]) 2 16 underlying159 hi0 hz0 hz1 hz2 rfl (by decide) _ _ _ rfl (OW.alloc _) ⟨wa.heap.size,0,none⟩ 1 1 [int i64 lo,int i64 hi] rfl rfl (news_of_block (cs:=#[int i64 lo,int i64 hi]) (t:=255) (fr:=(0,0)) (gJ wa _)) (by simp[Value.oneCell']) (by decide) (by unfold maxLen;omega) (by omega) (by simp;omega) _ rfl ?_;intro gg cap w2 hown hgrow hat hlt;have hPB:=hgrow.block (w.heap.size+1+1) (by simp;omega) HNP.out;have x0b:w2.cell? ⟨w.heap.size+1+1,0,none⟩=some (slice asv L.length csv):=(gG hPB).trans ((dX _ _ _ hlt1).trans x0);have xf0b:w2.frozen? ⟨w.heap.size+1+1,0,none⟩=false:=(dQ hPB).trans ((frozen?_alloc_past _ _ _ hlt1).trans xf0)))
   apply J.out;clear J;obtain⟨w4,hw4,HR4⟩:∃w4,w4=w2.setCell ⟨w.heap.size+1+1,0,none⟩ (slice (some ⟨gg,0,none⟩) (L.length+1) cap)∧Hid (Rw w4 (w.heap.size+3) (w.heap.size+1+1) (slice (some ⟨gg,0,none⟩) (L.length+1) cap) (L++[(lo,hi)]) o∧KeepO (w.heap.size+1+1) (slice asv L.length csv) (slice (some ⟨gg,0,none⟩) (L.length+1) cap) wa w4):=⟨_,rfl,HRa.out.app rfl hown hgrow (by rcases hat with ha|ha;exact .inl ha;right;rw[ha];simp)⟩
   rw[<-hw4];clear hw4 hown hgrow hat hlt hPB x0b xf0b OW HNP hlt1;generalize (Value.slice (some ⟨gg,0,none⟩) (L.length+1) cap)=sv4 at *;obtain⟨f1,f2⟩:=HR4.out.2.block wr.heap.size (by omega) (by omega) HBa.out.2;have HB4:Hid (w4.heap[wr.heap.size]? =some (.cells #[int i64 lo,int i64 hi] 255)∧some wr.heap.size≠sv4.ownBlock):=⟨f1.trans HBa.out.1,f2⟩
   have z0:w4.cell? ⟨wr.heap.size,0,none⟩=some (int i64 lo):=by unfold cell?;rw[HB4.out.1];rfl
   have z1:w4.cell? ⟨wr.heap.size,1,none⟩=some (int i64 hi):=by unfold cell?;rw[HB4.out.1];rfl
   clear f1 f2 c0 c1 x0 xf0;have HC1:=vl <| zB0 w4 _ _ sv4 _ o HR4.out.1 (by simp;omega) lo hi 65 90 32 (by omega) (by omega) (by omega);apply wp_cut;intro K0 J;go_wp2_with (first|(go_at_call 213;refine HC1.out.mono ?_;rintro e w5 ⟨rfl,sv5,hR5,hk5⟩))
   apply J.out;clear J;have hs4:=HR4.out.2.size;obtain⟨f1,f2⟩:=hk5.block wr.heap.size (by omega) (by omega) HB4.out.2;have v0:w5.cell? ⟨wr.heap.size,0,none⟩=some (int i64 lo):=by unfold cell?;rw[f1,HB4.out.1];rfl
   have v1:w5.cell? ⟨wr.heap.size,1,none⟩=some (int i64 hi):=by unfold cell?;rw[f1,HB4.out.1];rfl
   have HR5:Hid (Rw w5 (w.heap.size+3) (w.heap.size+1+1) sv5 ((L++[(lo,hi)])++yV (lo,hi) 65 90 32) o∧KeepO (w.heap.size+1+1) sv4 sv5 w4 w5):=⟨hR5,hk5⟩
   have HC2:=vl <| zB0 w5 _ _ sv5 _ o hR5 (by have:=zDz (lo,hi) 65 90 32;simp;omega) lo hi 97 122 (-32) (by omega) (by omega) (by omega);clear f1 f2 hR5 hk5 z0 z1;go_wp2_with (first|(go_at_call 213;refine HC2.out.mono ?_;rintro e w6 ⟨rfl,sv6,hR6,hk6⟩))
   apply HKB.out;clear HKB;have HR6:Hid (zOo w6 (w.heap.size+3) (w.heap.size+1+1) (qC (l.take (j+1))) o∧Keep (w.heap.size+3) (w.heap.size+1+1) w3 w6):=⟨⟨sv6,by rw[HBT.out];exact hR6⟩,HA.out.2.2.trans (HKa.out.trans (((HR4.out.2.trans HR5.out.2).trans hk6).keep HRa.out.own HRa.out.lt))⟩
   clear hR6 hk6 v0 v1;go_wp2;go_roundg (l.length-(j+1))
   case measure=>rw[HA.out.1];omega
   case rel=>exact⟨j+1,rfl,by omega,by go_num,HR6.out⟩
  ·have i1:(l.length:Int)<=(j:Int):=by omega
   have e:j=l.length:=by omega
   subst e;obtain⟨c0,c1,-⟩:=hR.cells;obtain⟨asv,csv,hsv⟩:=zG hR.own;subst hsv;have HF:=vl hR.in;have hbq:wr.heap[w.heap.size+1]? =some (.cells #[slice none 0 0,bool false] 161):=(hk.block _ (by omega) (by omega)).trans HB3.out;have q0:wr.cell? ⟨w.heap.size+1,0,none⟩=some (slice none 0 0):=by unfold cell?;rw[hbq];rfl
   have q1:wr.cell? ⟨w.heap.size+1,1,none⟩=some (bool false):=by unfold cell?;rw[hbq];rfl
   have g0:wr.frozen? ⟨w.heap.size+1,0,none⟩=false:=by unfold frozen?;rw[hbq];rfl
   have g1:wr.frozen? ⟨w.heap.size+1,1,none⟩=false:=by unfold frozen?;rw[hbq];rfl
   have HLL:Hid (qC (l.take l.length)=qC l):=by show _=_;rw[List.take_length]
   generalize qC (l.take l.length)=L at *;obtain⟨w9,hw9,r0,r1,H9⟩:∃w9,w9=(wr.setCell ⟨w.heap.size+1,0,none⟩ (slice asv L.length csv)).setCell ⟨w.heap.size+1,1,none⟩ (bool o)∧w9.cell? ⟨w.heap.size+1,0,none⟩=some (slice asv L.length csv)∧w9.cell? ⟨w.heap.size+1,1,none⟩=some (bool o)∧Hid (RangesIn (fun i=>w.heap.size<=i) w9 (slice asv L.length csv) L∧Grew w w9):=by
    have h2:((wr.setCell ⟨w.heap.size+1,0,none⟩ (slice asv L.length csv)).setCell ⟨w.heap.size+1,1,none⟩ (bool o)).heap[w.heap.size+1]? =some (.cells #[slice asv L.length csv,bool o] 161):=by
     simp[setCell,lU,hbq]
    have hne:∀i,i≠w.heap.size+1->((wr.setCell ⟨w.heap.size+1,0,none⟩ (slice asv L.length csv)).setCell ⟨w.heap.size+1,1,none⟩ (bool o)).heap[i]? =wr.heap[i]? :=fun i hi2=>by
     simp[setCell,lU,Ne.symm hi2]
    refine⟨_,rfl,?_,?_,?_,?_⟩
    ·unfold cell?;rw[h2];rfl
    ·unfold cell?;rw[h2];rfl
    ·have ag:Agree (fun i=>w.heap.size+3<=i) wr ((wr.setCell ⟨w.heap.size+1,0,none⟩ (slice asv L.length csv)).setCell ⟨w.heap.size+1,1,none⟩ (bool o)):=⟨rfl,rfl,by simp[World.setCell],fun i _ hx=>hne i (by omega)⟩
     exact(HF.out.go ag).mono (fun i _ hx=>by omega)
    ·exact(HK3.out.trans ⟨hk.os,hk.output,hk.size,fun k hk1 _=>hk.block k (by omega) (by omega)⟩).trans ⟨rfl,rfl,by simp[World.setCell],fun k h1 _=>hne k (by omega)⟩
   clear hgk hR hk hbq HF;go_wp2;rw[<-hw9];refine dZ (v:=agg #[slice asv L.length csv,bool o]) (by simp[results,results204,go_sem,r0,r1]) rfl ?_;exact⟨_,rfl,by rw[<-HLL.out];exact H9.out.1,H9.out.2⟩
section
variable (s:ByteArray) (p:Nat)
theorem vC {s t:ByteArray}{i:Nat}(h:zJ s i t=true):i+t.size<=s.size:=by
 unfold zJ at h;rw[Bool.and_eq_true] at h;exact of_decide_eq_true h.1
theorem zBX {s:ByteArray}{i:Nat}(h:byt s i≠0):i<s.size:=by
 rcases Nat.lt_or_ge i s.size with h1|h1
 ·exact h1
 ·exact absurd (zKp s i h1) h
theorem zLa:jA 0<0:=by decide
theorem zKj (i most:Nat)(h:0<yJ s i most):i+yJ s i most<=s.size:=by
 obtain⟨k,hk⟩:∃k,yJ s i most=k+1:=⟨yJ s i most-1,by omega⟩
 have hle:=zEv s i most;have h1:¬jA (byt s (i+k))<0:=by
  have h2:k<(List.range most).findIdx fun j=>decide (jA (byt s (i+j))<0):=by
   show k<yJ s i most;omega
  have h3:=List.not_of_lt_findIdx h2;rw[List.getElem_range] at h3;exact of_decide_eq_false h3
 have h4:=zBX (fun e=>h1 (by rw[e];exact zLa));omega
theorem zKh (p k:Nat)(h:k<=6):zAK s p k<=16777216:=Nat.le_of_lt (lZ (zKg s p k) (kG (by omega) (by omega:k<=6)))
theorem zNr:(zG9 s p).at_<=p+2∧((zG9 s p).ok=true->p<(zG9 s p).at_∧(zG9 s p).at_<=s.size)∧0<=(zG9 s p).num∧(zG9 s p).num<=16777216:=by
 have h1:=zEv s p 2;have h2:=zKj s p 2;have h3:=zKh s p (yJ s p 2) (by omega);unfold zG9;refine⟨by show p+yJ s p 2<=p+2;omega,fun e=>?_,by show(0:Int)<=(zAK s p (yJ s p 2):Nat);omega,by show((zAK s p (yJ s p 2):Nat):Int)<=16777216;omega⟩;have e2:yJ s p 2=2:=by simpa using e
 show p<p+yJ s p 2∧p+yJ s p 2<=s.size;omega
theorem zMZ:(zGC s p).at_<=p+7∧((zGC s p).ok=true->p<(zGC s p).at_∧(zGC s p).at_<=s.size)∧0<=(zGC s p).num∧(zGC s p).num<=16777216:=by
 have h1:=zEv s p 6;have h2:=zKj s p 6;have h3:=zKh s p (yJ s p 6) h1;unfold zGC;refine⟨?_,fun e=>?_,by show(0:Int)<=(zAK s p (yJ s p 6):Nat);omega,by show((zAK s p (yJ s p 6):Nat):Int)<=16777216;omega⟩
 ·show(if zJ s (p+yJ s p 6) ⟨#[125]⟩ then p+yJ s p 6+1 else p+yJ s p 6)<=p+7
  split <;> omega
 ·have e2:zJ s (p+yJ s p 6) ⟨#[125]⟩=true:=by
   have e3:=e;rw[Bool.and_eq_true,Bool.and_eq_true] at e3;exact e3.1.1
  show p<(if zJ s (p+yJ s p 6) ⟨#[125]⟩ then p+yJ s p 6+1 else p+yJ s p 6)∧(if zJ s (p+yJ s p 6) ⟨#[125]⟩ then p+yJ s p 6+1 else p+yJ s p 6)<=s.size;rw[if_pos e2];have:=vC e2;have e4:(⟨#[125]⟩:ByteArray).size=1:=rfl;omega
theorem zKm:(zAJ s p).at_<=p+10∧((zAJ s p).ok=true->p<(zAJ s p).at_∧(zAJ s p).at_<=s.size)∧0<=(zAJ s p).num∧(zAJ s p).num<=16777216:=by
 unfold zAJ;split
 ·rename_i h
  have:=vC h;have e4:(⟨#[110]⟩:ByteArray).size=1:=rfl;exact⟨by show p+1<=_;omega,fun _=>⟨by show p<p+1;omega,by show p+1<=_;omega⟩,by show(0:Int)<=10;omega,by show(10:Int)<=16777216;omega⟩
 split
 ·rename_i h
  have:=vC h;have e4:(⟨#[116]⟩:ByteArray).size=1:=rfl;exact⟨by show p+1<=_;omega,fun _=>⟨by show p<p+1;omega,by show p+1<=_;omega⟩,by show(0:Int)<=9;omega,by show(9:Int)<=16777216;omega⟩
 split
 ·obtain⟨a,b,c,d⟩:=zNr s (p+1)
  exact⟨by omega,fun e=>by have:=b e;omega,c,d⟩
 split
 ·obtain⟨a,b,c,d⟩:=zMZ s (p+2)
  exact⟨by omega,fun e=>by have:=b e;omega,c,d⟩
 have hl:=zAo s p;split
 ·exact⟨by show p<=_;omega,fun e=>(by cases e),by show(0:Int)<=0;omega,by show(0:Int)<=16777216;omega⟩
 ·rename_i h
  have h0:byt s p≠0:=fun e=>h (by rw[e];decide);have:=zBX h0;refine⟨by show p+1<=_;omega,fun _=>⟨by show p<p+1;omega,by show p+1<=_;omega⟩,?_,?_⟩
  ·show(0:Int)<=(byt s p:Nat);omega
  ·show((byt s p:Nat):Int)<=16777216;omega
theorem zEP:(xE s p).at_<=p+11∧((xE s p).ok=true->p<(xE s p).at_∧(xE s p).at_<=s.size)∧0<=(xE s p).num∧(xE s p).num<=16777216:=by
 unfold xE;split
 ·obtain⟨a,b,c,d⟩:=zKm s (p+1)
  exact⟨by omega,fun e=>by have:=b e;omega,c,d⟩
 have hl:=zAo s p;split
 ·exact⟨by show p<=_;omega,fun e=>(by cases e),by show(0:Int)<=0;omega,by show(0:Int)<=16777216;omega⟩
 ·rename_i h
  have h0:byt s p≠0:=fun e=>h (by rw[e];decide);have:=zBX h0;refine⟨by show p+1<=_;omega,fun _=>⟨by show p<p+1;omega,by show p+1<=_;omega⟩,?_,?_⟩
  ·show(0:Int)<=(byt s p:Nat);omega
  ·show((byt s p:Nat):Int)<=16777216;omega
theorem zJ9:(yI s p).at_<=p+30∧((yI s p).ok=true->p<(yI s p).at_∧(yI s p).at_<=s.size)∧0<=(yI s p).low∧(yI s p).low<=16777216∧0<=(yI s p).high∧(yI s p).high<=16777216:=by
 obtain⟨a,b,c,d⟩:=zEP s p;unfold yI;split
 ·rename_i h
  rw[Bool.and_eq_true] at h;obtain⟨a2,b2,c2,d2⟩:=zEP s ((xE s p).at_+1);have b1:=b h.1;refine⟨?_,fun e=>?_,c,d,c2,d2⟩
  ·show(xE s ((xE s p).at_+1)).at_<=p+30
   omega
  ·have e3:((xE s ((xE s p).at_+1)).ok&&decide ((xE s p).num<=(xE s ((xE s p).at_+1)).num))=true:=e
   rw[Bool.and_eq_true] at e3;have:=b2 e3.1;show p<(xE s ((xE s p).at_+1)).at_∧(xE s ((xE s p).at_+1)).at_<=s.size;omega
 ·exact⟨by show(xE s p).at_<=p+30;omega,b,c,d,c,d⟩
def zAT (s:ByteArray):Nat->Nat->List (Int×Int)->Option (List (Int×Int)×Nat)
 |0,_,_=>none
 |f+1,p,l=>if(yI s p).ok then(if zJ s (yI s p).at_ ⟨#[93]⟩ then some (l++[((yI s p).low,(yI s p).high)],(yI s p).at_+1) else zAT s f (yI s p).at_ (l++[((yI s p).low,(yI s p).high)])) else none
def zBW (s:ByteArray)(p:Nat):Option (Cs×Nat):=(zAT s (s.size+1) (if zJ s (p+1) ⟨#[94]⟩ then p+2 else p+1) []).map fun g=>(⟨g.1,zJ s (p+1) ⟨#[94]⟩⟩,g.2)
def zAp (w:World)(b:Nat)(s:ByteArray)(dv:Value)(r:Rx)(a:Option (Cs×Nat))(e:Ending)(w':World):Prop:=
 Keep w.heap.size b w w'∧match a with
 |none=>∃v n c o q,e=returned (tuple #[agg #[slice v n c,bool o],bool false])∧RxAt w' b s dv {r with at_:=q}
 |some (c,q)=>∃u,e=returned (tuple #[agg #[u,bool c.others],bool true])∧RangesIn (fun i=>w.heap.size<=i) w' u c.ranges∧RxAt w' b s dv {r with at_:=q}
end
end Go.Proofs.YtbjcfkdnjaiclaaGreat
