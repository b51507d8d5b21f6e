import Derived.Deep.DrawnRows
import Derived.Deep.RegionLaw
import Derived.Test.YtbjcfkdnjaiclaaGreatK0
import Derived.Test.YtbjcfkdnjaiclaaGreatK15
/- Parts of the proof. -/
set_option linter.unusedVariables false
set_option linter.unusedSimpArgs false
set_option maxHeartbeats 4000000
set_option maxRecDepth 100000
namespace Go.Proofs.YtbjcfkdnjaiclaaGreat
open Go.RowKit Go.Proofs.Tryz Go.World
open Go.Value (int slice bool pointer string agg tuple)
open Go.IntKind (i64)
open Go.Ending (returned)
section
attribute [local go_sem ↓] Go.wp_at_zero Go.wp_at_succ
def zKs (w:World)(d:Nat)(v:Value)(l:List Tr):Prop:=∃ao cap,v=slice ao l.length cap/\l.length<=cap/\cap<=maxLen/\∀i,i<l.length->∃g o p,ao=some ⟨g,o,none⟩/\In w g/\w.cell? ⟨g,o+i,none⟩=some (pointer (some ⟨p,0,none⟩))/\TreeAt w d p (l.getD i Tr.none)
theorem zK5 (w:World)(d:Nat)(v:Value)(rules:List Tr)(hT:zKs w d v rules)(h8:rules.length<=8)(hl:zX (yQ d) rules rules.length<=24):
  Calls prog 60 #[v] w λe w'=>∃nb,e=returned (pX nb)/\NwIs w w' nb (xM d rules rules.length):=by
 obtain⟨i0,hi0,hz0,hz1,hz2⟩:=info_parts yL;obtain⟨ib,hib,hb0,hb1,hb2⟩:=info_parts qU;obtain⟨ao,cap,rfl,_,_,hpc⟩:=hT;have HPT:Hid (∀wr n2,NwIs w wr w.heap.size n2->∀i,i<rules.length->∃g o p,ao=some ⟨g,o,none⟩/\cX wr g (o+i)=some (pX p)/\TreeAt w d p (rules.getD i Tr.none)):=by
  rintro wr n2 ⟨_,_,_,_,_,hN⟩ i hi;obtain⟨g,o,p,ha,hgi,hc,hti⟩:=hpc i hi;exact⟨g,o,p,ha,zA hc hgi hN.keep,hti⟩
 obtain⟨w1,hw1,HN1⟩:∃w1,w1=w.alloc (.cells #[slice none 0 0,slice none 0 0,iX 0,iX 0,slice none 0 0,slice none 0 0] 132)/\Hid (NwIs w w1 w.heap.size Nt.blank):=⟨_,rfl,_,_,_,_,_,Nw.begin w⟩
 have HTC:Hid (zB4 w w.heap.size d (xF d) (yQ d)):=zEI w w.heap.size d;obtain⟨LT,hLT⟩:∃LT,LT=xM d rules:=⟨_,rfl⟩
 have HLT:Hid (LT 0=Nt.blank/\(∀j,LT (j+1)=zLT (LT j).sets.length (xF d (LT j) (rules.getD j Tr.none)))/\(∀j,j<=rules.length->(LT j).Good/\(LT j).Laid j)/\(∀j,j<rules.length->(LT j).sets.length+yQ d (rules.getD j Tr.none)<=24/\(xF d (LT j) (rules.getD j Tr.none)).1.Good/\(xF d (LT j) (rules.getD j Tr.none)).2.Small 24/\(xF d (LT j) (rules.getD j Tr.none)).1.first<16777216/\(xF d (LT j) (rules.getD j Tr.none)).1.ends<16777216/\(xF d (LT j) (rules.getD j Tr.none)).1.rules.length=j/\(xF d (LT j) (rules.getD j Tr.none)).1.empty.length=j)/\LT rules.length=xM d rules rules.length/\∀j,j<rules.length->(LT j).sets.length<=(xF d (LT j) (rules.getD j Tr.none)).1.sets.length):=by
  rw[hLT];have hm:∀j,j<=rules.length->zX (yQ d) rules j<=24:=λj hj=>lY (zCM _ rules j _ hj) hl;refine⟨rfl,λj=>rfl,λj hj=>⟨(zAI d rules j (hm j hj)).1,zBq d rules j (hm j hj)⟩,λj hj=>?_,rfl,λj hj=>?_⟩;rotate_left
  ·have h1:=zAI d rules j (hm j (by omega))
   have h2:zX (yQ d) rules j+yQ d (rules.getD j Tr.none)<=24:=hm (j+1) hj;have h3:=jX d (xM d rules j) (rules.getD j Tr.none) h1.1 (by omega);omega
  have h1:=zAI d rules j (hm j (by omega));have h2:zX (yQ d) rules j+yQ d (rules.getD j Tr.none)<=24:=hm (j+1) hj;have h3:=jX d (xM d rules j) (rules.getD j Tr.none) h1.1 (by omega);obtain⟨s1,s2,s3,s4⟩:=zFa d (xM d rules j) (rules.getD j Tr.none);have h4:=zBq d rules j (hm j (by omega));have hp:2^(xM d rules j).sets.length<=2^24:=kG (by omega) h1.1.len;exact⟨by omega,h3.1,h3.2.2.up (by omega),by rw[s1];exact lZ h4.first hp,by rw[s2];exact lZ h4.ends hp,by rw[s3];exact h4.rlen,by rw[s4];exact h4.elen⟩
 have HNC:Hid (∀wr n2,NwIs w wr w.heap.size n2->∃sa sc,cX wr w.heap.size 0=some (slice sa n2.sets.length sc)):=by
  rintro wr n2 ⟨sv,_,_,_,_,hN⟩;obtain⟨sa,sc,hsv⟩:=zI hN.sOwn;exact⟨sa,sc,by rw[<-hsv];exact hN.cells.1⟩
 generalize xM d rules rules.length=LE at *;clear hLT hl hpc;go_enter func60,ntmps60
 refine wp_seq_k ?_;intro K0 hK0;have HK0:Hid (∀a w,_->K0 a w):=hK0;clear hK0;go_wp2_with fail;apply HK0.out;clear HK0;refine wp_seq_k ?_;intro K0 hK0;have HK0:Hid (∀a w,_->K0 a w):=hK0;clear hK0;go_wp2_with fail;apply HK0.out;clear HK0;rw[<-hw1];clear hw1;go_wp2_with fail;go_loopg [12] rules.length (λq i wr=>∃j:Nat,q=rules.length-j/\j<=rules.length/\i=iX (j:Int)/\NwIs w wr w.heap.size (LT j))
 case atStart=>exact⟨0,rfl,lX,rfl,by rw[HLT.out.1];exact HN1⟩
 case round=>
  obtain⟨j,hgk,hj,rfl,hN⟩:=hrel;have HB:Hid (gk=rules.length-j/\NwIs w wr w.heap.size (LT j)):=⟨hgk,hN⟩
  by_cases hj2:j<rules.length
  ·have i1:(j:Int)<(rules.length:Int):=by omega
   obtain⟨g,o,p,rfl,hc,hti⟩:=HPT wr _ hN j hj2;obtain⟨b1,b2,b3,b4,b5,b6,b7⟩:=HLT.2.2.2.1 j hj2;obtain⟨g1,g2⟩:=HLT.2.2.1 j hj;have HC0:=HTC wr (LT j) p (rules.getD j Tr.none) hN g1 hti b1;have HNX:Hid (LT (j+1)=zLT (LT j).sets.length (xF d (LT j) (rules.getD j Tr.none))):=HLT.2.1 j;obtain⟨sa,sc,y0⟩:=HNC wr _ hN;have hBL:=g1.len;have hBq0:(LT j).sets.length<=(xF d (LT j) (rules.getD j Tr.none)).1.sets.length:=HLT.2.2.2.2.2 j hj2;clear hgk hN hti b1 g1 g2;generalize (LT j).sets.length=B at *;generalize xF d (LT j) (rules.getD j Tr.none)=q at *;obtain⟨q1,⟨qf,ql,qe⟩⟩:=q;have b2':q1.sets.length<=24:=b2.len;have l3:qf<16777216:=b3.first
   have l4:ql<16777216:=b3.last;have b4':q1.first<16777216:=b4
   have b5':q1.ends<16777216:=b5;have b6':q1.rules.length=j:=b6;have b7':q1.empty.length=j:=b7;have HC:Hid (Ca 89 #[pX w.heap.size,pX p] wr λe w'=>e=returned (agg #[iX (qf:Int),iX (ql:Int),bool qe])/\NwIs w w' w.heap.size q1/\StayS wr w'):=HC0;have HNX2:Hid (LT (j+1)={q1 with first:=q1.first|||qf,ends:=q1.ends|||ql,rules:=q1.rules++[2^q1.sets.length-2^B],empty:=q1.empty++[qe]}):=HNX;clear HC0 HNX b2 b3 b4 b5 b6 b7;go_wp2_with (first|(go_at_call 89;refine HC.mono ?_;rintro e w5 ⟨rfl,⟨sv,fv,rv,ev,ps,hN5⟩,hS5⟩;have HN5:Hid (Nw w w5 w.heap.size q1 sv fv rv ev ps):=hN5;clear hN5 hS5))
   obtain⟨w6,hw6,HN6,HB6⟩:∃w6,w6=w5.alloc (.cells #[iX (qf:Int),iX (ql:Int),bool qe] 167)/\Hid (Nw w w6 w.heap.size q1 sv fv rv ev ps)/\Hid (w6.heap[w5.heap.size]? =some (.cells (Sn.mk qf ql qe).cells 167)):=⟨_,rfl,HN5.grown (kZ _ _ lQ),gY _ _⟩
   rw[<-hw6];clear hw6 HN5 y0 hc;generalize w5.heap.size=b8 at *;obtain⟨c0,c1,c2,c3,c4,c5,cf⟩:=HN6.cells;obtain⟨d0,d1,d2,-⟩:=zJ HB6;have cf2:=cf 2;have hor1:bits .or i64 (q1.first:Int) (qf:Int)=((q1.first|||qf:Nat):Int):=yO _ _ (by omega) (by omega);have hor2:bits .or i64 (q1.ends:Int) (ql:Int)=((q1.ends|||ql:Nat):Int):=yO _ _ (by omega) (by omega);clear cf;go_region;obtain⟨w7,hw7,HN7,HB7⟩:∃w7,w7=(w6.setCell ⟨w.heap.size,2,none⟩ (iX ((q1.first|||qf:Nat):Int))).drew/\Hid (Nw w w7 w.heap.size {q1 with first:=q1.first|||qf} sv fv rv ev ps)/\Hid (w7.heap[b8]? =some (.cells (Sn.mk qf ql qe).cells 167)):=by
    have h:=HN6.setFirst (q1.first|||qf);exact⟨_,rfl,h.1.grown (Keep.drew _),h.2 _ _ HB6⟩
   rw[<-hw7];clear hw7 c0 c1 c2 c3 c4 c5 d0 d1 d2 cf2 HN6 HB6;obtain⟨c0,c1,c2,c3,c4,c5,cf⟩:=HN7.cells;obtain⟨d0,d1,d2,-⟩:=zJ HB7;have cf3:=cf 3;clear cf;go_wp2_with fail;go_region;obtain⟨w8,hw8,HN8,HB8⟩:∃w8,w8=(w7.setCell ⟨w.heap.size,3,none⟩ (iX ((q1.ends|||ql:Nat):Int))).drew/\Hid (Nw w w8 w.heap.size {q1 with first:=q1.first|||qf,ends:=q1.ends|||ql} sv fv rv ev ps)/\Hid (w8.heap[b8]? =some (.cells (Sn.mk qf ql qe).cells 167)):=by
    have h:=HN7.setEnds (q1.ends|||ql);exact⟨_,rfl,h.1.grown (Keep.drew _),h.2 _ _ HB7⟩
   rw[<-hw8];clear hw8 c0 c1 c2 c3 c4 c5 d0 d1 d2 cf3 HN7 HB7 hor1 hor2;go_wp2_with fail;have hpl:q1.sets.length<=24:=b2';have hBq:B<=q1.sets.length:=hBq0;obtain⟨P1,hP1e⟩:∃P1:Nat,P1=2^q1.sets.length:=⟨_,rfl⟩
   obtain⟨P2,hP2e⟩:∃P2:Nat,P2=2^B:=⟨_,rfl⟩
   have hP1:P1<=16777216:=by rw[hP1e];exact(kG (by omega) hpl:2^q1.sets.length<=2^24)
   have hP2:P2<=16777216:=by rw[hP2e];exact(kG (by omega) hBL:2^B<=2^24)
   have hP3:P2<=P1:=by rw[hP1e,hP2e];exact kG (by omega) hBq
   obtain⟨R,hR⟩:∃R:Nat,R=P1-P2:=⟨_,rfl⟩
   have hR1:(P1:Int)-(P2:Int)=(R:Int):=by omega
   have hR0:R<16777217:=by omega
   have HR:Hid (R=P1-P2):=hR;have HX:Hid ((IntKind.i64.wrap (IntKind.i64.wrap ((2:Int)^q1.sets.length)-IntKind.i64.wrap ((2:Int)^B)))=(R:Int)):=by
    show _=_;have e1:((2:Int)^q1.sets.length)=(P1:Int):=by rw[hP1e];simp
    have e2:((2:Int)^B)=(P2:Int):=by rw[hP2e];simp
    rw[e1,e2,zAP (P1:Int) (by omega) (by omega),zAP (P2:Int) (by omega) (by omega),hR1];exact zAP _ (by omega) (by omega)
   have HPP:Hid (P1=2^q1.sets.length/\P2=2^B):=⟨hP1e,hP2e⟩
   clear hP1e hP2e;obtain⟨sa2,sc2,hsv⟩:=zI HN8.sOwn;obtain⟨ra,rc,hrv⟩:=HN8.rOwn.form;obtain⟨ea,ec,hev⟩:=zI HN8.eOwn;rw[zO] at hrv;have hrv2:rv=slice ra j rc:=by rw[hrv];show Value.slice ra q1.rules.length rc=_;rw[b6']
   have hev2:ev=slice ea j ec:=by rw[hev];show Value.slice ea q1.empty.length ec=_;rw[b7']
   have hsv2:sv=slice sa2 q1.sets.length sc2:=hsv;clear hsv hrv hev;subst hsv2 hrv2 hev2;obtain⟨c0,-,-,-,c4,c5,cf⟩:=HN8.cells;have cf4:=cf 4;have hlt:=HN8.lt;have hH8:w.heap.size<=w8.heap.size:=HN8.keep.size;have HNP:Hid (some w.heap.size≠(Value.slice ra j rc).ownBlock):=HN8.box.2.2.1;have OW:w8.ownsRow w.heap.size 3 1 (slice ra j rc) j ((ints q1.rules).map λx=>iX x):=by
    have:=HN8.rOwn;unfold OwnI at this;rw[zO] at this;have h2:w8.ownsRow w.heap.size 3 1 (slice ra j rc) q1.rules.length ((ints q1.rules).map λx=>iX x):=this;rw[b6'] at h2;exact h2
   obtain⟨d0,d1,d2,-⟩:=zJ HB8;clear cf hR hP1 hP2 hP3 hBq hBq0 hR1;go_region_law ((refine step_append_lies _ (by rfl) (.tmp 46) (.tmp 56) 45 (by rfl) w.heap.size 3 i0 _ 1 8 underlying45 hi0 hz0 hz1 hz2 rfl (by decide) (slice ra j rc) j ((ints q1.rules).map λx=>iX x) (by simp[Act.eval,Act.put]) ((OW.alloc _).drew) ⟨w8.heap.size,0,none⟩ 1 1 [iX (IntKind.i64.wrap (IntKind.i64.wrap ((2:Int)^q1.sets.length)-IntKind.i64.wrap ((2:Int)^B)))] (by simp[Act.eval,Act.put]) (by rfl) (news_of_block (cs:=#[iX (IntKind.i64.wrap (IntKind.i64.wrap ((2:Int)^q1.sets.length)-IntKind.i64.wrap ((2:Int)^B)))]) (t:=3) (fr:=(0,0)) (gY w8 _)) (by simp[Value.oneCell']) (by decide) (by unfold maxLen;omega) (by omega) (by simp;omega) (w8.heap.size+1) (by simp) ?_;intro gg cap2 w9 hown hgrow hat hlt9;have hPB:=hgrow.block w.heap.size (by simp;omega) HNP;have c4b:cX w9 w.heap.size 4=some (slice ra j rc):=(gW hPB).trans ((gU _ _ _ hlt).trans c4);have cf4b:w9.frozen? ⟨w.heap.size,4,none⟩=false:=(gV hPB).trans ((frozen?_alloc_past _ _ _ hlt).trans cf4)))
   all_goals
    rw[HX.out] at hown;have HN9:Hid (Nw w (w9.setCell ⟨w.heap.size,4,none⟩ (slice (qX gg) (j+1) cap2)) w.heap.size {q1 with first:=q1.first|||qf,ends:=q1.ends|||ql,rules:=q1.rules++[R]} (slice sa2 q1.sets.length sc2) fv (slice (qX gg) (j+1) cap2) (slice ea j ec) ps/\StayS w8.drew (w9.setCell ⟨w.heap.size,4,none⟩ (slice (qX gg) (j+1) cap2))):=(HN8.grown (Keep.drew _)).addRule (o:=Obj.cells #[iX (IntKind.i64.wrap (IntKind.i64.wrap ((2:Int)^q1.sets.length)-IntKind.i64.wrap ((2:Int)^B)))] 3) b6'.symm hown hgrow (by
     rcases hat with ha|ha
     ·exact .inl ha
     ·right;show w8.heap.size<=gg;omega)
    have HB9:Hid ((w9.setCell ⟨w.heap.size,4,none⟩ (slice (qX gg) (j+1) cap2)).heap[b8]? =some (.cells (Sn.mk qf ql qe).cells 167)):=HN9.2 _ _ HB8;clear hown hgrow hat hlt9 hPB c4b cf4b OW c0 c4 c5 cf4 d0 d1 d2 HX HN8 HB8 HNP;generalize w9.setCell ⟨w.heap.size,4,none⟩ (slice (qX gg) (j+1) cap2)=w10 at *;obtain⟨-,-,-,-,-,c5,cf⟩:=HN9.1.cells;have cf5:=cf 5;have hlt10:=HN9.1.lt;have hH10:w.heap.size<=w10.heap.size:=HN9.1.keep.size;have HNE:Hid (some w.heap.size≠(Value.slice ea j ec).ownBlock):=HN9.1.box.2.2.2;have OE:w10.ownsRow w.heap.size 4 1 (slice ea j ec) j (q1.empty.map λx=>bool x):=by
     have:=HN9.1.eOwn;unfold OwnB at this;have h2:w10.ownsRow w.heap.size 4 1 (slice ea j ec) q1.empty.length (q1.empty.map λx=>bool x):=this;rw[b7'] at h2;exact h2
    obtain⟨d0,d1,d2,-⟩:=zJ HB9;clear cf;go_wp2_with fail;go_region_law ((refine step_append_lies _ (by rfl) (.tmp 64) (.tmp 67) 28 (by rfl) w.heap.size 4 ib _ 1 1 underlying28 hib hb0 hb1 hb2 rfl (by decide) (slice ea j ec) j (q1.empty.map λx=>bool x) (by simp[Act.eval,Act.put]) ((OE.alloc _).drew) ⟨w10.heap.size,0,none⟩ 1 1 [bool qe] (by simp[Act.eval,Act.put]) (by rfl) (news_of_block (cs:=#[bool qe]) (t:=4) (fr:=(0,0)) (gY w10 _)) (by simp[Value.oneCell']) (by decide) (by unfold maxLen;omega) (by omega) (by simp;omega) (w10.heap.size+1) (by simp) ?_;intro g5 cap5 w11 hown5 hgrow5 hat5 hlt11;have hPB5:=hgrow5.block w.heap.size (by simp;omega) HNE;have c5b:cX w11 w.heap.size 5=some (slice ea j ec):=(gW hPB5).trans ((gU _ _ _ hlt10).trans c5);have cf5b:w11.frozen? ⟨w.heap.size,5,none⟩=false:=(gV hPB5).trans ((frozen?_alloc_past _ _ _ hlt10).trans cf5)))
    all_goals
     have HN12:Hid (NwIs w (w11.setCell ⟨w.heap.size,5,none⟩ (slice (qX g5) (j+1) cap5)) w.heap.size (LT (j+1))):=by
      have h:=(HN9.1.grown (Keep.drew _)).addEmpty (o:=Obj.cells #[bool qe] 4) b7'.symm hown5 hgrow5 (by
       rcases hat5 with ha|ha
       ·exact .inl ha
       ·right;show w10.heap.size<=g5;omega)
      show NwIs _ _ _ (LT (j+1));rw[HNX2.out,<-HPP.out.1,<-HPP.out.2,<-HR.out];exact⟨_,_,_,_,_,h.1⟩
     clear hown5 hgrow5 hat5 hlt11 hPB5 c5b cf5b OE c5 cf5 d0 d1 d2;go_wp2_with fail;go_roundg (rules.length-(j+1))
     case measure=>rw[HB.out.1];omega
     case rel=>exact⟨j+1,rfl,by omega,by go_num,HN12⟩
  ·have i1:(rules.length:Int)<=(j:Int):=by omega
   have e:j=rules.length:=by omega
   subst e;rw[HLT.out.2.2.2.2.1] at hN;clear hgk;go_wp2_with fail;go_ret;exact⟨_,rfl,hN⟩
end
def xH (c:Nat):Bool:=decide (48<=c)&&decide (c<=57)
def zCh (c:Nat):Bool:=(decide (97<=c)&&decide (c<=122))||(decide (65<=c)&&decide (c<=90))
def isPrintedB (c:Nat):Bool:=decide (32<=c)&&decide (c<=126)
theorem zAg (w:World)(c:Nat):Calls prog 206 #[int .u8 (c:Int)] w λe w'=>e=returned (bool (xH c))/\w'=w:=by
 have a:xH c=(decide (48<=c)&&decide (c<=57)):=rfl;rcases(show c<48\/(48<=c/\c<=57)\/(48<=c/\57<c) by omega) with b|⟨b,d⟩|⟨b,d⟩
 all_goals
  have f:=vl a;clear a
  try have g:(c:Int)<48:=by omega
  try have g:(c:Int)>=48:=by omega
  try have i:(c:Int)<=57:=by omega
  try have i:57<(c:Int):=by omega
  go_in;go_wp2;go_ret;exact⟨by rw[f.out];first|(simp;done)|(simp;omega)|(simp;rw[Bool.eq_iff_iff];simp;omega),rfl⟩
theorem zBF (w:World)(c:Nat):Calls prog 218 #[int .u8 (c:Int)] w λe w'=>e=returned (bool (isPrintedB c))/\w'=w:=by
 have a:isPrintedB c=(decide (32<=c)&&decide (c<=126)):=rfl;rcases(show c<32\/(32<=c/\c<=126)\/(32<=c/\126<c) by omega) with b|⟨b,d⟩|⟨b,d⟩
 all_goals
  have f:=vl a;clear a
  try have g:(c:Int)<32:=by omega
  try have g:(c:Int)>=32:=by omega
  try have i:(c:Int)<=126:=by omega
  try have i:126<(c:Int):=by omega
  go_in;go_wp2;go_ret;exact⟨by rw[f.out];first|(simp;done)|(simp;omega)|(simp;rw[Bool.eq_iff_iff];simp;omega),rfl⟩
theorem zFe (w:World)(c:Nat):Calls prog 217 #[int .u8 (c:Int)] w λe w'=>e=returned (bool (zCh c))/\w'=w:=by
 have d:(c<65)\/(65<=c/\c<=90)\/(90<c/\c<97)\/(97<=c/\c<=122)\/(122<c):=by omega
 have b:zCh c=((decide (97<=c)&&decide (c<=122))||(decide (65<=c)&&decide (c<=90))):=rfl;rcases d with a|a|a|a|a
 all_goals
  have f:=vl b;clear b
  try have g:(c:Int)<97:=by omega
  try have g:(c:Int)>=97:=by omega
  try have i:(c:Int)<65:=by omega
  try have i:(c:Int)>=65:=by omega
  try have j:(c:Int)<=90:=by omega
  try have j:90<(c:Int):=by omega
  try have k:(c:Int)<=122:=by omega
  try have k:122<(c:Int):=by omega
  go_in;go_wp2;go_ret;exact⟨by rw[f.out];first|(simp;done)|(simp;omega)|(simp;rw[Bool.eq_iff_iff];simp;omega),rfl⟩
def zAJ (c:Nat):Bool:=!(c==92||c==124||c==40||c==41||c==91||c==93||c==123||c==125||c==42||c==43||c==63||c==46)&&isPrintedB c
theorem zCv (w:World)(c:Nat):Calls prog 212 #[int .u8 (c:Int)] w λe w'=>e=returned (bool (zAJ c))/\w'=w:=by
 have a:Hid (∀w,Ca 218 #[int .u8 (c:Int)] w λe w'=>e=returned (bool (isPrintedB c))/\w'=w):=λw=>zBF w c;by_cases d:c=92\/c=124\/c=40\/c=41\/c=91\/c=93\/c=123\/c=125\/c=42\/c=43\/c=63\/c=46
 ·rcases d with rfl|rfl|rfl|rfl|rfl|rfl|rfl|rfl|rfl|rfl|rfl|rfl
  all_goals
   go_in;go_wp2;go_ret;exact⟨rfl,rfl⟩
 obtain⟨f,g,h,i,j,k,l,m,o,p,q,r⟩:¬c=92/\¬c=124/\¬c=40/\¬c=41/\¬c=91/\¬c=93/\¬c=123/\¬c=125/\¬c=42/\¬c=43/\¬c=63/\¬c=46:=by omega
 have s:Hid (zAJ c=isPrintedB c):=by
  show _=_;unfold zAJ;simp[f,g,h,i,j,k,l,m,o,p,q,r]
 have v:((c:Int)==92)=false:=by rw[hZ];omega
 have x:((c:Int)==124)=false:=by rw[hZ];omega
 have y:((c:Int)==40)=false:=by rw[hZ];omega
 have z:((c:Int)==41)=false:=by rw[hZ];omega
 have A:((c:Int)==91)=false:=by rw[hZ];omega
 have B:((c:Int)==93)=false:=by rw[hZ];omega
 have C:((c:Int)==123)=false:=by rw[hZ];omega
 have D:((c:Int)==125)=false:=by rw[hZ];omega
 have E:((c:Int)==42)=false:=by rw[hZ];omega
 have F:((c:Int)==43)=false:=by rw[hZ];omega
 have G:((c:Int)==63)=false:=by rw[hZ];omega
 have H:((c:Int)==46)=false:=by rw[hZ];omega
 generalize isPrintedB c=b at *;go_in;go_wp2_with (first|(go_at_call 218;refine(a _).mono ?_;rintro e I ⟨rfl,t⟩;have u:=t.symm;subst u))
 go_ret;exact⟨by rw[s.out];rfl,rfl⟩
def jA (c:Nat):Int:=if xH c then(c:Int)-48 else if 97<=c/\c<=102 then(c:Int)-87 else -1
theorem zFj (w:World)(c:Nat)(o:c<256):Calls prog 220 #[int .u8 (c:Int)] w λe w'=>e=returned (iX (jA c))/\w'=w:=by
 have h:Hid (∀w,Ca 206 #[int .u8 (c:Int)] w λe w'=>e=returned (bool (xH c))/\w'=w):=λw=>zAg w c;by_cases p:48<=c/\c<=57
 ·have d:xH c=true:=by unfold xH;simp;omega
  rw[d] at h;have g:=vl h;have f:Hid (jA c=(c:Int)-48):=by show _=_;unfold jA;rw[if_pos d]
  have i:IntKind.u8.wrap ((c:Int)-48)=(c:Int)-48:=by rw[IntKind.wrap_u8];omega
  go_in;go_wp2_with (first|(go_at_call 206;refine(g _).mono ?_;rintro e j ⟨rfl,a⟩;have b:=a.symm;subst b))
  go_ret;exact⟨by rw[f.out];first|rfl|(simp [i];done)|(simp;omega),rfl⟩
 ·have d:xH c=false:=by unfold xH;simp;omega
  rw[d] at h;have g:=vl h;by_cases k:97<=c/\c<=102
  ·have f:Hid (jA c=(c:Int)-87):=by show _=_;unfold jA;rw[if_neg (by rw[d];decide),if_pos k]
   have l:(c:Int)>=97:=by omega
   have m:(c:Int)<=102:=by omega
   have i:IntKind.u8.wrap ((c:Int)-97)=(c:Int)-97:=by rw[IntKind.wrap_u8];omega
   go_in;go_wp2_with (first|(go_at_call 206;refine(g _).mono ?_;rintro e j ⟨rfl,a⟩;have b:=a.symm;subst b))
   go_ret;exact⟨by rw[f.out];first|rfl|(simp [i];done)|(simp;omega),rfl⟩
  ·have f:Hid (jA c=-1):=by show _=_;unfold jA;rw[if_neg (by rw[d];decide),if_neg k]
   by_cases q:97<=c
   ·have l:(c:Int)>=97:=by omega
    have m:102<(c:Int):=by omega
    go_in;go_wp2_with (first|(go_at_call 206;refine(g _).mono ?_;rintro e j ⟨rfl,a⟩;have b:=a.symm;subst b))
    go_ret;exact⟨by rw[f.out];rfl,rfl⟩
   ·have l:(c:Int)<97:=by omega
    go_in;go_wp2_with (first|(go_at_call 206;refine(g _).mono ?_;rintro e j ⟨rfl,a⟩;have b:=a.symm;subst b))
    go_ret;exact⟨by rw[f.out];rfl,rfl⟩
def qD (c:Nat):Bool:=decide (97<=c)&&decide (c<=122)
theorem zCu (w:World)(c:Nat):Calls prog 181 #[int .u8 (c:Int)] w λe w'=>e=returned (bool (qD c))/\w'=w:=by
 by_cases b:97<=c
 ·by_cases d:c<=122
  ·have a:Hid (qD c=true):=by show _=_;unfold qD;rw[dQ b,dQ d];rfl
   have f:(c:Int)>=97:=by omega
   have g:(c:Int)<=122:=by omega
   go_in;go_wp2;go_ret;exact⟨by rw[a.out];first|rfl|(simp;done)|(simp;omega),rfl⟩
  ·have a:Hid (qD c=false):=by show _=_;unfold qD;rw[dQ b,gG d];rfl
   have f:(c:Int)>=97:=by omega
   have g:122<(c:Int):=by omega
   go_in;go_wp2;go_ret;exact⟨by rw[a.out];first|rfl|(simp;done)|(simp;omega),rfl⟩
 ·have a:Hid (qD c=false):=by show _=_;unfold qD;rw[gG b];rfl
  have f:(c:Int)<97:=by omega
  go_in;go_wp2;go_ret;exact⟨by rw[a.out];first|rfl|(simp;done)|(simp;omega),rfl⟩
def zHk (s:ByteArray)(c:Nat):Nat:=(List.range s.size).findIdx λi=>byt s i==c
theorem zNv (s:ByteArray)(c j:Nat)(a:j<s.size)(b:byt s j=c)(d:∀i,i<j->byt s i≠c):zHk s c=j:=
 zDe _ _ j (by rw[List.length_range];exact a) (by rw[qQ _ _ a];exact beq_iff_eq.2 b) λk e=>by rw[qQ _ _ (by omega)];exact hZ.2 (d k e)
theorem zLp (s:ByteArray)(c:Nat)(d:∀i,i<s.size->byt s i≠c):zHk s c=s.size:=by
 have b:=zBc (List.range s.size) (λi=>byt s i==c) λk a=>by
  rw[List.length_range] at a;rw[qQ _ _ a];exact hZ.2 (d k a)
 rw[List.length_range] at b;exact b
def zAb (s:ByteArray)(c:Nat):Bool:=decide (zHk s c<s.size)
def yP (s:ByteArray)(c:Nat):ByteArray:=if zAb s c then s.extract 0 (zHk s c) else s
def qK (s:ByteArray)(c:Nat):ByteArray:=if zAb s c then s.extract (zHk s c+1) s.size else⟨#[]⟩
theorem zCl (w:World)(s:ByteArray)(D:s.size<=1048576)(c:Nat):
  Calls prog 86 #[string s,int .u8 (c:Int)] w λe w'=>e=returned (tuple #[string (yP s c),string (qK s c),bool (zAb s c)])/\Grew w w':=by
 have p:Hid (∀j,j<s.size->byt s j=c->(∀i,i<j->byt s i≠c)->zHk s c=j):=λj=>zNv s c j;have r:=vl <| zLp s c;have t:Hid (∀j,zHk s c=j->j<s.size->(zAb s c=true/\yP s c=s.extract 0 j/\qK s c=s.extract (j+1) s.size)):=λj e m=>by
  have a:zAb s c=true:=by unfold zAb;rw[e];exact dQ m
  exact⟨a,by unfold yP;rw[if_pos a,e],by unfold qK;rw[if_pos a,e]⟩
 have u:Hid (zHk s c=s.size->(zAb s c=false/\yP s c=s/\qK s c=⟨#[]⟩)):=λe=>by
  have a:zAb s c=false:=by unfold zAb;rw[e];exact gG (by omega)
  exact⟨a,by unfold yP;rw[if_neg (by rw[a];decide)],by unfold qK;rw[if_neg (by rw[a];decide)]⟩
 generalize zAb s c=E at *;generalize yP s c=F at *;generalize qK s c=G at *;go_in;go_wp2;go_loopg [7] s.size (λq i wr=>∃j:Nat,q=s.size-j/\j<=s.size/\i=iX (j:Int)/\(∀k,k<j->byt s k≠c)/\wr=w)
 case atStart=>exact⟨0,rfl,lX,rfl,λk o=>by omega,rfl⟩
 case round=>
  obtain⟨j,g,m,rfl,d,rfl⟩:=hrel;have h:Hid (gk=s.size-j/\(∀k,k<j->byt s k≠c)):=⟨g,d⟩
  by_cases l:j<s.size
  ·have y:(j:Int)<(s.size:Int):=by omega
   have H:¬(j:Int)<0:=by omega
   have I:=zFy s j l;clear g d;by_cases f:byt s j=c
   ·have b:=vl <| t j (p j l f h.2) l
    have z:((byt s j:Int)==(c:Int))=true:=by rw[f];exact beq_self_eq_true _
    have J:(0:Int)<=(j:Int):=by omega
    have L:(j:Int)<=(s.size:Int):=by omega
    have M:(0:Int)<=(j:Int)+1:=by omega
    have N:(j:Int)+1<=(s.size:Int):=by omega
    have O:Hid (((j:Int)+1).toNat=j+1):=by show _=_;omega
    generalize byt s j=x at *;go_wp2;go_quiet (fail);go_wp2;refine gJ (v:=tuple #[string (s.extract 0 j),string (s.extract (j+1) s.size),bool true]) (by simp[results,results86,go_sem]) rfl ?_;exact⟨by rw[b.out.1,b.out.2.1,b.out.2.2],Keep.alike (w':=wr.drewN nq) ⟨rfl,rfl,rfl⟩⟩
   ·have z:((byt s j:Int)==(c:Int))=false:=by rw[hZ];omega
    have C:Hid (∀k,k<j+1->byt s k≠c):=λk o=>by
     by_cases e:k=j
     ·rw[e];exact f
     ·exact h.2 k (by omega)
    clear f;generalize byt s j=x at *;go_wp2;go_roundg (s.size-(j+1))
    case measure=>rw[h.out.1];omega
    case rel=>exact⟨j+1,rfl,by omega,by go_num,C,rfl⟩
  ·have y:(s.size:Int)<=(j:Int):=by omega
   have b:=vl <| u (r λk o=>d k (by omega));clear g d;go_wp2;refine gJ (v:=tuple #[string s,string ⟨#[]⟩,bool false]) (by simp[results,results86,go_sem]) rfl ?_;exact⟨by rw[b.out.1,b.out.2.1,b.out.2.2],Keep.refl _ _ _⟩
theorem zAx (s:ByteArray):s.toList.isEmpty=decide (s.size=0):=by
 rw[ByteArray.toList_eq];have e:s.size=s.data.toList.length:=rfl;cases b:s.data.toList with
 |nil=>rw[e,b];rfl
 |cons a l=>rw[e,b];rfl
def vW (c:Nat):Bool:=qD c||xH c
def xI (s:ByteArray):Bool:=decide (0<s.size)&&(decide (s.size<=6)&&(qD (byt s 0)&&decide (∀i,i<s.size->i=0\/vW (byt s i)=true)))
theorem vL (w:World)(s:ByteArray)(R:s.size<=1048576):Calls prog 160 #[string s] w λe w'=>e=returned (bool (xI s))/\w'=w:=by
 have A:=zAx s;by_cases B:s.size=0
 ·have f:Hid (xI s=false):=by show _=_;unfold xI;rw[gG (show¬0<s.size by omega),Bool.false_and]
  rw[dQ B] at A;go_in;go_wp2;go_ret;exact⟨by rw[f.out];rfl,rfl⟩
 rw[gG B] at A;by_cases S:6<s.size
 ·have f:Hid (xI s=false):=by show _=_;unfold xI;rw[gG (show¬s.size<=6 by omega),Bool.false_and,Bool.and_false]
  have J:6<(s.size:Int):=by omega
  go_in;go_wp2;go_ret;exact⟨by rw[f.out];rfl,rfl⟩
 have J:(s.size:Int)<=6:=by omega
 have u:0<s.size:=by omega
 have T:(0:Int)<(s.size:Int):=by omega
 have K:=zFy s 0 u;have C:Hid (xI s=(qD (byt s 0)&&decide (∀i,i<s.size->i=0\/vW (byt s i)=true))):=by show _=_;unfold xI;rw[dQ u,dQ (show s.size<=6 by omega),Bool.true_and,Bool.true_and]
 have o:Hid (∀w,Ca 181 #[int .u8 (byt s 0:Nat)] w λe w'=>e=returned (bool (qD (byt s 0)))/\w'=w):=λw=>zCu w (byt s 0);cases p:qD (byt s 0) with
 |false=>
  have f:Hid (xI s=false):=by show _=_;rw[C.out,p,Bool.false_and]
  rw[p] at o;have r:=vl o;generalize byt s 0=c0 at *;go_in;go_wp2_with (first|(go_at_call 181;refine(r _).mono ?_;rintro e l ⟨rfl,a⟩;have b:=a.symm;subst b))
  go_ret;exact⟨by rw[f.out];rfl,rfl⟩
 |true=>
  have f:Hid (xI s=decide (∀i,i<s.size->i=0\/vW (byt s i)=true)):=by show _=_;rw[C.out,p,Bool.true_and]
  rw[p] at o;have r:=vl o;generalize xI s=D at *;go_in;apply wp_cut;intro L v;go_wp2;apply v.out;generalize byt s 0=c0 at K r;apply wp_cut;intro L v;go_wp2_with (first|(go_at_call 181;refine(r _).mono ?_;rintro e l ⟨rfl,a⟩;have b:=a.symm;subst b))
  apply v.out;go_wp2;go_loopg [3] (s.size-1) (λq i wr=>∃j:Nat,q=s.size-j/\1<=j/\j<=s.size/\i=iX (j:Int)/\(∀k,k<j->k=0\/vW (byt s k)=true)/\wr=w)
  case atStart=>exact⟨1,rfl,lQ,u,rfl,λk M=>.inl (by omega),rfl⟩
  case round=>
   obtain⟨j,N,U,W,rfl,E,rfl⟩:=hrel;have x:Hid (gk=s.size-j/\(∀k,k<j->k=0\/vW (byt s k)=true)):=⟨N,E⟩
   by_cases F:j<s.size
   ·have O:(j:Int)<(s.size:Int):=by omega
    have X:¬(j:Int)<0:=by omega
    have Y:=zFy s j F;have t:Hid (∀w,Ca 181 #[int .u8 (byt s j:Nat)] w λe w'=>e=returned (bool (qD (byt s j)))/\w'=w):=λw=>zCu w (byt s j);have G:Hid (vW (byt s j)=true->∀k,k<j+1->k=0\/vW (byt s k)=true):=λy k M=>by
     by_cases e:k=j
     ·rw[e];exact .inr y
     ·exact x.2 k (by omega)
    have H:Hid (vW (byt s j)=false->D=false):=λy=>by
     rw[f.out];exact gG λP=>by
      rcases P j F with z|z
      ·omega
      ·rw[y] at z;cases z
    generalize byt s j=c at *;cases g:qD c with
    |true=>
     rw[g] at t;have m:=vl t;have d:=G (by unfold vW;rw[g];rfl);go_wp2_with (first|(go_at_call 181;refine(m _).mono ?_;rintro e l ⟨rfl,a⟩;have b:=a.symm;subst b))
     go_roundg (s.size-(j+1))
     case measure=>rw[x.out.1];omega
     case rel=>exact⟨j+1,rfl,by omega,by omega,by go_num,d,rfl⟩
    |false=>
     rw[g] at t;have m:=vl t;by_cases c1:c<48
     ·have I:(c:Int)<48:=by omega
      have d:=vl <| H (by unfold vW xH;rw[g,gG (show¬48<=c by omega)];rfl);go_wp2_with (first|(go_at_call 181;refine(m _).mono ?_;rintro e l ⟨rfl,a⟩;have b:=a.symm;subst b))
      go_ret;exact⟨by rw[d.out];rfl,rfl⟩
     by_cases c2:57<c
     ·have I:¬(c:Int)<48:=by omega
      have Q:57<(c:Int):=by omega
      have d:=vl <| H (by unfold vW xH;rw[g,gG (show¬c<=57 by omega),Bool.and_false];rfl);go_wp2_with (first|(go_at_call 181;refine(m _).mono ?_;rintro e l ⟨rfl,a⟩;have b:=a.symm;subst b))
      go_ret;exact⟨by rw[d.out];rfl,rfl⟩
     ·have I:¬(c:Int)<48:=by omega
      have Q:¬57<(c:Int):=by omega
      have d:=G (by unfold vW xH;rw[g,dQ (show 48<=c by omega),dQ (show c<=57 by omega)];rfl);go_wp2_with (first|(go_at_call 181;refine(m _).mono ?_;rintro e l ⟨rfl,a⟩;have b:=a.symm;subst b))
      go_roundg (s.size-(j+1))
      case measure=>rw[x.out.1];omega
      case rel=>exact⟨j+1,rfl,by omega,by omega,by go_num,d,rfl⟩
   ·have O:(s.size:Int)<=(j:Int):=by omega
    have d:Hid (D=true):=by
     show _=_;rw[f.out];exact dQ λi aa=>E i (by omega)
    go_wp2;go_ret;exact⟨by rw[d.out];rfl,rfl⟩
structure Ac where
 act:Nat
 name:ByteArray
 ok:Bool
def eqS (a b:ByteArray):Bool:=a.toList==b.toList
def zH5 (s:ByteArray):Ac:=if byt s 0=62&&xI (s.extract 1 s.size) then⟨2,s.extract 1 s.size,true⟩ else⟨0,⟨#[]⟩,false⟩
def zA3 (s:ByteArray):Ac:=if s.size=0 then⟨0,⟨#[]⟩,false⟩ else if eqS s ⟨#[46]⟩ then⟨0,⟨#[]⟩,true⟩ else if eqS s ⟨#[45]⟩ then⟨1,⟨#[]⟩,true⟩ else if eqS s ⟨#[60]⟩ then⟨3,⟨#[]⟩,true⟩ else zH5 s
theorem zCo (w:World)(s:ByteArray)(A:s.size<=1048576):Calls prog 163 #[string s] w λe w'=>e=returned (tuple #[iX ((zA3 s).act:Int),string (zA3 s).name,bool (zA3 s).ok])/\Grew w w':=by
 have l:=zAx s;have m:(⟨#[46]⟩:ByteArray).toList=[46]:=by rw[ByteArray.toList_eq]
 have o:(⟨#[45]⟩:ByteArray).toList=[45]:=by rw[ByteArray.toList_eq]
 have p:(⟨#[60]⟩:ByteArray).toList=[60]:=by rw[ByteArray.toList_eq]
 by_cases f:s.size=0
 ·have a:Hid (zA3 s=⟨0,⟨#[]⟩,false⟩):=by show _=_;unfold zA3;rw[if_pos f]
  rw[dQ f] at l;rw[a.out];go_in;go_wp2;refine gJ (v:=tuple #[iX 0,string ⟨#[]⟩,bool false]) (by simp[results,results163,go_sem]) rfl ?_;exact⟨rfl,Keep.refl _ _ _⟩
 rw[gG f] at l;have b:Hid (zA3 s=if eqS s ⟨#[46]⟩ then⟨0,⟨#[]⟩,true⟩ else if eqS s ⟨#[45]⟩ then⟨1,⟨#[]⟩,true⟩ else if eqS s ⟨#[60]⟩ then⟨3,⟨#[]⟩,true⟩ else zH5 s):=by show _=_;unfold zA3;rw[if_neg f]
 cases g:eqS s ⟨#[46]⟩ with
 |true=>
  have a:Hid (zA3 s=⟨0,⟨#[]⟩,true⟩):=by show _=_;rw[b.out,g];rfl
  have d:(s.toList==[46])=true:=by rw[<-m];exact g
  rw[a.out];go_in;go_wp2;refine gJ (v:=tuple #[iX 0,string ⟨#[]⟩,bool true]) (by simp[results,results163,go_sem]) rfl ?_;exact⟨rfl,Keep.refl _ _ _⟩
 |false=>
 have B:(s.toList==[46])=false:=by rw[<-m];exact g
 rw[g] at b;cases d:eqS s ⟨#[45]⟩ with
 |true=>
  have a:Hid (zA3 s=⟨1,⟨#[]⟩,true⟩):=by show _=_;rw[b.out,d];rfl
  have C:(s.toList==[45])=true:=by rw[<-o];exact d
  rw[a.out];go_in;go_wp2;refine gJ (v:=tuple #[iX 1,string ⟨#[]⟩,bool true]) (by simp[results,results163,go_sem]) rfl ?_;exact⟨rfl,Keep.refl _ _ _⟩
 |false=>
 have D:(s.toList==[45])=false:=by rw[<-o];exact d
 rw[d] at b;cases h:eqS s ⟨#[60]⟩ with
 |true=>
  have a:Hid (zA3 s=⟨3,⟨#[]⟩,true⟩):=by show _=_;rw[b.out,h];rfl
  have E:(s.toList==[60])=true:=by rw[<-p];exact h
  rw[a.out];go_in;go_wp2;refine gJ (v:=tuple #[iX 3,string ⟨#[]⟩,bool true]) (by simp[results,results163,go_sem]) rfl ?_;exact⟨rfl,Keep.refl _ _ _⟩
 |false=>
 have F:(s.toList==[60])=false:=by rw[<-p];exact h
 rw[h] at b;have t:=vl b;have u:0<s.size:=by omega
 have G:(0:Int)<(s.size:Int):=by omega
 have H:(1:Int)<=(s.size:Int):=by omega
 have I:=zFy s 0 u;have i:Hid (zH5 s=if byt s 0=62&&xI (s.extract 1 s.size) then⟨2,s.extract 1 s.size,true⟩ else⟨0,⟨#[]⟩,false⟩):=rfl;have q:Hid (∀w,Ca 160 #[string (s.extract 1 s.size)] w λe w'=>e=returned (bool (xI (s.extract 1 s.size)))/\w'=w):=λw=>vL w _ (by rw[ByteArray.size_extract];omega);rw[t.out];generalize xI (s.extract 1 s.size)=x at *;generalize zH5 s=y at *;generalize byt s 0=c at *;by_cases r:c=62
 ·subst r
  cases x with
  |true=>
   have a:=vl i;rw[a.out];go_in;go_wp2_with (first|(go_at_call 160;refine(q _).mono ?_;rintro e z ⟨rfl,j⟩;have k:=j.symm;subst k))
   go_quiet (fail);go_wp2;refine gJ (v:=tuple #[iX 2,string (s.extract 1 s.size),bool true]) (by simp[results,results163,go_sem]) rfl ?_;exact⟨rfl,Keep.alike (w':=w.drewN nq) ⟨rfl,rfl,rfl⟩⟩
  |false=>
   have a:=vl i;rw[a.out];go_in;go_wp2_with (first|(go_at_call 160;refine(q _).mono ?_;rintro e z ⟨rfl,j⟩;have k:=j.symm;subst k))
   refine gJ (v:=tuple #[iX 0,string ⟨#[]⟩,bool false]) (by simp[results,results163,go_sem]) rfl ?_;exact⟨rfl,Keep.refl _ _ _⟩
 ·have a:Hid (y=⟨0,⟨#[]⟩,false⟩):=by show _=_;rw[i.out,gG r];rfl
  have J:((c:Int) != 62)=true:=by simp;omega
  rw[a.out];go_in;go_wp2;refine gJ (v:=tuple #[iX 0,string ⟨#[]⟩,bool false]) (by simp[results,results163,go_sem]) rfl ?_;exact⟨rfl,Keep.refl _ _ _⟩
section
structure Rx where
 at_:Nat
 depth:Nat
 both:Bool
def RxAt (w:World)(b:Nat)(s:ByteArray)(dv:Value)(r:Rx):Prop:=w.heap[b]? =some (.cells #[string s,dv,int i64 (r.at_:Int),int i64 (r.depth:Int),bool r.both] 252)
namespace RxAt
variable {w w':World} {b:Nat} {s:ByteArray} {dv:Value} {r:Rx}
theorem lt (a:RxAt w b s dv r):b<w.heap.size:=(kQ.1 a).1
theorem cells (a:RxAt w b s dv r):w.cell? ⟨b,0,none⟩=some (string s)/\w.cell? ⟨b,1,none⟩=some dv/\w.cell? ⟨b,2,none⟩=some (iX (r.at_:Int))/\w.cell? ⟨b,3,none⟩=some (iX (r.depth:Int))/\w.cell? ⟨b,4,none⟩=some (bool r.both)/\∀i,w.frozen? ⟨b,i,none⟩=false:=by
 unfold RxAt at a;refine⟨?_,?_,?_,?_,?_,λi=>?_⟩
 all_goals first|(unfold cell?;rw[a];rfl)|(unfold frozen?;rw[a];simp)
theorem of_block (a:RxAt w b s dv r)(e:w'.heap[b]? =w.heap[b]?):RxAt w' b s dv r:=e.trans a
theorem setAt (a:RxAt w b s dv r)(q:Nat):RxAt (w.setCell ⟨b,2,none⟩ (iX (q:Int))) b s dv {r with at_:=q}:=by
 unfold RxAt at *;simp[setCell,lU,a]
end RxAt
theorem qH (w:World)(b:Nat)(s:ByteArray)(dv:Value)(r:Rx)(c:RxAt w b s dv r)(i:s.size<=1048576)(j:r.at_<=2000000)(k:Nat)(l:k<=1):
  Calls prog 200 #[pX b,iX (k:Int)] w λe w'=>e=returned (int .u8 (byt s (r.at_+k):Nat))/\w'=w:=by
 obtain⟨c0,-,c2,-,-,-⟩:=c.cells;by_cases d:r.at_+k<s.size
 ·have a:Hid (byt s (r.at_+k)=byt s (r.at_+k)):=rfl
  have f:¬((r.at_:Int)+(k:Int)<0):=by omega
  have g:(r.at_:Int)+(k:Int)<(s.size:Int):=by omega
  go_in;go_wp2;go_ret;exact⟨by rw[<-zFy s _ d];rfl,rfl⟩
 ·have a:Hid (byt s (r.at_+k)=0):=zKn s _ (by omega)
  have f:¬((r.at_:Int)+(k:Int)<0):=by omega
  have g:(s.size:Int)<=(r.at_:Int)+(k:Int):=by omega
  go_in;go_wp2;go_ret;exact⟨by rw[a.out];rfl,rfl⟩
def zK (s:ByteArray)(i:Nat)(t:ByteArray):Bool:=decide (i+t.size<=s.size)&&((s.extract i (i+t.size)).toList==t.toList)
def Rx.take (r:Rx)(s t:ByteArray):Rx:=if zK s r.at_ t then{r with at_:=r.at_+t.size} else r
theorem jI (w:World)(b:Nat)(s:ByteArray)(dv:Value)(r:Rx)(i:RxAt w b s dv r)(p:s.size<=1048576)(q:r.at_<=2000000)(t:ByteArray)(u:t.size<=1000000):
  Calls prog 189 #[pX b,string t] w λe w'=>e=returned (bool (zK s r.at_ t))/\RxAt w' b s dv (r.take s t)/\∀H,Keep H b w w':=by
 obtain⟨c0,-,c2,-,-,l⟩:=i.cells;have v:=l 2;have f:=vl i;have j:((r.at_:Int)+(t.size:Int)).toNat=r.at_+t.size:=by omega
 by_cases g:r.at_+t.size<=s.size
 ·have x:¬((s.size:Int)<(r.at_:Int)+(t.size:Int)):=by omega
  have m:(r.at_:Int)+(t.size:Int)<=(s.size:Int):=by omega
  have y:(0:Int)<=(r.at_:Int):=by omega
  have z:(r.at_:Int)<=(r.at_:Int)+(t.size:Int):=by omega
  cases d:((s.extract r.at_ (r.at_+t.size)).toList==t.toList) with
  |true=>
   have a:zK s r.at_ t=true:=by unfold zK;rw[dQ g,d];rfl
   have c:Hid (zK s r.at_ t=true/\r.take s t={r with at_:=r.at_+t.size}):=⟨a,by unfold Rx.take;rw[if_pos a]⟩
   have o:((s.extract r.at_ ((r.at_:Int)+(t.size:Int)).toNat).toList==t.toList)=true:=by rw[j];exact d
   go_in;go_wp2;go_quiet (fail);go_wp2;go_ret;refine⟨by rw[c.out.1];rfl,?_,λH=>Keep.drewSet w _ _ _⟩;rw[c.out.2];have k:=(RxAt.of_block (w':=w.drewN nq) f rfl).setAt (r.at_+t.size);rw[show ((r.at_+t.size:Nat):Int)=(r.at_:Int)+(t.size:Int) by omega] at k;exact k
  |false=>
   have a:zK s r.at_ t=false:=by unfold zK;rw[dQ g,d];rfl
   have c:Hid (zK s r.at_ t=false/\r.take s t=r):=⟨a,by unfold Rx.take;rw[if_neg (by rw[a];decide)]⟩
   have o:((s.extract r.at_ ((r.at_:Int)+(t.size:Int)).toNat).toList==t.toList)=false:=by rw[j];exact d
   go_in;go_wp2;go_quiet (fail);go_wp2;go_ret;exact⟨by rw[c.out.1];rfl,by rw[c.out.2];exact RxAt.of_block f rfl,λH=>Keep.alike (w':=w.drewN nq) ⟨rfl,rfl,rfl⟩⟩
 ·have a:zK s r.at_ t=false:=by unfold zK;rw[gG g];rfl
  have c:Hid (zK s r.at_ t=false/\r.take s t=r):=⟨a,by unfold Rx.take;rw[if_neg (by rw[a];decide)]⟩
  have m:(s.size:Int)<(r.at_:Int)+(t.size:Int):=by omega
  go_in;go_wp2;go_quiet (fail);go_wp2;go_ret;exact⟨by rw[c.out.1];rfl,by rw[c.out.2];exact RxAt.of_block f rfl,λH=>Keep.alike (w':=w.drewN nq) ⟨rfl,rfl,rfl⟩⟩
end
def xZ (c:Nat):Bool:=xH c&&decide (c<=52)
def zA2 (c:Nat):Int:=if xZ c then(c:Int)-48 else -1
def Rx.on (r:Rx)(k:Bool):Rx:=if k then{r with at_:=r.at_+1} else r
theorem zEb (w:World)(b:Nat)(s:ByteArray)(dv:Value)(r:Rx)(m:RxAt w b s dv r)(u:s.size<=1048576)(v:r.at_<=2000000):
  Calls prog 214 #[pX b] w λe w'=>e=returned (iX (zA2 (byt s r.at_)))/\RxAt w' b s dv (r.on (xZ (byt s r.at_)))/\∀H,Keep H b w w':=by
 obtain⟨-,-,c2,-,-,x⟩:=m.cells;have A:=x 2;have o:=vl m;have p:=vl <| qH w b s dv r m u v 0 (by omega);have B:=zAs s r.at_;generalize byt s r.at_=c at *;have k:Hid (∀w,Ca 206 #[int .u8 (c:Int)] w λe w'=>e=returned (bool (xH c))/\w'=w):=λw=>zAg w c;cases i:xH c with
 |false=>
  have f:xZ c=false:=by unfold xZ;rw[i];rfl
  have g:Hid (zA2 c=-1/\r.on (xZ c)=r):=⟨by unfold zA2;rw[if_neg (by rw[f];decide)],by unfold Rx.on;rw[if_neg (by rw[f];decide)]⟩
  rw[i] at k;have l:=vl k;go_in;go_wp2_with (first|(go_at_call 200;refine p.mono ?_;rintro e j ⟨rfl,a⟩;have d:=a.symm;subst d)|(go_at_call 206;refine(l _).mono ?_;rintro e j ⟨rfl,a⟩;have d:=a.symm;subst d))
  go_ret;exact⟨by rw[g.out.1];rfl,by rw[g.out.2];exact o,λH=>Keep.refl _ _ _⟩
 |true=>
  have C:48<=c/\c<=57:=by unfold xH at i;simpa using i
  rw[i] at k;have l:=vl k;have y:IntKind.u8.wrap ((c:Int)-48)=(c:Int)-48:=by rw[IntKind.wrap_u8];omega
  by_cases q:c<=52
  ·have f:xZ c=true:=by unfold xZ;rw[i,dQ q];rfl
   have g:Hid (zA2 c=(c:Int)-48/\r.on (xZ c)={r with at_:=r.at_+1}):=⟨by unfold zA2;rw[if_pos f],by unfold Rx.on;rw[if_pos f]⟩
   have z:(c:Int)-48<=4:=by omega
   go_in;go_wp2_with (first|(go_at_call 200;refine p.mono ?_;rintro e j ⟨rfl,a⟩;have d:=a.symm;subst d)|(go_at_call 206;refine(l _).mono ?_;rintro e j ⟨rfl,a⟩;have d:=a.symm;subst d))
   go_ret;refine⟨by rw[g.out.1];first|rfl|(simp [y];done)|(simp;omega),?_,λH=>Keep.set _ _ _⟩;rw[g.out.2];have t:=o.setAt (r.at_+1);rw[show ((r.at_+1:Nat):Int)=(r.at_:Int)+1 by omega] at t;exact t
  ·have f:xZ c=false:=by unfold xZ;rw[i,gG q];rfl
   have g:Hid (zA2 c=-1/\r.on (xZ c)=r):=⟨by unfold zA2;rw[if_neg (by rw[f];decide)],by unfold Rx.on;rw[if_neg (by rw[f];decide)]⟩
   have z:4<(c:Int)-48:=by omega
   go_in;go_wp2_with (first|(go_at_call 200;refine p.mono ?_;rintro e j ⟨rfl,a⟩;have d:=a.symm;subst d)|(go_at_call 206;refine(l _).mono ?_;rintro e j ⟨rfl,a⟩;have d:=a.symm;subst d))
   go_ret;exact⟨by rw[g.out.1];rfl,by rw[g.out.2];exact o,λH=>Keep.refl _ _ _⟩
def zBG (s:ByteArray)(i:Nat):Bool:=decide (s.size<=i)||(byt s i==124||byt s i==41)
theorem zFO (w:World)(b:Nat)(s:ByteArray)(dv:Value)(r:Rx)(d:RxAt w b s dv r)(k:s.size<=1048576)(l:r.at_<=2000000):
  Calls prog 194 #[pX b] w λe w'=>e=returned (bool (zBG s r.at_))/\∀H c,Keep H c w w':=by
 obtain⟨c0,-,c2,-,-,-⟩:=d.cells;by_cases f:s.size<=r.at_
 ·have a:Hid (zBG s r.at_=true):=by show _=_;unfold zBG;rw[dQ f];rfl
  have m:(r.at_:Int)>=(s.size:Int):=by omega
  go_in;go_wp2;go_quiet (fail);go_wp2;go_ret;exact⟨by rw[a.out];rfl,λH c=>Keep.alike (w':=w.drewN nq) ⟨rfl,rfl,rfl⟩⟩
 ·have a:Hid (zBG s r.at_=(byt s r.at_==124||byt s r.at_==41)):=by show _=_;unfold zBG;rw[gG f];rfl
  have m:(r.at_:Int)<(s.size:Int):=by omega
  have g:Hid (∀nq,Ca 200 #[pX b,iX 0] (w.drewN nq) λe w'=>e=returned (int .u8 (byt s r.at_:Nat))/\w'=w.drewN nq):=λnq=>qH (w.drewN nq) b s dv r (RxAt.of_block d rfl) k l 0 (by omega);generalize byt s r.at_=c at *;by_cases i:c=124
  ·subst i
   go_in;go_wp2;go_quiet (fail);go_wp2_with (first|(go_at_call 200;refine(g _).mono ?_;rintro e o ⟨rfl,p⟩))
   go_ret;exact⟨by rw[a.out];rfl,λH c=>Keep.alike (w':=w.drewN nq) ⟨rfl,rfl,rfl⟩⟩
  ·have u:((c:Int)==124)=false:=by rw[hZ];omega
   have q:(c==124)=false:=by rw[hZ];exact i
   have t:Hid (zBG s r.at_=((c:Int)==41)):=by
    show _=_;rw[a.out,q,Bool.false_or];by_cases j:c=41
    ·rw[j];rfl
    ·rw[show (c==41)=false by rw[hZ];exact j,show((c:Int)==41)=false by rw[hZ];omega]
   go_in;go_wp2;go_quiet (fail);go_wp2_with (first|(go_at_call 200;refine(g _).mono ?_;rintro e o ⟨rfl,p⟩))
   go_ret;exact⟨by rw[t.out];rfl,λH c=>Keep.alike (w':=w.drewN nq) ⟨rfl,rfl,rfl⟩⟩
def zAO (s:ByteArray)(i:Nat):Nat->Nat
 |0=>0
 |j+1=>zAO s i j*16+(jA (byt s (i+j))).toNat
def yJ (s:ByteArray)(i most:Nat):Nat:=(List.range most).findIdx λj=>decide (jA (byt s (i+j))<0)
theorem zKj (c:Nat):jA c<16/\ -1<=jA c:=by
 unfold jA;by_cases a:xH c=true
 ·have b:48<=c/\c<=57:=by unfold xH at a;simpa using a
  rw[if_pos a];omega
 ·rw[if_neg a]
  split <;> omega
theorem zKh (s:ByteArray)(i j:Nat):zAO s i j<16^j:=by
 induction j with
 |zero=>exact Nat.one_pos
 |succ j a=>
  have:=(zKj (byt s (i+j))).1;show zAO s i j*16+(jA (byt s (i+j))).toNat<16^(j+1);rw[Nat.pow_succ];omega
theorem zNm (s:ByteArray)(i most j:Nat)(a:j<most)(b:jA (byt s (i+j))<0)(c:∀k,k<j->0<=jA (byt s (i+k))):yJ s i most=j:=
 zDe _ _ j (by rw[List.length_range];exact a) (by rw[qQ _ _ a];exact dQ b) λk d=>by rw[qQ _ _ (by omega)];exact gG (by have:=c k d;omega)
theorem zMp (s:ByteArray)(i most:Nat)(c:∀k,k<most->0<=jA (byt s (i+k))):yJ s i most=most:=by
 have b:=zBc (List.range most) (λj=>decide (jA (byt s (i+j))<0)) λk a=>by
  rw[List.length_range] at a;rw[qQ _ _ a];exact gG (by have:=c k a;omega)
 rw[List.length_range] at b;exact b
theorem zK8 (w:World)(b:Nat)(s:ByteArray)(dv:Value)(r:Rx)(l:RxAt w b s dv r)(B:s.size<=1048576)(Y:r.at_<=1900000)(most:Nat)(aa:most<=6):
  Calls prog 216 #[pX b,iX (most:Int)] w λe w'=>e=returned (tuple #[iX (zAO s r.at_ (yJ s r.at_ most):Nat),iX (yJ s r.at_ most:Nat)])/\RxAt w' b s dv {r with at_:=r.at_+yJ s r.at_ most}/\∀H,Keep H b w w':=by
 have C:=vl l;have D:Hid (∀j,j<=most->zAO s r.at_ j<=16777216):=λj E=>Nat.le_of_lt (lZ (zKh s r.at_ j) (kG (by omega) (by omega:j<=6)));have F:Hid (∀j,j<most->jA (byt s (r.at_+j))<0->(∀k,k<j->0<=jA (byt s (r.at_+k)))->yJ s r.at_ most=j):=λj=>zNm s r.at_ most j;have G:=vl <| zMp s r.at_ most;have I:Hid (∀j,zAO s r.at_ (j+1)=zAO s r.at_ j*16+(jA (byt s (r.at_+j))).toNat):=λj=>rfl;have J:Hid (zAO s r.at_ 0=0):=rfl;generalize ab:zAO s r.at_=o at *;go_in;go_wp2;go_loopg [6,7] most (λq n i wr=>∃j:Nat,q=most-j/\j<=most/\n=iX (o j:Int)/\i=iX (j:Int)/\(∀k,k<j->0<=jA (byt s (r.at_+k)))/\RxAt wr b s dv {r with at_:=r.at_+j}/\∀H,Keep H b w wr)
 case atStart=>exact⟨0,rfl,lX,by rw[J.out];rfl,rfl,λk v=>by omega,C,λH=>Keep.refl _ _ _⟩
 case round=>
  obtain⟨j,K,E,rfl,rfl,x,p,L⟩:=hrel;have a:Hid (gk=most-j/\(∀k,k<j->0<=jA (byt s (r.at_+k)))/\RxAt wr b s dv {r with at_:=r.at_+j}/\∀H,Keep H b w wr):=⟨K,x,p,L⟩
  by_cases M:j<most
  ·have N:(j:Int)<(most:Int):=by omega
   have O:=qH wr b s dv {r with at_:=r.at_+j} p B (by show r.at_+j<=2000000;omega) 0 (by omega);have y:=vl O;have z:Hid (∀w2,Ca 220 #[int .u8 (byt s (r.at_+j):Nat)] w2 λe w'=>e=returned (iX (jA (byt s (r.at_+j))))/\w'=w2):=λw2=>zFj w2 _ (zAs s _);obtain⟨-,-,c2,-,-,P⟩:=p.cells;have Q:=c2;have ac:=P 2;have ad:=zKj (byt s (r.at_+j));have R:Hid (jA (byt s (r.at_+j))<0->yJ s r.at_ most=j):=λl=>F j M l a.2.1;have S:Hid (0<=jA (byt s (r.at_+j))->∀k,k<j+1->0<=jA (byt s (r.at_+k))):=λl k v=>by
    by_cases e:k=j
    ·rw[e];exact l
    ·exact a.2.1 k (by omega)
   have T:=vl <| I j;have ae:=D j (by omega);have A:=vl <| p.setAt (r.at_+(j+1));generalize jA (byt s (r.at_+j))=t at *;generalize byt s (r.at_+j)=c at *;by_cases U:t<0
   ·have m:=vl <| R U
    go_wp2_with (first|(go_at_call 200;refine y.mono ?_;rintro e u ⟨rfl,f⟩;have g:=f.symm;subst g)|(go_at_call 220;refine(z _).mono ?_;rintro e u ⟨rfl,f⟩;have g:=f.symm;subst g))
    refine gJ (results_tmp2 rfl _ _ _) rfl ?_;exact⟨by rw[m.out];rfl,by rw[m.out];exact a.2.2.1,a.2.2.2⟩
   ·have V:=vl <| S (by omega)
    have af:0<=t:=by omega
    have W:Hid ((o (j+1):Int)=(o j:Int)*16+t):=by show _=_;rw[T.out];omega
    have ag:wr.cell? ⟨b,2,none⟩=some (iX ((r.at_:Int)+(j:Int))):=by rw[Q];congr 2
    have X:Hid (((r.at_+(j+1):Nat):Int)=(r.at_:Int)+(j:Int)+1):=by show _=_;omega
    rw[X.out] at A;generalize o j=ah at *;go_wp2_with (first|(go_at_call 200;refine y.mono ?_;rintro e u ⟨rfl,f⟩;have g:=f.symm;subst g)|(go_at_call 220;refine(z _).mono ?_;rintro e u ⟨rfl,f⟩;have g:=f.symm;subst g))
    go_roundg (most-(j+1))
    case measure=>rw[a.out.1];omega
    case rel=>exact⟨j+1,rfl,by omega,by rw[W.out],by go_num,V,A,λH=>(a.2.2.2 H).trans (Keep.set _ _ _)⟩
  ·have N:(most:Int)<=(j:Int):=by omega
   have e:j=most:=by omega
   have m:=vl <| G λk v=>x k (by omega);subst e;go_wp2;refine gJ (results_tmp2 rfl _ _ _) rfl ?_;exact⟨by rw[m.out];rfl,by rw[m.out];exact a.2.2.1,a.2.2.2⟩
end Go.Proofs.YtbjcfkdnjaiclaaGreat
