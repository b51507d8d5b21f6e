import Derived.Deep.DrawnRows
import Derived.Deep.RegionHeld3
import Derived.Deep.RegionLaw
import Derived.Test.YtbjcfkdnjaiclaaGreatO0
import Derived.Test.YtbjcfkdnjaiclaaGreatO2
/- Parts of the proof. -/
set_option linter.unusedVariables false
set_option linter.unusedSimpArgs false
set_option maxHeartbeats 4000000
set_option maxRecDepth 100000
namespace Go.Proofs.YtbjcfkdnjaiclaaGreat
open Go.RowKit Go.Proofs.Tryz Go.World
open Go.Value (int slice bool pointer string agg tuple)
open Go.IntKind (i64)
open Go.Ending (returned)
section
attribute [local go_sem ↓] Go.wp_at_zero Go.wp_at_succ
theorem zOd:(prog.info? 139).map (λi=>(i.zero,i.size,i.bytes))=some (some (agg #[zX,zX,string ⟨#[]⟩,string ⟨#[]⟩,string ⟨#[]⟩,string ⟨#[]⟩,string ⟨#[]⟩]),7,96):=by kernel_rfl
theorem zNC (w:World):Rp w ((w.alloc (.cells #[nX,nX,nX,zX,bool false,zX] 30)).alloc (.cells #[nX,nX,nX,zX,bool false,zX] 30)) nX nX nX 0 [] [] [] 0:=by
 have a:=gY w (.cells #[nX,nX,nX,zX,fX,zX] 30);refine⟨?_,?_,ownsRow_nil _ _ _ _,ownsRow_nil _ _ _ _,ownsRow_nil _ _ _ _,λg b=>by simp[Value.ownBlock] at b,(kZ _ _ lQ).trans (kZ _ _ (by simp)),by simp⟩
 ·exact(lG _ _ _ (by simp)).trans a
 ·have c:=gY (w.alloc (.cells #[nX,nX,nX,zX,fX,zX] 30)) (.cells #[nX,nX,nX,zX,fX,zX] 30)
  simpa using c
theorem zBv (w:World)(l:List Value)(t:TypeId)(g:Nat)(a:w.heap.size=g):∀j u,l[j]? =some u->(w.alloc (.cells l.toArray t)).cell? ((⟨g,0,none⟩:Addr).add j)=some u:=by
 intro j u b;subst a;rw[Addr.add_lit];unfold cell?;rw[gY];simpa using b
structure Mx (w:World)(q:Nat)(u0 u1 u3:Value)(m:Sm):Prop where
 blk:w.heap[q]? =some (.cells #[u0,u1,int i64 m.start,u3] 134)
 lt:q<w.heap.size
theorem Mx.cells {w:World}{q:Nat}{a b c:Value}{m:Sm}(d:Mx w q a b c m):w.cell? ⟨q,0,none⟩=some a/\w.cell? ⟨q,1,none⟩=some b/\w.cell? ⟨q,2,none⟩=some (iX m.start)/\w.cell? ⟨q,3,none⟩=some c:=by
 refine⟨?_,?_,?_,?_⟩ <;> ·unfold cell?;rw[d.blk];rfl
theorem Mx.grown {w w':World}{q:Nat}{b c d:Value}{m:Sm}(a:Mx w q b c d m)(e:Grew w w'):Mx w' q b c d m:=⟨(e.block q a.lt (kJ a.lt)).trans a.blk,lZ a.lt e.size⟩
theorem Mx.app {w w2:World}{o:Obj}{H e g n q i p:Nat}{v x b c d:Value}{m:Sm}{xs:List Value}(a:Mx w q b c d m)(j:w.ownsRow H e g v n xs)(k:e≠134)(f:(w.alloc o).grownBy w2 v.ownBlock)(l:q≠p):Mx (w2.setCell ⟨p,i,none⟩ x) q b c d m:=by
 have r:=a.lt;refine⟨(lJ _ _ _ _ l).trans ((f.block q (by simp;omega) (zO j a.blk k)).trans ((lG _ _ _ a.lt).trans a.blk)),?_⟩;rw[zD];exact lZ r (lY (by simp) f.size)
theorem zHS (w:World)(mv:Value)(ms:List Sm)(hM:ModesAt w (In w) mv ms)(hms:ModesOk ms)(kinds:Nat)(hk:kinds<=256)(force:Bool):
  Calls prog 46 #[mv,iX kinds,bool force] w λe w'=>∃mo sh em,e=returned (agg #[mo,sh,em,iX (aheadTo ms ms.length),bool (!force&&yB (aheadTo ms ms.length) kinds),zX])/\OwnB w' w.heap.size sh (qU ms ms.length)/\OwnB w' w.heap.size em (jP ms ms.length)/\Grew w w'/\∃a n c,mo=slice a n c:=by
 obtain⟨i0,hi0,hz0,hz1,hz2⟩:=info_parts zOd;obtain⟨ib,hib,hb0,hb1,hb2⟩:=info_parts vL;obtain⟨am,cm,rfl,hcm,hmm,hmc⟩:=hM;have h3:=hms.three;have HMC:Hid (∀i (hi:i<ms.length),∃b o u0 u1 u3,am=some ⟨b,o,none⟩/\In w b/\w.cell? ⟨b,o+i*4,none⟩=some u0/\w.cell? ⟨b,o+i*4+1,none⟩=some u1/\w.cell? ⟨b,o+i*4+2,none⟩=some (iX ms[i].start)/\w.cell? ⟨b,o+i*4+3,none⟩=some u3/\IntRows w (In w) u0 ms[i].next/\Ints w (In w) u1 ms[i].rules/\Bools w (In w) u3 ms[i].empty):=hmc;have HOK:Hid (ModesOk ms):=hms;have h0:=zNC w;clear hmc hms;go_enter func46,ntmps46
 refine wp_seq_k ?_;intro K0 hK0;have HK0:Hid (∀a w,_->K0 a w):=hK0;clear hK0;go_wp2_with fail;apply HK0.out;clear HK0;refine wp_seq_k ?_;intro K0 hK0;have HK0:Hid (∀a w,_->K0 a w):=hK0;clear hK0;go_wp2_with fail;apply HK0.out;clear HK0;generalize (w.alloc (.cells #[nX,nX,nX,zX,fX,zX] 30)).alloc (.cells #[nX,nX,nX,zX,fX,zX] 30)=w1 at *;have H0:Hid (Rp w w1 nX nX nX 0 [] [] [] 0):=h0;clear h0;go_wp2_with fail;go_loopg [16] ms.length (λq i wr=>∃(j:Nat) (mv sv ev:Value) (xs:List Value),q=ms.length-j/\j<=ms.length/\i=iX (j:Int)/\Rp w wr mv sv ev j xs (qU ms j) (jP ms j) (aheadTo ms j))
 case atStart=>exact⟨0,_,_,_,_,rfl,lX,rfl,H0⟩
 case round=>
  obtain⟨j,mv,sv,ev,xs,hgk,hj,rfl,hR⟩:=hrel;have HA:Hid (gk=ms.length-j/\Rp w wr mv sv ev j xs (qU ms j) (jP ms j) (aheadTo ms j)):=⟨hgk,hR⟩
  by_cases hj2:j<ms.length
  ·have i1:(j:Int)<(ms.length:Int):=by omega
   obtain⟨b,o,u0,u1,u3,rfl,hb,c0,c1,c2,c3,d0,d1,d3⟩:=HMC j hj2;obtain⟨an,cn,rfl,-⟩:=id d0;obtain⟨ar,cr,rfl,-⟩:=id d1;have y0:=zA c0 hb hR.keep;have y1:=zA c1 hb hR.keep;have y2:=zA c2 hb hR.keep;have y3:=zA c3 hb hR.keep;obtain⟨m,hm⟩:∃m,m=ms[j]:=⟨_,rfl⟩
   rw[<-hm] at y0 y1 y2 d0 d1 d3;have HT:Hid (TblAt w (slice an m.next.length cn) (slice ar m.rules.length cr) m/\m.Tbl/\Bools w (In w) u3 m.empty/\0<=m.start/\m.start<m.next.length/\m=ms[j]/\ms.getD j ⟨[],[],0,[]⟩=m):=⟨⟨d0,d1⟩,by rw[hm];exact HOK.tbl j hj2,d3,by rw[hm];exact(HOK.start j hj2).1,by rw[hm];exact(HOK.start j hj2).2,hm,by rw[hm,lW,lV hj2];rfl⟩
   clear c0 c1 c2 c3 d0 d1 d3 hm hgk hR;refine wp_seq_k ?_;intro K0 hK0;have HK0:Hid (∀a w,_->K0 a w):=hK0;clear hK0;go_wp2_with fail;apply HK0.out;clear HK0;obtain⟨st,hst⟩:∃st:Nat,m.start=(st:Int):=⟨m.start.toNat,by have:=HT.2.2.2.1;omega⟩
   have HS:Hid (m.start=(st:Int)/\st<m.next.length):=⟨hst,by have:=HT.2.2.2.2.1;omega⟩
   clear hst;obtain⟨ae,ce,rfl,he1,he2,he3⟩:=HT.2.2.1;have HE:Hid (∀i,i<m.empty.length->∃b o,ae=some ⟨b,o,none⟩/\In w b/\w.cell? ⟨b,o+i,none⟩=some (bool (m.empty.getD i false))):=he3;clear he3;have HTM:Hid (∀w',Grew w w'->Ca 67 #[agg #[slice an m.next.length cn,slice ar m.rules.length cr,iX m.start]] w' λe w2=>∃a b x y z:ByteArray,e=returned (agg #[iX m.next.length,iX (yO m),string a,string b,string x,string y,string z])/\Grew w' w2):=λw' hk=>zFo w' _ _ m (HT.1.grown hk) HT.2.1 st HS.1 HS.2;obtain⟨amv,cmv,hmv⟩:=zF HA.2.modes;subst hmv;have hlr:=HA.2.lt;have HNM:Hid (∀w5:World,Keep (wr.alloc (.cells #[slice an m.next.length cn,slice ar m.rules.length cr,iX m.start,slice ae m.empty.length ce] 134)).heap.size (wr.alloc (.cells #[slice an m.next.length cn,slice ar m.rules.length cr,iX m.start,slice ae m.empty.length ce] 134)).heap.size (wr.alloc (.cells #[slice an m.next.length cn,slice ar m.rules.length cr,iX m.start,slice ae m.empty.length ce] 134)) w5->some w5.heap.size≠Value.ownBlock (slice amv j cmv)):=λw5 h e=>by
    have h1:=(HA.2.modes.lt _ e.symm).2;have h2:=h.size;simp at h2;omega
   go_wp2_with (first|(go_at_call 67;refine(HTM _ (HA.2.keep.trans (kZ _ _ (by omega)))).mono ?_;rintro e w5 ⟨a,b',x,y,z,rfl,hk5⟩;have R5:Rp w (w5.alloc (.cells #[iX m.next.length,iX (yO m),string a,string b',string x,string y,string z] 139)) (slice amv j cmv) sv ev j xs (qU ms j) (jP ms j) (aheadTo ms j):=((HA.2.grown (kZ _ _ lQ)).grown hk5).grown (kZ _ _ lQ);obtain⟨⟨r0,r1,r2,r3,r4,r5⟩,rf⟩:=R5.cells;clear r1 r2 r3 r4 r5 rf;have hl5:w.heap.size+2<=w5.heap.size:=lY (by simp;omega) hk5.size;have M5:Mx w5 wr.heap.size (slice an m.next.length cn) (slice ar m.rules.length cr) (slice ae m.empty.length ce) m:=Mx.grown ⟨gY wr _,by simp⟩ hk5)|(at_builtin;refine wpList_append_lies _ rfl _ _ 27 rfl (w.heap.size+2) 139 i0 (agg #[zX,zX,string ⟨#[]⟩,string ⟨#[]⟩,string ⟨#[]⟩,string ⟨#[]⟩,string ⟨#[]⟩]) 7 96 underlying27 hi0 hz0 hz1 hz2 rfl (by decide) _ _ _ rfl (R5.modes.alloc _) ⟨w5.heap.size+1,0,none⟩ 1 1 [iX m.next.length,iX (yO m),string a,string b',string x,string y,string z] rfl rfl (zBv _ [iX m.next.length,iX (yO m),string a,string b',string x,string y,string z] _ _ (by simp)) (by intro u hu;simp at hu;rcases hu with rfl|rfl|rfl|rfl|rfl|rfl|rfl <;> rfl) (by decide) (by unfold maxLen;omega) (by omega) (by simp;omega) _ rfl ?_;intro gg cap w7 hown hgrow hat hlt2;have hbR:w7.heap[w.heap.size+1]? =(w5.alloc (.cells #[iX m.next.length,iX (yO m),string a,string b',string x,string y,string z] 139)).heap[w.heap.size+1]? :=(hgrow.block _ (by simp;omega) (λe=>by have:=(R5.modes.lt _ e.symm).1;omega)).trans (lG _ _ _ (by simp;omega));have s0:w7.cell? ⟨w.heap.size+1,0,none⟩=some (slice amv j cmv):=(gW hbR).trans r0;have f0:w7.frozen? ⟨w.heap.size+1,0,none⟩=false:=(gV hbR).trans (R5.cells.2 0);have R8:=Rp.modes_app R5 hown hgrow;have M8:=Mx.app (p:=w.heap.size+1) (i:=0) (x:=slice (qX gg) (j+1) cap) (M5.grown (kZ _ (.cells #[iX m.next.length,iX (yO m),string a,string b',string x,string y,string z] 139) lQ)) R5.modes (by decide) hgrow (by omega);have t3:(w7.setCell ⟨w.heap.size+1,0,none⟩ (slice (qX gg) (j+1) cap)).cell? ⟨w.heap.size+1,3,none⟩=some (iX (aheadTo ms j)):=R8.cells.1.2.2.2.1;have f3:(w7.setCell ⟨w.heap.size+1,0,none⟩ (slice (qX gg) (j+1) cap)).frozen? ⟨w.heap.size+1,3,none⟩=false:=R8.cells.2 3;have hbM:(w7.setCell ⟨w.heap.size+1,0,none⟩ (slice (qX gg) (j+1) cap)).heap[w5.heap.size]? =(w5.alloc (.cells #[iX m.next.length,iX (yO m),string a,string b',string x,string y,string z] 139)).heap[w5.heap.size]? :=(lJ _ _ _ _ (by show w5.heap.size≠w.heap.size+1;omega)).trans ((hgrow.block _ (by simp;omega) (HNM w5 hk5)).trans (lG _ _ _ (by simp)));have t1:(w7.setCell ⟨w.heap.size+1,0,none⟩ (slice (qX gg) (j+1) cap)).cell? ⟨w5.heap.size,1,none⟩=some (iX (yO m)):=(gW hbM).trans (by unfold cell?;rw[gY];rfl);have M9:((w7.setCell ⟨w.heap.size+1,0,none⟩ (slice (qX gg) (j+1) cap)).setCell ⟨w.heap.size+1,3,none⟩ (iX (qC (aheadTo ms j) (yO m)))).cell? ⟨wr.heap.size,3,none⟩=some (slice ae m.empty.length ce):=(gW (lJ _ _ _ _ (by show wr.heap.size≠w.heap.size+1;omega))).trans M8.cells.2.2.2)|(go_at_call 68;refine(zIh _ (aheadTo ms j) (yO m)).mono ?_;rintro e w9 ⟨rfl,rfl⟩))
   have A9:∃mv2 xs2 w9,w9=((w7.setCell ⟨w.heap.size+1,0,none⟩ (slice (qX gg) (j+1) cap)).setCell ⟨w.heap.size+1,3,none⟩ (iX (qC (aheadTo ms j) (yO m))))/\Hid (Rp w w9 mv2 sv ev (j+1) xs2 (qU ms j) (jP ms j) (aheadTo ms (j+1))/\Mx w9 wr.heap.size (slice an m.next.length cn) (slice ar m.rules.length cr) (slice ae m.empty.length ce) m):=by
    have e:aheadTo ms (j+1)=qC (aheadTo ms j) (yO m):=by rw[<-HT.out.2.2.2.2.2.2];rfl
    rw[e];exact⟨_,_,_,rfl,R8.ahead _,⟨(lJ _ _ _ _ (by show wr.heap.size≠w.heap.size+1;omega)).trans M8.blk,by rw[zD];exact M8.lt⟩⟩
   obtain⟨mv2,xs2,w9,hw9,A9⟩:=A9;rw[<-hw9];clear hw9 M9 t1 hbM f3 t3 M8 R8 f0 s0 hbR hown hgrow hat M5 R5 r0 y0 y1 y2 y3;have hrl:zW ms (j+1)=zW ms j+m.empty.length:=by rw[<-HT.out.2.2.2.2.2.2];rfl
   have hr8:zW ms j+m.empty.length<=8:=by
    have h1:=zBF ms (j+1) ms.length hj2;have h2:=HOK.rules8;omega
   have HSL:Hid ((qU ms j).length=zW ms j/\(jP ms j).length=zW ms j):=⟨zKn ms j,zM2 ms j⟩
   clear hrl HNM HTM hk5 hl5;have hq1:w.heap.size+1≠wr.heap.size:=by omega
   generalize hqb:wr.heap.size=qb at *;clear hqb;go_loopg [38] m.empty.length (λq i wt=>∃(k:Nat) (sv ev:Value),q=m.empty.length-k/\k<=m.empty.length/\i=iX (k:Int)/\Rp w wt mv2 sv ev (j+1) xs2 (qU ms j++zAH m k) (jP ms j++m.empty.take k) (aheadTo ms (j+1))/\Mx wt qb (slice an m.next.length cn) (slice ar m.rules.length cr) (slice ae m.empty.length ce) m)
   case atStart=>exact⟨0,sv,ev,rfl,lX,rfl,by rw[zAH,List.take_zero];simpa using A9.1,A9.2⟩
   case round=>
    obtain⟨k,sv,ev,hgk,hk2,rfl,hR,hM⟩:=hrel;have HB:Hid (gk=m.empty.length-k/\Rp w wr mv2 sv ev (j+1) xs2 (qU ms j++zAH m k) (jP ms j++m.empty.take k) (aheadTo ms (j+1))/\Mx wr qb (slice an m.next.length cn) (slice ar m.rules.length cr) (slice ae m.empty.length ce) m):=⟨hgk,hR,hM⟩
    by_cases hk3:k<m.empty.length
    ·have i2:(k:Int)<(m.empty.length:Int):=by omega
     obtain⟨be,oe,rfl,hbe,hce⟩:=HE k hk3;have ye:wr.cell? ⟨be,oe+k,none⟩=some (bool (m.empty.getD k false)):=zA hce hbe hR.keep;obtain⟨ek,hek⟩:∃ek,m.empty.getD k false=ek:=⟨_,rfl⟩
     rw[hek] at ye;have HEK:Hid (m.empty.getD k false=ek):=hek;clear hek;obtain⟨q0,q1,q2,q3⟩:=hM.cells;obtain⟨⟨r0,r1,r2,r3,r4,r5⟩,rf⟩:=hR.cells;obtain⟨as_,cs,hsv⟩:=hR.shad.form;obtain⟨ae2,ce2,hev⟩:=hR.emp.form;have hls:(qU ms j++zAH m k).length=zW ms j+k:=by rw[kX,HSL.out.1];simp[zAH]
     have hle:(jP ms j++m.empty.take k).length=zW ms j+k:=by rw[kX,HSL.out.2,List.length_take];omega
     rw[hls] at hsv;rw[hle] at hev;subst hsv hev;generalize hns:zW ms j+k=ns at *;have hn8:ns<=8:=by omega
     generalize hsl:qU ms j++zAH m k=sl at *;generalize hel:jP ms j++m.empty.take k=el at *;have HLL:Hid (sl.length=ns/\el.length=ns/\qU ms j++zAH m k=sl/\jP ms j++m.empty.take k=el):=⟨hls,hle,hsl,hel⟩
     clear hsl hel hls hle hns;have HHR:Hid (∀w',Grew w w'->Ca 69 #[agg #[slice an m.next.length cn,slice ar m.rules.length cr,iX m.start],iX ((k:Nat):Int)] w' λe w2=>e=returned (bool (hasRuleB m k))/\Grew w' w2):=λw' hk=>zGM w' _ _ m (HT.1.grown hk) HT.2.1 k;have f1:=rf 1;have hlr:=hR.lt;clear r0 r3 r4 r5 r2 q3 rf hgk hce;clear hR hM;have HB2:Hid (∀w5,Grew wr.drew w5->Rp w w5 mv2 (slice as_ ns cs) (slice ae2 ns ce2) (j+1) xs2 sl el (aheadTo ms (j+1))/\Mx w5 qb (slice an m.next.length cn) (slice ar m.rules.length cr) (slice (some ⟨be,oe,none⟩) m.empty.length ce) m/\w5.ownsRow (w.heap.size+2) 4 1 (slice as_ ns cs) ns (sl.map λx=>bool x)/\wr.heap.size<=w5.heap.size):=by
      intro w5 h;have h':=HB.2.1.drew.grown h;refine⟨h',(HB.2.2.grown (Keep.drew _)).grown h,?_,h.size⟩;have h2:=h'.shad;unfold OwnB at h2;rw[HLL.out.1] at h2;exact h2
     go_wp2_with fail;go_region_law ((first
      |(refine step_append_lies _ (by rfl) (.tmp 44) (.tmp 50) 28 (by rfl) (w.heap.size+2) 4 ib _ 1 1 underlying28 hib hb0 hb1 hb2 rfl (by decide) (slice as_ ns cs) ns (sl.map λx=>bool x) (by simp[Act.eval,Act.put]) (O5.alloc _) ⟨w5.heap.size,0,none⟩ 1 1 [bool (!hasRuleB m k)] (by simp[Act.eval,Act.put]) (by rfl) (news_of_block (cs:=#[bool (!hasRuleB m k)]) (t:=4) (fr:=(0,0)) (gY w5 _)) (by simp[Value.oneCell']) (by decide) (by unfold maxLen;omega) (by omega) (by simp;omega) (w5.heap.size+1) (by simp) ?_;intro gg cap2 w6 hown hgrow hat hlt;have hPB:w6.heap[w.heap.size+1]? =w5.heap[w.heap.size+1]? :=(hgrow.block _ (by simp;omega) (λe=>by have:=(O5.lt _ e.symm).1;omega)).trans (lG _ _ _ (by omega));have t1:w6.cell? ⟨w.heap.size+1,1,none⟩=some (slice as_ ns cs):=(gW hPB).trans R5.cells.1.2.1;have t2:w6.frozen? ⟨w.heap.size+1,1,none⟩=false:=(gV hPB).trans (R5.cells.2 1))
      |(go_simp;go_at_call 69;refine(HHR _ (HB.2.1.keep.trans (Keep.drew _))).mono ?_;rintro e w5 ⟨rfl,hk5⟩;obtain⟨R5,M5,O5,hs5⟩:=HB2 w5 hk5;have p1:w5.cell? ⟨w.heap.size+1,1,none⟩=some (slice as_ ns cs):=R5.cells.1.2.1;have hl5:w.heap.size+2<=w5.heap.size:=R5.lt;have p2:(w5.alloc (.cells #[bool (!hasRuleB m k)] 4)).cell? ⟨w.heap.size+1,1,none⟩=some (slice as_ ns cs):=(gU _ _ _ (by show w.heap.size+1<w5.heap.size;omega)).trans p1)))
     all_goals
      obtain⟨sv3,w7,hw7,hsv3,A7⟩:∃sv3 w7,w7=w6.setCell ⟨w.heap.size+1,1,none⟩ (slice (qX gg) (ns+1) cap2)/\sv3=slice (qX gg) (ns+1) cap2/\Hid (Rp w w7 mv2 sv3 (slice ae2 ns ce2) (j+1) xs2 (sl++[!hasRuleB m k]) el (aheadTo ms (j+1))/\Mx w7 qb (slice an m.next.length cn) (slice ar m.rules.length cr) (slice (some ⟨be,oe,none⟩) m.empty.length ce) m):=by
       refine⟨_,_,rfl,rfl,?_,Mx.app M5 O5 (by decide) hgrow (Ne.symm hq1)⟩;have hown2:=hown;rw[<-HLL.out.1] at hown2;have h:=Rp.shad_app R5 hown2 hgrow (by
        rcases hat with ha|ha
        ·exact .inl ha
        ·right;rw[ha];omega)
       rw[HLL.out.1] at h;exact h
      rw[<-hw7];clear hw7 hown hgrow hat hPB t1 t2 p1 p2 O5 M5 R5 hk5 r1 q0 q1 q2 f1 ye;have hl7:=A7.1.lt;have s2:w7.cell? ⟨w.heap.size+1,2,none⟩=some (slice ae2 ns ce2):=A7.1.cells.1.2.2.1;have O7:w7.ownsRow (w.heap.size+2) 4 1 (slice ae2 ns ce2) ns (el.map λx=>bool x):=by
       have h:=A7.1.emp;unfold OwnB at h;rw[HLL.out.2.1] at h;exact h
      go_wp2_with (first|(at_builtin;refine wpList_append_lies _ rfl _ _ 28 rfl (w.heap.size+2) 4 ib fX 1 1 underlying28 hib hb0 hb1 hb2 rfl (by decide) _ _ _ rfl (O7.alloc _) ⟨w7.heap.size,0,none⟩ 1 1 [bool ek] rfl rfl (cell_one_new _ _ _) (by intro u hu;simp at hu;subst hu;rfl) (by decide) (by unfold maxLen;omega) (by omega) (by simp;omega) _ rfl ?_;intro g2 cap3 w8 hown hgrow hat hlt2;have hPB:w8.heap[w.heap.size+1]? =w7.heap[w.heap.size+1]? :=(hgrow.block _ (by simp;omega) (λe=>by have:=(O7.lt _ e.symm).1;omega)).trans (lG _ _ _ (by omega));have t1:w8.cell? ⟨w.heap.size+1,2,none⟩=some (slice ae2 ns ce2):=(gW hPB).trans A7.1.cells.1.2.2.1;have t2:w8.frozen? ⟨w.heap.size+1,2,none⟩=false:=(gV hPB).trans (A7.1.cells.2 2)))
      obtain⟨ev3,w9,hw9,A9⟩:∃ev3 w9,w9=w8.setCell ⟨w.heap.size+1,2,none⟩ (slice (qX g2) (ns+1) cap3)/\Hid (Rp w w9 mv2 sv3 ev3 (j+1) xs2 (sl++[!hasRuleB m k]) (el++[ek]) (aheadTo ms (j+1))/\Mx w9 qb (slice an m.next.length cn) (slice ar m.rules.length cr) (slice (some ⟨be,oe,none⟩) m.empty.length ce) m):=by
       refine⟨slice (qX g2) (ns+1) cap3,_,rfl,?_,Mx.app A7.2 O7 (by decide) hgrow (Ne.symm hq1)⟩;have hown2:=hown;rw[<-HLL.out.2.1] at hown2;have h:=Rp.emp_app A7.1 hown2 hgrow (by
        rcases hat with ha|ha
        ·exact .inl ha
        ·right;rw[ha];simp)
       rw[HLL.out.2.1] at h;exact h
      rw[<-hw9];clear hw9 hown hgrow hat hPB t1 t2 O7 s2;go_roundg (m.empty.length-(k+1))
      case measure=>rw[HB.out.1];omega
      case rel=>
       refine⟨k+1,sv3,ev3,rfl,by omega,by go_num,?_,A9.2⟩;have e1:qU ms j++zAH m (k+1)=sl++[!hasRuleB m k]:=by
        rw[<-HLL.out.2.2.1];simp[zAH,List.range_succ]
       have e2:jP ms j++m.empty.take (k+1)=el++[ek]:=by
        rw[<-HLL.out.2.2.2,<-HEK.out,gX,List.take_add_one,lW,lV hk3];rfl
       rw[e1,e2];exact A9.1
    ·have hke:k=m.empty.length:=by omega
     have i2:(m.empty.length:Int)<=(k:Int):=by omega
     have HZ:Hid (Rp w wr mv2 sv ev (j+1) xs2 (qU ms (j+1)) (jP ms (j+1)) (aheadTo ms (j+1))):=by
      have h:=hR;rw[hke,List.take_length] at h;have e1:qU ms (j+1)=qU ms j++zAH m m.empty.length:=by rw[<-HT.out.2.2.2.2.2.2];rfl
      have e2:jP ms (j+1)=jP ms j++m.empty:=by rw[<-HT.out.2.2.2.2.2.2];rfl
      show Rp _ _ _ _ _ _ _ _ _ _;rw[e1,e2];exact h
     clear hgk hR hM hke;go_wp2_with fail;go_roundg (ms.length-(j+1))
     case measure=>rw[HA.out.1];omega
     case rel=>exact⟨j+1,_,_,_,_,rfl,by omega,by go_num,HZ⟩
  ·have hje:j=ms.length:=by omega
   have i1:(ms.length:Int)<=(j:Int):=by omega
   have HZ:Hid (Rp w wr mv sv ev j xs (qU ms ms.length) (jP ms ms.length) (aheadTo ms ms.length)):=by
    have h:=hR;show Rp _ _ _ _ _ _ _ _ _ _;rw[<-hje];exact h
   have hal:=zGq ms HOK ms.length lQ;have HIS:Hid (∀w',Ca 70 #[iX (aheadTo ms ms.length),iX ((kinds:Nat):Int)] w' λe w2=>e=returned (bool (yB (aheadTo ms ms.length) kinds))/\w2=w'):=λw'=>zFW w' _ kinds hk (by omega);obtain⟨⟨r0,r1,r2,r3,r4,r5⟩,rf⟩:=HZ.cells;have f4:=rf 4;obtain⟨a0,k0,rfl⟩:=zF HZ.modes;obtain⟨a1,k1,rfl⟩:=HZ.shad.form;obtain⟨a2,k2,rfl⟩:=HZ.emp.form;have hres:=HZ.res;have x0:wr.cell? ⟨w.heap.size,0,none⟩=some nX:=by unfold cell?;rw[hres];rfl
   have x1:wr.cell? ⟨w.heap.size,1,none⟩=some nX:=by unfold cell?;rw[hres];rfl
   have x2:wr.cell? ⟨w.heap.size,2,none⟩=some nX:=by unfold cell?;rw[hres];rfl
   have x3:wr.cell? ⟨w.heap.size,3,none⟩=some zX:=by unfold cell?;rw[hres];rfl
   have x4:wr.cell? ⟨w.heap.size,4,none⟩=some fX:=by unfold cell?;rw[hres];rfl
   have x5:wr.cell? ⟨w.heap.size,5,none⟩=some zX:=by unfold cell?;rw[hres];rfl
   have xf:∀i,wr.frozen? ⟨w.heap.size,i,none⟩=false:=λi=>by unfold frozen?;rw[hres];simp
   have xf0:=xf 0;have xf1:=xf 1;have xf2:=xf 2;have xf3:=xf 3;have xf4:=xf 4;have xf5:=xf 5;clear hgk hR hje rf xf hres;obtain⟨A,hA⟩:∃A,aheadTo ms ms.length=A:=⟨_,rfl⟩
   rw[hA] at r3 HIS HZ hal;have HAe:Hid (aheadTo ms ms.length=A):=hA;clear hA;cases force with
   |true=>
    go_wp2_with fail;refine gJ (v:=agg #[slice a0 j k0,slice a1 (qU ms ms.length).length k1,slice a2 (jP ms ms.length).length k2,iX A,fX,zX]) (by simp[results,results46,go_sem, *]) rfl ⟨_,_,_,by rw[HAe.out];rfl,?_,?_,?_,⟨_,_,_,rfl⟩⟩
    ·refine vU (H:=w.heap.size+2) ?_ (by omega)
     iterate 7 refine xB ?_ (by omega)
     exact HZ.shad
    ·refine vU (H:=w.heap.size+2) ?_ (by omega)
     iterate 7 refine xB ?_ (by omega)
     exact HZ.emp
    ·refine HZ.keep.trans ?_
     iterate 6 refine Keep.trans ?_ (zQ _ _ _ _ (by omega))
     exact zQ _ _ _ _ (by omega)
   |false=>
    go_wp2_with (first|(go_at_call 70;refine(HIS _).mono ?_;rintro e w9 ⟨rfl,rfl⟩))
    refine gJ (v:=agg #[slice a0 j k0,slice a1 (qU ms ms.length).length k1,slice a2 (jP ms ms.length).length k2,iX A,bool (yB A kinds),zX]) (by simp[results,results46,go_sem, *]) rfl ⟨_,_,_,by rw[HAe.out];rfl,?_,?_,?_,⟨_,_,_,rfl⟩⟩
    ·refine vU (H:=w.heap.size+2) ?_ (by omega)
     iterate 7 refine xB ?_ (by omega)
     exact HZ.shad
    ·refine vU (H:=w.heap.size+2) ?_ (by omega)
     iterate 7 refine xB ?_ (by omega)
     exact HZ.emp
    ·refine HZ.keep.trans ?_
     iterate 6 refine Keep.trans ?_ (zQ _ _ _ _ (by omega))
     exact zQ _ _ _ _ (by omega)
end
theorem zEa (w:World)(H p:Nat)(c:Tc)(t:Tb)(b:Mem w H p c t)(ok:t.OkN)(g:1<=t.nst)(h:1<=t.count)(a:Nat)(j:a<=255)(k:zJ t.count a<=3000):
  Calls prog 47 #[pX p,iX a] w λe w'=>e=rX/\∃d,Mem w' H p d ({t with stream:=true}.looking a)/\Keep w.heap.size p w w':=by
 have q:=b.tp.get_stream;have r:=b.tp.fz 0;have l:Hid (Mem (w.setCell ⟨p,0,none⟩ tX) H p {c with stream:=tX} {t with stream:=true}):=b.putStream true;have m:=zB8 _ H p _ _ l ⟨ok.1,ok.2,ok.3,ok.4⟩ g h a j k;clear b;go_enter func47,ntmps47
 go_wp2_with (go_at_call 66;refine m.mono ?_;rintro e w2 ⟨rfl,d,o,f⟩)
 go_end0;exact⟨rfl,d,o,(Keep.set _ _ _).trans (by rw[zD] at f;exact f)⟩
def zCR (n:Int):Bool:=decide (0<=n/\n<55296\/57343<n/\n<=1114111)
structure Cs where
 ranges:List (Int×Int)
 others:Bool
def Cs.lists (s:Cs)(c:Int):Bool:=s.ranges.any λr=>decide (r.1<=c)&&decide (c<=r.2)
def Cs.has (s:Cs)(c:Int):Bool:=zCR c&&(s.lists c != s.others)
def RangesAt (w:World)(v:Value)(l:List (Int×Int)):Prop:=
 ∃ao cap,v=slice ao l.length cap/\l.length<=cap/\cap<=maxLen/\∀i,i<l.length->∃b o,ao=some ⟨b,o,none⟩/\In w b/\w.cell? ⟨b,o+i*2,none⟩=some (int i64 (l.getD i (0,0)).1)/\w.cell? ⟨b,o+i*2+1,none⟩=some (int i64 (l.getD i (0,0)).2)
theorem RangesAt.grown {w w':World}{v:Value}{l:List (Int×Int)}(d:RangesAt w v l)(a:Grew w w'):RangesAt w' v l:=by
 obtain⟨ao,cap,e,f,g,j⟩:=d;refine⟨ao,cap,e,f,g,λi k=>?_⟩;have ⟨b,o,m,c,c0,c1⟩:=j i k;exact⟨b,o,m,lZ c a.size,zA c0 c a,zA c1 c a⟩
def SetsAt (w:World)(v:Value)(l:List Cs):Prop:=
 ∃ao cap,v=slice ao l.length cap/\l.length<=cap/\cap<=maxLen/\∀i,i<l.length->∃b o u,ao=some ⟨b,o,none⟩/\In w b/\w.cell? ⟨b,o+i*2,none⟩=some u/\w.cell? ⟨b,o+i*2+1,none⟩=some (bool (l.getD i ⟨[],false⟩).others)/\RangesAt w u (l.getD i ⟨[],false⟩).ranges
theorem SetsAt.grown {w w':World}{v:Value}{l:List Cs}(d:SetsAt w v l)(a:Grew w w'):SetsAt w' v l:=by
 obtain⟨ao,cap,e,f,g,j⟩:=d;refine⟨ao,cap,e,f,g,λi k=>?_⟩;have ⟨b,o,u,m,c,c0,c1,p⟩:=j i k;exact⟨b,o,u,m,lZ c a.size,zA c0 c a,zA c1 c a,p.grown a⟩
theorem zFV (w:World)(n:Int):
  Calls prog 191 #[iX n] w λe w'=>e=returned (bool (zCR n))/\w'=w:=by
 by_cases b:0<=n
 ·by_cases d:n<55296
  ·have a:Hid (zCR n=true):=by show _=_;unfold zCR;exact dQ (by omega)
   go_in;go_wp2;go_ret;exact⟨by rw[a.out];simp[b,d],rfl⟩
  ·by_cases c:57343<n
   ·have a:Hid (zCR n=decide (n<=1114111)):=by show _=_;unfold zCR;congr 1;exact propext (by omega)
    go_in;go_wp2;go_ret;exact⟨by rw[a.out];simp[b,d,c],rfl⟩
   ·have a:Hid (zCR n=false):=by show _=_;unfold zCR;exact gG (by omega)
    go_in;go_wp2;go_ret;exact⟨by rw[a.out];simp[b,d,c],rfl⟩
 ·have c:¬57343<n:=by omega
  have a:Hid (zCR n=false):=by show _=_;unfold zCR;exact gG (by omega)
  go_in;go_wp2;go_ret;exact⟨by rw[a.out];simp[b,c],rfl⟩
theorem zOI {a:Type}(l:List a)(p:a->Bool)(b:a)(i:Nat)(c:i<l.length)(e:p (l.getD i b)=true):l.any p=true:=by
 rw[List.any_eq_true];exact⟨_,zV l i b c,e⟩
theorem zJY {a:Type}(l:List a)(p:a->Bool)(c:a)(e:∀i,i<l.length->p (l.getD i c)=false):l.any p=false:=by
 rw[List.any_eq_false];intro x f;obtain⟨i,b,rfl⟩:=List.getElem_of_mem f;have:=e i b;rw[lW,lV b] at this;simpa using this
theorem zJr (w:World)(rv:Value)(s:Cs)(B:RangesAt w rv s.ranges)(J:s.ranges.length<=1000000000000)(c:Int):
  Calls prog 192 #[agg #[rv,bool s.others],iX c] w λe w'=>e=returned (bool (s.lists c))/\Grew w w':=by
 obtain⟨ao,cap,rfl,_,_,C⟩:=B;have D:=vl C;have E:Hid (∀i,i<s.ranges.length->(s.ranges.getD i (0,0)).1<=c->c<=(s.ranges.getD i (0,0)).2->s.lists c=true):=λi a l m=>zOI _ _ (0,0) i a (by show(decide _&&decide _)=true;rw[dQ l,dQ m];rfl);have F:Hid ((∀i,i<s.ranges.length->¬((s.ranges.getD i (0,0)).1<=c/\c<=(s.ranges.getD i (0,0)).2))->s.lists c=false):=λf=>zJY _ _ (0,0) λi a=>by
  have:=f i a;simpa using this
 go_in;go_wp2;go_loopg [10] s.ranges.length (λq i wr=>∃j:Nat,q=s.ranges.length-j/\j<=s.ranges.length/\i=iX (j:Int)/\(∀i,i<j->¬((s.ranges.getD i (0,0)).1<=c/\c<=(s.ranges.getD i (0,0)).2))/\Grew w wr)
 case atStart=>exact⟨0,rfl,lX,rfl,λi a=>by omega,kZ _ _ lQ⟩
 case round=>
  obtain⟨j,r,K,rfl,p,g⟩:=hrel;have d:Hid (gk=s.ranges.length-j/\(∀i,i<j->¬((s.ranges.getD i (0,0)).1<=c/\c<=(s.ranges.getD i (0,0)).2))/\Grew w wr):=⟨r,p,g⟩
  by_cases u:j<s.ranges.length
  ·have G:(j:Int)<(s.ranges.length:Int):=by omega
   obtain⟨b,o,rfl,v,c0,c1⟩:=D j u;have L:cX wr b (o+j*2)=some (iX (s.ranges.getD j (0,0)).1):=zA c0 v g;have M:cX wr b (o+j*2+1)=some (iX (s.ranges.getD j (0,0)).2):=zA c1 v g;have H:=vl <| E j u;have z:Hid (¬((s.ranges.getD j (0,0)).1<=c/\c<=(s.ranges.getD j (0,0)).2)->∀i,i<j+1->¬((s.ranges.getD i (0,0)).1<=c/\c<=(s.ranges.getD i (0,0)).2)):=λf i a=>by
    by_cases e:i=j
    ·rw[e];exact f
    ·exact d.2.1 i (by omega)
   clear c0 c1 r p g;generalize (s.ranges.getD j (0,0)).1=x at *;generalize (s.ranges.getD j (0,0)).2=y at *;have A:Grew w (wr.alloc (.cells #[iX x,iX y] 255)):=d.2.2.trans (kZ _ _ d.2.2.size);have t:=vl A;clear A;by_cases l:x<=c
   ·by_cases m:c<=y
    ·have k:=vl <| H l m
     go_wp2;go_ret;exact⟨by rw[k.out];rfl,t⟩
    ·have k:=vl m
     go_wp2;go_roundg (s.ranges.length-(j+1))
     case measure=>rw[d.out.1];omega
     case rel=>exact⟨j+1,rfl,by omega,by go_num,z (λf=>by have:=k.out;omega),t⟩
   ·have k:=vl l
    go_wp2;go_roundg (s.ranges.length-(j+1))
    case measure=>rw[d.out.1];omega
    case rel=>exact⟨j+1,rfl,by omega,by go_num,z (λf=>by have:=k.out;omega),t⟩
  ·have G:(s.ranges.length:Int)<=(j:Int):=by omega
   have I:=vl <| F λi a=>p i (by omega);clear r p g;go_wp2;go_ret;exact⟨by rw[I.out];rfl,d.2.2⟩
theorem zMO (w:World)(rv:Value)(s:Cs)(l:RangesAt w rv s.ranges)(t:s.ranges.length<=1000000000000)(c:Int):
  Calls prog 184 #[agg #[rv,bool s.others],iX c] w λe w'=>e=returned (bool (s.has c))/\Grew w w':=by
 have ⟨ao,cap,m,_⟩:=id l;have z:=vl m;clear m;obtain⟨w1,d,a,o,p⟩:∃w1,w1=w.alloc (.cells #[rv,bool s.others] 161)/\Hid (Grew w w1/\w.heap.size<w1.heap.size)/\w1.cell? ⟨w.heap.size,0,none⟩=some rv/\w1.cell? ⟨w.heap.size,1,none⟩=some (bool s.others):=by
  have u:=gY w (.cells #[rv,bool s.others] 161);refine⟨_,rfl,⟨kZ _ _ lQ,by simp⟩,?_,?_⟩ <;> ·unfold cell?;rw[u];rfl
 have v:Hid (Ca 192 #[agg #[rv,bool s.others],iX c] w1.drew λe w'=>e=returned (bool (s.lists c))/\w'.cell? ⟨w.heap.size,1,none⟩=some (bool s.others)/\w'.cell? ⟨w.heap.size,0,none⟩=some rv/\Grew w w'):=by
  refine(zJr w1.drew rv s ((l.grown a.1).grown (Keep.drew _)) t c).mono ?_;rintro e w2 ⟨rfl,g⟩;exact⟨rfl,zA (w:=w1.drew) p a.2 g,zA (w:=w1.drew) o a.2 g,a.1.trans ((Keep.undrew g).lower a.1.size a.1.size)⟩
 cases b:zCR c with
 |false=>
  have j:Hid (s.has c=false):=by show _=_;unfold Cs.has;rw[b];rfl
  have k:Hid (∀w,Ca 191 #[iX c] w λe w'=>e=returned (bool false)/\w'=w):=λw=>by rw[<-b];exact zFV w c
  go_in;apply wp_cut;intro x f;go_wp2;apply f.out;rw[<-d];clear d;go_wp2;go_quiet ((go_at_call 191;exact Calls.quiet_of_same (k _)));go_wp2;go_ret;exact⟨by rw[j.out];rfl,a.1.trans ⟨rfl,rfl,lQ,λ_ _ _=>rfl⟩⟩
 |true=>
  have j:Hid (s.has c=(s.lists c != s.others)):=by show _=_;unfold Cs.has;rw[b];rfl
  have k:Hid (∀w,Ca 191 #[iX c] w λe w'=>e=returned (bool true)/\w'=w):=λw=>by rw[<-b];exact zFV w c
  clear b;go_in;apply wp_cut;intro x f;go_wp2;apply f.out;clear f;rw[<-d];clear d;go_wp2;go_region_held3 (λw'=>w'.cell? ⟨w.heap.size,0,none⟩=some rv/\w'.cell? ⟨w.heap.size,1,none⟩=some (bool s.others)) (first|exact⟨q,r⟩|go_keep) (first|(go_at_call 191;refine(k _).mono ?_;rintro e A ⟨rfl,rfl⟩;have q:=o;have r:=p)|(go_at_call 192;refine v.mono ?_;rintro e B ⟨rfl,r,q,y⟩))
  all_goals
   go_wp2;go_ret;exact⟨by rw[j.out];rfl,y⟩
theorem yZ (a b:Nat)(c:a<9223372036854775808)(d:b<9223372036854775808):bits .or i64 (a:Int) (b:Int)=((a|||b:Nat):Int):=
 (bits_nat i64 63 (by decide) (λn e f=>zCh n e (by simpa using f)) a b (by simpa using c) (by simpa using d)).2
theorem zFJ (j:Nat)(a:j<63):wrap64 (2^j)=((2^j:Nat):Int):=by
 have b:2^j<2^63:=Nat.pow_lt_pow_right (by omega) a;have e:((2:Int)^j)=((2^j:Nat):Int):=by simp
 rw[e];generalize 2^j=x at b;exact w64 _ (by omega) (by omega)
theorem zNQ (a j:Nat)(b:j<63)(c:a<9223372036854775808):bits .or i64 (a:Int) (wrap64 (2^j))=((a|||2^j:Nat):Int):=by
 have d:2^j<2^63:=Nat.pow_lt_pow_right (by omega) b;rw[zFJ j b];exact yZ _ _ c (by omega)
def qF (f:Nat->Bool):Nat->Nat
 |0=>0
 |k+1=>if f k then qF f k|||2^k else qF f k
theorem zBw (f:Nat->Bool)(k:Nat):qF f k<2^k:=by
 induction k with
 |zero=>simp[qF]
 |succ k b=>
  have a:2^k<2^(k+1):=Nat.pow_lt_pow_right (by omega) (by omega);unfold qF;split
  ·exact Nat.or_lt_two_pow (by omega) a
  ·omega
def zAk (sets:List Cs)(c:Int)(i:Nat):Bool:=(sets.getD i ⟨[],false⟩).has c
def yF (sets:List Cs)(c:Int):Nat:=qF (zAk sets c) sets.length
theorem zHO (w:World)(v:Value)(sets:List Cs)(z:SetsAt w v sets)(T:sets.length<=24)(A:∀s∈sets,s.ranges.length<=1000000000000)(c:Int):
  Calls prog 169 #[v,iX c] w λe w'=>e=returned (iX (yF sets c))/\Grew w w':=by
 obtain⟨ao,cap,rfl,_,_,B⟩:=z;have C:=vl B;have D:Hid (∀i,i<sets.length->(sets.getD i ⟨[],false⟩).ranges.length<=1000000000000):=λi E=>A _ (zV _ i _ E);have F:Hid (yF sets c=qF (zAk sets c) sets.length):=rfl;generalize U:sets.length=n at *;go_in;go_wp2;go_loopg [5,10] n (λq x i wr=>∃j:Nat,q=n-j/\j<=n/\x=iX (qF (zAk sets c) j:Nat)/\i=iX (j:Int)/\Grew w wr)
 case atStart=>exact⟨0,rfl,lX,rfl,rfl,⟨rfl,rfl,lQ,λ_ _ _=>rfl⟩⟩
 case round=>
  obtain⟨j,G,V,rfl,rfl,g⟩:=hrel;have a:Hid (gk=n-j/\Grew w wr):=⟨G,g⟩
  by_cases p:j<n
  ·have H:(j:Int)<(n:Int):=by omega
   obtain⟨b,o,u,rfl,r,c0,c1,t⟩:=C j p;obtain⟨I,J,rfl,-⟩:=id t;have W:=zA c0 r g;have X:=zA c1 r g;have d:Hid (∀w',Grew w w'->Ca 184 #[agg #[slice I (sets.getD j ⟨[],false⟩).ranges.length J,bool (sets.getD j ⟨[],false⟩).others],iX c] w' λe w2=>e=returned (bool (zAk sets c j))/\Grew w w2):=by
    intro w' y;refine(zMO w' _ _ (t.grown y) (D j p) c).mono ?_;rintro e w2 ⟨rfl,K⟩;exact⟨rfl,y.th K⟩
   have Y:=zBw (zAk sets c) j;have aa:2^j<=2^24:=kG (by omega) (by omega);have L:Hid (zAk sets c j=true->qF (zAk sets c) (j+1)=qF (zAk sets c) j|||2^j):=λk=>by show(if _ then _ else _)=_;rw[k];rfl
   have M:Hid (zAk sets c j=false->qF (zAk sets c) (j+1)=qF (zAk sets c) j):=λk=>by show(if _ then _ else _)=_;rw[k];rfl
   generalize (sets.getD j ⟨[],false⟩).ranges.length=ab at *;generalize (sets.getD j ⟨[],false⟩).others=ac at *;generalize qF (zAk sets c) j=N at *;have O:=vl <| zNQ N j (by omega) (by omega);cases f:zAk sets c j with
   |true=>
    rw[f] at d;have l:=vl <| L f;go_wp2_with (go_at_call 184;refine(d _ (a.2.trans (kZ _ _ a.2.size))).mono ?_;rintro e P ⟨rfl,m⟩)
    go_roundg (n-(j+1))
    case measure=>rw[a.out.1];omega
    case rel=>exact⟨j+1,rfl,by omega,by rw[O.out,l.out],by go_num,m⟩
   |false=>
    rw[f] at d;have l:=vl <| M f;go_wp2_with (go_at_call 184;refine(d _ (a.2.trans (kZ _ _ a.2.size))).mono ?_;rintro e P ⟨rfl,m⟩)
    go_roundg (n-(j+1))
    case measure=>rw[a.out.1];omega
    case rel=>exact⟨j+1,rfl,by omega,by rw[l.out],by go_num,m⟩
  ·have R:j=n:=by omega
   have H:(n:Int)<=(j:Int):=by omega
   have S:Hid (yF sets c=qF (zAk sets c) j):=by show _=_;rw[F.out,R]
   go_wp2;go_ret;exact⟨by rw[S.out];rfl,a.2⟩
structure Ar where
 lows:List Int
 letters:List Int
 sets:List Int
def jC (lows:List Int)(n:Int):Nat->Nat->Nat->Nat
 |0,low,_=>low
 |f+1,low,high=>if high-low>1 then(if lows.getD ((low+high)/2) 0<=n then jC lows n f ((low+high)/2) high else jC lows n f low ((low+high)/2)) else low
def Ar.area (a:Ar)(n:Int):Nat:=jC a.lows n a.lows.length 0 a.lows.length
theorem zLf (lows:List Int)(n:Int)(f low a:Nat)(b:¬a-low>1):jC lows n f low a=low:=by
 cases f with
 |zero=>rfl
 |succ f=>rw[jC,if_neg b]
theorem zJX (lows:List Int)(n:Int)(f low a:Nat)(b:low<a):jC lows n f low a<a:=by
 induction f generalizing low a with
 |zero=>exact b
 |succ f c=>
  rw[jC];split
  ·split
   ·exact c _ _ (by omega)
   ·exact lZ (c _ _ (by omega)) (by omega)
  ·exact b
theorem Ar.area_lt (a:Ar)(n:Int)(b:0<a.lows.length):a.area n<a.lows.length:=zJX _ _ _ _ _ b
structure ArAt (w:World)(lv tv sv:Value)(a:Ar):Prop where
 lows:Ints w (In w) lv a.lows
 letters:Ints w (In w) tv a.letters
 sets:Ints w (In w) sv a.sets
theorem ArAt.grown {w w':World}{lv tv sv:Value}{a:Ar}(b:ArAt w lv tv sv a)(c:Grew w w'):ArAt w' lv tv sv a:=⟨b.lows.grown c,b.letters.grown c,b.sets.grown c⟩
theorem zGo (w:World)(lv tv sv:Value)(a:Ar)(p:ArAt w lv tv sv a)(M:a.lows.length<=1000000000000)(n:Int):
  Calls prog 185 #[agg #[lv,tv,sv],iX n] w λe w'=>e=returned (iX (a.area n))/\Grew w w':=by
 obtain⟨r,s,rfl,_,_,u⟩:=p.lows;obtain⟨at_,v,rfl,-⟩:=p.letters;obtain⟨as_,cs,rfl,-⟩:=p.sets;have F:=vl u;clear u p;obtain⟨w1,z,A,N⟩:∃w1,w1=w.alloc (.cells #[slice r a.lows.length s,slice at_ a.letters.length v,slice as_ a.sets.length cs] 172)/\Hid (Grew w w1)/\w1.cell? ⟨w.heap.size,0,none⟩=some (slice r a.lows.length s):=by
  have G:=gY w (.cells #[slice r a.lows.length s,slice at_ a.letters.length v,slice as_ a.sets.length cs] 172);refine⟨_,rfl,kZ _ _ lQ,?_⟩;unfold cell?;rw[G];rfl
 have H:Hid (a.area n=jC a.lows n a.lows.length 0 a.lows.length):=rfl;generalize a.lows.length=m at *;go_in;apply wp_cut;intro I g;go_wp2;apply g.out;clear g;rw[<-z];clear z;go_wp2;go_loopg [5,6] m (λq x y wr=>∃low c f:Nat,q=c-low/\x=iX (low:Int)/\y=iX (c:Int)/\low<=c/\c<=m/\c-low<=f+1/\a.area n=jC a.lows n f low c/\wr=w1)
 case atStart=>exact⟨0,m,m,rfl,rfl,rfl,lX,lQ,by omega,H,rfl⟩
 case round=>
  obtain⟨low,c,f,B,rfl,rfl,O,P,R,C,rfl⟩:=hrel;have j:Hid (gk=c-low/\a.area n=jC a.lows n f low c):=⟨B,C⟩
  clear B C;by_cases t:c-low>1
  ·obtain⟨f,rfl⟩:∃J,f=J+1:=⟨f-1,by omega⟩
   have S:low<(low+c)/2:=by omega
   have T:(low+c)/2<c:=by omega
   have D:Hid (jC a.lows n (f+1) low c=if a.lows.getD ((low+c)/2) 0<=n then jC a.lows n f ((low+c)/2) c else jC a.lows n f low ((low+c)/2)):=by show _=_;rw[jC,if_pos t]
   obtain⟨b,o,rfl,K,k⟩:=F ((low+c)/2) (by omega);have U:wr.cell? ⟨b,o+(low+c)/2,none⟩=some (iX (a.lows.getD ((low+c)/2) 0)):=zA k K A;have V:(((low:Int)+(c:Int)).tdiv 2)=(((low+c)/2:Nat):Int):=by
    rw[Int.tdiv_eq_ediv_of_nonneg (by omega)];omega
   clear k;have L:(1:Int)<(c:Int)-(low:Int):=by omega
   have W:(((low+c)/2:Nat):Int)<(m:Int):=by omega
   apply wp_cut;intro I g;go_wp2;apply g.out;clear g;generalize E:(low+c)/2=d at *;have X:=vl E;clear E;generalize a.lows.getD d 0=x at *;by_cases k:x<=n
   ·have l:Hid (jC a.lows n (f+1) low c=jC a.lows n f d c):=by show _=_;rw[D.out,if_pos k]
    go_wp2;go_roundg (c-d)
    case measure=>rw[j.out.1];omega
    case rel=>exact⟨d,c,f,rfl,rfl,rfl,by omega,by omega,by omega,by rw[j.out.2,l.out],rfl⟩
   ·have l:Hid (jC a.lows n (f+1) low c=jC a.lows n f low d):=by show _=_;rw[D.out,if_neg k]
    go_wp2;go_roundg (d-low)
    case measure=>rw[j.out.1];omega
    case rel=>exact⟨low,d,f,rfl,rfl,rfl,by omega,by omega,by omega,by rw[j.out.2,l.out],rfl⟩
  ·have L:(c:Int)-(low:Int)<=1:=by omega
   have l:Hid (jC a.lows n f low c=low):=zLf _ _ _ _ _ t;clear t;go_wp2;go_ret;exact⟨by rw[j.out.2,l.out];rfl,A⟩
def Ar.letter (a:Ar)(n:Int):Int:=a.letters.getD (a.area n) 0
def Ar.alike (a:Ar)(m n:Int):Bool:=(a.area m:Int)==(a.area n:Int)
theorem zH7 (w:World)(lv tv sv:Value)(a:Ar)(d:ArAt w lv tv sv a)(t:a.lows.length<=1000000000000)(p:0<a.lows.length)(u:a.letters.length=a.lows.length)(n:Int):
  Calls prog 175 #[agg #[lv,tv,sv],iX n] w λe w'=>e=returned (iX (a.letter n))/\Grew w w':=by
 obtain⟨j,l,rfl,-⟩:=id d.lows;obtain⟨b,c,g,rfl,v,_,_,q⟩:=d.letters.block (by omega);obtain⟨as_,cs,rfl,-⟩:=id d.sets;obtain⟨w1,r,f,E,y,F⟩:∃w1,w1=w.alloc (.cells #[slice j a.lows.length l,slice (some ⟨b,c,none⟩) a.letters.length g,slice as_ a.sets.length cs] 172)/\Hid (Grew w w1/\w.heap.size<w1.heap.size)/\w1.cell? ⟨w.heap.size,0,none⟩=some (slice j a.lows.length l)/\w1.cell? ⟨w.heap.size,1,none⟩=some (slice (some ⟨b,c,none⟩) a.letters.length g)/\w1.cell? ⟨w.heap.size,2,none⟩=some (slice as_ a.sets.length cs):=by
  have z:=gY w (.cells #[slice j a.lows.length l,slice (some ⟨b,c,none⟩) a.letters.length g,slice as_ a.sets.length cs] 172);refine⟨_,rfl,⟨kZ _ _ lQ,by simp⟩,?_,?_,?_⟩ <;> ·unfold cell?;rw[z];rfl
 have A:=zGo w1 _ _ _ a (d.grown f.1) t n;have B:a.area n<a.letters.length:=by have:=a.area_lt n p;omega
 have s:w.cell? ⟨b,c+a.area n,none⟩=some (iX (a.letters.getD (a.area n) 0)):=q _ B;have C:Hid (a.letter n=a.letters.getD (a.area n) 0):=rfl;have m:Hid (In w b/\w.cell? ⟨b,c+a.area n,none⟩=some (iX (a.letters.getD (a.area n) 0))):=⟨v,s⟩
 clear q d s p u;generalize a.letters.getD (a.area n) 0=x at *;generalize a.area n=k at *;have G:(k:Int)<(a.letters.length:Int):=by omega
 go_in;apply wp_cut;intro H D;go_wp2;apply D.out;rw[<-r];clear r;go_wp2_with (go_at_call 185;refine A.mono ?_;rintro e w2 ⟨rfl,o⟩;have I:w2.cell? ⟨w.heap.size,1,none⟩=some (slice (some ⟨b,c,none⟩) a.letters.length g):=zA y f.2 o;have J:w2.cell? ⟨b,c+k,none⟩=some (iX x):=zA (zA m.2 m.1 f.1) (lZ m.1 f.1.size) o)
 go_ret;exact⟨by rw[C.out];rfl,f.1.th o⟩
theorem zJ0 (w:World)(lv tv sv:Value)(a:Ar)(d:ArAt w lv tv sv a)(t:a.lows.length<=1000000000000)(m n:Int):
  Calls prog 177 #[agg #[lv,tv,sv],iX m,iX n] w λe w'=>e=returned (bool (a.alike m n))/\Grew w w':=by
 obtain⟨f,g,rfl,-⟩:=id d.lows;obtain⟨at_,j,rfl,-⟩:=id d.letters;obtain⟨as_,cs,rfl,-⟩:=id d.sets;obtain⟨w1,l,b,o,p,q⟩:∃w1,w1=w.alloc (.cells #[slice f a.lows.length g,slice at_ a.letters.length j,slice as_ a.sets.length cs] 172)/\Hid (Grew w w1/\w.heap.size<w1.heap.size)/\w1.cell? ⟨w.heap.size,0,none⟩=some (slice f a.lows.length g)/\w1.cell? ⟨w.heap.size,1,none⟩=some (slice at_ a.letters.length j)/\w1.cell? ⟨w.heap.size,2,none⟩=some (slice as_ a.sets.length cs):=by
  have u:=gY w (.cells #[slice f a.lows.length g,slice at_ a.letters.length j,slice as_ a.sets.length cs] 172);refine⟨_,rfl,⟨kZ _ _ lQ,by simp⟩,?_,?_,?_⟩ <;> ·unfold cell?;rw[u];rfl
 have r:Hid (∀w' x,Grew w w'->Ca 185 #[agg #[slice f a.lows.length g,slice at_ a.letters.length j,slice as_ a.sets.length cs],iX x] w' λe w2=>e=returned (iX (a.area x))/\Grew w' w2):=λw' x v=>zGo w' _ _ _ a (d.grown v) t x;have y:Hid (a.alike m n=((a.area m:Int)==(a.area n:Int))):=rfl;go_in;apply wp_cut;intro z k;go_wp2;apply k.out;rw[<-l];clear l;apply wp_cut;intro z k;go_wp2_with (go_at_call 185;refine(r _ m b.1).mono ?_;rintro e w2 ⟨rfl,c⟩;have B:=zA o b.2 c;have C:=zA p b.2 c;have D:=zA q b.2 c)
 apply k.out;clear k o p q;have s:=vl <| b.1.th c;clear c;go_wp2_with (go_at_call 185;refine(r _ n s).mono ?_;rintro e E ⟨rfl,A⟩)
 go_ret;exact⟨by rw[y.out];rfl,s.th A⟩
def zAI (l:List Int)(n:Int):Nat->Nat
 |0=>0
 |i+1=>if l.getD i 0>n then zAI l n i else i+1
theorem zO3 (l:List Int)(n:Int)(i:Nat):zAI l n i<=i:=by
 induction i with
 |zero=>exact lQ
 |succ i a=>unfold zAI;split <;> omega
def zAZ (l:List Int)(n:Int)(i:Nat):List Int:=l.take i++n::l.drop i
def zEf (l:List Int)(n:Int):List Int:=zAZ l n (zAI l n l.length)
theorem zG2 (l:List Int)(n:Int)(i:Nat):(zAZ l n i).length=l.length+1:=by
 simp[zAZ];omega
theorem zD5 (l:List Int)(n:Int)(i j:Nat)(c:i<=l.length):(zAZ l n i).getD j 0=if j<i then l.getD j 0 else if j=i then n else l.getD (j-1) 0:=by
 unfold zAZ;rw[lW,List.getElem?_append,List.length_take];by_cases a:j<i
 ·rw[if_pos (by omega),if_pos a,List.getElem?_take,if_pos a,lW]
 ·rw[if_neg (by omega),if_neg a]
  by_cases b:j=i
  ·subst b
   rw[if_pos rfl,show j-min j l.length=0 by omega];rfl
  ·rw[if_neg b,show j-min i l.length=(j-1-i)+1 by omega,List.getElem?_cons_succ,List.getElem?_drop,show i+(j-1-i)=j-1 by omega,lW]
structure BdAt (w:World)(H p:Nat)(v:Value)(l:List Int):Prop where
 blk:w.heap[p]? =some (.cells #[v] 239)
 own:OwnI w H v l
 pH:H<=p
 lt:p<w.heap.size
def zQC (w:World)(H p:Nat)(l:List Int):Prop:=∃v,BdAt w H p v l
theorem BdAt.cell {w:World}{H p:Nat}{v:Value}{l:List Int}(a:BdAt w H p v l):w.cell? ⟨p,0,none⟩=some v/\w.frozen? ⟨p,0,none⟩=false:=by
 constructor
 ·unfold cell?;rw[a.blk];rfl
 ·unfold frozen?;rw[a.blk];rfl
theorem OwnI.rowOf {w:World}{H:Nat}{v:Value}{l:List Int}(a:OwnI w H v l):Row w H 3 v l.length λi=>iX (l.getD i 0):=a.row l.length rfl (λi=>l.getD i 0) λ_ _=>rfl
theorem Row.ownI {w:World}{H:Nat}{v:Value}{l:List Int}(b:Row w H 3 v l.length λi=>iX (l.getD i 0)):OwnI w H v l:=by
 have e:(List.range l.length).map (λi=>iX (l.getD i 0))=l.map λx=>iX x:=by
  apply List.ext_getElem
  ·simp
  ·intro i a c
   simp at a;simp[a]
 unfold OwnI;rw[<-e];exact b
def Stay (w w':World):Prop:=∀(k:Nat) (c:Array Value) (t:TypeId),w.heap[k]? =some (Obj.cells c t)->t≠3->t≠239->w'.heap[k]? =some (Obj.cells c t)
structure Bz (w0 w:World)(H p g cap:Nat)(l:List Int)(n:Int)(i:Nat):Prop where
 blk:w.heap[p]? =some (.cells #[slice (some ⟨g,0,none⟩) (l.length+1) cap] 239)
 row:Row w H 3 (slice (some ⟨g,0,none⟩) (l.length+1) cap) (l.length+1) λj=>int i64 ((zAZ l n i).getD j 0)
 lt:p<w.heap.size
 keep:Keep H H w0 w
 stay:Stay w0 w
theorem Bz.step {f w:World}{H p g cap:Nat}{l:List Int}{n:Int}{i:Nat}(a:Bz f w H p g cap l n (i+1))(v:i+1<=l.length):Bz f ((w.setCell ⟨g,i+1,none⟩ (iX (l.getD i 0))).setCell ⟨g,i,none⟩ (iX n)) H p g cap l n i:=by
 have m:p≠g:=λe=>zO a.row a.blk (by decide) (by rw[e];rfl);have o:=(a.row.at (by omega)).1;refine⟨(lJ _ _ _ _ m).trans ((lJ _ _ _ _ m).trans a.blk),?_,by rw[zD,zD];exact a.lt,(a.keep.trans (zQ _ _ _ _ o)).trans (zQ _ _ _ _ o),?_⟩;rotate_left
 ·intro k c t x q y
  have r:=a.stay k c t x q y;have s:k≠g:=λe=>zO a.row r (Ne.symm q) (by rw[e];rfl);exact(lJ _ _ _ _ s).trans ((lJ _ _ _ _ s).trans r)
 refine Row.congr ((a.row.set (i+1) (iX (l.getD i 0))).set i (iX n)) λj z=>?_;rw[zD5 l n i j (by omega)];by_cases b:j=i
 ·rw[if_pos b,if_neg (by omega),if_pos b]
 ·rw[if_neg b]
  by_cases d:j=i+1
  ·rw[if_pos d,if_neg (by omega),if_neg b,show j-1=i by omega]
  ·rw[if_neg d,zD5 l n (i+1) j v]
   by_cases u:j<i
   ·rw[if_pos (by omega),if_pos u]
   ·rw[if_neg (by omega),if_neg d,if_neg u,if_neg b]
theorem Bz.drewed {c X:World}{a:Addr}{u:Value}{H p g cap:Nat}{l:List Int}{n:Int}{i:Nat}(b:Bz c (X.setCell a u) H p g cap l n i):Bz c (X.drew.setCell a u) H p g cap l n i:=⟨b.1,b.2,b.3,⟨b.keep.os,b.keep.output,b.keep.size,b.keep.block⟩,b.stay⟩
theorem zLd (w:World)(H p:Nat)(v:Value)(l:List Int)(m:BdAt w H p v l)(aE:l.length<=1000000000000)(n:Int):
  Calls prog 183 #[pX p,iX n] w λe w'=>e=rX/\zQC w' H p (zEf l n)/\Keep H H w w'/\Stay w w':=by
 have ⟨ae,af,ag,ah,ai⟩:=info_parts yW;obtain⟨ao,cap,rfl⟩:=m.own.form;have ⟨M,N⟩:=m.cell;have B:=vl m;have C:=vl m.own;have O:=m.pH;have P:=m.lt;have aj:=vl <| zO m.own m.blk (by decide);have ak:H<=w.heap.size:=by omega
 go_in;apply wp_cut;intro aF al;go_wp2_with (at_builtin;refine wpList_append_lies _ rfl _ _ 45 rfl (H) 3 ae zX 1 8 underlying45 af ag ah ai rfl (by decide) _ _ _ rfl (C.alloc _) ⟨w.heap.size,0,none⟩ 1 1 [iX n] rfl rfl (cell_one_new _ _ _) (by intro u R;simp at R;subst R;rfl) (by decide) (by unfold maxLen;omega) (by omega) (by simp;omega) _ rfl ?_;intro a f w2 D r am aG;have s:w2.heap[p]? =w.heap[p]? :=(r.block p (by simp;omega) aj).trans (lG _ _ _ P);have t0:w2.cell? ⟨p,0,none⟩=some (slice ao l.length cap):=(gW s).trans M;have an:w2.frozen? ⟨p,0,none⟩=false:=(gV s).trans N)
 apply al.out;obtain⟨z,S,T⟩:∃z,z=w2.setCell ⟨p,0,none⟩ (slice (qX a) (l.length+1) f)/\Hid (Bz w z H p a f l n l.length):=by
  refine⟨_,rfl,?_,?_,?_,?_,?_⟩
  ·have E:=s.trans B.blk
   simp[setCell,lU,E]
  ·have ap:=OwnI.snoc D
   have F:a≠p:=λe=>zO D (s.trans B.blk) (by decide) (by rw[<-e];rfl);have y:Row w2 H 3 (slice (qX a) (l.length+1) f) (l.length+1) λj=>iX ((zAZ l n l.length).getD j 0):=by
    refine ap.row (l.length+1) (by simp) _ λj aH=>?_;simp[zAZ]
   exact y.blk λg _ _ aq=>lJ _ _ _ _ λe=>F (by have ar:a=g:=(by simpa[Value.ownBlock] using aq);rw[ar,e])
  ·rw[zD];exact lZ P (lY (by simp) r.size)
  ·exact(xS (xU C r ak)).trans (zQ _ _ _ _ O)
  ·intro k c t d au av
   have aw:k<w.heap.size:=by
    rcases Nat.lt_or_ge k w.heap.size with G|G
    ·exact G
    ·rw[Array.getElem?_eq_none G] at d;cases d
   have ax:k≠p:=λe=>by
    rw[e,B.out.blk] at d;injection d with d;injection d with _ d;exact av d.symm
   exact(lJ _ _ _ _ ax).trans ((r.block k (by simp;omega) (zO C d (Ne.symm au))).trans ((lG _ _ _ aw).trans d))
 rw[<-S];clear S s t0 an D r am M N;have y3:z.cell? ⟨p,0,none⟩=some (slice (qX a) (l.length+1) f):=by unfold cell?;rw[T.out.blk];rfl
 go_wp2;clear y3;go_loopg [4] l.length (λq x wr=>∃i:Nat,q=i/\i<=l.length/\x=iX (i:Int)/\Bz w wr H p a f l n i/\zAI l n l.length=zAI l n i)
 case atStart=>exact⟨l.length,rfl,lQ,(by first|rfl|(congr 1;omega)),T,rfl⟩
 case round=>
  obtain⟨i,I,U,rfl,b,A⟩:=hrel;have V:Hid (gk=i/\Bz w wr H p a f l n i/\zAI l n l.length=zAI l n i):=⟨I,b,A⟩
  have y3:wr.cell? ⟨p,0,none⟩=some (slice (qX a) (l.length+1) f):=by unfold cell?;rw[b.blk];rfl
  have fin:zAI l n i=i->zQC wr H p (zEf l n)/\Keep H H w wr/\Stay w wr:=λe=>by
   refine⟨⟨_,b.blk,?_,O,b.lt⟩,b.keep,b.stay⟩;have y:=b.row;rw[show i=zAI l n l.length by rw[A,e]] at y;have ay:l.length+1=(zEf l n).length:=(zG2 _ _ _).symm;rw[ay] at y ⊢;exact Row.ownI y
  have W:=vl fin;clear fin;cases i with
  |zero=>
   clear I b A;go_wp2;go_end0;exact⟨rfl,W rfl⟩
  |succ i=>
   have ⟨az,aA,J,K⟩:=b.row.at (by omega)
   have X:(zAZ l n (i+1)).getD i 0=l.getD i 0:=by rw[zD5 l n (i+1) i U,if_pos (by omega)]
   have Y:wr.cell? ⟨a,i,none⟩=some (iX (l.getD i 0)):=by rw[<-X];exact J i (by omega)
   have y5:=J (i+1) (by omega);have aa:=K i;have aB:=K (i+1);have ab:Hid (zAI l n (i+1)=if l.getD i 0>n then zAI l n i else i+1):=rfl;have F:a≠p:=λe=>zO b.row b.blk (by decide) (by rw[<-e];rfl);have aI:=zO3 l n i;have aJ:(0:Int)<((i+1:Nat):Int):=by omega
   have aK:(i:Int)<((l.length+1:Nat):Int):=by omega
   have aL:((i+1:Nat):Int)<((l.length+1:Nat):Int):=by omega
   have aM:IntKind.i64.wrap (((i+1:Nat):Int)-1)=(i:Int):=by rw[zA8 _ (by omega) (by omega)];omega
   have aC:=vl <| b.step U;clear I b A X az aA J K;generalize l.getD i 0=x at *;generalize (zAZ l n (i+1)).getD (i+1) 0=aN at *;by_cases ac:x>n
   ·have L:Hid (zAI l n (i+1)=zAI l n i):=by show _=_;rw[ab.out,if_pos ac]
    go_wp2;go_region;obtain⟨o,ad,aD,q3,q4,q5⟩:∃o,o=(wr.setCell ⟨a,i+1,none⟩ (iX x)).drew/\Hid (Bz w (o.setCell ⟨a,i,none⟩ (iX n)) H p a f l n i)/\o.cell? ⟨p,0,none⟩=some (slice (qX a) (l.length+1) f)/\o.cell? ⟨a,i,none⟩=some (iX x)/\o.frozen? ⟨a,i,none⟩=false:=by
     have E:(wr.setCell ⟨a,i+1,none⟩ (iX x)).heap[p]? =wr.heap[p]? :=lJ _ _ _ _ (Ne.symm F);refine⟨_,rfl,aC.drewed,(gW E).trans y3,?_,?_⟩
     ·show(wr.setCell ⟨a,i+1,none⟩ (iX x)).cell? ⟨a,i,none⟩=_
      rw[World.cell?_setCell_other]
      ·exact Y
      ·intro e
       injection e with _ e _;omega
     ·show(wr.setCell ⟨a,i+1,none⟩ (iX x)).frozen? ⟨a,i,none⟩=_
      simpa using aa
    rw[<-ad];clear ad y3 Y y5 aa aB;go_wp2;go_roundg i
    case measure=>rw[V.out.1];omega
    case rel=>exact⟨i,rfl,by omega,by go_num,aD,by rw[V.out.2.2,L.out]⟩
   ·have L:Hid (zAI l n (i+1)=i+1):=by show _=_;rw[ab.out,if_neg ac]
    go_wp2;go_end0;exact⟨rfl,W L⟩
def zOK (l:List Int)(r:Int×Int):List Int:=zEf (zEf l r.1) (r.2+1)
def inR (l:List Int)(rs:List (Int×Int)):List Int:=rs.foldl zOK l
def xJ (sets:List Cs):List Int:=sets.foldl (λl s=>inR l s.ranges) [0,55296,57344,1114112]
theorem zDi {a c:Type}(f:c->a->c)(b:c)(l:List a)(e:a)(k:Nat)(g:k<l.length):(l.take (k+1)).foldl f b=f ((l.take k).foldl f b) (l.getD k e):=by
 rw[List.take_add_one,List.foldl_append,lW,lV g];rfl
theorem zF1 (l:List Int)(n:Int):(zEf l n).length=l.length+1:=zG2 _ _ _
theorem zLK (l:List Int)(a:List (Int×Int)):(inR l a).length=l.length+2*a.length:=by
 unfold inR;induction a generalizing l with
 |nil=>simp
 |cons r a b=>
  rw[List.foldl_cons,b];unfold zOK;rw[zF1,zF1,hU];omega
def yQ:List Cs->Nat
 |[]=>0
 |s::l=>s.ranges.length+yQ l
theorem zGk (sets:List Cs)(l:List Int):(sets.foldl (λl s=>inR l s.ranges) l).length=l.length+2*yQ sets:=by
 induction sets generalizing l with
 |nil=>simp[yQ]
 |cons s sets a=>
  rw[List.foldl_cons,a,zLK];simp only[yQ];omega
theorem zEG (sets:List Cs)(j:Nat)(a:j<sets.length):yQ (sets.take j)+(sets.getD j ⟨[],false⟩).ranges.length<=yQ sets:=by
 induction sets generalizing j with
 |nil=>simp at a
 |cons s sets b=>
  cases j with
  |zero=>simp[yQ]
  |succ j=>
   have:=b j (by simpa using a);simp only[List.take_succ_cons,yQ,List.getD_cons_succ];omega
structure Bo (w wr:World)(l:List Int):Prop where
 bd:zQC wr (w.heap.size+1) (w.heap.size+2) l
 res:wr.heap[w.heap.size]? =some (.cells #[slice none 0 0] 239)
 keep:Grew w wr
theorem Bo.grown {w wr w2:World}{l:List Int}(c:Bo w wr l)(a:Grew wr w2):Bo w w2 l:=by
 have ⟨v,b⟩:=c.bd;have d:=b.lt;exact⟨⟨v,(a.block _ d (kJ d)).trans b.blk,zL b.own a,b.pH,lZ d a.size⟩,(a.block _ (by omega) (by omega)).trans c.res,c.keep.trans (a.lower (by omega) (by omega))⟩
theorem Bo.add {w wr:World}{l:List Int}(a:Bo w wr l)(c:l.length<=1000000000000)(n:Int):
  Calls prog 183 #[pointer (some ⟨w.heap.size+2,0,none⟩),iX n] wr λe w'=>e=rX/\Bo w w' (zEf l n)/\wr.heap.size<=w'.heap.size/\Stay wr w':=by
 have ⟨v,d⟩:=a.bd;refine(zLd wr _ _ v l d c n).mono ?_;rintro e w2 ⟨rfl,f,b,g⟩;exact⟨rfl,⟨f,(b.block _ (by omega) (by omega)).trans a.res,a.keep.trans (b.lower (by omega) (by omega))⟩,b.size,g⟩
theorem Bo.start (w:World):Bo w (((w.alloc (.cells #[nX] 239)).alloc (.cells #[zX,iX 55296,iX 57344,iX 1114112] 3)).alloc (.cells #[slice (some ⟨w.heap.size+1,0,none⟩) 4 4] 239)) [0,55296,57344,1114112]:=by
 obtain⟨w1,b⟩:∃w1,w1=w.alloc (.cells #[nX] 239):=⟨_,rfl⟩
 have g:w1.heap[w.heap.size]? =some (.cells #[nX] 239):=by rw[b];exact gY w _
 have h:Grew w w1:=by rw[b];exact kZ _ _ lQ
 have s1:w1.heap.size=w.heap.size+1:=by rw[b];simp
 rw[<-b];obtain⟨w2,c⟩:∃w2,w2=w1.alloc (.cells #[zX,iX 55296,iX 57344,iX 1114112] 3):=⟨_,rfl⟩
 have j:w2.heap[w.heap.size+1]? =some (.cells #[zX,iX 55296,iX 57344,iX 1114112] 3):=by rw[c,<-s1];exact gY w1 _
 have f:Grew w1 w2:=by rw[c];exact kZ _ _ lQ
 have s2:w2.heap.size=w.heap.size+2:=by rw[c];simp[s1]
 rw[<-c];obtain⟨a,d⟩:∃a,a=w2.alloc (.cells #[slice (some ⟨w.heap.size+1,0,none⟩) 4 4] 239):=⟨_,rfl⟩
 have k:a.heap[w.heap.size+2]? =some (.cells #[slice (some ⟨w.heap.size+1,0,none⟩) 4 4] 239):=by rw[d,<-s2];exact gY w2 _
 have e:Grew w2 a:=by rw[d];exact kZ _ _ lQ
 have l:a.heap.size=w.heap.size+3:=by rw[d];simp[s2]
 rw[<-d];refine⟨⟨_,k,zL ⟨rfl,.inr ⟨w.heap.size+1,4,#[zX,iX 55296,iX 57344,iX 1114112],rfl,by omega,j,lQ,by unfold maxLen;omega,rfl,rfl⟩⟩ e,by omega,by omega⟩,?_,(h.trans (f.lower (by omega) (by omega))).trans (e.lower (by omega) (by omega))⟩;exact(e.block _ (by omega) (by omega)).trans ((f.block _ (by omega) (by omega)).trans g)
def Cs.Small (s:Cs):Prop:=∀r∈s.ranges,-4294967296<=r.1/\r.1<=4294967296/\ -4294967296<=r.2/\r.2<=4294967296
theorem zE4 (w:World)(v:Value)(sets:List Cs)(ae:SetsAt w v sets)(aG:sets.length<=24)(L:yQ sets<=100000000000)(M:∀s∈sets,s.Small):
  Calls prog 167 #[v] w λe w'=>∃u,e=returned (agg #[u])/\OwnI w' w.heap.size u (xJ sets)/\Grew w w':=by
 obtain⟨ao,cap,rfl,_,_,r⟩:=ae;have af:=vl r;have ag:Hid (∀i,i<sets.length->(sets.getD i ⟨[],false⟩).Small):=λi ah=>M _ (zV _ i _ ah);have N:=Bo.start w;have O:=vl L;clear r M L;go_in;apply wp_cut;intro ai g;go_wp2;apply g.out;clear g;apply wp_cut;intro ai g;go_wp2;apply g.out;clear g;generalize ((w.alloc (.cells #[nX] 239)).alloc (.cells #[zX,iX 55296,iX 57344,iX 1114112] 3)).alloc (.cells #[slice (some ⟨w.heap.size+1,0,none⟩) 4 4] 239)=w1 at *;have aj:=vl N;clear N;go_wp2;go_loopg [12] sets.length (λq i wr=>∃j:Nat,q=sets.length-j/\j<=sets.length/\i=iX (j:Int)/\Bo w wr (xJ (sets.take j)))
 case atStart=>exact⟨0,rfl,lX,rfl,by rw[List.take_zero];exact aj⟩
 case round=>
  obtain⟨j,d,aH,rfl,a⟩:=hrel;have P:Hid (gk=sets.length-j/\Bo w wr (xJ (sets.take j))):=⟨d,a⟩
  by_cases t:j<sets.length
  ·have ak:(j:Int)<(sets.length:Int):=by omega
   obtain⟨b,o,u,rfl,f,c0,c1,R⟩:=af j t;have B:=ag j t;have z:=zA c0 f a.keep;have A:=zA c1 f a.keep;obtain⟨s,C⟩:∃s,sets.getD j ⟨[],false⟩=s:=⟨_,rfl⟩
   have D:=zEG sets j t;rw[C] at R A B D;have S:Hid (sets.getD j ⟨[],false⟩=s/\yQ (sets.take j)+s.ranges.length<=yQ sets):=⟨C,D⟩
   obtain⟨T,U,rfl,_,_,V⟩:=R;have al:=vl V;have am:Hid s.Small:=B;have aI:s.ranges.length<=100000000000:=by have:=O.out;omega
   clear V B C D c0 c1 d a;go_wp2;have an:Hid (Bo w (wr.alloc (.cells #[slice T s.ranges.length U,bool s.others] 161)) (xJ (sets.take j))):=P.2.grown (kZ _ _ lQ);generalize wr.alloc (.cells #[slice T s.ranges.length U,bool s.others] 161)=w2 at *;clear z A;go_loopg [19] s.ranges.length (λq i ap=>∃k:Nat,q=s.ranges.length-k/\k<=s.ranges.length/\i=iX (k:Int)/\Bo w ap (inR (xJ (sets.take j)) (s.ranges.take k)))
   case atStart=>exact⟨0,rfl,lX,rfl,by rw[List.take_zero];exact an⟩
   case round=>
    obtain⟨k,d,aJ,rfl,a⟩:=hrel;have E:Hid (gk=s.ranges.length-k/\Bo w wr (inR (xJ (sets.take j)) (s.ranges.take k))):=⟨d,a⟩
    by_cases F:k<s.ranges.length
    ·have aq:(k:Int)<(s.ranges.length:Int):=by omega
     obtain⟨aK,aL,rfl,W,X,Y⟩:=al k F;have z:=zA X W a.keep;have A:=zA Y W a.keep;have ⟨m1,m2,ar,aw⟩:=am _ (zV s.ranges k (0,0) F);have aa:Hid (inR (xJ (sets.take j)) (s.ranges.take (k+1))=zOK (inR (xJ (sets.take j)) (s.ranges.take k)) (s.ranges.getD k (0,0))):=zDi _ _ _ (0,0) k F;have G:Hid ((inR (xJ (sets.take j)) (s.ranges.take k)).length+2<=1000000000000):=by
      have aM:=S.2;have aN:=O.out;have r:(xJ (sets.take j)).length=4+2*yQ (sets.take j):=zGk _ _;show _<=_;rw[zLK,r,List.length_take];omega
     obtain⟨l,ab⟩:∃l,inR (xJ (sets.take j)) (s.ranges.take k)=l:=⟨_,rfl⟩
     rw[ab] at aa G E;clear X Y d a ab;obtain⟨x,I⟩:∃x,(s.ranges.getD k (0,0)).1=x:=⟨_,rfl⟩
     obtain⟨y,J⟩:∃y,(s.ranges.getD k (0,0)).2=y:=⟨_,rfl⟩
     have ax:Hid (zOK l (s.ranges.getD k (0,0))=zEf (zEf l x) (y+1)):=by show _=_;unfold zOK;rw[I,J]
     rw[I] at z m1 m2;rw[J] at A ar aw;clear I J;have ac:Hid (Bo w (wr.alloc (.cells #[iX x,iX y] 255)) l/\(wr.alloc (.cells #[iX x,iX y] 255)).heap[wr.heap.size]? =some (.cells #[iX x,iX y] 255)):=⟨E.2.grown (kZ _ _ lQ),gY wr _⟩
     have ay:Hid (∀m,Bo w m l->_):=λm c=>c.add (lY (Nat.le_add_right _ 2) G) x;have az:Hid (∀m,Bo w m (zEf l x)->_):=λm c=>c.add (by rw[zF1];have:=G.out;omega) (y+1);go_wp2_with (go_at_call 183;first|(refine (az _ aA).mono ?_;rintro e aO ⟨rfl,aB,-,-⟩)|(refine (ay _ ac.1).mono ?_;rintro e aC ⟨rfl,aA,aP,aD⟩;have aQ:aC.cell? ⟨wr.heap.size,1,none⟩=some (iX y):=(by have c:=aD _ _ _ ac.2 (by decide) (by decide);unfold cell?;rw[c];rfl)))
     go_roundg (s.ranges.length-(k+1))
     case measure=>rw[E.out.1];omega
     case rel=>exact⟨k+1,rfl,by omega,by go_num,by rw[aa.out,ax.out];exact aB⟩
    ·have aq:(s.ranges.length:Int)<=(k:Int):=by omega
     have p:Hid (Bo w wr (xJ (sets.take (j+1)))):=by
      have c:=a;have aE:s.ranges.take k=s.ranges:=List.take_of_length_le (by omega);rw[aE] at c;have e:xJ (sets.take (j+1))=inR (xJ (sets.take j)) s.ranges:=by
       rw[<-S.out.1];exact zDi _ _ _ ⟨[],false⟩ j t
      show Bo _ _ _;rw[e];exact c
     clear d a;go_wp2;go_roundg (sets.length-(j+1))
     case measure=>rw[P.out.1];omega
     case rel=>exact⟨j+1,rfl,by omega,by go_num,p⟩
  ·have ak:(sets.length:Int)<=(j:Int):=by omega
   have p:Hid (Bo w wr (xJ sets)):=by
    have c:=a;rw[List.take_of_length_le (by omega)] at c;exact c
   have ⟨v,f⟩:=p.bd;obtain⟨z,-⟩:=f.cell;obtain⟨ad,cv,rfl⟩:=f.own.form;have K:=p.res;have aR:wr.cell? ⟨w.heap.size,0,none⟩=some nX:=by unfold cell?;rw[K];rfl
   have aS:wr.frozen? ⟨w.heap.size,0,none⟩=false:=by unfold frozen?;rw[K];rfl
   have aF:Hid (OwnI wr (w.heap.size+1) (slice ad (xJ sets).length cv) (xJ sets)):=f.own;clear d a f K;go_wp2;refine gJ (v:=agg #[slice ad (xJ sets).length cv]) (by simp[results,results167,go_sem, *]) rfl ⟨_,rfl,vU (H:=w.heap.size+1) (xB aF (by omega)) (by omega),p.keep.trans (zQ _ _ _ _ lQ)⟩
section
structure Aw (w:World)(H p:Nat)(lv tv sv:Value)(a:Ar):Prop where
 blk:w.heap[p]? =some (.cells #[lv,tv,sv] 172)
 lows:OwnI w H lv a.lows
 letters:OwnI w H tv a.letters
 sets:OwnI w H sv a.sets
 ne1:∀g,lv.ownBlock=some g->some g≠tv.ownBlock
 ne2:∀g,lv.ownBlock=some g->some g≠sv.ownBlock
 ne3:∀g,tv.ownBlock=some g->some g≠sv.ownBlock
 pH:p<H
 lt:H<=w.heap.size
section
variable {w w2:World} {H p:Nat} {lv tv sv:Value} {a:Ar}
theorem Aw.grown (b:Aw w H p lv tv sv a)(c:Grew w w2):Aw w2 H p lv tv sv a:=by
 have e:=b.pH;have d:=b.lt;exact⟨(c.block _ (by omega) (by omega)).trans b.blk,zL b.lows c,zL b.letters c,zL b.sets c,b.ne1,b.ne2,b.ne3,b.pH,lY d c.size⟩
theorem Aw.cells (b:Aw w H p lv tv sv a):w.cell? ⟨p,0,none⟩=some lv/\w.cell? ⟨p,1,none⟩=some tv/\w.cell? ⟨p,2,none⟩=some sv/\∀i,w.frozen? ⟨p,i,none⟩=false:=by
 refine⟨?_,?_,?_,λi=>?_⟩
 all_goals first|(unfold cell?;rw[b.blk];rfl)|(unfold frozen?;rw[b.blk];simp)
theorem qL {w:World}{H g cap n m:Nat}{v u:Value}{c:List Value}{e d:Nat}(f:w.ownsRow H e d u m c)(h:∀g,v.ownBlock=some g->some g≠u.ownBlock)(j:v.ownBlock=some g\/w.heap.size<=g):∀k,(Value.slice (qX g) n cap).ownBlock=some k->some k≠u.ownBlock:=by
 intro k l e;have o:g=k:=by simpa[Value.ownBlock] using l
 subst o;rcases j with b|b
 ·exact h g b e
 ·have:=(f.lt g e.symm).2
  omega
theorem zCI {u v:Value}(b:∀g,u.ownBlock=some g->some g≠v.ownBlock):∀g,v.ownBlock=some g->some g≠u.ownBlock:=λg c e=>b g e.symm c.symm
theorem Aw.lows_app {o:Obj}{g cap:Nat}{x:Int}(b:Aw w H p lv tv sv a)(m:w2.ownsRow H 3 1 (slice (qX g) (a.lows.length+1) cap) (a.lows.length+1) ((a.lows.map λx=>iX x)++[iX x]))(c:(w.alloc o).grownBy w2 lv.ownBlock)(d:lv.ownBlock=some g\/w.heap.size<=g):
  Aw (w2.setCell ⟨p,0,none⟩ (slice (qX g) (a.lows.length+1) cap)) H p (slice (qX g) (a.lows.length+1) cap) tv sv {a with lows:=a.lows++[x]}/\Keep H p w (w2.setCell ⟨p,0,none⟩ (slice (qX g) (a.lows.length+1) cap)):=by
 have f:=b.pH;have u:=b.lt;have l:∀j,j<H->w2.heap[j]? =w.heap[j]? :=λj v=>(c.block j (by simp;omega) λe=>by have:=(b.lows.lt j e.symm).1;omega).trans (lG _ _ _ (by omega));have q:=(l p f).trans b.blk;have r:w.heap.size<=w2.heap.size:=lY (by simp) c.size;refine⟨⟨?_,xB (OwnI.snoc m) b.pH,xB (zU c b.letters (λg c e=>b.ne1 g e.symm c.symm)) b.pH,xB (zU c b.sets (λg c e=>b.ne2 g e.symm c.symm)) b.pH,qL b.letters b.ne1 d,qL b.sets b.ne2 d,b.ne3,f,by rw[zD];omega⟩,⟨c.os,c.output,by rw[zD];exact r,λk s t=>(lJ _ _ _ _ t).trans (l k s)⟩⟩;simp[setCell,lU,q]
theorem Aw.letters_app {o:Obj}{g cap:Nat}{x:Int}(b:Aw w H p lv tv sv a)(m:w2.ownsRow H 3 1 (slice (qX g) (a.letters.length+1) cap) (a.letters.length+1) ((a.letters.map λx=>iX x)++[iX x]))(c:(w.alloc o).grownBy w2 tv.ownBlock)(d:tv.ownBlock=some g\/w.heap.size<=g):
  Aw (w2.setCell ⟨p,1,none⟩ (slice (qX g) (a.letters.length+1) cap)) H p lv (slice (qX g) (a.letters.length+1) cap) sv {a with letters:=a.letters++[x]}/\Keep H p w (w2.setCell ⟨p,1,none⟩ (slice (qX g) (a.letters.length+1) cap)):=by
 have f:=b.pH;have u:=b.lt;have l:∀j,j<H->w2.heap[j]? =w.heap[j]? :=λj v=>(c.block j (by simp;omega) λe=>by have:=(b.letters.lt j e.symm).1;omega).trans (lG _ _ _ (by omega));have q:=(l p f).trans b.blk;have r:w.heap.size<=w2.heap.size:=lY (by simp) c.size;refine⟨⟨?_,xB (zU c b.lows b.ne1) b.pH,xB (OwnI.snoc m) b.pH,xB (zU c b.sets (λg c e=>b.ne3 g e.symm c.symm)) b.pH,zCI (qL b.lows (λg c e=>b.ne1 g e.symm c.symm) d),b.ne2,qL b.sets b.ne3 d,f,by rw[zD];omega⟩,⟨c.os,c.output,by rw[zD];exact r,λk s t=>(lJ _ _ _ _ t).trans (l k s)⟩⟩;simp[setCell,lU,q]
theorem Aw.sets_app {o:Obj}{g cap:Nat}{x:Int}(b:Aw w H p lv tv sv a)(m:w2.ownsRow H 3 1 (slice (qX g) (a.sets.length+1) cap) (a.sets.length+1) ((a.sets.map λx=>iX x)++[iX x]))(c:(w.alloc o).grownBy w2 sv.ownBlock)(d:sv.ownBlock=some g\/w.heap.size<=g):
  Aw (w2.setCell ⟨p,2,none⟩ (slice (qX g) (a.sets.length+1) cap)) H p lv tv (slice (qX g) (a.sets.length+1) cap) {a with sets:=a.sets++[x]}/\Keep H p w (w2.setCell ⟨p,2,none⟩ (slice (qX g) (a.sets.length+1) cap)):=by
 have f:=b.pH;have u:=b.lt;have l:∀j,j<H->w2.heap[j]? =w.heap[j]? :=λj v=>(c.block j (by simp;omega) λe=>by have:=(b.sets.lt j e.symm).1;omega).trans (lG _ _ _ (by omega));have q:=(l p f).trans b.blk;have r:w.heap.size<=w2.heap.size:=lY (by simp) c.size;refine⟨⟨?_,xB (zU c b.lows b.ne2) b.pH,xB (zU c b.letters b.ne3) b.pH,xB (OwnI.snoc m) b.pH,b.ne1,zCI (qL b.lows (λg c e=>b.ne2 g e.symm c.symm) d),zCI (qL b.letters (λg c e=>b.ne3 g e.symm c.symm) d),f,by rw[zD];omega⟩,⟨c.os,c.output,by rw[zD];exact r,λk s t=>(lJ _ _ _ _ t).trans (l k s)⟩⟩;simp[setCell,lU,q]
end
end
def Ar.look (a:Ar)(x:Int):Nat:=a.sets.findIdx (·==x)
def Ar.seen (a:Ar)(x:Int):Ar:=if a.look x<a.sets.length then a else{a with sets:=a.sets++[x]}
def AwIs (w:World)(H p:Nat)(a:Ar):Prop:=∃lv tv sv,Aw w H p lv tv sv a
theorem zPf (a:Ar)(x:Int)(j:Nat)(b:j<a.sets.length)(c:a.sets.getD j 0=x)(d:∀i,i<j->a.sets.getD i 0≠x):a.look x=j:=by
 unfold Ar.look;rw[List.findIdx_eq b];rw[lW,lV b] at c;refine⟨by simpa using c,λi e=>?_⟩;have:=d i e;rw[lW,lV (by omega)] at this;simpa using this
theorem zMB (a:Ar)(x:Int)(c:∀i,i<a.sets.length->a.sets.getD i 0≠x):a.look x=a.sets.length:=by
 unfold Ar.look;rw[List.findIdx_eq_length];intro y d;obtain⟨i,b,rfl⟩:=List.getElem_of_mem d;have:=c i b;rw[lW,lV b] at this;simpa using this
theorem zFS (w:World)(H p:Nat)(a:Ar)(b:AwIs w H p a)(ad:a.sets.length<=1000000000000)(x:Int):
  Calls prog 168 #[pX p,iX x] w λe w'=>e=returned (iX (a.look x))/\AwIs w' H p (a.seen x)/\Keep H p w w':=by
 have ⟨G,I,J,K,L⟩:=info_parts yW;obtain⟨lv,tv,sv,b⟩:=b;obtain⟨as_,cs,rfl⟩:=b.sets.form;have ⟨ae,af,M,f⟩:=b.cells;have N:=f 2;have v:=vl b;have z:=vl b.sets;have ag:=b.pH;have O:=b.lt;have P:Hid (∀i,i<a.sets.length->∃g,as_=some ⟨g,0,none⟩/\cX w g i=some (iX (a.sets.getD i 0))):=by
  intro i k;obtain⟨g,R⟩:∃g,as_=some ⟨g,0,none⟩:=by
   rcases b.sets.2 with⟨c,ah⟩|⟨g,_,_,c,_⟩
   ·omega
   ·injection c with c _ _
    exact⟨g,c⟩
  subst R;exact⟨g,rfl,b.sets.cell i k⟩
 have S:Hid (∀j,j<a.sets.length->a.sets.getD j 0=x->(∀i,i<j->a.sets.getD i 0≠x)->a.look x=j/\a.seen x=a):=λj m c o=>by
  have e:=zPf a x j m c o;exact⟨e,by unfold Ar.seen;rw[e,if_pos m]⟩
 have T:Hid ((∀i,i<a.sets.length->a.sets.getD i 0≠x)->a.look x=a.sets.length/\a.seen x={a with sets:=a.sets++[x]}):=λo=>by
  have e:=zMB a x o;exact⟨e,by unfold Ar.seen;rw[e,if_neg (Nat.lt_irrefl _)]⟩
 go_in;go_wp2;go_loopg [12] a.sets.length (λq i wr=>∃j:Nat,q=a.sets.length-j/\j<=a.sets.length/\i=iX (j:Int)/\(∀i,i<j->a.sets.getD i 0≠x)/\wr=w)
 case atStart=>exact⟨0,rfl,lX,rfl,λi k=>by omega,rfl⟩
 case round=>
  obtain⟨j,U,m,rfl,A,V⟩:=hrel;subst V;have r:Hid (gk=a.sets.length-j/\∀i,i<j->a.sets.getD i 0≠x):=⟨U,A⟩
  by_cases B:j<a.sets.length
  ·have W:(j:Int)<(a.sets.length:Int):=by omega
   obtain⟨g,rfl,ai⟩:=P j B;have X:Hid (a.sets.getD j 0=x->a.look x=j/\a.seen x=a):=λc=>S j B c r.2;have Y:Hid (a.sets.getD j 0≠x->∀i,i<j+1->a.sets.getD i 0≠x):=λc i k=>by
    by_cases e:i=j
    ·rw[e];exact c
    ·exact r.2 i (by omega)
   generalize a.sets.getD j 0=y at *;by_cases l:y=x
   ·have d:=X l
    have C:=vl d;have aa:(y==x)=true:=by simp[l]
    go_wp2;go_ret;exact⟨by rw[C.out.1];rfl,by rw[C.out.2];exact⟨_,_,_,v⟩,⟨rfl,rfl,lQ,λ_ _ _=>rfl⟩⟩
   ·have d:=vl <| Y l
    have aa:(y==x)=false:=by simp[l]
    go_wp2;go_roundg (a.sets.length-(j+1))
    case measure=>rw[r.out.1];omega
    case rel=>exact⟨j+1,rfl,by omega,by go_num,d,rfl⟩
  ·have W:(a.sets.length:Int)<=(j:Int):=by omega
   have d:=vl <| T λi k=>A i (by omega);have aj:=O;go_wp2_with (at_builtin;refine wpList_append_lies _ rfl _ _ 45 rfl (H) 3 G zX 1 8 underlying45 I J K L rfl (by decide) _ _ _ rfl (z.alloc _) ⟨wr.heap.size,0,none⟩ 1 1 [iX x] rfl rfl (cell_one_new _ _ _) (by intro u D;simp at D;subst D;rfl) (by decide) (by unfold maxLen;omega) (by omega) (by simp;omega) _ rfl ?_;intro ak al w2 ab E ac am;have F:=(E.block p (by simp;omega) (λe=>by have:=(z.lt _ e.symm).1;omega)).trans (lG _ _ _ (by omega));have an:=(gW F).trans M;have ao:=(gV F).trans N;have s:=Aw.sets_app v ab E (by rcases ac with t|t;exact .inl t;right;rw[t];simp);have ap:=s.1.cells.2.2.1)
   go_ret;refine⟨?_,by rw[d.out.2];exact⟨_,_,_,s.1⟩,s.2⟩;rw[d.out.1]
   first|rfl|(simp;done)|(show _=_;congr 2;omega)
section
variable (sets:List Cs) (a:Ar) (low:Int)
theorem AwIs.grown {w w2:World}{H p:Nat}{a:Ar}(b:AwIs w H p a)(c:Grew w w2):AwIs w2 H p a:=by
 obtain⟨lv,tv,sv,b⟩:=b;exact⟨lv,tv,sv,b.grown c⟩
def Ar.turns (a:Ar)(l:Nat):Bool:=a.letters.length==0||(a.letters.getD (a.letters.length-1) 0 != (l:Int))
def Ar.step (sets:List Cs)(a:Ar)(low:Int):Ar:=
 if(a.seen (yF sets low)).turns (a.look (yF sets low)) then{a.seen (yF sets low) with lows:=(a.seen (yF sets low)).lows++[low],letters:=(a.seen (yF sets low)).letters++[(a.look (yF sets low):Int)]} else a.seen (yF sets low)
def vO (sets:List Cs)(j:Nat):Ar:=((xJ sets).take j).foldl (Ar.step sets) ⟨[],[],[]⟩
def xN (sets:List Cs):Ar:=(xJ sets).foldl (Ar.step sets) ⟨[],[],[]⟩
theorem zCa (j:Nat)(a:j<(xJ sets).length):vO sets (j+1)=(vO sets j).step sets ((xJ sets).getD j 0):=zDi _ _ _ 0 j a
theorem zFL (j:Nat)(a:(xJ sets).length<=j):vO sets j=xN sets:=by
 unfold vO;rw[List.take_of_length_le a];rfl
theorem zFw (x:Int):(a.seen x).lows=a.lows/\(a.seen x).letters=a.letters/\(a.seen x).sets.length<=a.sets.length+1:=by
 unfold Ar.seen;split
 ·exact⟨rfl,rfl,by omega⟩
 ·exact⟨rfl,rfl,by simp⟩
theorem zKi (n:Nat)(d:a.lows.length=a.letters.length/\a.lows.length<=n/\a.sets.length<=n):(a.step sets low).lows.length=(a.step sets low).letters.length/\(a.step sets low).lows.length<=n+1/\(a.step sets low).sets.length<=n+1:=by
 have ⟨b,c,e⟩:=zFw a (yF sets low);unfold Ar.step;split
 ·show((a.seen _).lows++[low]).length=((a.seen _).letters++[_]).length/\((a.seen _).lows++[low]).length<=n+1/\(a.seen _).sets.length<=n+1
  rw[b,c,kX,kX];simp only[List.length_singleton];omega
 ·rw[b,c]
  omega
theorem zDC (j:Nat)(b:j<=(xJ sets).length):(vO sets j).lows.length=(vO sets j).letters.length/\(vO sets j).lows.length<=j/\(vO sets j).sets.length<=j:=by
 induction j with
 |zero=>exact⟨rfl,lQ,lQ⟩
 |succ j a=>
  rw[zCa sets j (by omega)];exact zKi sets _ _ j (a (by omega))
theorem Ar.step_yes (b:(a.seen (yF sets low)).turns (a.look (yF sets low))=true):a.step sets low={a.seen (yF sets low) with lows:=(a.seen (yF sets low)).lows++[low],letters:=(a.seen (yF sets low)).letters++[(a.look (yF sets low):Int)]}:=by
 unfold Ar.step;rw[if_pos b]
theorem Ar.step_no (b:(a.seen (yF sets low)).turns (a.look (yF sets low))=false):a.step sets low=a.seen (yF sets low):=by
 unfold Ar.step;rw[b];rfl
end
theorem OwnI.some {w:World}{H n cap:Nat}{ao:Option Addr}{l:List Int}(a:OwnI w H (slice ao n cap) l)(b:0<l.length):∃g,ao=some ⟨g,0,none⟩:=by
 rcases a.2 with⟨_,c⟩|⟨g,_,_,a,_⟩
 ·omega
 ·injection a with a _ _
  exact⟨g,a⟩
theorem zA0 {w:World}{H:Nat}{v:Value}{l:List Int}(a:OwnI w H v l):Ints w (In w) v l:=zCc a λg b=>(a.lt g b).2
theorem zKw (w:World)(v:Value)(sets:List Cs)(aU:SetsAt w v sets)(aV:sets.length<=24)(a7:yQ sets<=100000000000)(a8:∀s∈sets,s.Small):
  Calls prog 127 #[v] w λe w'=>∃lv tv sv,e=returned (agg #[lv,tv,sv])/\ArAt w' lv tv sv (xN sets)/\Grew w w':=by
 have ⟨am,an,ao,T,Y⟩:=info_parts yW;have a9:Hid (∀w',Grew w w'->_):=λw' O=>zE4 w' v sets (aU.grown O) aV a7 a8;have ba:Hid (∀w' c,Grew w w'->_):=λw' c O=>zHO w' v sets (aU.grown O) aV (λs bb=>by
  obtain⟨i,ap,rfl⟩:=List.getElem_of_mem bb;have b:=zEG sets i ap;rw[lW,lV ap] at b;have bt:sets[i].ranges.length<=yQ sets:=by simpa using (lY (Nat.le_add_left _ _) b)
  omega) c
 have bu:(xJ sets).length<=500000000000:=by
  have:(xJ sets).length=4+2*yQ sets:=zGk _ _;omega
 have bc:Hid (∀j,j<=(xJ sets).length->_):=λj aC=>zDC sets j aC;have bd:w.heap.size<(w.alloc (.cells #[nX,nX,nX] 172)).heap.size:=by simp
 obtain⟨w1,aW,aq⟩:∃w1,w1=w.alloc (.cells #[nX,nX,nX] 172)/\Hid (Grew w w1/\w1.heap[w.heap.size]? =some (.cells #[nX,nX,nX] 172)/\w.heap.size<w1.heap.size):=⟨_,rfl,kZ _ _ lQ,gY w _,by simp⟩
 go_in;apply wp_cut;intro aX K;go_wp2;apply K.out;clear K;rw[<-aW];clear aW bd;apply wp_cut;intro aX K;go_wp2_with (go_at_call 167;refine(a9 _ aq.1).mono ?_;rintro e w2 ⟨u,rfl,o,ar⟩;obtain⟨P,aa,rfl⟩:=o.form)
 apply K.out;clear K;apply wp_cut;intro aX K;go_wp2;apply K.out;clear K;obtain⟨f,R,ab,bv⟩:∃f,f=(w2.alloc (.cells #[slice P (xJ sets).length aa] 239)).alloc (.cells #[nX,nX,nX] 172)/\Hid (AwIs f (w2.heap.size+2) (w2.heap.size+1) ⟨[],[],[]⟩/\Grew w f/\f.heap[w.heap.size]? =some (.cells #[nX,nX,nX] 172)/\f.cell? ⟨w2.heap.size,0,none⟩=some (slice P (xJ sets).length aa)/\(∀i,i<(xJ sets).length->∃g,P=some ⟨g,0,none⟩/\g<w2.heap.size/\f.cell? ⟨g,i,none⟩=some (iX ((xJ sets).getD i 0))))/\w.heap.size<w2.heap.size:=by
  obtain⟨F,av⟩:∃F,F=w2.alloc (.cells #[slice P (xJ sets).length aa] 239):=⟨_,rfl⟩
  have be:F.heap[w2.heap.size]? =some (.cells #[slice P (xJ sets).length aa] 239):=by rw[av];exact gY w2 _
  have aD:Grew w2 F:=by rw[av];exact kZ _ _ lQ
  have aY:F.heap.size=w2.heap.size+1:=by rw[av];simp
  rw[<-av];obtain⟨f,R⟩:∃f,f=F.alloc (.cells #[nX,nX,nX] 172):=⟨_,rfl⟩
  have bf:f.heap[w2.heap.size+1]? =some (.cells #[nX,nX,nX] 172):=by rw[R,<-aY];exact gY F _
  have aw:Grew F f:=by rw[R];exact kZ _ _ lQ
  have bw:f.heap.size=w2.heap.size+2:=by rw[R];simp[aY]
  have T:=aq.2.2;have Y:=ar.size;have bg:Grew w f:=((aq.1.trans (ar.lower (by omega) (by omega))).trans (aD.lower (by omega) (by omega))).trans (aw.lower (by omega) (by omega));refine⟨f,R,⟨⟨_,_,_,⟨bf,ownsRow_nil _ _ _ _,ownsRow_nil _ _ _ _,ownsRow_nil _ _ _ _,λg b=>by simp[Value.ownBlock] at b,λg b=>by simp[Value.ownBlock] at b,λg b=>by simp[Value.ownBlock] at b,by omega,by omega⟩⟩,bg,?_,?_,?_⟩,by omega⟩
  ·exact(aw.block _ (by omega) (by omega)).trans ((aD.block _ (by omega) (by omega)).trans ((ar.block _ T (by omega)).trans aq.2.1))
  ·have e:f.heap[w2.heap.size]? =some (.cells #[slice P (xJ sets).length aa] 239):=(aw.block _ (by omega) (by omega)).trans be
   unfold cell?;rw[e];rfl
  ·intro i ap
   obtain⟨g,aZ⟩:∃g,P=some ⟨g,0,none⟩:=by
    rcases o.2 with⟨b,bx⟩|⟨g,_,_,b,_⟩
    ·omega
    ·injection b with b _ _
     exact⟨g,b⟩
   subst aZ;have a0:=(o.lt g rfl).2;exact⟨g,rfl,a0,zA (zA (o.cell i ap) a0 aD) (by omega) aw⟩
 rw[<-R];clear R o ar;have bh:=ab.2.2.2.1;go_wp2;clear bh;go_loopg [15] (xJ sets).length (λq i wr=>∃j:Nat,q=(xJ sets).length-j/\j<=(xJ sets).length/\i=iX (j:Int)/\AwIs wr (w2.heap.size+2) (w2.heap.size+1) (vO sets j)/\Keep (w2.heap.size+2) (w2.heap.size+1) f wr)
 case atStart=>exact⟨0,rfl,lX,rfl,by unfold vO;rw[List.take_zero];exact ab.1,⟨rfl,rfl,lQ,λ_ _ _=>rfl⟩⟩
 case round=>
  obtain⟨j,aE,aC,rfl,U,V⟩:=hrel;have r:Hid (gk=(xJ sets).length-j/\AwIs wr (w2.heap.size+2) (w2.heap.size+1) (vO sets j)/\Keep (w2.heap.size+2) (w2.heap.size+1) f wr/\Grew w wr):=⟨aE,U,V,ab.2.1.trans (V.lower (by omega) (by omega))⟩
  by_cases a1:j<(xJ sets).length
  ·have bi:(j:Int)<((xJ sets).length:Int):=by omega
   obtain⟨g,rfl,aZ,a2⟩:=ab.2.2.2.2 j a1;have bz:wr.cell? ⟨g,j,none⟩=some (iX ((xJ sets).getD j 0)):=(gW (V.block g (by omega) (by omega))).trans a2;have aF:=vl <| zCa sets j a1;have aG:=bc j aC;clear aE V a2;generalize (xJ sets).getD j 0=low at *;generalize bA:(xJ sets).length=aH at *;obtain⟨x,W⟩:∃x,yF sets low=x:=⟨_,rfl⟩
   obtain⟨a,m⟩:∃a,vO sets j=a:=⟨_,rfl⟩
   rw[m] at aF aG U r;have aI:=zFw a x;have a3:Hid ((a.seen x).turns (a.look x)=true->vO sets (j+1)={a.seen x with lows:=(a.seen x).lows++[low],letters:=(a.seen x).letters++[(a.look x:Int)]}):=λb=>by
    rw[aF.out];have:=Ar.step_yes sets a low (by rw[W];exact b);rw[W] at this;exact this
   have bj:Hid ((a.seen x).turns (a.look x)=false->vO sets (j+1)=a.seen x):=λb=>by
    rw[aF.out];have:=Ar.step_no sets a low (by rw[W];exact b);rw[W] at this;exact this
   have aJ:Hid (∀w',Grew w w'->Ca 169 #[v,iX low] w' λe w2=>e=returned (iX (x:Nat))/\Grew w' w2):=λw' b=>by rw[<-W];exact ba w' low b
   have aK:Hid (∀w',AwIs w' (w2.heap.size+2) (w2.heap.size+1) a->_):=λw' b=>zFS w' _ _ a b (by omega) x;have bB:(a.seen x).lows.length<=500000000000:=by rw[aI.1];omega
   have bk:(a.seen x).letters.length<=500000000000:=by rw[aI.2.1,<-aG.1];omega
   clear aI aG;have bC:w2.heap.size+2<=wr.heap.size:=by
    obtain⟨_,_,_,b⟩:=U;exact b.lt
   clear m W U;by_cases ax:(a.seen x).letters.length=0
   ·have ac:=vl <| a3 (by unfold Ar.turns;rw[ax];rfl)
    have y:=vl ax;clear ax;go_wp2_with (first|(go_at_call 169;refine(aJ _ r.2.2.2).mono ?_;rintro e a4 ⟨rfl,D⟩)|(go_at_call 168;refine(aK _ (r.2.1.grown D)).mono ?_;rintro e p ⟨rfl,⟨lv,tv,sv,d⟩,L⟩;have ⟨ad,aL,q2,ae⟩:=d.cells;obtain⟨A,B,rfl⟩:=d.lows.form;have ⟨at_,z,M⟩:=d.letters.form;rw[y.out] at M;subst M;have G:Hid (Aw p (w2.heap.size+2) (w2.heap.size+1) (slice A (a.seen x).lows.length B) (slice at_ 0 z) sv (a.seen x)/\Keep (w2.heap.size+2) (w2.heap.size+1) f p):=⟨d,(r.2.2.1.trans (D.lower (by omega) (by omega))).trans L⟩;have ay:=d.lt;have X:p.ownsRow (w2.heap.size+2) 3 1 (slice A (a.seen x).lows.length B) (a.seen x).lows.length ((a.seen x).lows.map λx=>iX x):=d.lows;clear d L D ae q2)|(at_builtin;refine wpList_append_lies _ rfl _ _ 45 rfl (w2.heap.size+2) 3 am zX 1 8 underlying45 an ao T Y rfl (by decide) _ _ _ rfl (af.alloc _) ⟨l.heap.size,0,none⟩ 1 1 [iX (a.look x:Int)] rfl rfl (zBv _ [iX (a.look x:Int)] _ _ (zD _ _ _)) (by intro u o;simp at o;subst o;rfl) (by decide) (by unfold maxLen;omega) (by omega) (by simp[zD];omega) _ rfl ?_;intro H I C aM ag aN bl;have ah:C.heap[w2.heap.size+1]? =(l.setCell ⟨w2.heap.size+1,0,none⟩ (slice (qX J) ((a.seen x).lows.length+1) cap)).heap[w2.heap.size+1]? :=(ag.block _ (by simp[zD];omega) (λe=>by have:=(af.lt _ e.symm).1;omega)).trans (lG _ _ _ (by rw[zD];omega));have bm:C.cell? ⟨w2.heap.size+1,1,none⟩=some (slice at_ 0 z):=(gW ah).trans aO;have bo:C.frozen? ⟨w2.heap.size+1,1,none⟩=false:=(gV ah).trans aP)|(at_builtin;refine wpList_append_lies _ rfl _ _ 45 rfl (w2.heap.size+2) 3 am zX 1 8 underlying45 an ao T Y rfl (by decide) _ _ _ rfl (X.alloc _) ⟨p.heap.size,0,none⟩ 1 1 [iX low] rfl rfl (cell_one_new _ _ _) (by intro u o;simp at o;subst o;rfl) (by decide) (by unfold maxLen;omega) (by omega) (by simp;omega) _ rfl ?_;intro J cap l aQ S aR bp;have ai:l.heap[w2.heap.size+1]? =p.heap[w2.heap.size+1]? :=(S.block _ (by simp;omega) (λe=>by have:=(X.lt _ e.symm).1;omega)).trans (lG _ _ _ (by omega));have t0:l.cell? ⟨w2.heap.size+1,0,none⟩=some (slice A (a.seen x).lows.length B):=(gW ai).trans ad;have bq:l.frozen? ⟨w2.heap.size+1,0,none⟩=false:=(gV ai).trans (G.1.cells.2.2.2 0);have E:=Aw.lows_app G.1 aQ S (by rcases aR with m|m;exact .inl m;right;rw[m];simp);have aO:(l.setCell ⟨w2.heap.size+1,0,none⟩ (slice (qX J) ((a.seen x).lows.length+1) cap)).cell? ⟨w2.heap.size+1,1,none⟩=some (slice at_ 0 z):=E.1.cells.2.1;have af:(l.setCell ⟨w2.heap.size+1,0,none⟩ (slice (qX J) ((a.seen x).lows.length+1) cap)).ownsRow (w2.heap.size+2) 3 1 (slice at_ 0 z) 0 ((a.seen x).letters.map λx=>iX x):=(by have b:=E.1.letters;unfold OwnI at b;rw[show ({a.seen x with lows:=(a.seen x).lows++[low]}:Ar).letters=(a.seen x).letters from rfl,y.out] at b;exact b);have br:w2.heap.size+2<=l.heap.size:=lY ay (lY (by simp) S.size);have aP:(l.setCell ⟨w2.heap.size+1,0,none⟩ (slice (qX J) ((a.seen x).lows.length+1) cap)).frozen? ⟨w2.heap.size+1,1,none⟩=false:=E.1.cells.2.2.2 1))
    have aj:Hid (AwIs (C.setCell ⟨w2.heap.size+1,1,none⟩ (slice (qX H) (0+1) I)) (w2.heap.size+2) (w2.heap.size+1) (vO sets (j+1))/\Keep (w2.heap.size+2) (w2.heap.size+1) f (C.setCell ⟨w2.heap.size+1,1,none⟩ (slice (qX H) (0+1) I))):=by
     have aS:C.ownsRow (w2.heap.size+2) 3 1 (slice (qX H) ((a.seen x).letters.length+1) I) ((a.seen x).letters.length+1) (((a.seen x).letters.map λx=>iX x)++[iX (a.look x:Int)]):=by rw[y.out];exact aM
     have b:=Aw.letters_app E.1 (g:=H) (cap:=I) (x:=(a.look x:Int)) aS ag (by
      rcases aN with m|m
      ·exact .inl m
      ·right;rw[m];simp[zD])
     rw[show ({a.seen x with lows:=(a.seen x).lows++[low]}:Ar).letters=(a.seen x).letters from rfl,y.out] at b;rw[ac.out];exact⟨⟨_,_,_,b.1⟩,(G.2.trans E.2).trans b.2⟩
    go_roundg (aH-(j+1))
    case measure=>rw[r.out.1];omega
    case rel=>exact⟨j+1,rfl,by omega,by go_num,aj.1,aj.2⟩
   ·obtain⟨k,O⟩:∃k,(a.seen x).letters.length=k+1:=⟨(a.seen x).letters.length-1,by omega⟩
    have y:=vl O;obtain⟨t,aT⟩:∃t,(a.seen x).letters.getD k 0=t:=⟨_,rfl⟩
    have a5:=vl aT;have az:(a.seen x).turns (a.look x)=(t != (a.look x:Int)):=by
     unfold Ar.turns;rw[O,<-aT];rfl
    have bD:k<=500000000000:=by omega
    clear ax O aT bk;cases a6:(t != (a.look x:Int)) with
    |true=>
     have ac:=vl <| a3 (by rw[az,a6]);clear az;go_wp2_with (first|(go_at_call 169;refine(aJ _ r.2.2.2).mono ?_;rintro e a4 ⟨rfl,D⟩)|(go_at_call 168;refine(aK _ (r.2.1.grown D)).mono ?_;rintro e p ⟨rfl,⟨lv,tv,sv,d⟩,L⟩;have ⟨ad,aL,q2,ae⟩:=d.cells;obtain⟨A,B,rfl⟩:=d.lows.form;have ⟨at_,z,M⟩:=d.letters.form;rw[y.out] at M;subst M;obtain⟨N,rfl⟩:=d.letters.some (by rw[y.out];omega);have bs:p.cell? ⟨N,k,none⟩=some (iX t):=(by rw[<-a5.out];exact d.letters.cell k (by rw[y.out];omega));have G:Hid (Aw p (w2.heap.size+2) (w2.heap.size+1) (slice A (a.seen x).lows.length B) (slice (qX N) (k+1) z) sv (a.seen x)/\Keep (w2.heap.size+2) (w2.heap.size+1) f p):=⟨d,(r.2.2.1.trans (D.lower (by omega) (by omega))).trans L⟩;have ay:=d.lt;have X:p.ownsRow (w2.heap.size+2) 3 1 (slice A (a.seen x).lows.length B) (a.seen x).lows.length ((a.seen x).lows.map λx=>iX x):=d.lows;clear d L D ae q2)|(at_builtin;refine wpList_append_lies _ rfl _ _ 45 rfl (w2.heap.size+2) 3 am zX 1 8 underlying45 an ao T Y rfl (by decide) _ _ _ rfl (af.alloc _) ⟨l.heap.size,0,none⟩ 1 1 [iX (a.look x:Int)] rfl rfl (zBv _ [iX (a.look x:Int)] _ _ (zD _ _ _)) (by intro u o;simp at o;subst o;rfl) (by decide) (by unfold maxLen;omega) (by omega) (by simp[zD];omega) _ rfl ?_;intro H I C aM ag aN bl;have ah:C.heap[w2.heap.size+1]? =(l.setCell ⟨w2.heap.size+1,0,none⟩ (slice (qX J) ((a.seen x).lows.length+1) cap)).heap[w2.heap.size+1]? :=(ag.block _ (by simp[zD];omega) (λe=>by have:=(af.lt _ e.symm).1;omega)).trans (lG _ _ _ (by rw[zD];omega));have bm:C.cell? ⟨w2.heap.size+1,1,none⟩=some (slice (qX N) (k+1) z):=(gW ah).trans aO;have bo:C.frozen? ⟨w2.heap.size+1,1,none⟩=false:=(gV ah).trans aP)|(at_builtin;refine wpList_append_lies _ rfl _ _ 45 rfl (w2.heap.size+2) 3 am zX 1 8 underlying45 an ao T Y rfl (by decide) _ _ _ rfl (X.alloc _) ⟨p.heap.size,0,none⟩ 1 1 [iX low] rfl rfl (cell_one_new _ _ _) (by intro u o;simp at o;subst o;rfl) (by decide) (by unfold maxLen;omega) (by omega) (by simp;omega) _ rfl ?_;intro J cap l aQ S aR bp;have ai:l.heap[w2.heap.size+1]? =p.heap[w2.heap.size+1]? :=(S.block _ (by simp;omega) (λe=>by have:=(X.lt _ e.symm).1;omega)).trans (lG _ _ _ (by omega));have t0:l.cell? ⟨w2.heap.size+1,0,none⟩=some (slice A (a.seen x).lows.length B):=(gW ai).trans ad;have bq:l.frozen? ⟨w2.heap.size+1,0,none⟩=false:=(gV ai).trans (G.1.cells.2.2.2 0);have E:=Aw.lows_app G.1 aQ S (by rcases aR with m|m;exact .inl m;right;rw[m];simp);have aO:(l.setCell ⟨w2.heap.size+1,0,none⟩ (slice (qX J) ((a.seen x).lows.length+1) cap)).cell? ⟨w2.heap.size+1,1,none⟩=some (slice (qX N) (k+1) z):=E.1.cells.2.1;have af:(l.setCell ⟨w2.heap.size+1,0,none⟩ (slice (qX J) ((a.seen x).lows.length+1) cap)).ownsRow (w2.heap.size+2) 3 1 (slice (qX N) (k+1) z) (k+1) ((a.seen x).letters.map λx=>iX x):=(by have b:=E.1.letters;unfold OwnI at b;rw[show ({a.seen x with lows:=(a.seen x).lows++[low]}:Ar).letters=(a.seen x).letters from rfl,y.out] at b;exact b);have br:w2.heap.size+2<=l.heap.size:=lY ay (lY (by simp) S.size);have aP:(l.setCell ⟨w2.heap.size+1,0,none⟩ (slice (qX J) ((a.seen x).lows.length+1) cap)).frozen? ⟨w2.heap.size+1,1,none⟩=false:=E.1.cells.2.2.2 1))
     have aj:Hid (AwIs (C.setCell ⟨w2.heap.size+1,1,none⟩ (slice (qX H) (k+1+1) I)) (w2.heap.size+2) (w2.heap.size+1) (vO sets (j+1))/\Keep (w2.heap.size+2) (w2.heap.size+1) f (C.setCell ⟨w2.heap.size+1,1,none⟩ (slice (qX H) (k+1+1) I))):=by
      have aS:C.ownsRow (w2.heap.size+2) 3 1 (slice (qX H) ((a.seen x).letters.length+1) I) ((a.seen x).letters.length+1) (((a.seen x).letters.map λx=>iX x)++[iX (a.look x:Int)]):=by rw[y.out];exact aM
      have b:=Aw.letters_app E.1 (g:=H) (cap:=I) (x:=(a.look x:Int)) aS ag (by
       rcases aN with m|m
       ·exact .inl m
       ·right;rw[m];simp[zD])
      rw[show ({a.seen x with lows:=(a.seen x).lows++[low]}:Ar).letters=(a.seen x).letters from rfl,y.out] at b;rw[ac.out];exact⟨⟨_,_,_,b.1⟩,(G.2.trans E.2).trans b.2⟩
     go_roundg (aH-(j+1))
     case measure=>rw[r.out.1];omega
     case rel=>exact⟨j+1,rfl,by omega,by go_num,aj.1,aj.2⟩
    |false=>
     have ac:=vl <| bj (by rw[az,a6]);clear az;go_wp2_with (first|(go_at_call 169;refine(aJ _ r.2.2.2).mono ?_;rintro e a4 ⟨rfl,D⟩)|(go_at_call 168;refine(aK _ (r.2.1.grown D)).mono ?_;rintro e p ⟨rfl,⟨lv,tv,sv,d⟩,L⟩;have ⟨ad,aL,q2,ae⟩:=d.cells;obtain⟨A,B,rfl⟩:=d.lows.form;have ⟨at_,z,M⟩:=d.letters.form;rw[y.out] at M;subst M;obtain⟨N,rfl⟩:=d.letters.some (by rw[y.out];omega);have bs:p.cell? ⟨N,k,none⟩=some (iX t):=(by rw[<-a5.out];exact d.letters.cell k (by rw[y.out];omega));have G:Hid (Aw p (w2.heap.size+2) (w2.heap.size+1) (slice A (a.seen x).lows.length B) (slice (qX N) (k+1) z) sv (a.seen x)/\Keep (w2.heap.size+2) (w2.heap.size+1) f p):=⟨d,(r.2.2.1.trans (D.lower (by omega) (by omega))).trans L⟩;have ay:=d.lt;have X:p.ownsRow (w2.heap.size+2) 3 1 (slice A (a.seen x).lows.length B) (a.seen x).lows.length ((a.seen x).lows.map λx=>iX x):=d.lows;clear d L D ae q2))
     go_roundg (aH-(j+1))
     case measure=>rw[r.out.1];omega
     case rel=>exact⟨j+1,rfl,by omega,by go_num,by rw[ac.out];exact⟨_,_,_,G.1⟩,G.2⟩
  ·have bi:((xJ sets).length:Int)<=(j:Int):=by omega
   have e:=zFL sets j (by omega);rw[e] at U;obtain⟨lv,tv,sv,b⟩:=U;obtain⟨ad,aL,q2,-⟩:=b.cells;obtain⟨A,B,rfl⟩:=b.lows.form;obtain⟨at_,z,rfl⟩:=b.letters.form;obtain⟨as_,cs,rfl⟩:=b.sets.form;have ak:wr.heap[w.heap.size]? =some (.cells #[nX,nX,nX] 172):=(V.block _ (by omega) (by omega)).trans ab.2.2.1;have bE:wr.cell? ⟨w.heap.size,0,none⟩=some nX:=by unfold cell?;rw[ak];rfl
   have bF:wr.cell? ⟨w.heap.size,1,none⟩=some nX:=by unfold cell?;rw[ak];rfl
   have bG:wr.cell? ⟨w.heap.size,2,none⟩=some nX:=by unfold cell?;rw[ak];rfl
   have aA:∀i,wr.frozen? ⟨w.heap.size,i,none⟩=false:=λi=>by unfold frozen?;rw[ak];simp
   have bH:=aA 0;have bI:=aA 1;have bJ:=aA 2;have aB:Hid (Aw wr (w2.heap.size+2) (w2.heap.size+1) (slice A (xN sets).lows.length B) (slice at_ (xN sets).letters.length z) (slice as_ (xN sets).sets.length cs) (xN sets)/\Grew w wr):=⟨b,r.2.2.2⟩
   clear b aE V ak aA e;go_wp2;refine gJ (v:=agg #[slice A (xN sets).lows.length B,slice at_ (xN sets).letters.length z,slice as_ (xN sets).sets.length cs]) (by simp[results,results127,go_sem, *]) rfl ⟨_,_,_,rfl,⟨zA0 (xB (xB (xB aB.1.lows (by omega)) (by omega)) (by omega)),zA0 (xB (xB (xB aB.1.letters (by omega)) (by omega)) (by omega)),zA0 (xB (xB (xB aB.1.sets (by omega)) (by omega)) (by omega))⟩,?_⟩;exact((aB.2.trans (zQ _ _ _ _ lQ)).trans (zQ _ _ _ _ lQ)).trans (zQ _ _ _ _ lQ)
theorem zN0 (a b:List Int)(d:a.length=b.length)(e:∀i,i<a.length->a.getD i 0=b.getD i 0):a=b:=by
 apply List.ext_getElem d;intro i c f;have:=e i c;rw[lW,lV c,lW,lV f] at this;exact this
theorem zJC (w:World)(m o:Value)(a b:List Int)(v:Ints w (In w) m a)(z:Ints w (In w) o b)(N:a.length<=1000000000000):
  Calls prog 132 #[m,o] w λe w'=>e=returned (bool (decide (a=b)))/\Grew w w':=by
 obtain⟨O,P,rfl,_,_,A⟩:=v;obtain⟨R,S,rfl,_,_,B⟩:=z;have C:=vl A;have p:=vl B;by_cases f:a.length=b.length
 ·have D:Hid ((∀i,i<a.length->a.getD i 0=b.getD i 0)->a=b):=λc=>zN0 a b f c
  have E:Hid (∀i,a.getD i 0≠b.getD i 0->a≠b):=λi c e=>c (by rw[e]);rw[<-f] at p ⊢;have T:((a.length:Int) != (b.length:Int))=false:=by simp[f]
  go_in;go_wp2;go_loopg [13] a.length (λq i wr=>∃j:Nat,q=a.length-j/\j<=a.length/\i=iX (j:Int)/\(∀i,i<j->a.getD i 0=b.getD i 0)/\Grew w wr)
  case atStart=>exact⟨0,rfl,lX,rfl,λi r=>by omega,⟨rfl,rfl,lQ,λ_ _ _=>rfl⟩⟩
  case round=>
   obtain⟨j,F,U,rfl,s,k⟩:=hrel;have d:Hid (gk=a.length-j/\(∀i,i<j->a.getD i 0=b.getD i 0)/\Grew w wr):=⟨F,s,k⟩
   by_cases t:j<a.length
   ·have G:(j:Int)<(a.length:Int):=by omega
    obtain⟨V,W,rfl,H,c1⟩:=C j t;obtain⟨b2,X,rfl,I,c2⟩:=p j t;have Y:=zA c1 H k;have ac:=zA c2 I k;have J:=vl <| E j;have K:Hid (a.getD j 0=b.getD j 0->∀i,i<j+1->a.getD i 0=b.getD i 0):=λc i r=>by
     by_cases e:i=j
     ·rw[e];exact c
     ·exact d.2.1 i (by omega)
    generalize a.getD j 0=x at *;generalize b.getD j 0=y at *;by_cases g:x=y
    ·have L:=vl <| K g
     have u:(x != y)=false:=by simp[g]
     go_wp2;go_quiet (fail);go_wp2;go_roundg (a.length-(j+1))
     case measure=>rw[d.out.1];omega
     case rel=>exact⟨j+1,rfl,by omega,by go_num,L,d.2.2.trans (Keep.alike (w':=wr.drewN nq) ⟨rfl,rfl,rfl⟩)⟩
    ·have M:=vl <| J g
     have u:(x != y)=true:=by simp[g]
     go_wp2;go_quiet (fail);go_wp2;go_ret;exact⟨by rw[gG M.out];rfl,d.2.2.trans (Keep.alike (w':=wr.drewN nq) ⟨rfl,rfl,rfl⟩)⟩
   ·have G:(a.length:Int)<=(j:Int):=by omega
    have l:=vl <| D λi r=>s i (by omega);go_wp2;go_ret;exact⟨by rw[dQ l.out];rfl,d.2.2⟩
 ·have l:Hid (a≠b):=λe=>f (by rw[e])
  have u:((a.length:Int) != (b.length:Int))=true:=by simp;omega
  go_in;go_wp2;go_ret;exact⟨by rw[gG l.out];rfl,⟨rfl,rfl,lQ,λ_ _ _=>rfl⟩⟩
theorem zJt (w:World)(step:Nat)(a:step=1\/step=64\/step=4096):
  Calls prog 176 #[iX step] w λe w'=>e=returned (iX (if step=64 then 2048 else if step=4096 then 65536 else 0))/\w'=w:=by
 rcases a with rfl|rfl|rfl
 all_goals
  go_in;go_wp2;go_ret;exact⟨rfl,rfl⟩
def xI (rules:List Nat)(set:Nat):Int:=if rules.findIdx (λr=>set&&&r != 0)<rules.length then(rules.findIdx (λr=>set&&&r != 0):Int) else -1
theorem zO1 (rules:List Nat)(set j:Nat)(a:j<rules.length)(b:set&&&rules.getD j 0≠0)(c:∀i,i<j->set&&&rules.getD i 0=0):xI rules set=j:=by
 have e:rules.findIdx (λr=>set&&&r != 0)=j:=by
  rw[List.findIdx_eq a];rw[lW,lV a] at b;refine⟨by simpa using b,λi d=>?_⟩;have:=c i d;rw[lW,lV (by omega)] at this;simpa using this
 unfold xI;rw[e,if_pos a]
theorem zMl (rules:List Nat)(set:Nat)(b:∀i,i<rules.length->set&&&rules.getD i 0=0):xI rules set=-1:=by
 have e:rules.findIdx (λr=>set&&&r != 0)=rules.length:=by
  rw[List.findIdx_eq_length];intro y c;obtain⟨i,a,rfl⟩:=List.getElem_of_mem c;have:=b i a;rw[lW,lV a] at this;simpa using this
 unfold xI;rw[e,if_neg (Nat.lt_irrefl _)]
theorem zKp (rules:List Nat)(set:Nat):-1<=xI rules set/\xI rules set<rules.length:=by
 unfold xI;split <;> omega
theorem zBG (w:World)(p q:Nat)(rv:Value)(rules:List Nat)(K:w.cell? ⟨p,0,none⟩=some (pX q))(L:w.cell? ⟨q,4,none⟩=some rv)(v:Ints w (In w) rv (rules.map λ(x:Nat)=>(x:Int)))(M:rules.length<=8)(y:∀r∈rules,r<16777216)(set:Nat)(N:set<16777216):
  Calls prog 93 #[pX p,iX set] w λe w'=>e=returned (iX (xI rules set))/\w'=w:=by
 obtain⟨z,O,m,_,_,A⟩:=v;rw[kV] at m;subst m;have B:Hid (∀i,i<rules.length->∃b o,z=some ⟨b,o,none⟩/\cX w b (o+i)=some (iX ((rules.getD i 0:Nat):Int))/\rules.getD i 0<16777216):=by
  intro i a;have ⟨b,o,C,_,s⟩:=A i (by rw[kV];exact a);refine⟨b,o,C,?_,y _ (zV _ i 0 a)⟩;rw[lW,gZ,lV a] at s;rw[lW,lV a];exact s
 have D:Hid (∀j,j<rules.length->set&&&rules.getD j 0≠0->(∀i,i<j->set&&&rules.getD i 0=0)->xI rules set=j):=λj=>zO1 rules set j;have E:=vl <| zMl rules set;go_in;go_wp2;go_loopg [15] rules.length (λk i wr=>∃j:Nat,k=rules.length-j/\j<=rules.length/\i=iX (j:Int)/\(∀i,i<j->set&&&rules.getD i 0=0)/\wr=w)
 case atStart=>exact⟨0,rfl,lX,rfl,λi a=>by omega,rfl⟩
 case round=>
  obtain⟨j,F,P,rfl,t,G⟩:=hrel;subst G;have f:Hid (gk=rules.length-j/\∀i,i<j->set&&&rules.getD i 0=0):=⟨F,t⟩
  by_cases u:j<rules.length
  ·have H:(j:Int)<(rules.length:Int):=by omega
   obtain⟨b,o,rfl,R,S⟩:=B j u;have I:Hid (set&&&rules.getD j 0≠0->xI rules set=j):=λg=>D j u g f.2;have J:Hid (set&&&rules.getD j 0=0->∀i,i<j+1->set&&&rules.getD i 0=0):=λg i a=>by
    by_cases e:i=j
    ·rw[e];exact g
    ·exact f.2 i (by omega)
   generalize rules.getD j 0=r at *;have l:bits .and i64 (set:Int) (r:Int)=((set&&&r:Nat):Int):=qR _ _ (by omega) (by omega);by_cases d:set&&&r=0
   ·have c:=vl <| J d
    rw[d] at l;have T:=l;go_wp2;go_roundg (rules.length-(j+1))
    case measure=>rw[f.out.1];omega
    case rel=>exact⟨j+1,rfl,by omega,by go_num,c,rfl⟩
   ·have c:=vl <| I d
    have U:((bits .and i64 (set:Int) (r:Int)) != 0)=true:=by rw[l];simp;exact d
    go_wp2;go_ret;exact⟨by rw[c.out];rfl,rfl⟩
  ·have H:(rules.length:Int)<=(j:Int):=by omega
   have c:=vl <| E λi a=>t i (by omega);go_wp2;go_ret;exact⟨by rw[c.out];rfl,rfl⟩
def xG (rules:List Nat)(a b tail:Nat):Bool:=a&&&tail != b&&&tail&&(xI rules (a&&&tail) != xI rules (b&&&tail))
theorem zIl (w:World)(p q:Nat)(rv:Value)(rules:List Nat)(f:w.cell? ⟨p,0,none⟩=some (pX q))(g:w.cell? ⟨q,4,none⟩=some rv)(h:Ints w (In w) rv (rules.map λ(x:Nat)=>(x:Int)))(j:rules.length<=8)(k:∀r∈rules,r<16777216)(a b tail:Nat)(m:a<16777216)(o:b<16777216)(B:tail<16777216):
  Calls prog 174 #[pX p,iX a,iX b,iX tail] w λe w'=>e=returned (bool (xG rules a b tail))/\Grew w w':=by
 have C:bits .and i64 (a:Int) (tail:Int)=((a&&&tail:Nat):Int):=qR _ _ (by omega) (by omega);have D:bits .and i64 (b:Int) (tail:Int)=((b&&&tail:Nat):Int):=qR _ _ (by omega) (by omega);have s:a&&&tail<16777216:=Nat.lt_of_le_of_lt Nat.and_le_left m;have t:b&&&tail<16777216:=Nat.lt_of_le_of_lt Nat.and_le_left o;have l:Hid (xG rules a b tail=(a&&&tail != b&&&tail&&(xI rules (a&&&tail) != xI rules (b&&&tail)))):=rfl;have u:=vl <| zBG w p q rv rules f g h j k _ s;have v:=vl <| zBG w p q rv rules f g h j k _ t;generalize a&&&tail=x at *;generalize b&&&tail=y at *;by_cases c:x=y
 ·have d:Hid (xG rules a b tail=false):=by show _=_;rw[l.out,c];simp
  have z:((x:Int)==(y:Int))=true:=by simp[c]
  go_in;go_wp2;go_ret;exact⟨by rw[d.out];rfl,⟨rfl,rfl,lQ,λ_ _ _=>rfl⟩⟩
 ·have d:Hid (xG rules a b tail=(xI rules x != xI rules y)):=by
   show _=_;rw[l.out,show(x != y)=true by simp[c]];rfl
  have z:((x:Int)==(y:Int))=false:=by simp;omega
  generalize xI rules x=E at *;generalize xI rules y=F at *;go_in;go_wp2_with (go_at_call 93;first|(have m2:=A;refine v.mono ?_;rintro e G ⟨rfl,rfl⟩)|(refine u.mono ?_;rintro e w2 ⟨rfl,rfl⟩;have A:True:=trivial))
  go_ret;exact⟨by rw[d.out];rfl,⟨rfl,rfl,lQ,λ_ _ _=>rfl⟩⟩
structure So (w:World)(p q:Nat)(rv:Value)(rules:List Nat):Prop where
 net:w.cell? ⟨p,0,none⟩=some (pointer (some ⟨q,0,none⟩))
 rcell:w.cell? ⟨q,4,none⟩=some rv
 at_:Ints w (In w) rv (rules.map λ(x:Nat)=>(x:Int))
 eight:rules.length<=8
 small:∀r∈rules,r<16777216
 lp:p<w.heap.size
 lq:q<w.heap.size
theorem So.grown {w w':World}{p q:Nat}{rv:Value}{rules:List Nat}(a:So w p q rv rules)(b:Grew w w'):So w' p q rv rules:=
 ⟨zA a.net a.lp b,zA a.rcell a.lq b,a.at_.grown b,a.eight,a.small,lZ a.lp b.size,lZ a.lq b.size⟩
theorem So.differ {w:World}{p q:Nat}{rv:Value}{rules:List Nat}(c:So w p q rv rules)(a b tail:Nat)(d:a<16777216)(f:b<16777216)(g:tail<16777216):
  Calls prog 174 #[pX p,iX a,iX b,iX tail] w λe w'=>e=returned (bool (xG rules a b tail))/\Grew w w':=zIl w p q rv rules c.net c.rcell c.at_ c.eight c.small a b tail d f g
def jE (rules marks:List Nat)(a b:Nat):Bool:=!(marks.any λt=>xG rules a b t)
theorem zD9 (w:World)(p q:Nat)(rv v:Value)(rules marks:List Nat)(E:So w p q rv rules)(ae:w.cell? ⟨p,7,none⟩=some v)(F:Ints w (In w) v (marks.map λ(x:Nat)=>(x:Int)))(af:marks.length<=1000000000000)(G:∀r∈marks,r<16777216)(a b:Nat)(H:a<16777216)(I:b<16777216):
  Calls prog 173 #[pX p,iX a,iX b] w λe w'=>e=returned (bool (jE rules marks a b))/\Grew w w':=by
 obtain⟨J,ag,y,_,_,K⟩:=F;rw[kV] at y;subst y;have L:Hid (∀i,i<marks.length->∃b o,J=some ⟨b,o,none⟩/\In w b/\cX w b (o+i)=some (iX ((marks.getD i 0:Nat):Int))/\marks.getD i 0<16777216):=by
  intro i c;have ⟨b,o,M,N,z⟩:=K i (by rw[kV];exact c);refine⟨b,o,M,N,?_,G _ (zV _ i 0 c)⟩;rw[lW,gZ,lV c] at z;rw[lW,lV c];exact z
 have O:=vl E;have P:Hid (∀j,j<marks.length->xG rules a b (marks.getD j 0)=true->jE rules marks a b=false):=λj A d=>by
  show(!_)=false;rw[zOI marks _ 0 j A d];rfl
 have R:Hid ((∀i,i<marks.length->xG rules a b (marks.getD i 0)=false)->jE rules marks a b=true):=λd=>by
  show(!_)=true;rw[zJY marks _ 0 d];rfl
 go_in;go_wp2;go_loopg [14] marks.length (λk i wr=>∃j:Nat,k=marks.length-j/\j<=marks.length/\i=iX (j:Int)/\(∀i,i<j->xG rules a b (marks.getD i 0)=false)/\Grew w wr)
 case atStart=>exact⟨0,rfl,lX,rfl,λi c=>by omega,⟨rfl,rfl,lQ,λ_ _ _=>rfl⟩⟩
 case round=>
  obtain⟨j,S,A,rfl,B,C⟩:=hrel;have f:Hid (gk=marks.length-j/\(∀i,i<j->xG rules a b (marks.getD i 0)=false)/\Grew w wr):=⟨S,B,C⟩
  by_cases D:j<marks.length
  ·have T:(j:Int)<(marks.length:Int):=by omega
   obtain⟨ah,ai,rfl,U,V,W⟩:=L j D;have aj:=zA V U C;have X:=vl <| P j D;have Y:Hid (xG rules a b (marks.getD j 0)=false->∀i,i<j+1->xG rules a b (marks.getD i 0)=false):=λd i c=>by
    by_cases e:i=j
    ·rw[e];exact d
    ·exact f.2.1 i (by omega)
   have aa:Hid (∀t:Nat,t<16777216->Ca 174 #[pX p,iX a,iX b,iX t] wr λe w'=>e=returned (bool (xG rules a b t))/\Grew w w'):=λt ab=>by
    refine((O.grown f.2.2).differ a b t H I ab).mono ?_;rintro e w2 ⟨rfl,ac⟩;exact⟨rfl,f.2.2.th ac⟩
   generalize marks.getD j 0=r at *;have l:=aa r W;cases m:xG rules a b r with
   |false=>
    rw[m] at l;have g:=vl <| Y m;have s:=vl l;go_wp2_with (go_at_call 174;refine s.mono ?_;rintro e ad ⟨rfl,u⟩)
    go_roundg (marks.length-(j+1))
    case measure=>rw[f.out.1];omega
    case rel=>exact⟨j+1,rfl,by omega,by go_num,g,u⟩
   |true=>
    rw[m] at l;have g:=vl <| X m;have s:=vl l;go_wp2_with (go_at_call 174;refine s.mono ?_;rintro e ad ⟨rfl,u⟩)
    go_ret;exact⟨by rw[g.out];rfl,u⟩
  ·have T:(marks.length:Int)<=(j:Int):=by omega
   have g:=vl <| R λi c=>B i (by omega);go_wp2;go_ret;exact⟨by rw[g.out];rfl,f.2.2⟩
section
variable (rules tails:List Nat) (a b:Nat)
def I32s (w:World)(S:Nat->Prop)(v:Value)(l:List Nat):Prop:=
 ∃ao cap,v=slice ao l.length cap/\l.length<=cap/\cap<=maxLen/\∀i,i<l.length->∃b o,ao=some ⟨b,o,none⟩/\S b/\w.cell? ⟨b,o+i,none⟩=some (int .i32 ((l.getD i 0:Nat):Int))
theorem I32s.keep {w w':World}{S:Nat->Prop}{v:Value}{l:List Nat}(c:I32s w S v l)(e:∀b,S b->w'.heap[b]? =w.heap[b]?):I32s w' S v l:=by
 obtain⟨ao,cap,d,f,g,j⟩:=c;refine⟨ao,cap,d,f,g,λi k=>?_⟩;have ⟨b,o,m,a,p⟩:=j i k;exact⟨b,o,m,a,(gW (e b a)).trans p⟩
theorem I32s.mono {w:World}{S a:Nat->Prop}{v:Value}{l:List Nat}(c:I32s w S v l)(e:∀b,S b->a b):I32s w a v l:=by
 obtain⟨ao,cap,d,f,g,j⟩:=c;refine⟨ao,cap,d,f,g,λi k=>?_⟩;have ⟨b,o,m,p,q⟩:=j i k;exact⟨b,o,m,e b p,q⟩
def jM (rules tails:List Nat)(a b:Nat):Int:=if a=b then -1 else if tails.findIdx (λt=>xG rules a b t)<tails.length then(tails.getD (tails.findIdx λt=>xG rules a b t) 0:Int) else -1
theorem zDM (l:List Nat)(p:Nat->Bool)(j:Nat)(a:j<l.length)(b:p (l.getD j 0)=true)(c:∀i,i<j->p (l.getD i 0)=false):l.findIdx p=j:=by
 rw[List.findIdx_eq a];rw[lW,lV a] at b;refine⟨by simpa using b,λi d=>?_⟩;have:=c i d;rw[lW,lV (by omega)] at this;simpa using this
theorem zBs (l:List Nat)(p:Nat->Bool)(b:∀i,i<l.length->p (l.getD i 0)=false):l.findIdx p=l.length:=by
 rw[List.findIdx_eq_length];intro y c;obtain⟨i,a,rfl⟩:=List.getElem_of_mem c;have:=b i a;rw[lW,lV a] at this;simpa using this
theorem zOV (a b j:Nat)(d:a≠b)(c:j<tails.length)(e:xG rules a b (tails.getD j 0)=true)(f:∀i,i<j->xG rules a b (tails.getD i 0)=false):jM rules tails a b=(tails.getD j 0:Nat):=by
 unfold jM;rw[if_neg d,zDM tails _ j c e f,if_pos c]
theorem zMa (c:∀i,i<tails.length->xG rules a b (tails.getD i 0)=false):jM rules tails a b=-1:=by
 unfold jM;rw[zBs tails _ c,if_neg (Nat.lt_irrefl _)];split <;> rfl
theorem zKh (rules tails:List Nat)(a b:Nat)(e:∀t∈tails,t<16777216):jM rules tails a b=-1\/∃t:Nat,jM rules tails a b=t/\t<16777216:=by
 unfold jM;by_cases d:a=b
 ·rw[if_pos d];exact .inl rfl
 ·rw[if_neg d]
  by_cases c:tails.findIdx (λt=>xG rules a b t)<tails.length
  ·rw[if_pos c]
   exact .inr ⟨_,rfl,e _ (zV _ _ 0 c)⟩
  ·rw[if_neg c];exact .inl rfl
theorem zDu (w:World)(p q:Nat)(rv x:Value)(rules marks:List Nat)(D:So w p q rv rules)(af:w.cell? ⟨p,5,none⟩=some x)(E:I32s w (In w) x marks)(ag:marks.length<=1000000000000)(F:∀r∈marks,r<16777216)(a b:Nat)(G:a<16777216)(H:b<16777216):
  Calls prog 131 #[pX p,iX a,iX b] w λe w'=>e=returned (iX (jM rules marks a b))/\Grew w w':=by
 by_cases s:a=b
 ·have I:Hid (jM rules marks a b=-1):=by unfold jM;rw[if_pos s];exact rfl
  have y:((a:Int)==(b:Int))=true:=by simp[s]
  go_in;go_wp2;go_ret;exact⟨by rw[I.out];rfl,⟨rfl,rfl,lQ,λ_ _ _=>rfl⟩⟩
 have ah:((a:Int)==(b:Int))=false:=by simp;omega
 obtain⟨J,ai,rfl,_,_,K⟩:=E;have L:Hid (∀i,i<marks.length->∃b o,J=some ⟨b,o,none⟩/\In w b/\cX w b (o+i)=some (int .i32 ((marks.getD i 0:Nat):Int))/\marks.getD i 0<16777216):=by
  intro i f;have ⟨b,o,M,N,O⟩:=K i f;exact⟨b,o,M,N,O,F _ (zV _ i 0 f)⟩
 have P:=vl D;have R:Hid (∀j,j<marks.length->xG rules a b (marks.getD j 0)=true->(∀i,i<j->xG rules a b (marks.getD i 0)=false)->jM rules marks a b=(marks.getD j 0:Nat)):=λj z c S=>zOV rules marks a b j s z c S;have T:Hid ((∀i,i<marks.length->xG rules a b (marks.getD i 0)=false)->jM rules marks a b=-1):=λc=>zMa rules marks a b c;go_in;go_wp2;go_loopg [17] marks.length (λk i wr=>∃j:Nat,k=marks.length-j/\j<=marks.length/\i=iX (j:Int)/\(∀i,i<j->xG rules a b (marks.getD i 0)=false)/\Grew w wr)
 case atStart=>exact⟨0,rfl,lX,rfl,λi f=>by omega,⟨rfl,rfl,lQ,λ_ _ _=>rfl⟩⟩
 case round=>
  obtain⟨j,U,z,rfl,A,B⟩:=hrel;have d:Hid (gk=marks.length-j/\(∀i,i<j->xG rules a b (marks.getD i 0)=false)/\Grew w wr):=⟨U,A,B⟩
  by_cases C:j<marks.length
  ·have V:(j:Int)<(marks.length:Int):=by omega
   obtain⟨aj,ak,rfl,W,y,X⟩:=L j C;have al:=zA y W B;have Y:Hid (xG rules a b (marks.getD j 0)=true->jM rules marks a b=(marks.getD j 0:Nat)):=λc=>R j C c d.2.1;have aa:Hid (xG rules a b (marks.getD j 0)=false->∀i,i<j+1->xG rules a b (marks.getD i 0)=false):=λc i f=>by
    by_cases e:i=j
    ·rw[e];exact c
    ·exact d.2.1 i (by omega)
   have ab:Hid (∀t:Nat,t<16777216->Ca 174 #[pX p,iX a,iX b,iX t] wr λe w'=>e=returned (bool (xG rules a b t))/\Grew w w'):=λt ac=>by
    refine((P.grown d.2.2).differ a b t G H ac).mono ?_;rintro e w2 ⟨rfl,ad⟩;exact⟨rfl,d.2.2.th ad⟩
   generalize marks.getD j 0=r at *;have l:=ab r X;cases m:xG rules a b r with
   |false=>
    rw[m] at l;have g:=vl <| aa m;have u:=vl l;go_wp2_with (go_at_call 174;refine u.mono ?_;rintro e ae ⟨rfl,v⟩)
    go_roundg (marks.length-(j+1))
    case measure=>rw[d.out.1];omega
    case rel=>exact⟨j+1,rfl,by omega,by go_num,g,v⟩
   |true=>
    rw[m] at l;have g:=vl <| Y m;have u:=vl l;go_wp2_with (go_at_call 174;refine u.mono ?_;rintro e ae ⟨rfl,v⟩)
    go_ret;exact⟨by rw[g.out];rfl,v⟩
  ·have V:(marks.length:Int)<=(j:Int):=by omega
   have g:=vl <| T λi f=>A i (by omega);go_wp2;go_ret;exact⟨by rw[g.out];rfl,d.2.2⟩
end
def zAR (rules marks found:List Nat)(set:Nat):Nat:=found.findIdx λo=>jE rules marks set o
theorem zIB (rules marks found:List Nat)(set:Nat):zAR rules marks found set<=found.length:=List.findIdx_le_length
theorem zFl (w:World)(p q:Nat)(rv u z:Value)(rules marks found:List Nat)(A:So w p q rv rules)(I:w.cell? ⟨p,7,none⟩=some u)(J:Ints w (In w) u (marks.map λ(x:Nat)=>(x:Int)))(K:marks.length<=1000000000000)(L:∀r∈marks,r<16777216)(M:w.cell? ⟨p,6,none⟩=some z)(B:Ints w (In w) z (found.map λ(x:Nat)=>(x:Int)))(al:found.length<=1000000000000)(N:∀r∈found,r<16777216)(a:Nat)(O:a<16777216):
  Calls prog 130 #[pX p,iX a] w λe w'=>e=returned (iX (zAR rules marks found a))/\Grew w w':=by
 have am:=B;obtain⟨P,an,C,_,_,R⟩:=B;rw[kV] at C;subst C;have S:Hid (∀i,i<found.length->∃b o,P=some ⟨b,o,none⟩/\In w b/\cX w b (o+i)=some (iX ((found.getD i 0:Nat):Int))/\found.getD i 0<16777216):=by
  intro i c;have ⟨b,o,T,U,D⟩:=R i (by rw[kV];exact c);refine⟨b,o,T,U,?_,N _ (zV _ i 0 c)⟩;rw[lW,gZ,lV c] at D;rw[lW,lV c];exact D
 have E:=A.lp;have V:Hid (∀wr,Grew w wr->∀b:Nat,b<16777216->Ca 173 #[pX p,iX a,iX b] wr λe w'=>e=returned (bool (jE rules marks a b))/\Grew w w'):=λwr g b W=>by
  refine(zD9 wr p q rv u rules marks (A.grown g) (zA I E g) (J.grown g) K L a b O W).mono ?_;rintro e w2 ⟨rfl,X⟩;exact⟨rfl,g.th X⟩
 have Y:Hid (∀j,j<found.length->jE rules marks a (found.getD j 0)=true->(∀i,i<j->jE rules marks a (found.getD i 0)=false)->zAR rules marks found a=j):=λj F d aa=>zDM found _ j F d aa;have ab:Hid ((∀i,i<found.length->jE rules marks a (found.getD i 0)=false)->zAR rules marks found a=found.length):=λd=>zBs found _ d;go_in;go_wp2;go_loopg [12] found.length (λk i wr=>∃j:Nat,k=found.length-j/\j<=found.length/\i=iX (j:Int)/\(∀i,i<j->jE rules marks a (found.getD i 0)=false)/\Grew w wr)
 case atStart=>exact⟨0,rfl,lX,rfl,λi c=>by omega,⟨rfl,rfl,lQ,λ_ _ _=>rfl⟩⟩
 case round=>
  obtain⟨j,ac,F,rfl,G,l⟩:=hrel;have m:Hid (gk=found.length-j/\(∀i,i<j->jE rules marks a (found.getD i 0)=false)/\Grew w wr):=⟨ac,G,l⟩
  by_cases H:j<found.length
  ·have ad:(j:Int)<(found.length:Int):=by omega
   obtain⟨ao,ap,rfl,ae,af,ag⟩:=S j H;have aq:=zA af ae l;have ah:Hid (jE rules marks a (found.getD j 0)=true->zAR rules marks found a=j):=λd=>Y j H d m.2.1;have ai:Hid (jE rules marks a (found.getD j 0)=false->∀i,i<j+1->jE rules marks a (found.getD i 0)=false):=λd i c=>by
    by_cases e:i=j
    ·rw[e];exact d
    ·exact m.2.1 i (by omega)
   have aj:=vl <| V wr l;generalize found.getD j 0=r at *;have s:=aj r ag;cases t:jE rules marks a r with
   |false=>
    rw[t] at s;have f:=vl <| ai t;have v:=vl s;go_wp2_with (go_at_call 173;refine v.mono ?_;rintro e ak ⟨rfl,y⟩)
    go_roundg (found.length-(j+1))
    case measure=>rw[m.out.1];omega
    case rel=>exact⟨j+1,rfl,by omega,by go_num,f,y⟩
   |true=>
    rw[t] at s;have f:=vl <| ah t;have v:=vl s;go_wp2_with (go_at_call 173;refine v.mono ?_;rintro e ak ⟨rfl,y⟩)
    go_ret;exact⟨by rw[f.out];rfl,y⟩
  ·have ad:(found.length:Int)<=(j:Int):=by omega
   have au:=zA M E l;have f:=vl <| ab λi c=>G i (by omega);go_wp2;go_ret;exact⟨by rw[f.out];rfl,m.2.2⟩
section
structure KeepX (X:Nat->Prop)(w w':World):Prop where
 os:w'.os=w.os
 output:w'.output=w.output
 size:w.heap.size<=w'.heap.size
 block:∀k,X k->w'.heap[k]? =w.heap[k]?
theorem KeepX.refl (X:Nat->Prop)(w:World):KeepX X w w:=⟨rfl,rfl,lQ,λ_ _=>rfl⟩
theorem KeepX.trans {X:Nat->Prop}{w w' c:World}(a:KeepX X w w')(b:KeepX X w' c):KeepX X w c:=⟨b.os.trans a.os,b.output.trans a.output,lY a.size b.size,λk e=>(b.block k e).trans (a.block k e)⟩
theorem KeepX.mono {X b:Nat->Prop}{w w':World}(a:KeepX X w w')(e:∀k,b k->X k):KeepX b w w':=⟨a.os,a.output,a.size,λk c=>a.block k (e k c)⟩
theorem Keep.kx {X:Nat->Prop}{H b:Nat}{w w':World}(a:Keep H b w w')(e:∀k,X k->k<H/\k≠b):KeepX X w w':=⟨a.os,a.output,a.size,λk c=>a.block k (e k c).1 (e k c).2⟩
def ints (l:List Nat):List Int:=l.map λ(x:Nat)=>(x:Int)
theorem zP (l:List Nat):(ints l).length=l.length:=kV ..
theorem zBr (l:List Nat)(x:Nat):ints (l++[x])=ints l++[(x:Int)]:=by simp[ints]
theorem vY (l:List Nat)(i:Nat):(ints l).getD i 0=(l.getD i 0:Nat):=by
 unfold ints;rw[lW,lW,gZ];cases l[i]? <;> rfl
structure Sq where
 rules:List Nat
 tails:List Nat
 sets:List Nat
 q:Nat
 f:Nat
 lv:Value
 tv:Value
 sv:Value
 tl:Value
 rv:Value
structure Sf where
 found:List Nat
 marks:List Nat
structure SoAt (w:World)(X:Nat->Prop)(p:Nat)(s:Sq)(d:Sf)(fv mv:Value):Prop where
 blk:w.heap[p]? =some (.cells #[pointer (some ⟨s.q,0,none⟩),s.lv,s.tv,s.sv,pointer (some ⟨s.f,0,none⟩),s.tl,fv,mv] 176)
 own1:OwnI w 0 fv (ints d.found)
 own2:OwnI w 0 mv (ints d.marks)
 ne:∀g,fv.ownBlock=some g->some g≠mv.ownBlock
 xf:∀g,X g->some g≠fv.ownBlock
 xm:∀g,X g->some g≠mv.ownBlock
 xp:¬X p
 xl:∀g,X g->g<w.heap.size
 lp:p<w.heap.size
 net:w.cell? ⟨s.q,4,none⟩=some s.rv
 xq:X s.q
 rls:Ints w X s.rv (ints s.rules)
 eight:s.rules.length<=8
 rsm:∀r∈s.rules,r<16777216
 tls:I32s w X s.tl s.tails
 tsm:∀t∈s.tails,t<16777216
 tlen:s.tails.length<=16777216
 sts:Ints w X s.sv (ints s.sets)
 ssm:∀t∈s.sets,t<16777216
 fsm:∀t∈d.found,t<16777216
 msm:∀t∈d.marks,t<16777216
def zQy (w:World)(X:Nat->Prop)(p:Nat)(s:Sq)(d:Sf):Prop:=∃fv mv,SoAt w X p s d fv mv
section
variable {w w2:World} {X:Nat->Prop} {p:Nat} {s:Sq} {d:Sf} {fv mv:Value}
theorem SoAt.grown (a:SoAt w X p s d fv mv)(c:Grew w w2):SoAt w2 X p s d fv mv:=by
 have e:∀b,X b->w2.heap[b]? =w.heap[b]? :=λb f=>c.block b (a.xl b f) (kJ (a.xl b f));exact⟨(c.block _ a.lp (kJ a.lp)).trans a.blk,zL a.own1 c,zL a.own2 c,a.ne,a.xf,a.xm,a.xp,λg j=>lZ (a.xl g j) c.size,lZ a.lp c.size,(gW (e _ a.xq)).trans a.net,a.xq,a.rls.keep e,a.eight,a.rsm,a.tls.keep e,a.tsm,a.tlen,a.sts.keep e,a.ssm,a.fsm,a.msm⟩
theorem SoAt.cells (a:SoAt w X p s d fv mv):w.cell? ⟨p,0,none⟩=some (pX s.q)/\w.cell? ⟨p,3,none⟩=some s.sv/\w.cell? ⟨p,4,none⟩=some (pX s.f)/\w.cell? ⟨p,5,none⟩=some s.tl/\w.cell? ⟨p,6,none⟩=some fv/\w.cell? ⟨p,7,none⟩=some mv/\∀i,w.frozen? ⟨p,i,none⟩=false:=by
 refine⟨?_,?_,?_,?_,?_,?_,λi=>?_⟩
 all_goals first|(unfold cell?;rw[a.blk];rfl)|(unfold frozen?;rw[a.blk];simp)
theorem SoAt.so (a:SoAt w X p s d fv mv):So w p s.q s.rv s.rules:=⟨a.cells.1,a.net,a.rls.mono a.xl,a.eight,a.rsm,a.lp,a.xl _ a.xq⟩
theorem SoAt.fewer {b:Nat->Prop}(a:SoAt w X p s d fv mv)(c:¬b p)(f:∀g,b g->g<w.heap.size)(j:∀g,b g->some g≠fv.ownBlock)(k:∀g,b g->some g≠mv.ownBlock)(e:∀g,X g->b g):SoAt w b p s d fv mv:=
 ⟨a.blk,a.own1,a.own2,a.ne,j,k,c,f,a.lp,a.net,e _ a.xq,a.rls.mono e,a.eight,a.rsm,a.tls.mono e,a.tsm,a.tlen,a.sts.mono e,a.ssm,a.fsm,a.msm⟩
theorem zCA {w:World}{b i a:Nat}{v x:Value}{l:List Int}{c:Array Value}(f:OwnI w 0 v l)(g:w.heap[b]? =some (.cells c a))(j:3≠a):OwnI (w.setCell ⟨b,i,none⟩ x) 0 v l:=
 zE f λk _ _ m=>lJ _ _ _ _ λe=>zO f g j (by rw[m];exact congrArg some (Eq.symm e))
theorem SoAt.found_app {o:Obj}{g cap n x:Nat}(a:SoAt w X p s d fv mv)(z:x<16777216)(A:n=d.found.length)(B:w2.ownsRow 0 3 1 (slice (qX g) (n+1) cap) (n+1) (((ints d.found).map λx=>iX x)++[iX (x:Int)]))(c:(w.alloc o).grownBy w2 fv.ownBlock)(q:fv.ownBlock=some g\/w.heap.size<=g):
  SoAt (w2.setCell ⟨p,6,none⟩ (slice (qX g) (n+1) cap)) X p s {d with found:=d.found++[x]} (slice (qX g) (n+1) cap) mv/\KeepX X w (w2.setCell ⟨p,6,none⟩ (slice (qX g) (n+1) cap)):=by
 subst A;have C:=a.lp;have D:=zO a.own1 a.blk (by decide);have r:∀j,j<w.heap.size->some j≠fv.ownBlock->w2.heap[j]? =w.heap[j]? :=λj K E=>(c.block j (by simp;omega) E).trans (lG _ _ _ (by omega));have f:=(r p C D).trans a.blk;have u:w.heap.size<=w2.heap.size:=lY (by simp) c.size;have F:∀k,X k->k≠p:=λk b e=>a.xp (e ▸ b);have e:∀k,X k->(w2.setCell ⟨p,6,none⟩ (slice (qX g) (d.found.length+1) cap)).heap[k]? =w.heap[k]? :=λk b=>(lJ _ _ _ _ (F k b)).trans (r k (a.xl k b) (a.xf k b));have G:OwnI w2 0 (slice (qX g) (d.found.length+1) cap) (ints (d.found++[x])):=by
  rw[zBr];have:=zP d.found;have v:=OwnI.snoc (l:=ints d.found) (x:=(x:Int)) (by rw[this];exact B);rw[this] at v;exact v
 have H:=zU c a.own2 (λg c e=>a.ne g e.symm c.symm);refine⟨⟨?_,zCA G f (by decide),zCA H f (by decide),qL a.own2 a.ne q,?_,a.xm,a.xp,λk b=>by rw[zD];exact lZ (a.xl k b) u,by rw[zD];omega,(gW (e _ a.xq)).trans a.net,a.xq,a.rls.keep e,a.eight,a.rsm,a.tls.keep e,a.tsm,a.tlen,a.sts.keep e,a.ssm,?_,a.msm⟩,⟨c.os,c.output,by rw[zD];exact u,e⟩⟩
 ·simp[setCell,lU,f]
 ·intro k b e
  have I:k=g:=by simpa[Value.ownBlock] using e
  subst I;rcases q with y|y
  ·exact a.xf k b y.symm
  ·have:=a.xl k b
   omega
 ·intro t J
  rcases kU.1 J with m|m
  ·exact a.fsm t m
  ·rw[kY.1 m];exact z
theorem SoAt.marks_app {o:Obj}{g cap n x:Nat}(a:SoAt w X p s d fv mv)(z:x<16777216)(A:n=d.marks.length)(B:w2.ownsRow 0 3 1 (slice (qX g) (n+1) cap) (n+1) (((ints d.marks).map λx=>iX x)++[iX (x:Int)]))(c:(w.alloc o).grownBy w2 mv.ownBlock)(q:mv.ownBlock=some g\/w.heap.size<=g):
  SoAt (w2.setCell ⟨p,7,none⟩ (slice (qX g) (n+1) cap)) X p s {d with marks:=d.marks++[x]} fv (slice (qX g) (n+1) cap)/\KeepX X w (w2.setCell ⟨p,7,none⟩ (slice (qX g) (n+1) cap)):=by
 subst A;have C:=a.lp;have D:=zO a.own2 a.blk (by decide);have r:∀j,j<w.heap.size->some j≠mv.ownBlock->w2.heap[j]? =w.heap[j]? :=λj K E=>(c.block j (by simp;omega) E).trans (lG _ _ _ (by omega));have f:=(r p C D).trans a.blk;have u:w.heap.size<=w2.heap.size:=lY (by simp) c.size;have F:∀k,X k->k≠p:=λk b e=>a.xp (e ▸ b);have e:∀k,X k->(w2.setCell ⟨p,7,none⟩ (slice (qX g) (d.marks.length+1) cap)).heap[k]? =w.heap[k]? :=λk b=>(lJ _ _ _ _ (F k b)).trans (r k (a.xl k b) (a.xm k b));have G:OwnI w2 0 (slice (qX g) (d.marks.length+1) cap) (ints (d.marks++[x])):=by
  rw[zBr];have:=zP d.marks;have v:=OwnI.snoc (l:=ints d.marks) (x:=(x:Int)) (by rw[this];exact B);rw[this] at v;exact v
 have H:=zU c a.own1 a.ne;refine⟨⟨?_,zCA H f (by decide),zCA G f (by decide),zCI (qL a.own1 (λg c e=>a.ne g e.symm c.symm) q),a.xf,?_,a.xp,λk b=>by rw[zD];exact lZ (a.xl k b) u,by rw[zD];omega,(gW (e _ a.xq)).trans a.net,a.xq,a.rls.keep e,a.eight,a.rsm,a.tls.keep e,a.tsm,a.tlen,a.sts.keep e,a.ssm,a.fsm,?_⟩,⟨c.os,c.output,by rw[zD];exact u,e⟩⟩
 ·simp[setCell,lU,f]
 ·intro k b e
  have I:k=g:=by simpa[Value.ownBlock] using e
  subst I;rcases q with y|y
  ·exact a.xm k b y.symm
  ·have:=a.xl k b
   omega
 ·intro t J
  rcases kU.1 J with m|m
  ·exact a.msm t m
  ·rw[kY.1 m];exact z
end
end
section
def Sq.look (s:Sq)(d:Sf)(x:Nat):Nat:=zAR s.rules d.marks d.found x
def Sq.tail (s:Sq)(d:Sf)(x:Nat):Int:=jM s.rules s.tails x (d.found.getD (s.look d x) 0)
def Sq.kind (s:Sq)(d:Sf)(x:Nat):Nat:=if s.look d x<d.found.length then(if s.tail d x<0 then s.look d x else d.found.length) else d.found.length
def Sq.kindS (s:Sq)(d:Sf)(x:Nat):Sf:=if s.look d x<d.found.length then(if s.tail d x<0 then d else⟨d.found++[x],d.marks++[(s.tail d x).toNat]⟩) else⟨d.found++[x],d.marks⟩
theorem Sq.look_le (s:Sq)(d:Sf)(x:Nat):s.look d x<=d.found.length:=zIB _ _ _ _
section
variable {w:World} {X:Nat->Prop} {p:Nat} {s:Sq} {d:Sf} {fv mv:Value}
theorem SoAt.unmarked (a:SoAt w X p s d fv mv)(b:d.marks.length<=1000000000000)(c:d.found.length<=1000000000000)(x:Nat)(f:x<16777216):
  Calls prog 130 #[pX p,iX x] w λe w'=>e=returned (iX (s.look d x))/\Grew w w':=
 zFl w p s.q s.rv mv fv s.rules d.marks d.found a.so a.cells.2.2.2.2.2.1 (zA0 a.own2) b a.msm a.cells.2.2.2.2.1 (zA0 a.own1) c a.fsm x f
theorem SoAt.between (c:SoAt w X p s d fv mv)(a b:Nat)(f:a<16777216)(g:b<16777216):
  Calls prog 131 #[pX p,iX a,iX b] w λe w'=>e=returned (iX (jM s.rules s.tails a b))/\Grew w w':=
 zDu w p s.q s.rv s.tl s.rules s.tails c.so c.cells.2.2.2.1 (c.tls.mono c.xl) (lY c.tlen (by omega)) c.tsm a b f g
end
theorem zIb (w:World)(X:Nat->Prop)(p:Nat)(s:Sq)(d:Sf)(l:zQy w X p s d)(aD:d.marks.length<=100000000000)(aE:d.found.length<=100000000000)(x:Nat)(G:x<16777216):
  Calls prog 94 #[pX p,iX x] w λe w'=>e=returned (iX (s.kind d x))/\zQy w' X p s (s.kindS d x)/\KeepX X w w':=by
 have ⟨K,L,M,N,O⟩:=info_parts yW;obtain⟨fv,mv,l⟩:=l;have P:=vl <| l.unmarked (by omega) (by omega) x G;have ⟨C,r,ab⟩:=l.own1.form;rw[zP] at ab;have ⟨D,E,ac⟩:=l.own2.form;rw[zP] at ac;subst ab ac;have f:Hid (∀w2,Grew w w2->SoAt w2 X p s d (slice C d.found.length r) (slice D d.marks.length E)):=λw2 j=>l.grown j;have R:Hid (∀w2,Grew w w2->KeepX X w w2):=λw2 j=>j.kx λk a=>⟨l.xl k a,kJ (l.xl k a)⟩
 have an:Hid (∀w2,SoAt w2 X p s d (slice C d.found.length r) (slice D d.marks.length E)->w2.ownsRow 0 3 1 (slice C d.found.length r) d.found.length ((ints d.found).map λx=>iX x)):=λw2 S=>by
  have:=S.own1;unfold OwnI at this;rw[zP] at this;exact this
 have ao:Hid (∀w2,SoAt w2 X p s d (slice C d.found.length r) (slice D d.marks.length E)->w2.ownsRow 0 3 1 (slice D d.marks.length E) d.marks.length ((ints d.marks).map λx=>iX x)):=λw2 S=>by
  have:=S.own2;unfold OwnI at this;rw[zP] at this;exact this
 have aF:=s.look_le d x;by_cases j:s.look d x<d.found.length
 ·have a:((s.look d x:Nat):Int)<(d.found.length:Int):=by omega
  have ap:d.found.getD (s.look d x) 0<16777216:=l.fsm _ (zV _ _ 0 j);obtain⟨H,rfl⟩:=l.own1.some (by rw[zP];omega);have ad:Hid (∀w2,Grew w w2->cX w2 H (s.look d x)=some (iX ((d.found.getD (s.look d x) 0:Nat):Int))):=λw2 a=>by
   have:=(f w2 a).own1.cell (s.look d x) (by rw[zP];exact j);rw[vY] at this;exact this
  have T:Hid (∀w2,Grew w w2->Ca 131 #[pX p,iX (x:Int),iX ((d.found.getD (s.look d x) 0:Nat):Int)] w2 λe w'=>e=returned (iX (s.tail d x))/\Grew w w'):=λw2 a=>by
   refine((f w2 a).between x _ G ap).mono ?_;rintro e b ⟨rfl,c⟩;exact⟨rfl,a.th c⟩
  have aq:Hid (s.tail d x=-1\/∃t:Nat,s.tail d x=t/\t<16777216):=zKh s.rules s.tails x _ l.tsm;by_cases I:s.tail d x<0
  ·have v:Hid (s.kind d x=s.look d x/\s.kindS d x=d):=⟨by unfold Sq.kind;rw[if_pos j,if_pos I],by unfold Sq.kindS;rw[if_pos j,if_pos I]⟩
   generalize s.look d x=k at *;generalize d.found.getD k 0=y at *;generalize s.tail d x=t at *;go_in;go_wp2_with (first|(go_at_call 130;refine P.mono ?_;rintro e w2 ⟨rfl,a⟩;have U:=(f w2 a).cells.2.2.2.2.1;have ar:=ad w2 a)|(go_at_call 131;refine(T w2 a).mono ?_;rintro e b ⟨rfl,c⟩))
   go_ret;exact⟨by rw[v.out.1];rfl,by rw[v.out.2];exact⟨_,_,f _ c⟩,R _ c⟩
  ·have ⟨t,ae,au⟩:=aq.resolve_left (by omega)
   have v:Hid (s.kind d x=d.found.length/\s.kindS d x=⟨d.found++[x],d.marks++[t]⟩):=⟨by unfold Sq.kind;rw[if_pos j,if_neg I],by unfold Sq.kindS;rw[if_pos j,if_neg I,ae];rfl⟩
   rw[ae] at T;have aG:¬((t:Int)<0):=by omega
   generalize s.look d x=k at *;generalize d.found.getD k 0=y at *;go_in;go_wp2_with (first|(go_at_call 130;refine P.mono ?_;rintro e w2 ⟨rfl,a⟩;have U:=(f w2 a).cells.2.2.2.2.1;have ar:=ad w2 a)|(go_at_call 131;refine(T w2 a).mono ?_;rintro e b ⟨rfl,c⟩;have q:=vl <| f b c;have av:=(f b c).cells.2.2.2.2.2.1;have V:=ao b (f b c);have ag:=(f b c).lp)|(have m2:=aw;at_builtin;refine wpList_append_lies _ rfl _ _ 45 rfl 0 3 K zX 1 8 underlying45 L M N O rfl (by decide) _ _ _ rfl (ax.alloc _) ⟨g.heap.size,0,none⟩ 1 1 [iX (x:Int)] rfl rfl (zBv _ [iX (x:Int)] _ _ (zD _ _ _)) (by intro u z;simp at z;subst z;rfl) (by decide) (by unfold maxLen;omega) (by omega) (by simp[zD]) _ rfl ?_;intro ah ai J ay aj az aH;have W:=m.1.found_app G rfl ay aj (by rcases az with o|o;exact .inl o;right;rw[o];simp[zD]);have ak:J.heap[p]? =(g.setCell ⟨p,7,none⟩ (slice (qX A) (d.marks.length+1) cap)).heap[p]? :=(aj.block _ (by simp[zD];omega) (zO m.1.own1 m.1.blk (by decide))).trans (lG _ _ _ (by rw[zD];omega));have aI:cX J p 6=some (slice (qX H) d.found.length r):=(gW ak).trans al;have aJ:J.frozen? ⟨p,6,none⟩=false:=(gV ak).trans (m.1.cells.2.2.2.2.2.2 6);have aK:(J.setCell ⟨p,6,none⟩ (slice (qX ah) (d.found.length+1) ai)).cell? ⟨p,6,none⟩=some (slice (qX ah) (d.found.length+1) ai):=W.1.cells.2.2.2.2.1)|(at_builtin;refine wpList_append_lies _ rfl _ _ 45 rfl 0 3 K zX 1 8 underlying45 L M N O rfl (by decide) _ _ _ rfl (V.alloc _) ⟨b.heap.size,0,none⟩ 1 1 [iX (t:Int)] rfl rfl (cell_one_new _ _ _) (by intro u z;simp at z;subst z;rfl) (by decide) (by unfold maxLen;omega) (by omega) (by simp) _ rfl ?_;intro A cap g Y B aa aA;have aw:True:=trivial;have m:=q.marks_app au rfl Y B (by rcases aa with o|o;exact .inl o;right;rw[o];simp);have F:g.heap[p]? =b.heap[p]? :=(B.block _ (by simp;omega) (zO q.own2 q.blk (by decide))).trans (lG _ _ _ (by omega));have aB:cX g p 7=some (slice D d.marks.length E):=(gW F).trans av;have aC:g.frozen? ⟨p,7,none⟩=false:=(gV F).trans (q.cells.2.2.2.2.2.2 7);have al:(g.setCell ⟨p,7,none⟩ (slice (qX A) (d.marks.length+1) cap)).cell? ⟨p,6,none⟩=some (slice (qX H) d.found.length r):=m.1.cells.2.2.2.2.1;have aL:p<g.heap.size:=lZ ag (lY (by simp) B.size);have ax:(g.setCell ⟨p,7,none⟩ (slice (qX A) (d.marks.length+1) cap)).ownsRow 0 3 1 (slice (qX H) d.found.length r) d.found.length ((ints d.found).map λx=>iX x):=(by have:=m.1.own1;unfold OwnI at this;rw[zP] at this;exact this)))
   go_ret;refine⟨?_,by rw[v.out.2];exact⟨_,_,W.1⟩,((R _ c).trans m.2).trans W.2⟩;rw[v.out.1]
   first|rfl|(simp;done)|(show _=_;congr 2;omega)
 ·have v:Hid (s.kind d x=d.found.length/\s.kindS d x=⟨d.found++[x],d.marks⟩):=⟨by unfold Sq.kind;rw[if_neg j],by unfold Sq.kindS;rw[if_neg j]⟩
  have a:¬(((s.look d x:Nat):Int)<(d.found.length:Int)):=by omega
  generalize s.look d x=k at *;go_in;go_wp2_with (first|(go_at_call 130;refine P.mono ?_;rintro e b ⟨rfl,c⟩;have q:=vl <| f b c;have U:=(f b c).cells.2.2.2.2.1;have V:=an b (f b c);have ag:=(f b c).lp)|(at_builtin;refine wpList_append_lies _ rfl _ _ 45 rfl 0 3 K zX 1 8 underlying45 L M N O rfl (by decide) _ _ _ rfl (V.alloc _) ⟨b.heap.size,0,none⟩ 1 1 [iX (x:Int)] rfl rfl (cell_one_new _ _ _) (by intro u z;simp at z;subst z;rfl) (by decide) (by unfold maxLen;omega) (by omega) (by simp) _ rfl ?_;intro A cap g Y B aa aA;have m:=q.found_app G rfl Y B (by rcases aa with o|o;exact .inl o;right;rw[o];simp);have F:g.heap[p]? =b.heap[p]? :=(B.block _ (by simp;omega) (zO q.own1 q.blk (by decide))).trans (lG _ _ _ (by omega));have aB:cX g p 6=some (slice C d.found.length r):=(gW F).trans U;have aC:g.frozen? ⟨p,6,none⟩=false:=(gV F).trans (q.cells.2.2.2.2.2.2 6);have al:(g.setCell ⟨p,6,none⟩ (slice (qX A) (d.found.length+1) cap)).cell? ⟨p,6,none⟩=some (slice (qX A) (d.found.length+1) cap):=m.1.cells.2.2.2.2.1))
  go_ret;refine⟨?_,by rw[v.out.2];exact⟨_,_,m.1⟩,(R _ c).trans m.2⟩;rw[v.out.1]
  first|rfl|(simp;done)|(show _=_;congr 2;omega)
end
section
def SoY (w:World)(X Y:Nat->Prop)(p:Nat)(s:Sq)(d:Sf):Prop:=∃fv mv,SoAt w X p s d fv mv/\∀g,Y g->g<w.heap.size/\g≠p/\some g≠fv.ownBlock/\some g≠mv.ownBlock
section
variable {w w2:World} {X Y:Nat->Prop} {p:Nat} {s:Sq} {d:Sf} {fv mv:Value}
theorem SoAt.both (a:SoAt w X p s d fv mv)(b:∀g,Y g->g<w.heap.size/\g≠p/\some g≠fv.ownBlock/\some g≠mv.ownBlock):SoAt w (λg=>X g\/Y g) p s d fv mv:=
 a.fewer (λe=>e.elim a.xp λe=>(b p e).2.1 rfl) (λg e=>e.elim (a.xl g) λe=>(b g e).1) (λg e=>e.elim (a.xf g) λe=>(b g e).2.2.1) (λg e=>e.elim (a.xm g) λe=>(b g e).2.2.2) (λg e=>.inl e)
theorem SoY.call {j:Sf}(c:SoY w X Y p s d)(a:zQy w2 (λg=>X g\/Y g) p s j)(k:KeepX (λg=>X g\/Y g) w w2):SoY w2 X Y p s j:=by
 obtain⟨fv,mv,c,l⟩:=c;obtain⟨m,o,a⟩:=a;have e:∀b,X b->w2.heap[b]? =w.heap[b]? :=λb q=>k.block b (.inl q);refine⟨m,o,⟨a.blk,a.own1,a.own2,a.ne,λg f=>a.xf g (.inl f),λg f=>a.xm g (.inl f),c.xp,λg f=>a.xl g (.inl f),a.lp,(gW (e _ c.xq)).trans c.net,c.xq,c.rls.keep e,c.eight,c.rsm,c.tls.keep e,c.tsm,c.tlen,c.sts.keep e,c.ssm,a.fsm,a.msm⟩,λg f=>⟨a.xl g (.inr f),(l g f).2.1,a.xf g (.inr f),a.xm g (.inr f)⟩⟩
theorem SoY.mono {Z:Nat->Prop}(a:SoY w X Y p s d)(e:∀g,Z g->Y g):SoY w X Z p s d:=by
 obtain⟨fv,mv,a,b⟩:=a;exact⟨fv,mv,a,λg c=>b g (e g c)⟩
theorem SoY.grown {Z:Nat->Prop}(a:SoY w X Y p s d)(f:Grew w w2)(e:∀g,Z g->g<w2.heap.size/\(Y g\/w.heap.size<=g)):SoY w2 X Z p s d:=by
 obtain⟨fv,mv,a,j⟩:=a;refine⟨fv,mv,a.grown f,λg k=>?_⟩;obtain⟨c,l|m⟩:=e g k
 ·exact⟨c,(j g l).2⟩
 ·refine⟨c,λb=>by have:=a.lp;omega,λb=>?_,λb=>?_⟩
  ·have:=(a.own1.lt g b.symm).2;omega
  ·have:=(a.own2.lt g b.symm).2;omega
theorem SoY.app {Z:Nat->Prop}{o:Obj}{g:Nat}{v:Value}(a:SoY w X Y p s d)(l:∀k,some k=v.ownBlock->Y k/\¬X k)(q:(w.alloc o).grownBy w2 v.ownBlock)(B:v.ownBlock=some g\/w.heap.size<=g)(x:g<w2.heap.size)(C:∀k,Z k->Y k\/k=g):SoY w2 X Z p s d:=by
 obtain⟨fv,mv,a,f⟩:=a;have t:w.heap.size<=w2.heap.size:=lY (by simp) q.size;have r:∀j,j<w.heap.size->some j≠v.ownBlock->w2.heap[j]? =w.heap[j]? :=λj G D=>(q.block j (by simp;omega) D).trans (lG _ _ _ (by omega));have e:∀b,X b->w2.heap[b]? =w.heap[b]? :=λb y=>r b (a.xl b y) λc=>(l b c).2 y;have E:=r p a.lp λc=>(f p (l p c).1).2.1 rfl;have F:g<w.heap.size->Y g:=λz=>(l g (B.elim (λe=>e.symm) λe=>by omega)).1;refine⟨fv,mv,⟨E.trans a.blk,zE a.own1 λk _ u m=>r k u λc=>(f k (l k c).1).2.2.1 m.symm,zE a.own2 λk _ u m=>r k u λc=>(f k (l k c).1).2.2.2 m.symm,a.ne,a.xf,a.xm,a.xp,λg q=>lZ (a.xl g q) t,lZ a.lp t,(gW (e _ a.xq)).trans a.net,a.xq,a.rls.keep e,a.eight,a.rsm,a.tls.keep e,a.tsm,a.tlen,a.sts.keep e,a.ssm,a.fsm,a.msm⟩,λk m=>?_⟩;rcases C k m with A|rfl
 ·exact⟨lZ (f k A).1 t,(f k A).2⟩
 ·by_cases z:k<w.heap.size
  ·exact⟨x,(f k (F z)).2⟩
  ·refine⟨x,λc=>by have:=a.lp;omega,λc=>?_,λc=>?_⟩
   ·have:=(a.own1.lt k c.symm).2;omega
   ·have:=(a.own2.lt k c.symm).2;omega
theorem zJw (a:SoY w X Y p s d)(c:d.marks.length<=100000000000)(f:d.found.length<=100000000000)(x:Nat)(j:x<16777216):
  Calls prog 94 #[pX p,iX x] w λe w'=>e=returned (iX (s.kind d x))/\SoY w' X Y p s (s.kindS d x)/\KeepX (λg=>X g\/Y g) w w':=by
 have k:=a;obtain⟨fv,mv,a,l⟩:=a;refine(zIb w _ p s d ⟨fv,mv,a.both l⟩ c f x j).mono ?_;rintro e w' ⟨rfl,m,b⟩;exact⟨rfl,k.call m b,b⟩
end
def Sq.rowTo (s:Sq)(next:Nat)(d:Sf):Nat->List Nat×Sf
 |0=>([],d)
 |j+1=>((s.rowTo next d j).1++[s.kind (s.rowTo next d j).2 (next&&&s.sets.getD j 0)],s.kindS (s.rowTo next d j).2 (next&&&s.sets.getD j 0))
theorem Sq.kindS_len (s:Sq)(d:Sf)(x:Nat):(s.kindS d x).found.length<=d.found.length+1/\(s.kindS d x).marks.length<=d.marks.length+1/\d.found.length<=(s.kindS d x).found.length:=by
 unfold Sq.kindS;split
 ·split <;> simp
 ·simp
theorem Sq.rowTo_len (s:Sq)(next:Nat)(d:Sf)(j:Nat):(s.rowTo next d j).1.length=j/\(s.rowTo next d j).2.found.length<=d.found.length+j/\(s.rowTo next d j).2.marks.length<=d.marks.length+j/\d.found.length<=(s.rowTo next d j).2.found.length:=by
 induction j with
 |zero=>exact⟨rfl,lQ,lQ,lQ⟩
 |succ j a=>
  have b:=s.kindS_len (s.rowTo next d j).2 (next&&&s.sets.getD j 0);unfold Sq.rowTo;simp only[kX,List.length_singleton];omega
end
theorem zMu {w w':World}{X:Nat->Prop}{H:Nat}{v:Value}{l:List Int}(a:OwnI w H v l)(b:KeepX X w w')(e:∀k,some k=v.ownBlock->X k):OwnI w' H v l:=zE a λg _ _ c=>b.block g (e g c.symm)
theorem zGz (w:World)(X c:Nat->Prop)(p:Nat)(s:Sq)(a:Sf)(ab:SoY w X c p s a)(aH:a.marks.length+s.sets.length<=100000000000)(aI:a.found.length+s.sets.length<=100000000000)(next:Nat)(C:next<16777216):
  Calls prog 91 #[pX p,iX next] w λe w'=>∃u,e=returned u/\OwnI w' w.heap.size u (ints (s.rowTo next a s.sets.length).1)/\SoY w' X (λg=>c g\/some g=u.ownBlock) p s (s.rowTo next a s.sets.length).2/\KeepX (λg=>X g\/c g) w w':=by
 have ⟨ac,ad,ae,af,ag⟩:=info_parts yW;obtain⟨ah,ai,y,M⟩:=ab;have y3:=y.cells.2.1;have N:Hid (∀k,X k\/c k->k<w.heap.size):=λk f=>f.elim (y.xl k) λe=>(M k e).1;have ⟨as_,cs,O,_,_,aj⟩:=y.sts;rw[zP] at O;have ak:Hid (∀i,i<s.sets.length->∃b o,as_=some ⟨b,o,none⟩/\X b/\cX w b (o+i)=some (iX ((s.sets.getD i 0:Nat):Int))/\next&&&s.sets.getD i 0<16777216/\s.sets.getD i 0<16777216):=by
  intro i P;have ⟨b,o,B,al,m⟩:=aj i (by rw[zP];exact P);rw[vY] at m;exact⟨b,o,B,al,m,Nat.lt_of_le_of_lt Nat.and_le_left C,y.ssm _ (zV _ i 0 P)⟩
 rw[O] at y3;have D:Hid (∀j,(s.rowTo next a j).1.length=j/\(s.rowTo next a j).2.found.length<=a.found.length+j/\(s.rowTo next a j).2.marks.length<=a.marks.length+j):=λj=>by
  have:=s.rowTo_len next a j
  exact⟨this.1,this.2.1,this.2.2.1⟩
 have am:Hid (SoY w X (λg=>c g\/some g=nX.ownBlock) p s a):=⟨ah,ai,y,λg an=>an.elim (M g) λe=>by cases e⟩
 have aJ:s.sets.length<=100000000000:=by omega
 go_in;go_wp2;go_loopg [5,15] s.sets.length (λq u i wr=>∃j:Nat,q=s.sets.length-j/\j<=s.sets.length/\i=iX (j:Int)/\OwnI wr w.heap.size u (ints (s.rowTo next a j).1)/\SoY wr X (λg=>c g\/some g=u.ownBlock) p s (s.rowTo next a j).2/\KeepX (λg=>X g\/c g) w wr)
 case atStart=>exact⟨0,rfl,lX,rfl,OwnI.nil _ _,am,KeepX.refl _ _⟩
 case round=>
  obtain⟨j,ao,aK,rfl,R,ap,S⟩:=hrel;have t:Hid (gk=s.sets.length-j/\OwnI wr w.heap.size u5 (ints (s.rowTo next a j).1)/\SoY wr X (λg=>c g\/some g=u5.ownBlock) p s (s.rowTo next a j).2/\KeepX (λg=>X g\/c g) w wr):=⟨ao,R,ap,S⟩
  by_cases aq:j<s.sets.length
  ·have ar:(j:Int)<(s.sets.length:Int):=by omega
   obtain⟨av,aL,rfl,aw,ax,ay,aM⟩:=ak j aq;have aN:=(gW (S.block av (.inl aw))).trans ax;have ⟨E,F,T⟩:=R.form;rw[zP,(D.out j).1] at T;have az:Hid (∀x:Nat,x<16777216->Ca 94 #[pX p,iX x] wr λe w'=>e=returned (iX (s.kind (s.rowTo next a j).2 x))/\(OwnI w' w.heap.size u5 (ints (s.rowTo next a j).1)/\SoY w' X (λg=>c g\/some g=u5.ownBlock) p s (s.kindS (s.rowTo next a j).2 x))/\KeepX (λg=>X g\/c g) w w'):=λx C=>by
    have:=D j;refine(zJw t.2.2.1 (by omega) (by omega) x C).mono ?_;rintro e w2 ⟨rfl,B,m⟩;exact⟨rfl,⟨zMu t.2.1 m λk f=>.inr (.inr f),B⟩,t.2.2.2.trans (m.mono λk f=>f.elim .inl λe=>.inr (.inl e))⟩
   have U:Hid ((s.rowTo next a (j+1)).1=(s.rowTo next a j).1++[s.kind (s.rowTo next a j).2 (next&&&s.sets.getD j 0)]/\(s.rowTo next a (j+1)).2=s.kindS (s.rowTo next a j).2 (next&&&s.sets.getD j 0)):=⟨rfl,rfl⟩
   have G:=(D j).1;generalize s.sets.getD j 0=r at *;have aO:bits .and i64 (next:Int) (r:Int)=((next&&&r:Nat):Int):=qR _ _ (by omega) (by omega);generalize next&&&r=x at *
   have aA:=vl <| az x ay;generalize s.kind (s.rowTo next a j).2 x=H at *;generalize s.kindS (s.rowTo next a j).2 x=aB at *;generalize (s.rowTo next a j).1=l at *;subst T;go_wp2_with (first|(go_at_call 94;refine aA.mono ?_;rintro e w2 ⟨rfl,I,V⟩;have J:=vl I;have aC:w2.ownsRow w.heap.size 3 1 (slice E j F) j ((ints l).map λx=>iX x):=(by have:=I.1;unfold OwnI at this;rw[zP,G] at this;exact this);have aP:=V.size;clear I)|(at_builtin;refine wpList_append_lies _ rfl _ _ 45 rfl (w.heap.size) 3 ac zX 1 8 underlying45 ad ae af ag rfl (by decide) _ _ _ rfl (aC.alloc _) ⟨w2.heap.size,0,none⟩ 1 1 [iX (H:Int)] rfl rfl (cell_one_new _ _ _) (by intro u W;simp at W;subst W;rfl) (by decide) (by unfold maxLen;omega) (by omega) (by simp;omega) _ rfl ?_;intro z cap K aD A aE aQ))
   have aa:OwnI K w.heap.size (slice (qX z) (j+1) cap) (ints (l++[H])):=by
    rw[zBr];have m:=OwnI.snoc (l:=ints l) (x:=(H:Int)) (by rw[zP,G];exact aD);rw[zP,G] at m;exact m
   have aF:(Value.slice E j F).ownBlock=some z\/w2.heap.size<=z:=by
    rcases aE with L|L
    ·exact .inl L
    ·right;rw[L];simp
   have aG:SoY K X (λg=>c g\/some g=(Value.slice (qX z) (j+1) cap).ownBlock) p s aB:=by
    refine J.2.app (v:=slice E j F) (λk f=>⟨.inr f,λe=>?_⟩) A aF (aa.lt z rfl).2 ?_
    ·have:=(J.1.lt k f.symm).1
     have:=N k (.inl e);omega
    ·intro k f
     rcases f with e|e
     ·exact .inl (.inl e)
     ·exact .inr (by simpa[Value.ownBlock] using e)
   have hK3:KeepX (λg=>X g\/c g) w K:=by
    refine V.trans ⟨A.os,A.output,lY (by simp) A.size,λk f=>?_⟩;have B:=N k f;exact(A.block k (by simp;omega) λe=>by have:=(J.1.lt k e.symm).1;omega).trans (lG _ _ _ (by omega))
   go_roundg (s.sets.length-(j+1))
   case measure=>rw[t.out.1];omega
   case rel=>exact⟨j+1,rfl,by omega,by go_num,by rw[U.out.1];exact aa,by rw[U.out.2];exact aG,hK3⟩
  ·have ar:(s.sets.length:Int)<=(j:Int):=by omega
   have e:j=s.sets.length:=by omega
   subst e;go_wp2;go_ret;exact⟨_,rfl,t.2.1,t.2.2.1,t.2.2.2⟩
theorem zB5 (n:Int)(a:0<=n)(b:n<18446744073709551616):IntKind.u64.wrap n=n:=by rw[IntKind.wrap_u64];omega
theorem zIC (a b:Nat)(c:a<18446744073709551616)(d:b<18446744073709551616):bits .and .u64 (a:Int) (b:Int)=((a&&&b:Nat):Int):=
 (bits_nat .u64 64 (by decide) (λn e f=>zB5 n e (by simpa using f)) a b (by simpa using c) (by simpa using d)).1
theorem zJ9 (a b:Nat)(c:a<18446744073709551616)(d:b<18446744073709551616):bits .or .u64 (a:Int) (b:Int)=((a|||b:Nat):Int):=
 (bits_nat .u64 64 (by decide) (λn e f=>zB5 n e (by simpa using f)) a b (by simpa using c) (by simpa using d)).2
theorem jB (f:Nat->Bool)(k j:Nat):(qF f k).testBit j=(decide (j<k)&&f j):=by
 induction k with
 |zero=>simp[qF]
 |succ k a=>
  unfold qF;by_cases e:j=k
  ·subst e
   cases c:f j
   ·simp[a]
   ·simp[a,Nat.testBit_or]
  ·have b:decide (j<k+1)=decide (j<k):=by simp;omega
   rw[b,<-a];split
   ·rw[Nat.testBit_or,Nat.testBit_two_pow,show decide (k=j)=false by simp;omega,Bool.or_false]
   ·rfl
def wd (m:Nat->Bool)(i:Nat):Nat:=qF (λj=>m (64*i+j)) 64
theorem zQD (m:Nat->Bool)(i:Nat):wd m i<18446744073709551616:=zBw _ 64
theorem zPT (m:Nat->Bool)(i j:Nat)(b:j<64):wd m i&&&2^j=if m (64*i+j) then 2^j else 0:=by
 apply Nat.eq_of_testBit_eq;intro k;rw[Nat.testBit_and,Nat.testBit_two_pow];have c:(wd m i).testBit k=(decide (k<64)&&m (64*i+k)):=jB _ 64 k;by_cases a:j=k
 ·subst a
  rw[c,dQ b,dQ rfl];cases m (64*i+j) <;> simp
 ·rw[gG a,Bool.and_false]
  cases m (64*i+j) <;> simp[Nat.testBit_two_pow,a]
theorem zPU (m:Nat->Bool)(x i:Nat):wd (λy=>y==x||m y) i=if i=x/64 then wd m i|||2^(x%64) else wd m i:=by
 apply Nat.eq_of_testBit_eq;intro j;have e:(wd (λy=>y==x||m y) i).testBit j=(decide (j<64)&&(64*i+j==x||m (64*i+j))):=jB _ 64 j;have b:(wd m i).testBit j=(decide (j<64)&&m (64*i+j)):=jB _ 64 j;rw[e];split
 ·rename_i d
  rw[Nat.testBit_or,b,Nat.testBit_two_pow];by_cases a:j<64
  ·rw[dQ a,Bool.true_and,Bool.true_and,Bool.or_comm]
   congr 1
   by_cases c:x%64=j
   ·rw[dQ c,beq_iff_eq];omega
   ·rw[gG c,hX];omega
  ·rw[gG a,gG (by omega)];rfl
 ·rename_i d
  rw[b];by_cases a:j<64
  ·rw[show (64*i+j==x)=false by rw[hX];omega,Bool.false_or]
  ·rw[gG a];rfl
structure SeAt (w:World)(H p n:Nat)(m:Nat->Bool)(g cap:Nat):Prop where
 blk:w.heap[p]? =some (.cells #[slice (some ⟨g,0,none⟩) n cap] 259)
 row:Row w H 260 (slice (some ⟨g,0,none⟩) n cap) n λi=>int .u64 ((wd m i:Nat):Int)
def SeIs (w:World)(H p n:Nat)(m:Nat->Bool):Prop:=∃g cap,SeAt w H p n m g cap
structure StayU (H:Nat)(w w':World):Prop where
 os:w'.os=w.os
 output:w'.output=w.output
 size:w'.heap.size=w.heap.size
 low:∀k,k<H->w'.heap[k]? =w.heap[k]?
 other:∀(k:Nat) (c:Array Value) (t:TypeId),w.heap[k]? =some (Obj.cells c t)->t≠260->w'.heap[k]? =some (Obj.cells c t)
theorem StayU.refl (H:Nat)(w:World):StayU H w w:=⟨rfl,rfl,rfl,λ_ _=>rfl,λ_ _ _ a _=>a⟩
theorem zGA (w:World)(H p n:Nat)(m:Nat->Bool)(b:SeIs w H p n m)(P:n<=1000000)(x:Nat)(R:x<64*n):
  Calls prog 172 #[pX p,iX x] w λe w'=>e=returned (bool (!m x))/\SeIs w' H p n (λy=>y==x||m y)/\StayU H w w':=by
 obtain⟨g,cap,b⟩:=b;have S:w.cell? ⟨p,0,none⟩=some (slice (qX g) n cap):=by unfold cell?;rw[b.blk];rfl
 have ⟨f,T,q,D,E,F,G,A,B⟩:=b.row.get (by omega);have I:f=g:=by injection q with a _ _;injection a with a;injection a with a;exact a.symm
 subst I;have U:w.cell? ⟨f,x/64,none⟩=some (int .u64 ((wd m (x/64):Nat):Int)):=A (x/64) (by omega);have V:=B (x/64);have W:bits .and i64 (x:Int) 63=((x%64:Nat):Int):=by
  have:=qR x 63 (by omega) (by omega);rw[show (63:Nat)=2^6-1 from rfl,Nat.and_two_pow_sub_one_eq_mod] at this;exact this
 have v:=zPT m (x/64) (x%64) (by omega);rw[show 64*(x/64)+x%64=x by omega] at v;have r:2^(x%64)<18446744073709551616:=(Nat.pow_lt_pow_right (by omega) (show x%64<64 by omega):2^(x%64)<2^64)
 have C:0<2^(x%64):=Nat.pow_pos (by omega);have s:=zQD m (x/64);have J:=vl <| zPU m x;have d:=vl b;have u:IntKind.u64.wrap ((2:Int)^(x%64))=((2^(x%64):Nat):Int):=by
  have a:((2^(x%64):Nat):Int)=(2:Int)^(x%64):=by simp
  rw[<-a];exact zB5 _ (by omega) (by omega)
 have X:(x:Int)/64<(n:Int):=by omega
 have Y:(0:Int)<=(x:Int)/64:=by omega
 have aa:¬((x:Int)/64<0):=by omega
 have ab:¬((n:Int)<=(x:Int)/64):=by omega
 have j:=zIC (wd m (x/64)) (2^(x%64)) s r;rw[v,<-u] at j;have K:Hid (bits .or .u64 ((wd m (x/64):Nat):Int) (IntKind.u64.wrap ((2:Int)^(x%64)))=((wd m (x/64)|||2^(x%64):Nat):Int)):=by
  show _=_;rw[u];exact zJ9 (wd m (x/64)) (2^(x%64)) s r
 clear b q D E F G A B v;cases l:m x with
 |true=>
  have L:(bits .and .u64 ((wd m (x/64):Nat):Int) (IntKind.u64.wrap ((2:Int)^(x%64))) != 0)=true:=by
   rw[j,l,if_pos rfl];rw[bne_iff_ne];omega
  have M:Hid (∀y,(y==x||m y)=m y):=λy=>by
   by_cases e:y=x
   ·rw[e,l];simp
   ·rw[show (y==x)=false by simp[e]];rfl
  clear j u l s r C;go_in;go_wp2;go_ret;exact⟨rfl,⟨_,_,d.blk,d.row.congr λi _=>by rw[show (λy=>y==x||m y)=m from funext M.out]⟩,StayU.refl _ _⟩
 |false=>
  have L:(bits .and .u64 ((wd m (x/64):Nat):Int) (IntKind.u64.wrap ((2:Int)^(x%64))) != 0)=false:=by
   rw[j,l];simp
  clear j u l s r C;go_in;go_wp2;go_ret;have ac:H<=f:=(d.row.get (by omega)).elim λg b=>b.elim λc b=>by
   obtain⟨q,ad,_⟩:=b;injection q with a _ _;injection a with a;injection a with a;omega
  have N:p≠f:=λe=>zO d.row d.blk (by decide) (by rw[e];rfl);have O:∀(k:Nat) (c:Array Value) (t:TypeId),w.heap[k]? =some (Obj.cells c t)->t≠260->k≠f:=λk c t o z e=>zO d.row o (Ne.symm z) (congrArg some e);refine⟨rfl,⟨f,cap,(lJ _ _ _ _ N).trans d.blk,?_⟩,⟨rfl,rfl,zD _ _ _,λk o=>lJ _ _ _ _ (by show k≠f;omega),λk c t o z=>(lJ _ _ _ _ (O k c t o z)).trans o⟩⟩;refine Row.congr (d.row.set (x/64) _) λi _=>?_;rw[J.out i,K.out];by_cases e:i=x/64
  ·subst e;simp
  ·simp[e]
theorem zPk:(prog.info? 260).map (λi=>(i.zero,i.size,i.bytes))=some (some (int .u64 0),1,8):=by kernel_rfl
theorem zOQ (i:Nat):wd (λ_=>false) i=0:=by
 apply Nat.eq_of_testBit_eq;intro j;have e:(wd (λ_=>false) i).testBit j=(decide (j<64)&&false):=jB _ 64 j;rw[e];simp
def jN (n:Nat):Nat:=2^n/64+1
theorem zGG (w:World)(n:Nat)(o:n<=24):
  Calls prog 171 #[iX n] w λe w'=>∃p,e=returned (pX p)/\w.heap.size<=p/\SeIs w' w.heap.size p (jN n) (λ_=>false)/\Grew w w':=by
 have ⟨q,r,s,t,u⟩:=info_parts zPk;have C:2^n<=2^24:=kG (by omega) o;have D:=zFJ n (by omega);have b:Hid (jN n=2^n/64+1):=rfl;have ⟨w1,v,x,d⟩:=run_makeSlice_full (P:=prog) w w.heap.size 257 260 q _ 1 underlying257 r s t i64 i64 (jN n) (by rw[b.out];omega) (by rw[u,b.out];omega) (by rw[b.out];unfold maxLen;omega) lQ;have m:Hid (Row w1 w.heap.size 260 (slice (qX w.heap.size) (jN n) (jN n)) (jN n) (λj=>int .u64 ((wd (λ_=>false) j:Nat):Int))/\Grew w w1):=by
  refine⟨?_,⟨d.os,d.output,d.size,λk y _=>d.block k y (by simp)⟩⟩;have a:=x;rw[Nat.mul_one,zAy _ rfl] at a;refine Row.congr (f:=λ_=>int .u64 0) a λi _=>?_;rw[zOQ];rfl
 have E:w.heap.size<w1.heap.size:=(m.1.get (by rw[b.out];exact Nat.succ_pos _)).elim λg a=>a.elim λc a=>by
  obtain⟨A,_,F,_⟩:=a;injection A with l _ _;injection l with l;injection l with l;omega
 have B:((jN n:Nat):Int)=((2^n:Nat):Int)/64+1:=by rw[b.out];omega
 rw[B] at v;generalize 2^n=G at *;go_in;go_wp2;go_ret;refine⟨_,rfl,by omega,⟨w.heap.size,jN n,gY _ _,?_⟩,m.2.trans (kZ _ _ (by omega))⟩;exact zL m.1 (kZ _ _ lQ)
section
def zKz (f:Nat->Nat):Nat->Nat
 |0=>0
 |n+1=>zKz f n|||f n
theorem zPc (f:Nat->Nat)(k:Nat)(a:∀i,f i<16777216)(n:Nat):zKz f n<16777216:=by
 induction n with
 |zero=>show 0<16777216;omega
 |succ n b=>exact Nat.or_lt_two_pow (n:=24) b (a n)
def spG (by_:List Nat)(i p:Nat):Nat:=if p/8=i/256 then(if (i%256).testBit (p%8) then by_.getD p 0 else 0) else 0
def spF (by_:List Nat)(n i:Nat):Nat:=zKz (spG by_ i) n
theorem zP1 (by_:List Nat)(a:∀x∈by_,x<16777216)(i p:Nat):spG by_ i p<16777216:=by
 unfold spG;split
 ·split
  ·by_cases b:p<by_.length
   ·exact a _ (zV _ _ 0 b)
   ·rw[lW,List.getElem?_eq_none (by omega)];show 0<16777216;omega
  ·omega
 ·omega
theorem zNx (by_:List Nat)(a:∀x∈by_,x<16777216)(n i:Nat):spF by_ n i<16777216:=zPc _ 0 (zP1 by_ a i) n
theorem zIQ (by_:List Nat)(n i:Nat):spF by_ (n+1) i=spF by_ n i|||spG by_ i n:=rfl
theorem zJ7:zeroCells208=((List.range 768).map λ_=>zX).toArray:=by kernel_rfl
def SpAt (w:World)(f:Nat)(c:Nat->Nat):Prop:=∃cs:Array Value,w.heap[f]? =some (.cells cs 208)/\∀i,i<768->cs[i]? =some (int i64 ((c i:Nat):Int))
section
variable {w w2:World} {f:Nat} {c:Nat->Nat}
theorem SpAt.cell (b:SpAt w f c)(i:Nat)(d:i<768):w.cell? ⟨f,i,none⟩=some (iX ((c i:Nat):Int))/\w.frozen? ⟨f,i,none⟩=false:=by
 obtain⟨cs,a,e⟩:=b
 constructor
 ·unfold cell?;rw[a];exact e i d
 ·unfold frozen?;rw[a];simp
theorem SpAt.lt (a:SpAt w f c):f<w.heap.size:=by
 obtain⟨cs,b,_⟩:=a;exact(kQ.1 b).1
theorem SpAt.set (b:SpAt w f c)(i x:Nat):SpAt (w.setCell ⟨f,i,none⟩ (iX (x:Int))) f (λj=>if j=i then x else c j):=by
 obtain⟨cs,d,g⟩:=b;refine⟨cs.setIfInBounds i (iX (x:Int)),by simp[setCell,lU,d],λj k=>?_⟩;have a:=g j k;rw[Array.getElem?_setIfInBounds];by_cases e:i=j
 ·subst e
  have:=(kQ.1 a).1;simp[this]
 ·rw[if_neg e,a]
  simp[Ne.symm e]
theorem SpAt.congr {a:Nat->Nat}(d:SpAt w f c)(e:∀i,i<768->c i=a i):SpAt w f a:=by
 obtain⟨cs,g,j⟩:=d;exact⟨cs,g,λi b=>by rw[<-e i b];exact j i b⟩
theorem SpAt.keep (a:SpAt w f c)(e:w2.heap[f]? =w.heap[f]?):SpAt w2 f c:=by
 obtain⟨cs,b,d⟩:=a;exact⟨cs,e.trans b,d⟩
end
theorem zIx (w:World):SpAt (w.alloc (Obj.cells zeroCells208 208)) w.heap.size (λ_=>0):=by
 refine⟨_,gY _ _,λi a=>?_⟩;rw[zJ7];simp[a]
theorem zBZ (w:World)(v:Value)(by_:List Nat)(L:Ints w (In w) v (ints by_))(ae:by_.length<=24)(t:∀x∈by_,x<16777216):
  Calls prog 128 #[v] w λe w'=>e=returned (pX w.heap.size)/\SpAt w' w.heap.size (spF by_ by_.length)/\Grew w w':=by
 obtain⟨M,af,rfl,_,_,A⟩:=L;rw[zP] at A ⊢;have N:Hid (∀i,i<by_.length->∃b o,M=some ⟨b,o,none⟩/\In w b/\w.cell? ⟨b,o+i,none⟩=some (iX ((by_.getD i 0:Nat):Int))/\by_.getD i 0<16777216):=by
  intro i g;obtain⟨b,o,k,D,E⟩:=A i g;rw[vY] at E;exact⟨b,o,k,D,E,t _ (zV _ _ 0 g)⟩
 have O:=vl <| zNx by_ t;have P:=vl <| zIx w;clear A t;go_in;go_wp2;go_loopg [4] by_.length (λq i wr=>∃j:Nat,q=by_.length-j/\j<=by_.length/\i=iX (j:Int)/\SpAt wr w.heap.size (spF by_ j)/\Grew w wr)
 case atStart=>exact⟨0,rfl,lX,rfl,P,kZ _ _ lQ⟩
 case round=>
  obtain⟨j,B,ag,rfl,a,d⟩:=hrel;have p:Hid (gk=by_.length-j/\SpAt wr w.heap.size (spF by_ j)/\Grew w wr):=⟨B,a,d⟩
  by_cases R:j<by_.length
  ·have S:(j:Int)<(by_.length:Int):=by omega
   have ah:(j:Int)<24:=by omega
   obtain⟨b,o,rfl,T,F,ai⟩:=N j R;have U:=vl F;clear B a d F;go_wp2;go_loopg [5] 256 (λq i wr=>∃s:Nat,q=256-s/\s<=256/\i=iX (s:Int)/\SpAt wr w.heap.size (λi=>if i%256<s then spF by_ (j+1) i else spF by_ j i)/\Grew w wr)
   case atStart=>exact⟨0,rfl,lX,rfl,p.2.1.congr λi _=>by simp,p.2.2⟩
   case round=>
    obtain⟨s,C,t,rfl,a,d⟩:=hrel;have l:Hid (gk=256-s/\SpAt wr w.heap.size (λi=>if i%256<s then spF by_ (j+1) i else spF by_ j i)/\Grew w wr):=⟨C,a,d⟩
    by_cases aj:s<256
    ·have V:(s:Int)<256:=by omega
     have ak:wr.cell? ⟨b,o+j,none⟩=some (iX ((by_.getD j 0:Nat):Int)):=zA U T d;have u:bits .and i64 ((s:Int)/2^(j%8)) 1=((s/2^(j%8)%2:Nat):Int):=by
      rw[zBP];exact zEM _ (Nat.lt_of_le_of_lt (Nat.div_le_self _ _) (by omega))
     have y:Hid (s.testBit (j%8)=decide (s/2^(j%8)%2=1)):=Nat.testBit_eq_decide_div_mod_eq;have W:j/8*256+s<768:=by omega
     obtain⟨G,al⟩:=a.cell (j/8*256+s) W;have y3:wr.cell? ⟨w.heap.size,j/8*256+s,none⟩=some (iX ((spF by_ j (j/8*256+s):Nat):Int)):=by
      rw[G,if_neg (by omega)]
     have z:Hid (∀i,i<768->(if i%256<s+1 then spF by_ (j+1) i else spF by_ j i)=if i=j/8*256+s then spF by_ j i|||(if s.testBit (j%8) then by_.getD j 0 else 0) else if i%256<s then spF by_ (j+1) i else spF by_ j i):=λi g=>by
      by_cases e:i=j/8*256+s
      ·rw[if_pos e,if_pos (by omega),zIQ]
       congr 1
       unfold spG;rw[if_pos (by omega),show i%256=s by omega]
      ·rw[if_neg e]
       by_cases H:i%256<s
       ·rw[if_pos H,if_pos (by omega)]
       ·rw[if_neg H]
        by_cases I:i%256<s+1
        ·rw[if_pos I,zIQ]
         unfold spG;rw[if_neg (by omega),Nat.or_zero]
        ·rw[if_neg I]
     have am:=O j (j/8*256+s);clear C a d G;cases m:s.testBit (j%8) with
     |true=>
      have X:(bits .and i64 ((s:Int)/2^(j%8)) 1==1)=true:=by
       have k:=y.out;rw[m] at k;rw[u,of_decide_eq_true k.symm];rfl
      rw[m] at z;have Y:Hid (bits .or i64 ((spF by_ j (j/8*256+s):Nat):Int) ((by_.getD j 0:Nat):Int)=((spF by_ j (j/8*256+s)|||by_.getD j 0:Nat):Int)):=yZ _ _ (by omega) (by omega);clear u y m;generalize aa:by_.getD j 0=r at *;generalize J:spF by_ j (j/8*256+s)=c0 at *;have ac:Hid (spF by_ j (j/8*256+s)=c0):=J;clear aa J;have an:(j:Int)/8<3:=by omega
      have ao:(0:Int)<=(j:Int)/8:=by omega
      go_wp2;go_region;go_wp2;go_roundg (256-(s+1))
      case measure=>rw[l.out.1];omega
      case rel=>
       refine⟨s+1,rfl,by omega,by go_num,?_,l.2.2.trans (Keep.trans (zQ _ _ _ _ lQ) (Keep.drew _))⟩;have K:=l.2.1.set (j/8*256+s) (c0|||r);rw[<-Y.out] at K;refine SpAt.keep (SpAt.congr K λi g=>?_) rfl;show(if i=_ then _ else if _ then _ else _)=if _ then _ else _
       rw[z.out i g];by_cases e:i=j/8*256+s
       ·rw[if_pos e,if_pos e,e,ac.out];simp
       ·rw[if_neg e,if_neg e]
     |false=>
      have X:(bits .and i64 ((s:Int)/2^(j%8)) 1==1)=false:=by
       have k:=y.out;rw[m] at k;have D:=of_decide_eq_false k.symm;rw[u,hX];omega
      rw[m] at z;clear u y m;go_wp2;go_roundg (256-(s+1))
      case measure=>rw[l.out.1];omega
      case rel=>
       refine⟨s+1,rfl,by omega,by go_num,?_,l.2.2⟩;refine l.2.1.congr λi g=>?_;show(if _ then _ else _)=if _ then _ else _
       rw[z.out i g];by_cases e:i=j/8*256+s
       ·rw[if_pos e,if_neg (by omega),if_neg (by decide),Nat.or_zero]
       ·rw[if_neg e]
    ·have V:(256:Int)<=(s:Int):=by omega
     have e:s=256:=by omega
     subst e;have ad:Hid (SpAt wr w.heap.size (spF by_ (j+1))):=a.congr λi _=>by rw[if_pos (hJ _ (by omega))]
     clear C a d;go_wp2;go_roundg (by_.length-(j+1))
     case measure=>rw[p.out.1];omega
     case rel=>exact⟨j+1,rfl,by omega,by go_num,ad,l.2.2⟩
  ·have S:(by_.length:Int)<=(j:Int):=by omega
   have e:j=by_.length:=by omega
   subst e;clear B a d;go_wp2;go_ret;exact⟨rfl,p.2.1,p.2.2⟩
end
def qT (c:Nat->Nat)(x:Nat):Nat:=c (x%256)|||c (256+x/256%256)|||c (512+x/65536%256)
theorem zOW (c:Nat->Nat)(a:∀i,c i<16777216)(x:Nat):qT c x<16777216:=Nat.or_lt_two_pow (n:=24) (Nat.or_lt_two_pow (n:=24) (a _) (a _)) (a _)
theorem zB6 (w:World)(f:Nat)(c:Nat->Nat)(a:SpAt w f c)(b:∀i,c i<16777216)(x:Nat)(j:x<16777216):
  Calls prog 92 #[pX f,iX x] w λe w'=>e=returned (iX ((qT c x:Nat):Int))/\Grew w w':=by
 have m:∀y:Nat,y<16777216->bits .and i64 (y:Int) 255=((y%256:Nat):Int):=λy t=>by
  have:=qR y 255 (by omega) (by omega);rw[show (255:Nat)=2^8-1 from rfl,Nat.and_two_pow_sub_one_eq_mod] at this;exact this
 have m0:=m x j;have m1:bits .and i64 ((x:Int)/256) 255=((x/256%256:Nat):Int):=by
  have:=m (x/256) (by omega);rw[<-this]
  congr 1
 have m2:bits .and i64 ((x:Int)/65536) 255=((x/65536%256:Nat):Int):=by
  have:=m (x/65536) (by omega);rw[<-this]
  congr 1
 have u:=(a.cell (x%256) (by omega)).1;have v:=(a.cell (256+x/256%256) (by omega)).1;have z:=(a.cell (512+x/65536%256) (by omega)).1;have k:Hid (qT c x=c (x%256)|||c (256+x/256%256)|||c (512+x/65536%256)):=rfl;have l:=b (x%256);have o:=b (256+x/256%256);have A:=b (512+x/65536%256);have B:((x%256:Nat):Int)<256:=by omega
 have C:((x/256%256:Nat):Int)<256:=by omega
 have D:((x/65536%256:Nat):Int)<256:=by omega
 clear m b a;generalize x%256=p at *;generalize x/256%256=q at *;generalize x/65536%256=r at *;generalize c p=c0 at *;generalize c (256+q)=c1 at *;generalize c (512+r)=c2 at *;have g:=yZ c0 c1 (by omega) (by omega);have d:=yZ (c0|||c1) c2 (Nat.lt_trans (Nat.or_lt_two_pow (n:=24) l o) (by omega)) (by omega);rw[<-g] at d;have s:=vl d;clear g d;go_in;go_wp2;go_quiet (fail);go_wp2;go_ret;refine⟨?_,Keep.alike (w':=w.drewN nq) ⟨rfl,rfl,rfl⟩⟩;rw[k.out,<-s.out];rfl
def qB (follow:List Nat)(n q:Nat):Nat:=qF (λp=>(follow.getD p 0).testBit q) n
def zCT (follow:List Nat):List Nat:=(List.range follow.length).map (qB follow follow.length)
theorem zDV (follow:List Nat):(zCT follow).length=follow.length:=by simp[zCT]
theorem zDW (follow:List Nat)(q:Nat)(a:q<follow.length):(zCT follow).getD q 0=qB follow follow.length q:=by
 unfold zCT;rw[lW,gZ,List.getElem?_range a];rfl
theorem zID (follow:List Nat)(n q:Nat)(a:n<=24):qB follow n q<16777216:=lZ (zBw _ n) (kG (by omega) a:2^n<=2^24)
theorem zKa (follow:List Nat)(n q:Nat):qB follow (n+1) q=if(follow.getD n 0).testBit q then qB follow n q|||2^n else qB follow n q:=rfl
theorem zPb (a j:Nat)(b:j<62)(c:a<9223372036854775808):bits .or i64 (a:Int) (IntKind.i64.wrap (2^j))=((a|||2^j:Nat):Int):=by
 have d:2^j<2^62:=Nat.pow_lt_pow_right (by omega) b;have e:((2:Int)^j)=((2^j:Nat):Int):=by simp
 rw[e];generalize 2^j=f at *;rw[zCh _ (by omega) (by omega)];exact yZ _ _ c (by omega)
theorem zLV (x q:Nat)(a:x<9223372036854775808):(bits .and i64 ((x:Int)/2^q) 1==1)=x.testBit q:=by
 have b:bits .and i64 ((x:Int)/2^q) 1=((x/2^q%2:Nat):Int):=by
  rw[zBP];exact zEM _ (Nat.lt_of_le_of_lt (Nat.div_le_self _ _) a)
 have c:x.testBit q=decide (x/2^q%2=1):=Nat.testBit_eq_decide_div_mod_eq;rw[b,c];by_cases e:x/2^q%2=1
 ·rw[e];rfl
 ·rw[gG e,hX];omega
theorem zHH (w:World)(v:Value)(a:List Nat)(S:Ints w (In w) v (ints a))(ay:a.length<=24)(B:∀x∈a,x<16777216):
  Calls prog 170 #[v] w λe w'=>∃u,e=returned u/\Ints w' (In w') u (ints (zCT a))/\Grew w w':=by
 obtain⟨T,U,V,W,X⟩:=info_parts yW;obtain⟨Y,az,rfl,_,_,C⟩:=S;rw[zP] at C ⊢;have aa:Hid (∀i,i<a.length->∃b o,Y=some ⟨b,o,none⟩/\In w b/\w.cell? ⟨b,o+i,none⟩=some (iX ((a.getD i 0:Nat):Int))/\a.getD i 0<16777216):=by
  intro i f;obtain⟨b,o,ac,ad,F⟩:=C i f;rw[vY] at F;exact⟨b,o,ac,ad,F,B _ (zV _ _ 0 f)⟩
 obtain⟨w1,ae,G,p⟩:=run_makeSlice_full (P:=prog) w w.heap.size 45 3 T _ 1 underlying45 U V W i64 i64 a.length (by omega) (by rw[X];omega) (by unfold maxLen;omega) lQ;have I:Hid (Row w1 w.heap.size 3 (slice (qX w.heap.size) a.length a.length) a.length (λq=>iX ((qB a 0 q:Nat):Int))/\Grew w w1):=by
  refine⟨?_,⟨p.os,p.output,p.size,λk af _=>p.block k af (by simp)⟩⟩;have c:=G;rw[Nat.mul_one,zAy _ rfl] at c;exact c
 have ag:Hid (∀wr,Row wr w.heap.size 3 (slice (qX w.heap.size) a.length a.length) a.length (λq=>iX ((qB a a.length q:Nat):Int))->Ints wr (In wr) (slice (qX w.heap.size) a.length a.length) (ints (zCT a))):=λwr c=>by
  refine zA0 (H:=w.heap.size) (Row.ownI ?_);rw[zP,zDV];refine c.congr λq ah=>?_;rw[vY,zDW _ _ ah]
 have ai:Hid (∀j q,j<=24->qB a j q<16777216):=λj q c=>zID a j q c;clear C B G p;go_in;go_wp2;clear ae;go_loopg [12] a.length (λk i wr=>∃j:Nat,k=a.length-j/\j<=a.length/\i=iX (j:Int)/\Row wr w.heap.size 3 (slice (qX w.heap.size) a.length a.length) a.length (λq=>iX ((qB a j q:Nat):Int))/\Grew w wr)
 case atStart=>exact⟨0,rfl,lX,rfl,I.1,I.2⟩
 case round=>
  obtain⟨j,D,aA,rfl,d,l⟩:=hrel;have t:Hid (gk=a.length-j/\Row wr w.heap.size 3 (slice (qX w.heap.size) a.length a.length) a.length (λq=>iX ((qB a j q:Nat):Int))/\Grew w wr):=⟨D,d,l⟩
  by_cases aj:j<a.length
  ·have ak:(j:Int)<(a.length:Int):=by omega
   obtain⟨b,o,rfl,al,J,aB⟩:=aa j aj;have am:wr.cell? ⟨b,o+j,none⟩=some (iX ((a.getD j 0:Nat):Int)):=zA J al l;have an:Hid (∀q,qB a (j+1) q=if(a.getD j 0).testBit q then qB a j q|||2^j else qB a j q):=λq=>zKa a j q;clear D d l J;generalize a.getD j 0=r at *;go_wp2;clear am;go_loopg [19] a.length (λk i wr=>∃s:Nat,k=a.length-s/\s<=a.length/\i=iX (s:Int)/\Row wr w.heap.size 3 (slice (qX w.heap.size) a.length a.length) a.length (λq=>iX (((if q<s then qB a (j+1) q else qB a j q:Nat)):Int))/\Grew w wr)
   case atStart=>exact⟨0,rfl,lX,rfl,t.2.1.congr λi _=>by simp,t.2.2⟩
   case round=>
    obtain⟨s,E,B,rfl,d,l⟩:=hrel;have m:Hid (gk=a.length-s/\Row wr w.heap.size 3 (slice (qX w.heap.size) a.length a.length) a.length (λq=>iX (((if q<s then qB a (j+1) q else qB a j q:Nat)):Int))/\Grew w wr):=⟨E,d,l⟩
    by_cases ao:s<a.length
    ·have ap:(s:Int)<(a.length:Int):=by omega
     obtain⟨g,aC,K,aq,ar,au,av,L,M⟩:=d.get (by omega);have aw:g=w.heap.size:=by injection K with y _ _;injection y with y;injection y with y;exact y.symm
     subst aw;have aD:wr.cell? ⟨w.heap.size,s,none⟩=some (iX ((qB a j s:Nat):Int)):=by
      rw[L s ao,if_neg (by omega)]
     have aE:=M s;have N:=zLV r s (by omega);have aF:=ai j s (by omega);have z:Hid (∀i,i<a.length->(if i<s+1 then qB a (j+1) i else qB a j i)=if i=s then(if r.testBit s then qB a j s|||2^j else qB a j s) else if i<s then qB a (j+1) i else qB a j i):=λi f=>by
      by_cases e:i=s
      ·rw[if_pos e,if_pos (by omega),e,an.out s]
      ·rw[if_neg e]
       by_cases O:i<s
       ·rw[if_pos O,if_pos (by omega)]
       ·rw[if_neg O,if_neg (by omega)]
     clear E d l K aq ar au av L M;cases A:r.testBit s with
     |true=>
      rw[A] at N z;have aG:Hid (bits .or i64 ((qB a j s:Nat):Int) (IntKind.i64.wrap (2^j))=((qB a j s|||2^j:Nat):Int)):=zPb _ j (by omega) (by omega);have R:Hid (bits .or i64 ((qB a j s:Nat):Int) (wrap64 (2^j))=((qB a j s|||2^j:Nat):Int)):=zNQ _ j (by omega) (by omega);clear A;generalize qB a j s=c0 at *;go_wp2;go_region;go_wp2;go_roundg (a.length-(s+1))
      case measure=>rw[m.out.1];omega
      case rel=>
       refine⟨s+1,rfl,by omega,by go_num,?_,m.2.2.trans (Keep.trans (zQ _ _ _ _ lQ) (Keep.drew _))⟩;have c:=m.2.1.set s (iX ((c0|||2^j:Nat):Int));rw[<-R.out] at c;refine Row.congr (w:=(wr.setCell ⟨w.heap.size,s,none⟩ _).drew) c λi f=>?_;rw[z.out i f];by_cases e:i=s
       ·rw[if_pos e,if_pos e];rw[R.out];simp
       ·rw[if_neg e,if_neg e]
     |false=>
      rw[A] at N z;clear A;go_wp2;go_roundg (a.length-(s+1))
      case measure=>rw[m.out.1];omega
      case rel=>
       refine⟨s+1,rfl,by omega,by go_num,?_,m.2.2⟩;refine m.2.1.congr λi f=>?_;rw[z.out i f];by_cases e:i=s
       ·rw[if_pos e,if_neg (by omega),e];simp
       ·rw[if_neg e]
    ·have ap:(a.length:Int)<=(s:Int):=by omega
     have ax:=vl <| d.congr λi f=>by rw[if_pos (by omega)]
     clear E d l;go_wp2;go_roundg (a.length-(j+1))
     case measure=>rw[t.out.1];omega
     case rel=>exact⟨j+1,rfl,by omega,by go_num,ax,m.2.2⟩
  ·have ak:(a.length:Int)<=(j:Int):=by omega
   have e:j=a.length:=by omega
   subst e;clear D d l;go_wp2;go_ret;exact⟨_,rfl,ag _ t.2.1,t.2.2⟩
section
def zGu (l:List Nat)(x:Nat):List Nat:=if l.contains x then l else l++[x]
def zA6 (c:Nat->Nat)(ls:List Nat)(t:Nat)(l:List Nat):Nat->List Nat
 |0=>l
 |k+1=>zGu (zA6 c ls t l k) (qT c (t&&&ls.getD k 0))
def vG (c:Nat->Nat)(ls:List Nat):Nat->Nat->List Nat->List Nat
 |0,_,l=>l
 |f+1,i,l=>if i<l.length then vG c ls f (i+1) (zA6 c ls (l.getD i 0) l ls.length) else l
def zPZ (c:Nat->Nat)(ls:List Nat)(ends:Nat):List Nat:=vG c ls 16777216 0 [ends]
structure Once (B:Nat)(l:List Nat):Prop where
 nd:l.Nodup
 lt:∀x∈l,x<B
theorem zJj (B:Nat)(l:List Nat)(b:Once B l):l.length<=B:=by
 induction B generalizing l with
 |zero=>
  cases l with
  |nil=>exact lQ
  |cons x l=>exact absurd (b.lt x (gQ)) (by omega)
 |succ B e=>
  have f:Once B (l.erase B):=⟨b.nd.erase B,λx g=>by
   have d:=(b.nd.mem_erase_iff.1 g)
   have:=b.lt x d.2;have:=d.1;omega⟩
  have:=e _ f;have j:=List.length_erase (a:=B) (l:=l);rw[j] at this;split at this <;> omega
theorem zNn {B:Nat}{l:List Nat}{x:Nat}(d:Once B l)(g:x<B):Once B (zGu l x):=by
 unfold zGu;split
 ·exact d
 ·rename_i j
  refine⟨?_,λy k=>?_⟩
  ·rw[List.nodup_append]
   refine⟨d.nd,by simp,λa o b p e=>?_⟩;rw[kY.1 p] at e;subst e;exact j (by simpa using o)
  ·rcases kU.1 k with f|f
   ·exact d.lt y f
   ·rw[kY.1 f];exact g
theorem zOJ (l:List Nat)(x:Nat):l.length<=(zGu l x).length/\∀i,i<l.length->(zGu l x).getD i 0=l.getD i 0:=by
 unfold zGu;split
 ·exact⟨lQ,λ_ _=>rfl⟩
 ·refine⟨by simp,λi a=>?_⟩
  rw[lW,kW a,lW]
theorem zF3 (c:Nat->Nat)(a:List Nat)(t:Nat)(l:List Nat)(k:Nat):l.length<=(zA6 c a t l k).length/\∀i,i<l.length->(zA6 c a t l k).getD i 0=l.getD i 0:=by
 induction k with
 |zero=>exact⟨lQ,λ_ _=>rfl⟩
 |succ k b=>
  have d:=zOJ (zA6 c a t l k) (qT c (t&&&a.getD k 0));exact⟨lY b.1 d.1,λi e=>(d.2 i (by omega)).trans (b.2 i e)⟩
theorem zEi {B:Nat}{c:Nat->Nat}(a:∀x,qT c x<B)(b:List Nat)(t:Nat){l:List Nat}(d:Once B l)(k:Nat):Once B (zA6 c b t l k):=by
 induction k with
 |zero=>exact d
 |succ k e=>exact zNn e (a _)
theorem zHJ {B:Nat}{c:Nat->Nat}(d:∀x,qT c x<B)(b:List Nat)(f:Nat):∀i l,Once B l->Once B (vG c b f i l):=by
 induction f with
 |zero=>exact λi l a=>a
 |succ f e=>
  intro i l a;unfold vG;split
  ·exact e _ _ (zEi d b _ a _)
  ·exact a
theorem zNR (f:Nat->Nat)(k:Nat)(a:∀i,f i<2^k)(n:Nat):zKz f n<2^k:=by
 induction n with
 |zero=>exact Nat.pow_pos (by omega)
 |succ n b=>exact Nat.or_lt_two_pow b (a n)
theorem zOX (by_:List Nat)(k:Nat)(b:∀x∈by_,x<2^k)(n i:Nat):spF by_ n i<2^k:=by
 refine zNR _ k (λp=>?_) n;have a:0<2^k:=Nat.pow_pos (by omega);unfold spG;split
 ·split
  ·by_cases d:p<by_.length
   ·exact b _ (zV _ _ 0 d)
   ·rw[lW,List.getElem?_eq_none (by omega)];exact a
  ·exact a
 ·exact a
theorem zFu (c:Nat->Nat)(k:Nat)(a:∀i,c i<2^k)(x:Nat):qT c x<2^k:=Nat.or_lt_two_pow (Nat.or_lt_two_pow (a _) (a _)) (a _)
structure Tt (w0 w:World)(fb ps N:Nat)(c:Nat->Nat)(u:Value)(l:List Nat)(m:Nat->Bool):Prop where
 sp:SpAt w fb c
 se:SeIs w w0.heap.size ps N m
 own:w.ownsRow w0.heap.size 21 1 u l.length (l.map λ(x:Nat)=>int .i32 (x:Int))
 keep:Grew w0 w
section
variable {w0 w w2:World} {fb ps N:Nat} {c:Nat->Nat} {u:Value} {l:List Nat} {m:Nat->Bool}
theorem SeIs.grown {H:Nat}(a:SeIs w H ps N m)(b:Grew w w2):SeIs w2 H ps N m:=by
 obtain⟨g,cap,a⟩:=a;have d:=(kQ.1 a.blk).1;exact⟨g,cap,(b.block ps d (kJ d)).trans a.blk,zL a.row b⟩
theorem Tt.grown (a:Tt w0 w fb ps N c u l m)(b:Grew w w2):Tt w0 w2 fb ps N c u l m:=
 ⟨a.sp.keep (b.block fb a.sp.lt (kJ a.sp.lt)),a.se.grown b,zL a.own b,a.keep.th b⟩
theorem Tt.add {j:Nat->Bool}(b:Tt w0 w fb ps N c u l m)(a:StayU w0.heap.size w w2)(q:SeIs w2 w0.heap.size ps N j):Tt w0 w2 fb ps N c u l j:=by
 refine⟨?_,q,zE b.own λg _ _ d=>?_,b.keep.trans ⟨a.os,a.output,Nat.le_of_eq a.size.symm,λk r _=>a.low k r⟩⟩
 ·have ⟨cs,s,t⟩:=b.sp
  exact⟨cs,a.other fb cs _ s (by decide),t⟩
 ·rcases b.own.2 with⟨f,_⟩|⟨o,cap,v,f,_,p,_⟩
  ·rw[f] at d;cases d
  ·rw[f] at d
   have e:o=g:=by simpa[Value.ownBlock] using d
   subst e;rw[p];exact a.other o v _ p (by decide)
theorem Tt.app {o:Obj}{g cap x:Nat}(a:Tt w0 w fb ps N c u l m)(r:w2.ownsRow w0.heap.size 21 1 (slice (qX g) (l.length+1) cap) (l.length+1) ((l.map λ(x:Nat)=>int .i32 (x:Int))++[int .i32 (x:Int)]))(b:(w.alloc o).grownBy w2 u.ownBlock):
  Tt w0 w2 fb ps N c (slice (qX g) (l.length+1) cap) (l++[x]) m:=by
 have f:∀j,j<w.heap.size->some j≠u.ownBlock->w2.heap[j]? =w.heap[j]? :=λj A s=>(b.block j (by simp;omega) s).trans (lG _ _ _ (by omega));refine⟨?_,?_,?_,a.keep.trans ⟨b.os,b.output,lY (by simp) b.size,λk p _=>f k (lZ p a.keep.size) λe=>by have:=(a.own.lt k e.symm).1;omega⟩⟩
 ·have ⟨cs,q,t⟩:=a.sp
  exact⟨cs,(f fb a.sp.lt (zO a.own q (by decide))).trans q,t⟩
 ·have ⟨v,y,d⟩:=a.se
  have z:=(kQ.1 d.blk).1;exact⟨v,y,(f ps z (zO a.own d.blk (by decide))).trans d.blk,zU b d.row λk p=>xZ d.row a.own (by decide) p⟩
 ·have e:(l++[x]).length=l.length+1:=by simp
  rw[e,List.map_append];exact r
end
end
structure Nt where
 sets:List Cs
 follow:List Nat
 first:Nat
 ends:Nat
 rules:List Nat
 empty:List Bool
structure Nt.Ok (n:Nt):Prop where
 len:n.sets.length<=24
 fl:n.follow.length=n.sets.length
 fs:∀x∈n.follow,x<2^n.sets.length
 first:n.first<2^n.sets.length
 ends:n.ends<2^n.sets.length
 eight:n.rules.length<=8
 rs:∀x∈n.rules,x<2^n.sets.length
theorem Nt.Ok.top {n:Nt}(a:n.Ok):2^n.sets.length<=16777216:=(kG (by omega) a.len:2^n.sets.length<=2^24)
structure NetAt (w:World)(q:Nat)(n:Nt)(sv fv rv ev:Value):Prop where
 lq:q<w.heap.size
 c0:w.cell? ⟨q,0,none⟩=some sv
 c1:w.cell? ⟨q,1,none⟩=some fv
 c2:w.cell? ⟨q,2,none⟩=some (int i64 (n.first:Int))
 c3:w.cell? ⟨q,3,none⟩=some (int i64 (n.ends:Int))
 c4:w.cell? ⟨q,4,none⟩=some rv
 c5:w.cell? ⟨q,5,none⟩=some ev
 sets:SetsAt w sv n.sets
 follow:Ints w (In w) fv (ints n.follow)
 rules:Ints w (In w) rv (ints n.rules)
 empty:Bools w (In w) ev n.empty
theorem NetAt.grown {w w2:World}{q:Nat}{n:Nt}{sv c rv d:Value}(a:NetAt w q n sv c rv d)(b:Grew w w2):NetAt w2 q n sv c rv d:=
 ⟨lZ a.lq b.size,zA a.c0 a.lq b,zA a.c1 a.lq b,zA a.c2 a.lq b,zA a.c3 a.lq b,zA a.c4 a.lq b,zA a.c5 a.lq b,a.sets.grown b,a.follow.grown b,a.rules.grown b,a.empty.grown b⟩
def Nt.back (n:Nt):Nat->Nat:=spF (zCT n.follow) n.follow.length
def Nt.tails (n:Nt)(ls:List Nat):List Nat:=zPZ n.back ls n.ends
theorem Nt.back_lt {n:Nt}(a:n.Ok)(i:Nat):n.back i<2^n.sets.length:=by
 refine zOX _ _ (λx b=>?_) _ _;obtain⟨q,c,rfl⟩:=List.mem_map.1 b;have:=zBw (λp=>(n.follow.getD p 0).testBit q) n.follow.length;rw[a.fl] at this;show qB n.follow n.follow.length q<_;rw[a.fl];exact this
theorem Nt.tails_once {n:Nt}(a:n.Ok)(b:List Nat):Once (2^n.sets.length) (n.tails b):=
 zHJ (zFu _ _ (Nt.back_lt a)) b _ _ _ ⟨by simp,λx c=>by rw[kY.1 c];exact a.ends⟩
theorem Once.top {n:Nt}(a:n.Ok){l:List Nat}(b:Once (2^n.sets.length) l):l.length<=16777216/\∀x∈l,x<16777216:=
 ⟨lY (zJj _ _ b) a.top,λx c=>lZ (b.lt x c) a.top⟩
theorem zJf {w:World}{H:Nat}{v:Value}{l:List Nat}(b:w.ownsRow H 21 1 v l.length (l.map λ(x:Nat)=>int .i32 (x:Int))):I32s w (In w) v l:=by
 rcases b.2 with⟨a,e⟩|⟨g,cap,k,a,m,o,f,j,p,q⟩
 ·exact⟨none,0,by rw[a,e],by omega,by unfold maxLen;omega,λi c=>by omega⟩
 ·refine⟨some ⟨g,0,none⟩,cap,a,f,j,λi c=>⟨g,0,rfl,(b.lt g (by rw[a];rfl)).2,?_⟩⟩
  have d:=b.cells (g:=g) (by rw[a];rfl) i (int .i32 ((l.getD i 0:Nat):Int)) (by
   rw[gZ,lV c,lW,lV c];rfl)
  rw[Addr.add_lit] at d;exact d
theorem zPm:(prog.info? 21).map (λi=>(i.zero,i.size,i.bytes))=some (some (int .i32 0),1,4):=by kernel_rfl
theorem zNS (w:World)(H x:Nat)(a:H<=w.heap.size):(w.alloc (.cells #[int .i32 (x:Int)] 21)).ownsRow H 21 1 (slice (qX w.heap.size) 1 1) ([x]:List Nat).length (([x]:List Nat).map λ(x:Nat)=>int .i32 (x:Int)):=
 ⟨rfl,.inr ⟨w.heap.size,1,_,rfl,a,gY w _,lQ,by unfold maxLen;omega,rfl,rfl⟩⟩
theorem zGy (w:World)(q:Nat)(n:Nt)(sv ad rv aQ:Value)(H:NetAt w q n sv ad rv aQ)(ok:n.Ok)(lv:Value)(a:List Nat)(ae:Ints w (In w) lv (ints a))(bt:a.length<=1000000000000)(av:∀x∈a,x<16777216):
  Calls prog 129 #[pX q,lv] w λe w'=>∃u,e=returned u/\I32s w' (In w') u (n.tails a)/\Grew w w':=by
 have ⟨aR,aS,aT,aU,aV⟩:=info_parts zPm;obtain⟨bu,bv,rfl,-⟩:=id H.sets;obtain⟨aW,bw,rfl,-⟩:=id ae;have T:=ok.len;have aw:=ok.top;have ax:=ok.ends;have bx:=H.c0;have bz:=H.c1;have bA:=H.c3;have U:=vl H;have af:Hid n.Ok:=ok;have aX:Hid (∀w2,w2=w->Ca 170 #[ad] w2 λe w'=>∃u,e=returned u/\Ints w' (In w') u (ints (zCT n.follow))/\Grew w w'):=by
  rintro w2 rfl;exact zHH w2 ad n.follow U.follow (by rw[ok.fl];exact T) λx B=>lZ (ok.fs x B) aw
 have aY:Hid (∀w1 u,Ints w1 (In w1) u (ints (zCT n.follow))->Grew w w1->Ca 128 #[u] w1 λe w'=>e=returned (pX w1.heap.size)/\SpAt w' w1.heap.size n.back/\Grew w w'):=λw1 u E V=>by
  refine(zBZ w1 u (zCT n.follow) E (by rw[zDV,ok.fl];exact T) λx B=>?_).mono ?_
  ·obtain⟨q,bB,rfl⟩:=List.mem_map.1 B
   exact zID _ _ _ (by rw[ok.fl];exact T)
  ·rintro e w2 ⟨rfl,C,I⟩
   rw[zDV] at C;exact⟨rfl,C,V.th I⟩
 have aZ:Hid (∀w2 f,SpAt w2 f n.back->Grew w w2->Ca 171 #[iX (n.sets.length:Int)] w2 λe w'=>∃p,e=returned (pX p)/\SeIs w' w.heap.size p (jN n.sets.length) (λ_=>false)/\SpAt w' f n.back/\Grew w w'):=λw2 f ag V=>by
  refine(zGG w2 n.sets.length T).mono ?_;rintro e s ⟨p,rfl,bC,⟨g,cap,ay⟩,J⟩;exact⟨p,rfl,⟨g,cap,ay.blk,ay.row.mono V.size⟩,ag.keep (J.block f ag.lt (kJ ag.lt)),V.th J⟩
 have a0:∀x:Nat,x<2^n.sets.length->x<64*jN n.sets.length:=λx B=>by unfold jN;omega
 have a1:jN n.sets.length<=1000000:=by unfold jN;omega
 have ah:Hid (∀s p f m u l,Tt w s f p (jN n.sets.length) n.back u l m->∀x:Nat,x<2^n.sets.length->Ca 172 #[pX p,iX (x:Int)] s λe w'=>e=returned (bool (!m x))/\Tt w w' f p (jN n.sets.length) n.back u l (λy=>y==x||m y)):=λs p f m u l A x B=>by
  refine(zGA s w.heap.size p (jN n.sets.length) m A.se a1 x (a0 x B)).mono ?_;rintro e K ⟨rfl,C,I⟩;exact⟨rfl,A.add I C⟩
 have a2:Hid (∀s p f m u l,Tt w s f p (jN n.sets.length) n.back u l m->∀x:Nat,x<16777216->Ca 92 #[pX f,iX (x:Int)] s λe w'=>e=returned (iX ((qT n.back x:Nat):Int))/\Tt w w' f p (jN n.sets.length) n.back u l m):=λs p f m u l A x B=>by
  refine(zB6 s f n.back A.sp (λi=>lZ (Nt.back_lt af i) aw) x B).mono ?_;rintro e K ⟨rfl,C⟩;exact⟨rfl,A.grown C⟩
 have a3:Hid (∀i,i<a.length->∃b o,aW=some ⟨b,o,none⟩/\In w b/\cX w b (o+i)=some (iX ((a.getD i 0:Nat):Int))/\a.getD i 0<16777216):=by
  obtain⟨bD,bE,a4,_,_,a5⟩:=ae;injection a4 with a6 _ _;subst a6;intro i az;have ⟨b,o,C,a7,I⟩:=a5 i (by rw[zP];exact az);rw[vY] at I;exact⟨b,o,C,a7,I,av _ (zV _ i 0 az)⟩
 have ai:Hid (∀l,Once (2^n.sets.length) l->l.length<=16777216/\∀x∈l,x<16777216):=λl a8=>Once.top af a8;have aA:=vl <| zFu _ _ (Nt.back_lt af);have a9:Hid (Once (2^n.sets.length) [n.ends]):=⟨by simp,λx B=>by rw[kY.1 B];exact ax⟩
 have ba:Hid (n.tails a=vG n.back a 16777216 0 [n.ends]):=rfl;rw[zP];have bF:n.ends<16777216:=by omega
 clear H ok ae av;go_in;go_wp2_with (first|(go_at_call 170;refine(aX _ rfl).mono ?_;rintro e w1 ⟨u,rfl,E,aB⟩;have bb:=vl E;clear E)|(go_at_call 128;refine(aY w1 u bb aB).mono ?_;rintro e w2 ⟨rfl,aC,aj⟩;have bc:=(U.grown aj).c0;clear aB)|(go_at_call 171;refine(aZ w2 w1.heap.size aC aj).mono ?_;rintro e s ⟨p,rfl,aD,aE,J⟩;have y3:=(U.grown J).c3;have aF:Tt w s w1.heap.size p (jN n.sets.length) n.back nX [] (λ_=>false):=⟨aE,aD,ownsRow_nil _ _ _ _,J⟩;clear bc aj aC)|(go_at_call 172;refine(ah s p w1.heap.size _ _ _ aF n.ends ax).mono ?_;rintro e K ⟨rfl,W⟩;have bd:=(U.grown W.keep).c3;clear y3))
 have ak:Hid (Tt w (K.alloc (Obj.cells #[Value.int IntKind.i32 (n.ends:Int)] 21)) w1.heap.size p (jN n.sets.length) n.back (slice (qX K.heap.size) 1 1) [n.ends] (λy=>[n.ends].contains y)):=by
  have am:=W.grown (kZ K (Obj.cells #[Value.int IntKind.i32 (n.ends:Int)] 21) lQ);refine⟨am.sp,?_,zNS K w.heap.size n.ends W.keep.size,am.keep⟩;have e:(λy=>[n.ends].contains y)=λy=>y==n.ends||false:=by funext y;by_cases e:y=n.ends <;> simp[e]
  rw[e];exact am.se
 clear W aF aE aD J bd;generalize w1.heap.size=f at *;generalize jN n.sets.length=D at *;go_loopg [7,8] 16777216 (λk u i wr=>∃(j:Nat) (l:List Nat),k=16777216-j/\j<=l.length/\i=iX (j:Int)/\Tt w wr f p D n.back u l (λy=>l.contains y)/\Once (2^n.sets.length) l/\vG n.back a 16777216 0 [n.ends]=vG n.back a (16777216-j) j l)
 case atStart=>exact⟨0,[n.ends],rfl,lX,rfl,ak,a9,rfl⟩
 case round=>
  obtain⟨j,l,F,bG,rfl,A,M,P⟩:=hrel;have X:Hid (gk=16777216-j/\Tt w wr f p D n.back u7 l (λy=>l.contains y)/\Once (2^n.sets.length) l/\vG n.back a 16777216 0 [n.ends]=vG n.back a (16777216-j) j l):=⟨F,A,M,P⟩
  have ⟨ao,cap,aG⟩:=zF A.own;have bH:=(ai l M).1;by_cases Y:j<l.length
  ·have be:(j:Int)<(l.length:Int):=by omega
   have bf:Hid (vG n.back a 16777216 0 [n.ends]=vG n.back a (16777216-(j+1)) (j+1) (zA6 n.back a (l.getD j 0) l a.length)):=by
    show _=_;rw[P,show 16777216-j=(16777216-(j+1))+1 by omega];show(if j<l.length then _ else _)=_;rw[if_pos Y]
   have an:Hid (∀k,l.length<=(zA6 n.back a (l.getD j 0) l k).length/\(zA6 n.back a (l.getD j 0) l k).getD j 0=l.getD j 0/\Once (2^n.sets.length) (zA6 n.back a (l.getD j 0) l k)):=λk=>⟨(zF3 _ _ _ _ k).1,(zF3 _ _ _ _ k).2 j Y,zEi aA a _ M k⟩
   have bg:=(ai l M).2 _ (zV l j 0 Y);subst aG;clear F A M P ak;generalize bh:l.getD j 0=x at *;clear bh;go_wp2;go_loopg [7,44] a.length (λk u i wr=>∃t:Nat,k=a.length-t/\t<=a.length/\i=iX (t:Int)/\Tt w wr f p D n.back u (zA6 n.back a x l t) (λy=>(zA6 n.back a x l t).contains y))
   case atStart=>exact⟨0,rfl,lX,rfl,X.2.1⟩
   case round=>
    obtain⟨t,F,A,rfl,R⟩:=hrel;have aa:Hid (gk=a.length-t/\Tt w wr f p D n.back u7 (zA6 n.back a x l t) (λy=>(zA6 n.back a x l t).contains y)):=⟨F,R⟩
    by_cases bi:t<a.length
    ·have bj:(t:Int)<(a.length:Int):=by omega
     obtain⟨bk,bl,rfl,bm,aH,bI⟩:=a3 t bi;have bJ:cX wr bk (bl+t)=some (iX ((a.getD t 0:Nat):Int)):=zA aH bm R.keep;have ⟨bK,aI,aJ⟩:=an t;have ⟨bL,ab,bn,bM,bN,aK⟩:=zJf R.own;obtain⟨b2,ac,rfl,bO,bo⟩:=aK j (by omega);rw[aI] at bo;have bP:(j:Int)<((zA6 n.back a x l t).length:Int):=by omega
     have aL:Hid (zA6 n.back a x l (t+1)=zGu (zA6 n.back a x l t) (qT n.back (x&&&a.getD t 0))):=rfl;have bQ:=(ai _ aJ).1;clear F R aH aK an aI aJ;generalize zA6 n.back a x l t=c at *;generalize a.getD t 0=r at *;have bR:bits .and i64 (x:Int) (r:Int)=((x&&&r:Nat):Int):=qR _ _ (by omega) (by omega);have bp:x&&&r<16777216:=Nat.lt_of_le_of_lt Nat.and_le_left bg;generalize x&&&r=y at *;have aM:=aA y;have aN:=vl <| a2 wr p f _ _ _ aa.2 y bp;generalize qT n.back y=d at *;have bS:d<16777216:=by omega
     subst bn;cases G:c.contains d with
     |true=>
      have ap:Hid (∀v,Tt w v f p D n.back (slice (some ⟨b2,ac,none⟩) c.length ab) c (λy=>c.contains y)->Ca 172 #[pX p,iX (d:Int)] v λe w'=>e=returned fX/\Tt w w' f p D n.back (slice (some ⟨b2,ac,none⟩) c.length ab) c (λy=>y==d||c.contains y)):=λv aq=>by
       have:=ah v p f _ _ _ aq d aM;rw[G] at this;exact this
      have S:Hid (zA6 n.back a x l (t+1)=c/\(λy=>y==d||c.contains y)=λy=>c.contains y):=⟨by rw[aL.out];unfold zGu;rw[if_pos G],by
       funext y
       by_cases e:y=d
       ·rw[e,G];simp
       ·rw[show (y==d)=false by simp[e]];rfl⟩
      clear G;go_wp2_with (first|(go_at_call 92;refine aN.mono ?_;rintro e v ⟨rfl,ar⟩)|(go_at_call 172;refine(ap v ar).mono ?_;rintro e aO ⟨rfl,O⟩))
      go_roundg (a.length-(t+1))
      case measure=>rw[aa.out.1];omega
      case rel=>
       rw[S.out.2] at O;exact⟨t+1,rfl,by omega,by go_num,by rw[S.out.1];exact O⟩
     |false=>
      have ap:Hid (∀v,Tt w v f p D n.back (slice (some ⟨b2,ac,none⟩) c.length ab) c (λy=>c.contains y)->Ca 172 #[pX p,iX (d:Int)] v λe w'=>e=returned tX/\Tt w w' f p D n.back (slice (some ⟨b2,ac,none⟩) c.length ab) c (λy=>y==d||c.contains y)):=λv aq=>by
       have:=ah v p f _ _ _ aq d aM;rw[G] at this;exact this
      have S:Hid (zA6 n.back a x l (t+1)=c++[d]/\(λy=>y==d||c.contains y)=λy=>(c++[d]).contains y):=⟨by rw[aL.out];unfold zGu;rw[if_neg (by rw[G];decide)],by
       funext y
       rw[List.contains_append];by_cases e:y=d
       ·simp[e]
       ·simp[e]⟩
      clear G;go_wp2_with (first|(go_at_call 92;refine aN.mono ?_;rintro e v ⟨rfl,ar⟩)|(go_at_call 172;refine(ap v ar).mono ?_;rintro e aO ⟨rfl,O⟩;have bq:=O.own;have bT:=O.keep.size)|(at_builtin;refine wpList_append_lies _ rfl _ _ 174 rfl (w.heap.size) 21 aR (int .i32 0) 1 4 underlying174 aS aT aU aV rfl (by decide) _ _ _ rfl (bq.alloc _) ⟨aO.heap.size,0,none⟩ 1 1 [int .i32 (d:Int)] rfl rfl (cell_one_new _ _ _) (by intro u E;simp at E;subst E;rfl) (by decide) (by unfold maxLen;omega) (by omega) (by simp;omega) _ rfl ?_;intro bU bV bW br bs bX bY;have aP:=O.app br bs))
      go_roundg (a.length-(t+1))
      case measure=>rw[aa.out.1];omega
      case rel=>
       rw[S.out.2] at aP;exact⟨t+1,rfl,by omega,by go_num,by rw[S.out.1];exact aP⟩
    ·have bj:(a.length:Int)<=(t:Int):=by omega
     have e:t=a.length:=by omega
     subst e;have au:=an a.length;clear F R;go_wp2;go_roundg (16777216-(j+1))
     case measure=>rw[X.out.1];omega
     case rel=>exact⟨j+1,_,rfl,by omega,by go_num,aa.2,au.2.2,bf⟩
  ·have be:(l.length:Int)<=(j:Int):=by omega
   have au:Hid (n.tails a=l):=by
    show _=_;rw[ba.out,P];cases 16777216-j with
    |zero=>rfl
    |succ k=>
     show(if j<l.length then _ else _)=_;rw[if_neg Y]
   subst aG;clear F A M P ak;go_wp2;go_ret;exact⟨_,rfl,by rw[au.out];exact zJf X.2.1.own,X.2.1.keep⟩
section
structure Ar.Good (a:Ar)(k:Nat):Prop where
 sets:∀x∈a.sets,0<=x/\x<((2^k:Nat):Int)
 letters:∀x∈a.letters,0<=x/\x<(a.sets.length:Int)
 lens:a.lows.length=a.letters.length
theorem Ar.look_lt (a:Ar)(x:Int):a.look x<(a.seen x).sets.length:=by
 unfold Ar.seen;split
 ·assumption
 ·have:a.look x<=a.sets.length:=List.findIdx_le_length
  simp;omega
theorem Ar.seen_good {a:Ar}{k:Nat}(c:a.Good k)(x:Int)(f:0<=x/\x<((2^k:Nat):Int)):(a.seen x).Good k:=by
 unfold Ar.seen;split
 ·exact c
 ·refine⟨λy d=>?_,λy d=>?_,c.lens⟩
  ·rcases kU.1 d with e|e
   ·exact c.sets y e
   ·rw[kY.1 e];exact f
  ·have:=c.letters y d
   simp;omega
theorem Ar.step_good (sets:List Cs){a:Ar}(f:a.Good sets.length)(low:Int):(a.step sets low).Good sets.length/\0<(a.step sets low).lows.length:=by
 have l:=zBw (zAk sets low) sets.length;have g:(0:Int)<=(yF sets low:Nat)/\((yF sets low:Nat):Int)<((2^sets.length:Nat):Int):=by
  unfold yF;omega
 have c:=Ar.seen_good f _ g;have m:=a.look_lt (yF sets low:Nat);unfold Ar.step;split
 ·refine⟨⟨c.sets,λy j=>?_,?_⟩,by simp⟩
  ·rcases kU.1 j with d|d
   ·exact c.letters y d
   ·rw[kY.1 d]
    exact⟨by omega,by show _<(((a.seen _).sets.length:Nat):Int);omega⟩
  ·have:=c.lens
   simp;omega
 ·rename_i k
  refine⟨c,?_⟩;have o:=c.lens;apply Nat.pos_of_ne_zero;intro e;apply k;unfold Ar.turns;rw[show (a.seen (yF sets low)).letters.length=0 by omega];rfl
theorem zJd (sets:List Cs)(j:Nat)(e:j<=(xJ sets).length):(vO sets j).Good sets.length/\(0<j->0<(vO sets j).lows.length):=by
 induction j with
 |zero=>exact⟨⟨λx c=>absurd c (List.not_mem_nil),λx c=>absurd c (List.not_mem_nil),rfl⟩,λa=>absurd a (Nat.lt_irrefl _)⟩
 |succ j d=>
  have a:=Ar.step_good sets (d (by omega)).1 ((xJ sets).getD j 0);rw[zCa sets j (by omega)];exact⟨a.1,λ_=>a.2⟩
theorem zNd (sets:List Cs):(xJ sets).length=4+2*yQ sets:=zGk sets _
theorem zBH (sets:List Cs):(xN sets).Good sets.length/\0<(xN sets).lows.length/\(xN sets).lows.length<=4+2*yQ sets/\(xN sets).sets.length<=4+2*yQ sets:=by
 have a:=zJd sets (xJ sets).length lQ;have c:=zDC sets (xJ sets).length lQ;rw[zFL sets _ lQ] at a c;have:=zNd sets;exact⟨a.1,a.2 (by omega),by omega,by omega⟩
def Ar.setsN (a:Ar):List Nat:=a.sets.map Int.toNat
theorem Ar.setsN_ints {a:Ar}{k:Nat}(c:a.Good k):a.sets=ints a.setsN:=by
 unfold ints Ar.setsN;rw[List.map_map]
 conv=>lhs;rw[<-List.map_id a.sets]
 apply List.map_congr_left;intro x d;have:=c.sets x d;show x=((x.toNat:Nat):Int);omega
theorem Ar.setsN_lt {a:Ar}{k:Nat}(c:a.Good k):∀x∈a.setsN,x<2^k:=by
 intro x d;obtain⟨y,e,rfl⟩:=List.mem_map.1 d;have:=c.sets y e;omega
theorem Ar.setsN_len (a:Ar):a.setsN.length=a.sets.length:=kV ..
def Nt.areas (n:Nt):Ar:=xN n.sets
def Nt.letters (n:Nt):List Nat:=n.areas.setsN
def Nt.ahead (n:Nt):Nat->Nat:=spF n.follow n.follow.length
structure Nm (w w':World)(q b:Nat)(n:Nt)(sv fv rv ev lv tv av:Value):Prop where
 net:NetAt w' q n sv fv rv ev
 blk:w'.heap[b]? =some (.cells #[lv,tv,av] 172)
 ar:ArAt w' lv tv av n.areas
 keep:Grew w w'
section
variable {w w1 w2:World} {q b:Nat} {n:Nt} {sv fv rv ev lv tv av:Value}
theorem Nm.grown (a:Nm w w1 q b n sv fv rv ev lv tv av)(c:Grew w1 w2):Nm w w2 q b n sv fv rv ev lv tv av:=by
 have d:=(kQ.1 a.blk).1;exact⟨a.net.grown c,(c.block b d (kJ d)).trans a.blk,a.ar.grown c,a.keep.th c⟩
theorem Nm.drew (a:Nm w w1 q b n sv fv rv ev lv tv av):Nm w w1.drew q b n sv fv rv ev lv tv av:=a.grown (Keep.drew _)
theorem Nm.cells (a:Nm w w1 q b n sv fv rv ev lv tv av):w1.cell? ⟨b,0,none⟩=some lv/\w1.cell? ⟨b,1,none⟩=some tv/\w1.cell? ⟨b,2,none⟩=some av:=by
 refine⟨?_,?_,?_⟩
 all_goals (unfold cell?;rw[a.blk];rfl)
end
end
structure Nt.Fits (n:Nt):Prop where
 few:yQ n.sets<=10000000000
 small:∀s∈n.sets,s.Small
theorem zEV (w:World)(q:Nat)(n:Nt)(sv j rv y:Value)(L:NetAt w q n sv j rv y)(ok:n.Ok)(fit:n.Fits):
  Calls prog 90 #[pX q] w λe w'=>∃p s,e=returned (pX p)/\(s.rules=n.rules/\s.tails=n.tails n.letters/\s.sets=n.letters/\s.q=q)/\SoAt w' (λg=>g<w'.heap.size/\g≠p) p s ⟨[],[]⟩ nX nX/\ArAt w' s.lv s.tv s.sv n.areas/\SpAt w' s.f n.ahead/\s.f≠p/\w.heap.size<=p/\Grew w w':=by
 have T:=ok.len;have M:=ok.top;have aj:=L.c0;have ak:=vl L;have A:Hid n.Ok:=ok;have ay:=fit.few;have U:Hid (Ca 127 #[sv] w λe w'=>∃lv tv sv,e=returned (agg #[lv,tv,sv])/\ArAt w' lv tv sv (xN n.sets)/\Grew w w'):=zKw w sv n.sets L.sets T (by omega) fit.small;have N:Hid (n.areas.Good n.sets.length):=(zBH n.sets).1;have am:n.areas.sets.length<=1000000000000:=by have:=(zBH n.sets).2.2.2;show(xN n.sets).sets.length<=_;omega
 have an:Hid (∀b lv tv l w1,Nm w w1 q b n sv j rv y lv tv l->Ca 128 #[j] w1 λe w'=>∃f,e=returned (pX f)/\SpAt w' f n.ahead/\f≠b/\Nm w w' q b n sv j rv y lv tv l/\Grew w1 w'):=λb lv tv l w1 a=>by
  refine(zBZ w1 j n.follow a.net.follow (by rw[A.out.fl];exact T) λx v=>lZ (A.fs x v) M).mono ?_;rintro e w2 ⟨rfl,S,F⟩;have az:=(kQ.1 a.blk).1;exact⟨_,rfl,S,by omega,a.grown F,F⟩
 have ao:Hid (∀b lv tv l w1,Nm w w1 q b n sv j rv y lv tv l->Ca 129 #[pX q,l] w1 λe w'=>∃u,e=returned u/\I32s w' (In w') u (n.tails n.letters)/\Nm w w' q b n sv j rv y lv tv l/\Grew w1 w'):=λb lv tv l w1 a=>by
  have V:=a.ar.sets;rw[Ar.setsN_ints N.out] at V;refine(zGy w1 q n sv j rv y a.net A l n.letters V (by show n.areas.setsN.length<=_;rw[Ar.setsN_len];exact am) λx v=>lZ (Ar.setsN_lt N x v) M).mono ?_;rintro e w2 ⟨u,rfl,S,F⟩;exact⟨u,rfl,S,a.grown F,F⟩
 clear L ok fit;go_in;go_wp2_with (go_at_call 127;refine U.mono ?_;rintro e w1 ⟨lv,tv,l,rfl,G,W⟩;obtain⟨m,o,rfl,-⟩:=id G.lows;obtain⟨at_,t,rfl,-⟩:=id G.letters;obtain⟨as_,cs,rfl,-⟩:=id G.sets;have B:Hid (ArAt w1 (slice m (xN n.sets).lows.length o) (slice at_ (xN n.sets).letters.length t) (slice as_ (xN n.sets).sets.length cs) (xN n.sets)/\Grew w w1):=⟨G,W⟩;clear G)
 obtain⟨w2,X,O⟩:∃w2,w2=w1.alloc (Obj.cells #[Value.slice m (xN n.sets).lows.length o,Value.slice at_ (xN n.sets).letters.length t,Value.slice as_ (xN n.sets).sets.length cs] 172)/\Hid (Nm w w2 q w1.heap.size n sv j rv y (slice m (xN n.sets).lows.length o) (slice at_ (xN n.sets).letters.length t) (slice as_ (xN n.sets).sets.length cs)):=by
  have Y:=kZ (b:=w1.heap.size) w1 (Obj.cells #[Value.slice m (xN n.sets).lows.length o,Value.slice at_ (xN n.sets).letters.length t,Value.slice as_ (xN n.sets).sets.length cs] 172) lQ;have aa:=B.2.trans (Y.lower (c:=w.heap.size) B.2.size B.2.size);exact⟨_,rfl,⟨ak.grown aa,gY _ _,B.1.grown Y,aa⟩⟩
 rw[<-X];have aA:w.heap.size<=w1.heap.size:=B.2.size;clear X B W aj U;have ⟨aB,aC,aD⟩:=O.cells;have y3:=O.net.c1;generalize w1.heap.size=b at *;generalize (xN n.sets).lows.length=C at *;generalize (xN n.sets).letters.length=D at *;generalize (xN n.sets).sets.length=E at *;go_region_held3 (λw'=>cX w' b 0=some (slice m C o)/\cX w' b 1=some (slice at_ D t)/\cX w' b 2=some (slice as_ E cs)/\cX w' q 1=some j) (first|exact⟨ab,ac,ad,ae⟩|go_keep) (first|(go_at_call 128;go_must ((refine (an _ _ _ _ _ (by first|exact H|exact O.drew)).mono ?_;rintro e aE ⟨f,rfl,z,aF,P,ap⟩;have ⟨ab,ac,ad⟩:=P.cells;have ae:=P.net.c1)))|(go_at_call 129;go_must ((refine (ao _ _ _ _ _ (by first|exact P|exact O.drew)).mono ?_;rintro e d ⟨tl,rfl,I,H,af⟩;obtain⟨J,K,rfl,-⟩:=id I;have ⟨ab,ac,ad⟩:=H.cells;have ae:=H.net.c1))));have aq:Hid (SpAt d f n.ahead/\Nm w d q b n sv j rv y (slice m C o) (slice at_ D t) (slice as_ E cs)/\I32s d (In d) (slice J (n.tails n.letters).length K) (n.tails n.letters)):=⟨z.keep (af.block f z.lt (kJ z.lt)),H,I⟩
 clear z P ap H af I;go_wp2;go_ret;have ⟨z,a,I⟩:=aq.out;have au:=kZ (b:=d.heap.size) d (Obj.cells #[Value.pointer (qX q),Value.slice m C o,Value.slice at_ D t,Value.slice as_ E cs,Value.pointer (qX f),Value.slice J (n.tails n.letters).length K,nX,nX] 176) lQ;have R:∀g,In d g->g<(d.alloc (Obj.cells #[Value.pointer (qX q),Value.slice m C o,Value.slice at_ D t,Value.slice as_ E cs,Value.pointer (qX f),Value.slice J (n.tails n.letters).length K,nX,nX] 176)).heap.size/\g≠d.heap.size:=λg k=>by
  have:g<d.heap.size:=k;simp;omega
 have e:∀g,In d g->(d.alloc (Obj.cells #[Value.pointer (qX q),Value.slice m C o,Value.slice at_ D t,Value.slice as_ E cs,Value.pointer (qX f),Value.slice J (n.tails n.letters).length K,nX,nX] 176)).heap[g]? =d.heap[g]? :=λg k=>lG _ _ _ k;have ag:=Once.top A (Nt.tails_once A n.letters);have ah:=a.grown au;have ai:=a.ar.sets;rw[Ar.setsN_ints N.out] at ai;refine⟨d.heap.size,⟨n.rules,n.tails n.letters,n.letters,q,f,slice m C o,slice at_ D t,slice as_ E cs,slice J (n.tails n.letters).length K,rv⟩,rfl,⟨rfl,rfl,rfl,rfl⟩,?_,ah.ar,z.keep (e f z.lt),kJ z.lt,a.keep.size,ah.keep⟩;exact⟨gY _ _,OwnI.nil _ _,OwnI.nil _ _,λg k=>(by cases k),λg _ k=>(by cases k),λg _ k=>(by cases k),λaw=>aw.2 rfl,λg k=>k.1,by simp,(gW (e q a.net.lq)).trans a.net.c4,R q a.net.lq,(a.net.rules.keep e).mono R,A.eight,λr ax=>lZ (A.rs r ax) M,(I.keep e).mono R,ag.2,ag.1,(ai.keep e).mono R,λx v=>lZ (Ar.setsN_lt N x v) M,λx v=>absurd v List.not_mem_nil,λx v=>absurd v List.not_mem_nil⟩
def zA1 (rows:List (List Int))(rules:List Int)(next:List Int)(i:Nat):Bool:=rules.getD i 0== -1&&decide (rows.getD i []=next)
def vF (rows:List (List Int))(rules:List Int)(next:List Int):Nat:=(List.range rows.length).findIdx (zA1 rows rules next)
theorem vH (n j:Nat)(a:j<n):(List.range n).getD j 0=j:=by
 rw[lW,List.getElem?_range a];rfl
theorem zPg (rows:List (List Int))(rules next:List Int)(j:Nat)(a:j<rows.length)(b:zA1 rows rules next j=true)(c:∀i,i<j->zA1 rows rules next i=false):vF rows rules next=j:=
 zDM _ _ j (by rw[List.length_range];exact a) (by rw[vH _ _ a];exact b) λi d=>by rw[vH _ _ (by omega)];exact c i d
theorem zMI (rows:List (List Int))(rules next:List Int)(c:∀i,i<rows.length->zA1 rows rules next i=false):vF rows rules next=rows.length:=by
 have b:=zBs (List.range rows.length) (zA1 rows rules next) λi a=>by
  rw[List.length_range] at a;rw[vH _ _ a];exact c i a
 rw[List.length_range] at b;exact b
theorem zLD (rows:List (List Int))(rules next:List Int):vF rows rules next<=rows.length:=by
 have a:(List.range rows.length).findIdx (zA1 rows rules next)<=(List.range rows.length).length:=List.findIdx_le_length;rw[List.length_range] at a;exact a
theorem zKN (w:World)(kb:Nat)(s rv tv:Value)(rows:List (List Int))(rules next:List Int)(t:kb<w.heap.size)(C:w.cell? ⟨kb,3,none⟩=some s)(v:w.cell? ⟨kb,4,none⟩=some rv)(D:IntRows w (In w) s rows)(E:Ints w (In w) rv rules)(F:rules.length=rows.length)(ab:rows.length<=1000000000000)(G:Ints w (In w) tv next)(H:∀r∈rows,r.length<=1000000000000):
  Calls prog 95 #[pX kb,tv] w λe w'=>e=returned (iX ((vF rows rules next:Nat):Int))/\Grew w w':=by
 obtain⟨ac,ad,rfl,_,_,I⟩:=D;obtain⟨ae,af,rfl,_,_,x⟩:=E;rw[F] at v x;have J:=vl I;have K:=vl x;have L:Hid (∀wr u i,i<rows.length->Grew w wr->Ints w (In w) u (rows.getD i [])->Ca 132 #[u,tv] wr λe w'=>e=returned (bool (decide (rows.getD i []=next)))/\Grew w w'):=λwr u i f m g=>by
  refine(zJC wr u tv _ next (g.grown m) (G.grown m) (H _ (zV _ _ _ f))).mono ?_;rintro e w2 ⟨rfl,M⟩;exact⟨rfl,m.th M⟩
 have N:=vl <| zPg rows rules next
 have O:=vl <| zMI rows rules next
 go_in;go_wp2;go_loopg [12] rows.length (λk i wr=>∃j:Nat,k=rows.length-j/\j<=rows.length/\i=iX (j:Int)/\(∀i,i<j->zA1 rows rules next i=false)/\Grew w wr)
 case atStart=>exact⟨0,rfl,lX,rfl,λi f=>by omega,⟨rfl,rfl,lQ,λ_ _ _=>rfl⟩⟩
 case round=>
  obtain⟨j,P,ag,rfl,y,b⟩:=hrel;have c:Hid (gk=rows.length-j/\(∀i,i<j->zA1 rows rules next i=false)/\Grew w wr):=⟨P,y,b⟩
  have ah:=zA C t b;have ai:=zA v t b;by_cases l:j<rows.length
  ·have R:(j:Int)<(rows.length:Int):=by omega
   obtain⟨aj,ak,u,rfl,S,T,g⟩:=J j l;obtain⟨b2,al,rfl,U,V⟩:=K j l;obtain⟨am,ao,W,-⟩:=id g;have ap:=zA T S b;have aq:=zA V U b;have z:=vl <| L wr u j l b g;have o:Hid (zA1 rows rules next j=(rules.getD j 0== -1&&decide (rows.getD j []=next))):=rfl;have X:Hid (zA1 rows rules next j=true->vF rows rules next=j):=λp=>N j l p c.2.1;have A:Hid (zA1 rows rules next j=false->∀i,i<j+1->zA1 rows rules next i=false):=λp i f=>by
    by_cases e:i=j
    ·rw[e];exact p
    ·exact c.2.1 i (by omega)
   generalize (rows.getD j []).length=av at *;subst W;generalize decide (rows.getD j []=next)=d at *;generalize rules.getD j 0=r at *;by_cases B:r=-1
   ·subst B
    cases d with
    |true=>
     have a:=vl <| X (by rw[o.out];rfl);go_wp2_with (go_at_call 132;refine z.mono ?_;rintro e Y ⟨rfl,q⟩)
     go_ret;exact⟨by rw[a.out];rfl,q⟩
    |false=>
     have a:=vl <| A (by rw[o.out];rfl);go_wp2_with (go_at_call 132;refine z.mono ?_;rintro e Y ⟨rfl,q⟩)
     go_roundg (rows.length-(j+1))
     case measure=>rw[c.out.1];omega
     case rel=>exact⟨j+1,rfl,by omega,by go_num,a,q⟩
   ·have aa:(r== -1)=false:=by simp[B]
    have a:=vl <| A (by rw[o.out,aa];rfl);go_wp2;go_roundg (rows.length-(j+1))
    case measure=>rw[c.out.1];omega
    case rel=>exact⟨j+1,rfl,by omega,by go_num,a,c.2.2⟩
  ·have R:(rows.length:Int)<=(j:Int):=by omega
   have a:=vl <| O λi f=>y i (by omega);go_wp2;go_ret;exact⟨by rw[a.out];rfl,c.2.2⟩
section
theorem SoY.set {w:World}{X m:Nat->Prop}{p b i:Nat}{s:Sq}{d:Sf}{x:Value}(a:SoY w X m p s d)(r:m b)(t:¬X b):SoY (w.setCell ⟨b,i,none⟩ x) X m p s d:=by
 obtain⟨v,y,a,q⟩:=a;have ⟨C,z,A,B⟩:=q b r;have e:∀k,k≠b->(w.setCell ⟨b,i,none⟩ x).heap[k]? =w.heap[k]? :=λk c=>lJ _ _ _ _ c;have j:∀k,X k->(w.setCell ⟨b,i,none⟩ x).heap[k]? =w.heap[k]? :=λk c=>e k λf=>t (f ▸ c);exact⟨v,y,⟨(e p (Ne.symm z)).trans a.blk,zE a.own1 λk _ _ c=>e k λf=>A (by rw[c,f]),zE a.own2 λk _ _ c=>e k λf=>B (by rw[c,f]),a.ne,a.xf,a.xm,a.xp,λg o=>by rw[zD];exact a.xl g o,by rw[zD];exact a.lp,(gW (j _ a.xq)).trans a.net,a.xq,a.rls.keep j,a.eight,a.rsm,a.tls.keep j,a.tsm,a.tlen,a.sts.keep j,a.ssm,a.fsm,a.msm⟩,λg o=>by rw[zD];exact q g o⟩
structure Kw (w1 w:World)(H p kb:Nat)(Z:Nat->Prop)(s:Sq)(d:Sf)(lv tv sv nv rv u8:Value)(us:Nat->Value)(rows:List (List Nat))(rules:List Int)(start:List Nat)(st dd:Int):Prop where
 blk:w.heap[kb]? =some (.cells #[lv,tv,sv,nv,rv,int i64 st,int i64 dd] 178)
 nOwn:Row w H 45 nv rows.length us
 each:∀i,i<rows.length->Ints w Z (us i) (ints (rows.getD i []))
 rOwn:OwnI w H rv rules
 stA:Ints w Z u8 (ints start)
 zr:∀g,Z g->some g≠rv.ownBlock
 zn:∀g,Z g->some g≠nv.ownBlock
 zk:∀g,Z g->g≠kb
 zH:∀g,Z g->H<=g
 so:SoY w (λg=>g<H/\g≠p) (λg=>Z g\/g=kb\/some g=nv.ownBlock\/some g=rv.ownBlock) p s d
 kbH:H<=kb
 keep:KeepX (λg=>g<H/\g≠p) w1 w
section
variable {w1 w w2:World} {H p kb:Nat} {Z:Nat->Prop} {s:Sq} {d d':Sf} {lv tv sv nv rv u8 u:Value} {us:Nat->Value} {rows:List (List Nat)} {rules:List Int} {start l:List Nat} {st dd:Int}
theorem Kw.zl (a:Kw w1 w H p kb Z s d lv tv sv nv rv u8 us rows rules start st dd):∀g,Z g->g<w.heap.size:=by
 have ⟨e,f,_,b⟩:=a.so;exact λg c=>(b g (.inl c)).1
theorem Kw.kl (a:Kw w1 w H p kb Z s d lv tv sv nv rv u8 us rows rules start st dd):kb<w.heap.size:=(kQ.1 a.blk).1
theorem Kw.cells (a:Kw w1 w H p kb Z s d lv tv sv nv rv u8 us rows rules start st dd):w.cell? ⟨kb,3,none⟩=some nv/\w.cell? ⟨kb,4,none⟩=some rv/\w.cell? ⟨kb,5,none⟩=some (iX st)/\w.cell? ⟨kb,6,none⟩=some (iX dd)/\∀i,w.frozen? ⟨kb,i,none⟩=false:=by
 refine⟨?_,?_,?_,?_,λi=>?_⟩
 all_goals first|(unfold cell?;rw[a.blk];rfl)|(unfold frozen?;rw[a.blk];simp)
theorem Kw.nbox (a:Kw w1 w H p kb Z s d lv tv sv nv rv u8 us rows rules start st dd):some kb≠nv.ownBlock/\some kb≠rv.ownBlock:=⟨zO a.nOwn a.blk (by decide),zO a.rOwn a.blk (by decide)⟩
theorem Kw.call {m:Nat->Prop}(a:Kw w1 w H p kb Z s d lv tv sv nv rv u8 us rows rules start st dd)(j:KeepX (λg=>(g<H/\g≠p)\/(Z g\/g=kb\/some g=nv.ownBlock\/some g=rv.ownBlock)) w w2)(q:∀g,Z g->m g)(o:∀g,m g->Z g\/w.heap.size<=g)(t:SoY w2 (λg=>g<H/\g≠p) (λg=>m g\/g=kb\/some g=nv.ownBlock\/some g=rv.ownBlock) p s d'):Kw w1 w2 H p kb m s d' lv tv sv nv rv u8 us rows rules start st dd:=by
 have r:∀b,Z b->w2.heap[b]? =w.heap[b]? :=λb v=>j.block b (.inr (.inl v));have y:=lY a.kbH (Nat.le_of_lt a.kl);refine⟨(j.block kb (.inr (.inr (.inl rfl)))).trans a.blk,zE a.nOwn λg _ _ c=>j.block g (.inr (.inr (.inr (.inl c.symm)))),λi x=>((a.each i x).keep r).mono q,zE a.rOwn λg _ _ c=>j.block g (.inr (.inr (.inr (.inr c.symm)))),(a.stA.keep r).mono q,λg c=>?_,λg c=>?_,λg c=>?_,λg c=>?_,t,a.kbH,a.keep.trans (j.mono λk j=>.inl j)⟩
 ·rcases o g c with f|f
  ·exact a.zr g f
  ·intro e;have:=(a.rOwn.lt g e.symm).2;omega
 ·rcases o g c with f|f
  ·exact a.zn g f
  ·intro e;have:=(a.nOwn.lt g e.symm).2;omega
 ·rcases o g c with f|f
  ·exact a.zk g f
  ·have:=a.kl;omega
 ·rcases o g c with f|f
  ·exact a.zH g f
  ·omega
theorem Kw.grown (a:Kw w1 w H p kb Z s d lv tv sv nv rv u8 us rows rules start st dd)(b:Grew w w2):Kw w1 w2 H p kb Z s d lv tv sv nv rv u8 us rows rules start st dd:=by
 have ⟨o,q,j,c⟩:=id a.so;refine a.call (b.kx λk m=>?_) (λ_ a=>a) (λ_ a=>.inl a) (a.so.grown b λg f=>⟨lZ (c g f).1 b.size,.inl f⟩);have:=m.elim (j.xl k) λe=>(c k e).1;omega
theorem Kw.setC {i:Nat}{x:Value}{m o:Int}(a:Kw w1 w H p kb Z s d lv tv sv nv rv u8 us rows rules start st dd)(c:(w.setCell ⟨kb,i,none⟩ x).heap[kb]? =some (.cells #[lv,tv,sv,nv,rv,iX m,iX o] 178)):Kw w1 (w.setCell ⟨kb,i,none⟩ x) H p kb Z s d lv tv sv nv rv u8 us rows rules start m o:=by
 have e:∀k,k≠kb->(w.setCell ⟨kb,i,none⟩ x).heap[k]? =w.heap[k]? :=λk q=>lJ _ _ _ _ q;have r:=a.nbox;have v:=a.kbH;exact⟨c,zE a.nOwn λg _ _ j=>e g λf=>r.1 (by rw[j,f]),λi t=>(a.each i t).keep λb c=>e b (a.zk b c),zE a.rOwn λg _ _ j=>e g λf=>r.2 (by rw[j,f]),a.stA.keep λb c=>e b (a.zk b c),a.zr,a.zn,a.zk,a.zH,a.so.set (.inr (.inl rfl)) (λf=>by omega),a.kbH,a.keep.trans ⟨rfl,rfl,by rw[zD];exact lQ,λk q=>e k (by omega)⟩⟩
theorem Kw.setStart (a:Kw w1 w H p kb Z s d lv tv sv nv rv u8 us rows rules start st dd)(x:Int):Kw w1 (w.setCell ⟨kb,5,none⟩ (iX x)) H p kb Z s d lv tv sv nv rv u8 us rows rules start x dd:=a.setC (by simp[setCell,lU,a.blk])
theorem Kw.setDead (a:Kw w1 w H p kb Z s d lv tv sv nv rv u8 us rows rules start st dd)(x:Int):Kw w1 (w.setCell ⟨kb,6,none⟩ (iX x)) H p kb Z s d lv tv sv nv rv u8 us rows rules start st x:=a.setC (by simp[setCell,lU,a.blk])
theorem Kw.start_of (a:Kw w1 w H p kb Z s d lv tv sv nv rv u8 us rows rules start st dd)(b:Ints w Z u (ints l)):Kw w1 w H p kb Z s d lv tv sv nv rv u us rows rules l st dd:={a with stA:=b}
theorem Kw.snocN {o:Obj}{g cap m:Nat}(a:Kw w1 w H p kb Z s d lv tv sv nv rv u8 us rows rules start st dd)(E:m=rows.length)(F:Ints w Z u (ints l))(C:w2.ownsRow H 45 1 (slice (qX g) (m+1) cap) (m+1) ((List.range m).map us++[u]))(q:(w.alloc o).grownBy w2 nv.ownBlock)(x:nv.ownBlock=some g\/w.heap.size<=g):
  Kw w1 (w2.setCell ⟨kb,3,none⟩ (slice (qX g) (m+1) cap)) H p kb Z s d lv tv sv (slice (qX g) (m+1) cap) rv u8 (λi=>if i=m then u else us i) (rows++[l]) rules start st dd:=by
 subst E;have G:=a.kl;have R:=a.kbH;have y:=a.nbox;have z:∀j,j<w.heap.size->some j≠nv.ownBlock->w2.heap[j]? =w.heap[j]? :=λj S I=>(q.block j (by simp;omega) I).trans (lG _ _ _ (by omega));have J:=(z kb G y.1).trans a.blk;have K:w.heap.size<=w2.heap.size:=lY (by simp) q.size;have e:∀k,k≠kb->(w2.setCell ⟨kb,3,none⟩ (slice (qX g) (rows.length+1) cap)).heap[k]? =w2.heap[k]? :=λk b=>lJ _ _ _ _ b;have A:∀k,Z k->(w2.setCell ⟨kb,3,none⟩ (slice (qX g) (rows.length+1) cap)).heap[k]? =w.heap[k]? :=λk b=>(e k (a.zk k b)).trans (z k (a.zl k b) (a.zn k b));have T:kb≠g:=λc=>by
  rcases x with r|r
  ·exact y.1 (by rw[r,c])
  ·omega
 have L:=zU q a.rOwn λk b=>xZ a.rOwn a.nOwn (by decide) b;have M:=(C.lt g rfl).2;have N:SoY w2 (λg=>g<H/\g≠p) (λk=>Z k\/k=kb\/some k=(Value.slice (qX g) (rows.length+1) cap).ownBlock\/some k=rv.ownBlock) p s d:=by
  refine a.so.app (v:=nv) (λk b=>⟨.inr (.inr (.inl b)),λc=>by have:=(a.nOwn.lt k b.symm).1;omega⟩) q x M λk b=>?_;rcases b with f|f|f|f
  ·exact .inl (.inl f)
  ·exact .inl (.inr (.inl f))
  ·exact .inr (by simpa[Value.ownBlock] using f)
  ·exact .inl (.inr (.inr (.inr f)))
 refine⟨by simp[setCell,lU,J],?_,λi B=>?_,zE L λk _ _ b=>e k λc=>y.2 (by rw[b,c]),a.stA.keep A,a.zr,λk b c=>?_,a.zk,a.zH,N.set (.inr (.inl rfl)) (λc=>by omega),a.kbH,a.keep.trans ⟨q.os,q.output,by rw[zD];exact K,λk b=>(e k (by omega)).trans (z k (by omega) λc=>by have:=(a.nOwn.lt k c.symm).1;omega)⟩⟩
 ·have O:Row w2 H 45 (slice (qX g) (rows.length+1) cap) (rows.length+1) (λi=>if i=rows.length then u else us i):=by
   unfold Row;rw[zAn];rw[show (List.range rows.length).map (λi=>if i=rows.length then u else us i)=(List.range rows.length).map us from List.map_congr_left λi B=>by rw[if_neg (by have:=List.mem_range.1 B;omega)]];rw[if_pos rfl];exact C
  have t:(rows++[l]).length=rows.length+1:=by simp
  rw[t];exact zE O λk _ _ b=>e k λc=>by
   have:g=k:=by simpa[Value.ownBlock] using b
   omega
 ·by_cases t:i=rows.length
  ·subst t
   rw[if_pos rfl,lW,hZ lQ,Nat.sub_self];exact F.keep A
  ·have D:i<rows.length:=by simp at B;omega
   rw[if_neg t,lW,kW D,<-lW];exact(a.each i D).keep A
 ·have P:k=g:=by simpa[Value.ownBlock] using c
  subst P;rcases x with r|r
  ·exact a.zn k b r.symm
  ·have:=a.zl k b;omega
theorem Kw.snocR {o:Obj}{g cap m:Nat}{x:Int}(a:Kw w1 w H p kb Z s d lv tv sv nv rv u8 us rows rules start st dd)(C:m=rules.length)(A:w2.ownsRow H 3 1 (slice (qX g) (m+1) cap) (m+1) ((rules.map λx=>iX x)++[iX x]))(q:(w.alloc o).grownBy w2 rv.ownBlock)(t:rv.ownBlock=some g\/w.heap.size<=g):
  Kw w1 (w2.setCell ⟨kb,4,none⟩ (slice (qX g) (m+1) cap)) H p kb Z s d lv tv sv nv (slice (qX g) (m+1) cap) u8 us rows (rules++[x]) start st dd:=by
 subst C;have D:=a.kl;have N:=a.kbH;have y:=a.nbox;have z:∀j,j<w.heap.size->some j≠rv.ownBlock->w2.heap[j]? =w.heap[j]? :=λj O E=>(q.block j (by simp;omega) E).trans (lG _ _ _ (by omega));have F:=(z kb D y.2).trans a.blk;have G:w.heap.size<=w2.heap.size:=lY (by simp) q.size;have e:∀k,k≠kb->(w2.setCell ⟨kb,4,none⟩ (slice (qX g) (rules.length+1) cap)).heap[k]? =w2.heap[k]? :=λk b=>lJ _ _ _ _ b;have B:∀k,Z k->(w2.setCell ⟨kb,4,none⟩ (slice (qX g) (rules.length+1) cap)).heap[k]? =w.heap[k]? :=λk b=>(e k (a.zk k b)).trans (z k (a.zl k b) (a.zr k b));have P:kb≠g:=λc=>by
  rcases t with r|r
  ·exact y.2 (by rw[r,c])
  ·omega
 have I:=zU q a.nOwn λk b=>xZ a.nOwn a.rOwn (by decide) b;have J:=(A.lt g rfl).2;have K:SoY w2 (λg=>g<H/\g≠p) (λk=>Z k\/k=kb\/some k=nv.ownBlock\/some k=(Value.slice (qX g) (rules.length+1) cap).ownBlock) p s d:=by
  refine a.so.app (v:=rv) (λk b=>⟨.inr (.inr (.inr b)),λc=>by have:=(a.rOwn.lt k b.symm).1;omega⟩) q t J λk b=>?_;rcases b with f|f|f|f
  ·exact .inl (.inl f)
  ·exact .inl (.inr (.inl f))
  ·exact .inl (.inr (.inr (.inl f)))
  ·exact .inr (by simpa[Value.ownBlock] using f)
 refine⟨by simp[setCell,lU,F],zE I λk _ _ b=>e k λc=>y.1 (by rw[b,c]),λi L=>(a.each i L).keep B,?_,a.stA.keep B,λk b c=>?_,a.zn,a.zk,a.zH,K.set (.inr (.inl rfl)) (λc=>by omega),a.kbH,a.keep.trans ⟨q.os,q.output,by rw[zD];exact G,λk b=>(e k (by omega)).trans (z k (by omega) λc=>by have:=(a.rOwn.lt k c.symm).1;omega)⟩⟩
 ·exact zE (OwnI.snoc A) λk _ _ b=>e k λc=>by
   have:g=k:=by simpa[Value.ownBlock] using b
   omega
 ·have M:k=g:=by simpa[Value.ownBlock] using c
  subst M;rcases t with r|r
  ·exact a.zr k b r.symm
  ·have:=a.zl k b;omega
end
end
section
theorem Sq.kindS_ml (s:Sq)(d:Sf)(x:Nat)(a:d.marks.length<=d.found.length):(s.kindS d x).marks.length<=(s.kindS d x).found.length:=by
 unfold Sq.kindS;split
 ·split
  ·exact a
  ·simp;omega
 ·simp;omega
theorem Sq.rowTo_ml (s:Sq)(next:Nat)(d:Sf)(j:Nat)(a:d.marks.length<=d.found.length):(s.rowTo next d j).2.marks.length<=(s.rowTo next d j).2.found.length:=by
 induction j with
 |zero=>exact a
 |succ j b=>exact s.kindS_ml _ _ b
theorem Sq.kind_lt (s:Sq)(d:Sf)(x:Nat):s.kind d x<(s.kindS d x).found.length:=by
 have:=s.look_le d x;unfold Sq.kind Sq.kindS;by_cases a:s.look d x<d.found.length
 ·rw[if_pos a,if_pos a]
  by_cases b:s.tail d x<0
  ·rw[if_pos b,if_pos b];exact a
  ·rw[if_neg b,if_neg b];simp
 ·rw[if_neg a,if_neg a];simp
theorem Sq.rowTo_lt (s:Sq)(next:Nat)(d:Sf)(j:Nat):∀k∈(s.rowTo next d j).1,k<(s.rowTo next d j).2.found.length:=by
 induction j with
 |zero=>exact λk a=>absurd a List.not_mem_nil
 |succ j c=>
  intro k a;have e:=(s.kindS_len (s.rowTo next d j).2 (next&&&s.sets.getD j 0)).2.2;rcases kU.1 a with b|b
  ·have:=c k b
   show k<(s.kindS (s.rowTo next d j).2 (next&&&s.sets.getD j 0)).found.length;omega
  ·rw[kY.1 b]
   exact s.kind_lt _ _
def Sq.Like (s t:Sq):Prop:=s.rules=t.rules/\s.tails=t.tails/\s.sets=t.sets
theorem Sq.Like.kind {s t:Sq}(a:s.Like t)(d:Sf)(x:Nat):s.kind d x=t.kind d x/\s.kindS d x=t.kindS d x:=by
 obtain⟨b,c,e⟩:=a;unfold Sq.kind Sq.kindS Sq.tail Sq.look;rw[b,c];exact⟨rfl,rfl⟩
theorem Sq.Like.row {s t:Sq}(a:s.Like t)(next:Nat)(d:Sf)(j:Nat):s.rowTo next d j=t.rowTo next d j:=by
 induction j with
 |zero=>rfl
 |succ j b=>
  unfold Sq.rowTo;rw[b,(a.kind _ _).1,(a.kind _ _).2,a.2.2]
def Sq.sortGo (s:Sq)(ahead:Nat->Nat)(ends most:Nat):Nat->Nat->Sf->List (List Nat)->List Int->Option (Sf×List (List Nat)×List Int)
 |0,_,d,rows,rules=>some (d,rows,rules)
 |f+1,i,d,rows,rules=>if i<d.found.length then(if d.found.length>most then none else s.sortGo ahead ends most f (i+1) (s.rowTo (qT ahead (d.found.getD i 0)) d s.sets.length).2 (rows++[(s.rowTo (qT ahead (d.found.getD i 0)) d s.sets.length).1]) (rules++[xI s.rules (d.found.getD i 0&&&ends)])) else some (d,rows,rules)
structure Kd where
 rows:List (List Nat)
 rules:List Int
 start:Nat
 dead:Nat
def Nt.sq (n:Nt):Sq:=⟨n.rules,n.tails n.letters,n.letters,0,0,undef,undef,undef,undef,undef⟩
def Nt.start (n:Nt):List Nat×Sf:=n.sq.rowTo n.first ⟨[],[]⟩ n.letters.length
def Nt.ended (n:Nt)(d:Sf)(rows:List (List Nat))(rules:List Int):Kd:=
 if vF (rows.map ints) rules (ints n.start.1)=rows.length then⟨rows++[n.start.1],rules++[-1],vF (rows.map ints) rules (ints n.start.1),n.sq.kind d 0⟩ else⟨rows,rules,vF (rows.map ints) rules (ints n.start.1),n.sq.kind d 0⟩
def Nt.sort (n:Nt)(most:Nat):Option Kd:=
 match n.sq.sortGo n.ahead n.ends most (most+1) 0 n.start.2 [] [] with
 |none=>none
 |some (d,rows,rules)=>some (n.ended d rows rules)
section
variable {w1 w:World} {H p kb:Nat} {Z:Nat->Prop} {s:Sq} {d:Sf} {lv tv sv nv rv u8:Value} {us:Nat->Value} {rows:List (List Nat)} {rules:List Int} {start:List Nat} {st dd:Int}
theorem Kw.row (c:Kw w1 w H p kb Z s d lv tv sv nv rv u8 us rows rules start st dd)(q:d.marks.length<=d.found.length)(k:d.found.length+s.sets.length<=100000000000)(next:Nat)(l:next<16777216):
  Calls prog 91 #[pX p,iX next] w λe w'=>∃u f,e=returned u/\Kw w1 w' H p kb f s (s.rowTo next d s.sets.length).2 lv tv sv nv rv u8 us rows rules start st dd/\Ints w' f u (ints (s.rowTo next d s.sets.length).1):=by
 refine(zGz w _ _ p s d c.so (by omega) k next l).mono ?_;rintro e w' ⟨u,rfl,j,m,o⟩;refine⟨u,λg=>Z g\/some g=u.ownBlock,rfl,c.call o (λg a=>.inl a) (λg a=>a.imp id λe=>(j.lt g e.symm).1) (m.mono λg a=>?_),zCc j λg a=>.inr a.symm⟩;rcases a with(b|b)|b
 ·exact .inl (.inl b)
 ·exact .inr b
 ·exact .inl (.inr b)
theorem Kw.kindOf (b:Kw w1 w H p kb Z s d lv tv sv nv rv u8 us rows rules start st dd)(l:d.marks.length<=d.found.length)(c:d.found.length<=100000000000)(x:Nat)(f:x<16777216):
  Calls prog 94 #[pX p,iX x] w λe w'=>e=returned (iX (s.kind d x))/\Kw w1 w' H p kb Z s (s.kindS d x) lv tv sv nv rv u8 us rows rules start st dd:=by
 refine(zJw b.so (by omega) c x f).mono ?_;rintro e w' ⟨rfl,j,k⟩;exact⟨rfl,b.call k (λg a=>a) (λg a=>.inl a) j⟩
theorem Kw.ruleOf (a:Kw w1 w H p kb Z s d lv tv sv nv rv u8 us rows rules start st dd)(x:Nat)(b:x<16777216):
  Calls prog 93 #[pX p,iX x] w λe w'=>e=returned (iX (xI s.rules x))/\w'=w:=by
 have ⟨f,g,c,_⟩:=a.so;have:=c.so;exact zBG w p s.q s.rv s.rules this.net this.rcell this.at_ this.eight this.small x b
theorem Kw.found (k:Kw w1 w H p kb Z s d lv tv sv nv rv u8 us rows rules start st dd):∃b cap,w.cell? ⟨p,6,none⟩=some (slice b d.found.length cap)/\w.cell? ⟨p,4,none⟩=some (pX s.f)/\∀i,i<d.found.length->∃g,b=some ⟨g,0,none⟩/\w.cell? ⟨g,i,none⟩=some (iX ((d.found.getD i 0:Nat):Int))/\d.found.getD i 0<16777216:=by
 have ⟨l,m,a,_⟩:=k.so;have ⟨b,cap,c⟩:=a.own1.form;rw[zP] at c;refine⟨b,cap,by rw[<-c];exact a.cells.2.2.2.2.1,a.cells.2.2.1,λi j=>?_⟩;have e:=a.own1;rw[c] at e;obtain⟨g,rfl⟩:=e.some (by rw[zP];omega);have:=e.cell i (by rw[zP];exact j);rw[vY] at this;exact⟨g,rfl,this,a.fsm _ (zV _ _ 0 j)⟩
end
structure KdAt (w:World)(kb:Nat)(a:Ar)(k:Kd):Prop where
 lk:kb<w.heap.size
 all:∃lv tv sv nv rv,w.heap[kb]? =some (.cells #[lv,tv,sv,nv,rv,int i64 (k.start:Int),int i64 (k.dead:Int)] 178)/\ArAt w lv tv sv a/\IntRows w (In w) nv (k.rows.map ints)/\Ints w (In w) rv k.rules
theorem Kw.rowsAt {w1 w:World}{H p kb:Nat}{Z:Nat->Prop}{s:Sq}{d:Sf}{lv tv sv nv rv u8:Value}{us:Nat->Value}{rows:List (List Nat)}{rules:List Int}{start:List Nat}{st dd:Int}(c:Kw w1 w H p kb Z s d lv tv sv nv rv u8 us rows rules start st dd):IntRows w (In w) nv (rows.map ints):=by
 have l:∀i,(rows.map ints).getD i []=ints (rows.getD i []):=λi=>by
  rw[lW,lW,gZ];cases rows[i]? <;> rfl
 by_cases j:rows.length=0
 ·rcases c.nOwn.2 with⟨b,_⟩|⟨g,cap,q,b,m,r,e,f,k,t⟩
  ·exact⟨none,0,by rw[b,kV,j],by rw[kV,j];exact lQ,by unfold maxLen;omega,λi a=>by rw[kV] at a;omega⟩
  ·exact⟨_,cap,by rw[b,kV],by rw[kV];exact e,f,λi a=>by rw[kV] at a;omega⟩
 ·have ⟨g,cap,b,m,o,e,f,k,_⟩:=c.nOwn.get (by omega)
  refine⟨_,cap,by rw[b,kV],by rw[kV];exact e,f,λi a=>?_⟩;rw[kV] at a;refine⟨g,0,us i,rfl,o,by rw[Nat.zero_add];exact k i a,?_⟩;rw[l];exact(c.each i a).mono c.zl
end
section
attribute [local go_sem ↓] Go.wp_at_zero Go.wp_at_succ
def zQA (w1 w:World)(H p kb:Nat)(s:Sq)(d:Sf)(lv tv sv u8:Value)(rows:List (List Nat))(rules:List Int)(start:List Nat)(st dd:Int):Prop:=∃Z nv rv us,Kw w1 w H p kb Z s d lv tv sv nv rv u8 us rows rules start st dd
def zBW (w:World)(n:Nt)(most:Nat)(e:Ending)(w':World):Prop:=
 match n.sort most with
 |none=>e=returned (tuple #[pointer none,bool false])/\Grew w w'
 |some k=>∃kb,e=returned (tuple #[pointer (some ⟨kb,0,none⟩),bool true])/\KdAt w' kb n.areas k/\Grew w w'
theorem zMe {w w':World}{n:Nt}{most:Nat}(a:n.sort most=none)(b:Grew w w'):zBW w n most (returned (tuple #[pointer none,bool false])) w':=by
 unfold zBW;rw[a];exact⟨rfl,b⟩
theorem zGZ {w w':World}{n:Nt}{most kb:Nat}{k:Kd}(b:n.sort most=some k)(a:KdAt w' kb n.areas k/\Grew w w'):zBW w n most (returned (tuple #[pX kb,bool true])) w':=by
 unfold zBW;rw[b];exact⟨kb,rfl,a.1,a.2⟩
theorem Kw.begin {w1:World}{p:Nat}{s:Sq}(d:SoAt w1 (λg=>g<w1.heap.size/\g≠p) p s ⟨[],[]⟩ nX nX)(lv tv sv:Value):
  Kw w1 (w1.alloc (.cells #[lv,tv,sv,nX,nX,zX,zX] 178)) w1.heap.size p w1.heap.size (λ_=>False) s ⟨[],[]⟩ lv tv sv nX nX nX (λ_=>undef) [] [] [] 0 0:=by
 have j:=d.lp;refine⟨gY _ _,ownsRow_nil _ _ _ _,λi c=>absurd c (Nat.not_lt_zero _),OwnI.nil _ _,⟨none,0,rfl,lQ,by unfold maxLen;omega,λi c=>absurd c (Nat.not_lt_zero _)⟩,λg a=>a.elim,λg a=>a.elim,λg a=>a.elim,λg a=>a.elim,⟨_,_,d.grown (kZ _ _ lQ),λg a=>?_⟩,lQ,⟨rfl,rfl,by simp,λk f=>lG _ _ _ f.1⟩⟩;rcases a with b|b|b|b
 ·exact b.elim
 ·subst b
  exact⟨by simp,by omega,λe=>(by cases e),λe=>(by cases e)⟩
 ·cases b
 ·cases b
theorem zOb {w:World}{S:Nat->Prop}{v:Value}{l:List Int}{p:Nat}(c:Ints w S v l)(d:∀i x,w.cell? ⟨p,i,none⟩≠some (iX x)):Ints w (λg=>S g/\g≠p) v l:=by
 obtain⟨ao,cap,f,j,k,m⟩:=c;refine⟨ao,cap,f,j,k,λi q=>?_⟩;have ⟨b,o,r,s,a⟩:=m i q;exact⟨b,o,r,⟨s,λe=>d (o+i) _ (by rw[<-e];exact a)⟩,a⟩
theorem SoAt.no_int {w:World}{X:Nat->Prop}{p:Nat}{s:Sq}{q:Sf}{m o lv tv sv tl:Value}(r:SoAt w X p s q m o)(b:∃a n c,s.lv=slice a n c)(f:∃a n c,s.tv=slice a n c)(g:∃a n c,s.sv=slice a n c)(j:∃a n c,s.tl=slice a n c)(k:∃a n c,m=slice a n c)(l:∃a n c,o=slice a n c):∀i x,w.cell? ⟨p,i,none⟩≠some (iX x):=by
 intro i x e;obtain⟨_,_,_,b⟩:=b;obtain⟨_,_,_,f⟩:=f;obtain⟨_,_,_,g⟩:=g;obtain⟨_,_,_,j⟩:=j;obtain⟨_,_,_,k⟩:=k;obtain⟨_,_,_,l⟩:=l;unfold cell? at e;rw[r.blk,b,f,g,j,k,l] at e;rcases i with _|_|_|_|_|_|_|_|i
 all_goals simp at e
theorem zOq {w w1 w2:World}{H p kb:Nat}{Z:Nat->Prop}{s:Sq}{u:Sf}{lv tv sv m rv y:Value}{z:Nat->Value}{rows:List (List Nat)}{rules:List Int}{start:List Nat}{o q:Nat}{a:Ar}(c:Kw w1 w2 H p kb Z s u lv tv sv m rv y z rows rules start o q)(r:H=w1.heap.size)(A:∀i x,w1.cell? ⟨p,i,none⟩≠some (iX x))(f:ArAt w1 lv tv sv a):KdAt w2 kb a ⟨rows,rules,o,q⟩:=by
 have e:∀v l,Ints w1 (λg=>g<H/\g≠p) v l->Ints w2 (In w2) v l:=λv l j=>(j.keep λb k=>c.keep.block b k).mono λb k=>by
  have B:b<w1.heap.size:=by rw[<-r];exact k.1
  exact lZ B c.keep.size
 have a:∀v l,Ints w1 (In w1) v l->Ints w1 (λg=>g<H/\g≠p) v l:=λv l j=>(zOb j A).mono λg t=>⟨by rw[r];exact t.1,t.2⟩
 exact⟨c.kl,lv,tv,sv,m,rv,c.blk,⟨e _ _ (a _ _ f.lows),e _ _ (a _ _ f.letters),e _ _ (a _ _ f.sets)⟩,c.rowsAt,zA0 c.rOwn⟩
end
section
attribute [local go_sem ↓] Go.wp_at_zero Go.wp_at_succ
theorem zKm (w:World)(q:Nat)(n:Nt)(sv fv rv ev:Value)(hN:NetAt w q n sv fv rv ev)(ok:n.Ok)(fit:n.Fits)(most:Nat)(hmost:most<=1000000000):
  Calls prog 61 #[pX q,iX (most:Int)] w (zBW w n most):=by
 obtain⟨i0,hi0,hz0,hz1,hz2⟩:=info_parts yW;obtain⟨ii1,hi1,hy0,hy1,hy2⟩:=info_parts zF2;have HS:Hid (Ca 90 #[pX q] w λe w'=>∃p s,e=returned (pX p)/\(s.rules=n.rules/\s.tails=n.tails n.letters/\s.sets=n.letters/\s.q=q)/\SoAt w' (λg=>g<w'.heap.size/\g≠p) p s ⟨[],[]⟩ nX nX/\ArAt w' s.lv s.tv s.sv n.areas/\SpAt w' s.f n.ahead/\s.f≠p/\w.heap.size<=p/\Grew w w'):=zEV w q n sv fv rv ev hN ok fit;have HN:Hid (NetAt w q n sv fv rv ev):=hN;have hlq:=hN.lq;have htop:=ok.top;have hfirst:=ok.first
 have hends:=ok.ends;have hlet:n.letters.length<=20000000004:=by
  have:=(zBH n.sets).2.2.2;have:=fit.few;show(xN n.sets).setsN.length<=_;rw[Ar.setsN_len];omega
 have HAL:Hid (∀i,n.ahead i<16777216):=λi=>zNx _ (λx hx=>lZ (ok.fs x hx) htop) _ i;have HSP:Hid (∀x,qT n.ahead x<16777216):=zOW _ HAL;clear hN ok fit;go_enter func61,ntmps61
 go_wp2_with (first|(go_at_call 90;refine HS.mono ?_;rintro e w1 ⟨p,s,rfl,hs1,hso,har,hsp,hfp,hpH,hk1⟩;obtain⟨a1,c1,hf1,-⟩:=id har.lows;obtain⟨a2,c2,hf2,-⟩:=id har.letters;obtain⟨a3,c3,hf3,-⟩:=id har.sets;have x1:w1.cell? ⟨p,1,none⟩=some (slice a1 n.areas.lows.length c1):=(by rw[<-hf1];unfold cell?;rw[hso.blk];rfl);have x2:w1.cell? ⟨p,2,none⟩=some (slice a2 n.areas.letters.length c2):=(by rw[<-hf2];unfold cell?;rw[hso.blk];rfl);have x3:w1.cell? ⟨p,3,none⟩=some (slice a3 n.areas.sets.length c3):=(by rw[<-hf3];unfold cell?;rw[hso.blk];rfl);have HQ:Hid ((s.rules=n.rules/\s.tails=n.tails n.letters/\s.sets=n.letters/\s.q=q)/\SoAt w1 (λg=>g<w1.heap.size/\g≠p) p s ⟨[],[]⟩ nX nX/\ArAt w1 (slice a1 n.areas.lows.length c1) (slice a2 n.areas.letters.length c2) (slice a3 n.areas.sets.length c3) n.areas/\SpAt w1 s.f n.ahead/\s.f≠p/\(∃a n c,s.lv=slice a n c)/\(∃a n c,s.tv=slice a n c)/\(∃a n c,s.sv=slice a n c)):=⟨hs1,hso,(by rw[<-hf1,<-hf2,<-hf3];exact har),hsp,hfp,⟨_,_,_,hf1⟩,⟨_,_,_,hf2⟩,⟨_,_,_,hf3⟩⟩;have y2:=(HN.grown hk1).c2;have hlq1:q<w1.heap.size:=(HN.grown hk1).lq;have hnqp:q≠p:=(by omega);clear hs1 hso har hsp hfp hf1 hf2 hf3)|(go_at_call 91;refine((Kw.begin HQ.2.1 _ _ _).row lQ (by rw[HQ.out.1.2.2.1];simp;omega) n.first (by omega)).mono ?_;rintro e w2 ⟨u8,Z2,rfl,K2,hu8⟩;obtain⟨a8,c8,hf8,-⟩:=id hu8;have HK2:Hid (zQA w1 w2 w1.heap.size p w1.heap.size s (s.rowTo n.first ⟨[],[]⟩ s.sets.length).2 (slice a1 n.areas.lows.length c1) (slice a2 n.areas.letters.length c2) (slice a3 n.areas.sets.length c3) u8 [] [] (s.rowTo n.first ⟨[],[]⟩ s.sets.length).1 0 0):=⟨_,_,_,_,K2.start_of hu8⟩;subst hf8;clear K2 hu8))
 have HLK:Hid (s.Like n.sq):=⟨HQ.1.1,HQ.1.2.1,HQ.1.2.2.1⟩
 have hsl:s.sets.length=n.letters.length:=by rw[HQ.out.1.2.2.1]
 have hst:s.rowTo n.first ⟨[],[]⟩ s.sets.length=n.start:=by rw[hsl];exact HLK.row _ _ _
 rw[hst] at HK2 ⊢;have hst2:n.start.2.marks.length<=n.start.2.found.length:=by rw[<-hst];exact s.rowTo_ml _ _ _ lQ
 have HRL:Hid (s.rules=n.rules):=HQ.1.1;have HE3:Hid (∀wr,KeepX (λg=>g<w1.heap.size/\g≠p) w1 wr->wr.cell? ⟨q,3,none⟩=some (iX (n.ends:Int))):=λwr hk=>(gW (hk.block q ⟨hlq1,hnqp⟩)).trans (HN.grown hk1).c3;have HSF:Hid (∀wr,KeepX (λg=>g<w1.heap.size/\g≠p) w1 wr->SpAt wr s.f n.ahead):=λwr hk=>HQ.2.2.2.1.keep (hk.block s.f ⟨HQ.2.2.2.1.lt,HQ.2.2.2.2.1⟩);have HKP:Hid (∀wr,KeepX (λg=>g<w1.heap.size/\g≠p) w1 wr->Grew w wr):=λwr hk=>hk1.trans ⟨hk.os,hk.output,hk.size,λk h1 _=>hk.block k ⟨lZ h1 hk1.size,by omega⟩⟩;have HK1:Hid (Grew w w1):=hk1;have HST:Hid (n.start=n.start):=rfl;clear hk1 hst x1 x2 x3 y2 HS;generalize hu8:Value.slice a8 (ints n.start.1).length c8=u8 at *;have HU8:Hid (Value.slice a8 (ints n.start.1).length c8=u8):=hu8;clear hu8;go_loopg [9] (most+1) (λk i wr=>∃(j:Nat) (d:Sf) (rows:List (List Nat)) (rules:List Int),k=most+1-j/\(j<=most/\j<=d.found.length/\rows.length=j/\rules.length=j/\d.marks.length<=d.found.length/\∀r∈rows,r.length=n.letters.length)/\i=iX (j:Int)/\zQA w1 wr w1.heap.size p w1.heap.size s d (slice a1 n.areas.lows.length c1) (slice a2 n.areas.letters.length c2) (slice a3 n.areas.sets.length c3) u8 rows rules n.start.1 0 0/\n.sq.sortGo n.ahead n.ends most (most+1) 0 n.start.2 [] []=n.sq.sortGo n.ahead n.ends most (most+1-j) j d rows rules)
 case atStart=>exact⟨0,n.start.2,[],[],rfl,⟨lX,lX,rfl,rfl,hst2,λr hr=>absurd hr List.not_mem_nil⟩,rfl,HK2,rfl⟩
 case round=>
  obtain⟨j,d,rows,rules,hgk,⟨hj1,hj2,hj3,hj4,hml,hrl⟩,rfl,⟨Z,nv,rv2,us,hK⟩,hgo⟩:=hrel;have HB:Hid (gk=most+1-j/\Kw w1 wr w1.heap.size p w1.heap.size Z s d (slice a1 n.areas.lows.length c1) (slice a2 n.areas.letters.length c2) (slice a3 n.areas.sets.length c3) nv rv2 u8 us rows rules n.start.1 0 0/\n.sq.sortGo n.ahead n.ends most (most+1) 0 n.start.2 [] []=n.sq.sortGo n.ahead n.ends most (most+1-j) j d rows rules):=⟨hgk,hK,hgo⟩
  obtain⟨fa,fc,z6,z4,hfc⟩:=hK.found;have HFC:Hid (∀i,i<d.found.length->∃g,fa=some ⟨g,0,none⟩/\wr.cell? ⟨g,i,none⟩=some (iX ((d.found.getD i 0:Nat):Int))/\d.found.getD i 0<16777216):=hfc;have HRW:Hid (∀r∈rows,r.length=n.letters.length):=hrl;clear hgk hgo hfc hrl HK2;by_cases hjf:j<d.found.length
  ·have i1:(j:Int)<(d.found.length:Int):=by omega
   by_cases hmo:d.found.length>most
   ·have i2:(d.found.length:Int)>(most:Int):=by omega
    have HZ:Hid (n.sort most=none):=by
     show _=_;unfold Nt.sort;rw[HB.out.2.2,show most+1-j=(most-j)+1 by omega];unfold Sq.sortGo;rw[if_pos hjf,if_pos hmo]
    clear hK;go_wp2_with fail;refine gJ (results_tmp2 rfl _ _ _) rfl ?_;exact zMe HZ (HKP _ HB.2.1.keep)
   ·have i2:¬((d.found.length:Int)>(most:Int)):=by omega
    obtain⟨g,rfl,hc6,hxl⟩:=HFC j hjf;have HGo2:Hid (n.sq.sortGo n.ahead n.ends most (most+1) 0 n.start.2 [] []=n.sq.sortGo n.ahead n.ends most (most+1-(j+1)) (j+1) (n.sq.rowTo (qT n.ahead (d.found.getD j 0)) d n.letters.length).2 (rows++[(n.sq.rowTo (qT n.ahead (d.found.getD j 0)) d n.letters.length).1]) (rules++[xI n.rules (d.found.getD j 0&&&n.ends)])):=by
     show _=_;rw[HB.out.2.2,show most+1-j=(most+1-(j+1))+1 by omega];show(if j<d.found.length then(if d.found.length>most then none else _) else _)=_;rw[if_pos hjf,if_neg hmo];rfl
    have hra:d.found.getD j 0&&&n.ends<16777216:=Nat.lt_of_le_of_lt Nat.and_le_left hxl;have hand:bits .and i64 ((d.found.getD j 0:Nat):Int) (n.ends:Int)=((d.found.getD j 0&&&n.ends:Nat):Int):=qR _ _ (by omega) (by omega);have HOF:Hid (∀x:Nat,x<16777216->Ca 92 #[pX s.f,iX (x:Int)] wr λe w'=>e=returned (iX ((qT n.ahead x:Nat):Int))/\Grew wr w'):=λx hx=>zB6 wr s.f n.ahead (HSF wr HB.2.1.keep) HAL x hx;have HRow:Hid (∀w5,Grew wr w5->∀y:Nat,y<16777216->Ca 91 #[pX p,iX (y:Int)] w5 λe w'=>∃u Z',e=returned u/\Kw w1 w' w1.heap.size p w1.heap.size Z' s (n.sq.rowTo y d n.letters.length).2 (slice a1 n.areas.lows.length c1) (slice a2 n.areas.letters.length c2) (slice a3 n.areas.sets.length c3) nv rv2 u8 us rows rules n.start.1 0 0/\Ints w' Z' u (ints (n.sq.rowTo y d n.letters.length).1)):=λw5 hk5 y hy=>by
     have h:=(HB.2.1.grown hk5).row hml (by omega) y hy;rw[hsl,HLK.out.row] at h;exact h
    have hyl:=HSP (d.found.getD j 0);have hr1:=n.sq.rowTo_len (qT n.ahead (d.found.getD j 0)) d n.letters.length;have hr2:=n.sq.rowTo_ml (qT n.ahead (d.found.getD j 0)) d n.letters.length hml;have HOF2:=HOF _ hxl;clear hK HOF;generalize d.found.getD j 0=x at *;generalize qT n.ahead x=y at *;have HRow2:Hid (∀w5,Grew wr w5->Ca 91 #[pX p,iX (y:Int)] w5 λe w'=>∃u Z',e=returned u/\Kw w1 w' w1.heap.size p w1.heap.size Z' s (n.sq.rowTo y d n.letters.length).2 (slice a1 n.areas.lows.length c1) (slice a2 n.areas.letters.length c2) (slice a3 n.areas.sets.length c3) nv rv2 u8 us rows rules n.start.1 0 0/\Ints w' Z' u (ints (n.sq.rowTo y d n.letters.length).1)):=λw5 hk5=>HRow w5 hk5 y hyl;clear HRow;generalize (n.sq.rowTo y d n.letters.length).1=rw2 at *;generalize (n.sq.rowTo y d n.letters.length).2=d2 at *;obtain⟨hr1a,-,-,hr1d⟩:=hr1;obtain⟨an,cn,hnv⟩:=zF HB.2.1.nOwn;obtain⟨ar,cr,hrv⟩:=HB.2.1.rOwn.form;rw[hj3] at hnv;rw[hj4] at hrv;subst hnv hrv;go_wp2_with (first|(go_at_call 92;refine HOF2.mono ?_;rintro e w5 ⟨rfl,hk5⟩)|(go_at_call 91;refine(HRow2 w5 hk5).mono ?_;rintro e w6 ⟨u,Z6,rfl,hK6,hu6⟩;obtain⟨au,cu,hfu,-⟩:=id hu6;have HK6:Hid (Kw w1 w6 w1.heap.size p w1.heap.size Z6 s d2 (slice a1 n.areas.lows.length c1) (slice a2 n.areas.letters.length c2) (slice a3 n.areas.sets.length c3) (slice an j cn) (slice ar j cr) u8 us rows rules n.start.1 0 0/\Ints w6 Z6 u (ints rw2)):=⟨hK6,hu6⟩;have v3:=hK6.cells.1;have hkl6:=hK6.kl;have OR:w6.ownsRow w1.heap.size 45 1 (slice an j cn) j ((List.range j).map us):=(by have:=hK6.nOwn;unfold Row at this;rw[hj3] at this;exact this);generalize (ints rw2).length=ul at *;subst hfu;clear hK6 hu6)|(at_builtin;refine wpList_append_lies _ rfl _ _ 88 rfl w1.heap.size 45 ii1 nX 1 24 underlying88 hi1 hy0 hy1 hy2 rfl (by decide) _ _ _ rfl (OR.alloc _) ⟨w6.heap.size,0,none⟩ 1 1 [slice au ul cu] rfl rfl (cell_one_new _ _ _) (by intro u hu;simp at hu;subst hu;rfl) (by decide) (by unfold maxLen;omega) (by omega) (by simp;omega) _ rfl ?_;intro gg cap w7 hown hgrow hat hlt3;have hPB:w7.heap[w1.heap.size]? =w6.heap[w1.heap.size]? :=(hgrow.block _ (by simp;omega) HK6.1.nbox.1).trans (lG _ _ _ (by omega));have t3:w7.cell? ⟨w1.heap.size,3,none⟩=some (slice an j cn):=(gW hPB).trans v3;have g3:w7.frozen? ⟨w1.heap.size,3,none⟩=false:=(gV hPB).trans (HK6.1.cells.2.2.2.2 3);have HK7:Hid (Kw w1 (w7.setCell ⟨w1.heap.size,3,none⟩ (slice (qX gg) (j+1) cap)) w1.heap.size p w1.heap.size Z6 s d2 (slice a1 n.areas.lows.length c1) (slice a2 n.areas.letters.length c2) (slice a3 n.areas.sets.length c3) (slice (qX gg) (j+1) cap) (slice ar j cr) u8 (λi=>if i=j then slice au ul cu else us i) (rows++[rw2]) rules n.start.1 0 0):=HK6.1.snocN hj3.symm HK6.2 hown hgrow (by rcases hat with ha|ha;exact .inl ha;right;rw[ha];simp)))
    obtain⟨w8,hw8,HK8⟩:∃w8,w8=w7.setCell ⟨w1.heap.size,3,none⟩ (slice (qX gg) (j+1) cap)/\Hid (Kw w1 w8 w1.heap.size p w1.heap.size Z6 s d2 (slice a1 n.areas.lows.length c1) (slice a2 n.areas.letters.length c2) (slice a3 n.areas.sets.length c3) (slice (qX gg) (j+1) cap) (slice ar j cr) u8 (λi=>if i=j then slice au ul cu else us i) (rows++[rw2]) rules n.start.1 0 0):=⟨_,rfl,HK7⟩
    rw[<-hw8];clear hw8 HK7 hown hgrow hat hlt3 hPB t3 g3 OR v3 hkl6 hk5 HK6 HOF2 HRow2 hc6 z4 z6;have v4:=HK8.cells.2.1;have f4:=HK8.cells.2.2.2.2 4;have vq:=HE3 w8 HK8.keep;have hkl8:=HK8.kl;have HC:Hid (∀wz,wz.Alike w8->Ca 93 #[pX p,iX ((x&&&n.ends:Nat):Int)] wz λe w'=>e=returned (iX (xI n.rules (x&&&n.ends)))/\Grew w8 w'):=λwz hz=>by
     have hkz:Grew w8 wz:=⟨hz.2.1,hz.2.2,by rw[hz.1];exact lQ,λk _ _=>by rw[hz.1]⟩
     refine((HK8.grown hkz).ruleOf (x&&&n.ends) hra).mono ?_;rintro e w' ⟨rfl,rfl⟩;rw[HRL.out];exact⟨rfl,hkz⟩
    generalize xI n.rules (x&&&n.ends)=r at *;generalize x&&&n.ends=xe at *;go_region_law ((first
     |(refine step_append_lies _ (by rfl) (.tmp 71) (.tmp 80) 45 (by rfl) w1.heap.size 3 i0 _ 1 8 underlying45 hi0 hz0 hz1 hz2 rfl (by decide) (slice ar j cr) j (rules.map λx=>iX x) (by simp[Act.eval,Act.put]) (OW.alloc _) ⟨w9.heap.size,0,none⟩ 1 1 [iX r] (by simp[Act.eval,Act.put]) (by rfl) (news_of_block (cs:=#[iX r]) (t:=3) (fr:=(0,0)) (gY w9 _)) (by simp[Value.oneCell']) (by decide) (by unfold maxLen;omega) (by omega) (by simp;omega) (w9.heap.size+1) (by simp) ?_;intro g2 cap2 w10 hown2 hgrow2 hat2 hlt4;have hPB2:=hgrow2.block w1.heap.size (by simp;omega) HNB;have v4b:w10.cell? ⟨w1.heap.size,4,none⟩=some (slice ar j cr):=(gW hPB2).trans ((gU _ _ _ hkl9).trans v4a);have f4b:w10.frozen? ⟨w1.heap.size,4,none⟩=false:=(gV hPB2).trans ((frozen?_alloc_past _ _ _ hkl9).trans f4a))
     |(go_simp;go_at_call 93;refine(HC _ ?_).mono ?_;exact⟨rfl,rfl,rfl⟩;rintro e w9 ⟨rfl,hk9⟩;have HK9:Hid (Kw w1 w9 w1.heap.size p w1.heap.size Z6 s d2 (slice a1 n.areas.lows.length c1) (slice a2 n.areas.letters.length c2) (slice a3 n.areas.sets.length c3) (slice (qX gg) (j+1) cap) (slice ar j cr) u8 (λi=>if i=j then slice au ul cu else us i) (rows++[rw2]) rules n.start.1 0 0):=HK8.grown hk9;have v4a:=HK9.cells.2.1;have f4a:=HK9.cells.2.2.2.2 4;have vqa:=HE3 w9 HK9.keep;have hkl9:=HK9.kl;have HNB:Hid (some w1.heap.size≠(Value.slice ar j cr).ownBlock):=HK9.nbox.2;have OW:w9.ownsRow w1.heap.size 3 1 (slice ar j cr) j (rules.map λx=>iX x):=(by have:=HK9.rOwn;unfold OwnI at this;rw[hj4] at this;exact this))))
    all_goals
     have HF:Hid (zQA w1 (w10.setCell ⟨w1.heap.size,4,none⟩ (slice (qX g2) (j+1) cap2)) w1.heap.size p w1.heap.size s d2 (slice a1 n.areas.lows.length c1) (slice a2 n.areas.letters.length c2) (slice a3 n.areas.sets.length c3) u8 (rows++[rw2]) (rules++[r]) n.start.1 0 0):=⟨_,_,_,_,HK9.snocR hj4.symm hown2 hgrow2 (by
      rcases hat2 with ha|ha
      ·exact .inl ha
      ·right;rw[ha];omega)⟩
     clear hown2 hgrow2 hat2 hPB2 v4a f4a v4b f4b OW;go_wp2_with fail;go_roundg (most+1-(j+1))
     case measure=>rw[HB.out.1];omega
     case rel=>exact⟨j+1,d2,_,_,rfl,⟨by omega,by omega,by simp[hj3],by simp[hj4],hr2,λt ht=>by
      rcases kU.1 ht with h1|h1
      ·exact HRW t h1
      ·rw[kY.1 h1];exact hr1a⟩,by go_num,HF,HGo2⟩
  ·have i1:¬((j:Int)<(d.found.length:Int)):=by omega
   have HZ:Hid (n.sort most=some (n.ended d rows rules)):=by
    show _=_;have e:n.sq.sortGo n.ahead n.ends most (most+1-j) j d rows rules=some (d,rows,rules):=by
     cases most+1-j with
     |zero=>rfl
     |succ k=>
      show(if j<d.found.length then _ else _)=_;rw[if_neg hjf]
    unfold Nt.sort;rw[HB.out.2.2,e]
   have HEN:Hid (n.ended d rows rules=if vF (rows.map ints) rules (ints n.start.1)=rows.length then⟨rows++[n.start.1],rules++[-1],vF (rows.map ints) rules (ints n.start.1),n.sq.kind d 0⟩ else⟨rows,rules,vF (rows.map ints) rules (ints n.start.1),n.sq.kind d 0⟩):=rfl;have hll:vF (rows.map ints) rules (ints n.start.1)<=rows.length:=by
    have:=zLD (rows.map ints) rules (ints n.start.1);rw[kV] at this;exact this
   have HKO:Hid (Ca 94 #[pX p,zX] wr λe w'=>e=returned (iX ((n.sq.kind d 0:Nat):Int))/\Kw w1 w' w1.heap.size p w1.heap.size Z s (s.kindS d 0) (slice a1 n.areas.lows.length c1) (slice a2 n.areas.letters.length c2) (slice a3 n.areas.sets.length c3) nv rv2 u8 us rows rules n.start.1 0 0):=by
    have h:=hK.kindOf hml (by omega) 0 (by omega);rw[(HLK.out.kind d 0).1] at h;exact h
   have HLI:Hid (∀w4 Z d' st dd,Kw w1 w4 w1.heap.size p w1.heap.size Z s d' (slice a1 n.areas.lows.length c1) (slice a2 n.areas.letters.length c2) (slice a3 n.areas.sets.length c3) nv rv2 u8 us rows rules n.start.1 st dd->Ca 95 #[pX w1.heap.size,u8] w4 λe w'=>e=returned (iX ((vF (rows.map ints) rules (ints n.start.1):Nat):Int))/\Grew w4 w'):=λw4 Z d' st dd h4=>by
    refine zKN w4 w1.heap.size nv rv2 u8 (rows.map ints) rules (ints n.start.1) h4.kl h4.cells.1 h4.cells.2.1 h4.rowsAt (zA0 h4.rOwn) (by rw[kV];omega) (by rw[kV];omega) (h4.stA.mono h4.zl) λr hr=>?_;obtain⟨r2,hr2,rfl⟩:=List.mem_map.1 hr;rw[zP,HRW.out r2 hr2];omega
   have HPN:Hid (∀i x,w1.cell? ⟨p,i,none⟩≠some (iX x)):=HQ.2.1.no_int HQ.2.2.2.2.2.1 HQ.2.2.2.2.2.2.1 HQ.2.2.2.2.2.2.2 (by obtain⟨a,c,h,-⟩:=HQ.2.1.tls;exact⟨_,_,_,h⟩) ⟨_,_,_,rfl⟩ ⟨_,_,_,rfl⟩ (lv:=undef) (tv:=undef) (sv:=undef) (tl:=undef);have HAR:Hid (ArAt w1 (slice a1 n.areas.lows.length c1) (slice a2 n.areas.letters.length c2) (slice a3 n.areas.sets.length c3) n.areas):=HQ.2.2.1;obtain⟨an,cn,hnv⟩:=zF HB.2.1.nOwn;obtain⟨ar,cr,hrv⟩:=HB.2.1.rOwn.form;rw[hj3] at hnv;rw[hj4] at hrv;generalize vF (rows.map ints) rules (ints n.start.1)=lk at *;generalize n.sq.kind d 0=dd at *;generalize s.kindS d 0=d3 at *;have hu8:=HU8.out;generalize (ints n.start.1).length=ul8 at *;subst hnv hrv hu8;clear hK HFC z4;by_cases hlk:lk=rows.length
   ·have hlk2:lk=j:=by omega
    subst hlk2;have HEN2:Hid (n.ended d rows rules=⟨rows++[n.start.1],rules++[-1],lk,dd⟩):=by show _=_;rw[HEN.out,if_pos hlk]
    clear hlk HEN;go_wp2_with (first|(go_at_call 94;refine HKO.mono ?_;rintro e w3 ⟨rfl,K3⟩;have v6:=K3.cells.2.2.2.1;have f6:=K3.cells.2.2.2.2 6;have K4:=K3.setDead (dd:Int))|(go_at_call 95;refine(HLI _ _ _ _ _ K4).mono ?_;rintro e w5 ⟨rfl,hk5⟩;have K5:=K4.grown hk5;have v5:=K5.cells.2.2.1;have f5:=K5.cells.2.2.2.2 5;have K6:=K5.setStart (lk:Int)))
    have HK6:Hid (Kw w1 (w5.setCell ⟨w1.heap.size,5,none⟩ (iX (lk:Int))) w1.heap.size p w1.heap.size Z s d3 (slice a1 n.areas.lows.length c1) (slice a2 n.areas.letters.length c2) (slice a3 n.areas.sets.length c3) (slice an lk cn) (slice ar lk cr) (slice a8 ul8 c8) us rows rules n.start.1 (lk:Int) (dd:Int)):=K6;clear K3 K4 K5 K6 v6 f6 v5 f5 z6 hk5 HKO HLI;generalize w5.setCell ⟨w1.heap.size,5,none⟩ (iX (lk:Int))=w6 at *;have v5:=HK6.cells.2.2.1;have v3:=HK6.cells.1;have hkl6:=HK6.kl;go_quiet (fail);have HK7:Hid (Kw w1 (w6.drewN nq) w1.heap.size p w1.heap.size Z s d3 (slice a1 n.areas.lows.length c1) (slice a2 n.areas.letters.length c2) (slice a3 n.areas.sets.length c3) (slice an lk cn) (slice ar lk cr) (slice a8 ul8 c8) us rows rules n.start.1 (lk:Int) (dd:Int)):=HK6.grown (Keep.alike (w':=w6.drewN nq) ⟨rfl,rfl,rfl⟩);clear HK6 v5 v3;generalize w6.drewN nq=w7 at *;have v3:=HK7.cells.1;have hkl7:=HK7.kl;have OR:w7.ownsRow w1.heap.size 45 1 (slice an lk cn) lk ((List.range lk).map us):=(by have:=HK7.nOwn;unfold Row at this;rw[hj3] at this;exact this)
    go_wp2_with (first|(at_builtin;refine wpList_append_lies _ rfl _ _ 45 rfl w1.heap.size 3 i0 zX 1 8 underlying45 hi0 hz0 hz1 hz2 rfl (by decide) _ _ _ rfl (OW.alloc _) ⟨w8.heap.size,0,none⟩ 1 1 [iX (-1)] rfl rfl (zBv _ [iX (-1)] _ _ (zD _ _ _)) (by intro u hu;simp at hu;subst hu;rfl) (by decide) (by unfold maxLen;omega) (by omega) (by simp[zD];omega) _ rfl ?_;intro g2 cap2 w9 hown2 hgrow2 hat2 hlt4;have hPB2:w9.heap[w1.heap.size]? =(w8.setCell ⟨w1.heap.size,3,none⟩ (slice (qX gg) (lk+1) cap)).heap[w1.heap.size]? :=(hgrow2.block _ (by simp[zD];omega) HK8.nbox.2).trans (lG _ _ _ HK8.kl);have t4:w9.cell? ⟨w1.heap.size,4,none⟩=some (slice ar lk cr):=(gW hPB2).trans v4;have g4:w9.frozen? ⟨w1.heap.size,4,none⟩=false:=(gV hPB2).trans (HK8.cells.2.2.2.2 4);have HK9:Hid (Kw w1 (w9.setCell ⟨w1.heap.size,4,none⟩ (slice (qX g2) (lk+1) cap2)) w1.heap.size p w1.heap.size Z s d3 (slice a1 n.areas.lows.length c1) (slice a2 n.areas.letters.length c2) (slice a3 n.areas.sets.length c3) (slice (qX gg) (lk+1) cap) (slice (qX g2) (lk+1) cap2) (slice a8 ul8 c8) (λi=>if i=lk then slice a8 ul8 c8 else us i) (rows++[n.start.1]) (rules++[-1]) n.start.1 (lk:Int) (dd:Int)):=HK8.snocR hj4.symm hown2 hgrow2 (by rcases hat2 with ha|ha;exact .inl ha;right;rw[ha];simp[zD]))|(at_builtin;refine wpList_append_lies _ rfl _ _ 88 rfl w1.heap.size 45 ii1 nX 1 24 underlying88 hi1 hy0 hy1 hy2 rfl (by decide) _ _ _ rfl (OR.alloc _) ⟨w7.heap.size,0,none⟩ 1 1 [slice a8 ul8 c8] rfl rfl (cell_one_new _ _ _) (by intro u hu;simp at hu;subst hu;rfl) (by decide) (by unfold maxLen;omega) (by omega) (by simp;omega) _ rfl ?_;intro gg cap w8 hown hgrow hat hlt3;have hPB:w8.heap[w1.heap.size]? =w7.heap[w1.heap.size]? :=(hgrow.block _ (by simp;omega) HK7.nbox.1).trans (lG _ _ _ (by omega));have t3:w8.cell? ⟨w1.heap.size,3,none⟩=some (slice an lk cn):=(gW hPB).trans v3;have g3:w8.frozen? ⟨w1.heap.size,3,none⟩=false:=(gV hPB).trans (HK7.cells.2.2.2.2 3);have HK8:Hid (Kw w1 (w8.setCell ⟨w1.heap.size,3,none⟩ (slice (qX gg) (lk+1) cap)) w1.heap.size p w1.heap.size Z s d3 (slice a1 n.areas.lows.length c1) (slice a2 n.areas.letters.length c2) (slice a3 n.areas.sets.length c3) (slice (qX gg) (lk+1) cap) (slice ar lk cr) (slice a8 ul8 c8) (λi=>if i=lk then slice a8 ul8 c8 else us i) (rows++[n.start.1]) rules n.start.1 (lk:Int) (dd:Int)):=HK7.snocN hj3.symm HK7.stA hown hgrow (by rcases hat with ha|ha;exact .inl ha;right;rw[ha];simp);have v4:=HK8.cells.2.1;have hkl8:w1.heap.size<w8.heap.size:=(by have:=HK8.kl;rw[zD] at this;exact this);have OW:(w8.setCell ⟨w1.heap.size,3,none⟩ (slice (qX gg) (lk+1) cap)).ownsRow w1.heap.size 3 1 (slice ar lk cr) lk (rules.map λx=>iX x):=(by have:=HK8.rOwn;unfold OwnI at this;rw[hj4] at this;exact this)))
    refine gJ (results_tmp2 rfl _ _ _) rfl ?_;refine zGZ HZ ⟨?_,HKP _ HK9.keep⟩;rw[HEN2.out];exact zOq (w:=w) HK9 rfl HPN HAR
   ·have HEN2:Hid (n.ended d rows rules=⟨rows,rules,lk,dd⟩):=by show _=_;rw[HEN.out,if_neg hlk]
    have i3:¬((lk:Int)=(j:Int)):=by omega
    clear hlk HEN;go_wp2_with (first|(go_at_call 94;refine HKO.mono ?_;rintro e w3 ⟨rfl,K3⟩;have v6:=K3.cells.2.2.2.1;have f6:=K3.cells.2.2.2.2 6;have K4:=K3.setDead (dd:Int))|(go_at_call 95;refine(HLI _ _ _ _ _ K4).mono ?_;rintro e w5 ⟨rfl,hk5⟩;have K5:=K4.grown hk5;have v5:=K5.cells.2.2.1;have f5:=K5.cells.2.2.2.2 5;have K6:=K5.setStart (lk:Int)))
    have HK6:Hid (Kw w1 (w5.setCell ⟨w1.heap.size,5,none⟩ (iX (lk:Int))) w1.heap.size p w1.heap.size Z s d3 (slice a1 n.areas.lows.length c1) (slice a2 n.areas.letters.length c2) (slice a3 n.areas.sets.length c3) (slice an j cn) (slice ar j cr) (slice a8 ul8 c8) us rows rules n.start.1 (lk:Int) (dd:Int)):=K6;clear K3 K4 K5 K6 v6 f6 v5 f5 z6 hk5 HKO HLI;generalize w5.setCell ⟨w1.heap.size,5,none⟩ (iX (lk:Int))=w6 at *;have v5:=HK6.cells.2.2.1;have v3:=HK6.cells.1;have hc3:((lk:Int)==(j:Int))=false:=by simp;omega
    clear i3;go_quiet (fail);go_wp2_with fail;refine gJ (results_tmp2 rfl _ _ _) rfl ?_;have HK7:=HK6.grown (Keep.alike (w':=w6.drewN nq) ⟨rfl,rfl,rfl⟩);refine zGZ HZ ⟨?_,HKP _ HK7.keep⟩;rw[HEN2.out];exact zOq (w:=w) HK7 rfl HPN HAR
end
end Go.Proofs.YtbjcfkdnjaiclaaGreat
