import Derived.Deep.LoopGhost
import Derived.Deep.RegionLaw
import Derived.Deep.RegionWith
import Derived.Laws.IdiomStrings
import Derived.Laws.MakeOwn
import Derived.Laws.OwnMore
import Derived.StillTactics
import Derived.Test.YtbjcfkdnjaiclaaGreatA0
/- Parts of the proof. -/
set_option linter.unusedVariables false
set_option linter.unusedSimpArgs false
set_option maxHeartbeats 4000000
set_option maxRecDepth 100000
namespace Go.Proofs.YtbjcfkdnjaiclaaGreat
open Go.RowKit Go.Proofs.Tryz Go.World
open Go.Value (int slice bool pointer string agg tuple)
open Go.IntKind (i64)
open Go.Ending (returned)
section
attribute [local go_sem ↓] Go.wp_at_zero Go.wp_at_succ
theorem zAL (x:Int)(h1:-4611686018427387904<=x)(h2:x<=4611686018427387904):IntKind.i64.wrap x=x:=by
 simp[IntKind.wrap,IntKind.signed,IntKind.bits];omega
structure Sm.Fit (m:Sm):Prop where
 rows:∀i,i<m.next.length->(m.next.getD i []).length=256∧∀b,b<256->0<=(m.next.getD i []).getD b 0∧(m.next.getD i []).getD b 0<=200
 rules:∀i,i<m.rules.length->-1<=m.rules.getD i 0∧m.rules.getD i 0<=8
 start0:0<=m.start
 start:m.start<=200
theorem zF2 (w:World)(H p:Nat)(c:Tc)(kinds acts pushed starts ends:List Int)(next:List (List Int))(hG:Gt w H p c kinds acts pushed starts ends next)(m:Sm)(nv rv:Value)(S:Nat->Prop)(hN:IntRows w S nv m.next)(hR:Ints w S rv m.rules)(hS:∀k,S k->k<H∧k≠p)
  (rules:Nat) (hm:m.Fit) (hr8:rules<=8) (hk:kinds.length=256) (hnl:next.length+m.next.length<=200) (hel:ends.length+m.rules.length<=200) (hsl:starts.length<=3):
  Calls prog 64 #[pointer (some ⟨p,0,none⟩),agg #[nv,rv,int i64 m.start],int i64 rules] w fun e w'=>e=returned (tuple #[])∧∃c',Gt w' H p c' kinds acts pushed (starts++[(next.length:Int)+m.start]) (ends++m.rules.map (yH rules)) (next++m.next.map fun row=>zP kinds row next.length 256)∧Turn H p w c w' c':=by
 obtain⟨i0,hi0,hz0,hz1,hz2⟩:=info_parts yL;have HG:Hid (Gt w H p c kinds acts pushed starts ends next∧IntRows w S nv m.next∧Ints w S rv m.rules):=⟨hG,hN,hR⟩
 obtain⟨an,cn,rfl,hcn,hmn,_⟩:=hN;obtain⟨ar,cr,rfl,hcr,hmr,_⟩:=hR;have lp:=hG.tp.lt;have hHH:=hG.HH;obtain⟨rw0,hn1,_⟩:=hG.next
 obtain⟨ann,cnn,hnf⟩:=zG hn1;obtain⟨as_,cs,hsf⟩:=hG.starts.form;have y8:w.cell? ⟨p,8,none⟩=some (slice ann next.length cnn):=by rw[<-hnf];exact hG.tp.get_next
 have HSF:=vl hsf;have HKL:=vl hk;have hs0:=hm.start0;have hs1:=hm.start;have HM:Hid m.Fit:=hm;go_in;apply wp_cut;intro K0 J;go_wp2;apply J.out;apply wp_cut;intro K1 HK1;obtain⟨w1,hw1,A1⟩:∃w1,w1=w.alloc (.cells #[slice an m.next.length cn,slice ar m.rules.length cr,int i64 m.start] 127)∧Hid (w1.heap[w.heap.size]? =some (.cells #[slice an m.next.length cn,slice ar m.rules.length cr,int i64 m.start] 127)∧Gt w1 H p c kinds acts pushed starts ends next∧Grew w w1):=⟨_,rfl,gJ w _,HG.out.1.grown (kZ _ _ lQ),kZ _ _ lQ⟩
 have hs1z:w1.heap.size=w.heap.size+1:=by rw[hw1];simp
 have HSZ:=vl hs1z;have hszr:H<=w1.heap.size:=by omega
 have lp1:p<w1.heap.size:=by omega
 rw[<-hw1];have x8:=(gG (A1.out.2.2.block p lp (by omega))).trans y8;clear y8 hw1 hs1z;go_wp2;apply HK1.out;apply wp_cut;intro K2 HK2;have y3:w1.cell? ⟨p,3,none⟩=some (slice as_ starts.length cs):=by rw[<-HSF.out];exact A1.out.2.1.tp.get_starts
 have z3:=A1.out.2.1.tp.fz 3;have yb:w1.cell? ⟨w.heap.size,2,none⟩=some (int i64 m.start):=by simp[World.cell?,A1.out.1]
 have lb:w.heap.size<w1.heap.size:=by rw[HSZ.out];omega
 have OW:w1.ownsRow H 3 1 (slice as_ starts.length cs) starts.length (starts.map fun x=>int i64 x):=by have:=A1.out.2.1.starts;rw[HSF.out] at this;exact this
 have hn200:next.length<=200:=by omega
 have HNP:=vl <| vP A1.out.2.1.tp OW (by decide);go_wp2;go_region_law ((refine step_append_lies _ (by rfl) (.tmp 20) (.tmp 25) 45 (by rfl) H 3 i0 _ 1 8 underlying45 hi0 hz0 hz1 hz2 rfl (by decide) (slice as_ starts.length cs) starts.length (starts.map fun x=>int i64 x) (by simp[Act.eval,Act.put]) ((OW.alloc _).drew) ⟨w1.heap.size,0,none⟩ 1 1 [int i64 (IntKind.i64.wrap ((next.length:Int)+m.start))] (by simp[Act.eval,Act.put]) (by rfl) (news_of_block (cs:=#[int i64 (IntKind.i64.wrap ((next.length:Int)+m.start))]) (t:=3) (fr:=(0,0)) (gJ w1 _)) (by simp[Value.oneCell']) (by decide) (by unfold maxLen;omega) (by omega) (by simp;omega) (w1.heap.size+1) (by simp) ?_;intro gg cap w2 hown hgrow hat hlt;have y3b:=(gG (hgrow.block p (by simp;omega) HNP.out)).trans ((dX _ _ _ lp1).trans y3);have z3b:=(dQ (hgrow.block p (by simp;omega) HNP.out)).trans ((frozen?_alloc_past _ _ _ lp1).trans z3)))
 all_goals
  have HF:Hid (∃c',(Gt (w2.setCell ⟨p,3,none⟩ (slice (some ⟨gg,0,none⟩) (starts.length+1) cap)) H p c' kinds acts pushed (starts++[(next.length:Int)+m.start]) ends next∧Turn H p w1 c (w2.setCell ⟨p,3,none⟩ (slice (some ⟨gg,0,none⟩) (starts.length+1) cap)) c')):=by
   rw[zAL ((next.length:Int)+m.start) (by omega) (by omega)] at hown;have h:=Gt.starts_app A1.out.2.1 (w2:=w2) (g:=gg) (cap:=cap) (x:=(next.length:Int)+m.start) (OwnI.snoc hown) (fun k h1 h2=>(hgrow.block k (by simp;omega) (by rw[<-HSF.out];exact h2)).trans (lG _ _ _ h1)) (lY (by simp) hgrow.size) ⟨hgrow.os,hgrow.output⟩ (by
    rw[HSF.out];rcases hat with ha|ha
    ·exact .inl ha
    ·right;rw[ha];omega)
   exact⟨_,h⟩
  clear hown hgrow hat y3b z3b y3 z3 yb OW;go_wp2_with fail;apply HK2.out;obtain⟨c',hG2,hT2⟩:=HF.out;have hT0:Turn H p w c w1 c:=Turn.grown A1.out.2.2 hHH;have hTT:=hT0.trans hT2;have hrb:Rest w1 p c w.heap.size:=by
   refine⟨lb,fun e=>by omega,fun e=>?_,fun e=>?_,fun e=>?_⟩
   ·have:=(HG.out.1.starts.lt _ e.symm).2;omega
   ·obtain⟨_,hq,_⟩:=HG.out.1.next
    have:=(hq.lt _ e.symm).2;omega
   ·have:=(HG.out.1.ends.lt _ e.symm).2;omega
  exact zOL w _ H p w.heap.size c c' kinds acts pushed _ ends next hG2 _ _ _ S m.rules m.next (((hT2.rest _ hHH hrb).1).trans A1.out.1) ⟨hHH,(hT2.rest _ hHH hrb).2⟩ (HG.out.2.1.keep fun k hk=>hTT.keep.block k (hS k hk).1 (hS k hk).2) (HG.out.2.2.keep fun k hk=>hTT.keep.block k (hS k hk).1 (hS k hk).2) hS hTT rules next.length hr8 hel HM.out.rules (by omega) hnl HKL.out HM.out.rows
end
theorem zD5 (p:Nat)(w:World)(S:Nat->Prop)(t:Tb)(hT:TabAt w S p t)(ok:t.Ok)(a s:Nat)(ha:a<t.rows)(hs:s<t.nst):
  Calls prog 155 #[pointer (some ⟨p,0,none⟩),int i64 a,int i64 s] w fun e w'=>e=returned (bool (t.longer a s))∧w'=w:=by
 obtain⟨_,h8,b,o,cap,hb,rfl,hcap,hml,hN⟩:=hT.c8;obtain⟨_,h12,b3,o3,cap3,hb3,rfl,hcap3,hml3,hL⟩:=hT.c12;have hm:a*t.nst+s<8*t.nlong:=by
  have h1:(a+1)*t.nst<=t.rows*t.nst:=Nat.mul_le_mul_right _ ha;have h2:=ok.long;rw[Nat.add_mul] at h1;omega
 have hx:w.cell? ⟨b3,o3+(a*t.nst+s)/8,none⟩=some (int .u8 (t.long ((a*t.nst+s)/8):Nat)):=hL _ (by omega);have hxb:=ok.longB ((a*t.nst+s)/8) (by omega);have b1:=ok.rows;have b2:=ok.nst;have HF:Hid (t.longer a s=decide (t.long ((a*t.nst+s)/8)/2^((a*t.nst+s)%8)%2=1)):=rfl;have hp:a*t.nst<=600000:=lY (Nat.mul_le_mul (show a<=3000 by omega) b2) (by decide);generalize t.longer a s=res at *;generalize t.long ((a*t.nst+s)/8)=x at *;generalize t.nst=n at *;generalize t.nlong=nl at *;have p1:(a:Int)*(n:Int)<=600000:=by
  have e:(a:Int)*(n:Int)=((a*n:Nat):Int):=by simp
  rw[e];omega
 have p2:0<=(a:Int)*(n:Int):=by
  have e:(a:Int)*(n:Int)=((a*n:Nat):Int):=by simp
  rw[e];omega
 go_in;go_wp2;go_ret;exact⟨zKQ (by rw[HF.out];exact zK2 x _ hxb),rfl⟩
structure TabN (w:World)(S:Nat->Prop)(p:Nat)(t:Tb):Prop where
 safe:S p
 c7:w.cell? ⟨p,7,none⟩=some (int i64 t.count)
 c8:∃v,w.cell? ⟨p,8,none⟩=some v∧RowsAt w S v t.nst t.count fun i k=>t.next i k
 c9:∃v,w.cell? ⟨p,9,none⟩=some v∧IntsAt w S v t.nst fun i=>t.ends i
theorem TabN.keep {w w':World}{S:Nat->Prop}{p:Nat}{t:Tb}(h:TabN w S p t)(e:∀b,S b->w'.heap[b]? =w.heap[b]?):TabN w' S p t:=by
 have c:∀i,w'.cell? ⟨p,i,none⟩=w.cell? ⟨p,i,none⟩:=fun i=>gG (e p h.safe);refine⟨h.safe,(c _).trans h.c7,?_,?_⟩
 ·obtain⟨v,a,b⟩:=h.c8;exact⟨v,(c _).trans a,b.keep e⟩
 ·obtain⟨v,a,b⟩:=h.c9;exact⟨v,(c _).trans a,b.keep e⟩
theorem zCI (p:Nat)(w:World)(S:Nat->Prop)(t:Tb)(hT:TabN w S p t):
  Calls prog 118 #[pointer (some ⟨p,0,none⟩)] w fun e w'=>e=returned (int i64 t.count)∧w'=w:=by
 have h:=hT.c7;generalize t.count=m at *;go_in;go_wp2;go_ret;exact⟨rfl,rfl⟩
def Tb.willEnd (t:Tb)(s d:Nat)(rest:Nat->Bool):Bool:=if d=t.count then false else(t.ends (t.next s d) != -1)||rest (t.next s d)
theorem zFH (p:Nat)(w:World)(S:Nat->Prop)(t:Tb)(hT:TabN w S p t)(ok:t.OkN)(s d:Nat)(hs:s<t.nst)(hd:d<=t.count)(b o cap:Nat)(rest:Nat->Bool)(hr:∀i,i<t.nst->w.cell? ⟨b,o+i,none⟩=some (bool (rest i))):
  Calls prog 139 #[pointer (some ⟨p,0,none⟩),int i64 s,int i64 d,slice (some ⟨b,o,none⟩) t.nst cap] w fun e w'=>e=returned (bool (t.willEnd s d rest))∧w'=w:=by
 have HT:=vl hT;have HR:=vl hr;by_cases hdc:d=t.count
 ·have h1:((d:Int)==(t.count:Int))=true:=by simp[hdc]
  have HV:Hid (t.willEnd s d rest=false):=if_pos hdc;go_in;go_wp2_with fail;refine(zCI p w S t HT.out).mono ?_;rintro e w1 ⟨rfl,rfl⟩;go_wp2;go_ret;exact⟨qS HV.out.symm,rfl⟩
 ·have h1:((d:Int)==(t.count:Int))=false:=by rw[hJ];omega
  have hdl:d<t.count:=by omega
  have HV:Hid (t.willEnd s d rest=((t.ends (t.next s d) != -1)||rest (t.next s d))):=if_neg hdc;obtain⟨_,h8,b8,o8,cap8,hb8,rfl,hcap8,hml8,hN⟩:=hT.c8;obtain⟨u,hu,b2,o2,cap2,hb2,rfl,hcap2,hml2,hrow⟩:=hN s hs;obtain⟨_,h9,b9,o9,cap9,hb9,rfl,hcap9,hml9,hE⟩:=hT.c9;have hnx:=ok.next s d hs hdl
  have yn:w.cell? ⟨b2,o2+d,none⟩=some (int i64 (t.next s d:Nat)):=hrow d hdl;have ye:w.cell? ⟨b9,o9+t.next s d,none⟩=some (int i64 (t.ends (t.next s d))):=hE _ hnx;have yr:w.cell? ⟨b,o+t.next s d,none⟩=some (bool (rest (t.next s d))):=hr _ hnx;clear hN hrow hE hT hr ok hdc;generalize t.next s d=to at *
  generalize t.ends to=x at *;generalize rest to=rb at *;generalize t.nst=n at *;have i1:(s:Int)<(n:Int):=by omega
  have i2:(d:Int)<(t.count:Int):=by omega
  have i3:(to:Int)<(n:Int):=by omega
  cases hx:(x != -1) with
  |true=>
   rw[hx] at HV;go_enter func139,ntmps139
   go_wp2_with fail;refine(zCI p w S t HT.out).mono ?_;rintro e w1 ⟨rfl,rfl⟩;go_wp2_with fail;go_ret;exact⟨qS HV.out.symm,rfl⟩
  |false=>
   rw[hx] at HV;go_enter func139,ntmps139
   go_wp2_with fail;refine(zCI p w S t HT.out).mono ?_;rintro e w1 ⟨rfl,rfl⟩;go_wp2_with fail;go_ret;exact⟨qS HV.out.symm,rfl⟩
def OwnF (w:World)(H:Nat)(v:Value)(n:Nat)(f:Nat->Bool):Prop:=w.ownsRow H 4 1 v n ((List.range n).map fun i=>bool (f i))
theorem OwnF.nil (w:World)(H:Nat)(f:Nat->Bool):OwnF w H (slice none 0 0) 0 f:=ownsRow_nil _ _ _ _
theorem OwnF.snoc {w:World}{H g cap n:Nat}{f:Nat->Bool}{x:Bool}(h:w.ownsRow H 4 1 (slice (some ⟨g,0,none⟩) (n+1) cap) (n+1) ((List.range n).map (fun i=>bool (f i))++[bool x]))(hx:f n=x):OwnF w H (slice (some ⟨g,0,none⟩) (n+1) cap) (n+1) f:=by
 unfold OwnF;rw[jU,hx];exact h
theorem OwnF.form {w:World}{H n:Nat}{v:Value}{f:Nat->Bool}(h:OwnF w H v n f):∃ao cap,v=slice ao n cap:=zG h
def Tb.more (t:Tb)(k:Nat)(l:Nat->Bool)(x:Nat):Bool:=t.willEnd (x%t.nst) (x/(k*t.nst)) fun to=>l (x%(k*t.nst)/t.nst*t.nst+to)
theorem zJ8 (t:Tb)(k:Nat)(l:Nat->Bool)(d i s:Nat)(hi:i<k)(hs:s<t.nst):t.more k l (d*(k*t.nst)+i*t.nst+s)=t.willEnd s d fun to=>l (i*t.nst+to):=by
 have hn:0<t.nst:=by omega
 have h1:i*t.nst+s<k*t.nst:=by
  have:=Nat.mul_le_mul_right t.nst (show i+1<=k by omega);rw[Nat.add_mul] at this;omega
 have e1:(d*(k*t.nst)+i*t.nst+s)%t.nst=s:=by
  rw[Nat.add_assoc,Nat.mul_comm k,<-Nat.mul_assoc,Nat.mul_comm d,Nat.mul_assoc,Nat.mul_comm i,<-Nat.add_assoc,<-Nat.mul_add,Nat.mul_add_mod];exact Nat.mod_eq_of_lt hs
 have e2:(d*(k*t.nst)+i*t.nst+s)/(k*t.nst)=d:=by
  rw[Nat.add_assoc,Nat.mul_comm d,Nat.mul_add_div (by omega),Nat.div_eq_of_lt h1];omega
 have e3:(d*(k*t.nst)+i*t.nst+s)%(k*t.nst)=i*t.nst+s:=by
  rw[Nat.add_assoc,Nat.mul_comm d,Nat.mul_add_mod,Nat.mod_eq_of_lt h1]
 have e4:(i*t.nst+s)/t.nst=i:=by
  rw[Nat.mul_comm i,Nat.mul_add_div hn,Nat.div_eq_of_lt hs];omega
 unfold Tb.more;rw[e1,e2,e3,e4]
theorem zCR (p:Nat)(w:World)(S:Nat->Prop)(t:Tb)(hT:TabN w S p t)(hS:∀k,S k->k<w.heap.size)(ok:t.OkN)(hn1:1<=t.nst)(k:Nat)(hk1:1<=k)(l:Nat->Bool)(b o cap:Nat)(hSb:S b)(hl:∀i,i<k*t.nst->w.cell? ⟨b,o+i,none⟩=some (bool (l i)))(hcap:k*t.nst<=cap)(hcm:cap<=maxLen)(hbig:(t.count+1)*(k*t.nst)<=800000):
  Calls prog 102 #[pointer (some ⟨p,0,none⟩),slice (some ⟨b,o,none⟩) (k*t.nst) cap] w fun e w'=>∃u,e=returned u∧OwnF w' w.heap.size u ((t.count+1)*(k*t.nst)) (t.more k l)∧Grew w w':=by
 obtain⟨i0,hi0,hz0,hz1,hz2⟩:=info_parts qU;have HT:=vl hT;have HL:=vl hl;have hlp:=hS p hT.safe;have hlb:=hS b hSb;have x7:=hT.c7;obtain⟨_,x8,b8,o8,cap8,hb8,rfl,hcap8,hml8,_⟩:=hT.c8;have HAT:Hid (∀d i s,i<k->s<t.nst->t.more k l (d*(k*t.nst)+i*t.nst+s)=t.willEnd s d fun to=>l (i*t.nst+to)):=fun d i s=>zJ8 t k l d i s;have HKN:Hid (k*t.nst=k*t.nst):=rfl;have hcb:=ok.count;have hnb:=ok.nst;have OKN:Hid t.OkN:=ok;have hKpos:=Nat.mul_pos hk1 hn1;generalize hKK:k*t.nst=K at *;generalize hff:t.more k l=f at *;generalize hnn:t.nst=n at *;generalize hcc:t.count=cnt at *;have HKK:=vl hKK;have HNN:=vl hnn;have HCC:=vl hcc;have hKb:K<=800000:=by
  have:=Nat.mul_le_mul_right K (show 1<=cnt+1 by omega);omega
 go_in;go_wp2;go_loopg [5,6] (cnt+1) (fun q mo i wr=>∃d D:Nat,q=cnt+1-d∧d<=cnt+1∧i=int i64 (d:Int)∧D=d*K∧OwnF wr w.heap.size mo D f∧Grew w wr)
 case atStart=>exact⟨0,0,rfl,lX,rfl,(Nat.zero_mul _).symm,OwnF.nil _ _ _,Keep.refl _ _ _⟩
 case round=>
  obtain⟨d,D,hgk,hd,rfl,hD,ho,hkp⟩:=hrel;have HA:Hid (gk=cnt+1-d∧D=d*K∧OwnF wr w.heap.size u5 D f∧Grew w wr):=⟨hgk,hD,ho,hkp⟩
  have y7:=(gG (hkp.block p hlp (by omega))).trans x7;obtain⟨ao,cp,hv⟩:=ho.form;subst hv;by_cases hd2:d<=cnt
  ·have i1:(d:Int)<=(cnt:Int):=by omega
   have hDb:D+K<=(cnt+1)*K:=by
    have:=Nat.mul_le_mul_right K (show d+1<=cnt+1 by omega);rw[Nat.add_mul] at this;omega
   clear hgk hD ho hkp;go_wp2;go_loopg [5,7] k (fun q mo i wr=>∃ii fr:Nat,q=k-ii∧ii<=k∧i=int i64 (fr:Int)∧fr=ii*n∧OwnF wr w.heap.size mo (D+fr) f∧Grew w wr)
   case atStart=>exact⟨0,0,rfl,lX,rfl,(Nat.zero_mul _).symm,HA.out.2.2.1,HA.out.2.2.2⟩
   case round=>
    obtain⟨ii,fr,hgk,hii,rfl,hfr,ho,hkp⟩:=hrel;have HB:Hid (gk=k-ii∧fr=ii*n∧OwnF wr w.heap.size u5 (D+fr) f∧Grew w wr):=⟨hgk,hfr,ho,hkp⟩
    have y8:=(gG (hkp.block p hlp (by omega))).trans x8;obtain⟨ao,cp,hv⟩:=ho.form;subst hv;by_cases hi2:ii<k
    ·have hfK:fr+n<=K:=by
      have:=Nat.mul_le_mul_right n (show ii+1<=k by omega);rw[Nat.add_mul,HKK.out] at this;omega
     have i2:(fr:Int)<(K:Int):=by omega
     have i3:(fr:Int)+(n:Int)<=(K:Int):=by omega
     have i4:(K:Int)<=(cap:Int):=by omega
     clear hgk hfr ho hkp;go_wp2_with fail;rw[gX];clear y8;go_loopg [5,44] n (fun q mo i wr=>∃s:Nat,q=n-s∧s<=n∧i=int i64 (s:Int)∧OwnF wr w.heap.size mo (D+fr+s) f∧Grew w wr)
     case atStart=>exact⟨0,rfl,lX,rfl,HB.out.2.2.1,HB.out.2.2.2⟩
     case round=>
      obtain⟨s,hgk,hs,rfl,ho,hkp⟩:=hrel;have HE:Hid (gk=n-s∧Grew w wr):=⟨hgk,hkp⟩
      obtain⟨ao,cp,hv⟩:=ho.form;subst hv;have hszr:w.heap.size<=wr.heap.size:=hkp.size;have OR:Hid (wr.ownsRow w.heap.size 4 1 (slice ao (D+fr+s) cp) (D+fr+s) ((List.range (D+fr+s)).map fun i=>bool (f i))):=ho;by_cases hs2:s<n
      ·have i5:(s:Int)<(n:Int):=by omega
       have HC:Hid (Ca 139 #[pointer (some ⟨p,0,none⟩),int i64 s,int i64 d,slice (some ⟨b,o+fr,none⟩) n (cap-fr)] wr fun e w'=>e=returned (bool (t.willEnd s d fun to=>l (fr+to)))∧w'=wr):=by
        have hkb:∀x,x<w.heap.size->wr.heap[x]? =w.heap[x]? :=fun x hx=>hkp.block x hx (by omega);have h:=zFH p wr S t (HT.out.keep fun x hx=>hkb x (hS x hx)) OKN.out s d (by rw[HNN.out];exact hs2) (by rw[HCC.out];exact hd2) b (o+fr) (cap-fr) (fun to=>l (fr+to)) (by
         intro i hi;rw[HNN.out] at hi;rw[World.cell?_of_block (hkb b hlb),Nat.add_assoc];exact HL.out (fr+i) (by omega))
        rw[HNN.out] at h;exact h
       have HV:Hid (f (D+fr+s)=t.willEnd s d fun to=>l (fr+to)):=by
        have h:=HAT.out d ii s hi2 hs2;rw[<-HA.out.2.1,<-HB.out.2.1] at h;exact h
       clear hgk ho hkp;generalize (t.willEnd s d fun to=>l (fr+to))=x at *;go_wp2_with fail;refine HC.out.mono ?_;rintro e w1 ⟨rfl,rfl⟩;go_wp2_with (first|(at_builtin;refine wpList_append_lies _ rfl _ _ 28 rfl (w.heap.size) 4 i0 (bool false) 1 1 underlying28 hi0 hz0 hz1 hz2 rfl (by decide) _ _ _ rfl (OR.out.alloc _) ⟨w1.heap.size,0,none⟩ 1 1 [bool x] rfl rfl (cell_one_new _ _ _) (by intro u hu;simp at hu;subst hu;rfl) (by decide) (by unfold maxLen;omega) (by omega) (by simp;omega) _ rfl ?_;intro gg cap2 w2 hown hgrow hat hlt2;have hB:=xQ OR.out hgrow hszr))
       have O2:Hid (OwnF w2 w.heap.size (slice (some ⟨gg,0,none⟩) (D+fr+s+1) cap2) (D+fr+s+1) f∧Grew w w2):=⟨OwnF.snoc hown HV.out,HE.out.2.trans (xO hB)⟩
       clear hown hgrow hB;go_wp2_with fail;go_roundg (n-(s+1))
       case measure=>rw[HE.out.1];omega
       case rel=>exact⟨s+1,rfl,by omega,by go_num,O2.out.1,O2.out.2⟩
      ·have i5:(n:Int)<=(s:Int):=by omega
       have hsn:s=n:=by omega
       have HZ:Hid (OwnF wr w.heap.size (slice ao (D+fr+s) cp) (D+(fr+n)) f):=by
        have h:=ho;rw[hsn] at h ⊢;rw[Nat.add_assoc] at h;rw[Nat.add_assoc];exact h
       have HFR:Hid (fr+n=(ii+1)*n):=by show _=_;rw[HB.out.2.1,Nat.add_mul];omega
       have y8:wr.cell? ⟨p,8,none⟩=some (slice (some ⟨b8,o8,none⟩) n cap8):=(gG (hkp.block p hlp (by omega))).trans x8;clear hgk ho hkp hsn;go_wp2_with fail;go_roundg (k-(ii+1))
       case measure=>rw[HB.out.1];omega
       case rel=>exact⟨ii+1,fr+n,rfl,by omega,by go_num,HFR.out,HZ.out,HE.out.2⟩
    ·have hik:ii=k:=by omega
     have hfK:fr=K:=by rw[hfr,hik];exact HKK.out
     have i2:(K:Int)<=(fr:Int):=by omega
     have HZ:Hid (OwnF wr w.heap.size (slice ao (D+fr) cp) (D+K) f):=by
      have h:=ho;rw[hfK] at h ⊢;exact h
     have HD2:Hid (D+K=(d+1)*K):=by show _=_;rw[HA.out.2.1,Nat.add_mul];omega
     clear hgk hfr ho hkp hfK hik;go_wp2_with fail;go_roundg (cnt+1-(d+1))
     case measure=>rw[HA.out.1];omega
     case rel=>exact⟨d+1,D+K,rfl,by omega,by go_num,HD2.out,HZ.out,HB.out.2.2.2⟩
  ·have hdc:d=cnt+1:=by omega
   have i1:(cnt:Int)<(d:Int):=by omega
   have HZ:Hid (OwnF wr w.heap.size (slice ao D cp) ((cnt+1)*K) f):=by
    have h:=ho;rw[hD,hdc] at h ⊢;exact h
   clear hgk hD ho hkp hdc;go_wp2_with fail;go_ret;exact⟨_,rfl,HZ.out,HA.out.2.2.2⟩
theorem zO {H:Nat}(w:World)(g i:Nat)(x:Value)(hg:H<=g):Keep H H w (w.setCell ⟨g,i,none⟩ x):=⟨rfl,rfl,by simp[World.setCell],fun k h1 _=>lJ _ _ _ _ (by show k≠g;omega)⟩
theorem zAh (z:Value)(hz:z.cells=#[z])(n:Nat):(madeCells z.cells n).toList=(List.range n).map fun _=>z:=by
 rw[hz,toList_madeCells_one];exact(List.eq_replicate_iff.2 ⟨by simp,by intro b hb;obtain⟨_,_,h⟩:=List.mem_map.1 hb;exact h.symm⟩).symm
def xL (f:Nat->Bool):Nat->Nat->Nat
 |0,_=>0
 |i+1,j=>if f i=true∧j=i/8 then xL f i j+2^(i%8) else xL f i j
theorem zH4 (f:Nat->Bool)(i j:Nat)(h:i<=8*j):xL f i j=0:=by
 induction i with
 |zero=>rfl
 |succ i ih=>rw[xL,if_neg (by omega),ih (by omega)]
theorem zDx (f:Nat->Bool)(i j:Nat)(h1:8*j<=i)(h2:i<=8*j+8):xL f i j<2^(i-8*j):=by
 induction i with
 |zero=>simp[xL]
 |succ i ih=>
  by_cases e:8*j=i+1
  ·rw[zH4 f (i+1) j (by omega)]
   exact Nat.pow_pos (by decide)
  ·have h:=ih (by omega) (by omega)
   have e1:i%8=i-8*j:=by omega
   have e2:i+1-8*j=(i-8*j)+1:=by omega
   rw[xL,e2,Nat.pow_succ];split
   ·rw[e1];omega
   ·omega
theorem zD3 (f:Nat->Bool)(i j:Nat):xL f i j<256:=by
 induction i with
 |zero=>simp[xL]
 |succ i ih=>
  rw[xL];split
  ·rename_i h
   have h3:=zDx f i j (by omega) (by omega);have e1:i%8=i-8*j:=by omega
   rw[<-e1] at h3;have h4:2^(i%8)<=2^7:=kG (by decide) (by omega);omega
  ·exact ih
theorem zNa (f:Nat->Bool)(i:Nat):bits BinOp.or IntKind.u8 (xL f i (i/8):Nat) ((2^(i%8):Nat):Int)=((xL f i (i/8)+2^(i%8):Nat):Int):=by
 have h1:=zD3 f i (i/8);have h2:2^(i%8)<=2^7:=kG (by decide) (by omega);have h3:=zDx f i (i/8) (by omega) (by omega);have e1:i%8=i-8*(i/8):=by omega
 rw[<-e1] at h3;rw[u8_or_nat _ _ h1 (by omega),Nat.or_comm]
 congr 1
 rw[Nat.add_comm];have h:=Nat.two_pow_add_eq_or_of_lt h3 1;simpa using h.symm
theorem zL6 (f:Nat->Bool)(i:Nat):bits BinOp.or IntKind.u8 (xL f i (i/8):Nat) ((2:Int)^(i%8)%256)=((xL f i (i/8)+2^(i%8):Nat):Int):=by
 rw[<-zNa];have h2:2^(i%8)<=2^7:=kG (by decide) (by omega);have e:((2:Int)^(i%8)%256)=((2^(i%8):Nat):Int):=by
  have e1:((2^(i%8):Nat):Int)=(2:Int)^(i%8):=by simp
  rw[<-e1];generalize 2^(i%8)=z at *;omega
 rw[e]
theorem zGW (w:World)(b o cap n:Nat)(f:Nat->Bool)(hl:∀i,i<n->w.cell? ⟨b,o+i,none⟩=some (bool (f i)))(hb:b<w.heap.size)(hn1:1<=n)(hn:n<=800000):
  Calls prog 103 #[slice (some ⟨b,o,none⟩) n cap] w fun e w'=>∃u,e=returned u∧Row w' w.heap.size 5 u ((n+7)/8) (fun j=>int .u8 (xL f n j:Nat))∧Grew w w':=by
 obtain⟨i0,hi0,hz0,hz1,hz2⟩:=info_parts zOa;have HL:=vl hl;obtain⟨w1,hmk,ho1,hg1⟩:=run_makeSlice_full (P:=prog) w w.heap.size 68 5 i0 _ 1 underlying68 hi0 hz0 hz1 i64 i64 ((n+7)/8) (by omega) (by rw[hz2];omega) (by unfold maxLen;omega) lQ;have ecast:(((n+7)/8:Nat):Int)=((n:Int)+7)/8:=by omega
 rw[ecast] at hmk;have HO1:Hid (Row w1 w.heap.size 5 (slice (some ⟨w.heap.size,0,none⟩) ((n+7)/8) ((n+7)/8)) ((n+7)/8) (fun j=>int .u8 (xL f 0 j:Nat))∧Grew w w1):=by
  refine⟨?_,⟨hg1.os,hg1.output,hg1.size,fun k hk _=>hg1.block k hk (by simp)⟩⟩;have h:=ho1;rw[Nat.mul_one,zAh _ rfl] at h;exact h
 go_in;go_wp2;go_loopg [13] n (fun q i wr=>∃j:Nat,q=n-j∧j<=n∧i=int i64 (j:Int)∧Row wr w.heap.size 5 (slice (some ⟨w.heap.size,0,none⟩) ((n+7)/8) ((n+7)/8)) ((n+7)/8) (fun k=>int .u8 (xL f j k:Nat))∧Grew w wr)
 case atStart=>exact⟨0,rfl,lX,rfl,HO1.out.1,HO1.out.2⟩
 case round=>
  obtain⟨j,hgk,hj,rfl,ho,hkp⟩:=hrel;have HA:Hid (gk=n-j∧Row wr w.heap.size 5 (slice (some ⟨w.heap.size,0,none⟩) ((n+7)/8) ((n+7)/8)) ((n+7)/8) (fun k=>int .u8 (xL f j k:Nat))∧Grew w wr):=⟨hgk,ho,hkp⟩
  by_cases hj2:j<n
  ·have i1:(j:Int)<(n:Int):=by omega
   have yl:=(gG (hkp.block b hb (by omega))).trans (HL.out j hj2);obtain⟨g,cp,hv,g1,g2,g3,g4,g5,g6⟩:=ho.get (by omega);have eg:g=w.heap.size:=by injection hv with e1 _ _;injection e1 with e1;injection e1 with e1;exact e1.symm
   subst eg;have yb:=g5 (j/8) (by omega);have zb:=g6 (j/8);have HOB:=vl <| zL6 f j;have HN:Hid (∀k,xL f (j+1) k=if f j=true∧k=j/8 then xL f j k+2^(j%8) else xL f j k):=fun k=>rfl;cases hf:f j with
   |true=>
    rw[hf] at yl;have HX:Hid (∀k,xL f (j+1) k=if k=j/8 then xL f j k+2^(j%8) else xL f j k):=by
     intro k;rw[HN.out k,hf];simp
    have i2:(j:Int)/8<((n:Int)+7)/8:=by omega
    have i3:(0:Int)<=(j:Int)/8:=by omega
    go_wp2;go_region;go_wp2;go_roundg (n-(j+1))
    case measure=>rw[HA.out.1];omega
    case rel=>
     refine⟨j+1,rfl,by omega,by go_num,?_,HA.out.2.2.trans (Keep.trans (zO _ _ _ _ lQ) (Keep.drew _))⟩;have h:=HA.out.2.1.set (j/8) (int .u8 (bits BinOp.or IntKind.u8 (xL f j (j/8):Nat) ((2:Int)^(j%8)%256)));refine Row.congr (w:=(wr.setCell ⟨w.heap.size,j/8,none⟩ (int .u8 (bits BinOp.or IntKind.u8 (xL f j (j/8):Nat) ((2:Int)^(j%8)%256)))).drew) h fun k _=>?_;rw[HX.out k,HOB.out];by_cases e:k=j/8
     ·subst e;simp
     ·simp[e]
   |false=>
    rw[hf] at yl;have HX:Hid (∀k,xL f (j+1) k=xL f j k):=by
     intro k;rw[HN.out k,hf];simp
    go_wp2;go_roundg (n-(j+1))
    case measure=>rw[HA.out.1];omega
    case rel=>exact⟨j+1,rfl,by omega,by go_num,HA.out.2.1.congr fun k _=>by rw[HX.out k],HA.out.2.2⟩
  ·have hjn:j=n:=by omega
   have i1:(n:Int)<=(j:Int):=by omega
   have HZ:Hid (Row wr w.heap.size 5 (slice (some ⟨w.heap.size,0,none⟩) ((n+7)/8) ((n+7)/8)) ((n+7)/8) (fun k=>int .u8 (xL f n k:Nat))):=by rw[<-hjn];rw[hjn] at ho ⊢;exact ho
   go_wp2;go_ret;exact⟨_,rfl,HZ.out,HA.out.2.2⟩
theorem zLQ (ki k:Nat):1<=zF ki k:=by
 induction k with
 |zero=>exact lQ
 |succ k ih=>
  rw[zF];split
  ·exact Nat.mul_le_mul ih (by omega:1<=ki+1)
  ·exact ih
section
variable {w:World} {H b:Nat} {e:TypeId} {v:Value} {n:Nat}
def Mem.blocks (w:World)(H b:Nat)(k:Nat):Prop:=k=b∨(H<=k∧k<w.heap.size)
theorem Row.intsAt {f:Nat->Int}(h:Row w H e v n fun i=>int i64 (f i))(hn:0<n):IntsAt w (Mem.blocks w H b) v n f:=by
 obtain⟨g,cap,hv,h1,h2,h3,h4,h5,_⟩:=h.get hn;exact⟨g,0,cap,.inr ⟨h1,h2⟩,hv,h3,h4,fun i hi=>by rw[Nat.zero_add];exact h5 i hi⟩
theorem Row.boolsAt {f:Nat->Bool}(h:Row w H e v n fun i=>bool (f i))(hn:0<n):BoolsAt w (Mem.blocks w H b) v n f:=by
 obtain⟨g,cap,hv,h1,h2,h3,h4,h5,_⟩:=h.get hn;exact⟨g,0,cap,.inr ⟨h1,h2⟩,hv,h3,h4,fun i hi=>by rw[Nat.zero_add];exact h5 i hi⟩
theorem Row.bytesAt {f:Nat->Nat}(h:Row w H e v n fun i=>int .u8 (f i:Nat))(hn:0<n):BytesAt w (Mem.blocks w H b) v n f:=by
 obtain⟨g,cap,hv,h1,h2,h3,h4,h5,_⟩:=h.get hn;exact⟨g,0,cap,.inr ⟨h1,h2⟩,hv,h3,h4,fun i hi=>by rw[Nat.zero_add];exact h5 i hi⟩
theorem Mem.tabAt {c:Tc}{t:Tb}(h:Mem w H b c t)(h1:1<=t.nmode)(h2:1<=t.nrule)(h3:1<=t.nst)(h4:1<=t.count)(h5:1<=t.nlong):TabAt w (Mem.blocks w H b) b t:=by
 have hb:=h.tp;obtain⟨rv,n1,n2⟩:=h.next
 have c8:RowsAt w (Mem.blocks w H b) c.next t.nst t.count fun i k=>t.next i k:=by
  obtain⟨g,cap,hv,g1,g2,g3,g4,g5,_⟩:=n1.get h3;exact⟨g,0,cap,.inr ⟨g1,g2⟩,hv,g3,g4,fun i hi=>⟨rv i,by rw[Nat.zero_add];exact g5 i hi,(n2 i hi).intsAt h4⟩⟩
 refine⟨.inl rfl,?_,?_,?_,⟨_,?_,h.starts.intsAt h1⟩,⟨_,?_,h.acts.intsAt h2⟩,⟨_,?_,h.pushed.intsAt h2⟩,⟨_,?_,h.kinds.intsAt (by decide)⟩,?_,⟨_,?_,c8⟩,⟨_,?_,h.ends.intsAt h3⟩,⟨_,?_,h.live.boolsAt h3⟩,?_,⟨_,?_,h.longer.bytesAt h5⟩⟩
 ·rw[hb.get_stream,h.stream]
 ·rw[hb.get_ahead,h.ahead]
 ·rw[hb.get_hold,h.hold]
 ·unfold xA at hb;simp[World.cell?,hb]
 ·unfold xA at hb;simp[World.cell?,hb]
 ·unfold xA at hb;simp[World.cell?,hb]
 ·unfold xA at hb;simp[World.cell?,hb]
 ·unfold xA at hb;simp[World.cell?,hb,h.count]
 ·unfold xA at hb;simp[World.cell?,hb]
 ·unfold xA at hb;simp[World.cell?,hb]
 ·unfold xA at hb;simp[World.cell?,hb]
 ·unfold xA at hb;simp[World.cell?,hb,h.rows]
 ·unfold xA at hb;simp[World.cell?,hb]
structure Tb.Fine (t:Tb):Prop where
 ok:t.Ok
 nst:1<=t.nst
 count:1<=t.count
 long1:1<=t.nlong
 long2:t.nlong<=75000
 rule1:1<=t.nrule
 rule2:t.nrule<=8
 mode2:t.nmode<=3
 act:∀i,i<t.nrule->t.act i<4
structure LexAt (w:World)(S:Nat->Prop)(x p:Nat)(t:Tb):Prop where
 cell:w.cell? ⟨x,0,none⟩=some (pointer (some ⟨p,0,none⟩))
 lt:x<w.heap.size
 tab:TabAt w S p t
 safe:∀k,S k->k<w.heap.size
theorem LexAt.keep {w w':World}{S:Nat->Prop}{x p:Nat}{t:Tb}(h:LexAt w S x p t)(e:∀k,k<w.heap.size->w'.heap[k]? =w.heap[k]?)(hs:w.heap.size<=w'.heap.size):LexAt w' S x p t:=
 ⟨(gG (e x h.lt)).trans h.cell,lZ h.lt hs,h.tab.keep fun k hk=>e k (h.safe k hk),fun k hk=>lZ (h.safe k hk) hs⟩
theorem LexAt.grown {w w':World}{S:Nat->Prop}{x p:Nat}{t:Tb}(h:LexAt w S x p t)(e:Grew w w'):LexAt w' S x p t:=h.keep (fun k hk=>e.block k hk (by omega)) e.size
end
section
variable {w:World} {H p:Nat} {c:Tc} {t:Tb} (h:Mem w H p c t) (a:Nat)
theorem zBF (kinds:Nat):zF kinds 0=1:=rfl
theorem zEF (kinds k m:Nat)(hkm:k<=m)(h:zF kinds m<=3000):zF kinds k<=3000:=by
 by_cases e:3000<zF kinds k
 ·rw[zDT kinds k m e hkm] at h
  omega
 ·omega
theorem zKw (kinds k:Nat)(h:zF kinds k<=3000):zF kinds (k+1)=zF kinds k*(kinds+1):=by
 rw[zF];split
 ·rfl
 ·omega
def Tb.aheadF (t:Tb):Nat->Nat->Bool
 |0=>fun _=>false
 |i+1=>t.more (zF t.count i) (t.aheadF i)
theorem Mem.tabN {H b:Nat}{c:Tc}{t:Tb}(h:Mem w H b c t)(h3:1<=t.nst)(h4:1<=t.count):TabN w (Mem.blocks w H b) b t:=by
 have hb:=h.tp;obtain⟨rv,n1,n2⟩:=h.next
 have c8:RowsAt w (Mem.blocks w H b) c.next t.nst t.count fun i k=>t.next i k:=by
  obtain⟨g,cap,hv,g1,g2,g3,g4,g5,_⟩:=n1.get h3;exact⟨g,0,cap,.inr ⟨g1,g2⟩,hv,g3,g4,fun i hi=>⟨rv i,by rw[Nat.zero_add];exact g5 i hi,(n2 i hi).intsAt h4⟩⟩
 refine⟨.inl rfl,?_,⟨_,?_,c8⟩,⟨_,?_,h.ends.intsAt h3⟩⟩
 ·unfold xA at hb;simp[World.cell?,hb,h.count]
 ·unfold xA at hb;simp[World.cell?,hb]
 ·unfold xA at hb;simp[World.cell?,hb]
theorem Row.put {H p i:Nat}{c:Tc}{x:Value}{e:TypeId}{v:Value}{n:Nat}{f:Nat->Value}(h:Row w H e v n f)(hp:xA w p c)(he:e≠90:=by decide):Row (w.setCell ⟨p,i,none⟩ x) H e v n f:=h.blk fun g _ _ hg=>lJ _ _ _ _ (zGM hp h he hg)
theorem Mem.putAhead (h:Mem w H p c t)(a:Nat):Mem (w.setCell ⟨p,1,none⟩ (int i64 a)) H p {c with ahead:=int i64 a} {t with ahead:=a}:=by
 obtain⟨rv,n1,n2⟩:=h.next
 have hp:=h.tp;exact⟨h.tp.set_ahead _,h.stream,rfl,h.hold,h.count,h.rows,h.starts.put hp,h.acts.put hp,h.pushed.put hp,h.kinds.put hp,⟨rv,n1.put hp,fun i hi=>(n2 i hi).put hp⟩,h.ends.put hp,h.live.put hp,h.longer.put hp,by simp[World.setCell];exact h.HH⟩
theorem Mem.putRows (h:Mem w H p c t)(a:Nat):Mem (w.setCell ⟨p,11,none⟩ (int i64 a)) H p {c with rows:=int i64 a} {t with rows:=a}:=by
 obtain⟨rv,n1,n2⟩:=h.next
 have hp:=h.tp;exact⟨h.tp.set_rows _,h.stream,h.ahead,h.hold,h.count,rfl,h.starts.put hp,h.acts.put hp,h.pushed.put hp,h.kinds.put hp,⟨rv,n1.put hp,fun i hi=>(n2 i hi).put hp⟩,h.ends.put hp,h.live.put hp,h.longer.put hp,by simp[World.setCell];exact h.HH⟩
theorem Mem.putLonger (h:Mem w H p c t)(v:Value)(n:Nat)(f:Nat->Nat)(hv:Row w H 5 v n fun i=>int .u8 (f i:Nat)):Mem (w.setCell ⟨p,12,none⟩ v) H p {c with longer:=v} {t with nlong:=n,long:=f}:=by
 obtain⟨rv,n1,n2⟩:=h.next
 have hp:=h.tp;exact⟨h.tp.set_longer _,h.stream,h.ahead,h.hold,h.count,h.rows,h.starts.put hp,h.acts.put hp,h.pushed.put hp,h.kinds.put hp,⟨rv,n1.put hp,fun i hi=>(n2 i hi).put hp⟩,h.ends.put hp,h.live.put hp,hv.put hp,by simp[World.setCell];exact h.HH⟩
theorem Mem.putStream (h:Mem w H p c t)(a:Bool):Mem (w.setCell ⟨p,0,none⟩ (bool a)) H p {c with stream:=bool a} {t with stream:=a}:=by
 obtain⟨rv,n1,n2⟩:=h.next
 have hp:=h.tp;exact⟨h.tp.set_stream _,rfl,h.ahead,h.hold,h.count,h.rows,h.starts.put hp,h.acts.put hp,h.pushed.put hp,h.kinds.put hp,⟨rv,n1.put hp,fun i hi=>(n2 i hi).put hp⟩,h.ends.put hp,h.live.put hp,h.longer.put hp,by simp[World.setCell];exact h.HH⟩
theorem Mem.grown {w w':World}{H b:Nat}{c:Tc}{t:Tb}(h:Mem w H b c t)(hk:Grew w w'):Mem w' H b c t:=by
 have h1:=h.HH;have h2:=h.tp.lt;exact h.keep (hk.block b (by omega) (by omega)) (fun k _ h4=>hk.block k h4 (by omega)) hk.size
theorem TabN.mono {S S':Nat->Prop}{p:Nat}{t:Tb}(h:TabN w S p t)(e:∀b,S b->S' b):TabN w S' p t:=by
 have hi:∀{v n f},IntsAt w S v n f->IntsAt w S' v n f:=fun⟨b,o,cap,hb,r⟩=>⟨b,o,cap,e b hb,r⟩
 refine⟨e p h.safe,h.c7,?_,?_⟩
 ·obtain⟨v,a,b,o,cap,hb,e1,e2,e3,e4⟩:=h.c8
  exact⟨v,a,b,o,cap,e b hb,e1,e2,e3,fun i hi'=>(e4 i hi').imp fun u hu=>⟨hu.1,hi hu.2⟩⟩
 ·obtain⟨v,a,b⟩:=h.c9;exact⟨v,a,hi b⟩
def Tb.looking (t:Tb)(a:Nat):Tb:={t with ahead:=a,rows:=zF t.count a,nlong:=(zF t.count a*t.nst+7)/8,long:=xL (t.aheadF a) (zF t.count a*t.nst)}
theorem zBJ (w:World)(H p:Nat)(c:Tc)(t:Tb)(hM:Mem w H p c t)(ok:t.OkN)(hn1:1<=t.nst)(hc1:1<=t.count)(a:Nat)(ha:a<=255)(hw:zF t.count a<=3000):
  Calls prog 66 #[pointer (some ⟨p,0,none⟩),int i64 a] w fun e w'=>e=returned (tuple #[])∧∃c',Mem w' H p c' (t.looking a)∧Keep w.heap.size p w w':=by
 obtain⟨i0,hi0,hz0,hz1,hz2⟩:=info_parts qU;have HM:=vl hM;have hpH:=hM.tp.lt;have hHH:=hM.HH;have y1:=hM.tp.get_ahead;have z1:=hM.tp.fz 1;have y7:w.cell? ⟨p,7,none⟩=some (int i64 (t.count:Nat)):=by rw[<-hM.count];exact hM.tp.get_count
 have hcb:=ok.count;have hnb:=ok.nst;rw[HM.out.ahead] at y1;go_in;apply wp_cut;intro K0 J;go_wp2;apply J.out;obtain⟨w1,hw1,M1⟩:∃w1,w1=w.setCell ⟨p,1,none⟩ (int i64 (a:Nat))∧Hid (Mem w1 H p {c with ahead:=int i64 a} {t with ahead:=a}∧Keep w.heap.size p w w1):=⟨_,rfl,HM.out.putAhead a,Keep.set _ _ _⟩
 rw[<-hw1];clear hw1 y1 z1 y7;apply wp_cut;intro K1 HK1;have y7:w1.cell? ⟨p,7,none⟩=some (int i64 (t.count:Nat)):=by have h:=M1.out.1.tp.get_count;rw[M1.out.1.count] at h;exact h
 have y11:w1.cell? ⟨p,11,none⟩=some (int i64 (t.rows:Nat)):=by have h:=M1.out.1.tp.get_rows;rw[M1.out.1.rows] at h;exact h
 have z11:=M1.out.1.tp.fz 11;go_wp2_with fail;refine(zEU t.count a _ hcb ha).mono ?_;rintro e w1' ⟨rfl,rfl⟩;go_wp2;apply HK1.out;obtain⟨w2,hw2,M2⟩:∃w2,w2=w1'.setCell ⟨p,11,none⟩ (int i64 (zF t.count a:Nat))∧Hid (Mem w2 H p {c with ahead:=int i64 a,rows:=int i64 (zF t.count a:Nat)} {t with ahead:=a,rows:=zF t.count a}∧Keep w.heap.size p w w2):=⟨_,rfl,M1.out.1.putRows _,M1.out.2.trans (Keep.set _ _ _)⟩
 rw[<-hw2];clear hw2 y7 y11 z11 M1;refine wp_seq_k ?_;intro K2 hK2;have HK2:Hid (∀a w,_->K2 a w):=hK2;clear hK2;obtain⟨rv,hnx,_⟩:=M2.out.1.next
 obtain⟨g8,c8,hv8,_⟩:=hnx.get hn1;have y8:w2.cell? ⟨p,8,none⟩=some (slice (some ⟨g8,0,none⟩) t.nst c8):=by rw[<-show c.next=_ from hv8];exact M2.out.1.tp.get_next
 have hsz2:H<=w2.heap.size:=M2.out.1.HH;obtain⟨w3,hmk,ho3,hg3⟩:=run_makeSlice_full (P:=prog) w2 w2.heap.size 28 4 i0 _ 1 underlying28 hi0 hz0 hz1 i64 i64 t.nst (by omega) (by rw[hz2];omega) (by unfold maxLen;omega) lQ;have HO3:Hid (OwnF w3 w2.heap.size (slice (some ⟨w2.heap.size,0,none⟩) t.nst t.nst) (zF t.count 0*t.nst) (t.aheadF 0)∧Grew w2 w3):=by
  refine⟨?_,⟨hg3.os,hg3.output,hg3.size,fun k hk _=>hg3.block k hk (by simp)⟩⟩;have h:=ho3;rw[Nat.mul_one,zAh _ rfl] at h;rw[zBF,Nat.one_mul];exact h
 clear hnx hv8 ho3 hg3;go_wp2_with fail;apply HK2.out;clear HK2 hmk y8;refine wp_seq_k ?_;intro K3 hK3;have HK3:Hid (∀a w,_->K3 a w):=hK3;clear hK3;have OKN:Hid t.OkN:=ok;have HW:Hid (zF t.count a<=3000):=hw;clear ok hw;go_wp2_with fail;go_loopg [4,5] a (fun q lst i wr=>∃j:Nat,q=a-j∧j<=a∧i=int i64 (j:Int)∧OwnF wr w2.heap.size lst (zF t.count j*t.nst) (t.aheadF j)∧Grew w2 wr)
 case atStart=>exact⟨0,rfl,lX,rfl,HO3.out.1,HO3.out.2⟩
 case round=>
  obtain⟨j,hgk,hj,rfl,ho,hkp⟩:=hrel;have HA:Hid (gk=a-j∧OwnF wr w2.heap.size u4 (zF t.count j*t.nst) (t.aheadF j)∧Grew w2 wr):=⟨hgk,ho,hkp⟩
  have hwj:=zEF t.count j a hj HW.out;have hwp:=zLQ t.count j;have hNp:1<=zF t.count j*t.nst:=Nat.mul_pos hwp hn1;have hNb:zF t.count j*t.nst<=600000:=lY (Nat.mul_le_mul hwj hnb) (by decide);have hTN:TabN wr (fun k=>k<wr.heap.size) p t:=by
   have h:=(M2.out.1.grown hkp).tabN hn1 hc1;have hs:=hkp.size;refine TabN.mono (S:=Mem.blocks wr H p) ⟨h.safe,h.c7,h.c8,h.c9⟩ fun k hk=>?_;rcases hk with hk|hk
   ·rw[hk];exact(M2.out.1.grown hkp).tp.lt
   ·exact hk.2
  obtain⟨g,cp,hv,g1,g2,g3,g4,g5,g6⟩:=Row.get ho hNp;subst hv;by_cases hj2:j<a
  ·have i1:(j:Int)<(a:Int):=by omega
   have hsucc:=zKw t.count j hwj;have hwj1:=zEF t.count (j+1) a hj2 HW.out;have hmul:(t.count+1)*(zF t.count j*t.nst)=zF t.count (j+1)*t.nst:=by
    rw[hsucc,<-Nat.mul_assoc,Nat.mul_comm (t.count+1)]
   have hbig:(t.count+1)*(zF t.count j*t.nst)<=800000:=by
    rw[hmul];exact lY (Nat.mul_le_mul hwj1 hnb) (by decide)
   have HC:=zCR p wr (fun k=>k<wr.heap.size) t hTN (fun k h=>h) OKN.out hn1 (zF t.count j) hwp (t.aheadF j) g 0 cp g2 (fun i hi=>by rw[Nat.zero_add];exact g5 i hi) g3 g4 hbig;rw[hmul] at HC;have HC2:Hid (Ca 102 #[pointer (some ⟨p,0,none⟩),slice (some ⟨g,0,none⟩) (zF t.count j*t.nst) cp] wr fun e w'=>∃u,e=returned u∧OwnF w' wr.heap.size u (zF t.count (j+1)*t.nst) (t.aheadF (j+1))∧Grew wr w'):=HC;clear HC hgk ho hkp g5 g6 hTN hsucc hmul hbig;generalize hNN:zF t.count j*t.nst=N at *;clear hNN;go_wp2_with fail;refine HC2.out.mono ?_;rintro e w4 ⟨u,rfl,ho4,hk4⟩;have O4:Hid (OwnF w4 w2.heap.size u (zF t.count (j+1)*t.nst) (t.aheadF (j+1))∧Grew w2 w4):=⟨vF ho4 HA.out.2.2.size,HA.out.2.2.trans (hk4.lower HA.out.2.2.size HA.out.2.2.size)⟩
   clear ho4 hk4;go_wp2_with fail;go_roundg (a-(j+1))
   case measure=>rw[HA.out.1];omega
   case rel=>exact⟨j+1,rfl,by omega,by go_num,O4.out.1,O4.out.2⟩
  ·have hja:j=a:=by omega
   have i1:(a:Int)<=(j:Int):=by omega
   have HP:Hid (Ca 103 #[slice (some ⟨g,0,none⟩) (zF t.count j*t.nst) cp] wr fun e w'=>∃u,e=returned u∧Row w' wr.heap.size 5 u ((zF t.count a*t.nst+7)/8) (fun k=>int .u8 (xL (t.aheadF a) (zF t.count a*t.nst) k:Nat))∧Grew wr w'):=by
    have h:=zGW wr g 0 cp (zF t.count j*t.nst) (t.aheadF j) (fun i hi=>by rw[Nat.zero_add];exact g5 i hi) g2 hNp (by omega);rw[hja] at h ⊢;exact h
   have MR:Hid (Mem wr H p {c with ahead:=int i64 a,rows:=int i64 (zF t.count a:Nat)} {t with ahead:=a,rows:=zF t.count a}∧Keep w.heap.size p w wr):=⟨M2.out.1.grown hkp,M2.out.2.trans (hkp.lower M2.out.2.size M2.out.2.size)⟩
   clear hgk ho hkp g5 g6 hTN;generalize zF t.count j*t.nst=N at *;go_wp2_with fail;apply HK3.out;clear HK3;have y12:=MR.out.1.tp.get_longer;have z12:=MR.out.1.tp.fz 12;go_wp2_with fail;refine HP.out.mono ?_;rintro e w5 ⟨u,rfl,hr5,hk5⟩;obtain⟨au,cu,hu⟩:=zG hr5;have M5:Hid (Mem w5 H p {c with ahead:=int i64 a,rows:=int i64 (zF t.count a:Nat)} {t with ahead:=a,rows:=zF t.count a}∧Keep w.heap.size p w w5∧Row w5 H 5 u ((zF t.count a*t.nst+7)/8) (fun k=>int .u8 (xL (t.aheadF a) (zF t.count a*t.nst) k:Nat))):=⟨MR.out.1.grown hk5,MR.out.2.trans (hk5.lower MR.out.2.size MR.out.2.size),hr5.mono MR.out.1.HH⟩
   have y12':w5.cell? ⟨p,12,none⟩=some c.longer:=M5.out.1.tp.get_longer;have z12':=M5.out.1.tp.fz 12;subst hu;clear hr5 hk5 y12 z12;go_wp2_with fail;go_end0;exact⟨rfl,_,M5.out.1.putLonger _ _ _ M5.out.2.2,M5.out.2.1.trans (Keep.set _ _ _)⟩
end
section
variable (ms:List Sm) (b n i:Nat)
structure Laid where
 starts:List Int
 ends:List Int
 next:List (List Int)
 rules:Nat
def zQ (kinds:List Int)(ms:List Sm):Nat->Laid
 |0=>⟨[],[],[],0⟩
 |j+1=>⟨(zQ kinds ms j).starts++[((zQ kinds ms j).next.length:Int)+(ms.getD j ⟨[],[],0,[]⟩).start],(zQ kinds ms j).ends++(ms.getD j ⟨[],[],0,[]⟩).rules.map (yH (zQ kinds ms j).rules),(zQ kinds ms j).next++(ms.getD j ⟨[],[],0,[]⟩).next.map (fun row=>zP kinds row (zQ kinds ms j).next.length 256),(zQ kinds ms j).rules+(ms.getD j ⟨[],[],0,[]⟩).empty.length⟩
def zE (ms:List Sm):Nat->Nat
 |0=>0
 |j+1=>zE ms j+(ms.getD j ⟨[],[],0,[]⟩).next.length
def zT (ms:List Sm):Nat->Nat
 |0=>0
 |j+1=>zT ms j+(ms.getD j ⟨[],[],0,[]⟩).empty.length
theorem yZ (i j:Nat)(h:i<=j):zE ms i<=zE ms j:=by
 induction j with
 |zero=>rw[show i=0 by omega];exact lQ
 |succ j ih=>
  by_cases e:i=j+1
  ·rw[e];exact lQ
  ·have:=ih (by omega)
   rw[zE];omega
theorem zBk (i j:Nat)(h:i<=j):zT ms i<=zT ms j:=by
 induction j with
 |zero=>rw[show i=0 by omega];exact lQ
 |succ j ih=>
  by_cases e:i=j+1
  ·rw[e];exact lQ
  ·have:=ih (by omega)
   rw[zT];omega
structure ModesOk (ms:List Sm):Prop where
 one:1<=ms.length
 three:ms.length<=3
 states1:∀i (hi:i<ms.length),1<=ms[i].next.length
 wide:∀i (hi:i<ms.length),∀row∈ms[i].next,row.length=256∧∀b,b<256->0<=row.getD b 0∧row.getD b 0<ms[i].next.length
 rules:∀i (hi:i<ms.length),ms[i].rules.length=ms[i].next.length∧∀r∈ms[i].rules,-1<=r∧r<ms[i].empty.length
 start:∀i (hi:i<ms.length),0<=ms[i].start∧ms[i].start<ms[i].next.length
 states:zE ms ms.length<=200
 rules1:1<=zT ms ms.length
 rules8:zT ms ms.length<=8
theorem jX (kinds:List Int)(ms:List Sm)(h:ModesOk ms)(j:Nat)(hj:j<=ms.length):(zQ kinds ms j).starts.length=j∧(zQ kinds ms j).next.length=zE ms j∧(zQ kinds ms j).ends.length=zE ms j∧(zQ kinds ms j).rules=zT ms j:=by
 induction j with
 |zero=>exact⟨rfl,rfl,rfl,rfl⟩
 |succ j ih=>
  obtain⟨a,b,c,d⟩:=ih (by omega);have hj2:j<ms.length:=by omega
  have e:ms.getD j ⟨[],[],0,[]⟩=ms[j]:=by rw[lW,lV hj2];rfl
  rw[zQ,zE,zT,e];refine⟨by simp[a],by simp[b],?_,by simp[d]⟩;simp[c,(h.rules j hj2).1]
theorem zFU (hb:b<=n)(hi:i<b):(zB ms n).1.getD i 0=(zB ms b).1.getD i 0:=by
 induction n with
 |zero=>omega
 |succ n ih=>
  by_cases e:b=n+1
  ·rw[e]
  ·rw[<-ih (by omega)]
   have hl:=(qG ms n).1;rw[zB];split <;> (rw [lW,kW (by omega),<-lW])
theorem zDF (hi:i<b):0<=(zB ms b).1.getD i 0∧(zB ms b).1.getD i 0<(zB ms b).2:=by
 induction b generalizing i with
 |zero=>omega
 |succ b ih=>
  have hl:=(qG ms b).1;have hf:=zGq ms b;rw[zB];split
  ·rename_i hlt
   by_cases e:i=b
   ·subst e
    rw[lW,gQ (by omega),hl];simp only[Nat.sub_self,List.getElem?_cons_zero,Option.getD_some];exact ih _ hlt
   ·rw[lW,kW (by omega),<-lW]
    exact ih i (by omega)
  ·by_cases e:i=b
   ·subst e
    rw[lW,gQ (by omega),hl];simp only[Nat.sub_self,List.getElem?_cons_zero,Option.getD_some];omega
   ·rw[lW,kW (by omega),<-lW]
    have:=ih i (by omega);show _∧_<(((zB ms b).2+1:Nat):Int);omega
theorem zGk (hb:b<n):((zB ms n).1.getD b 0=((zB ms b).2:Int)↔¬qN ms b<b)∧(zB ms (b+1)).2=if qN ms b<b then(zB ms b).2 else(zB ms b).2+1:=by
 rw[zFU ms (b+1) n b hb (by omega)];have hl:=(qG ms b).1;rw[zB];split
 ·rename_i hlt
  refine⟨?_,rfl⟩;rw[lW,gQ (by omega),hl];simp only[Nat.sub_self,List.getElem?_cons_zero,Option.getD_some];have:=zDF ms b (qN ms b) hlt
  constructor
  ·intro e;omega
  ·intro e;exact absurd hlt e
 ·rename_i hlt
  refine⟨?_,rfl⟩;rw[lW,gQ (by omega),hl];simp only[Nat.sub_self,List.getElem?_cons_zero,Option.getD_some];exact⟨fun _=>hlt,fun _=>trivial⟩
theorem zCx (row:List Int)(first:Int)(n b:Nat)(hb:b<=n):(zP (zB ms n).1 row first b).length=(zB ms b).2:=by
 induction b with
 |zero=>rfl
 |succ b ih=>
  obtain⟨h1,h2⟩:=zGk ms b n (by omega);have ih:=ih (by omega);rw[zP,h2];by_cases hlt:qN ms b<b
  ·rw[if_neg (by rw[ih];intro e;exact(h1.1 e) hlt),if_pos hlt,ih]
  ·rw[if_pos (by rw[ih];exact h1.2 hlt),if_neg hlt,kX,ih]
   rfl
theorem zIw (kinds row:List Int)(first:Int)(P:Int->Prop)(b:Nat)(h:∀i,i<b->P (first+row.getD i 0)):∀x∈zP kinds row first b,P x:=by
 induction b with
 |zero=>intro x hx;simp[zP] at hx
 |succ b ih=>
  intro x hx;rw[zP] at hx;split at hx
  ·rcases kU.1 hx with hx|hx
   ·exact ih (fun i hi=>h i (by omega)) x hx
   ·rw[kY.1 hx];exact h b (by omega)
  ·exact ih (fun i hi=>h i (by omega)) x hx
theorem zCF (hb:1<=b):1<=(zB ms b).2:=by
 induction b with
 |zero=>omega
 |succ b ih=>
  rw[(zGk ms b (b+1) (by omega)).2];by_cases e:b=0
  ·subst e;simp
  ·have:=ih (by omega)
   split <;> omega
theorem zBR (h:ModesOk ms)(j:Nat)(hj:j<=ms.length):
  (∀x∈(zQ (zB ms 256).1 ms j).starts,0<=x∧x<zE ms j)∧
  (∀x∈(zQ (zB ms 256).1 ms j).ends,-1<=x∧x<zT ms j)∧
  (∀r∈(zQ (zB ms 256).1 ms j).next,r.length=(zB ms 256).2∧∀x∈r,0<=x∧x<zE ms j):=by
 induction j with
 |zero=>exact⟨fun x hx=>by simp[zQ] at hx,fun x hx=>by simp[zQ] at hx,fun x hx=>by simp[zQ] at hx⟩
 |succ j ih=>
  obtain⟨a,b,c⟩:=ih (by omega);obtain⟨s1,s2,s3,s4⟩:=jX (zB ms 256).1 ms h j (by omega);have hj2:j<ms.length:=by omega
  have e:ms.getD j ⟨[],[],0,[]⟩=ms[j]:=by rw[lW,lV hj2];rfl
  have hs:=h.start j hj2;rw[zQ,zE,zT,e];refine⟨fun x hx=>?_,fun x hx=>?_,fun r hr=>?_⟩
  ·rcases kU.1 hx with hx|hx
   ·have:=a x hx;omega
   ·rw[kY.1 hx,s2];omega
  ·rcases kU.1 hx with hx|hx
   ·have:=b x hx;omega
   ·obtain⟨y,hy,rfl⟩:=List.mem_map.1 hx
    have:=(h.rules j hj2).2 y hy;unfold yH;rw[s4];split <;> omega
  ·rcases kU.1 hr with hr|hr
   ·refine⟨(c r hr).1,fun x hx=>?_⟩
    have:=(c r hr).2 x hx;omega
   ·obtain⟨row,hrow,rfl⟩:=List.mem_map.1 hr
    obtain⟨w1,w2⟩:=h.wide j hj2 row hrow;refine⟨zCx ms row _ 256 256 lQ,zIw _ _ _ _ 256 fun i hi=>?_⟩;have:=w2 i hi;rw[s2];omega
def zV (ms:List Sm)(acts pushed:List Int)(hold:Nat):Tb where
 stream:=false
 ahead:=0
 hold:=hold
 count:=(zB ms 256).2
 rows:=0
 nst:=zE ms ms.length
 nmode:=ms.length
 nrule:=acts.length
 nlong:=0
 start:=fun i=>((zQ (zB ms 256).1 ms ms.length).starts.getD i 0).toNat
 act:=fun i=>(acts.getD i 0).toNat
 push:=fun i=>(pushed.getD i 0).toNat
 kind:=fun b=>((zB ms 256).1.getD b 0).toNat
 next:=fun s k=>(((zQ (zB ms 256).1 ms ms.length).next.getD s []).getD k 0).toNat
 ends:=fun s=>(zQ (zB ms 256).1 ms ms.length).ends.getD s 0
 live:=fun _=>false
 long:=fun _=>0
theorem zS {α:Type}(l:List α)(i:Nat)(d:α)(h:i<l.length):l.getD i d∈l:=by
 rw[lW,lV h];exact List.getElem_mem h
theorem zCA (acts pushed:List Int)(hold:Nat)(h:ModesOk ms)(ha:acts.length=zT ms ms.length):(zV ms acts pushed hold).OkN:=by
 obtain⟨s1,s2,s3,s4⟩:=jX (zB ms 256).1 ms h ms.length lQ;obtain⟨b1,b2,b3⟩:=zBR ms h ms.length lQ;refine⟨(qG ms 256).2,h.states,fun s k hs hk=>?_,fun s hs=>?_⟩
 ·have hs':s<zE ms ms.length:=hs
  have hk':k<(zB ms 256).2:=hk;have hr:=b3 _ (zS _ s [] (by omega));have hx:=hr.2 _ (zS _ k 0 (by omega));show(((zQ (zB ms 256).1 ms ms.length).next.getD s []).getD k 0).toNat<zE ms ms.length;omega
 ·have hs':s<zE ms ms.length:=hs
  have hx:=b2 _ (zS _ s 0 (by omega));show -1<=(zQ (zB ms 256).1 ms ms.length).ends.getD s 0∧(zQ (zB ms 256).1 ms ms.length).ends.getD s 0<(acts.length:Int);rw[ha];exact hx
end
section
variable (w0 w:World) (S:Nat->Prop) (p:Nat) (c:Tc) (ms:List Sm) (acts pushed:List Int) (hold:Nat) (mv:Value) (hM:ModesAt w0 S mv ms)
theorem OwnI.row {w:World}{H:Nat}{v:Value}{l:List Int}(h:OwnI w H v l)(n:Nat)(hn:l.length=n)(f:Nat->Int)(hf:∀i,i<n->l.getD i 0=f i):Row w H 3 v n fun i=>int i64 (f i):=by
 unfold Row;subst hn;have e:(List.range l.length).map (fun i=>Value.int i64 (f i))=l.map fun x=>int i64 x:=by
  apply List.ext_getElem?;intro i;rw[gU,gU];by_cases hi:i<l.length
  ·rw[List.getElem?_range hi,lV hi]
   simp only[Option.map_some];rw[<-hf i hi,lW,lV hi];rfl
  ·rw[List.getElem?_eq_none (by simpa using hi),List.getElem?_eq_none (by omega)]
   rfl
 rw[e];exact h
theorem Gt.memB {w:World}{H p:Nat}{c:Tc}{ms:List Sm}{acts pushed:List Int}{hold:Nat}(h:Gt w H p c (zB ms 256).1 acts pushed (zQ (zB ms 256).1 ms ms.length).starts (zQ (zB ms 256).1 ms ms.length).ends (zQ (zB ms 256).1 ms ms.length).next)(hok:ModesOk ms)
  (ha:∀i,i<acts.length->0<=acts.getD i 0) (hpl:pushed.length=acts.length) (hp:∀i,i<pushed.length->0<=pushed.getD i 0)
  (c0:c.stream=bool false) (c1:c.ahead=int i64 (0:Nat)) (c2:c.hold=int i64 (hold:Nat)) (c7:c.count=int i64 ((zB ms 256).2:Nat)) (c11:c.rows=int i64 (0:Nat)) (c12:c.longer=slice none 0 0):MemB w H p c (zV ms acts pushed hold):=by
 obtain⟨s1,s2,s3,s4⟩:=jX (zB ms 256).1 ms hok ms.length lQ;obtain⟨b1,b2,b3⟩:=zBR ms hok ms.length lQ;obtain⟨rv,n1,n2⟩:=h.next
 refine⟨h.tp,c0,c1,c2,c7,c11,h.starts.row _ s1 _ fun i hi=>?_,h.acts.1.row _ rfl _ fun i hi=>?_,h.pushed.1.row _ hpl _ fun i hi=>?_,h.kinds.1.row _ (qG ms 256).1 _ fun i hi=>?_,⟨rv,?_,fun i hi=>(n2 i (by rw[s2];exact hi)).1.row _ ?_ _ fun k hk=>?_⟩,h.ends.row _ s3 _ fun i hi=>rfl,?_,h.HH⟩
 ·have:=b1 _ (zS _ i 0 (by omega))
  show _=(((zQ (zB ms 256).1 ms ms.length).starts.getD i 0).toNat:Int);omega
 ·have:=ha i hi
  show _=((acts.getD i 0).toNat:Int);omega
 ·have hi':i<acts.length:=hi
  have:=hp i (by omega);show _=((pushed.getD i 0).toNat:Int);omega
 ·have:=zDF ms 256 i hi
  show _=(((zB ms 256).1.getD i 0).toNat:Int);omega
 ·have h:=n1
  rw[s2] at h;exact h
 ·exact(b3 _ (zS _ i [] (by rw[s2];exact hi))).1
 ·have hi':i<zE ms ms.length:=hi
  have hr:=b3 _ (zS _ i [] (by omega));have hk':k<(zB ms 256).2:=hk;have hx:=hr.2 _ (zS _ k 0 (by omega));show _=((((zQ (zB ms 256).1 ms ms.length).next.getD i []).getD k 0).toNat:Int);omega
 ·rw[c12]
  exact ownsRow_nil _ _ _ _
def vB (ms:List Sm)(acts pushed:List Int)(hold n:Nat):Tb:=(((zV ms acts pushed hold).first.itr n)).looking 0
theorem ModesOk.fit {ms:List Sm}(h:ModesOk ms)(i:Nat)(hi:i<ms.length):ms[i].Fit∧ms[i].next.length<=200:=by
 have h1:=yZ ms (i+1) ms.length hi;have h2:=h.states;have e:ms.getD i ⟨[],[],0,[]⟩=ms[i]:=by rw[lW,lV hi];rfl
 rw[zE,e] at h1;have h3:=zBk ms (i+1) ms.length hi;have h4:=h.rules8;rw[zT,e] at h3;have h5:=h.start i hi;refine⟨⟨fun j hj=>?_,fun j hj=>?_,h5.1,by omega⟩,by omega⟩
 ·obtain⟨w1,w2⟩:=h.wide i hi _ (zS ms[i].next j [] hj)
  exact⟨w1,fun b hb=>by have:=w2 b hb;omega⟩
 ·have:=(h.rules i hi).2 _ (zS ms[i].rules j 0 hj)
  omega
def Made (w w':World)(e:Ending)(ms:List Sm)(acts pushed:List Int)(hold:Nat):Prop:=
 ∃p H c n,e=returned (pointer (some ⟨p,0,none⟩))∧w.heap.size<=p∧w.heap.size<=H∧Mem w' H p c (vB ms acts pushed hold n)∧(((zV ms acts pushed hold).first.itr n).spreadTo (zE ms ms.length)).2=false∧Grew w w'
theorem zOE (hG:Gt w w0.heap.size p c (zB ms 256).1 acts pushed (zQ (zB ms 256).1 ms ms.length).starts (zQ (zB ms 256).1 ms ms.length).ends (zQ (zB ms 256).1 ms ms.length).next)(hok:ModesOk ms)(hp0:w0.heap.size<=p)
  (hal:acts.length=zT ms ms.length) (ha:∀i,i<acts.length->0<=acts.getD i 0) (hpl:pushed.length=acts.length) (hp:∀i,i<pushed.length->0<=pushed.getD i 0)
  (c0:c.stream=bool false) (c1:c.ahead=int i64 (0:Nat)) (c2:c.hold=int i64 (hold:Nat)) (c7:c.count=int i64 ((zB ms 256).2:Nat)) (c10:c.live=slice none 0 0) (c11:c.rows=int i64 (0:Nat)) (c12:c.longer=slice none 0 0) (hK:Keep w0.heap.size p w0 w)
  {u0 u1 u2 u3 u4 u5 u6 u7 u8 u9 u10 u12 u13 u14 u15 u16 u17 u18 u19 u20 u21 u22 u23 u24 u25 u26 u27 u28 u29 u30 u31 u32 u33 u34 u35 u36 u37 u38 u39 u40 u41 u42 u43 u44 u45 u46 u47 u48 u49 u50 u51 u52 u53 u54 u55 u56 u57 u58 u59 u60 u61 u62 u63 u64:Value}:
  Code.wp prog (yS 7 ((f45.body).getD .skip)) (bodyPost prog f45 fun e w'=>Made w0 w' e ms acts pushed hold)
   ⟨(u0::u1::u2::u3::u4::u5::u6::u7::u8::u9::u10::pointer (some ⟨p,0,none⟩)::u12::u13::u14::u15::u16::u17::u18::u19::u20::u21::u22::u23::u24::u25::u26::u27::u28::u29::u30::u31::u32::u33::u34::u35::u36::u37::u38::u39::u40::u41::u42::u43::u44::u45::u46::u47::u48::u49::u50::u51::u52::u53::u54::u55::u56::u57::u58::u59::u60::u61::u62::u63::u64::[]).toArray,[]⟩ w:=by
 conv=>arg 2;whnf
 have hokN:=zCA ms acts pushed hold hok hal;have hn1:1<=(zV ms acts pushed hold).nst:=by
  have h1:=yZ ms 1 ms.length hok.one;have h2:=hok.states1 0 hok.one;have e:ms.getD 0 ⟨[],[],0,[]⟩=ms[0]'hok.one:=by rw[lW,lV hok.one];rfl
  have h3:zE ms 1=0+(ms.getD 0 ⟨[],[],0,[]⟩).next.length:=rfl
  rw[e] at h3;show 1<=zE ms ms.length;omega
 have hc1:1<=(zV ms acts pushed hold).count:=zCF ms 256 (by decide);have HF:Hid (Ca 65 #[pointer (some ⟨p,0,none⟩)] w fun e w'=>e=returned (tuple #[])∧∃v n,Mem w' w0.heap.size p {c with live:=v} ((zV ms acts pushed hold).first.itr n)∧(((zV ms acts pushed hold).first.itr n).spreadTo (zV ms acts pushed hold).nst).2=false∧Keep w0.heap.size p w w'):=
  zFo w w0.heap.size p c (zV ms acts pushed hold) (hG.memB hok ha hpl hp c0 c1 c2 c7 c11 c12) c10 hokN hn1 hc1
 have HKP:Hid (Keep w0.heap.size p w0 w):=hK;have HOK:Hid ((zV ms acts pushed hold).OkN):=hokN;clear hG hok hal ha hpl hp c0 c1 c2 c7 c10 c11 c12 hK hokN;go_wp2_with fail;refine HF.out.mono ?_;rintro e w1 ⟨rfl,v,n,hM1,hsp,hk1⟩;have A1:Hid (Mem w1 w0.heap.size p {c with live:=v} ((zV ms acts pushed hold).first.itr n)∧(((zV ms acts pushed hold).first.itr n).spreadTo (zV ms acts pushed hold).nst).2=false∧Keep w0.heap.size p w0 w1):=⟨hM1,hsp,HKP.out.trans hk1⟩
 clear hM1 hsp hk1 HF;have HS:Hid (Ca 66 #[pointer (some ⟨p,0,none⟩),int i64 (0:Nat)] w1 fun e w'=>e=returned (tuple #[])∧∃c',Mem w' w0.heap.size p c' (((zV ms acts pushed hold).first.itr n).looking 0)∧Keep w0.heap.size p w1 w'):=
  (zBJ w1 w0.heap.size p _ _ A1.out.1 (zJs (t:=(zV ms acts pushed hold).first) (HOK.out.withLive _) n) (by rw[zG6];exact hn1) (by rw[zA5];exact hc1) 0 (by decide) (by rw[zBF];decide)).mono (by
   rintro e w' ⟨h1,c',h2,h3⟩;exact⟨h1,c',h2,⟨h3.os,h3.output,h3.size,fun k k1 k2=>h3.block k (lZ k1 A1.out.1.HH) k2⟩⟩)
 go_wp2_with fail;refine HS.out.mono ?_;rintro e w2 ⟨rfl,c',hM2,hk2⟩;have A2:Hid (Mem w2 w0.heap.size p c' (((zV ms acts pushed hold).first.itr n).looking 0)∧Keep w0.heap.size p w0 w2):=⟨hM2,A1.out.2.2.trans hk2⟩
 clear hM2 hk2 HS;go_wp2_with fail;go_ret;exact⟨p,w0.heap.size,c',n,rfl,hp0,lQ,A2.out.1,A1.out.2.1,A2.out.2.lower lQ hp0⟩
theorem zOF (hM:ModesAt w0 S mv ms)(hS:∀k,S k->k<w0.heap.size)(hG:Gt w w0.heap.size p c (zB ms 256).1 acts pushed [] [] [])(hok:ModesOk ms)(hp0:w0.heap.size<=p)
  (hal:acts.length=zT ms ms.length) (ha:∀i,i<acts.length->0<=acts.getD i 0) (hpl:pushed.length=acts.length) (hp:∀i,i<pushed.length->0<=pushed.getD i 0)
  (c0:c.stream=bool false) (c1:c.ahead=int i64 (0:Nat)) (c2:c.hold=int i64 (hold:Nat)) (c7:c.count=int i64 ((zB ms 256).2:Nat)) (c10:c.live=slice none 0 0) (c11:c.rows=int i64 (0:Nat)) (c12:c.longer=slice none 0 0) (hK:Keep w0.heap.size p w0 w)
  {u1 u2 u3 u4 u5 u6 u7 u8 u9 u10 u12 u13 u14 u15 u16 u17 u18 u19 u20 u21 u22 u23 u24 u25 u26 u27 u28 u29 u30 u31 u32 u33 u34 u35 u36 u37 u38 u39 u40 u41 u42 u43 u44 u45 u46 u47 u48 u49 u50 u51 u52 u53 u54 u55 u56 u57 u58 u59 u60 u61 u62 u63 u64:Value}:
  Code.wp prog (yS 5 ((f45.body).getD .skip)) (bodyPost prog f45 fun e w'=>Made w0 w' e ms acts pushed hold)
   ⟨(mv::u1::u2::u3::u4::u5::u6::u7::u8::u9::u10::pointer (some ⟨p,0,none⟩)::u12::u13::u14::u15::u16::u17::u18::u19::u20::u21::u22::u23::u24::u25::u26::u27::u28::u29::u30::u31::u32::u33::u34::u35::u36::u37::u38::u39::u40::u41::u42::u43::u44::u45::u46::u47::u48::u49::u50::u51::u52::u53::u54::u55::u56::u57::u58::u59::u60::u61::u62::u63::u64::[]).toArray,[]⟩ w:=by
 conv=>arg 2;whnf
 obtain⟨ma,mc,rfl,hmc,hmm,hcell⟩:=hM;have HC:Hid (∀i (hi:i<ms.length),∃b o u0 u1 u3,ma=some ⟨b,o,none⟩∧S b∧w0.cell? ⟨b,o+i*4,none⟩=some u0∧w0.cell? ⟨b,o+i*4+1,none⟩=some u1∧w0.cell? ⟨b,o+i*4+2,none⟩=some (int i64 ms[i].start)∧w0.cell? ⟨b,o+i*4+3,none⟩=some u3∧IntRows w0 S u0 ms[i].next∧Ints w0 S u1 ms[i].rules∧Bools w0 S u3 ms[i].empty):=hcell;have HG:Hid (Gt w w0.heap.size p c (zB ms 256).1 acts pushed [] [] []∧Keep w0.heap.size p w0 w):=⟨hG,hK⟩
 have HL:Hid (∀(c':Tc) (w':World),Gt w' w0.heap.size p c' (zB ms 256).1 acts pushed (zQ (zB ms 256).1 ms ms.length).starts (zQ (zB ms 256).1 ms ms.length).ends (zQ (zB ms 256).1 ms ms.length).next->Keep w0.heap.size p w0 w'->c'={c with starts:=c'.starts,next:=c'.next,ends:=c'.ends}->∀{u0 u1 u2 u3 u4 u5 u6 u7 u8 u9 u10 u12 u13 u14 u15 u16 u17 u18 u19 u20 u21 u22 u23 u24 u25 u26 u27 u28 u29 u30 u31 u32 u33 u34 u35 u36 u37 u38 u39 u40 u41 u42 u43 u44 u45 u46 u47 u48 u49 u50 u51 u52 u53 u54 u55 u56 u57 u58 u59 u60 u61 u62 u63 u64:Value},Code.wp prog (yS 7 ((f45.body).getD .skip)) (bodyPost prog f45 fun e w'=>Made w0 w' e ms acts pushed hold) ⟨(u0::u1::u2::u3::u4::u5::u6::u7::u8::u9::u10::pointer (some ⟨p,0,none⟩)::u12::u13::u14::u15::u16::u17::u18::u19::u20::u21::u22::u23::u24::u25::u26::u27::u28::u29::u30::u31::u32::u33::u34::u35::u36::u37::u38::u39::u40::u41::u42::u43::u44::u45::u46::u47::u48::u49::u50::u51::u52::u53::u54::u55::u56::u57::u58::u59::u60::u61::u62::u63::u64::[]).toArray,[]⟩ w'):=by
  intro c' w' hg hk hc;intros
  exact zOE w0 w' p c' ms acts pushed hold hg hok hp0 hal ha hpl hp (by rw[hc];exact c0) (by rw[hc];exact c1) (by rw[hc];exact c2) (by rw[hc];exact c7) (by rw[hc];exact c10) (by rw[hc];exact c11) (by rw[hc];exact c12) hk
 have HOK:Hid (ModesOk ms):=hok;have h3:=hok.three;clear hcell hG hK hok hal ha hpl hp c0 c1 c2 c7 c10 c11 c12;refine wp_seq_k ?_;intro K0 hK0;have J:Hid (∀a w,_->K0 a w):=hK0;clear hK0;go_wp2_with fail;apply J.out;clear J;refine wp_seq_k ?_;intro K1 hK1;have HK1:Hid (∀a w,_->K1 a w):=hK1;clear hK1;go_wp2_with fail;go_loopg [12,45] ms.length (fun q ru i wr=>∃(j:Nat) (cj:Tc),q=ms.length-j∧j<=ms.length∧i=int i64 (j:Int)∧ru=int i64 ((zT ms j:Nat):Int)∧Gt wr w0.heap.size p cj (zB ms 256).1 acts pushed (zQ (zB ms 256).1 ms j).starts (zQ (zB ms 256).1 ms j).ends (zQ (zB ms 256).1 ms j).next∧Turn w0.heap.size p w c wr cj)
 case atStart=>exact⟨0,c,rfl,lX,rfl,rfl,HG.out.1,Turn.refl _ _ _ _⟩
 case round=>
  obtain⟨j,cj,hgk,hj,rfl,rfl,hGj,hTj⟩:=hrel;have HA:Hid (gk=ms.length-j∧Gt wr w0.heap.size p cj (zB ms 256).1 acts pushed (zQ (zB ms 256).1 ms j).starts (zQ (zB ms 256).1 ms j).ends (zQ (zB ms 256).1 ms j).next∧Turn w0.heap.size p w c wr cj):=⟨hgk,hGj,hTj⟩
  have hru8:zT ms j<=8:=lY (zBk ms j ms.length hj) HOK.out.rules8;by_cases hj2:j<ms.length
  ·have i1:(j:Int)<(ms.length:Int):=by omega
   obtain⟨bb,o,v0,v1,v3,rfl,hSb,d0,d1,d2,d3,e0,e1,e3⟩:=HC.out j hj2;have kb:∀x,S x->wr.heap[x]? =w0.heap[x]? :=fun x hx=>by
    have:=hS x hx;exact(hTj.keep.block x this (by omega)).trans (HG.out.2.block x this (by omega))
   have kk:∀i,wr.cell? ⟨bb,i,none⟩=w0.cell? ⟨bb,i,none⟩:=fun i=>gG (kb bb hSb);have z0:wr.cell? ⟨bb,o+j*4,none⟩=some v0:=(kk _).trans d0;have z1:wr.cell? ⟨bb,o+j*4+1,none⟩=some v1:=(kk _).trans d1;have z2:wr.cell? ⟨bb,o+j*4+2,none⟩=some (int i64 ms[j].start):=(kk _).trans d2;have z3:wr.cell? ⟨bb,o+j*4+3,none⟩=some v3:=(kk _).trans d3;obtain⟨s1,s2,s3,s4⟩:=jX (zB ms 256).1 ms HOK.out j hj;have hst:=yZ ms (j+1) ms.length hj2;have hs200:=HOK.out.states;have eg:ms.getD j ⟨[],[],0,[]⟩=ms[j]:=by rw[lW,lV hj2];rfl
   have hst2:zE ms j+ms[j].next.length<=200:=by
    rw[zE,eg] at hst;omega
   have hrl:=(HOK.out.rules j hj2).1;have hel8:zT ms j+ms[j].empty.length<=8:=by
    have h1:=zBk ms (j+1) ms.length hj2;have h2:=HOK.out.rules8;rw[zT,eg] at h1;omega
   have HADD:Hid (∀wz,Grew wr wz->Ca 64 #[pointer (some ⟨p,0,none⟩),agg #[v0,v1,int i64 ms[j].start],int i64 ((zT ms j:Nat):Int)] wz fun e w'=>e=returned (tuple #[])∧∃c',Gt w' w0.heap.size p c' (zB ms 256).1 acts pushed (zQ (zB ms 256).1 ms (j+1)).starts (zQ (zB ms 256).1 ms (j+1)).ends (zQ (zB ms 256).1 ms (j+1)).next∧Turn w0.heap.size p wr cj w' c'∧∀k,wr.heap.size<=k->k<wz.heap.size->w'.heap[k]? =wz.heap[k]?):=by
    intro wz hkz;have hkb:∀x,S x->wz.heap[x]? =w0.heap[x]? :=fun x hx=>(hkz.block x (lZ (hS x hx) hGj.HH) (by have:=hS x hx;have:=hGj.HH;omega)).trans (kb x hx);have h:=zF2 wz w0.heap.size p cj (zB ms 256).1 acts pushed _ _ _ (hGj.grown hkz) ms[j] v0 v1 S (e0.keep hkb) (e1.keep hkb) (fun k hk=>⟨hS k hk,by have:=hS k hk;omega⟩) (zT ms j) (HOK.out.fit j hj2).1 hru8 (qG ms 256).1 (by rw[s2];exact hst2) (by rw[s3,hrl];exact hst2) (by rw[s1];omega);refine h.mono ?_;rintro e w' ⟨he,c',hg',ht'⟩;refine⟨he,c',?_,(Turn.grown hkz hGj.HH).trans ht',fun k h1 h2=>(ht'.rest k (lY hGj.HH h1) ⟨h2,fun e=>by have:=hGj.tp.lt;omega,fun e=>by have:=(hGj.starts.lt k e.symm).2;omega,fun e=>?_,fun e=>by have:=(hGj.ends.lt k e.symm).2;omega⟩).1⟩
    ·rw[zQ,eg,s4]
     exact hg'
    ·obtain⟨_,hq,_⟩:=hGj.next
     have:=(hq.lt k e.symm).2;omega
   have HRT:Hid (zT ms (j+1)=zT ms j+ms[j].empty.length):=by show _=_;rw[zT,eg]
   have hszr:w0.heap.size<=wr.heap.size:=hGj.HH;obtain⟨a0,q0,ee0,_⟩:=e0;obtain⟨a1,q1,ee1,_⟩:=e1;obtain⟨a3,q3,ee3,_⟩:=e3;subst ee0 ee1 ee3;clear hgk hGj hTj kb kk d0 d1 d2 d3 s1 s2 s3 s4 hst hs200 eg hrl;generalize ms[j].next.length=ln at *
   generalize ms[j].rules.length=lr at *;generalize ms[j].empty.length=le at *;generalize ms[j].start=st at *;generalize zT ms j=rj at *;go_wp2_with fail;refine(HADD.out _ (kZ _ _ lQ)).mono ?_;rintro e w2 ⟨rfl,c',hg2,ht2,hfr⟩;have yb:w2.cell? ⟨wr.heap.size,3,none⟩=some (slice a3 le q3):=by
    rw[World.cell?_of_block (hfr wr.heap.size lQ (by simp))];unfold cell?;rw[gJ wr _];rfl
   have A2:Hid (Gt w2 w0.heap.size p c' (zB ms 256).1 acts pushed (zQ (zB ms 256).1 ms (j+1)).starts (zQ (zB ms 256).1 ms (j+1)).ends (zQ (zB ms 256).1 ms (j+1)).next∧Turn w0.heap.size p w c w2 c'):=⟨hg2,HA.out.2.2.trans ht2⟩
   clear hg2 ht2 hfr HADD z0 z1 z2 z3;go_wp2_with fail;go_roundg (ms.length-(j+1))
   case measure=>rw[HA.out.1];omega
   case rel=>exact⟨j+1,c',rfl,by omega,by go_num,by rw[HRT.out];go_num,A2.out.1,A2.out.2⟩
  ·have hje:j=ms.length:=by omega
   have i1:(ms.length:Int)<=(j:Int):=by omega
   have HZ:Hid (Gt wr w0.heap.size p cj (zB ms 256).1 acts pushed (zQ (zB ms 256).1 ms ms.length).starts (zQ (zB ms 256).1 ms ms.length).ends (zQ (zB ms 256).1 ms ms.length).next∧Keep w0.heap.size p w0 wr∧cj={c with starts:=cj.starts,next:=cj.next,ends:=cj.ends}):=by
    rw[<-hje];refine⟨?_,HG.out.2.trans hTj.keep,hTj.same⟩;rw[hje] at hGj ⊢;exact hGj
   clear hgk hGj hTj hje;go_wp2_with fail;apply HK1.out;exact HL.out cj wr HZ.out.1 HZ.out.2.1 HZ.out.2.2
theorem zJk (mv av pv:Value)(ms:List Sm)(acts pushed:List Int)(hold:Nat)(hM:ModesAt w S mv ms)(hA:Ints w S av acts)(hP:Ints w S pv pushed)(hS:∀k,S k->k<w.heap.size)(hok:ModesOk ms)(hal:acts.length=zT ms ms.length)(hpl:pushed.length=acts.length)(ha:∀i,i<acts.length->0<=acts.getD i 0)(hp:∀i,i<pushed.length->0<=pushed.getD i 0):
  Calls prog 45 #[mv,av,pv,int i64 hold] w fun e w'=>Made w w' e ms acts pushed hold:=by
 have HM:Hid (ModesAt w S mv ms∧Ints w S av acts∧Ints w S pv pushed):=⟨hM,hA,hP⟩
 have hwide:Wide ms:=fun m hm row hr=>by
  obtain⟨i,hi,rfl⟩:=List.getElem_of_mem hm;exact(hok.wide i hi row hr).1
 have h200:∀m∈ms,m.next.length<=200:=fun m hm=>by
  obtain⟨i,hi,rfl⟩:=List.getElem_of_mem hm;have h1:=yZ ms (i+1) ms.length hi;have h2:=hok.states;have e:ms.getD i ⟨[],[],0,[]⟩=ms[i]:=by rw[lW,lV hi];rfl
  rw[zE,e] at h1;omega
 have HK:=zFT w S mv ms hM hS hwide hok.three h200;have HK2:Hid (Ca 63 #[mv] w fun e w'=>∃u,e=returned (tuple #[u,int i64 ((zB ms 256).2:Nat)])∧OwnI w' w.heap.size u (zB ms 256).1∧Grew w w'):=HK;obtain⟨ma,mc,rfl,_⟩:=hM;obtain⟨ba,oa,ca,rfl,hSa,_,_,hca⟩:=hA.block (by rw[hal];exact hok.rules1);obtain⟨bp,op,cp,rfl,hSp,_,_,hcp⟩:=hP.block (by rw[hpl,hal];exact hok.rules1);have hal8:acts.length<=8:=by rw[hal];exact hok.rules8
 have hal1:1<=acts.length:=by rw[hal];exact hok.rules1
 have hpl8:pushed.length<=8:=by omega
 have hpl1:1<=pushed.length:=by omega
 obtain⟨i0,hi0,hz0,hz1,hz2⟩:=info_parts yL;have HCA:Hid (∀j u,(acts.map fun x=>Value.int i64 x)[j]? =some u->w.cell? ((⟨ba,oa,none⟩:Addr).add j)=some u):=by
  intro j u hu;rw[gU] at hu;obtain⟨x,hx,rfl⟩:=Option.map_eq_some_iff.1 hu;have hj:=(List.getElem?_eq_some_iff.1 hx).1;rw[Addr.add_lit,hca j hj,lW,hx];rfl
 have HCP:Hid (∀j u,(pushed.map fun x=>Value.int i64 x)[j]? =some u->w.cell? ((⟨bp,op,none⟩:Addr).add j)=some u):=by
  intro j u hu;rw[gU] at hu;obtain⟨x,hx,rfl⟩:=Option.map_eq_some_iff.1 hu;have hj:=(List.getElem?_eq_some_iff.1 hx).1;rw[Addr.add_lit,hcp j hj,lW,hx];rfl
 have hba:=hS ba hSa;have hbp:=hS bp hSp;clear hca hcp;have HAL:Hid (acts.length=zT ms ms.length∧pushed.length=acts.length):=⟨hal,hpl⟩
 have HOK:Hid (ModesOk ms):=hok;clear HK hal hpl hA hP hok hwide h200;go_enter func45,ntmps45
 refine wp_seq_k ?_;intro K0 hK0;have J:Hid (∀a w,_->K0 a w):=hK0;clear hK0;go_wp2_with fail;apply J.out;clear J;refine wp_seq_k ?_;intro K1 hK1;have HK1:Hid (∀a w,_->K1 a w):=hK1;clear hK1;go_wp2_with fail;refine HK2.out.mono ?_;rintro e w1 ⟨u,rfl,ho1,hk1⟩;obtain⟨au,cu,hu⟩:=ho1.form;subst hu;have O1:Hid (OwnI w1 w.heap.size (slice au (zB ms 256).1.length cu) (zB ms 256).1∧Grew w w1):=⟨ho1,hk1⟩
 clear ho1 hk1 HK2;go_wp2_with fail;apply HK1.out;clear HK1;refine wp_seq_k ?_;intro K2 hK2;have HK2:Hid (∀a w,_->K2 a w):=hK2;clear hK2;go_wp2_with fail;apply HK2.out;clear HK2;obtain⟨w2,hw2,A2⟩:∃w2,w2=w1.alloc (.cells #[bool false,int i64 0,int i64 hold,slice none 0 0,slice none 0 0,slice none 0 0,slice au (zB ms 256).1.length cu,int i64 ((zB ms 256).2:Nat),slice none 0 0,slice none 0 0,slice none 0 0,int i64 0,slice none 0 0] 90)∧
   Hid (xA w2 w1.heap.size ⟨bool false,int i64 0,int i64 hold,slice none 0 0,slice none 0 0,slice none 0 0,slice au (zB ms 256).1.length cu,int i64 ((zB ms 256).2:Nat),slice none 0 0,slice none 0 0,slice none 0 0,int i64 0,slice none 0 0⟩∧OwnI w2 w.heap.size (slice au (zB ms 256).1.length cu) (zB ms 256).1∧Keep w.heap.size w1.heap.size w w2):=
  ⟨_,rfl,gJ w1 _,zK O1.out.1 (kZ _ _ lQ),O1.out.2.lower lQ lQ |>.trans (kZ _ _ O1.out.2.size)⟩
 rw[<-hw2];have hs2:w1.heap.size<w2.heap.size:=by rw[hw2];simp
 have hs1:=O1.out.2.size;clear hw2;refine wp_seq_k ?_;intro K3 hK3;have HK3:Hid (∀a w,_->K3 a w):=hK3;clear hK3;have y4:=A2.out.1.get_acts;have z4:=A2.out.1.fz 4;have hs2':w.heap.size<=w2.heap.size:=by omega
 have HX2:Hid (∀j u,(acts.map fun x=>Value.int i64 x)[j]? =some u->w2.cell? ((⟨ba,oa,none⟩:Addr).add j)=some u):=fun j u hu=>by
  have h:=HCA.out j u hu;rw[Addr.add_lit] at h ⊢;exact(gG (A2.out.2.2.block ba hba (by omega))).trans h
 go_wp2_with (first|(at_builtin;refine wpList_append_lies _ rfl _ _ 45 rfl w.heap.size 3 i0 (int i64 0) 1 8 underlying45 hi0 hz0 hz1 hz2 rfl (by decide) (slice none 0 0) 0 [] rfl (ownsRow_nil _ _ _ _) ⟨ba,oa,none⟩ acts.length ca (acts.map fun x=>int i64 x) rfl (by simp) HX2.out (by intro u hu;obtain⟨x,_,rfl⟩:=List.mem_map.1 hu;rfl) (by omega) (by unfold maxLen;omega) (by omega) hs2' w2.heap.size rfl ?_;intro ga capa w3 hown hgrow hat hlt3;have hPB:=hgrow.block w1.heap.size hs2 (by simp[Value.ownBlock]);have y4':w3.cell? ⟨w1.heap.size,4,none⟩=some (slice none 0 0):=(gG hPB).trans y4;have z4':w3.frozen? ⟨w1.heap.size,4,none⟩=false:=(dQ hPB).trans z4))
 obtain⟨w4,hw4,A4⟩:∃w4,w4=w3.setCell ⟨w1.heap.size,4,none⟩ (slice (some ⟨ga,0,none⟩) acts.length capa)∧
   Hid (xA w4 w1.heap.size ⟨bool false,int i64 0,int i64 hold,slice none 0 0,slice (some ⟨ga,0,none⟩) acts.length capa,slice none 0 0,slice au (zB ms 256).1.length cu,int i64 ((zB ms 256).2:Nat),slice none 0 0,slice none 0 0,slice none 0 0,int i64 0,slice none 0 0⟩∧OwnI w4 w.heap.size (slice au (zB ms 256).1.length cu) (zB ms 256).1∧OwnI w4 w.heap.size (slice (some ⟨ga,0,none⟩) acts.length capa) acts∧Keep w.heap.size w1.heap.size w w4):=by
  have hT3:=A2.out.1.of_block hPB;have hoA:OwnI w3 w.heap.size (slice (some ⟨ga,0,none⟩) acts.length capa) acts:=by
   have h:=hown;rw[Nat.zero_add,List.nil_append] at h;exact h
  have hk3:Grew w2 w3:=⟨hgrow.os,hgrow.output,hgrow.size,fun k hk _=>hgrow.block k hk (by simp[Value.ownBlock])⟩
  have hoK:=zK A2.out.2.1 hk3;refine⟨_,rfl,hT3.set_acts _,zD hoK fun k _ _ hk=>lJ _ _ _ _ (fun e=>vP hT3 hoK (by decide) (by rw[hk];exact congrArg some e.symm)),zD hoA fun k _ _ hk=>lJ _ _ _ _ (fun e=>vP hT3 hoA (by decide) (by rw[hk];exact congrArg some e.symm)),(A2.out.2.2.trans (hk3.lower (by omega) (by omega))).trans (Keep.set _ _ _)⟩
 rw[<-hw4];have hs4:w1.heap.size<w4.heap.size:=by rw[hw4,zC];exact lZ hs2 hgrow.size
 clear hw4 hown hgrow hat hPB y4' z4' y4 z4 A2 HX2;apply HK3.out;clear HK3;refine wp_seq_k ?_;intro K4 hK4;have HK4:Hid (∀a w,_->K4 a w):=hK4;clear hK4;have y5:=A4.out.1.get_pushed;have z5:=A4.out.1.fz 5;have hs4':w.heap.size<=w4.heap.size:=by omega
 have HX4:Hid (∀j u,(pushed.map fun x=>Value.int i64 x)[j]? =some u->w4.cell? ((⟨bp,op,none⟩:Addr).add j)=some u):=fun j u hu=>by
  have h:=HCP.out j u hu;rw[Addr.add_lit] at h ⊢;exact(gG (A4.out.2.2.2.block bp hbp (by omega))).trans h
 go_wp2_with (first|(at_builtin;refine wpList_append_lies _ rfl _ _ 45 rfl w.heap.size 3 i0 (int i64 0) 1 8 underlying45 hi0 hz0 hz1 hz2 rfl (by decide) (slice none 0 0) 0 [] rfl (ownsRow_nil _ _ _ _) ⟨bp,op,none⟩ pushed.length cp (pushed.map fun x=>int i64 x) rfl (by simp) HX4.out (by intro u hu;obtain⟨x,_,rfl⟩:=List.mem_map.1 hu;rfl) (by omega) (by unfold maxLen;omega) (by omega) hs4' w4.heap.size rfl ?_;intro gp capp w5 hown hgrow hat hlt5;have hPB:=hgrow.block w1.heap.size hs4 (by simp[Value.ownBlock]);have y5':w5.cell? ⟨w1.heap.size,5,none⟩=some (slice none 0 0):=(gG hPB).trans y5;have z5':w5.frozen? ⟨w1.heap.size,5,none⟩=false:=(dQ hPB).trans z5))
 obtain⟨w6,hw6,A6⟩:∃w6,w6=w5.setCell ⟨w1.heap.size,5,none⟩ (slice (some ⟨gp,0,none⟩) pushed.length capp)∧
   Hid (Gt w6 w.heap.size w1.heap.size ⟨bool false,int i64 0,int i64 hold,slice none 0 0,slice (some ⟨ga,0,none⟩) acts.length capa,slice (some ⟨gp,0,none⟩) pushed.length capp,slice au (zB ms 256).1.length cu,int i64 ((zB ms 256).2:Nat),slice none 0 0,slice none 0 0,slice none 0 0,int i64 0,slice none 0 0⟩ (zB ms 256).1 acts pushed [] [] []∧Keep w.heap.size w1.heap.size w w6):=by
  have hT5:=A4.out.1.of_block hPB;have hoP:OwnI w5 w.heap.size (slice (some ⟨gp,0,none⟩) pushed.length capp) pushed:=by
   have h:=hown;rw[Nat.zero_add,List.nil_append] at h;exact h
  have hk5:Grew w4 w5:=⟨hgrow.os,hgrow.output,hgrow.size,fun k hk _=>hgrow.block k hk (by simp[Value.ownBlock])⟩
  have hoK:=zK A4.out.2.1 hk5;have hoA:=zK A4.out.2.2.1 hk5;have fin:∀{v l},OwnI w5 w.heap.size v l->Fin (w5.setCell ⟨w1.heap.size,5,none⟩ (slice (some ⟨gp,0,none⟩) pushed.length capp)) (Rest (w5.setCell ⟨w1.heap.size,5,none⟩ (slice (some ⟨gp,0,none⟩) pushed.length capp)) w1.heap.size ⟨bool false,int i64 0,int i64 hold,slice none 0 0,slice (some ⟨ga,0,none⟩) acts.length capa,slice (some ⟨gp,0,none⟩) pushed.length capp,slice au (zB ms 256).1.length cu,int i64 ((zB ms 256).2:Nat),slice none 0 0,slice none 0 0,slice none 0 0,int i64 0,slice none 0 0⟩) w.heap.size v l:=fun ho=>
   ⟨zD ho fun k _ _ hk=>lJ _ _ _ _ (fun e=>vP hT5 ho (by decide) (by rw[hk];exact congrArg some e.symm)),fun g hg=>⟨by rw[zC];exact(World.ownsRow.lt ho g hg).2,fun e=>vP hT5 ho (by decide) (by rw[hg,e]),by simp[Value.ownBlock],by simp[Value.ownBlock],by simp[Value.ownBlock]⟩⟩
  refine⟨_,rfl,⟨hT5.set_pushed _,OwnI.nil _ _,OwnI.nil _ _,⟨fun _=>slice none 0 0,ownsRow_nil _ _ _ _,fun i hi=>by simp at hi⟩,fin hoK,fin hoA,fin hoP,by rw[zC];exact lY hs4' hgrow.size,fun g hg=>by simp[Value.ownBlock] at hg⟩,(A4.out.2.2.2.trans (hk5.lower (by omega) (by omega))).trans (Keep.set _ _ _)⟩
 rw[<-hw6];clear hw6 hown hgrow hat hPB y5' z5' y5 z5 A4 HX4;apply HK4.out;clear HK4;exact zOF w w6 S w1.heap.size _ ms acts pushed hold _ HM.out.1 hS A6.out.1 HOK.out hs1 HAL.out.1 ha HAL.out.2 hp rfl rfl rfl rfl rfl rfl rfl A6.out.2
end
section
variable {w w':World} {v:Value}
def In (w:World)(k:Nat):Prop:=k<w.heap.size
theorem Ints.grown {l:List Int}(h:Ints w (In w) v l)(hk:Grew w w'):Ints w' (In w') v l:=
 (h.keep fun b hb=>hk.block b hb (kJ hb)).mono fun _ hb=>lZ hb hk.size
theorem Bools.grown {l:List Bool}(h:Bools w (In w) v l)(hk:Grew w w'):Bools w' (In w') v l:=
 (h.keep fun b hb=>hk.block b hb (kJ hb)).mono fun _ hb=>lZ hb hk.size
theorem IntRows.grown {l:List (List Int)}(h:IntRows w (In w) v l)(hk:Grew w w'):IntRows w' (In w') v l:=
 (h.keep fun b hb=>hk.block b hb (kJ hb)).mono fun _ hb=>lZ hb hk.size
theorem BoolsAt.grown {n:Nat}{f:Nat->Bool}(h:BoolsAt w (In w) v n f)(hk:Grew w w'):BoolsAt w' (In w') v n f:=by
 obtain⟨b,o,cap,hb,r⟩:=h.keep fun b hb=>hk.block b hb (kJ hb);exact⟨b,o,cap,lZ hb hk.size,r⟩
theorem OwnF.at {H n:Nat}{v:Value}{f:Nat->Bool}(h:OwnF w H v n f)(hn:0<n):BoolsAt w (In w) v n f:=by
 obtain⟨g,cap,hv,h1,h2,h3,h4,h5,_⟩:=Row.get h hn;exact⟨g,0,cap,h2,hv,h3,h4,fun i hi=>by rw[Nat.zero_add];exact h5 i hi⟩
theorem zA {b i:Nat}{x:Value}(h:w.cell? ⟨b,i,none⟩=some x)(hb:b<w.heap.size)(hk:Grew w w'):w'.cell? ⟨b,i,none⟩=some x:=(gG (hk.block b hb (by omega))).trans h
structure TblAt (w:World)(nv rv:Value)(m:Sm):Prop where
 next:IntRows w (In w) nv m.next
 rules:Ints w (In w) rv m.rules
theorem TblAt.grown {nv rv:Value}{m:Sm}(h:TblAt w nv rv m)(hk:Grew w w'):TblAt w' nv rv m:=⟨h.next.grown hk,h.rules.grown hk⟩
structure Sm.Tbl (m:Sm):Prop where
 one:1<=m.next.length
 most:m.next.length<=200
 rules:m.rules.length=m.next.length
 rows:∀i,i<m.next.length->(m.next.getD i []).length=256
 to:∀i b,i<m.next.length->b<256->0<=(m.next.getD i []).getD b 0∧(m.next.getD i []).getD b 0<m.next.length
def tokF (m:Sm)(s:Nat):Bool:=m.rules.getD s 0 != -1
def zBP (s:Nat):Bool:=(s:Int) != 0
def zBN (one:Nat)(s:Nat):Bool:=(s:Int)==(one:Int)
def qJ (a b:Nat->Bool)(s:Nat):Bool:=a s&& !b s
theorem zCS (w:World)(nv rv:Value)(m:Sm)(hT:TblAt w nv rv m)(hm:m.Tbl):
  Calls prog 140 #[agg #[nv,rv,int i64 m.start]] w fun e w'=>∃u,e=returned u∧OwnF w' w.heap.size u (m.rules.length) (tokF m)∧Grew w w':=by
 obtain⟨i0,hi0,hz0,hz1,hz2⟩:=info_parts qU;have HM:=vl hT;obtain⟨an,cn,rfl,hcn,hmn,hnc⟩:=hT.next
 obtain⟨ar,cr,rfl,hcr,hmr,hrc⟩:=hT.rules;have HR:=vl hrc;have HL:=vl hm.rules;have h200:m.rules.length<=200:=by rw[HL.out];exact hm.most
 go_in;go_wp2;go_loopg [3,9] (m.rules.length) (fun q lst i wr=>∃j:Nat,q=m.rules.length-j∧j<=m.rules.length∧i=int i64 (j:Int)∧OwnF wr w.heap.size lst j (tokF m)∧Grew w wr)
 case atStart=>exact⟨0,rfl,lX,rfl,OwnF.nil _ _ _,kZ _ _ lQ⟩
 case round=>
  obtain⟨j,hgk,hj,rfl,ho,hkp⟩:=hrel;have HA:Hid (gk=m.rules.length-j∧Grew w wr):=⟨hgk,hkp⟩
  obtain⟨ao,cap,hv⟩:=ho.form;subst hv;have hszr:=hkp.size;have OR:=vl ho;by_cases hj2:j<m.rules.length
  ·have i1:(j:Int)<((m.rules.length:Nat):Int):=by omega
   obtain⟨b,o,rfl,hb,hc⟩:=HR.out j hj2;have yr:=zA hc hb hkp;have HV:Hid (tokF m j=(m.rules.getD j 0 != -1)):=rfl;generalize m.rules.getD j 0=x at *;go_wp2_with (first|(at_builtin;refine wpList_append_lies _ rfl _ _ 28 rfl (w.heap.size) 4 i0 (bool false) 1 1 underlying28 hi0 hz0 hz1 hz2 rfl (by decide) _ _ _ rfl (OR.out.alloc _) ⟨wr.heap.size,0,none⟩ 1 1 [bool (x != -1)] rfl rfl (cell_one_new _ _ _) (by intro u hu;simp at hu;subst hu;rfl) (by decide) (by unfold maxLen;omega) (by omega) (by simp;omega) _ rfl ?_;intro gg cap2 w2 hown hgrow hat hlt2;have hB:=xQ OR.out hgrow hszr))
   have O2:Hid (OwnF w2 w.heap.size (slice (some ⟨gg,0,none⟩) (j+1) cap2) (j+1) (tokF m)∧Grew w w2):=⟨OwnF.snoc hown HV.out,HA.out.2.trans (xO hB)⟩
   go_wp2;go_roundg (m.rules.length-(j+1))
   case measure=>rw[HA.out.1];omega
   case rel=>exact⟨j+1,rfl,by omega,by go_num,O2.out.1,O2.out.2⟩
  ·have hje:j=m.rules.length:=by omega
   have i1:((m.rules.length:Nat):Int)<=(j:Int):=by omega
   have HZ:Hid (OwnF wr w.heap.size (slice ao j cap) (m.rules.length) (tokF m)):=by rw[hje] at ho ⊢;exact ho
   go_wp2;go_ret;exact⟨_,rfl,HZ.out,HA.out.2⟩
theorem zG1 (w:World)(nv rv:Value)(m:Sm)(hT:TblAt w nv rv m)(hm:m.Tbl):
  Calls prog 144 #[agg #[nv,rv,int i64 m.start]] w fun e w'=>∃u,e=returned u∧OwnF w' w.heap.size u (m.next.length) (zBP)∧Grew w w':=by
 obtain⟨i0,hi0,hz0,hz1,hz2⟩:=info_parts qU;have HM:=vl hT;obtain⟨an,cn,rfl,hcn,hmn,hnc⟩:=hT.next
 obtain⟨ar,cr,rfl,hcr,hmr,hrc⟩:=hT.rules;have h200:=hm.most;go_in;go_wp2;go_loopg [3,8] (m.next.length) (fun q lst i wr=>∃j:Nat,q=m.next.length-j∧j<=m.next.length∧i=int i64 (j:Int)∧OwnF wr w.heap.size lst j (zBP)∧Grew w wr)
 case atStart=>exact⟨0,rfl,lX,rfl,OwnF.nil _ _ _,kZ _ _ lQ⟩
 case round=>
  obtain⟨j,hgk,hj,rfl,ho,hkp⟩:=hrel;have HA:Hid (gk=m.next.length-j∧Grew w wr):=⟨hgk,hkp⟩
  obtain⟨ao,cap,hv⟩:=ho.form;subst hv;have hszr:=hkp.size;have OR:=vl ho;by_cases hj2:j<m.next.length
  ·have i1:(j:Int)<((m.next.length:Nat):Int):=by omega
   have HV:Hid (zBP j=((j:Int) != 0)):=rfl;go_wp2_with (first|(at_builtin;refine wpList_append_lies _ rfl _ _ 28 rfl (w.heap.size) 4 i0 (bool false) 1 1 underlying28 hi0 hz0 hz1 hz2 rfl (by decide) _ _ _ rfl (OR.out.alloc _) ⟨wr.heap.size,0,none⟩ 1 1 [bool ((j:Int) != 0)] rfl rfl (cell_one_new _ _ _) (by intro u hu;simp at hu;subst hu;rfl) (by decide) (by unfold maxLen;omega) (by omega) (by simp;omega) _ rfl ?_;intro gg cap2 w2 hown hgrow hat hlt2;have hB:=xQ OR.out hgrow hszr))
   have O2:Hid (OwnF w2 w.heap.size (slice (some ⟨gg,0,none⟩) (j+1) cap2) (j+1) (zBP)∧Grew w w2):=⟨OwnF.snoc hown HV.out,HA.out.2.trans (xO hB)⟩
   go_wp2;go_roundg (m.next.length-(j+1))
   case measure=>rw[HA.out.1];omega
   case rel=>exact⟨j+1,rfl,by omega,by go_num,O2.out.1,O2.out.2⟩
  ·have hje:j=m.next.length:=by omega
   have i1:((m.next.length:Nat):Int)<=(j:Int):=by omega
   have HZ:Hid (OwnF wr w.heap.size (slice ao j cap) (m.next.length) (zBP)):=by rw[hje] at ho ⊢;exact ho
   go_wp2;go_ret;exact⟨_,rfl,HZ.out,HA.out.2⟩
theorem zJc (w:World)(nv rv:Value)(m:Sm)(hT:TblAt w nv rv m)(hm:m.Tbl)(one:Nat):
  Calls prog 148 #[agg #[nv,rv,int i64 m.start],int i64 one] w fun e w'=>∃u,e=returned u∧OwnF w' w.heap.size u (m.next.length) (zBN one)∧Grew w w':=by
 obtain⟨i0,hi0,hz0,hz1,hz2⟩:=info_parts qU;have HM:=vl hT;obtain⟨an,cn,rfl,hcn,hmn,hnc⟩:=hT.next
 obtain⟨ar,cr,rfl,hcr,hmr,hrc⟩:=hT.rules;have h200:=hm.most;go_in;go_wp2;go_loopg [5,10] (m.next.length) (fun q lst i wr=>∃j:Nat,q=m.next.length-j∧j<=m.next.length∧i=int i64 (j:Int)∧OwnF wr w.heap.size lst j (zBN one)∧Grew w wr)
 case atStart=>exact⟨0,rfl,lX,rfl,OwnF.nil _ _ _,kZ _ _ lQ⟩
 case round=>
  obtain⟨j,hgk,hj,rfl,ho,hkp⟩:=hrel;have HA:Hid (gk=m.next.length-j∧Grew w wr):=⟨hgk,hkp⟩
  obtain⟨ao,cap,hv⟩:=ho.form;subst hv;have hszr:=hkp.size;have OR:=vl ho;by_cases hj2:j<m.next.length
  ·have i1:(j:Int)<((m.next.length:Nat):Int):=by omega
   have HV:Hid (zBN one j=((j:Int)==(one:Int))):=rfl;go_wp2_with (first|(at_builtin;refine wpList_append_lies _ rfl _ _ 28 rfl (w.heap.size) 4 i0 (bool false) 1 1 underlying28 hi0 hz0 hz1 hz2 rfl (by decide) _ _ _ rfl (OR.out.alloc _) ⟨wr.heap.size,0,none⟩ 1 1 [bool ((j:Int)==(one:Int))] rfl rfl (cell_one_new _ _ _) (by intro u hu;simp at hu;subst hu;rfl) (by decide) (by unfold maxLen;omega) (by omega) (by simp;omega) _ rfl ?_;intro gg cap2 w2 hown hgrow hat hlt2;have hB:=xQ OR.out hgrow hszr))
   have O2:Hid (OwnF w2 w.heap.size (slice (some ⟨gg,0,none⟩) (j+1) cap2) (j+1) (zBN one)∧Grew w w2):=⟨OwnF.snoc hown HV.out,HA.out.2.trans (xO hB)⟩
   go_wp2;go_roundg (m.next.length-(j+1))
   case measure=>rw[HA.out.1];omega
   case rel=>exact⟨j+1,rfl,by omega,by go_num,O2.out.1,O2.out.2⟩
  ·have hje:j=m.next.length:=by omega
   have i1:((m.next.length:Nat):Int)<=(j:Int):=by omega
   have HZ:Hid (OwnF wr w.heap.size (slice ao j cap) (m.next.length) (zBN one)):=by rw[hje] at ho ⊢;exact ho
   go_wp2;go_ret;exact⟨_,rfl,HZ.out,HA.out.2⟩
theorem zCj (w:World)(va vb:Value)(n:Nat)(fa fb:Nat->Bool)(hA:BoolsAt w (In w) va n fa)(hB:BoolsAt w (In w) vb n fb)(hn:n<=200):
  Calls prog 143 #[va,vb] w fun e w'=>∃u,e=returned u∧OwnF w' w.heap.size u (n) (qJ fa fb)∧Grew w w':=by
 obtain⟨i0,hi0,hz0,hz1,hz2⟩:=info_parts qU;obtain⟨ba,oa,ca,hba,rfl,_,_,hca⟩:=hA;obtain⟨bb,ob,cb,hbb,rfl,_,_,hcb⟩:=hB;have HCA:=vl hca;have HCB:=vl hcb;go_in;go_wp2;go_loopg [5,10] (n) (fun q lst i wr=>∃j:Nat,q=n-j∧j<=n∧i=int i64 (j:Int)∧OwnF wr w.heap.size lst j (qJ fa fb)∧Grew w wr)
 case atStart=>exact⟨0,rfl,lX,rfl,OwnF.nil _ _ _,Keep.refl _ _ _⟩
 case round=>
  obtain⟨j,hgk,hj,rfl,ho,hkp⟩:=hrel;have HA:Hid (gk=n-j∧Grew w wr):=⟨hgk,hkp⟩
  obtain⟨ao,cap,hv⟩:=ho.form;subst hv;have hszr:=hkp.size;have OR:=vl ho;by_cases hj2:j<n
  ·have i1:(j:Int)<((n:Nat):Int):=by omega
   have ya:=zA (HCA.out j hj2) hba hkp;have yb:=zA (HCB.out j hj2) hbb hkp;have HV:Hid (qJ fa fb j=(fa j&& !fb j)):=rfl;generalize fa j=xa at *;generalize fb j=xb at *;cases xa with
   |true=>
    go_wp2_with (first|(at_builtin;refine wpList_append_lies _ rfl _ _ 28 rfl (w.heap.size) 4 i0 (bool false) 1 1 underlying28 hi0 hz0 hz1 hz2 rfl (by decide) _ _ _ rfl (OR.out.alloc _) ⟨wr.heap.size,0,none⟩ 1 1 [bool (!xb)] rfl rfl (cell_one_new _ _ _) (by intro u hu;simp at hu;subst hu;rfl) (by decide) (by unfold maxLen;omega) (by omega) (by simp;omega) _ rfl ?_;intro gg cap2 w2 hown hgrow hat hlt2;have hB:=xQ OR.out hgrow hszr))
    have O2:Hid (OwnF w2 w.heap.size (slice (some ⟨gg,0,none⟩) (j+1) cap2) (j+1) (qJ fa fb)∧Grew w w2):=⟨OwnF.snoc hown HV.out,HA.out.2.trans (xO hB)⟩
    go_wp2;go_roundg (n-(j+1))
    case measure=>rw[HA.out.1];omega
    case rel=>exact⟨j+1,rfl,by omega,by go_num,O2.out.1,O2.out.2⟩
   |false=>
    go_wp2_with (first|(at_builtin;refine wpList_append_lies _ rfl _ _ 28 rfl (w.heap.size) 4 i0 (bool false) 1 1 underlying28 hi0 hz0 hz1 hz2 rfl (by decide) _ _ _ rfl (OR.out.alloc _) ⟨wr.heap.size,0,none⟩ 1 1 [bool (false)] rfl rfl (cell_one_new _ _ _) (by intro u hu;simp at hu;subst hu;rfl) (by decide) (by unfold maxLen;omega) (by omega) (by simp;omega) _ rfl ?_;intro gg cap2 w2 hown hgrow hat hlt2;have hB:=xQ OR.out hgrow hszr))
    have O2:Hid (OwnF w2 w.heap.size (slice (some ⟨gg,0,none⟩) (j+1) cap2) (j+1) (qJ fa fb)∧Grew w w2):=⟨OwnF.snoc hown HV.out,HA.out.2.trans (xO hB)⟩
    go_wp2;go_roundg (n-(j+1))
    case measure=>rw[HA.out.1];omega
    case rel=>exact⟨j+1,rfl,by omega,by go_num,O2.out.1,O2.out.2⟩
  ·have hje:j=n:=by omega
   have i1:((n:Nat):Int)<=(j:Int):=by omega
   have HZ:Hid (OwnF wr w.heap.size (slice ao j cap) (n) (qJ fa fb)):=by rw[hje] at ho ⊢;exact ho
   go_wp2;go_ret;exact⟨_,rfl,HZ.out,HA.out.2⟩
end
def jZ (n:Nat)(f:Nat->Bool):Int:=if(List.range n).findIdx f<n then((List.range n).findIdx f:Int) else -1
theorem zD9 (w:World)(v:Value)(n:Nat)(f:Nat->Bool)(hA:BoolsAt w (In w) v n f)(hn:n<=200):
  Calls prog 142 #[v] w fun e w'=>e=returned (int i64 (jZ n f))∧w'=w:=by
 obtain⟨ba,oa,ca,hba,rfl,_,_,hca⟩:=hA;have HCA:=vl hca;go_in;go_wp2;go_loop [7] (fun i=>∃j:Nat,j<=n∧i=int i64 j∧∀a,a<j->f a=false) (fun i=>n-(intOf i).toNat)
 case atStart=>exact⟨0,lX,rfl,fun a ha=>by omega⟩
 case round=>
  obtain⟨j,hj,rfl,hall⟩:=hrel;have HA:=vl hall;by_cases hj2:j<n
  ·have i1:(j:Int)<(n:Int):=by omega
   have y:=HCA.out j hj2;cases hf:f j with
   |true=>
    rw[hf] at y;have HF:Hid (jZ n f=(j:Int)):=by
     have e:(List.range n).findIdx f=j:=by
      rw[List.findIdx_eq (by simpa using hj2)];exact⟨by simpa using hf,fun a ha=>by simpa using HA.out a (by simpa using ha)⟩
     show _=_;unfold jZ;rw[e,if_pos hj2]
    go_wp2;go_ret;exact⟨zAO HF.out.symm,rfl⟩
   |false=>
    rw[hf] at y;have HF:=vl hf;go_wp2;exact⟨⟨j+1,by omega,by go_num,fun a ha=>by(by_cases e:a=j;exact e ▸ HF.out;exact HA.out a (by omega))⟩,by simp[intOf];omega⟩
  ·have i1:(n:Int)<=(j:Int):=by omega
   have HF:Hid (jZ n f=-1):=by
    have h:=List.findIdx_eq_length (xs:=List.range n) (p:=f);rw[List.length_range] at h;have e:=h.2 fun a ha=>HA.out a (by have:=List.mem_range.1 ha;omega);show _=_;unfold jZ;rw[e,if_neg (Nat.lt_irrefl _)]
   go_wp2;go_ret;exact⟨zAO HF.out.symm,rfl⟩
def hasRuleB (m:Sm)(rule:Int):Bool:=m.rules.any (·==rule)
theorem zFX (w:World)(nv rv:Value)(m:Sm)(hT:TblAt w nv rv m)(hm:m.Tbl)(rule:Nat):
  Calls prog 69 #[agg #[nv,rv,int i64 m.start],int i64 rule] w fun e w'=>e=returned (bool (hasRuleB m rule))∧Grew w w':=by
 obtain⟨an,cn,rfl,hcn,hmn,hnc⟩:=hT.next
 obtain⟨ar,cr,rfl,hcr,hmr,hrc⟩:=hT.rules;have HR:=vl hrc;have HL:=vl hm.rules;have h200:m.rules.length<=200:=by rw[HL.out];exact hm.most
 go_in;go_wp2;go_loopg [10] m.rules.length (fun q i wr=>∃j:Nat,q=m.rules.length-j∧j<=m.rules.length∧i=int i64 (j:Int)∧(m.rules.take j).any (·==(rule:Int))=false∧Grew w wr)
 case atStart=>exact⟨0,rfl,lX,rfl,rfl,kZ _ _ lQ⟩
 case round=>
  obtain⟨j,hgk,hj,rfl,hall,hkp⟩:=hrel;have HA:Hid (gk=m.rules.length-j∧(m.rules.take j).any (·==(rule:Int))=false∧Grew w wr):=⟨hgk,hall,hkp⟩
  by_cases hj2:j<m.rules.length
  ·have i1:(j:Int)<(m.rules.length:Int):=by omega
   obtain⟨b,o,rfl,hb,hc⟩:=HR.out j hj2;have yr:=zA hc hb hkp;have HS:Hid ((m.rules.take (j+1)).any (·==(rule:Int))=((m.rules.take j).any (·==(rule:Int))||(m.rules.getD j 0==(rule:Int)))):=by
    show _=_;rw[List.take_succ_eq_append_getElem hj2,List.any_append,lW,lV hj2];simp
   have HY:Hid ((m.rules.getD j 0==(rule:Int))=true->hasRuleB m rule=true):=by
    intro h;unfold hasRuleB;rw[List.any_eq_true];rw[lW,lV hj2] at h;exact⟨m.rules[j],List.getElem_mem hj2,h⟩
   clear hgk hall hkp hc;generalize m.rules.getD j 0=x at *;cases hx:(x==(rule:Int)) with
   |true=>
    have HX:=vl <| HY.out hx;go_wp2;go_ret;exact⟨qS HX.out.symm,HA.out.2.2⟩
   |false=>
    have HX:Hid ((m.rules.take (j+1)).any (·==(rule:Int))=false):=by show _=_;rw[HS.out,HA.out.2.1,hx];rfl
    go_wp2;go_roundg (m.rules.length-(j+1))
    case measure=>rw[HA.out.1];omega
    case rel=>exact⟨j+1,rfl,by omega,by go_num,HX.out,HA.out.2.2⟩
  ·have i1:(m.rules.length:Int)<=(j:Int):=by omega
   have HX:Hid (hasRuleB m rule=false):=by
    show _=_;unfold hasRuleB;rw[<-List.take_of_length_le (l:=m.rules) (i:=j) (by omega)];exact HA.out.2.1
   go_wp2;go_ret;exact⟨qS HX.out.symm,HA.out.2.2⟩
def yP (a b:Int):Int:=if a<0∨b<0 then -1 else if a>b then a else b
theorem zHa (w:World)(a b:Int):
  Calls prog 68 #[int i64 a,int i64 b] w fun e w'=>e=returned (int i64 (yP a b))∧w'=w:=by
 by_cases h1:a<0
 ·have HV:Hid (yP a b=-1):=if_pos (.inl h1)
  go_in;go_wp2;go_ret;exact⟨zAO HV.out.symm,rfl⟩
 ·have h1':0<=a:=by omega
  by_cases h2:b<0
  ·have HV:Hid (yP a b=-1):=if_pos (.inr h2)
   go_in;go_wp2;go_ret;exact⟨zAO HV.out.symm,rfl⟩
  ·have h2':0<=b:=by omega
   by_cases h3:a>b
   ·have HV:Hid (yP a b=a):=by show _=_;unfold yP;rw[if_neg (by omega),if_pos h3]
    go_in;go_wp2;go_ret;exact⟨zAO HV.out.symm,rfl⟩
   ·have h3':a<=b:=by omega
    have HV:Hid (yP a b=b):=by show _=_;unfold yP;rw[if_neg (by omega),if_neg h3]
    go_in;go_wp2;go_ret;exact⟨zAO HV.out.symm,rfl⟩
def xP (ahead:Int)(kinds:Nat):Bool:=decide (0<=ahead)&&decide (zF kinds ahead.toNat<=3000)
theorem zFf (w:World)(ahead:Int)(kinds:Nat)(hk:kinds<=256)(ha:ahead<=255):
  Calls prog 70 #[int i64 ahead,int i64 kinds] w fun e w'=>e=returned (bool (xP ahead kinds))∧w'=w:=by
 by_cases h1:0<=ahead
 ·obtain⟨n,rfl⟩:∃n:Nat,ahead=(n:Int):=⟨ahead.toNat,by omega⟩
  have HV:Hid (xP n kinds=decide (zF kinds n<=3000)):=by
   show _=_;unfold xP;rw[dW h1,Int.toNat_natCast];rfl
  go_in;go_wp2_with fail;refine(zEU kinds n w hk (by omega)).mono ?_;rintro e w1 ⟨rfl,rfl⟩;go_wp2;go_ret;refine⟨qS ?_,rfl⟩;rw[HV.out];by_cases h:zF kinds n<=3000
  ·simp[h];omega
  ·simp[h];omega
 ·have HV:Hid (xP ahead kinds=false):=by
   show _=_;unfold xP;rw[dY h1];rfl
  have h1':ahead<0:=by omega
  go_in;go_wp2;go_ret;exact⟨qS HV.out.symm,rfl⟩
section
variable (m:Sm) (f:Nat->Bool) (s k t:Nat)
def yD (m:Sm)(from_:Nat->Bool)(s t:Nat):Bool:=((t:Int) != 0)&&(List.range s).any fun i=>from_ i&&(m.next.getD i []).any (·==(t:Int))
def qE (m:Sm)(from_:Nat->Bool)(t:Nat):Bool:=yD m from_ m.next.length t
def qI (m:Sm)(from_:Nat->Bool)(s k t:Nat):Bool:=((t:Int) != 0)&&(((List.range s).any fun i=>from_ i&&(m.next.getD i []).any (·==(t:Int)))||((m.next.getD s []).take k).any (·==(t:Int)))
theorem zGT:qI m f s 0 t=yD m f s t:=by simp[qI,yD]
theorem zHX (hf:f s=true)(hk:(m.next.getD s []).length<=k):qI m f s k t=yD m f (s+1) t:=by
 unfold qI yD;rw[List.take_of_length_le hk,List.range_succ,List.any_append];simp[hf]
theorem zI7 (hf:f s=false):yD m f (s+1) t=yD m f s t:=by
 unfold yD;rw[List.range_succ,List.any_append];simp[hf]
theorem zGU (s k t x:Nat)(hk:k<(m.next.getD s []).length)(hx:(m.next.getD s []).getD k 0=(x:Int)):qI m f s (k+1) t=if t=x then((x:Int) != 0) else qI m f s k t:=by
 unfold qI;rw[List.take_succ_eq_append_getElem hk,List.any_append];have e:(m.next.getD s [])[k]=(x:Int):=by rw[<-hx,lW (l:=m.next.getD s []),lV hk];rfl
 rw[e];by_cases h:t=x
 ·subst h
  simp
 ·have h':((x:Int)==(t:Int))=false:=by rw[hJ];omega
  rw[if_neg h];simp[h']
theorem zCm (w:World)(nv rv fv:Value)(m:Sm)(hT:TblAt w nv rv m)(hm:m.Tbl)(f:Nat->Bool)(hF:BoolsAt w (In w) fv m.next.length f):
  Calls prog 141 #[agg #[nv,rv,int i64 m.start],fv] w fun e w'=>∃u,e=returned u∧OwnF w' w.heap.size u m.next.length (qE m f)∧Grew w w':=by
 obtain⟨i0,hi0,hz0,hz1,hz2⟩:=info_parts qU;obtain⟨an,cn,rfl,hcn,hmn,hnc⟩:=hT.next
 obtain⟨ar,cr,rfl,hcr,hmr,hrc⟩:=hT.rules;obtain⟨bf,of_,cf,hbf,rfl,_,_,hcf⟩:=hF;have HN:=vl hnc;have HCF:=vl hcf;have HM:Hid m.Tbl:=hm;have h200:=hm.most;have h1:=hm.one;have HRF:Hid (∀t,qE m f t=yD m f m.next.length t):=fun t=>rfl;have HZ0:Hid (∀t,yD m f 0 t=false):=fun t=>by simp[yD]
 generalize hn:m.next.length=n at *
 have HNL:=vl hn;have kal:Grew w (w.alloc (.cells #[slice an n cn,slice ar m.rules.length cr,int i64 m.start] 127)):=kZ _ _ lQ;obtain⟨w1,hw1,K1,hs1⟩:∃w1,w1=w.alloc (.cells #[slice an n cn,slice ar m.rules.length cr,int i64 m.start] 127)∧Hid (Grew w w1∧w1.cell? ⟨w.heap.size,0,none⟩=some (slice an n cn))∧w.heap.size<w1.heap.size:=by
  refine⟨_,rfl,⟨kal,?_⟩,by simp⟩;unfold cell?;rw[gJ w _];rfl
 obtain⟨w2,hmk,ho2,hg2⟩:=run_makeSlice_full (P:=prog) w1 w.heap.size 28 4 i0 _ 1 underlying28 hi0 hz0 hz1 i64 i64 n (by omega) (by rw[hz2];omega) (by unfold maxLen;omega) (by omega);have A2:Hid (Row w2 w.heap.size 4 (slice (some ⟨w1.heap.size,0,none⟩) n n) n (fun t=>bool (yD m f 0 t))∧Grew w w2):=by
  have hk2:Grew w1 w2:=⟨hg2.os,hg2.output,hg2.size,fun k hk _=>hg2.block k hk (by simp)⟩
  refine⟨?_,K1.out.1.trans (hk2.lower (by omega) (by omega))⟩;have h:=ho2;rw[Nat.mul_one,zAh _ rfl] at h;exact Row.congr h fun i _=>by rw[HZ0.out i]
 have yb:=K1.out.2;have yb2:=(gG (hg2.block w.heap.size hs1 (by simp))).trans yb;go_in;apply wp_cut;intro K0 J;go_wp2_with fail;apply J.out;clear J;rw[<-hw1];clear hw1;go_wp2_with fail;clear hmk yb yb2;go_loopg [17] n (fun q i wr=>∃s:Nat,q=n-s∧s<=n∧i=int i64 (s:Int)∧Row wr w.heap.size 4 (slice (some ⟨w1.heap.size,0,none⟩) n n) n (fun t=>bool (yD m f s t))∧Grew w wr)
 case atStart=>exact⟨0,rfl,lX,rfl,A2.out.1,A2.out.2⟩
 case round=>
  obtain⟨s,hgk,hs,rfl,ho,hkp⟩:=hrel;have HA:Hid (gk=n-s∧Row wr w.heap.size 4 (slice (some ⟨w1.heap.size,0,none⟩) n n) n (fun t=>bool (yD m f s t))∧Grew w wr):=⟨hgk,ho,hkp⟩
  by_cases hs2:s<n
  ·have i1:(s:Int)<(n:Int):=by omega
   obtain⟨b,o,u,rfl,hb,hc,hrow⟩:=HN.out s hs2;have hrl:=HM.out.rows s (by rw[HNL.out];exact hs2);obtain⟨br,orr,pr,rfl,hSr,_,_,hcc⟩:=hrow.block (by omega);have yr:wr.cell? ⟨b,o+s,none⟩=some (slice (some ⟨br,orr,none⟩) 256 pr):=by rw[<-hrl];exact zA hc hb hkp
   have yf:wr.cell? ⟨bf,of_+s,none⟩=some (bool (f s)):=zA (HCF.out s hs2) hbf hkp;have HCC:Hid (∀i,i<256->w.cell? ⟨br,orr+i,none⟩=some (int i64 ((m.next.getD s []).getD i 0))):=by
    intro i hi;exact hcc i (by rw[hrl];exact hi)
   have HTO:Hid (∀b,b<256->0<=(m.next.getD s []).getD b 0∧(m.next.getD s []).getD b 0<n):=fun b hb=>by
    have h:=HM.out.to s b (by rw[HNL.out];exact hs2) hb;rw[HNL.out] at h;exact h
   have HST:Hid (∀k t x,k<256->(m.next.getD s []).getD k 0=((x:Nat):Int)->qI m f s (k+1) t=if t=x then((x:Int) != 0) else qI m f s k t):=fun k t x hk hx=>zGU m f s k t x (by rw[hrl];exact hk) hx;have HALL:Hid (f s=true->∀t,qI m f s 256 t=yD m f (s+1) t):=fun hf t=>zHX m f s 256 t hf (by rw[hrl];exact lQ);have HNO:Hid (f s=false->∀t,yD m f (s+1) t=yD m f s t):=fun hf t=>zI7 m f s t hf;clear hgk ho hkp hc hrow hcc hrl;cases hf:f s with
   |false=>
    rw[hf] at yf;have HX:=HNO.out hf;have HX2:Hid (∀t,yD m f (s+1) t=yD m f s t):=HX;clear hf HX;go_wp2_with fail;go_roundg (n-(s+1))
    case measure=>rw[HA.out.1];omega
    case rel=>exact⟨s+1,rfl,by omega,by go_num,HA.out.2.1.congr fun t _=>by rw[HX2.out t],HA.out.2.2⟩
   |true=>
    rw[hf] at yf;have HX:=HALL.out hf;have HX2:Hid (∀t,qI m f s 256 t=yD m f (s+1) t):=HX;clear hf HX;go_wp2_with fail;clear yr yf;go_loopg [29] 256 (fun q i wr=>∃k:Nat,q=256-k∧k<=256∧i=int i64 (k:Int)∧Row wr w.heap.size 4 (slice (some ⟨w1.heap.size,0,none⟩) n n) n (fun t=>bool (qI m f s k t))∧Grew w wr)
    case atStart=>exact⟨0,rfl,lX,rfl,HA.out.2.1.congr fun t _=>by rw[zGT],HA.out.2.2⟩
    case round=>
     obtain⟨k,hgk,hk,rfl,ho,hkp⟩:=hrel;have HB:Hid (gk=256-k∧Row wr w.heap.size 4 (slice (some ⟨w1.heap.size,0,none⟩) n n) n (fun t=>bool (qI m f s k t))∧Grew w wr):=⟨hgk,ho,hkp⟩
     by_cases hk2:k<256
     ·have i2:(k:Int)<256:=by omega
      have yx:wr.cell? ⟨br,orr+k,none⟩=some (int i64 ((m.next.getD s []).getD k 0)):=zA (HCC.out k hk2) hSr hkp;obtain⟨t1,t2⟩:=HTO.out k hk2;obtain⟨x,hx⟩:∃x:Nat,(m.next.getD s []).getD k 0=(x:Int):=⟨((m.next.getD s []).getD k 0).toNat,by omega⟩
      have HS2:Hid (∀t,qI m f s (k+1) t=if t=x then((x:Int) != 0) else qI m f s k t):=fun t=>HST.out k t x hk2 hx;rw[hx] at yx t1 t2;have hxn:x<n:=by omega
      obtain⟨g,cp,hv,g1,g2,g3,g4,g5,g6⟩:=ho.get (by omega);have eg:g=w1.heap.size:=by injection hv with e1 _ _;injection e1 with e1;injection e1 with e1;exact e1.symm
      subst eg;have yl:wr.cell? ⟨w1.heap.size,x,none⟩=some (bool (qI m f s k x)):=g5 x hxn;have zl:=g6 x;clear hgk ho hkp hv g1 g2 g3 g4 g5 g6 hx;go_wp2_with fail;go_roundg (256-(k+1))
      case measure=>rw[HB.out.1];omega
      case rel=>
       refine⟨k+1,rfl,by omega,by go_num,?_,HB.out.2.2.trans (zO _ _ _ _ (by omega))⟩;have h:=HB.out.2.1.set x (bool ((x:Int) != 0));refine Row.congr h fun t _=>?_;rw[HS2.out t];by_cases e:t=x
       ·subst e;simp
       ·simp[e]
     ·have hke:k=256:=by omega
      have i2:(256:Int)<=(k:Int):=by omega
      have HZ:Hid (Row wr w.heap.size 4 (slice (some ⟨w1.heap.size,0,none⟩) n n) n (fun t=>bool (yD m f (s+1) t))):=by
       refine Row.congr ho fun t _=>?_;rw[hke,HX2.out t]
      clear hgk ho hkp hke;go_wp2_with fail;go_roundg (n-(s+1))
      case measure=>rw[HA.out.1];omega
      case rel=>exact⟨s+1,rfl,by omega,by go_num,HZ.out,HB.out.2.2⟩
  ·have hse:s=n:=by omega
   have i1:(n:Int)<=(s:Int):=by omega
   have HZ:Hid (OwnF wr w.heap.size (slice (some ⟨w1.heap.size,0,none⟩) n n) n (qE m f)):=by
    refine Row.congr ho fun t _=>?_;rw[HRF.out t,hse]
   clear hgk ho hkp hse;go_wp2_with fail;go_ret;exact⟨_,rfl,HZ.out,HA.out.2.2⟩
end
def xM (m:Sm):Nat->Nat->Bool
 |0=>tokF m
 |i+1=>qJ (qE m (xM m i)) (tokF m)
def zAN (m:Sm)(i:Nat):Bool:=decide (jZ m.next.length (qE m (xM m i))<0)
def yC (m:Sm):Int:=if(List.range (m.next.length+1)).findIdx (zAN m)<m.next.length+1 then((List.range (m.next.length+1)).findIdx (zAN m):Int) else -1
theorem zNy (m:Sm)(j:Nat)(hj:j<=m.next.length)(h:zAN m j=true)(ha:∀a,a<j->zAN m a=false):yC m=(j:Int):=by
 have e:(List.range (m.next.length+1)).findIdx (zAN m)=j:=by
  rw[List.findIdx_eq (by simp;omega)];exact⟨by simpa using h,fun a hq=>by simpa using ha a (by simpa using hq)⟩
 unfold yC;rw[e,if_pos (by omega)]
theorem zLr (m:Sm)(ha:∀a,a<=m.next.length->zAN m a=false):yC m=-1:=by
 have h:=List.findIdx_eq_length (xs:=List.range (m.next.length+1)) (p:=zAN m);rw[List.length_range] at h;have e:=h.2 fun a hq=>ha a (by have:=List.mem_range.1 hq;omega);unfold yC;rw[e,if_neg (Nat.lt_irrefl _)]
theorem zNx (m:Sm):-1<=yC m∧yC m<=m.next.length:=by
 unfold yC;split <;> omega
theorem zK8:(prog.info? 28).map (fun i=>(i.zero,i.size,i.bytes))=some (some (slice none 0 0),1,24):=by kernel_rfl
def FrontsAt (w:World)(H:Nat)(v:Value)(d:Nat)(m:Sm):Prop:=∃rv:Nat->Value,w.ownsRow H 28 1 v d ((List.range d).map rv)∧∀i,i<d->OwnF w H (rv i) m.next.length (xM m i)
theorem FrontsAt.grown {w w':World}{H d:Nat}{v:Value}{m:Sm}(h:FrontsAt w H v d m)(hk:Grew w w'):FrontsAt w' H v d m:=by
 obtain⟨rv,h1,h2⟩:=h;exact⟨rv,zK h1 hk,fun i hi=>zK (h2 i hi) hk⟩
theorem FrontsAt.nil (w:World)(H:Nat)(m:Sm):FrontsAt w H (slice none 0 0) 0 m:=⟨fun _=>slice none 0 0,ownsRow_nil _ _ _ _,fun i hi=>by omega⟩
theorem FrontsAt.snoc {w w1 w2:World}{H g cap d:Nat}{v u:Value}{m:Sm}{o:Obj}(h:FrontsAt w1 H v d m)(hu:OwnF w1 H u m.next.length (xM m d))(hw:w=w1)(rv:Nat->Value)(hrv:∀i,i<d->OwnF w1 H (rv i) m.next.length (xM m i))(hv1:w1.ownsRow H 28 1 v d ((List.range d).map rv))
  (hown:w2.ownsRow H 28 1 (slice (some ⟨g,0,none⟩) (d+1) cap) (d+1) ((List.range d).map rv++[u])) (hg:(w1.alloc o).grownBy w2 v.ownBlock):FrontsAt w2 H (slice (some ⟨g,0,none⟩) (d+1) cap) (d+1) m:=by
 have other:∀{x f},OwnF w1 H x m.next.length f->OwnF w2 H x m.next.length f:=fun{x f} ho=>zD ho fun k h1 h2 hk=>(hg.block k (by simp;omega) (xN ho hv1 (by decide) hk)).trans (lG _ _ _ h2)
 refine⟨fun i=>if i=d then u else rv i,?_,fun i hi=>?_⟩
 ·rw[jU,if_pos rfl]
  have e:(List.range d).map (fun i=>if i=d then u else rv i)=(List.range d).map rv:=List.map_congr_left fun i hi=>if_neg (by have:=List.mem_range.1 hi;omega);rw[e];exact hown
 ·by_cases e:i=d
  ·subst e
   simp only[if_true];exact other hu
  ·show OwnF w2 H (if i=d then u else rv i) _ _
   rw[if_neg e];exact other (hrv i (by omega))
theorem zFn (w:World)(nv rv:Value)(m:Sm)(hT:TblAt w nv rv m)(hm:m.Tbl):
  Calls prog 104 #[agg #[nv,rv,int i64 m.start]] w fun e w'=>Grew w w'∧
   ((yC m=-1∧e=returned (tuple #[slice none 0 0,bool false]))∨(∃d v,yC m=((d:Nat):Int)∧d<=m.next.length∧e=returned (tuple #[v,bool true])∧FrontsAt w' w.heap.size v d m)):=by
 obtain⟨i0,hi0,hz0,hz1,hz2⟩:=info_parts zK8;have HM:Hid (TblAt w nv rv m∧m.Tbl):=⟨hT,hm⟩
 obtain⟨an,cn,rfl,hcn,hmn,hnc⟩:=hT.next
 obtain⟨ar,cr,rfl,hcr,hmr,hrc⟩:=hT.rules;have h200:=hm.most;have h1:=hm.one;have HRL:=vl hm.rules;obtain⟨w1,hw1,K1,hs1⟩:∃w1,w1=w.alloc (.cells #[slice an m.next.length cn,slice ar m.rules.length cr,int i64 m.start] 127)∧Hid (Grew w w1∧w1.heap[w.heap.size]? =some (.cells #[slice an m.next.length cn,slice ar m.rules.length cr,int i64 m.start] 127))∧w.heap.size<w1.heap.size:=
  ⟨_,rfl,⟨kZ _ _ lQ,gJ w _⟩,by simp⟩
 go_in;apply wp_cut;intro K0 J;go_wp2;apply J.out;rw[<-hw1];clear hw1;have yb:w1.cell? ⟨w.heap.size,0,none⟩=some (slice an m.next.length cn)∧w1.cell? ⟨w.heap.size,1,none⟩=some (slice ar m.rules.length cr)∧w1.cell? ⟨w.heap.size,2,none⟩=some (int i64 m.start):=by
  refine⟨?_,?_,?_⟩ <;> (unfold cell?;rw[K1.out.2];rfl)
 obtain⟨yb0,yb1,yb2⟩:=yb;go_wp2_with fail;have HTK:Hid (∀wz,Grew w wz->Ca 140 #[agg #[slice an m.next.length cn,slice ar m.rules.length cr,int i64 m.start]] wz fun e w'=>∃u,e=returned u∧OwnF w' wz.heap.size u m.next.length (tokF m)∧Grew wz w'):=fun wz hz=>by
  have h:=zCS wz _ _ m (HM.out.1.grown hz) HM.out.2;rw[HRL.out] at h ⊢;exact h
 refine(HTK.out w1 K1.out.1).mono ?_;rintro e w2 ⟨u,rfl,ho2,hk2⟩;obtain⟨au,cu,hu⟩:=ho2.form;subst hu;have A2:Hid (OwnF w2 w.heap.size (slice au m.next.length cu) m.next.length (xM m 0)∧Grew w w2∧w2.heap[w.heap.size]? =some (.cells #[slice an m.next.length cn,slice ar m.rules.length cr,int i64 m.start] 127)):=⟨vF ho2 (by omega),K1.out.1.trans (hk2.lower (by omega) (by omega)),(hk2.block _ hs1 (by omega)).trans K1.out.2⟩
 go_wp2;go_loopg [4,5,6] (m.next.length+1) (fun q fr fo i wr=>∃j:Nat,q=m.next.length+1-j∧j<=m.next.length+1∧i=int i64 (j:Int)∧FrontsAt wr w.heap.size fr j m∧OwnF wr w.heap.size fo m.next.length (xM m j)∧(∀a,a<j->zAN m a=false)∧Grew w wr∧wr.heap[w.heap.size]? =some (.cells #[slice an m.next.length cn,slice ar m.rules.length cr,int i64 m.start] 127))
 case atStart=>exact⟨0,rfl,lX,rfl,FrontsAt.nil _ _ _,A2.out.1,fun a ha=>by omega,A2.out.2.1,A2.out.2.2⟩
 case round=>
  obtain⟨j,hgk,hj,rfl,hF,ho,hall,hkp,hbx⟩:=hrel;have HA:Hid (gk=m.next.length+1-j∧FrontsAt wr w.heap.size u4 j m∧OwnF wr w.heap.size u5 m.next.length (xM m j)∧(∀a,a<j->zAN m a=false)∧Grew w wr∧wr.heap[w.heap.size]? =some (.cells #[slice an m.next.length cn,slice ar m.rules.length cr,int i64 m.start] 127)):=⟨hgk,hF,ho,hall,hkp,hbx⟩
  have yb:wr.cell? ⟨w.heap.size,0,none⟩=some (slice an m.next.length cn)∧wr.cell? ⟨w.heap.size,1,none⟩=some (slice ar m.rules.length cr)∧wr.cell? ⟨w.heap.size,2,none⟩=some (int i64 m.start):=by
   refine⟨?_,?_,?_⟩ <;> (unfold cell?;rw[hbx];rfl)
  obtain⟨yb0,yb1,yb2⟩:=yb;have hbl:=(kQ.1 hbx).1;obtain⟨a5,c5,hv5⟩:=ho.form;subst hv5;obtain⟨rw4,ho4,hrv4⟩:=hF;obtain⟨a4,c4,hv4⟩:=zG ho4;subst hv4;by_cases hj2:j<=m.next.length
  ·have i1:(j:Int)<=(m.next.length:Int):=by omega
   have HRE:=vl <| zCm wr _ _ _ m (HM.out.1.grown hkp) HM.out.2 (xM m j) (ho.at h1);have HSB:Hid (zAN m j=decide (jZ m.next.length (qE m (xM m j))<0)):=rfl;have HFR:Hid (∀s,xM m (j+1) s=qJ (qE m (xM m j)) (tokF m) s):=fun _=>rfl;go_wp2_with fail;refine HRE.out.mono ?_;rintro e w3 ⟨u3,rfl,ho3,hk3⟩;obtain⟨a3,c3,hv3⟩:=ho3.form;subst hv3;have A3:Hid (OwnF w3 wr.heap.size (slice a3 m.next.length c3) m.next.length (qE m (xM m j))∧Grew wr w3∧Grew w w3):=⟨ho3,hk3,HA.out.2.2.2.2.1.trans (hk3.lower (by omega) (by omega))⟩
   have yb0':w3.cell? ⟨w.heap.size,0,none⟩=some (slice an m.next.length cn):=zA yb0 hbl hk3;have yb1':w3.cell? ⟨w.heap.size,1,none⟩=some (slice ar m.rules.length cr):=zA yb1 hbl hk3;have yb2':w3.cell? ⟨w.heap.size,2,none⟩=some (int i64 m.start):=zA yb2 hbl hk3;clear ho3 hk3 HRE yb0 yb1 yb2;go_wp2_with fail;refine(zD9 w3 _ m.next.length _ (A3.out.1.at h1) h200).mono ?_;rintro e w3' ⟨rfl,rfl⟩;by_cases hneg:jZ m.next.length (qE m (xM m j))<0
   ·have HST:Hid (yC m=(j:Int)):=zNy m j hj2 (by rw[HSB.out];exact dW hneg) HA.out.2.2.2.1
    have FR:Hid (FrontsAt w3' w.heap.size (slice a4 j c4) j m):=HA.out.2.1.grown A3.out.2.1;generalize jZ m.next.length (qE m (xM m j))=fi at *
    go_wp2_with fail;go_ret2
    exact⟨A3.out.2.2,.inr ⟨j,_,HST.out,hj2,rfl,FR.out⟩⟩
   ·have hneg':0<=jZ m.next.length (qE m (xM m j)):=by omega
    have HSF:Hid (zAN m j=false):=by show _=_;rw[HSB.out];exact dY hneg
    generalize jZ m.next.length (qE m (xM m j))=fi at *
    obtain⟨rq,hoq,hrq⟩:=HA.out.2.1.grown A3.out.2.1;have OR:Hid (w3'.ownsRow w.heap.size 28 1 (slice a4 j c4) j ((List.range j).map rq)):=hoq;have HRQ:Hid (∀i,i<j->OwnF w3' w.heap.size (rq i) m.next.length (xM m i)):=hrq;have OU:Hid (OwnF w3' w.heap.size (slice a5 m.next.length c5) m.next.length (xM m j)):=zK HA.out.2.2.1 A3.out.2.1;have hsz3:w.heap.size<=w3'.heap.size:=A3.out.2.2.size;have hb3:w.heap.size<w3'.heap.size:=lZ hbl A3.out.2.1.size;have HNB:Hid (some w.heap.size≠Value.ownBlock (slice a4 j c4)):=by
     intro e;rcases hoq.2 with⟨hv,_⟩|⟨g1,_,cur,hv,_,hh,_⟩
     ·rw[hv] at e;cases e
     ·rw[hv] at e
      have e1:w.heap.size=g1:=by simpa[Value.ownBlock] using e
      have hb:=(A3.out.2.1.block w.heap.size hbl (by omega)).trans HA.out.2.2.2.2.2;rw[e1,hh] at hb;injection hb with hb;injection hb with _ hb _;exact absurd hb (by decide)
    clear hoq hrq hneg;go_wp2_with (first|(at_builtin;refine wpList_append_lies _ rfl _ _ 188 rfl (w.heap.size) 28 i0 (slice none 0 0) 1 24 underlying188 hi0 hz0 hz1 hz2 rfl (by decide) _ _ _ rfl (OR.out.alloc _) ⟨w3'.heap.size,0,none⟩ 1 1 [slice a5 m.next.length c5] rfl rfl (cell_one_new _ _ _) (by intro u hu;simp at hu;subst hu;rfl) (by decide) (by unfold maxLen;omega) (by omega) (by simp;omega) _ rfl ?_;intro gg cap w4 hown hgrow0 hat hlt4;have hgrow:(w3'.alloc (.cells #[slice a5 m.next.length c5] 28)).grownBy w4 (Value.ownBlock (slice a4 j c4)):=hgrow0;have hbx4:w4.heap[w.heap.size]? =w3'.heap[w.heap.size]? :=(hgrow.block w.heap.size (by simp;omega) HNB.out).trans (lG _ _ _ hb3);have yc0:w4.cell? ⟨w.heap.size,0,none⟩=some (slice an m.next.length cn):=(gG hbx4).trans yb0';have yc1:w4.cell? ⟨w.heap.size,1,none⟩=some (slice ar m.rules.length cr):=(gG hbx4).trans yb1';have yc2:w4.cell? ⟨w.heap.size,2,none⟩=some (int i64 m.start):=(gG hbx4).trans yb2'))
    have hB:Below w.heap.size w3' w4:=xQ OR.out hgrow hsz3;have other:∀{x f},OwnF w3' w.heap.size x m.next.length f->OwnF w4 w.heap.size x m.next.length f:=fun{x f} ho=>zD ho fun k h1 h2 hk=>(hgrow.block k (by simp;omega) (xN ho OR.out (by decide) hk)).trans (lG _ _ _ h2)
    have A4:Hid (FrontsAt w4 w.heap.size (slice (some ⟨gg,0,none⟩) (j+1) cap) (j+1) m∧OwnF w4 w.heap.size (slice a3 m.next.length c3) m.next.length (qE m (xM m j))∧Grew w w4):=⟨FrontsAt.snoc ⟨rq,OR.out,HRQ.out⟩ OU.out rfl rq HRQ.out OR.out hown hgrow,other (vF A3.out.1 (Nat.le_of_lt hbl)),A3.out.2.2.trans (xO hB)⟩
    have HBX:Hid (w4.heap[w.heap.size]? =some (.cells #[slice an m.next.length cn,slice ar m.rules.length cr,int i64 m.start] 127)):=hbx4.trans ((A3.out.2.1.block w.heap.size hbl (by omega)).trans HA.out.2.2.2.2.2);clear hown hgrow hgrow0 hat hB hbx4 other yb0' yb1' yb2';refine(HTK.out w4 A4.out.2.2).mono ?_;rintro e w5 ⟨u5',rfl,ho5,hk5⟩;obtain⟨aq,cq,hq⟩:=ho5.form;subst hq;have A5:Hid (OwnF w5 w4.heap.size (slice aq m.next.length cq) m.next.length (tokF m)∧Grew w4 w5):=⟨ho5,hk5⟩
    clear ho5 hk5 yc0 yc1 yc2;go_wp2_with fail;refine(zCj w5 _ _ m.next.length (qE m (xM m j)) (tokF m) (OwnF.at (zK A4.out.2.1 A5.out.2) h1) (A5.out.1.at h1) h200).mono ?_;rintro e w6 ⟨u6,rfl,ho6,hk6⟩;have hk56:Grew w4 w6:=A5.out.2.trans (hk6.lower A5.out.2.size A5.out.2.size);have hs4:w.heap.size<w4.heap.size:=(kQ.1 HBX.out).1;have A6:Hid (FrontsAt w6 w.heap.size (slice (some ⟨gg,0,none⟩) (j+1) cap) (j+1) m∧OwnF w6 w.heap.size u6 m.next.length (xM m (j+1))∧Grew w w6∧w6.heap[w.heap.size]? =some (.cells #[slice an m.next.length cn,slice ar m.rules.length cr,int i64 m.start] 127)):=
     ⟨A4.out.1.grown hk56,vF ho6 (Nat.le_of_lt (lZ hs4 A5.out.2.size)),A4.out.2.2.trans (hk56.lower (by omega) (by omega)),(hk56.block w.heap.size hs4 (by omega)).trans HBX.out⟩
    clear ho6 hk6 hk56;go_wp2_with fail;go_roundg (m.next.length+1-(j+1))
    case measure=>rw[HA.out.1];omega
    case rel=>exact⟨j+1,rfl,by omega,by go_num,A6.out.1,A6.out.2.1,fun a ha=>by(by_cases e:a=j;exact e ▸ HSF.out;exact HA.out.2.2.2.1 a (by omega)),A6.out.2.2.1,A6.out.2.2.2⟩
  ·have i1:(m.next.length:Int)<(j:Int):=by omega
   have HST:Hid (yC m=-1):=zLr m fun a ha=>HA.out.2.2.2.1 a (by omega);clear hgk ho hall hkp hbx ho4 hrv4;go_wp2_with fail;go_ret2
   exact⟨HA.out.2.2.2.2.1,.inl ⟨HST.out,rfl⟩⟩
theorem zKM (w:World)(b:Nat)(hb:b<256):
  (convert 68 9 (slice (some ⟨w.heap.size,0,none⟩) 1 1)).run prog (w.alloc (.cells #[int .u8 (b:Int)] 5))=
   .ok (string ⟨#[UInt8.ofNat b]⟩) (w.alloc (.cells #[int .u8 (b:Int)] 5)):=by
 refine run_convert_bytes_back _ 68 9 5 ⟨w.heap.size,0,none⟩ 1 [UInt8.ofNat b] underlying68 underlying5 underlying9 ?_;intro j hj;have hn:=gJ w (.cells #[int .u8 (b:Int)] 5);generalize w.alloc (.cells #[int .u8 (b:Int)] 5)=w1 at hn ⊢;have:j=0:=by simp at hj;omega
 subst this;have e:([UInt8.ofNat b]:List UInt8)[0].toNat=b:=by simp;omega
 rw[e];simp[Addr.add,cell?,hn]
theorem zCB (w:World)(b:Nat)(hb:b<256):
  Calls prog 150 #[int i64 b] w fun e w'=>e=returned (string ⟨#[UInt8.ofNat b]⟩)∧Grew w w':=by
 have hc:=zKM w b hb;go_in;go_wp2;go_ret;exact⟨rfl,kZ _ _ lQ⟩
theorem zFR (w:World)(nv rv fv:Value)(m:Sm)(hT:TblAt w nv rv m)(hm:m.Tbl)(f:Nat->Bool)(hF:BoolsAt w (In w) fv m.next.length f)(to:Int):
  Calls prog 149 #[agg #[nv,rv,int i64 m.start],fv,int i64 to] w fun e w'=>∃s b:Nat,s<m.next.length∧b<256∧e=returned (tuple #[int i64 s,int i64 b])∧Grew w w':=by
 obtain⟨an,cn,rfl,hcn,hmn,hnc⟩:=hT.next
 obtain⟨ar,cr,rfl,hcr,hmr,hrc⟩:=hT.rules;obtain⟨bf,of_,cf,hbf,rfl,_,_,hcf⟩:=hF;have HN:=vl hnc;have HCF:=vl hcf;have HM:Hid m.Tbl:=hm;have h200:=hm.most;have h1:=hm.one;generalize hn:m.next.length=n at *
 have HNL:=vl hn;go_in;go_wp2;go_loopg [15] n (fun q i wr=>∃s:Nat,q=n-s∧s<=n∧i=int i64 (s:Int)∧Grew w wr)
 case atStart=>exact⟨0,rfl,lX,rfl,kZ _ _ lQ⟩
 case round=>
  obtain⟨s,hgk,hs,rfl,hkp⟩:=hrel;have HA:Hid (gk=n-s∧Grew w wr):=⟨hgk,hkp⟩
  by_cases hs2:s<n
  ·have i1:(s:Int)<(n:Int):=by omega
   obtain⟨b,o,u,rfl,hb,hc,hrow⟩:=HN.out s hs2;have hrl:=HM.out.rows s (by rw[HNL.out];exact hs2);obtain⟨br,orr,pr,rfl,hSr,_,_,hcc⟩:=hrow.block (by omega);have yr:wr.cell? ⟨b,o+s,none⟩=some (slice (some ⟨br,orr,none⟩) 256 pr):=by rw[<-hrl];exact zA hc hb hkp
   have HCC:Hid (∀i,i<256->w.cell? ⟨br,orr+i,none⟩=some (int i64 ((m.next.getD s []).getD i 0))):=by
    intro i hi;exact hcc i (by rw[hrl];exact hi)
   go_wp2;go_loopg [22] 256 (fun q i wr=>∃k:Nat,q=256-k∧k<=256∧i=int i64 (k:Int)∧Grew w wr)
   case atStart=>exact⟨0,rfl,lX,rfl,HA.out.2⟩
   case round=>
    obtain⟨k,hgk,hk,rfl,hkp⟩:=hrel;have HB:Hid (gk=256-k∧Grew w wr):=⟨hgk,hkp⟩
    by_cases hk2:k<256
    ·have i2:(k:Int)<256:=by omega
     have yx:=zA (HCC.out k hk2) hSr hkp;have yf:=zA (HCF.out s hs2) hbf hkp;generalize (m.next.getD s []).getD k 0=x at *;cases hf:f s with
     |false=>
      rw[hf] at yf;go_wp2;go_roundg (256-(k+1))
      case measure=>rw[HB.out.1];omega
      case rel=>exact⟨k+1,rfl,by omega,by go_num,HB.out.2⟩
     |true=>
      rw[hf] at yf;cases hx:(x==to) with
      |true=>
       go_wp2;go_ret2
       exact⟨s,k,hs2,hk2,rfl,HB.out.2⟩
      |false=>
       go_wp2;go_roundg (256-(k+1))
       case measure=>rw[HB.out.1];omega
       case rel=>exact⟨k+1,rfl,by omega,by go_num,HB.out.2⟩
    ·have i2:(256:Int)<=(k:Int):=by omega
     go_wp2;go_roundg (n-(s+1))
     case measure=>rw[HA.out.1];omega
     case rel=>exact⟨s+1,rfl,by omega,by go_num,HB.out.2⟩
  ·have i1:(n:Int)<=(s:Int):=by omega
   go_wp2;go_ret2
   exact⟨0,0,by omega,by omega,rfl,HA.out.2⟩
end Go.Proofs.YtbjcfkdnjaiclaaGreat
