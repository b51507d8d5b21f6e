import Derived.Deep.AppendLies
import Derived.Deep.DrawnRows
import Derived.Deep.RegionHeld3
import Derived.Deep.RegionLaw
import Derived.KernelRfl
import Derived.Laws.Pointers
import Derived.OwnWalk
import Derived.StillTactics
import Derived.Test.YtbjcfkdnjaiclaaGreatProg
import Derived.WalkKit
import Derived.WalkLawsBesides
import Derived.WalkSpells
import Derived.Test.YtbjcfkdnjaiclaaGreatB0
import Derived.Test.YtbjcfkdnjaiclaaGreatB34
/- Parts of the proof, in order. -/
set_option linter.unusedVariables false
set_option linter.unusedSimpArgs false
set_option maxHeartbeats 4000000
set_option maxRecDepth 100000
namespace Go.Proofs.YtbjcfkdnjaiclaaGreat
open Go.RowKit Go.Proofs.Tryz Go.World
def zMy (w:World)(s:ByteArray)(h:Nat)(fo:Bool)(k:Int)(Q:Option Addr->Int->Bool->World->Prop):Prop:=
 Calls prog 30 #[.string s,.agg #[.int .i64 200,.int .i64 (h:Int),.bool fo]] w fun e w'=>Grew w w'∧∃x m0 m1 m2 s0 s1 s2 v0 v1 v2 AH ST LN,e=.returned (.tuple #[.pointer x,.agg #[.slice m0 m1 m2,.slice s0 s1 s2,.slice v0 v1 v2,.int .i64 AH,.bool ST,.int .i64 LN],.int .i64 k])∧Q x AH ST w'
theorem zMu (w:World):∃w0,w0=w.alloc (Obj.cells #[.slice none 0 0,.slice none 0 0,.slice none 0 0,.int .i64 0,.bool false,.int .i64 0] 30)∧Hid (∀w3,Grew w0 w3->w3.heap[w.heap.size]? =some (Obj.cells #[.slice none 0 0,.slice none 0 0,.slice none 0 0,.int .i64 0,.bool false,.int .i64 0] 30))∧Hid (w0.heap.size=w.heap.size+1∧Grew w w0):=⟨_,rfl,fun w3 hk=>(hk.block w.heap.size (by simp) (by simp)).trans (heap_alloc_new w _),by simp,Keep.alloc _ _ (Nat.le_refl _)⟩
theorem zMt {w w0 w1:World}{m0 s0 v0:Option Addr}{m1 m2 s1 s2 v1 v2:Nat}{AH LN:Int}{ST:Bool}(hk1:Grew w0 w1)(HZ0:Hid (w0.heap.size=w.heap.size+1∧Grew w w0)):∃w2,w2=w1.alloc (.cells #[.slice m0 m1 m2,.slice s0 s1 s2,.slice v0 v1 v2,.int .i64 AH,.bool ST,.int .i64 LN] 30)∧w2.cell? ⟨w1.heap.size,0,none⟩=some (.slice m0 m1 m2)∧w2.cell? ⟨w1.heap.size,1,none⟩=some (.slice s0 s1 s2)∧w2.cell? ⟨w1.heap.size,2,none⟩=some (.slice v0 v1 v2)∧w2.cell? ⟨w1.heap.size,3,none⟩=some (.int .i64 AH)∧w2.cell? ⟨w1.heap.size,4,none⟩=some (.bool ST)∧w2.cell? ⟨w1.heap.size,5,none⟩=some (.int .i64 LN)∧Hid (Grew w0 w2∧Grew w1 w2∧w.heap.size<w1.heap.size):=by
 have hn:=heap_alloc_new w1 (.cells #[.slice m0 m1 m2,.slice s0 s1 s2,.slice v0 v1 v2,.int .i64 AH,.bool ST,.int .i64 LN] 30);have ha:Grew w1 (w1.alloc (.cells #[.slice m0 m1 m2,.slice s0 s1 s2,.slice v0 v1 v2,.int .i64 AH,.bool ST,.int .i64 LN] 30)):=Keep.alloc _ _ (Nat.le_refl _);have hz:=hk1.size;rw[HZ0.out.1] at hz;refine⟨_,rfl,?_,?_,?_,?_,?_,?_,hk1.trans (ha.lower hk1.size hk1.size),ha,by omega⟩
 all_goals (unfold cell?;rw[hn];rfl)
theorem zMs {w w2 wa:World}{m0 s0 v0:Option Addr}{m1 m2 s1 s2 v1 v2:Nat}{AH LN:Int}{ST:Bool}(hblk:wa.heap[w.heap.size]? =some (.cells #[.slice m0 m1 m2,.slice s0 s1 s2,.slice v0 v1 v2,.int .i64 AH,.bool ST,.int .i64 LN] 30))(hz:wa.heap.size=w2.heap.size)(ho:wa.os=w2.os)(hu:wa.output=w2.output)(hne:∀k,k≠w.heap.size->wa.heap[k]? =w2.heap[k]?):∃wz,wz=wa.drew∧wz.cell? ⟨w.heap.size,0,none⟩=some (.slice m0 m1 m2)∧wz.cell? ⟨w.heap.size,1,none⟩=some (.slice s0 s1 s2)∧wz.cell? ⟨w.heap.size,2,none⟩=some (.slice v0 v1 v2)∧wz.cell? ⟨w.heap.size,3,none⟩=some (.int .i64 AH)∧wz.cell? ⟨w.heap.size,4,none⟩=some (.bool ST)∧wz.cell? ⟨w.heap.size,5,none⟩=some (.int .i64 LN)∧Hid (wz.os=w2.os∧wz.output=w2.output∧wz.heap.size=w2.heap.size∧(∀k,k≠w.heap.size->wz.heap[k]? =w2.heap[k]?)):=by
 have hb2:wa.drew.heap[w.heap.size]? =some (.cells #[.slice m0 m1 m2,.slice s0 s1 s2,.slice v0 v1 v2,.int .i64 AH,.bool ST,.int .i64 LN] 30):=hblk;refine⟨_,rfl,?_,?_,?_,?_,?_,?_,ho,hu,hz,hne⟩
 all_goals (unfold cell?;rw[hb2];rfl)
theorem zMP (w:World)(s:ByteArray)(h:Nat)(fo:Bool)(Q:Option Addr->Int->Bool->World->Prop)(HG:zMy (w.alloc (Obj.cells #[.slice none 0 0,.slice none 0 0,.slice none 0 0,.int .i64 0,.bool false,.int .i64 0] 30)) s h fo 0 Q)
  (hQ:∀x AH ST w1 w',Q x AH ST w1->(∀k,w.heap.size<k->k<w1.heap.size->w'.heap[k]? =w1.heap[k]?)->w1.heap.size<=w'.heap.size->Q x AH ST w'):
  Calls prog 16 #[.string s,.int .i64 (h:Int),.bool fo] w fun e w'=>Grew w w'∧∃x m0 m1 m2 s0 s1 s2 v0 v1 v2 AH ST LN,e=.returned (.tuple #[.pointer x,.agg #[.slice m0 m1 m2,.slice s0 s1 s2,.slice v0 v1 v2,.int .i64 AH,.bool ST,.int .i64 LN]])∧Q x AH ST w':=by
 obtain⟨w0,hw0,HB0,HZ0⟩:=zMu w;rw[<-hw0] at HG;have HGH:=vl HG;clear HG;go_in;refine wp_cut ?_;intro K0 HK0;go_wp2;rw[<-hw0];refine HK0.out _ _ ?_;clear HK0 hw0;refine wp_cut ?_;intro K0 HK0;go_wp2_with (first|(go_at_call 30;refine HGH.out.mono ?_;rintro e w1 ⟨hk1,x,m0,m1,m2,s0,s1,s2,v0,v1,v2,AH,ST,LN,rfl,hq⟩))
 obtain⟨w2,hw2,x0,x1,x2,x3,x4,x5,HW2⟩:=zMt (m0:=m0) (s0:=s0) (v0:=v0) (m1:=m1) (m2:=m2) (s1:=s1) (s2:=s2) (v1:=v1) (v2:=v2) (AH:=AH) (LN:=LN) (ST:=ST) hk1 HZ0;rw[<-hw2];refine HK0.out _ _ ?_;clear HK0 hw2 HGH;have HQ:=vl hq;clear hq;refine wp_cut ?_;intro K0 HK0;go_wp2;refine HK0.out _ _ ?_;clear HK0;obtain⟨r0,r1,r2,r3,r4,r5,g0,g1,g2,g3,g4,g5⟩:=vW (HB0.out w2 HW2.out.1);have HNE:Hid (w1.heap.size≠w.heap.size):=by have:=HW2.out.2.2;show _≠_;omega
 have HQQ:=vl hQ;clear hQ;refine wp_cut ?_;intro K0 HK0;go_region
 all_goals
  obtain⟨wa,hwa,hblk,hz,ho,hu,hne⟩:=zEo w2 w.heap.size (.slice m0 m1 m2) (.slice s0 s1 s2) (.slice v0 v1 v2) (.int .i64 AH) (.bool ST) (.int .i64 LN) (HB0.out w2 HW2.out.1);rw[<-hwa];obtain⟨wz,hwz,d0,d1,d2,d3,d4,d5,HW⟩:=zMs hblk hz ho hu hne;rw[<-hwz];clear hwa hwz hblk hz ho hu hne;show K0 _ _;refine HK0.out _ _ ?_;clear HK0;go_wp2;refine bodyPost_ret (v:=.tuple #[.pointer x,.agg #[.slice m0 m1 m2,.slice s0 s1 s2,.slice v0 v1 v2,.int .i64 AH,.bool ST,.int .i64 LN]]) (by simp[results,results16,go_sem,d0,d1,d2,d3,d4,d5]) rfl ?_;have hs1:=HW2.out.1.size;have hs2:=HW2.out.2.1.size;refine⟨HZ0.out.2.trans ⟨HW.out.1.trans HW2.out.1.os,HW.out.2.1.trans HW2.out.1.output,by rw[HW.out.2.2.1];exact hs1,fun k k1 k2=>(HW.out.2.2.2 k (by omega)).trans (HW2.out.1.block k (by rw[HZ0.out.1];omega) (by rw[HZ0.out.1];omega))⟩,x,m0,m1,m2,s0,s1,s2,v0,v1,v2,AH,ST,LN,rfl,?_⟩;exact HQQ.out _ _ _ w1 wz HQ.out (fun k k1 k2=>(HW.out.2.2.2 k (by omega)).trans (HW2.out.2.1.block k k2 (by omega))) (by rw[HW.out.2.2.1];exact hs2)
theorem zNd (w:World)(s:ByteArray)(h:Nat)(fo:Bool)(k:Nat)(hk0:(k:Int)≠0)(Q:Option Addr->Int->Bool->World->Prop)(HG:zMy (w.alloc (Obj.cells #[.slice none 0 0,.slice none 0 0,.slice none 0 0,.int .i64 0,.bool false,.int .i64 0] 30)) s h fo (k:Int) (fun _ AH ST w'=>Q none AH ST w'))
  (hQ:∀x AH ST w1 w',Q x AH ST w1->(∀k,w.heap.size<k->k<w1.heap.size->w'.heap[k]? =w1.heap[k]?)->w1.heap.size<=w'.heap.size->Q x AH ST w'):
  Calls prog 16 #[.string s,.int .i64 (h:Int),.bool fo] w fun e w'=>Grew w w'∧∃x m0 m1 m2 s0 s1 s2 v0 v1 v2 AH ST LN,e=.returned (.tuple #[.pointer x,.agg #[.slice m0 m1 m2,.slice s0 s1 s2,.slice v0 v1 v2,.int .i64 AH,.bool ST,.int .i64 LN]])∧Q x AH ST w':=by
 obtain⟨w0,hw0,HB0,HZ0⟩:=zMu w;rw[<-hw0] at HG;have HGH:=vl HG;clear HG;go_in;refine wp_cut ?_;intro K0 HK0;go_wp2;rw[<-hw0];refine HK0.out _ _ ?_;clear HK0 hw0;refine wp_cut ?_;intro K0 HK0;go_wp2_with (first|(go_at_call 30;refine HGH.out.mono ?_;rintro e w1 ⟨hk1,x,m0,m1,m2,s0,s1,s2,v0,v1,v2,AH,ST,LN,rfl,hq⟩))
 obtain⟨w2,hw2,x0,x1,x2,x3,x4,x5,HW2⟩:=zMt (m0:=m0) (s0:=s0) (v0:=v0) (m1:=m1) (m2:=m2) (s1:=s1) (s2:=s2) (v1:=v1) (v2:=v2) (AH:=AH) (LN:=LN) (ST:=ST) hk1 HZ0;rw[<-hw2];refine HK0.out _ _ ?_;clear HK0 hw2 HGH;have HQ:=vl hq;clear hq;refine wp_cut ?_;intro K0 HK0;obtain⟨r0,r1,r2,r3,r4,r5,g0,g1,g2,g3,g4,g5⟩:=vW (HB0.out w2 HW2.out.1);have HNE:Hid (w1.heap.size≠w.heap.size):=by have:=HW2.out.2.2;show _≠_;omega
 have HQQ:=vl hQ;clear hQ;go_wp2;go_region
 all_goals
  obtain⟨wa,hwa,hblk,hz,ho,hu,hne⟩:=zEo w2 w.heap.size (.slice m0 m1 m2) (.slice s0 s1 s2) (.slice v0 v1 v2) (.int .i64 AH) (.bool ST) (.int .i64 LN) (HB0.out w2 HW2.out.1);rw[<-hwa];obtain⟨wz,hwz,d0,d1,d2,d3,d4,d5,HW⟩:=zMs hblk hz ho hu hne;rw[<-hwz];clear hwa hwz hblk hz ho hu hne;go_wp2;refine bodyPost_ret (v:=.tuple #[.pointer none,.agg #[.slice m0 m1 m2,.slice s0 s1 s2,.slice v0 v1 v2,.int .i64 AH,.bool ST,.int .i64 LN]]) (by simp[results,results16,go_sem,d0,d1,d2,d3,d4,d5]) rfl ?_;have hs1:=HW2.out.1.size;have hs2:=HW2.out.2.1.size;refine⟨HZ0.out.2.trans ⟨HW.out.1.trans HW2.out.1.os,HW.out.2.1.trans HW2.out.1.output,by rw[HW.out.2.2.1];exact hs1,fun k k1 k2=>(HW.out.2.2.2 k (by omega)).trans (HW2.out.1.block k (by rw[HZ0.out.1];omega) (by rw[HZ0.out.1];omega))⟩,none,m0,m1,m2,s0,s1,s2,v0,v1,v2,AH,ST,LN,rfl,?_⟩;exact HQQ.out _ _ _ w1 wz HQ.out (fun k k1 k2=>(HW.out.2.2.2 k (by omega)).trans (HW2.out.2.1.block k k2 (by omega))) (by rw[HW.out.2.2.1];exact hs2)
theorem zMg {s:ByteArray}{st ho:Int}{n k:Nat}(h:zAL s st ho=.inr (n,k)):k≠0:=by
 unfold zAL at h;split at h
 ·cases h;decide
 cases hsp:jK s with
 |inr e=>rw[hsp] at h;have h:=Sum.inr.inj h;subst h;exact zEG hsp
 |inl sh=>
  rw[hsp] at h;have h2:(match xZ (1+6*s.size) sh sh.modes.length 0 st.toNat with|none=>.inr (0,5)|some ms=>.inl (ms,sh))=(.inr (n,k):(List Sm×Sh) ⊕ (Nat×Nat)):=h;split at h2
  ·cases h2;decide
  ·cases h2
def OfQ (s:ByteArray)(h:Nat)(fo:Bool)(B:Nat)(x:Option Addr)(AH:Int)(ST:Bool)(w':World):Prop:=match zAC s with
 |none=>x=none
 |some y=>∃L t,x=some ⟨L,0,none⟩∧AH=aheadTo y.1 y.1.length∧ST=zJk y fo∧LexIn w' B L y h fo t
theorem OfQ.keep {s:ByteArray}{h:Nat}{fo:Bool}{B C:Nat}{x:Option Addr}{AH:Int}{ST:Bool}{w w':World}(q:OfQ s h fo B x AH ST w)(e:∀k,B<=k->k<w.heap.size->w'.heap[k]? =w.heap[k]?)(hs:w.heap.size<=w'.heap.size)(hc:C<=B):OfQ s h fo C x AH ST w':=by
 unfold OfQ at q ⊢;cases hl:zAC s with
 |none=>rw[hl] at q;exact q
 |some y=>
  rw[hl] at q;obtain⟨L,t,h1,h2,h3,h4⟩:=q;exact⟨L,t,h1,h2,h3,(h4.keep e hs).less hc⟩
def zNf (w:World)(s:ByteArray)(h:Nat)(fo:Bool)(e:Ending)(w':World):Prop:=Grew w w'∧∃x m0 m1 m2 s0 s1 s2 v0 v1 v2 AH ST LN,e=.returned (.tuple #[.pointer x,.agg #[.slice m0 m1 m2,.slice s0 s1 s2,.slice v0 v1 v2,.int .i64 AH,.bool ST,.int .i64 LN]])∧OfQ s h fo w.heap.size x AH ST w'
theorem zHP (w:World)(s:ByteArray)(hs:s.size<=1048576)(h:Nat)(h1:1<=h)(h2:h<=64)(fo:Bool):Calls prog 16 #[.string s,.int .i64 (h:Int),.bool fo] w (zNf w s h fo):=by
 have hg:=zBU (w.alloc (Obj.cells #[.slice none 0 0,.slice none 0 0,.slice none 0 0,.int .i64 0,.bool false,.int .i64 0] 30)) s hs 200 (h:Int) fo;have e1:=zKt s (h:Int) (by omega) (by omega);have hz:(w.alloc (Obj.cells #[.slice none 0 0,.slice none 0 0,.slice none 0 0,.int .i64 0,.bool false,.int .i64 0] 30)).heap.size=w.heap.size+1:=by simp
 have hQ:∀x AH ST w1 w',OfQ s h fo (w.heap.size+1) x AH ST w1->(∀k,w.heap.size<k->k<w1.heap.size->w'.heap[k]? =w1.heap[k]?)->w1.heap.size<=w'.heap.size->OfQ s h fo (w.heap.size+1) x AH ST w':=fun x AH ST w1 w' q e hs=>q.keep (fun k k1 k2=>e k (by omega) k2) hs (Nat.le_refl _);cases hm:zAL s 200 64 with
 |inr er=>
  obtain⟨n,k⟩:=er;rw[e1,hm] at hg;have hl:zAC s=none:=by unfold zAC;rw[hm]
  ·have hk:=zMg hm
   refine(zNd w s h fo k (by omega) (OfQ s h fo (w.heap.size+1)) (hg.mono ?_) hQ).mono ?_
   ·rintro e w' ⟨-,hk',rfl⟩
    exact⟨hk',none,none,0,0,none,0,0,none,0,0,0,false,(n:Int),rfl,by unfold OfQ;rw[hl]⟩
   ·rintro e w' ⟨hk',x,m0,m1,m2,s0,s1,s2,v0,v1,v2,AH,ST,LN,rfl,hq⟩
    exact⟨hk',x,m0,m1,m2,s0,s1,s2,v0,v1,v2,AH,ST,LN,rfl,hq.keep (fun _ _ _=>rfl) (Nat.le_refl _) (by omega)⟩
 |inl y=>
  obtain⟨ms,sh⟩:=y;rw[e1,hm] at hg;have hl:zAC s=some (ms,sh):=by unfold zAC;rw[hm]
  refine(zMP w s h fo (OfQ s h fo (w.heap.size+1)) (hg.mono ?_) hQ).mono ?_
  ·rintro e w' ⟨hk',L,p,H,c,n,m0,m1,m2,s0,s1,s2,v0,v1,v2,rfl,c1,c2,c3,c4,c5,c6,c7,c8,c9,c10⟩
   refine⟨hk',_,m0,m1,m2,s0,s1,s2,v0,v1,v2,_,_,_,rfl,?_⟩;unfold OfQ;rw[hl];have hi:=LexIn.of (w:=w.alloc (Obj.cells #[.slice none 0 0,.slice none 0 0,.slice none 0 0,.int .i64 0,.bool false,.int .i64 0] 30)) (e1.trans hm) c1 c2 c3 c4 c5 c6 c7 c8 c9 c10;rw[hz] at hi;exact⟨L,_,rfl,rfl,rfl,hi⟩
  ·rintro e w' ⟨hk',x,m0,m1,m2,s0,s1,s2,v0,v1,v2,AH,ST,LN,rfl,hq⟩
   exact⟨hk',x,m0,m1,m2,s0,s1,s2,v0,v1,v2,AH,ST,LN,rfl,hq.keep (fun _ _ _=>rfl) (Nat.le_refl _) (by omega)⟩
theorem zIK (w:World)(s:ByteArray)(hs:s.size<=1048576):Calls prog 29 #[.string s] w fun e w'=>e=.returned (.tuple #[.bool (zAC s).isNone,.bool true])∧Grew w w':=by
 have hg:=zBU w s hs 200 64 false;cases hm:zAL s 200 64 with
 |inr er=>
  obtain⟨n,k⟩:=er;rw[hm] at hg;have HG:=vl hg;have hl:zAC s=none:=by unfold zAC;rw[hm]
  rw[hl];go_in;go_wp2_with (first|(go_at_call 30;refine HG.out.mono ?_;rintro e w1 ⟨hk0,hk1,rfl⟩;have hkb:((k:Int) != 0)=true:=by simpa using hk0))
  refine bodyPost_ret (results_tmp2 rfl _ _ _) rfl ?_;exact⟨by simp only[hkb];rfl,hk1.trans (Keep.alloc _ _ hk1.size)⟩
 |inl y=>
  obtain⟨ms,sh⟩:=y;rw[hm] at hg;have HG:=vl hg;have hl:zAC s=some (ms,sh):=by unfold zAC;rw[hm]
  rw[hl];go_in;go_wp2_with (first|(go_at_call 30;refine HG.out.mono ?_;rintro e w1 ⟨hk1,L,p,H,c,n,m0,m1,m2,s0,s1,s2,v0,v1,v2,rfl,-⟩))
  refine bodyPost_ret (results_tmp2 rfl _ _ _) rfl ?_;exact⟨rfl,hk1.trans (Keep.alloc _ _ hk1.size)⟩
section
attribute [local go_sem ↓] Go.wp_at_zero Go.wp_at_succ
theorem zLn:(prog.info? 51).map (fun i=>(i.zero,i.size,i.bytes))=some (some (.agg #[.int .i64 0,.int .i64 0,.int .i64 0,.int .i64 0,.int .i64 0,.int .i64 0]),6,48):=by kernel_rfl
theorem zDK {w w1:World}{o:Obj}{row:Option Nat}(h:(w.alloc o).drew.grownBy w1 row):w.grownBy w1 row:=
 ⟨h.os,h.tape,h.output,Nat.le_trans (by simp) h.size,fun k hk hne=>(h.block k (by simp;omega) hne).trans (Below.heap_alloc w o k hk)⟩
def vF (k r f t l c:Int):List Value:=[.int .i64 k,.int .i64 r,.int .i64 f,.int .i64 t,.int .i64 l,.int .i64 c]
theorem zK0 (b:Nat)(kind rule to at_ line col:Int)(ov:Value)(n base:Nat)(xs:List Value)(w:World)
  (h2:w.cell? ⟨b,2,none⟩=some ov)
  (h8:w.cell? ⟨b,8,none⟩=some (.int .i64 at_)) (h9:w.cell? ⟨b,9,none⟩=some (.int .i64 line)) (h10:w.cell? ⟨b,10,none⟩=some (.int .i64 col))
  (f2:w.frozen? ⟨b,2,none⟩=false)
  (hown:w.ownsRow base 51 6 ov n xs) (hbase:base<=w.heap.size) (hn:n+1<=maxLen) (hb:(n+1)*48<=140737488355328)
  (ag:ov.ownBlock≠some b):
  Calls prog 157 #[.pointer (some ⟨b,0,none⟩),.int .i64 kind,.int .i64 rule,.int .i64 to] w fun e w'=>
   e=.returned (.tuple #[])∧∃g cap w1,w1.ownsRow base 51 6 (.slice (some ⟨g,0,none⟩) (n+1) cap) (n+1) (xs++vF kind rule at_ to line col)∧
    w.grownBy w1 ov.ownBlock∧(ov.ownBlock=some g∨g=w.heap.size+1)∧g<w1.heap.size∧w'=w1.setCell ⟨b,2,none⟩ (.slice (some ⟨g,0,none⟩) (n+1) cap):=by
 obtain⟨i0,hi0,hz0,hz1,hz2⟩:=info_parts zLn;have lb:=World.block_lt_of_cell? w _ h2;go_enter func157,ntmps157
 go_wp2_with fail;go_region_law ((refine step_append_lies _ (by rfl) (.tmp 12) (.tmp 32) 48 (by rfl) base 51 i0 _ 6 48 underlying48 hi0 hz0 hz1 hz2 rfl (by omega) ov n xs (by simp[Act.eval,Act.put]) ((hown.alloc _).drew) ⟨w.heap.size,0,none⟩ 1 1 (vF kind rule at_ to line col) (by simp[Act.eval,Act.put]) (by rfl) (news_of_block (cs:=#[.int .i64 kind,.int .i64 rule,.int .i64 at_,.int .i64 to,.int .i64 line,.int .i64 col]) (t:=51) (fr:=(0,0)) (heap_alloc_new w _)) (by simp[Value.oneCell',vF]) (by omega) hn hb (by simp;omega) (w.heap.size+1) (by simp) ?_;intro gg cap w1 hown1 hgrow hat hlt;have hc1:w1.cell? ⟨b,2,none⟩=some ov:=(hgrow.cell_far ⟨b,2,none⟩ (by simp;omega) (Ne.symm ag)).trans ((cell?_alloc_past _ _ _ lb).trans h2);have hfz1:w1.frozen? ⟨b,2,none⟩=false:=(hgrow.frozen_far ⟨b,2,none⟩ (by simp;omega) (Ne.symm ag)).trans ((frozen?_alloc_past _ _ _ lb).trans f2)))
 all_goals (go_end0;exact⟨rfl,gg,cap,w1,hown1,zDK hgrow,hat,hlt,rfl⟩)
end
theorem zId (b i:Nat)(w:World)(r:Rs){v0:Value}(hR:zK w b r v0)(hf:r.first<64)(hi:i<64):
  Calls prog 151 #[.pointer (some ⟨b,12,none⟩),.int .i64 i] w fun e w'=>e=.returned (.int .u8 (r.byte ((r.first+i)%64)))∧w'.Alike w:=by
 have h1:=hR.get_first;have hx:=hR.get_byte ((r.first+i)%64) (Nat.mod_lt _ (by decide));generalize r.first=f at *
 go_in;go_wp2;go_quiet (fail);go_wp2;go_ret;exact⟨rfl,rfl,rfl,rfl⟩
theorem zFi (b n:Nat)(w:World)(r:Rs){v0:Value}(hR:zK w b r v0)(hf:r.first<64)(hn:n<=r.count)(hc:r.count<=64):
  Calls prog 152 #[.pointer (some ⟨b,12,none⟩),.int .i64 n] w fun e w'=>e=.returned (.tuple #[])∧
   zK w' b {r with first:=(r.first+n)%64,count:=r.count-n} v0∧∀H,Keep H b w w':=by
 have h1:=hR.get_first;have h2:=hR.get_count;have f1:=hR.frozen 76;have f2:=hR.frozen 77;have HF:=vl hR;generalize hf0:r.first=f at *
 generalize hc0:r.count=c at *;have HE:Hid (r.first=f∧r.count=c):=⟨hf0,hc0⟩
 go_in;go_wp2;go_end0;refine⟨rfl,?_,fun H=>(Keep.set w _ _).trans (Keep.set _ _ _)⟩;have e1:((f:Int)+(n:Int))%64=(((f+n)%64:Nat):Int):=by omega
 have e2:((c:Int)-(n:Int))=((c-n:Nat):Int):=by omega
 rw[e1,e2];exact(HF.out.set_first _).set_count _
theorem zGj (b v:Nat)(w:World)(r:Rs){v0:Value}(hR:zK w b r v0)(hf:r.first<64)(hc:r.count<64):
  Calls prog 107 #[.pointer (some ⟨b,12,none⟩),.int .u8 v] w fun e w'=>e=.returned (.tuple #[])∧
   zK w' b {r with byte:=fun j=>if j=(r.first+r.count)%64 then v else r.byte j,count:=r.count+1} v0∧∀H,Keep H b w w':=by
 have h1:=hR.get_first;have h2:=hR.get_count;have h3:=hR.get_byte ((r.first+r.count)%64) (Nat.mod_lt _ (by decide));have f1:=hR.frozen 77;have f2:=hR.frozen (12+(r.first+r.count)%64);have HF:=vl hR;generalize hf0:r.first=f at *
 generalize hc0:r.count=c at *;have hm:(f+c)%64<64:=Nat.mod_lt _ (by decide);have hne:¬(12+(f+c)%64=77):=by omega
 go_in;go_wp2;go_region
 all_goals go_wp2
 all_goals go_end0
 all_goals
  refine⟨rfl,?_,fun H=>((Keep.set w _ _).trans (Keep.set _ _ _)).trans (Keep.drew _)⟩;rw[show ((c:Int)+1)=((c+1:Nat):Int) by omega];subst hf0 hc0;exact((HF.out.set_byte _ v hm).set_count _).drew
theorem zET (b m:Nat)(w:World)(r:Rs){v0:Value}(hR:zK w b r v0)(hd:r.depth<4):
  Calls prog 71 #[.pointer (some ⟨b,0,none⟩),.int .i64 m] w fun e w'=>e=.returned (.tuple #[])∧
   zK w' b {r with stack:=fun j=>if j=r.depth then m else r.stack j,depth:=r.depth+1} v0∧∀H,Keep H b w w':=by
 have h1:=hR.get_depth;have h3:=hR.get_stack r.depth hd;have f1:=hR.frozen 7;have f2:=hR.frozen (3+r.depth);have HF:=vl hR;generalize hd0:r.depth=d at *;have hne:¬(3+d=7):=by omega
 go_in;go_wp2;go_region
 all_goals go_wp2
 all_goals go_end0
 all_goals
  refine⟨rfl,?_,fun H=>((Keep.set w _ _).trans (Keep.set _ _ _)).trans (Keep.drew _)⟩;rw[show ((d:Int)+1)=((d+1:Nat):Int) by omega];subst hd0;exact((HF.out.set_stack _ m hd).set_depth _).drew
theorem zDj (b:Nat)(w:World)(r:Rs)(ao:Option Addr)(n cap:Nat)(hR:zK w b r (.slice ao n cap)):
  Calls prog 75 #[.pointer (some ⟨b,0,none⟩)] w fun e w'=>e=.returned (.slice ao n cap)∧
   zK w' b r (.slice none 0 0)∧∀H,Keep H b w w':=by
 have h1:=hR.get_told;have f1:=hR.frozen 2;have HF:=vl hR;go_in;go_wp2;go_ret;exact⟨rfl,HF.out.set_told _,fun H=>Keep.set w _ _⟩
def zAk (v l:Nat):Nat:=if v=10 then l+1 else l
def zBW (v c:Nat):Nat:=if v=10 then 1 else c+1
theorem zJe (a l c v:Nat)(w:World)(ha:a<2147483648)(hl:l<2147483648)(hc:c<2147483648)(hv:v<256):
  Calls prog 153 #[.agg #[.int .i64 a,.int .i64 l,.int .i64 c],.int .u8 v] w fun e w'=>
   e=.returned (.agg #[.int .i64 ((a+1:Nat):Int),.int .i64 ((if v=10 then l+1 else l:Nat):Int),.int .i64 ((if v=10 then 1 else c+1:Nat):Int)])∧Below w.heap.size w w':=by
 by_cases hv10:v=10
 ·have ht:((v:Int)==10)=true:=by rw[beq_iff_eq];omega
  have HV:=vl hv10;go_in;go_wp2;refine bodyPost_ret (v:=.agg #[.int .i64 ((a:Int)+1),.int .i64 ((l:Int)+1),.int .i64 1]) (by simp[results,results153,go_sem]) rfl ⟨?_,?_⟩
  ·rfl
  ·exact((Below.refl _ _).alloc (Nat.le_refl _) _).alloc (by simp) _
 ·have ht:((v:Int)==10)=false:=by rw[beq_eq_false_iff_ne];omega
  have HV:=vl hv10;go_in;go_wp2;refine bodyPost_ret (v:=.agg #[.int .i64 ((a:Int)+1),.int .i64 (l:Int),.int .i64 ((c:Int)+1)]) (by simp[results,results153,go_sem]) rfl ⟨?_,?_⟩
  ·rfl
  ·exact((Below.refl _ _).alloc (Nat.le_refl _) _).alloc (by simp) _
theorem zDh (a l c v:Nat)(w:World)(ha:a<2147483648)(hl:l<2147483648)(hc:c<2147483648)(hv:v<256):
  Calls prog 153 #[.agg #[.int .i64 a,.int .i64 l,.int .i64 c],.int .u8 v] w fun e w'=>
   e=.returned (.agg #[.int .i64 ((a+1:Nat):Int),.int .i64 (zAk v l:Nat),.int .i64 (zBW v c:Nat)])∧Below w.heap.size w w':=zJe a l c v w ha hl hc hv
theorem jX (b:Nat)(w:World)(r:Rs){v0:Value}(hR:zK w b r v0)(S:Nat->Prop)(t:Tb)(hT:TabAt w S r.tp t)(hd0:1<=r.depth)(hd:r.depth<=4)(hm:r.stack (r.depth-1)<t.nmode):
  Calls prog 72 #[.pointer (some ⟨b,0,none⟩)] w fun e w'=>e=.returned (.int .i64 (t.start (r.stack (r.depth-1))))∧w'.Alike w:=by
 have h0:=hR.get_tp;have h1:=hR.get_depth;have h2:=hR.get_stack (r.depth-1) (by omega);obtain⟨_,h3,b3,o3,cap3,hb3,rfl,hcap3,hml3,hL⟩:=hT.c3;have hx:w.cell? ⟨b3,o3+r.stack (r.depth-1),none⟩=some (.int .i64 (t.start (r.stack (r.depth-1)):Nat)):=hL _ hm;generalize r.tp=p at *;generalize t.start (r.stack (r.depth-1))=x at *;generalize r.stack (r.depth-1)=m at *;generalize r.depth=d at *;generalize t.nmode=n at *;have i1:(m:Int)<(n:Int):=by omega
 have i2:(1:Int)<=(d:Int):=by omega
 have i3:(d:Int)<=4:=by omega
 have h2':=h2;go_in;go_wp2;go_quiet (fail);go_wp2;go_ret;exact⟨rfl,rfl,rfl,rfl⟩
section
structure Cx (H b:Nat)(S:Nat->Prop)(t:Tb)(w:World)(r:Rs)(v0:Value)(n:Nat)(xs:List Value):Prop where
 run:zK w b r v0
 own:w.ownsRow H 51 6 v0 n xs
 tab:TabAt w S r.tp t
 bH:b<H
 HH:H<=w.heap.size
 safe:∀k,S k->k<H∧k≠b
namespace Cx
variable {H b:Nat} {S:Nat->Prop} {t:Tb} {w w':World} {r r':Rs} {v0 v1:Value} {n n':Nat} {xs xs':List Value}
theorem below (h:Cx H b S t w r v0 n xs)(e:Below w.heap.size w w'):Cx H b S t w' r v0 n xs:=
 ⟨h.run.below e,h.own.kept ⟨e.os,e.tape,e.output,e.size,fun k hk _=>e.block k hk⟩ (row:=none) (by cases hv:v0.ownBlock <;> simp),h.tab.keep fun k hk=>e.block k (Nat.lt_of_lt_of_le (h.safe k hk).1 h.HH),h.bH,Nat.le_trans h.HH e.size,h.safe⟩
theorem alloc (h:Cx H b S t w r v0 n xs)(o:Obj):Cx H b S t (w.alloc o) r v0 n xs:=h.below ((Below.refl _ _).alloc (Nat.le_refl _) _)
theorem alike (h:Cx H b S t w r v0 n xs)(e:w'.Alike w):Cx H b S t w' r v0 n xs:=
 ⟨h.run.alike e,by unfold World.ownsRow;rw[e.1];exact h.own,h.tab.keep fun k _=>by rw[e.1],h.bH,by rw[e.1];exact h.HH,h.safe⟩
theorem next (h:Cx H b S t w r v0 n xs)(hk:Keep H b w w')(hr:zK w' b r' v1)(htp:r'.tp=r.tp)(ho:w'.ownsRow H 51 6 v1 n' xs'):Cx H b S t w' r' v1 n' xs':=
 ⟨hr,ho,by rw[htp];exact h.tab.keep fun k hs=>hk.block k (h.safe k hs).1 (h.safe k hs).2,h.bH,Nat.le_trans h.HH hk.size,h.safe⟩
theorem stored (h:Cx H b S t w r v0 n xs)(i:Nat)(v:Value)(hr:zK (w.setCell ⟨b,i,none⟩ v) b r' v0)(htp:r'.tp=r.tp):Cx H b S t (w.setCell ⟨b,i,none⟩ v) r' v0 n xs:=
 h.next (Keep.set _ _ _) hr htp (ownsRow_setCell_below h.own h.bH _)
theorem kept (h:Cx H b S t w r v0 n xs)(hk:∀H,Keep H b w w')(hr:zK w' b r' v0)(htp:r'.tp=r.tp):Cx H b S t w' r' v0 n xs:=
 h.next (hk H) hr htp (by
  refine⟨h.own.1,h.own.2.imp id ?_⟩;rintro⟨g,cap,cur,hv,hg,hh,rest⟩;have hlt:=(Array.getElem?_eq_some_iff.1 hh).1;have hbH:=h.bH;exact⟨g,cap,cur,hv,hg,((hk w.heap.size).block g hlt (by omega)).trans hh,rest⟩)
end Cx
theorem zAN (b H:Nat)(S:Nat->Prop)(t:Tb)(kind rule to:Int)(w:World)(r:Rs)(v0:Value)(n:Nat)(xs:List Value)(hC:Cx H b S t w r v0 n xs)(hn:n<=4194304):
  Calls prog 157 #[.pointer (some ⟨b,0,none⟩),.int .i64 kind,.int .i64 rule,.int .i64 to] w fun e w'=>
   e=.returned (.tuple #[])∧∃ao cap,Cx H b S t w' r (.slice ao (n+1) cap) (n+1) (xs++vF kind rule r.bAt to r.bLine r.bCol)∧Keep H b w w'∧
    ∀k,k<w.heap.size->k≠b->some k≠v0.ownBlock->w'.heap[k]? =w.heap[k]? :=by
 have hR:=hC.run;have hown:=hC.own;have hb:=hC.bH;have hH:=hC.HH;have hlt:=hown.lt;have ag:v0.ownBlock≠some b:=fun e=>by have:=hlt b e;omega
 refine(zK0 b kind rule to r.bAt r.bLine r.bCol v0 n H xs w hR.get_told hR.get_bAt hR.get_bLine hR.get_bCol (hR.frozen 2) hown hH (by unfold maxLen;omega) (by omega) ag).mono ?_;rintro e w' ⟨rfl,g,cap,w1,hown1,hgrow,hat,hlt1,rfl⟩;have hR1:=hR.of_block (hgrow.block b hR.lt (Ne.symm ag));have hk:Keep H b w (w1.setCell ⟨b,2,none⟩ (.slice (some ⟨g,0,none⟩) (n+1) cap)):=(Keep.grown hgrow hH fun k hk=>(hlt k hk).1).trans (Keep.set _ _ _);refine⟨rfl,some ⟨g,0,none⟩,cap,hC.next hk (hR1.set_told _) rfl (ownsRow_setCell_below hown1 hb _),hk,fun k h1 h2 h3=>?_⟩;exact(Below.heap_setCell _ _ _ _ h2).trans (hgrow.block k h1 h3)
theorem qY (b H:Nat)(S:Nat->Prop)(t:Tb)(kind:Int)(w:World)(r:Rs)(v0:Value)(n:Nat)(xs:List Value)(hC:Cx H b S t w r v0 n xs)(hn:n<=4194304):
  Calls prog 110 #[.pointer (some ⟨b,0,none⟩),.int .i64 kind] w fun e w'=>
   e=.returned (.tuple #[])∧∃ao cap,Cx H b S t w' {r with opn:=false} (.slice ao (n+1) cap) (n+1) (xs++vF kind 0 r.bAt r.bAt r.bLine r.bCol)∧Keep H b w w':=by
 have h8:=hC.run.get_bAt;have HC:=vl hC;go_in;go_wp2_with fail;refine(zAN b H S t kind 0 r.bAt _ r v0 n xs HC.out hn).mono ?_;rintro e w1 ⟨rfl,ao,cap,cb,hk1,_⟩;have c1:=cb.run.get_opn;have f1:=cb.run.frozen 1;have HC1:=vl cb;have HK:=vl hk1;go_wp2;go_end0;exact⟨rfl,ao,cap,HC1.out.stored 1 _ (HC1.out.run.set_opn false) rfl,HK.out.trans (Keep.set _ _ _)⟩
theorem zIq (b H:Nat)(S:Nat->Prop)(t:Tb)(w:World)(r:Rs)(v0:Value)(n:Nat)(xs:List Value)(hC:Cx H b S t w r v0 n xs)(hn:n<=4194304)
  (rule eAt eLine eCol:Nat) (hr:rule<t.nrule) (ho:t.act rule=2) (hd:r.depth=4):
  Calls prog 156 #[.pointer (some ⟨b,0,none⟩),.int .i64 rule,.agg #[.int .i64 eAt,.int .i64 eLine,.int .i64 eCol]] w fun e w'=>
   e=.returned (.tuple #[])∧∃ao cap,Cx H b S t w' {r with opn:=false} (.slice ao (n+1) cap) (n+1) (xs++vF 4 0 r.bAt r.bAt r.bLine r.bCol)∧Keep H b w w':=by
 have h0:=hC.run.get_tp;have h7:=hC.run.get_depth;obtain⟨_,h4,b4,o4,cap4,hb4,rfl,hcap4,hml4,hL⟩:=hC.tab.c4;have hx:w.cell? ⟨b4,o4+rule,none⟩=some (.int .i64 (t.act rule:Nat)):=hL _ hr;rw[ho] at hx;rw[hd] at h7;have i1:(rule:Int)<(t.nrule:Int):=by omega
 have l0:b<w.heap.size:=hC.run.lt;have l4:b4<w.heap.size:=Nat.lt_of_lt_of_le (hC.safe _ hb4).1 hC.HH;have lp:r.tp<w.heap.size:=Nat.lt_of_lt_of_le (hC.safe _ hC.tab.safe).1 hC.HH;have HC:=vl hC;go_in;go_wp2_with fail;refine(qY b H S t 4 _ r v0 n xs (HC.out.alloc _) hn).mono ?_;rintro e w1 ⟨rfl,ao,cap,hC1,hk1⟩;have HC1:=vl hC1;go_wp2;refine bodyPost_ret (results_none rfl _ _ _) rfl ?_;exact⟨rfl,ao,cap,HC1.out,(Keep.alloc _ _ HC.out.HH).trans hk1⟩
theorem zHg (b H:Nat)(S:Nat->Prop)(t:Tb)(w:World)(r:Rs)(v0:Value)(n:Nat)(xs:List Value)(hC:Cx H b S t w r v0 n xs)(hn:n<=4194304)
  (rule eAt eLine eCol:Nat) (hr:rule<t.nrule) (ho:t.act rule=3) (hd:r.depth=1):
  Calls prog 156 #[.pointer (some ⟨b,0,none⟩),.int .i64 rule,.agg #[.int .i64 eAt,.int .i64 eLine,.int .i64 eCol]] w fun e w'=>
   e=.returned (.tuple #[])∧∃ao cap,Cx H b S t w' {r with opn:=false} (.slice ao (n+1) cap) (n+1) (xs++vF 5 0 r.bAt r.bAt r.bLine r.bCol)∧Keep H b w w':=by
 have h0:=hC.run.get_tp;have h7:=hC.run.get_depth;obtain⟨_,h4,b4,o4,cap4,hb4,rfl,hcap4,hml4,hL⟩:=hC.tab.c4;have hx:w.cell? ⟨b4,o4+rule,none⟩=some (.int .i64 (t.act rule:Nat)):=hL _ hr;rw[ho] at hx;rw[hd] at h7;have i1:(rule:Int)<(t.nrule:Int):=by omega
 have l0:b<w.heap.size:=hC.run.lt;have l4:b4<w.heap.size:=Nat.lt_of_lt_of_le (hC.safe _ hb4).1 hC.HH;have lp:r.tp<w.heap.size:=Nat.lt_of_lt_of_le (hC.safe _ hC.tab.safe).1 hC.HH;have HC:=vl hC;go_in;go_wp2_with fail;refine(qY b H S t 5 _ r v0 n xs (HC.out.alloc _) hn).mono ?_;rintro e w1 ⟨rfl,ao,cap,hC1,hk1⟩;have HC1:=vl hC1;go_wp2;refine bodyPost_ret (results_none rfl _ _ _) rfl ?_;exact⟨rfl,ao,cap,HC1.out,(Keep.alloc _ _ HC.out.HH).trans hk1⟩
theorem zIo (b H:Nat)(S:Nat->Prop)(t:Tb)(w:World)(r:Rs)(v0:Value)(n:Nat)(xs:List Value)(hC:Cx H b S t w r v0 n xs)
  (rule eAt eLine eCol:Nat) (hr:rule<t.nrule) (ho:t.act rule=1) (hd0:1<=r.depth) (hd4:r.depth<=4) (hst:r.stack (r.depth-1)<t.nmode):
  Calls prog 156 #[.pointer (some ⟨b,0,none⟩),.int .i64 rule,.agg #[.int .i64 eAt,.int .i64 eLine,.int .i64 eCol]] w fun e w'=>
   e=.returned (.tuple #[])∧Cx H b S t w' {r with bAt:=eAt,bLine:=eLine,bCol:=eCol,state:=t.start (r.stack (r.depth-1))} v0 n xs∧Keep H b w w':=by
 have h0:=hC.run.get_tp;have h7:=hC.run.get_depth;obtain⟨_,h4,b4,o4,cap4,hb4,rfl,hcap4,hml4,hL⟩:=hC.tab.c4;have hx:w.cell? ⟨b4,o4+rule,none⟩=some (.int .i64 (t.act rule:Nat)):=hL _ hr;rw[ho] at hx;have i1:(rule:Int)<(t.nrule:Int):=by omega
 have l0:b<w.heap.size:=hC.run.lt;have l4:b4<w.heap.size:=Nat.lt_of_lt_of_le (hC.safe _ hb4).1 hC.HH;have lp:r.tp<w.heap.size:=Nat.lt_of_lt_of_le (hC.safe _ hC.tab.safe).1 hC.HH;have d8:=(hC).run.get_bAt;have d9:=(hC).run.get_bLine;have d10:=(hC).run.get_bCol;have d11:=(hC).run.get_state;have g8:=(hC).run.frozen 8;have g9:=(hC).run.frozen 9;have g10:=(hC).run.frozen 10;have g11:=(hC).run.frozen 11;have HC:=vl hC;go_in;go_wp2_with fail;have c1:=HC.out.stored 8 _ (HC.out.run.set_bAt eAt) rfl;have c2:=c1.stored 9 _ (c1.run.set_bLine eLine) rfl;have c3:=c2.stored 10 _ (c2.run.set_bCol eCol) rfl;have c4:=c3.alloc (.cells #[.int .i64 eAt,.int .i64 eLine,.int .i64 eCol] 97);have k4:=(((Keep.set (H:=H) (b:=b) w 8 (.int .i64 eAt)).trans (Keep.set _ 9 (.int .i64 eLine))).trans (Keep.set _ 10 (.int .i64 eCol))).trans (Keep.alloc _ (.cells #[.int .i64 eAt,.int .i64 eLine,.int .i64 eCol] 97) c3.HH);refine(jX b _ _ c4.run S t c4.tab hd0 hd4 hst).mono ?_;rintro e w9 ⟨rfl,ha9⟩;have c5:=c4.alike ha9;have k5:=vl <| k4.trans (Keep.alike ha9);have e11:=c5.run.get_state;have z11:=c5.run.frozen 11;have C5:=vl c5;go_wp2;go_end0;exact⟨rfl,C5.out.stored 11 _ (C5.out.run.set_state _) rfl,k5.out.trans (Keep.set _ _ _)⟩
theorem zIr (b H:Nat)(S:Nat->Prop)(t:Tb)(w:World)(r:Rs)(v0:Value)(n:Nat)(xs:List Value)(hC:Cx H b S t w r v0 n xs)(hn:n<=4194304)
  (rule eAt eLine eCol:Nat) (hr:rule<t.nrule) (ho:t.act rule=0) (hd0:1<=r.depth) (hd4:r.depth<=4) (hst:r.stack (r.depth-1)<t.nmode):
  Calls prog 156 #[.pointer (some ⟨b,0,none⟩),.int .i64 rule,.agg #[.int .i64 eAt,.int .i64 eLine,.int .i64 eCol]] w fun e w'=>
   e=.returned (.tuple #[])∧∃ao cap,Cx H b S t w' {r with bAt:=eAt,bLine:=eLine,bCol:=eCol,state:=t.start (r.stack (r.depth-1))} (.slice ao (n+1) cap) (n+1) (xs++vF 1 rule r.bAt eAt r.bLine r.bCol)∧Keep H b w w':=by
 have h0:=hC.run.get_tp;have h7:=hC.run.get_depth;obtain⟨_,h4,b4,o4,cap4,hb4,rfl,hcap4,hml4,hL⟩:=hC.tab.c4;have hx:w.cell? ⟨b4,o4+rule,none⟩=some (.int .i64 (t.act rule:Nat)):=hL _ hr;rw[ho] at hx;have i1:(rule:Int)<(t.nrule:Int):=by omega
 have l0:b<w.heap.size:=hC.run.lt;have l4:b4<w.heap.size:=Nat.lt_of_lt_of_le (hC.safe _ hb4).1 hC.HH;have lp:r.tp<w.heap.size:=Nat.lt_of_lt_of_le (hC.safe _ hC.tab.safe).1 hC.HH;have HC:=vl hC;go_in;go_wp2_with fail;have ca:=HC.out.alloc (.cells #[.int .i64 eAt,.int .i64 eLine,.int .i64 eCol] 97);refine(zAN b H S t 1 rule eAt _ r v0 n xs ca hn).mono ?_;rintro e w1 ⟨rfl,ao,cap,cb,hk1,hf1⟩;have hbox:w1.heap[w.heap.size]? =some (.cells #[.int .i64 eAt,.int .i64 eLine,.int .i64 eCol] 97):=by
  rw[hf1 w.heap.size (by simp) (by omega) (fun e=>by have:=(HC.out.own.lt _ e.symm).2;omega)];exact heap_alloc_new w _
 have x0:w1.cell? ⟨w.heap.size,0,none⟩=some (.int .i64 eAt):=by simp[World.cell?,hbox]
 have x1:w1.cell? ⟨w.heap.size,1,none⟩=some (.int .i64 eLine):=by simp[World.cell?,hbox]
 have x2:w1.cell? ⟨w.heap.size,2,none⟩=some (.int .i64 eCol):=by simp[World.cell?,hbox]
 have d8:=cb.run.get_bAt;have g8:=cb.run.frozen 8;have d9:=cb.run.get_bLine;have g9:=cb.run.frozen 9;have d10:=cb.run.get_bCol;have g10:=cb.run.frozen 10;have d11:=cb.run.get_state;have g11:=cb.run.frozen 11;have CB:=vl cb;have K1:=vl <| (Keep.alloc w _ HC.out.HH).trans hk1;go_wp2_with fail;have c1:=CB.out.stored 8 _ (CB.out.run.set_bAt eAt) rfl;have c2:=c1.stored 9 _ (c1.run.set_bLine eLine) rfl;have c4:=c2.stored 10 _ (c2.run.set_bCol eCol) rfl;have k4:=((K1.out.trans (Keep.set w1 8 (.int .i64 eAt))).trans (Keep.set _ 9 (.int .i64 eLine))).trans (Keep.set _ 10 (.int .i64 eCol));refine(jX b _ _ c4.run S t c4.tab hd0 hd4 hst).mono ?_;rintro e w9 ⟨rfl,ha9⟩;have c5:=c4.alike ha9;have k5:=vl <| k4.trans (Keep.alike ha9);have e11:=c5.run.get_state;have z11:=c5.run.frozen 11;have C5:=vl c5;go_wp2;go_end0;exact⟨rfl,ao,cap,C5.out.stored 11 _ (C5.out.run.set_state _) rfl,k5.out.trans (Keep.set _ _ _)⟩
end
theorem zJT (b H:Nat)(S:Nat->Prop)(t:Tb)(w:World)(r:Rs)(v0:Value)(n:Nat)(xs:List Value)(hC:Cx H b S t w r v0 n xs)(hn:n<=4194304)
  (rule eAt eLine eCol:Nat) (hr:rule<t.nrule) (ho:t.act rule=3) (hd0:2<=r.depth) (hd4:r.depth<=4) (hst:r.stack (r.depth-1-1)<t.nmode):
  Calls prog 156 #[.pointer (some ⟨b,0,none⟩),.int .i64 rule,.agg #[.int .i64 eAt,.int .i64 eLine,.int .i64 eCol]] w fun e w'=>
   e=.returned (.tuple #[])∧∃ao cap,Cx H b S t w' {r with depth:=r.depth-1,bAt:=eAt,bLine:=eLine,bCol:=eCol,state:=t.start (r.stack (r.depth-1-1))} (.slice ao (n+1) cap) (n+1) (xs++vF 1 rule r.bAt eAt r.bLine r.bCol)∧Keep H b w w':=by
 have h0:=hC.run.get_tp;have h7:=hC.run.get_depth;have j1:((r.depth:Int)==1)=false:=by rw[beq_eq_false_iff_ne];omega
 have j2:(2:Int)<=(r.depth:Int):=by omega
 have j3:(r.depth:Int)<=4:=by omega
 obtain⟨_,h4,b4,o4,cap4,hb4,rfl,hcap4,hml4,hL⟩:=hC.tab.c4;have hx:w.cell? ⟨b4,o4+rule,none⟩=some (.int .i64 (t.act rule:Nat)):=hL _ hr;rw[ho] at hx;have i1:(rule:Int)<(t.nrule:Int):=by omega
 have l0:b<w.heap.size:=hC.run.lt;have l4:b4<w.heap.size:=Nat.lt_of_lt_of_le (hC.safe _ hb4).1 hC.HH;have lp:r.tp<w.heap.size:=Nat.lt_of_lt_of_le (hC.safe _ hC.tab.safe).1 hC.HH;have HC:=vl hC;go_in;go_wp2_with fail;have ca:=HC.out.alloc (.cells #[.int .i64 eAt,.int .i64 eLine,.int .i64 eCol] 97);refine(zAN b H S t 1 rule eAt _ r v0 n xs ca hn).mono ?_;rintro e w1 ⟨rfl,ao,cap,cb,hk1,hf1⟩;have hbox:w1.heap[w.heap.size]? =some (.cells #[.int .i64 eAt,.int .i64 eLine,.int .i64 eCol] 97):=by
  rw[hf1 w.heap.size (by simp) (by omega) (fun e=>by have:=(HC.out.own.lt _ e.symm).2;omega)];exact heap_alloc_new w _
 have x0:w1.cell? ⟨w.heap.size,0,none⟩=some (.int .i64 eAt):=by simp[World.cell?,hbox]
 have x1:w1.cell? ⟨w.heap.size,1,none⟩=some (.int .i64 eLine):=by simp[World.cell?,hbox]
 have x2:w1.cell? ⟨w.heap.size,2,none⟩=some (.int .i64 eCol):=by simp[World.cell?,hbox]
 have d7:=cb.run.get_depth;have g7:=cb.run.frozen 7;have d8:=cb.run.get_bAt;have g8:=cb.run.frozen 8;have d9:=cb.run.get_bLine;have g9:=cb.run.frozen 9;have d10:=cb.run.get_bCol;have g10:=cb.run.frozen 10;have d11:=cb.run.get_state;have g11:=cb.run.frozen 11;have CB:=vl cb;have K1:=vl <| (Keep.alloc w _ HC.out.HH).trans hk1;go_wp2_with fail;have ed:((r.depth:Int)-1)=((r.depth-1:Nat):Int):=by omega
 rw[ed];have c0:=CB.out.stored 7 _ (CB.out.run.set_depth (r.depth-1)) rfl;have c1:=c0.stored 8 _ (c0.run.set_bAt eAt) rfl;have c2:=c1.stored 9 _ (c1.run.set_bLine eLine) rfl;have c4:=c2.stored 10 _ (c2.run.set_bCol eCol) rfl;have k4:=(((K1.out.trans (Keep.set w1 7 (.int .i64 (r.depth-1:Nat)))).trans (Keep.set _ 8 (.int .i64 eAt))).trans (Keep.set _ 9 (.int .i64 eLine))).trans (Keep.set _ 10 (.int .i64 eCol));refine(jX b _ _ c4.run S t c4.tab (by show 1<=r.depth-1;omega) (by show r.depth-1<=4;omega) hst).mono ?_;rintro e w9 ⟨rfl,ha9⟩;have c5:=c4.alike ha9;have k5:=vl <| k4.trans (Keep.alike ha9);have e11:=c5.run.get_state;have z11:=c5.run.frozen 11;have C5:=vl c5;go_wp2;go_end0;exact⟨rfl,ao,cap,C5.out.stored 11 _ (C5.out.run.set_state _) rfl,k5.out.trans (Keep.set _ _ _)⟩
theorem zIp (b H:Nat)(S:Nat->Prop)(t:Tb)(w:World)(r:Rs)(v0:Value)(n:Nat)(xs:List Value)(hC:Cx H b S t w r v0 n xs)(hn:n<=4194304)
  (rule eAt eLine eCol:Nat) (hr:rule<t.nrule) (ho:t.act rule=2) (hd0:1<=r.depth) (hd4:r.depth<4) (hst:t.push rule<t.nmode):
  Calls prog 156 #[.pointer (some ⟨b,0,none⟩),.int .i64 rule,.agg #[.int .i64 eAt,.int .i64 eLine,.int .i64 eCol]] w fun e w'=>
   e=.returned (.tuple #[])∧∃ao cap,Cx H b S t w' {r with stack:=fun j=>if j=r.depth then t.push rule else r.stack j,depth:=r.depth+1,bAt:=eAt,bLine:=eLine,bCol:=eCol,state:=t.start (t.push rule)} (.slice ao (n+1) cap) (n+1) (xs++vF 1 rule r.bAt eAt r.bLine r.bCol)∧Keep H b w w':=by
 have h0:=hC.run.get_tp;have h7:=hC.run.get_depth;have j1:((r.depth:Int)==4)=false:=by rw[beq_eq_false_iff_ne];omega
 obtain⟨_,h4,b4,o4,cap4,hb4,rfl,hcap4,hml4,hL⟩:=hC.tab.c4;have hx:w.cell? ⟨b4,o4+rule,none⟩=some (.int .i64 (t.act rule:Nat)):=hL _ hr;rw[ho] at hx;have i1:(rule:Int)<(t.nrule:Int):=by omega
 have l0:b<w.heap.size:=hC.run.lt;have l4:b4<w.heap.size:=Nat.lt_of_lt_of_le (hC.safe _ hb4).1 hC.HH;have lp:r.tp<w.heap.size:=Nat.lt_of_lt_of_le (hC.safe _ hC.tab.safe).1 hC.HH;have HC:=vl hC;clear hC hL;go_in;go_wp2_with fail;have ca:=HC.out.alloc (.cells #[.int .i64 eAt,.int .i64 eLine,.int .i64 eCol] 97);refine(zAN b H S t 1 rule eAt _ r v0 n xs ca hn).mono ?_;rintro e w1 ⟨rfl,ao,cap,cb,hk1,hf1⟩;have hbox:w1.heap[w.heap.size]? =some (.cells #[.int .i64 eAt,.int .i64 eLine,.int .i64 eCol] 97):=by
  rw[hf1 w.heap.size (by simp) (by omega) (fun e=>by have:=(HC.out.own.lt _ e.symm).2;omega)];exact heap_alloc_new w _
 have x0:w1.cell? ⟨w.heap.size,0,none⟩=some (.int .i64 eAt):=by simp[World.cell?,hbox]
 have x1:w1.cell? ⟨w.heap.size,1,none⟩=some (.int .i64 eLine):=by simp[World.cell?,hbox]
 have x2:w1.cell? ⟨w.heap.size,2,none⟩=some (.int .i64 eCol):=by simp[World.cell?,hbox]
 have dt:=cb.run.get_tp;obtain⟨_,h5,b5,o5,cap5,hb5,rfl,hcap5,hml5,hL5⟩:=cb.tab.c5;have hx5:w1.cell? ⟨b5,o5+rule,none⟩=some (.int .i64 (t.push rule:Nat)):=hL5 _ hr;have CB:=vl cb;have K1:=vl <| (Keep.alloc w _ HC.out.HH).trans hk1;clear cb ca hk1 hf1 hbox hL5;go_wp2_with fail;refine(zET b (t.push rule) _ _ CB.out.run (by exact hd4)).mono ?_;rintro e w2 ⟨rfl,hR2,hk2⟩;have cc:=CB.out.kept hk2 hR2 rfl;have y0:w2.cell? ⟨w.heap.size,0,none⟩=some (.int .i64 eAt):=(cell?_of_block ((hk2 (w.heap.size+1)).block _ (by show w.heap.size<_;omega) (by show w.heap.size≠b;omega))).trans x0;have y1:w2.cell? ⟨w.heap.size,1,none⟩=some (.int .i64 eLine):=(cell?_of_block ((hk2 (w.heap.size+1)).block _ (by show w.heap.size<_;omega) (by show w.heap.size≠b;omega))).trans x1;have y2:w2.cell? ⟨w.heap.size,2,none⟩=some (.int .i64 eCol):=(cell?_of_block ((hk2 (w.heap.size+1)).block _ (by show w.heap.size<_;omega) (by show w.heap.size≠b;omega))).trans x2;have d8:=cc.run.get_bAt;have g8:=cc.run.frozen 8;have d9:=cc.run.get_bLine;have g9:=cc.run.frozen 9;have d10:=cc.run.get_bCol;have g10:=cc.run.frozen 10;have K2:=vl <| K1.out.trans (hk2 H);have CC:=vl cc;clear cc hk2 hR2;go_wp2_with fail;have c1:=CC.out.stored 8 _ (CC.out.run.set_bAt eAt) rfl;have c2:=c1.stored 9 _ (c1.run.set_bLine eLine) rfl;have c4:=c2.stored 10 _ (c2.run.set_bCol eCol) rfl;have k4:=((K2.out.trans (Keep.set w2 8 (.int .i64 eAt))).trans (Keep.set _ 9 (.int .i64 eLine))).trans (Keep.set _ 10 (.int .i64 eCol));clear c1 c2;have hs:(fun j=>if j=r.depth then t.push rule else r.stack j) (r.depth+1-1)=t.push rule:=by simp
 refine(jX b _ _ c4.run S t c4.tab (by show 1<=r.depth+1;omega) (by show r.depth+1<=4;omega) (by show(fun j=>if j=r.depth then t.push rule else r.stack j) (r.depth+1-1)<t.nmode;rw[hs];exact hst)).mono ?_;rintro e w9 ⟨rfl,ha9⟩;have c5:=c4.alike ha9;have k5:=vl <| k4.trans (Keep.alike ha9);have e11:=c5.run.get_state;have z11:=c5.run.frozen 11;have C5:=vl c5;clear c5 c4 k4 ha9;go_wp2;go_end0;refine⟨rfl,ao,cap,?_,k5.out.trans (Keep.set _ 11 _)⟩;have c6:=C5.out.stored 11 _ (C5.out.run.set_state (t.start (t.push rule))) rfl;simpa using c6
end Go.Proofs.YtbjcfkdnjaiclaaGreat
