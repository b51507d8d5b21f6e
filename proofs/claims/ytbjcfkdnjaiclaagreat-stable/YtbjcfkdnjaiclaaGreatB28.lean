import Derived.Laws.OwnMore
import Derived.Test.YtbjcfkdnjaiclaaGreatB0
import Derived.Test.YtbjcfkdnjaiclaaGreatB22
import Derived.Test.YtbjcfkdnjaiclaaGreatB27
/- Parts of the proof, in order. -/
set_option linter.unusedVariables false
set_option linter.unusedSimpArgs false
set_option maxHeartbeats 4000000
set_option maxRecDepth 100000
namespace Go.Proofs.YtbjcfkdnjaiclaaGreat
open Go.RowKit Go.Proofs.Tryz Go.World
def ThW (w:World)(X:Nat->Prop)(b:Nat)(s:ByteArray)(dv:Value)(r:Rx)(D:Nat)(G:Option (Tr×Nat))(n:Nat)(v4 v5:Value)(wr:World):Prop:=
 (∃f pos t p,n=f∧v4=.pointer (some ⟨p,0,none⟩)∧v5=.bool true∧pos<=s.size∧s.size+1-pos<=f∧zBe s f pos t=G∧TreeIn (fun i=>X i∨w.heap.size<=i) wr (D+4*pos) p t∧TrOk (D+4*pos) t∧RxAt wr b s dv {r with at_:=pos}∧Keep w.heap.size b w wr)∨
 (∃x pos,v4=.pointer x∧v5=.bool false∧G=none∧n=0∧RxAt wr b s dv {r with at_:=pos}∧Keep w.heap.size b w wr)
theorem zJV (w:World)(x y:Value)(z:Bool):∃wa,wa=w.alloc (.cells #[x,y,.bool z] 163)∧wa.cell? ⟨w.heap.size,0,none⟩=some x∧wa.cell? ⟨w.heap.size,1,none⟩=some y∧wa.cell? ⟨w.heap.size,2,none⟩=some (.bool z)∧Hid (∀H b,H<=w.heap.size->Keep H b w wa):=by
 have hn:=heap_alloc_new w (.cells #[x,y,.bool z] 163);refine⟨_,rfl,?_,?_,?_,fun H b hH=>Keep.alloc _ _ hH⟩
 all_goals (unfold cell?;rw[hn];rfl)
def zMr (s:ByteArray):Option (Tr×Nat)->Option (Tr×Nat)
 |none=>none
 |some (t,q)=>zBe s (s.size+1) q t
theorem zMd {w:World}{b:Nat}{s:ByteArray}{dv:Value}{r:Rx}(h:RxAt w b s dv r)(hs:s.size<=1048576)(ha:r.at_<=s.size):Hid (Calls prog 198 #[.pointer (some ⟨b,0,none⟩)] w fun e w'=>∃(o:Tm) (q:Nat) (k:Bool),e=.returned (.tuple #[.agg #[.int .i64 (o.least:Int),.int .i64 (o.most:Int),.bool o.endless],.bool k])∧Hid (o.least<=300∧o.most<=300∧RxAt w' b s dv {r with at_:=q}∧Keep w.heap.size b w w'∧(k=true∧zDJ s r.at_=some (o,q)∨k=false∧zDJ s r.at_=none))):=by
 refine(zFa w b s dv r h hs ha).mono ?_;rintro e w' ⟨hk,ha⟩;cases hm:zDJ s r.at_ with
 |none=>
  rw[hm] at ha;obtain⟨q,rfl,hR⟩:=ha;exact⟨⟨0,0,false⟩,q,false,rfl,Nat.zero_le _,Nat.zero_le _,hR,hk,.inr ⟨rfl,rfl⟩⟩
 |some g=>
  obtain⟨o,q⟩:=g;rw[hm] at ha;obtain⟨rfl,hR⟩:=ha;have:=zGQ s r.at_ o q hm;exact⟨o,q,true,rfl,this.2.2.1,this.2.2.2,hR,hk,.inl ⟨rfl,rfl⟩⟩
theorem zLQ (X:Nat->Prop)(b:Nat)(s:ByteArray)(dv:Value)(hs:s.size<=1048576)(hH:∀i,X i->i<b)(D:Nat)(w:World)(r:Rx)(h:RxAt w b s dv r)(a:Option (Tr×Nat))(hok:∀t q,a=some (t,q)->q<=s.size∧TrOk (D+4*q) t)(hB:Calls prog 196 #[.pointer (some ⟨b,0,none⟩)] w (TrAns w X b s dv r D a)):
  Calls prog 193 #[.pointer (some ⟨b,0,none⟩)] w (TrAns w X b s dv r D (zMr s a)):=by
 have HLB:=vl h.lt;have HBR:=vl hB;obtain⟨G,hG⟩:∃G,G=zMr s a:=⟨_,rfl⟩
 have HST:Hid (∀e w2,TrAns w X b s dv r D a e w2->∃v4 v5 M,e=.returned (.tuple #[v4,v5])∧ThW w X b s dv r D G M v4 v5 w2):=fun e w2 hans=>by
  cases a with
  |none=>
   obtain⟨hk2,v,q,rfl,hR2⟩:=hans;exact⟨_,_,0,rfl,.inr ⟨v,q,rfl,rfl,hG,rfl,hR2,hk2⟩⟩
  |some g=>
   obtain⟨t0,q0⟩:=g;obtain⟨hk2,p,rfl,ht2,hR2⟩:=hans;obtain⟨hq0,ht0⟩:=hok t0 q0 rfl;exact⟨_,_,s.size+1,rfl,.inl ⟨s.size+1,q0,t0,p,rfl,rfl,rfl,hq0,by omega,hG.symm,ht2,ht0,hR2,hk2⟩⟩
 rw[<-hG];go_in;refine wp_cut ?_;intro K0 HK0;go_wp2;refine HK0.out _ _ ?_;refine wp_cut ?_;intro K0 HK0;go_wp2_with (first|(go_at_call 196;refine HBR.out.mono ?_;rintro e w2 ha;obtain⟨v4,v5,M,rfl,hb⟩:=HST.out e w2 ha;have HTW:=vl hb;clear ha hb))
 refine HK0.out _ _ ?_;refine wp_cut ?_;intro KL HKL;refine wp_block ?_;go_loopg [4,5] M (fun n v4 v5 wr=>ThW w X b s dv r D G n v4 v5 wr)
 case atStart=>exact HTW.out
 case round=>
  rcases hrel with⟨f,pos,t,p1,hgk,rfl,rfl,hpos,hf,hGo,hT,hOk,hR,hk⟩|⟨x,pos,rfl,rfl,hGn,-,hR,hk⟩
  ·cases f with
   |zero=>omega
   |succ f=>
   have HA:Hid (TreeIn (fun i=>X i∨w.heap.size<=i) wr (D+4*pos) p1 t∧TrOk (D+4*pos) t∧RxAt wr b s dv {r with at_:=pos}∧Keep w.heap.size b w wr∧gk=f+1∧w.heap.size<=wr.heap.size):=⟨hT,hOk,hR,hk,hgk,hk.size⟩
   have hGo2:(if zAP s pos then(match zDJ s pos with|none=>none|some (o,q)=>zBe s f q (zBs t o)) else some (t,pos))=G:=hGo;have HIR:=vl <| zDF wr b s dv {r with at_:=pos} hR hs (by show pos<=_;omega);cases hrep:zAP s pos with
   |false=>
    rw[hrep] at hGo2 HIR;have HG2:=vl hGo2.symm;go_wp2_with (first|(go_at_call 197;refine HIR.out.mono ?_;rintro e w9 ⟨rfl,hw9⟩;have hw8:=hw9.symm;subst hw8))
    refine HKL.out _ _ ?_;go_wp2;rw[HG2.out];refine bodyPost_ret (results_tmp2 rfl _ _ _) rfl ?_;exact⟨HA.out.2.2.2.1,p1,rfl,HA.out.1,HA.out.2.2.1⟩
   |true=>
    rw[hrep] at hGo2 HIR;rw[if_pos rfl] at hGo2;have HG2:=vl hGo2;have HHO:=zMd HA.out.2.2.1 hs hpos;have HW:=vl fun o q h=>zGQ s pos o q h;clear hGo2 hrep;refine wp_cut ?_;intro K1 HK1;go_wp2_with (first|(go_at_call 197;refine HIR.out.mono ?_;rintro e w9 ⟨rfl,hw9⟩;have hw8:=hw9.symm;subst hw8))
    refine HK1.out _ _ ?_;clear HK1;refine wp_block ?_;refine wp_cut ?_;intro K1 HK1;go_wp2_with (first|(go_at_call 198;refine HHO.out.mono ?_;rintro e wh ⟨o,q1,k,rfl,HH⟩))
    refine HK1.out _ _ ?_;clear HK1 HHO;obtain⟨wa,hwa,z0,z1,z2,HKa⟩:=zJV wh (.int .i64 (o.least:Int)) (.int .i64 (o.most:Int)) o.endless;have HB:Hid (RxAt wa b s dv {r with at_:=q1}∧TreeIn (fun i=>X i∨w.heap.size<=i) wa (D+4*pos) p1 t∧Keep w.heap.size b w wa):=by
     obtain⟨-,-,hRh,hkh,-⟩:=HH.out;have hb:=HLB.out;have hz:=hkh.size;have hz2:=HA.out.2.2.2.2.2;have hka:Keep wr.heap.size b wr wa:=hkh.trans (HKa.out _ _ hz);refine⟨RxAt.of_block hRh ((HKa.out wh.heap.size wh.heap.size (Nat.le_refl _)).block b (by omega) (by omega)),HA.out.1.go (hka.agree fun i hi hx=>⟨hi,by rcases hx with hx|hx;exact Nat.ne_of_lt (hH i hx);omega⟩),HA.out.2.2.2.1.trans ⟨hka.os,hka.output,hka.size,fun k h1 h2=>hka.block k (by omega) h2⟩⟩
    have HAG:Hid (Calls prog 199 #[.pointer (some ⟨p1,0,none⟩),.agg #[.int .i64 (o.least:Int),.int .i64 (o.most:Int),.bool o.endless]] wa fun e w'=>∃p',e=.returned (.pointer (some ⟨p',0,none⟩))∧TreeIn (fun i=>X i∨w.heap.size<=i) w' (D+4*pos+1) p' (zBs t o)∧RxAt w' b s dv {r with at_:=q1}∧Keep w.heap.size b w w'):=by
     have hb:=HLB.out;have hz2:=HB.out.2.2.size;refine(zIi wa _ _ p1 t HB.out.2.1 HA.out.2.1.few o ⟨HH.out.1,HH.out.2.1⟩).mono ?_;rintro e w4 ⟨p',rfl,ht,hk4⟩;refine⟨p',rfl,ht.mono fun i _ hx=>?_,RxAt.of_block HB.out.1 (hk4.block b (by omega) (by omega)),HB.out.2.2.trans (hk4.lower hz2 hz2)⟩;rcases hx with hx|hx
     ·exact hx.1
     ·exact .inr (by omega)
    rw[<-hwa];clear hwa HKa;go_wp2_with (first|(go_at_call 199;refine HAG.out.mono ?_;rintro e w4 ⟨p4,rfl,ht4,hR4,hk4⟩))
    go_roundg (if k then f else 0)
    case measure=>rw[HA.out.2.2.2.2.1];split <;> omega
    case rel=>
     rcases HH.out.2.2.2.2 with⟨rfl,hm⟩|⟨rfl,hm⟩
     ·have hg:=HG2.out
      rw[show zDJ s pos=some (o,q1) from hm] at hg;have hw:=HW.out o q1 hm;exact .inl ⟨f,q1,_,p4,rfl,rfl,rfl,hw.2.1,by omega,hg,ht4.deep (by omega),(zIh o HA.out.2.1).deep (by omega),hR4,hk4⟩
     ·have hg:=HG2.out
      rw[show zDJ s pos=none from hm] at hg;exact .inr ⟨_,q1,rfl,rfl,hg.symm,rfl,hR4,hk4⟩
  ·have HA:Hid (RxAt wr b s dv {r with at_:=pos}∧Keep w.heap.size b w wr∧G=none):=⟨hR,hk,hGn⟩
   clear hR hk hGn;go_wp2;refine HKL.out _ _ ?_;clear HKL;go_wp2;rw[HA.out.2.2];refine bodyPost_ret (results_tmp2 rfl _ _ _) rfl ?_;exact⟨HA.out.2.1,x,pos,rfl,HA.out.1⟩
theorem zDS (X:Nat->Prop)(b:Nat)(s:ByteArray)(dv:Value)(hs:s.size<=1048576)(hH:∀i,X i->i<b)(D:Nat)(defs:List (ByteArray×Tr))(k:Nat)(sub:Reads)(hok:∀both,zB4 s D fun p=>zDi s defs k sub p both)(hat:zAp 196 X b s dv D defs D k (zDi s defs k sub)):
  zAp 193 X b s dv D defs D k (zDq s defs k sub):=fun w r h hD hk ha=>by
 have:=hat w r h hD hk ha;unfold zDq;exact zLQ X b s dv hs hH D w r h _ (fun t q hm=>(hok r.both r.at_ t q hm).2) this
theorem zJm {X:Nat->Prop}{b:Nat}{s:ByteArray}{dv:Value}{w:World}{r:Rx}(h:RxAt w b s dv r)(D kind:Nat)(ki:Int)(hki:ki=kind):∃w1,w1=w.alloc (.cells #[.int .i64 ki,.slice none 0 0,.bool false,.slice none 0 0,.int .i64 0,.int .i64 0,.bool false,.int .i64 0] 165)∧Hid (Tw w1 (fun i=>X i∨w.heap.size<=i) (w.heap.size+1) w.heap.size (D+4*r.at_) (.slice none 0 0) [] (zC5 kind)∧RxAt w1 b s dv {r with at_:=r.at_}∧Keep w.heap.size b w w1):=by
 have hb:=h.lt;subst hki;refine⟨_,rfl,⟨heap_alloc_new _ _,rfl,ownsRow_nil _ _ _ _,rfl,fun i hi=>absurd hi (Nat.not_lt_zero _),by omega,by simp,⟨by show 0<=_;omega,by show 0<=_;omega,by show 0<=_;omega,by show 0<=_;omega⟩⟩,RxAt.of_block h (Below.heap_alloc _ _ _ hb),Keep.alloc _ _ (Nat.le_refl _)⟩
theorem zJn {X:Nat->Prop}{b:Nat}{s:ByteArray}{dv:Value}{w wr w2:World}{r:Rx}{D pos q p2:Nat}{sv:Value}{ps:List Nat}{t u:Tr}(hb:b<w.heap.size)(hH:∀i,X i->i<b)(hT:Tw wr (fun i=>X i∨w.heap.size<=i) (w.heap.size+1) w.heap.size (D+4*pos) sv ps t)(hk:Keep w.heap.size b w wr)(hk2:Keep wr.heap.size b wr w2)(ht2:TreeIn (fun i=>X i∨wr.heap.size<=i) w2 (D+4*q) p2 u)(hR2:RxAt w2 b s dv {r with at_:=q})(hq1:pos<q)(hu:TrOk (D+4*q) u)(hl:t.parts.length<=2000000):
  Hid (Calls prog 188 #[.pointer (some ⟨w.heap.size,0,none⟩),.pointer (some ⟨p2,0,none⟩)] w2 fun e w'=>e=.returned (.tuple #[])∧RxAt w' b s dv {r with at_:=q}∧Keep w.heap.size b w w'∧∃sv' ps',Tw w' (fun i=>X i∨w.heap.size<=i) (w.heap.size+1) w.heap.size (D+4*q) sv' ps' (t.add u)):=by
 have hz:=hk.size;have hl2:=hT.lt;have ho:∀g,some g=sv.ownBlock->w.heap.size+1<=g∧g<wr.heap.size:=fun g hg=>hT.own.lt g hg.symm;have h1:=(hT.keep hk2 (.inl (by omega)) (by omega) (fun _ hx=>by rcases hx with hx|hx;exact Nat.lt_irrefl _ (hH b hx);omega)).deep (show D+4*pos<=D+4*q by omega);have h2:TreeIn (fun j=>(X j∨w.heap.size<=j)∧j≠w.heap.size∧some j≠sv.ownBlock) w2 (D+4*q) p2 u:=ht2.mono fun i _ hx=>by
  rcases hx with hx|hx
  ·have hxb:=hH i hx
   exact⟨.inl hx,by omega,fun e=>by have:=(ho i e).1;omega⟩
  ·exact⟨.inr (by omega),by omega,fun e=>by have:=(ho i e).2;omega⟩
 refine(zFT w2 _ _ _ _ sv ps t h1 p2 u h2 hu.few (by omega)).mono ?_;rintro e w3 ⟨rfl,sv',ps',hT3,hk3⟩;have hk4:=hk3.keep h1.own h1.lt;exact⟨rfl,RxAt.of_block hR2 (hk4.block b (by omega) (by omega)),(hk.trans ⟨hk2.os,hk2.output,hk2.size,fun k h1 h2=>hk2.block k (by omega) h2⟩).trans ⟨hk4.os,hk4.output,hk4.size,fun k h1 h2=>hk4.block k (by omega) (by omega)⟩,sv',ps',hT3⟩
theorem zFZ {X:Nat->Prop}{b:Nat}{s:ByteArray}{dv:Value}{w w3:World}{r:Rx}{D q:Nat}{sv:Value}{ps:List Nat}{t:Tr}(hb:b<w.heap.size)(hH:∀i,X i->i<b)(hT:Tw w3 (fun i=>X i∨w.heap.size<=i) (w.heap.size+1) w.heap.size (D+4*q) sv ps t)(hk:Keep w.heap.size b w w3):
  Hid (∀w4,RxAt w4 b s dv {r with at_:=q}->(∀H,Keep H b w3 w4)->Calls prog 190 #[.pointer (some ⟨w.heap.size,0,none⟩)] w4 fun e w'=>∃p',e=.returned (.pointer (some ⟨p',0,none⟩))∧TreeIn (fun i=>X i∨w.heap.size<=i) w' (D+1+4*q) p' t.plain∧RxAt w' b s dv {r with at_:=q}∧Keep w.heap.size b w w'):=fun w4 hR4 hk4=>by
 have hl:=hT.lt;have hz:=(hk4 0).size;have hT4:=hT.keep (hk4 _) (.inl (by omega)) (by omega) (fun _ hx=>by rcases hx with hx|hx;exact Nat.lt_irrefl _ (hH b hx);omega);refine(zDY w4 _ (D+4*q+1) w.heap.size _ (hT4.in (.inr (Nat.le_refl _)) fun j hj=>.inr (by omega))).mono ?_;rintro e w5 ⟨p',rfl,ht,hk5⟩;refine⟨p',rfl,?_,RxAt.of_block hR4 (hk5.block b (by omega) (by omega)),(hk.trans (hk4 _)).trans (hk5.lower (by omega) (by omega))⟩;rw[show D+1+4*q=D+4*q+1 by omega];exact ht.mono fun i _ hx=>by
  rcases hx with hx|hx
  ·exact hx.1
  ·exact .inr (by omega)
theorem zDU (X:Nat->Prop)(b:Nat)(s:ByteArray)(dv:Value)(hs:s.size<=1048576)(hH:∀i,X i->i<b)(D0 D:Nat)(defs:List (ByteArray×Tr))(k:Nat)(M:Reads)(hok:∀both,zB4 s D fun p=>M p both)(hth:zAp 193 X b s dv D0 defs D k M):
  zAp 187 X b s dv D0 defs (D+1) k (fun p both=>zBu s (fun q=>M q both) (s.size+1) p (zC5 2)):=fun w r h hD hdp ha=>by
 show Calls prog 187 #[.pointer (some ⟨b,0,none⟩)] w (TrAns w X b s dv r (D+1) (zBu s (fun q=>M q r.both) (s.size+1) r.at_ (zC5 2)));have HLB:=vl h.lt;have HTH:Hid (∀wr pos,RxAt wr b s dv {r with at_:=pos}->Keep w.heap.size b w wr->pos<=s.size->Calls prog 193 #[.pointer (some ⟨b,0,none⟩)] wr (TrAns wr X b s dv {r with at_:=pos} D (M pos r.both))):=fun wr pos hR hk hp=>hth wr {r with at_:=pos} hR (hD.go hH (hk.agree fun i hi hx=>⟨hi,Nat.ne_of_lt hx⟩)) hdp hp;have HOK:=vl (hok r.both);obtain⟨G,hG⟩:∃G,G=zBu s (fun q=>M q r.both) (s.size+1) r.at_ (zC5 2):=⟨_,rfl⟩
 have HG:=vl hG.symm;rw[<-hG];obtain⟨w1,hw1,H1⟩:=zJm (X:=X) h D 2 2 rfl;go_in;refine wp_cut ?_;intro K1 HK1;go_wp2;refine HK1.out _ _ ?_;refine wp_cut ?_;intro K1 HK1;go_wp2;refine HK1.out _ _ ?_;rw[<-hw1];refine wp_block ?_;go_loopg [6] (s.size+1) (fun n v wr=>∃f pos t sv ps,n=f∧pos<=s.size∧s.size+1-pos<=f∧zBu s (fun q=>M q r.both) f pos t=G∧Tw wr (fun i=>X i∨w.heap.size<=i) (w.heap.size+1) w.heap.size (D+4*pos) sv ps t∧TrOk (D+1+4*pos) t∧(t.kind=2∨t.kind=3)∧t.parts.length<=pos∧RxAt wr b s dv {r with at_:=pos}∧Keep w.heap.size b w wr)
 case atStart=>exact⟨s.size+1,r.at_,zC5 2,_,_,rfl,ha,by omega,HG.out,H1.out.1,by rw[show D+1+4*r.at_=D+4*r.at_+1 by omega];exact zGH _ 2 (.inl rfl),.inl rfl,Nat.zero_le _,H1.out.2.1,H1.out.2.2⟩
 case round=>
  obtain⟨f,pos,t,sv,ps,hgk,hpos,hf,hGo,hTw,hTok,hkd,hpl,hR,hk⟩:=hrel;cases f with
  |zero=>omega
  |succ f=>
  have HT0:=HTH.out wr pos hR hk hpos;have HA:Hid (Tw wr (fun i=>X i∨w.heap.size<=i) (w.heap.size+1) w.heap.size (D+4*pos) sv ps t∧TrOk (D+1+4*pos) t∧(t.kind=2∨t.kind=3)∧RxAt wr b s dv {r with at_:=pos}∧Keep w.heap.size b w wr∧gk=f+1):=⟨hTw,hTok,hkd,hR,hk,hgk⟩
  cases hm:M pos r.both with
  |none=>
   rw[hm] at HT0;have HT:=vl HT0;have HG2:Hid (G=none):=by
    show _=_;rw[<-hGo];unfold zBu;rw[hm]
   refine wp_block ?_;go_wp2_with (first|(go_at_call 193;refine HT.out.mono ?_;rintro e w2 ⟨hk2,v2,q2,rfl,hR2⟩))
   rw[HG2.out];refine bodyPost_ret (results_tmp2 rfl _ _ _) rfl ?_;have hz:=HA.out.2.2.2.2.1.size;exact⟨HA.out.2.2.2.2.1.trans ⟨hk2.os,hk2.output,hk2.size,fun k h1 h2=>hk2.block k (by omega) h2⟩,none,q2,rfl,hR2⟩
  |some g=>
   obtain⟨u,q⟩:=g;rw[hm] at HT0;have HT:=vl HT0;have HU:=vl <| HOK.out pos u q hm;have HGo:Hid ((if zBz s q then some ((t.add u).plain,q) else zBu s (fun q=>M q r.both) f q (t.add u))=G):=by
    show _=_;rw[<-hGo]
    conv=>rhs;unfold zBu
    rw[hm]
   refine wp_block ?_;refine wp_cut ?_;intro K1 HK1;go_wp2_with (first|(go_at_call 193;refine HT.out.mono ?_;rintro e w2 ⟨hk2,p2,rfl,ht2,hR2⟩))
   refine HK1.out _ _ ?_;refine wp_cut ?_;intro K1 HK1;go_wp2;refine HK1.out _ _ ?_;have hq1:=HU.out.1;have hq2:=HU.out.2.1;have HAD:=zJn HLB.out hH HA.out.1 HA.out.2.2.2.2.1 hk2 ht2 hR2 hq1 HU.out.2.2 (by omega);refine wp_cut ?_;intro K1 HK1;go_wp2_with (first|(go_at_call 188;refine HAD.out.mono ?_;rintro e w3 ⟨rfl,hR3,hk3,sv3,ps3,hT3⟩))
   refine HK1.out _ _ ?_;have HC:Hid (Tw w3 (fun i=>X i∨w.heap.size<=i) (w.heap.size+1) w.heap.size (D+4*q) sv3 ps3 (t.add u)∧RxAt w3 b s dv {r with at_:=q}∧Keep w.heap.size b w w3∧TrOk (D+1+4*q) (t.add u)):=⟨hT3,hR3,hk3,by
    rw[show D+1+4*q=D+4*q+1 by omega];exact zG3 (HA.out.2.1.deep (by omega)) HA.out.2.2.1 HU.out.2.2⟩
   have HRE:Hid (Calls prog 194 #[.pointer (some ⟨b,0,none⟩)] w3 fun e w'=>e=.returned (.bool (zBz s q))∧RxAt w' b s dv {r with at_:=q}∧∀H,Keep H b w3 w'):=by
    refine(zFD w3 b s dv {r with at_:=q} HC.out.2.1 hs (by show q<=_;omega)).mono ?_;rintro e w4 ⟨rfl,hk4⟩;exact⟨rfl,RxAt.of_block HC.out.2.1 ((hk4 (b+1) (b+1)).block b (by omega) (by omega)),fun H=>hk4 H b⟩
   cases he:zBz s q with
   |true=>
    rw[he] at HRE HGo;have HRE2:=HRE;have HG2:=vl HGo.out.symm;have HPL:=zFZ (s:=s) (dv:=dv) (r:=r) HLB.out hH HC.out.1 HC.out.2.2.1;go_wp2_with (first|(go_at_call 194;refine HRE2.out.mono ?_;rintro e w4 ⟨rfl,hR4,hk4⟩)|(go_at_call 190;refine(HPL.out w4 hR4 hk4).mono ?_;rintro e w5 ⟨p5,rfl,ht5,hR5,hk5⟩))
    rw[HG2.out];refine bodyPost_ret (results_tmp2 rfl _ _ _) rfl ?_;exact⟨hk5,p5,rfl,ht5,hR5⟩
   |false=>
    rw[he] at HRE HGo;have HRE2:=HRE;have HG2:=vl HGo.out;go_wp2_with (first|(go_at_call 194;refine HRE2.out.mono ?_;rintro e w4 ⟨rfl,hR4,hk4⟩))
    have hb:=HLB.out;go_roundg f
    case measure=>rw[HA.out.2.2.2.2.2];omega
    case rel=>exact⟨f,q,t.add u,sv3,ps3,rfl,hq2,by omega,HG2.out,HC.out.1.keep (hk4 _) (.inl (by omega)) (by omega) (fun _ hx=>by rcases hx with hx|hx;exact Nat.lt_irrefl _ (hH b hx);omega),HC.out.2.2.2,zDl HA.out.2.2.1,by show(t.parts++[u]).length<=q;rw[List.length_append];show t.parts.length+1<=q;omega,hR4,HC.out.2.2.1.trans (hk4 _)⟩
theorem zBJ (X:Nat->Prop)(b:Nat)(s:ByteArray)(dv:Value)(hs:s.size<=1048576)(hH:∀i,X i->i<b)(D0 D:Nat)(defs:List (ByteArray×Tr))(k:Nat)(M:Reads)(hok:∀both,zB4 s D fun p=>M p both)(hth:zAp 187 X b s dv D0 defs D k M):
  zAp 182 X b s dv D0 defs (D+1) k (fun p both=>zAh s (fun q=>M q both) (s.size+1) p (zC5 3)):=fun w r h hD hdp ha=>by
 show Calls prog 182 #[.pointer (some ⟨b,0,none⟩)] w (TrAns w X b s dv r (D+1) (zAh s (fun q=>M q r.both) (s.size+1) r.at_ (zC5 3)));have HLB:=vl h.lt;have HTH:Hid (∀wr pos,RxAt wr b s dv {r with at_:=pos}->Keep w.heap.size b w wr->pos<=s.size->Calls prog 187 #[.pointer (some ⟨b,0,none⟩)] wr (TrAns wr X b s dv {r with at_:=pos} D (M pos r.both))):=fun wr pos hR hk hp=>hth wr {r with at_:=pos} hR (hD.go hH (hk.agree fun i hi hx=>⟨hi,Nat.ne_of_lt hx⟩)) hdp hp;have HOK:=vl (hok r.both);obtain⟨G,hG⟩:∃G,G=zAh s (fun q=>M q r.both) (s.size+1) r.at_ (zC5 3):=⟨_,rfl⟩
 have HG:=vl hG.symm;rw[<-hG];obtain⟨w1,hw1,H1⟩:=zJm (X:=X) h D 3 3 rfl;go_in;refine wp_cut ?_;intro K1 HK1;go_wp2;refine HK1.out _ _ ?_;refine wp_cut ?_;intro K1 HK1;go_wp2;refine HK1.out _ _ ?_;rw[<-hw1];refine wp_block ?_;go_loopg [6] (s.size+1) (fun n v wr=>∃f pos t sv ps,n=f∧pos<=s.size∧s.size+1-pos<=f∧zAh s (fun q=>M q r.both) f pos t=G∧Tw wr (fun i=>X i∨w.heap.size<=i) (w.heap.size+1) w.heap.size (D+4*pos) sv ps t∧TrOk (D+1+4*pos) t∧(t.kind=2∨t.kind=3)∧t.parts.length<=pos∧RxAt wr b s dv {r with at_:=pos}∧Keep w.heap.size b w wr)
 case atStart=>exact⟨s.size+1,r.at_,zC5 3,_,_,rfl,ha,by omega,HG.out,H1.out.1,by rw[show D+1+4*r.at_=D+4*r.at_+1 by omega];exact zGH _ 3 (.inr rfl),.inr rfl,Nat.zero_le _,H1.out.2.1,H1.out.2.2⟩
 case round=>
  obtain⟨f,pos,t,sv,ps,hgk,hpos,hf,hGo,hTw,hTok,hkd,hpl,hR,hk⟩:=hrel;cases f with
  |zero=>omega
  |succ f=>
  have HT0:=HTH.out wr pos hR hk hpos;have HA:Hid (Tw wr (fun i=>X i∨w.heap.size<=i) (w.heap.size+1) w.heap.size (D+4*pos) sv ps t∧TrOk (D+1+4*pos) t∧(t.kind=2∨t.kind=3)∧RxAt wr b s dv {r with at_:=pos}∧Keep w.heap.size b w wr∧gk=f+1):=⟨hTw,hTok,hkd,hR,hk,hgk⟩
  cases hm:M pos r.both with
  |none=>
   rw[hm] at HT0;have HT:=vl HT0;have HG2:Hid (G=none):=by
    show _=_;rw[<-hGo];unfold zAh;rw[hm]
   refine wp_block ?_;go_wp2_with (first|(go_at_call 187;refine HT.out.mono ?_;rintro e w2 ⟨hk2,v2,q2,rfl,hR2⟩))
   rw[HG2.out];refine bodyPost_ret (results_tmp2 rfl _ _ _) rfl ?_;have hz:=HA.out.2.2.2.2.1.size;exact⟨HA.out.2.2.2.2.1.trans ⟨hk2.os,hk2.output,hk2.size,fun k h1 h2=>hk2.block k (by omega) h2⟩,none,q2,rfl,hR2⟩
  |some g=>
   obtain⟨u,q⟩:=g;rw[hm] at HT0;have HT:=vl HT0;have HU:=vl <| HOK.out pos u q hm;have HGo:Hid ((if zI s q ⟨#[124]⟩ then zAh s (fun q=>M q r.both) f (q+1) (t.add u) else some ((t.add u).plain,q))=G):=by
    show _=_;rw[<-hGo]
    conv=>rhs;unfold zAh
    rw[hm]
   refine wp_block ?_;refine wp_cut ?_;intro K1 HK1;go_wp2_with (first|(go_at_call 187;refine HT.out.mono ?_;rintro e w2 ⟨hk2,p2,rfl,ht2,hR2⟩))
   refine HK1.out _ _ ?_;refine wp_cut ?_;intro K1 HK1;go_wp2;refine HK1.out _ _ ?_;have hq1:=HU.out.1;have hq2:=HU.out.2.1;have HAD:=zJn HLB.out hH HA.out.1 HA.out.2.2.2.2.1 hk2 ht2 hR2 hq1 HU.out.2.2 (by omega);refine wp_cut ?_;intro K1 HK1;go_wp2_with (first|(go_at_call 188;refine HAD.out.mono ?_;rintro e w3 ⟨rfl,hR3,hk3,sv3,ps3,hT3⟩))
   refine HK1.out _ _ ?_;have HC:Hid (Tw w3 (fun i=>X i∨w.heap.size<=i) (w.heap.size+1) w.heap.size (D+4*q) sv3 ps3 (t.add u)∧RxAt w3 b s dv {r with at_:=q}∧Keep w.heap.size b w w3∧TrOk (D+1+4*q) (t.add u)):=⟨hT3,hR3,hk3,by
    rw[show D+1+4*q=D+4*q+1 by omega];exact zG3 (HA.out.2.1.deep (by omega)) HA.out.2.2.1 HU.out.2.2⟩
   cases he:zI s q ⟨#[124]⟩ with
   |false=>
    have HTK:=vl (jT (r:=r) (x:=q) (y:=q) ⟨#[124]⟩ hs (by omega) (by decide) he rfl HC.out.2.1);rw[he] at HGo;have HG2:=vl HGo.out.symm;have HPL:=zFZ (s:=s) (dv:=dv) (r:=r) HLB.out hH HC.out.1 HC.out.2.2.1;go_wp2_with (first|(go_at_call 189;refine HTK.out.mono ?_;rintro e w4 ⟨rfl,hR4,hk4⟩)|(go_at_call 190;refine(HPL.out w4 hR4 hk4).mono ?_;rintro e w5 ⟨p5,rfl,ht5,hR5,hk5⟩))
    rw[HG2.out];refine bodyPost_ret (results_tmp2 rfl _ _ _) rfl ?_;exact⟨hk5,p5,rfl,ht5,hR5⟩
   |true=>
    have HTK:=vl (jT (r:=r) (x:=q) (y:=q+1) ⟨#[124]⟩ hs (by omega) (by decide) he rfl HC.out.2.1);have hq3:=qU he;rw[he] at HGo;have HG2:=vl HGo.out;go_wp2_with (first|(go_at_call 189;refine HTK.out.mono ?_;rintro e w4 ⟨rfl,hR4,hk4⟩))
    have hb:=HLB.out;go_roundg f
    case measure=>rw[HA.out.2.2.2.2.2];omega
    case rel=>exact⟨f,q+1,t.add u,sv3,ps3,rfl,hq3,by omega,HG2.out,(HC.out.1.keep (hk4 _) (.inl (by omega)) (by omega) (fun _ hx=>by rcases hx with hx|hx;exact Nat.lt_irrefl _ (hH b hx);omega)).deep (by omega),HC.out.2.2.2.deep (by omega),zDl HA.out.2.2.1,by show(t.parts++[u]).length<=q+1;rw[List.length_append];show t.parts.length+1<=q+1;omega,hR4,HC.out.2.2.1.trans (hk4 _)⟩
theorem zDe (X:Nat->Prop)(b:Nat)(s:ByteArray)(dv:Value)(hs:s.size<=1048576)(hH:∀i,X i->i<b)(D:Nat)(defs:List (ByteArray×Tr))(hlen:defs.length<=1000000)(hdo:zA0 D defs):∀k,zAp 182 X b s dv D defs (D+2) k (zBp s defs k)
 |0=>zBJ X b s dv hs hH D (D+1) defs 0 _ (zGv hs hdo (fun _ p t q h=>by cases h)) (zDU X b s dv hs hH D D defs 0 _ (zDp hs hdo (fun _ p t q h=>by cases h)) (zDS X b s dv hs hH D defs 0 _ (zFq hs hdo (fun _ p t q h=>by cases h)) (zFp X b s dv hs hH D defs hlen 0 _ fun w r h _ hk _ _=>zMm X b s dv D w r h hk)))
 |k+1=>zBJ X b s dv hs hH D (D+1) defs (k+1) _ (zGv hs hdo (jR hs hdo k)) (zDU X b s dv hs hH D D defs (k+1) _ (zDp hs hdo (jR hs hdo k)) (zDS X b s dv hs hH D defs (k+1) _ (zFq hs hdo (jR hs hdo k)) (zFp X b s dv hs hH D defs hlen (k+1) _ fun w r h hD hk _ hc=>zFR X b s dv hs hH D defs k _ (jR hs hdo k) (zDe X b s dv hs hH D defs hlen hdo k) w r h hD hk hc)))
theorem DefsIn.step {b c:Nat}{X Y:Nat->Prop}{w w2:World}{D:Nat}{v:Value}{l:List (ByteArray×Tr)}(h:DefsIn b X w D v l)(a:Grew w w2)(hb:b<=c)(hx:∀i,i<w.heap.size->X i->Y i):DefsIn c Y w2 D v l:=by
 obtain⟨ao,cap,hv,h1,h2,h3⟩:=h;refine⟨ao,cap,hv,h1,h2,fun i hi=>?_⟩;obtain⟨g,o,p,ha,hg,hxg,c0,c1,ht,hs⟩:=h3 i hi;have hg2:=hg;have e:=a.block g hg (Nat.ne_of_lt hg2);exact⟨g,o,p,ha,Nat.lt_of_lt_of_le hg2 a.size,by omega,(cell?_of_block e).trans c0,(cell?_of_block e).trans c1,ht.step (a.agree fun i hi _=>⟨hi,Nat.ne_of_lt hi⟩) hx,hs⟩
def zG7 (w:World)(X:Nat->Prop)(D:Nat)(a:Option Tr)(e:Ending)(w':World):Prop:=
 Grew w w'∧match a with
 |none=>e=.returned (.tuple #[.pointer none,.bool false])
 |some t=>∃p,e=.returned (.tuple #[.pointer (some ⟨p,0,none⟩),.bool true])∧TreeIn (fun i=>(X i∧i<w.heap.size)∨w.heap.size<=i) w' D p t
theorem jH (w:World)(X:Nat->Prop)(s:ByteArray)(dv:Value)(hs:s.size<=1048576)(D:Nat)(defs:List (ByteArray×Tr))(hD:DefsIn w.heap.size X w D dv defs)(hlen:defs.length<=1000000)(hdo:zA0 D defs):
  Calls prog 162 #[.string s,dv] w (zG7 w X (D+2+4*s.size) (vG s defs)):=by
 obtain⟨w1,hw1,H1⟩:∃w1,w1=w.alloc (.cells #[.string s,dv,.int .i64 0,.int .i64 0,.bool false] 252)∧Hid (Calls prog 182 #[.pointer (some ⟨w.heap.size,0,none⟩)] w1 (TrAns w1 (fun i=>X i∧i<w.heap.size) w.heap.size s dv ⟨0,0,false⟩ (D+2) (zBp s defs 8 0 false))∧w1.heap.size=w.heap.size+1∧Grew w w1):=by
  refine⟨_,rfl,?_,by simp,Keep.alloc _ _ (Nat.le_refl _)⟩;exact zDe (fun i=>X i∧i<w.heap.size) w.heap.size s dv hs (fun i hi=>hi.2) D defs hlen hdo 8 _ ⟨0,0,false⟩ (heap_alloc_new _ _) (hD.step (Keep.alloc _ _ (Nat.le_refl _)) (Nat.le_refl _) fun i hi hx=>⟨hx,hi⟩) rfl (Nat.zero_le _)
 obtain⟨ao,cap,rfl,-⟩:=hD;have HE:Hid (∀w2,Keep w1.heap.size w.heap.size w1 w2->Grew w w2):=fun w2 hk=>H1.out.2.2.trans ⟨hk.os,hk.output,hk.size,fun k h1 h2=>hk.block k (by have:=H1.out.2.1;omega) h2⟩;have HM:Hid (vG s defs=match zBp s defs 8 0 false with|none=>none|some (t,q)=>if q=s.size then some t else none):=rfl;have HQ:Hid (∀t q,zBp s defs 8 0 false=some (t,q)->q<=s.size):=fun t q e=>(jR hs hdo 8 false 0 t q e).2.1;cases hm:zBp s defs 8 0 false with
 |none=>
  have HC:Hid (Calls prog 182 #[.pointer (some ⟨w.heap.size,0,none⟩)] w1 (TrAns w1 (fun i=>X i∧i<w.heap.size) w.heap.size s (.slice ao defs.length cap) ⟨0,0,false⟩ (D+2) none)):=by have:=H1.out.1;rw[hm] at this;exact this
  have HA:Hid (vG s defs=none):=by show _=_;rw[HM.out,hm]
  rw[HA.out];go_in;refine wp_cut ?_;intro K0 HK0;go_wp2;refine HK0.out _ _ ?_;refine wp_cut ?_;intro K0 HK0;go_wp2;refine HK0.out _ _ ?_;clear HK0;rw[<-hw1];clear hw1;go_wp2_with (first|(go_at_call 182;refine HC.out.mono ?_;rintro e w2 ⟨hk2,v,q,rfl,hR2⟩))
  refine bodyPost_ret (results_tmp2 rfl _ _ _) rfl ?_;exact⟨HE.out w2 hk2,rfl⟩
 |some g=>
  obtain⟨t,q⟩:=g;have HC:Hid (Calls prog 182 #[.pointer (some ⟨w.heap.size,0,none⟩)] w1 (TrAns w1 (fun i=>X i∧i<w.heap.size) w.heap.size s (.slice ao defs.length cap) ⟨0,0,false⟩ (D+2) (some (t,q)))):=by have:=H1.out.1;rw[hm] at this;exact this
  have hql:=HQ.out t q hm;have hsz:=H1.out.2.1;by_cases hq:q=s.size
  ·have HA:Hid (vG s defs=some t):=by show _=_;rw[HM.out,hm];exact if_pos hq
   rw[HA.out];clear hm HA HM H1 HQ;have eq1:((q:Int) != (s.size:Int))=false:=by rw[hq];simp
   have HSZ:Hid (w1.heap.size=w.heap.size+1∧q=s.size):=⟨hsz,hq⟩
   clear hsz hq;go_in;refine wp_cut ?_;intro K0 HK0;go_wp2;refine HK0.out _ _ ?_;clear HK0;refine wp_cut ?_;intro K0 HK0;go_wp2;refine HK0.out _ _ ?_;clear HK0;rw[<-hw1];clear hw1;go_wp2_with (first|(go_at_call 182;refine HC.out.mono ?_;rintro e w2 ⟨hk2,p,rfl,ht2,hR2⟩;have d2:w2.cell? ⟨w.heap.size,2,none⟩=some (.int .i64 (q:Int)):=hR2.cells.2.2.1))
   refine bodyPost_ret (results_tmp2 rfl _ _ _) rfl ?_;refine⟨HE.out w2 hk2,p,rfl,?_⟩;rw[<-HSZ.out.2];exact ht2.mono fun i _ hx=>by
    rcases hx with hx|hx
    ·exact .inl hx
    ·exact .inr (by have:=HSZ.out.1;omega)
  ·have HA:Hid (vG s defs=none):=by show _=_;rw[HM.out,hm];exact if_neg hq
   rw[HA.out];clear hm HA HM H1 HQ hsz;have eq1:((q:Int) != (s.size:Int))=true:=by simp;omega
   clear hq;go_in;refine wp_cut ?_;intro K0 HK0;go_wp2;refine HK0.out _ _ ?_;clear HK0;refine wp_cut ?_;intro K0 HK0;go_wp2;refine HK0.out _ _ ?_;clear HK0;rw[<-hw1];clear hw1;go_wp2_with (first|(go_at_call 182;refine HC.out.mono ?_;rintro e w2 ⟨hk2,p,rfl,ht2,hR2⟩;have d2:w2.cell? ⟨w.heap.size,2,none⟩=some (.int .i64 (q:Int)):=hR2.cells.2.2.1))
   refine bodyPost_ret (results_tmp2 rfl _ _ _) rfl ?_;exact⟨HE.out w2 hk2,rfl⟩
section
def zAS (f g:Nat->Value)(n:Nat):List Value:=(List.range n).flatMap fun i=>[f i,g i]
theorem qV (f g:Nat->Value)(n:Nat):zAS f g (n+1)=zAS f g n++[f n,g n]:=by
 unfold zAS;rw[List.range_succ,List.flatMap_append];rfl
theorem zF1 (f g:Nat->Value)(n:Nat):(zAS f g n).length=n*2:=by
 induction n with
 |zero=>rfl
 |succ n ih=>rw[qV,List.length_append,ih];show n*2+2=_;omega
theorem zA2 (f g:Nat->Value)(n i:Nat)(hi:i<n):(zAS f g n)[i*2]? =some (f i)∧(zAS f g n)[i*2+1]? =some (g i):=by
 induction n with
 |zero=>omega
 |succ n ih=>
  rw[qV];have hl:=zF1 f g n;by_cases h:i<n
  ·rw[List.getElem?_append_left (by omega),List.getElem?_append_left (by omega)]
   exact ih h
  ·have e:i=n:=by omega
   subst e;rw[List.getElem?_append_right (by omega),List.getElem?_append_right (by omega),hl,Nat.sub_self,show i*2+1-i*2=1 by omega];exact⟨rfl,rfl⟩
theorem zAR (f g f' g':Nat->Value)(n:Nat)(h:∀i,i<n->f i=f' i∧g i=g' i):zAS f g n=zAS f' g' n:=by
 induction n with
 |zero=>rfl
 |succ n ih=>rw[qV,qV,ih fun i hi=>h i (by omega),(h n (by omega)).1,(h n (by omega)).2]
theorem zKc (f g:Nat->Value)(n k:Nat)(v:Value)(hk:k<n):(zAS f g n).set (k*2+1) v=zAS f (fun i=>if i=k then v else g i) n:=by
 induction n with
 |zero=>omega
 |succ n ih=>
  have hl:=zF1 f g n;rw[qV,qV];by_cases h:k<n
  ·rw[List.set_append_left _ _ (by omega),ih h,if_neg (by omega)]
  ·have e:k=n:=by omega
   subst e;rw[List.set_append_right _ _ (by omega),hl,show k*2+1-k*2=1 by omega,if_pos rfl];rw[zAR f (fun i=>if i=k then v else g i) f g k fun i hi=>⟨rfl,if_neg (by omega)⟩];rfl
structure Sh where
 modes:List (ByteArray×List Tr)
 defs:List (ByteArray×Tr)
 acts:List Nat
 pushed:List ByteArray
def Sh.mode (s:Sh)(i:Nat):ByteArray×List Tr:=s.modes.getD i (⟨#[]⟩,[])
def Sh.defn (s:Sh)(i:Nat):ByteArray×Tr:=s.defs.getD i (⟨#[]⟩,Tr.none)
def Sh.none:Sh:=⟨[],[],[],[]⟩
structure Sw (w:World)(X:Nat->Prop)(S D:Nat)(sh:Sh)(mv dv av pv:Value)(rv:Nat->Value)(ps:Nat->List Nat)(dp:Nat->Nat):Prop where
 blk:w.heap[S]? =some (.cells #[mv,dv,av,pv] 114)
 mOwn:w.ownsRow (S+1) 120 2 mv sh.modes.length (zAS (fun i=>.string (sh.mode i).1) rv sh.modes.length)
 dOwn:w.ownsRow (S+1) 233 2 dv sh.defs.length (zAS (fun i=>.string (sh.defn i).1) (fun i=>.pointer (some ⟨dp i,0,none⟩)) sh.defs.length)
 aOwn:w.ownsRow (S+1) 3 1 av sh.acts.length (sh.acts.map fun x:Nat=>.int .i64 (x:Int))
 pOwn:w.ownsRow (S+1) 9 1 pv sh.pushed.length (sh.pushed.map fun x=>.string x)
 rOwn:∀i,i<sh.modes.length->w.ownsRow (S+1) 158 1 (rv i) (sh.mode i).2.length (xT (ps i))
 rApart:∀i j g,i<sh.modes.length->j<sh.modes.length->i≠j->(rv i).ownBlock=some g->some g≠(rv j).ownBlock
 rTree:∀i,i<sh.modes.length->∀k,k<(sh.mode i).2.length->TreeIn X w D ((ps i).getD k 0) ((sh.mode i).2.getD k Tr.none)
 dTree:∀i,i<sh.defs.length->TreeIn X w D (dp i) (sh.defn i).2
 xlt:∀g,X g->S<g∧g<w.heap.size
 xm:∀g,X g->some g≠mv.ownBlock∧some g≠dv.ownBlock∧some g≠av.ownBlock∧some g≠pv.ownBlock
 xr:∀g i,X g->i<sh.modes.length->some g≠(rv i).ownBlock
 lt:S<w.heap.size
def SwIs (w:World)(S D:Nat)(sh:Sh):Prop:=∃X mv dv av pv rv ps dp,Sw w X S D sh mv dv av pv rv ps dp
section
variable {w w2:World} {X:Nat->Prop} {S D E:Nat} {sh:Sh} {mv dv av pv:Value} {rv:Nat->Value} {ps:Nat->List Nat} {dp:Nat->Nat}
theorem zY {H e z n e' z' n':Nat}{v v':Value}{xs xs':List Value}(h:w.ownsRow H e z v n xs)(h':w.ownsRow H e' z' v' n' xs')(he:e≠e')(g:Nat)(hg:v.ownBlock=some g):some g≠v'.ownBlock:=by
 rcases h.2 with⟨hv,-⟩|⟨g2,cap,cur,hv,hH,hh,-⟩
 ·rw[hv] at hg;cases hg
 ·rw[hv] at hg
  have e2:g2=g:=by simpa[Value.ownBlock] using hg
  rw[e2] at hh;exact zL h' hh (Ne.symm he)
theorem Sw.cells (h:Sw w X S D sh mv dv av pv rv ps dp):w.cell? ⟨S,0,none⟩=some mv∧w.cell? ⟨S,1,none⟩=some dv∧w.cell? ⟨S,2,none⟩=some av∧w.cell? ⟨S,3,none⟩=some pv∧∀i,w.frozen? ⟨S,i,none⟩=false:=by
 refine⟨?_,?_,?_,?_,fun i=>?_⟩
 all_goals first|(unfold cell?;rw[h.blk];rfl)|(unfold frozen?;rw[h.blk];simp)
theorem Sw.grown (h:Sw w X S D sh mv dv av pv rv ps dp)(hk:Grew w w2):Sw w2 X S D sh mv dv av pv rv ps dp:=by
 have hb:∀{H e z n v xs},w.ownsRow H e z v n xs->w2.ownsRow H e z v n xs:=fun ho=>zD ho fun g _ hg _=>hk.block g hg (Nat.ne_of_lt hg);have ha:Agree X w w2:=hk.agree fun i hi _=>⟨hi,Nat.ne_of_lt hi⟩
 exact⟨(hk.block S h.lt (Nat.ne_of_lt h.lt)).trans h.blk,hb h.mOwn,hb h.dOwn,hb h.aOwn,hb h.pOwn,fun i hi=>hb (h.rOwn i hi),h.rApart,fun i hi k hk2=>(h.rTree i hi k hk2).go ha,fun i hi=>(h.dTree i hi).go ha,fun g hg=>⟨(h.xlt g hg).1,Nat.lt_of_lt_of_le (h.xlt g hg).2 hk.size⟩,h.xm,h.xr,Nat.lt_of_lt_of_le h.lt hk.size⟩
theorem Sw.deep (h:Sw w X S D sh mv dv av pv rv ps dp)(he:D<=E):Sw w X S E sh mv dv av pv rv ps dp:=⟨h.blk,h.mOwn,h.dOwn,h.aOwn,h.pOwn,h.rOwn,h.rApart,fun i hi k hk=>(h.rTree i hi k hk).deep he,fun i hi=>(h.dTree i hi).deep he,h.xlt,h.xm,h.xr,h.lt⟩
theorem Sw.more (h:Sw w X S D sh mv dv av pv rv ps dp)(hk:Grew w w2):Sw w2 (fun i=>X i∨(w.heap.size<=i∧i<w2.heap.size)) S D sh mv dv av pv rv ps dp:=by
 have h2:=h.grown hk;have hl:=h.lt;have ho:∀{e z n v xs},w.ownsRow (S+1) e z v n xs->∀g,w.heap.size<=g->some g≠v.ownBlock:=fun hw g hg e=>by have:=(hw.lt g e.symm).2;omega
 refine⟨h2.blk,h2.mOwn,h2.dOwn,h2.aOwn,h2.pOwn,h2.rOwn,h2.rApart,fun i hi k hk2=>(h2.rTree i hi k hk2).mono fun _ _ hx=>.inl hx,fun i hi=>(h2.dTree i hi).mono fun _ _ hx=>.inl hx,fun g hg=>?_,fun g hg=>?_,fun g i hg hi=>?_,h2.lt⟩
 ·rcases hg with hg|hg
  ·exact h2.xlt g hg
  ·exact⟨by omega,hg.2⟩
 ·rcases hg with hg|hg
  ·exact h2.xm g hg
  ·exact⟨ho h.mOwn g hg.1,ho h.dOwn g hg.1,ho h.aOwn g hg.1,ho h.pOwn g hg.1⟩
 ·rcases hg with hg|hg
  ·exact h2.xr g i hg hi
  ·exact ho (h.rOwn i hi) g hg.1
theorem xW {p H e z n:Nat}{u u' v:Value}{xs:List Value}(hk:KeepO p u u' w w2)(ho:w.ownsRow H e z v n xs)(hp:p<H)(hne:∀g,v.ownBlock=some g->some g≠u.ownBlock):w2.ownsRow H e z v n xs∧∀g,v.ownBlock=some g->some g≠u'.ownBlock:=by
 refine⟨zD ho fun g hH hg hv=>(hk.block g hg (by omega) (hne g hv)).1,fun g hv=>?_⟩;have hl:=ho.lt g hv;exact(hk.block g hl.2 (by omega) (hne g hv)).2
theorem vS {p d b:Nat}{u u':Value}{t:Tr}(hk:KeepO p u u' w w2)(ht:TreeIn X w d b t)(hx:∀g,X g->g≠p∧some g≠u.ownBlock):TreeIn X w2 d b t:=ht.go ⟨hk.os,hk.output,hk.size,fun i hi hxi=>(hk.block i hi (hx i hxi).1 (hx i hxi).2).1⟩
theorem zEq {o:Obj}{H e z n g cap m i:Nat}{v:Value}{xs ys:List Value}(ho:w.ownsRow H e z v n xs)(hS:S<H)(hl:H<=w.heap.size)(hown:w2.ownsRow H e z (.slice (some ⟨g,0,none⟩) m cap) m ys)(hg:(w.alloc o).grownBy w2 v.ownBlock)(hat:v.ownBlock=some g∨w.heap.size<=g):
  (w2.setCell ⟨S,i,none⟩ (.slice (some ⟨g,0,none⟩) m cap)).ownsRow H e z (.slice (some ⟨g,0,none⟩) m cap) m ys∧KeepO S v (.slice (some ⟨g,0,none⟩) m cap) w (w2.setCell ⟨S,i,none⟩ (.slice (some ⟨g,0,none⟩) m cap))∧w2.heap[S]? =w.heap[S]? :=by
 have hbl:∀j,j<H->w2.heap[j]? =w.heap[j]? :=fun j hj=>(hg.block j (by simp;omega) fun e=>by have:=(ho.lt j e.symm).1;omega).trans (Below.heap_alloc _ _ _ (by omega));have hsz:w.heap.size<=w2.heap.size:=Nat.le_trans (by simp) hg.size;refine⟨zW hown hS,⟨hg.os,hg.output,by rw[zC];exact hsz,fun k h1 h2 h3=>⟨(Below.heap_setCell _ _ _ _ h2).trans ((hg.block k (by simp;omega) h3).trans (Below.heap_alloc _ _ _ h1)),fun e=>by
  have e2:k=g:=by simpa[Value.ownBlock] using e
  rcases hat with ha|ha
  ·exact h3 (by rw[ha,e2])
  ·omega⟩⟩,hbl S hS⟩
end
end
end Go.Proofs.YtbjcfkdnjaiclaaGreat
