import Derived.Laws.OwnMore
import Derived.Test.YtbjcfkdnjaiclaaGreatB0
import Derived.Test.YtbjcfkdnjaiclaaGreatB18
import Derived.Test.YtbjcfkdnjaiclaaGreatB23
/- Parts of the proof. -/
set_option linter.unusedVariables false
set_option linter.unusedSimpArgs false
set_option maxHeartbeats 4000000
set_option maxRecDepth 100000
namespace Go.Proofs.YtbjcfkdnjaiclaaGreat
open Go.RowKit Go.Proofs.Tryz Go.World
theorem zJE {X:Nat->Prop}{b:Nat}{s:ByteArray}{dv:Value}{w:World}{r:Rx}(h:RxAt w b s dv r)(D kind:Nat)(ki:Int)(hki:ki=kind):∃w1,w1=w.alloc (.cells #[.int .i64 ki,.slice none 0 0,.bool false,.slice none 0 0,.int .i64 0,.int .i64 0,.bool false,.int .i64 0] 165)∧Hid (Tw w1 (fun i=>X i∨w.heap.size<=i) (w.heap.size+1) w.heap.size (D+4*r.at_) (.slice none 0 0) [] (zDc kind)∧RxAt w1 b s dv {r with at_:=r.at_}∧Keep w.heap.size b w w1):=by
 have hb:=h.lt;subst hki;refine⟨_,rfl,⟨gG _ _,rfl,ownsRow_nil _ _ _ _,rfl,fun i hi=>absurd hi (Nat.not_lt_zero _),by omega,by simp,⟨by show 0<=_;omega,by show 0<=_;omega,by show 0<=_;omega,by show 0<=_;omega⟩⟩,RxAt.of_block h (lG _ _ _ hb),kZ _ _ lQ⟩
theorem zJF {X:Nat->Prop}{b:Nat}{s:ByteArray}{dv:Value}{w wr w2:World}{r:Rx}{D pos q p2:Nat}{sv:Value}{ps:List Nat}{t u:Tr}(hb:b<w.heap.size)(hH:∀i,X i->i<b)(hT:Tw wr (fun i=>X i∨w.heap.size<=i) (w.heap.size+1) w.heap.size (D+4*pos) sv ps t)(hk:Keep w.heap.size b w wr)(hk2:Keep wr.heap.size b wr w2)(ht2:TreeIn (fun i=>X i∨wr.heap.size<=i) w2 (D+4*q) p2 u)(hR2:RxAt w2 b s dv {r with at_:=q})(hq1:pos<q)(hu:TrOk (D+4*q) u)(hl:t.parts.length<=2000000):
  Hid (Calls prog 188 #[.pointer (some ⟨w.heap.size,0,none⟩),.pointer (some ⟨p2,0,none⟩)] w2 fun e w'=>e=.returned (.tuple #[])∧RxAt w' b s dv {r with at_:=q}∧Keep w.heap.size b w w'∧∃sv' ps',Tw w' (fun i=>X i∨w.heap.size<=i) (w.heap.size+1) w.heap.size (D+4*q) sv' ps' (t.add u)):=by
 have hz:=hk.size;have hl2:=hT.lt;have ho:∀g,some g=sv.ownBlock->w.heap.size+1<=g∧g<wr.heap.size:=fun g hg=>hT.own.lt g hg.symm;have h1:=(hT.keep hk2 (.inl (by omega)) (by omega) (fun _ hx=>by rcases hx with hx|hx;exact Nat.lt_irrefl _ (hH b hx);omega)).deep (show D+4*pos<=D+4*q by omega);have h2:TreeIn (fun j=>(X j∨w.heap.size<=j)∧j≠w.heap.size∧some j≠sv.ownBlock) w2 (D+4*q) p2 u:=ht2.mono fun i _ hx=>by
  rcases hx with hx|hx
  ·have hxb:=hH i hx
   exact⟨.inl hx,by omega,fun e=>by have:=(ho i e).1;omega⟩
  ·exact⟨.inr (by omega),by omega,fun e=>by have:=(ho i e).2;omega⟩
 refine(zF5 w2 _ _ _ _ sv ps t h1 p2 u h2 hu.few (by omega)).mono ?_;rintro e w3 ⟨rfl,sv',ps',hT3,hk3⟩;have hk4:=hk3.keep h1.own h1.lt;exact⟨rfl,RxAt.of_block hR2 (hk4.block b (by omega) (by omega)),(hk.trans ⟨hk2.os,hk2.output,hk2.size,fun k h1 h2=>hk2.block k (by omega) h2⟩).trans ⟨hk4.os,hk4.output,hk4.size,fun k h1 h2=>hk4.block k (by omega) (by omega)⟩,sv',ps',hT3⟩
theorem zGb {X:Nat->Prop}{b:Nat}{s:ByteArray}{dv:Value}{w w3:World}{r:Rx}{D q:Nat}{sv:Value}{ps:List Nat}{t:Tr}(hb:b<w.heap.size)(hH:∀i,X i->i<b)(hT:Tw w3 (fun i=>X i∨w.heap.size<=i) (w.heap.size+1) w.heap.size (D+4*q) sv ps t)(hk:Keep w.heap.size b w w3):
  Hid (∀w4,RxAt w4 b s dv {r with at_:=q}->(∀H,Keep H b w3 w4)->Calls prog 190 #[.pointer (some ⟨w.heap.size,0,none⟩)] w4 fun e w'=>∃p',e=.returned (.pointer (some ⟨p',0,none⟩))∧TreeIn (fun i=>X i∨w.heap.size<=i) w' (D+1+4*q) p' t.plain∧RxAt w' b s dv {r with at_:=q}∧Keep w.heap.size b w w'):=fun w4 hR4 hk4=>by
 have hl:=hT.lt;have hz:=(hk4 0).size;have hT4:=hT.keep (hk4 _) (.inl (by omega)) (by omega) (fun _ hx=>by rcases hx with hx|hx;exact Nat.lt_irrefl _ (hH b hx);omega);refine(zEb w4 _ (D+4*q+1) w.heap.size _ (hT4.in (.inr lQ) fun j hj=>.inr (by omega))).mono ?_;rintro e w5 ⟨p',rfl,ht,hk5⟩;refine⟨p',rfl,?_,RxAt.of_block hR4 (hk5.block b (by omega) (by omega)),(hk.trans (hk4 _)).trans (hk5.lower (by omega) (by omega))⟩;rw[show D+1+4*q=D+4*q+1 by omega];exact ht.mono fun i _ hx=>by
  rcases hx with hx|hx
  ·exact hx.1
  ·exact .inr (by omega)
theorem zD7 (X:Nat->Prop)(b:Nat)(s:ByteArray)(dv:Value)(hs:s.size<=1048576)(hH:∀i,X i->i<b)(D0 D:Nat)(defs:List (ByteArray×Tr))(k:Nat)(M:Reads)(hok:∀both,zCb s D fun p=>M p both)(hth:zAs 193 X b s dv D0 defs D k M):
  zAs 187 X b s dv D0 defs (D+1) k (fun p both=>zBB s (fun q=>M q both) (s.size+1) p (zDc 2)):=fun w r h hD hdp ha=>by
 show Calls prog 187 #[.pointer (some ⟨b,0,none⟩)] w (TrAns w X b s dv r (D+1) (zBB s (fun q=>M q r.both) (s.size+1) r.at_ (zDc 2)));have HLB:=vl h.lt;have HTH:Hid (∀wr pos,RxAt wr b s dv {r with at_:=pos}->Keep w.heap.size b w wr->pos<=s.size->Calls prog 193 #[.pointer (some ⟨b,0,none⟩)] wr (TrAns wr X b s dv {r with at_:=pos} D (M pos r.both))):=fun wr pos hR hk hp=>hth wr {r with at_:=pos} hR (hD.go hH (hk.agree fun i hi hx=>⟨hi,kJ hx⟩)) hdp hp;have HOK:=vl (hok r.both);obtain⟨G,hG⟩:∃G,G=zBB s (fun q=>M q r.both) (s.size+1) r.at_ (zDc 2):=⟨_,rfl⟩
 have HG:=vl hG.symm;rw[<-hG];obtain⟨w1,hw1,H1⟩:=zJE (X:=X) h D 2 2 rfl;go_in;apply wp_cut;intro K1 HK1;go_wp2;apply HK1.out;apply wp_cut;intro K1 HK1;go_wp2;apply HK1.out;rw[<-hw1];refine wp_block ?_;go_loopg [6] (s.size+1) (fun n v wr=>∃f pos t sv ps,n=f∧pos<=s.size∧s.size+1-pos<=f∧zBB s (fun q=>M q r.both) f pos t=G∧Tw wr (fun i=>X i∨w.heap.size<=i) (w.heap.size+1) w.heap.size (D+4*pos) sv ps t∧TrOk (D+1+4*pos) t∧(t.kind=2∨t.kind=3)∧t.parts.length<=pos∧RxAt wr b s dv {r with at_:=pos}∧Keep w.heap.size b w wr)
 case atStart=>exact⟨s.size+1,r.at_,zDc 2,_,_,rfl,ha,by omega,HG.out,H1.out.1,by rw[show D+1+4*r.at_=D+4*r.at_+1 by omega];exact zGW _ 2 (.inl rfl),.inl rfl,lX,H1.out.2.1,H1.out.2.2⟩
 case round=>
  obtain⟨f,pos,t,sv,ps,hgk,hpos,hf,hGo,hTw,hTok,hkd,hpl,hR,hk⟩:=hrel;cases f with
  |zero=>omega
  |succ f=>
  have HT0:=HTH.out wr pos hR hk hpos;have HA:Hid (Tw wr (fun i=>X i∨w.heap.size<=i) (w.heap.size+1) w.heap.size (D+4*pos) sv ps t∧TrOk (D+1+4*pos) t∧(t.kind=2∨t.kind=3)∧RxAt wr b s dv {r with at_:=pos}∧Keep w.heap.size b w wr∧gk=f+1):=⟨hTw,hTok,hkd,hR,hk,hgk⟩
  cases hm:M pos r.both with
  |none=>
   rw[hm] at HT0;have HT:=vl HT0;have HG2:Hid (G=none):=by
    show _=_;rw[<-hGo];unfold zBB;rw[hm]
   refine wp_block ?_;go_wp2_with (first|(go_at_call 193;refine HT.out.mono ?_;rintro e w2 ⟨hk2,v2,q2,rfl,hR2⟩))
   rw[HG2.out];refine bodyPost_ret (results_tmp2 rfl _ _ _) rfl ?_;have hz:=HA.out.2.2.2.2.1.size;exact⟨HA.out.2.2.2.2.1.trans ⟨hk2.os,hk2.output,hk2.size,fun k h1 h2=>hk2.block k (by omega) h2⟩,none,q2,rfl,hR2⟩
  |some g=>
   obtain⟨u,q⟩:=g;rw[hm] at HT0;have HT:=vl HT0;have HU:=vl <| HOK.out pos u q hm;have HGo:Hid ((if zBI s q then some ((t.add u).plain,q) else zBB s (fun q=>M q r.both) f q (t.add u))=G):=by
    show _=_;rw[<-hGo]
    conv=>rhs;unfold zBB
    rw[hm]
   refine wp_block ?_;apply wp_cut;intro K1 HK1;go_wp2_with (first|(go_at_call 193;refine HT.out.mono ?_;rintro e w2 ⟨hk2,p2,rfl,ht2,hR2⟩))
   apply HK1.out;apply wp_cut;intro K1 HK1;go_wp2;apply HK1.out;have hq1:=HU.out.1;have hq2:=HU.out.2.1;have HAD:=zJF HLB.out hH HA.out.1 HA.out.2.2.2.2.1 hk2 ht2 hR2 hq1 HU.out.2.2 (by omega);apply wp_cut;intro K1 HK1;go_wp2_with (first|(go_at_call 188;refine HAD.out.mono ?_;rintro e w3 ⟨rfl,hR3,hk3,sv3,ps3,hT3⟩))
   apply HK1.out;have HC:Hid (Tw w3 (fun i=>X i∨w.heap.size<=i) (w.heap.size+1) w.heap.size (D+4*q) sv3 ps3 (t.add u)∧RxAt w3 b s dv {r with at_:=q}∧Keep w.heap.size b w w3∧TrOk (D+1+4*q) (t.add u)):=⟨hT3,hR3,hk3,by
    rw[show D+1+4*q=D+4*q+1 by omega];exact zHi (HA.out.2.1.deep (by omega)) HA.out.2.2.1 HU.out.2.2⟩
   have HRE:Hid (Calls prog 194 #[.pointer (some ⟨b,0,none⟩)] w3 fun e w'=>e=.returned (.bool (zBI s q))∧RxAt w' b s dv {r with at_:=q}∧∀H,Keep H b w3 w'):=by
    refine(zFP w3 b s dv {r with at_:=q} HC.out.2.1 hs (by show q<=_;omega)).mono ?_;rintro e w4 ⟨rfl,hk4⟩;exact⟨rfl,RxAt.of_block HC.out.2.1 ((hk4 (b+1) (b+1)).block b (by omega) (by omega)),fun H=>hk4 H b⟩
   cases he:zBI s q with
   |true=>
    rw[he] at HRE HGo;have HRE2:=HRE;have HG2:=vl HGo.out.symm;have HPL:=zGb (s:=s) (dv:=dv) (r:=r) HLB.out hH HC.out.1 HC.out.2.2.1;go_wp2_with (first|(go_at_call 194;refine HRE2.out.mono ?_;rintro e w4 ⟨rfl,hR4,hk4⟩)|(go_at_call 190;refine(HPL.out w4 hR4 hk4).mono ?_;rintro e w5 ⟨p5,rfl,ht5,hR5,hk5⟩))
    rw[HG2.out];refine bodyPost_ret (results_tmp2 rfl _ _ _) rfl ?_;exact⟨hk5,p5,rfl,ht5,hR5⟩
   |false=>
    rw[he] at HRE HGo;have HRE2:=HRE;have HG2:=vl HGo.out;go_wp2_with (first|(go_at_call 194;refine HRE2.out.mono ?_;rintro e w4 ⟨rfl,hR4,hk4⟩))
    have hb:=HLB.out;go_roundg f
    case measure=>rw[HA.out.2.2.2.2.2];omega
    case rel=>exact⟨f,q,t.add u,sv3,ps3,rfl,hq2,by omega,HG2.out,HC.out.1.keep (hk4 _) (.inl (by omega)) (by omega) (fun _ hx=>by rcases hx with hx|hx;exact Nat.lt_irrefl _ (hH b hx);omega),HC.out.2.2.2,zDv HA.out.2.2.1,by show(t.parts++[u]).length<=q;rw[kX];show t.parts.length+1<=q;omega,hR4,HC.out.2.2.1.trans (hk4 _)⟩
theorem zBR (X:Nat->Prop)(b:Nat)(s:ByteArray)(dv:Value)(hs:s.size<=1048576)(hH:∀i,X i->i<b)(D0 D:Nat)(defs:List (ByteArray×Tr))(k:Nat)(M:Reads)(hok:∀both,zCb s D fun p=>M p both)(hth:zAs 187 X b s dv D0 defs D k M):
  zAs 182 X b s dv D0 defs (D+1) k (fun p both=>zAk s (fun q=>M q both) (s.size+1) p (zDc 3)):=fun w r h hD hdp ha=>by
 show Calls prog 182 #[.pointer (some ⟨b,0,none⟩)] w (TrAns w X b s dv r (D+1) (zAk s (fun q=>M q r.both) (s.size+1) r.at_ (zDc 3)));have HLB:=vl h.lt;have HTH:Hid (∀wr pos,RxAt wr b s dv {r with at_:=pos}->Keep w.heap.size b w wr->pos<=s.size->Calls prog 187 #[.pointer (some ⟨b,0,none⟩)] wr (TrAns wr X b s dv {r with at_:=pos} D (M pos r.both))):=fun wr pos hR hk hp=>hth wr {r with at_:=pos} hR (hD.go hH (hk.agree fun i hi hx=>⟨hi,kJ hx⟩)) hdp hp;have HOK:=vl (hok r.both);obtain⟨G,hG⟩:∃G,G=zAk s (fun q=>M q r.both) (s.size+1) r.at_ (zDc 3):=⟨_,rfl⟩
 have HG:=vl hG.symm;rw[<-hG];obtain⟨w1,hw1,H1⟩:=zJE (X:=X) h D 3 3 rfl;go_in;apply wp_cut;intro K1 HK1;go_wp2;apply HK1.out;apply wp_cut;intro K1 HK1;go_wp2;apply HK1.out;rw[<-hw1];refine wp_block ?_;go_loopg [6] (s.size+1) (fun n v wr=>∃f pos t sv ps,n=f∧pos<=s.size∧s.size+1-pos<=f∧zAk s (fun q=>M q r.both) f pos t=G∧Tw wr (fun i=>X i∨w.heap.size<=i) (w.heap.size+1) w.heap.size (D+4*pos) sv ps t∧TrOk (D+1+4*pos) t∧(t.kind=2∨t.kind=3)∧t.parts.length<=pos∧RxAt wr b s dv {r with at_:=pos}∧Keep w.heap.size b w wr)
 case atStart=>exact⟨s.size+1,r.at_,zDc 3,_,_,rfl,ha,by omega,HG.out,H1.out.1,by rw[show D+1+4*r.at_=D+4*r.at_+1 by omega];exact zGW _ 3 (.inr rfl),.inr rfl,lX,H1.out.2.1,H1.out.2.2⟩
 case round=>
  obtain⟨f,pos,t,sv,ps,hgk,hpos,hf,hGo,hTw,hTok,hkd,hpl,hR,hk⟩:=hrel;cases f with
  |zero=>omega
  |succ f=>
  have HT0:=HTH.out wr pos hR hk hpos;have HA:Hid (Tw wr (fun i=>X i∨w.heap.size<=i) (w.heap.size+1) w.heap.size (D+4*pos) sv ps t∧TrOk (D+1+4*pos) t∧(t.kind=2∨t.kind=3)∧RxAt wr b s dv {r with at_:=pos}∧Keep w.heap.size b w wr∧gk=f+1):=⟨hTw,hTok,hkd,hR,hk,hgk⟩
  cases hm:M pos r.both with
  |none=>
   rw[hm] at HT0;have HT:=vl HT0;have HG2:Hid (G=none):=by
    show _=_;rw[<-hGo];unfold zAk;rw[hm]
   refine wp_block ?_;go_wp2_with (first|(go_at_call 187;refine HT.out.mono ?_;rintro e w2 ⟨hk2,v2,q2,rfl,hR2⟩))
   rw[HG2.out];refine bodyPost_ret (results_tmp2 rfl _ _ _) rfl ?_;have hz:=HA.out.2.2.2.2.1.size;exact⟨HA.out.2.2.2.2.1.trans ⟨hk2.os,hk2.output,hk2.size,fun k h1 h2=>hk2.block k (by omega) h2⟩,none,q2,rfl,hR2⟩
  |some g=>
   obtain⟨u,q⟩:=g;rw[hm] at HT0;have HT:=vl HT0;have HU:=vl <| HOK.out pos u q hm;have HGo:Hid ((if zI s q ⟨#[124]⟩ then zAk s (fun q=>M q r.both) f (q+1) (t.add u) else some ((t.add u).plain,q))=G):=by
    show _=_;rw[<-hGo]
    conv=>rhs;unfold zAk
    rw[hm]
   refine wp_block ?_;apply wp_cut;intro K1 HK1;go_wp2_with (first|(go_at_call 187;refine HT.out.mono ?_;rintro e w2 ⟨hk2,p2,rfl,ht2,hR2⟩))
   apply HK1.out;apply wp_cut;intro K1 HK1;go_wp2;apply HK1.out;have hq1:=HU.out.1;have hq2:=HU.out.2.1;have HAD:=zJF HLB.out hH HA.out.1 HA.out.2.2.2.2.1 hk2 ht2 hR2 hq1 HU.out.2.2 (by omega);apply wp_cut;intro K1 HK1;go_wp2_with (first|(go_at_call 188;refine HAD.out.mono ?_;rintro e w3 ⟨rfl,hR3,hk3,sv3,ps3,hT3⟩))
   apply HK1.out;have HC:Hid (Tw w3 (fun i=>X i∨w.heap.size<=i) (w.heap.size+1) w.heap.size (D+4*q) sv3 ps3 (t.add u)∧RxAt w3 b s dv {r with at_:=q}∧Keep w.heap.size b w w3∧TrOk (D+1+4*q) (t.add u)):=⟨hT3,hR3,hk3,by
    rw[show D+1+4*q=D+4*q+1 by omega];exact zHi (HA.out.2.1.deep (by omega)) HA.out.2.2.1 HU.out.2.2⟩
   cases he:zI s q ⟨#[124]⟩ with
   |false=>
    have HTK:=vl (jX (r:=r) (x:=q) (y:=q) ⟨#[124]⟩ hs (by omega) (by decide) he rfl HC.out.2.1);rw[he] at HGo;have HG2:=vl HGo.out.symm;have HPL:=zGb (s:=s) (dv:=dv) (r:=r) HLB.out hH HC.out.1 HC.out.2.2.1;go_wp2_with (first|(go_at_call 189;refine HTK.out.mono ?_;rintro e w4 ⟨rfl,hR4,hk4⟩)|(go_at_call 190;refine(HPL.out w4 hR4 hk4).mono ?_;rintro e w5 ⟨p5,rfl,ht5,hR5,hk5⟩))
    rw[HG2.out];refine bodyPost_ret (results_tmp2 rfl _ _ _) rfl ?_;exact⟨hk5,p5,rfl,ht5,hR5⟩
   |true=>
    have HTK:=vl (jX (r:=r) (x:=q) (y:=q+1) ⟨#[124]⟩ hs (by omega) (by decide) he rfl HC.out.2.1);have hq3:=qV he;rw[he] at HGo;have HG2:=vl HGo.out;go_wp2_with (first|(go_at_call 189;refine HTK.out.mono ?_;rintro e w4 ⟨rfl,hR4,hk4⟩))
    have hb:=HLB.out;go_roundg f
    case measure=>rw[HA.out.2.2.2.2.2];omega
    case rel=>exact⟨f,q+1,t.add u,sv3,ps3,rfl,hq3,by omega,HG2.out,(HC.out.1.keep (hk4 _) (.inl (by omega)) (by omega) (fun _ hx=>by rcases hx with hx|hx;exact Nat.lt_irrefl _ (hH b hx);omega)).deep (by omega),HC.out.2.2.2.deep (by omega),zDv HA.out.2.2.1,by show(t.parts++[u]).length<=q+1;rw[kX];show t.parts.length+1<=q+1;omega,hR4,HC.out.2.2.1.trans (hk4 _)⟩
theorem zDn (X:Nat->Prop)(b:Nat)(s:ByteArray)(dv:Value)(hs:s.size<=1048576)(hH:∀i,X i->i<b)(D:Nat)(defs:List (ByteArray×Tr))(hlen:defs.length<=1000000)(hdo:zA5 D defs):∀k,zAs 182 X b s dv D defs (D+2) k (zBv s defs k)
 |0=>zBR X b s dv hs hH D (D+1) defs 0 _ (zGH hs hdo (fun _ p t q h=>by cases h)) (zD7 X b s dv hs hH D D defs 0 _ (zDz hs hdo (fun _ p t q h=>by cases h)) (zD4 X b s dv hs hH D defs 0 _ (zFD hs hdo (fun _ p t q h=>by cases h)) (zFC X b s dv hs hH D defs hlen 0 _ fun w r h _ hk _ _=>zMP X b s dv D w r h hk)))
 |k+1=>zBR X b s dv hs hH D (D+1) defs (k+1) _ (zGH hs hdo (jV hs hdo k)) (zD7 X b s dv hs hH D D defs (k+1) _ (zDz hs hdo (jV hs hdo k)) (zD4 X b s dv hs hH D defs (k+1) _ (zFD hs hdo (jV hs hdo k)) (zFC X b s dv hs hH D defs hlen (k+1) _ fun w r h hD hk _ hc=>zF3 X b s dv hs hH D defs k _ (jV hs hdo k) (zDn X b s dv hs hH D defs hlen hdo k) w r h hD hk hc)))
theorem DefsIn.step {b c:Nat}{X Y:Nat->Prop}{w w2:World}{D:Nat}{v:Value}{l:List (ByteArray×Tr)}(h:DefsIn b X w D v l)(a:Grew w w2)(hb:b<=c)(hx:∀i,i<w.heap.size->X i->Y i):DefsIn c Y w2 D v l:=by
 obtain⟨ao,cap,hv,h1,h2,h3⟩:=h;refine⟨ao,cap,hv,h1,h2,fun i hi=>?_⟩;obtain⟨g,o,p,ha,hg,hxg,c0,c1,ht,hs⟩:=h3 i hi;have hg2:=hg;have e:=a.block g hg (kJ hg2);exact⟨g,o,p,ha,lZ hg2 a.size,by omega,(cell?_of_block e).trans c0,(cell?_of_block e).trans c1,ht.step (a.agree fun i hi _=>⟨hi,kJ hi⟩) hx,hs⟩
def zHm (w:World)(X:Nat->Prop)(D:Nat)(a:Option Tr)(e:Ending)(w':World):Prop:=
 Grew w w'∧match a with
 |none=>e=.returned (.tuple #[.pointer none,.bool false])
 |some t=>∃p,e=.returned (.tuple #[.pointer (some ⟨p,0,none⟩),.bool true])∧TreeIn (fun i=>(X i∧i<w.heap.size)∨w.heap.size<=i) w' D p t
theorem jL (w:World)(X:Nat->Prop)(s:ByteArray)(dv:Value)(hs:s.size<=1048576)(D:Nat)(defs:List (ByteArray×Tr))(hD:DefsIn w.heap.size X w D dv defs)(hlen:defs.length<=1000000)(hdo:zA5 D defs):
  Calls prog 162 #[.string s,dv] w (zHm w X (D+2+4*s.size) (vH s defs)):=by
 obtain⟨w1,hw1,H1⟩:∃w1,w1=w.alloc (.cells #[.string s,dv,.int .i64 0,.int .i64 0,.bool false] 252)∧Hid (Calls prog 182 #[.pointer (some ⟨w.heap.size,0,none⟩)] w1 (TrAns w1 (fun i=>X i∧i<w.heap.size) w.heap.size s dv ⟨0,0,false⟩ (D+2) (zBv s defs 8 0 false))∧w1.heap.size=w.heap.size+1∧Grew w w1):=by
  refine⟨_,rfl,?_,by simp,kZ _ _ lQ⟩;exact zDn (fun i=>X i∧i<w.heap.size) w.heap.size s dv hs (fun i hi=>hi.2) D defs hlen hdo 8 _ ⟨0,0,false⟩ (gG _ _) (hD.step (kZ _ _ lQ) lQ fun i hi hx=>⟨hx,hi⟩) rfl lX
 obtain⟨ao,cap,rfl,-⟩:=hD;have HE:Hid (∀w2,Keep w1.heap.size w.heap.size w1 w2->Grew w w2):=fun w2 hk=>H1.out.2.2.trans ⟨hk.os,hk.output,hk.size,fun k h1 h2=>hk.block k (by have:=H1.out.2.1;omega) h2⟩;have HM:Hid (vH s defs=match zBv s defs 8 0 false with|none=>none|some (t,q)=>if q=s.size then some t else none):=rfl;have HQ:Hid (∀t q,zBv s defs 8 0 false=some (t,q)->q<=s.size):=fun t q e=>(jV hs hdo 8 false 0 t q e).2.1;cases hm:zBv s defs 8 0 false with
 |none=>
  have HC:Hid (Calls prog 182 #[.pointer (some ⟨w.heap.size,0,none⟩)] w1 (TrAns w1 (fun i=>X i∧i<w.heap.size) w.heap.size s (.slice ao defs.length cap) ⟨0,0,false⟩ (D+2) none)):=by have:=H1.out.1;rw[hm] at this;exact this
  have HA:Hid (vH s defs=none):=by show _=_;rw[HM.out,hm]
  rw[HA.out];go_in;apply wp_cut;intro K0 J;go_wp2;apply J.out;apply wp_cut;intro K0 J;go_wp2;apply J.out;clear J;rw[<-hw1];clear hw1;go_wp2_with (first|(go_at_call 182;refine HC.out.mono ?_;rintro e w2 ⟨hk2,v,q,rfl,hR2⟩))
  refine bodyPost_ret (results_tmp2 rfl _ _ _) rfl ?_;exact⟨HE.out w2 hk2,rfl⟩
 |some g=>
  obtain⟨t,q⟩:=g;have HC:Hid (Calls prog 182 #[.pointer (some ⟨w.heap.size,0,none⟩)] w1 (TrAns w1 (fun i=>X i∧i<w.heap.size) w.heap.size s (.slice ao defs.length cap) ⟨0,0,false⟩ (D+2) (some (t,q)))):=by have:=H1.out.1;rw[hm] at this;exact this
  have hql:=HQ.out t q hm;have hsz:=H1.out.2.1;by_cases hq:q=s.size
  ·have HA:Hid (vH s defs=some t):=by show _=_;rw[HM.out,hm];exact if_pos hq
   rw[HA.out];clear hm HA HM H1 HQ;have eq1:((q:Int) != (s.size:Int))=false:=by rw[hq];simp
   have HSZ:Hid (w1.heap.size=w.heap.size+1∧q=s.size):=⟨hsz,hq⟩
   clear hsz hq;go_in;apply wp_cut;intro K0 J;go_wp2;apply J.out;clear J;apply wp_cut;intro K0 J;go_wp2;apply J.out;clear J;rw[<-hw1];clear hw1;go_wp2_with (first|(go_at_call 182;refine HC.out.mono ?_;rintro e w2 ⟨hk2,p,rfl,ht2,hR2⟩;have d2:w2.cell? ⟨w.heap.size,2,none⟩=some (.int .i64 (q:Int)):=hR2.cells.2.2.1))
   refine bodyPost_ret (results_tmp2 rfl _ _ _) rfl ?_;refine⟨HE.out w2 hk2,p,rfl,?_⟩;rw[<-HSZ.out.2];exact ht2.mono fun i _ hx=>by
    rcases hx with hx|hx
    ·exact .inl hx
    ·exact .inr (by have:=HSZ.out.1;omega)
  ·have HA:Hid (vH s defs=none):=by show _=_;rw[HM.out,hm];exact if_neg hq
   rw[HA.out];clear hm HA HM H1 HQ hsz;have eq1:((q:Int) != (s.size:Int))=true:=by simp;omega
   clear hq;go_in;apply wp_cut;intro K0 J;go_wp2;apply J.out;clear J;apply wp_cut;intro K0 J;go_wp2;apply J.out;clear J;rw[<-hw1];clear hw1;go_wp2_with (first|(go_at_call 182;refine HC.out.mono ?_;rintro e w2 ⟨hk2,p,rfl,ht2,hR2⟩;have d2:w2.cell? ⟨w.heap.size,2,none⟩=some (.int .i64 (q:Int)):=hR2.cells.2.2.1))
   refine bodyPost_ret (results_tmp2 rfl _ _ _) rfl ?_;exact⟨HE.out w2 hk2,rfl⟩
section
def zAX (f g:Nat->Value)(n:Nat):List Value:=(List.range n).flatMap fun i=>[f i,g i]
theorem qW (f g:Nat->Value)(n:Nat):zAX f g (n+1)=zAX f g n++[f n,g n]:=by
 unfold zAX;rw[List.range_succ,List.flatMap_append];rfl
theorem zGd (f g:Nat->Value)(n:Nat):(zAX f g n).length=n*2:=by
 induction n with
 |zero=>rfl
 |succ n ih=>rw[qW,kX,ih];show n*2+2=_;omega
theorem zA7 (f g:Nat->Value)(n i:Nat)(hi:i<n):(zAX f g n)[i*2]? =some (f i)∧(zAX f g n)[i*2+1]? =some (g i):=by
 induction n with
 |zero=>omega
 |succ n ih=>
  rw[qW];have hl:=zGd f g n;by_cases h:i<n
  ·rw[kW (by omega),kW (by omega)]
   exact ih h
  ·have e:i=n:=by omega
   subst e;rw[gX (by omega),gX (by omega),hl,Nat.sub_self,show i*2+1-i*2=1 by omega];exact⟨rfl,rfl⟩
theorem zAW (f g f' g':Nat->Value)(n:Nat)(h:∀i,i<n->f i=f' i∧g i=g' i):zAX f g n=zAX f' g' n:=by
 induction n with
 |zero=>rfl
 |succ n ih=>rw[qW,qW,ih fun i hi=>h i (by omega),(h n (by omega)).1,(h n (by omega)).2]
theorem zKu (f g:Nat->Value)(n k:Nat)(v:Value)(hk:k<n):(zAX f g n).set (k*2+1) v=zAX f (fun i=>if i=k then v else g i) n:=by
 induction n with
 |zero=>omega
 |succ n ih=>
  have hl:=zGd f g n;rw[qW,qW];by_cases h:k<n
  ·rw[List.set_append_left _ _ (by omega),ih h,if_neg (by omega)]
  ·have e:k=n:=by omega
   subst e;rw[List.set_append_right _ _ (by omega),hl,show k*2+1-k*2=1 by omega,if_pos rfl];rw[zAW f (fun i=>if i=k then v else g i) f g k fun i hi=>⟨rfl,if_neg (by omega)⟩];rfl
structure Sh where
 modes:List (ByteArray×List Tr)
 defs:List (ByteArray×Tr)
 acts:List Nat
 pushed:List ByteArray
def Sh.mode (s:Sh)(i:Nat):ByteArray×List Tr:=s.modes.getD i (⟨#[]⟩,[])
def Sh.defn (s:Sh)(i:Nat):ByteArray×Tr:=s.defs.getD i (⟨#[]⟩,Tr.none)
def Sh.none:Sh:=⟨[],[],[],[]⟩
structure Sw (w:World)(X:Nat->Prop)(S D:Nat)(sh:Sh)(mv dv av pv:Value)(rv:Nat->Value)(ps:Nat->List Nat)(dp:Nat->Nat):Prop where
 blk:w.heap[S]? =some (.cells #[mv,dv,av,pv] 114)
 mOwn:w.ownsRow (S+1) 120 2 mv sh.modes.length (zAX (fun i=>.string (sh.mode i).1) rv sh.modes.length)
 dOwn:w.ownsRow (S+1) 233 2 dv sh.defs.length (zAX (fun i=>.string (sh.defn i).1) (fun i=>.pointer (some ⟨dp i,0,none⟩)) sh.defs.length)
 aOwn:w.ownsRow (S+1) 3 1 av sh.acts.length (sh.acts.map fun x:Nat=>.int .i64 (x:Int))
 pOwn:w.ownsRow (S+1) 9 1 pv sh.pushed.length (sh.pushed.map fun x=>.string x)
 rOwn:∀i,i<sh.modes.length->w.ownsRow (S+1) 158 1 (rv i) (sh.mode i).2.length (xT (ps i))
 rApart:∀i j g,i<sh.modes.length->j<sh.modes.length->i≠j->(rv i).ownBlock=some g->some g≠(rv j).ownBlock
 rTree:∀i,i<sh.modes.length->∀k,k<(sh.mode i).2.length->TreeIn X w D ((ps i).getD k 0) ((sh.mode i).2.getD k Tr.none)
 dTree:∀i,i<sh.defs.length->TreeIn X w D (dp i) (sh.defn i).2
 xlt:∀g,X g->S<g∧g<w.heap.size
 xm:∀g,X g->some g≠mv.ownBlock∧some g≠dv.ownBlock∧some g≠av.ownBlock∧some g≠pv.ownBlock
 xr:∀g i,X g->i<sh.modes.length->some g≠(rv i).ownBlock
 lt:S<w.heap.size
def SwIs (w:World)(S D:Nat)(sh:Sh):Prop:=∃X mv dv av pv rv ps dp,Sw w X S D sh mv dv av pv rv ps dp
section
variable {w w2:World} {X:Nat->Prop} {S D E:Nat} {sh:Sh} {mv dv av pv:Value} {rv:Nat->Value} {ps:Nat->List Nat} {dp:Nat->Nat}
theorem zY {H e z n e' z' n':Nat}{v v':Value}{xs xs':List Value}(h:w.ownsRow H e z v n xs)(h':w.ownsRow H e' z' v' n' xs')(he:e≠e')(g:Nat)(hg:v.ownBlock=some g):some g≠v'.ownBlock:=by
 rcases h.2 with⟨hv,-⟩|⟨g2,cap,cur,hv,hH,hh,-⟩
 ·rw[hv] at hg;cases hg
 ·rw[hv] at hg
  have e2:g2=g:=by simpa[Value.ownBlock] using hg
  rw[e2] at hh;exact zL h' hh (Ne.symm he)
theorem Sw.cells (h:Sw w X S D sh mv dv av pv rv ps dp):w.cell? ⟨S,0,none⟩=some mv∧w.cell? ⟨S,1,none⟩=some dv∧w.cell? ⟨S,2,none⟩=some av∧w.cell? ⟨S,3,none⟩=some pv∧∀i,w.frozen? ⟨S,i,none⟩=false:=by
 refine⟨?_,?_,?_,?_,fun i=>?_⟩
 all_goals first|(unfold cell?;rw[h.blk];rfl)|(unfold frozen?;rw[h.blk];simp)
theorem Sw.grown (h:Sw w X S D sh mv dv av pv rv ps dp)(hk:Grew w w2):Sw w2 X S D sh mv dv av pv rv ps dp:=by
 have hb:∀{H e z n v xs},w.ownsRow H e z v n xs->w2.ownsRow H e z v n xs:=fun ho=>zD ho fun g _ hg _=>hk.block g hg (kJ hg);have ha:Agree X w w2:=hk.agree fun i hi _=>⟨hi,kJ hi⟩
 exact⟨(hk.block S h.lt (kJ h.lt)).trans h.blk,hb h.mOwn,hb h.dOwn,hb h.aOwn,hb h.pOwn,fun i hi=>hb (h.rOwn i hi),h.rApart,fun i hi k hk2=>(h.rTree i hi k hk2).go ha,fun i hi=>(h.dTree i hi).go ha,fun g hg=>⟨(h.xlt g hg).1,lZ (h.xlt g hg).2 hk.size⟩,h.xm,h.xr,lZ h.lt hk.size⟩
theorem Sw.deep (h:Sw w X S D sh mv dv av pv rv ps dp)(he:D<=E):Sw w X S E sh mv dv av pv rv ps dp:=⟨h.blk,h.mOwn,h.dOwn,h.aOwn,h.pOwn,h.rOwn,h.rApart,fun i hi k hk=>(h.rTree i hi k hk).deep he,fun i hi=>(h.dTree i hi).deep he,h.xlt,h.xm,h.xr,h.lt⟩
theorem Sw.more (h:Sw w X S D sh mv dv av pv rv ps dp)(hk:Grew w w2):Sw w2 (fun i=>X i∨(w.heap.size<=i∧i<w2.heap.size)) S D sh mv dv av pv rv ps dp:=by
 have h2:=h.grown hk;have hl:=h.lt;have ho:∀{e z n v xs},w.ownsRow (S+1) e z v n xs->∀g,w.heap.size<=g->some g≠v.ownBlock:=fun hw g hg e=>by have:=(hw.lt g e.symm).2;omega
 refine⟨h2.blk,h2.mOwn,h2.dOwn,h2.aOwn,h2.pOwn,h2.rOwn,h2.rApart,fun i hi k hk2=>(h2.rTree i hi k hk2).mono fun _ _ hx=>.inl hx,fun i hi=>(h2.dTree i hi).mono fun _ _ hx=>.inl hx,fun g hg=>?_,fun g hg=>?_,fun g i hg hi=>?_,h2.lt⟩
 ·rcases hg with hg|hg
  ·exact h2.xlt g hg
  ·exact⟨by omega,hg.2⟩
 ·rcases hg with hg|hg
  ·exact h2.xm g hg
  ·exact⟨ho h.mOwn g hg.1,ho h.dOwn g hg.1,ho h.aOwn g hg.1,ho h.pOwn g hg.1⟩
 ·rcases hg with hg|hg
  ·exact h2.xr g i hg hi
  ·exact ho (h.rOwn i hi) g hg.1
theorem xW {p H e z n:Nat}{u u' v:Value}{xs:List Value}(hk:KeepO p u u' w w2)(ho:w.ownsRow H e z v n xs)(hp:p<H)(hne:∀g,v.ownBlock=some g->some g≠u.ownBlock):w2.ownsRow H e z v n xs∧∀g,v.ownBlock=some g->some g≠u'.ownBlock:=by
 refine⟨zD ho fun g hH hg hv=>(hk.block g hg (by omega) (hne g hv)).1,fun g hv=>?_⟩;have hl:=ho.lt g hv;exact(hk.block g hl.2 (by omega) (hne g hv)).2
theorem vV {p d b:Nat}{u u':Value}{t:Tr}(hk:KeepO p u u' w w2)(ht:TreeIn X w d b t)(hx:∀g,X g->g≠p∧some g≠u.ownBlock):TreeIn X w2 d b t:=ht.go ⟨hk.os,hk.output,hk.size,fun i hi hxi=>(hk.block i hi (hx i hxi).1 (hx i hxi).2).1⟩
theorem zEA {o:Obj}{H e z n g cap m i:Nat}{v:Value}{xs ys:List Value}(ho:w.ownsRow H e z v n xs)(hS:S<H)(hl:H<=w.heap.size)(hown:w2.ownsRow H e z (.slice (some ⟨g,0,none⟩) m cap) m ys)(hg:(w.alloc o).grownBy w2 v.ownBlock)(hat:v.ownBlock=some g∨w.heap.size<=g):
  (w2.setCell ⟨S,i,none⟩ (.slice (some ⟨g,0,none⟩) m cap)).ownsRow H e z (.slice (some ⟨g,0,none⟩) m cap) m ys∧KeepO S v (.slice (some ⟨g,0,none⟩) m cap) w (w2.setCell ⟨S,i,none⟩ (.slice (some ⟨g,0,none⟩) m cap))∧w2.heap[S]? =w.heap[S]? :=by
 have hbl:∀j,j<H->w2.heap[j]? =w.heap[j]? :=fun j hj=>(hg.block j (by simp;omega) fun e=>by have:=(ho.lt j e.symm).1;omega).trans (lG _ _ _ (by omega));have hsz:w.heap.size<=w2.heap.size:=lY (by simp) hg.size;refine⟨zX hown hS,⟨hg.os,hg.output,by rw[zC];exact hsz,fun k h1 h2 h3=>⟨(lJ _ _ _ _ h2).trans ((hg.block k (by simp;omega) h3).trans (lG _ _ _ h1)),fun e=>by
  have e2:k=g:=by simpa[Value.ownBlock] using e
  rcases hat with ha|ha
  ·exact h3 (by rw[ha,e2])
  ·omega⟩⟩,hbl S hS⟩
end
end
section
section
variable {w w2:World} {X:Nat->Prop} {S D:Nat} {sh:Sh} {mv dv av pv:Value} {rv:Nat->Value} {ps:Nat->List Nat} {dp:Nat->Nat} {o:Obj} {g cap:Nat}
theorem zCe {p H e z n:Nat}{u u' v:Value}{xs:List Value}(hk:KeepO p u u' w w2)(ho:w.ownsRow H e z v n xs)(hp:∀g,v.ownBlock=some g->g≠p)(hne:∀g,v.ownBlock=some g->some g≠u.ownBlock):w2.ownsRow H e z v n xs∧∀g,v.ownBlock=some g->some g≠u'.ownBlock:=by
 refine⟨zD ho fun g hH hg hv=>(hk.block g hg (hp g hv) (hne g hv)).1,fun g hv=>?_⟩;have hl:=ho.lt g hv;exact(hk.block g hl.2 (hp g hv) (hne g hv)).2
def Sh.addMode (sh:Sh)(nm:ByteArray):Sh:={sh with modes:=sh.modes++[(nm,[])]}
def Sh.addDef (sh:Sh)(nm:ByteArray)(t:Tr):Sh:={sh with defs:=sh.defs++[(nm,t)]}
def Sh.addAct (sh:Sh)(a:Nat):Sh:={sh with acts:=sh.acts++[a]}
def Sh.addPush (sh:Sh)(nm:ByteArray):Sh:={sh with pushed:=sh.pushed++[nm]}
theorem zAh (sh:Sh)(nm:ByteArray)(i:Nat)(hi:i<sh.modes.length):(sh.addMode nm).mode i=sh.mode i:=by
 unfold Sh.mode Sh.addMode;rw[lW,lW];show((sh.modes++[(nm,[])])[i]?).getD _=_;rw[kW hi]
theorem zAi (sh:Sh)(nm:ByteArray):(sh.addMode nm).mode sh.modes.length=(nm,[]):=by
 unfold Sh.mode Sh.addMode;simp
theorem jC (sh:Sh)(nm:ByteArray):(sh.addMode nm).modes.length=sh.modes.length+1:=by unfold Sh.addMode;simp
theorem zCV (sh:Sh)(nm:ByteArray)(t:Tr)(i:Nat)(hi:i<sh.defs.length):(sh.addDef nm t).defn i=sh.defn i:=by
 unfold Sh.defn Sh.addDef;rw[lW,lW];show((sh.defs++[(nm,t)])[i]?).getD _=_;rw[kW hi]
theorem zCW (sh:Sh)(nm:ByteArray)(t:Tr):(sh.addDef nm t).defn sh.defs.length=(nm,t):=by
 unfold Sh.defn Sh.addDef;simp
theorem zCX (sh:Sh)(nm:ByteArray)(t:Tr):(sh.addDef nm t).defs.length=sh.defs.length+1:=by unfold Sh.addDef;simp
theorem Sw.appAct (h:Sw w X S D sh mv dv av pv rv ps dp){x:Nat}(hown:w2.ownsRow (S+1) 3 1 (.slice (some ⟨g,0,none⟩) (sh.acts.length+1) cap) (sh.acts.length+1) ((sh.acts.map fun x:Nat=>.int .i64 (x:Int))++[.int .i64 (x:Int)]))(hg:(w.alloc o).grownBy w2 av.ownBlock)(hat:av.ownBlock=some g∨w.heap.size<=g):
  Sw (w2.setCell ⟨S,2,none⟩ (.slice (some ⟨g,0,none⟩) (sh.acts.length+1) cap)) X S D (sh.addAct x) mv dv (.slice (some ⟨g,0,none⟩) (sh.acts.length+1) cap) pv rv ps dp∧KeepO S av (.slice (some ⟨g,0,none⟩) (sh.acts.length+1) cap) w (w2.setCell ⟨S,2,none⟩ (.slice (some ⟨g,0,none⟩) (sh.acts.length+1) cap)):=by
 obtain⟨a1,a2,a3⟩:=zEA (i:=2) h.aOwn (Nat.lt_succ_self S) h.lt hown hg hat
 have km:=xW a2 h.mOwn (Nat.lt_succ_self S) (zY h.mOwn h.aOwn (by decide));have kd:=xW a2 h.dOwn (Nat.lt_succ_self S) (zY h.dOwn h.aOwn (by decide));have kp:=xW a2 h.pOwn (Nat.lt_succ_self S) (zY h.pOwn h.aOwn (by decide));have kr:=fun i (hi:i<sh.modes.length)=>xW a2 (h.rOwn i hi) (Nat.lt_succ_self S) (zY (h.rOwn i hi) h.aOwn (by decide));have hX:∀q,X q->q≠S∧some q≠av.ownBlock:=fun q hq=>⟨Nat.ne_of_gt (h.xlt q hq).1,(h.xm q hq).2.2.1⟩
 have tk:∀d b t,TreeIn X w d b t->TreeIn X (w2.setCell ⟨S,2,none⟩ (.slice (some ⟨g,0,none⟩) (sh.acts.length+1) cap)) d b t:=fun d b t ht=>vV a2 ht hX;have hxn:∀q,X q->some q≠(Value.slice (some ⟨g,0,none⟩) (sh.acts.length+1) cap).ownBlock:=fun q hq=>(a2.block q (h.xlt q hq).2 (hX q hq).1 (hX q hq).2).2;have hb:(w2.setCell ⟨S,2,none⟩ (.slice (some ⟨g,0,none⟩) (sh.acts.length+1) cap)).heap[S]? =some (.cells #[mv,dv,(.slice (some ⟨g,0,none⟩) (sh.acts.length+1) cap),pv] 114):=by
  have:=a3.trans h.blk;simp[setCell,lU,this]
 have xl:∀q,X q->S<q∧q<(w2.setCell ⟨S,2,none⟩ (.slice (some ⟨g,0,none⟩) (sh.acts.length+1) cap)).heap.size:=fun q hq=>⟨(h.xlt q hq).1,lZ (h.xlt q hq).2 a2.size⟩
 refine⟨⟨hb,km.1,kd.1,(by show(setCell _ _ _).ownsRow _ _ _ _ (sh.acts++[x]).length ((sh.acts++[x]).map _);rw[kX,List.map_append];exact a1),kp.1,fun i hi=>(kr i hi).1,h.rApart,fun i hi k hk=>tk _ _ _ (h.rTree i hi k hk),fun i hi=>tk _ _ _ (h.dTree i hi),xl,fun q hq=>⟨(h.xm q hq).1,(h.xm q hq).2.1,hxn q hq,(h.xm q hq).2.2.2⟩,h.xr,lZ h.lt a2.size⟩,a2⟩
theorem Sw.appPush (h:Sw w X S D sh mv dv av pv rv ps dp){x:ByteArray}(hown:w2.ownsRow (S+1) 9 1 (.slice (some ⟨g,0,none⟩) (sh.pushed.length+1) cap) (sh.pushed.length+1) ((sh.pushed.map fun x=>.string x)++[.string x]))(hg:(w.alloc o).grownBy w2 pv.ownBlock)(hat:pv.ownBlock=some g∨w.heap.size<=g):
  Sw (w2.setCell ⟨S,3,none⟩ (.slice (some ⟨g,0,none⟩) (sh.pushed.length+1) cap)) X S D (sh.addPush x) mv dv av (.slice (some ⟨g,0,none⟩) (sh.pushed.length+1) cap) rv ps dp∧KeepO S pv (.slice (some ⟨g,0,none⟩) (sh.pushed.length+1) cap) w (w2.setCell ⟨S,3,none⟩ (.slice (some ⟨g,0,none⟩) (sh.pushed.length+1) cap)):=by
 obtain⟨a1,a2,a3⟩:=zEA (i:=3) h.pOwn (Nat.lt_succ_self S) h.lt hown hg hat
 have km:=xW a2 h.mOwn (Nat.lt_succ_self S) (zY h.mOwn h.pOwn (by decide));have kd:=xW a2 h.dOwn (Nat.lt_succ_self S) (zY h.dOwn h.pOwn (by decide));have ka:=xW a2 h.aOwn (Nat.lt_succ_self S) (zY h.aOwn h.pOwn (by decide));have kr:=fun i (hi:i<sh.modes.length)=>xW a2 (h.rOwn i hi) (Nat.lt_succ_self S) (zY (h.rOwn i hi) h.pOwn (by decide));have hX:∀q,X q->q≠S∧some q≠pv.ownBlock:=fun q hq=>⟨Nat.ne_of_gt (h.xlt q hq).1,(h.xm q hq).2.2.2⟩
 have tk:∀d b t,TreeIn X w d b t->TreeIn X (w2.setCell ⟨S,3,none⟩ (.slice (some ⟨g,0,none⟩) (sh.pushed.length+1) cap)) d b t:=fun d b t ht=>vV a2 ht hX;have hxn:∀q,X q->some q≠(Value.slice (some ⟨g,0,none⟩) (sh.pushed.length+1) cap).ownBlock:=fun q hq=>(a2.block q (h.xlt q hq).2 (hX q hq).1 (hX q hq).2).2;have hb:(w2.setCell ⟨S,3,none⟩ (.slice (some ⟨g,0,none⟩) (sh.pushed.length+1) cap)).heap[S]? =some (.cells #[mv,dv,av,(.slice (some ⟨g,0,none⟩) (sh.pushed.length+1) cap)] 114):=by
  have:=a3.trans h.blk;simp[setCell,lU,this]
 have xl:∀q,X q->S<q∧q<(w2.setCell ⟨S,3,none⟩ (.slice (some ⟨g,0,none⟩) (sh.pushed.length+1) cap)).heap.size:=fun q hq=>⟨(h.xlt q hq).1,lZ (h.xlt q hq).2 a2.size⟩
 refine⟨⟨hb,km.1,kd.1,ka.1,(by show(setCell _ _ _).ownsRow _ _ _ _ (sh.pushed++[x]).length ((sh.pushed++[x]).map _);rw[kX,List.map_append];exact a1),fun i hi=>(kr i hi).1,h.rApart,fun i hi k hk=>tk _ _ _ (h.rTree i hi k hk),fun i hi=>tk _ _ _ (h.dTree i hi),xl,fun q hq=>⟨(h.xm q hq).1,(h.xm q hq).2.1,(h.xm q hq).2.2.1,hxn q hq⟩,h.xr,lZ h.lt a2.size⟩,a2⟩
theorem Sw.appDef (h:Sw w X S D sh mv dv av pv rv ps dp){nm:ByteArray}{t:Tr}{q0:Nat}(ht:TreeIn X w D q0 t)(hown:w2.ownsRow (S+1) 233 2 (.slice (some ⟨g,0,none⟩) (sh.defs.length+1) cap) (sh.defs.length+1) (zAX (fun i=>.string (sh.defn i).1) (fun i=>.pointer (some ⟨dp i,0,none⟩)) sh.defs.length++[.string nm,.pointer (some ⟨q0,0,none⟩)]))(hg:(w.alloc o).grownBy w2 dv.ownBlock)(hat:dv.ownBlock=some g∨w.heap.size<=g):
  Sw (w2.setCell ⟨S,1,none⟩ (.slice (some ⟨g,0,none⟩) (sh.defs.length+1) cap)) X S D (sh.addDef nm t) mv (.slice (some ⟨g,0,none⟩) (sh.defs.length+1) cap) av pv rv ps (fun i=>if i=sh.defs.length then q0 else dp i)∧KeepO S dv (.slice (some ⟨g,0,none⟩) (sh.defs.length+1) cap) w (w2.setCell ⟨S,1,none⟩ (.slice (some ⟨g,0,none⟩) (sh.defs.length+1) cap)):=by
 obtain⟨a1,a2,a3⟩:=zEA (i:=1) h.dOwn (Nat.lt_succ_self S) h.lt hown hg hat
 have km:=xW a2 h.mOwn (Nat.lt_succ_self S) (zY h.mOwn h.dOwn (by decide));have ka:=xW a2 h.aOwn (Nat.lt_succ_self S) (zY h.aOwn h.dOwn (by decide));have kp:=xW a2 h.pOwn (Nat.lt_succ_self S) (zY h.pOwn h.dOwn (by decide));have kr:=fun i (hi:i<sh.modes.length)=>xW a2 (h.rOwn i hi) (Nat.lt_succ_self S) (zY (h.rOwn i hi) h.dOwn (by decide));have hX:∀q,X q->q≠S∧some q≠dv.ownBlock:=fun q hq=>⟨Nat.ne_of_gt (h.xlt q hq).1,(h.xm q hq).2.1⟩
 have tk:∀d b t,TreeIn X w d b t->TreeIn X (w2.setCell ⟨S,1,none⟩ (.slice (some ⟨g,0,none⟩) (sh.defs.length+1) cap)) d b t:=fun d b t ht=>vV a2 ht hX;have hxn:∀q,X q->some q≠(Value.slice (some ⟨g,0,none⟩) (sh.defs.length+1) cap).ownBlock:=fun q hq=>(a2.block q (h.xlt q hq).2 (hX q hq).1 (hX q hq).2).2;have hb:(w2.setCell ⟨S,1,none⟩ (.slice (some ⟨g,0,none⟩) (sh.defs.length+1) cap)).heap[S]? =some (.cells #[mv,(.slice (some ⟨g,0,none⟩) (sh.defs.length+1) cap),av,pv] 114):=by
  have:=a3.trans h.blk;simp[setCell,lU,this]
 have xl:∀q,X q->S<q∧q<(w2.setCell ⟨S,1,none⟩ (.slice (some ⟨g,0,none⟩) (sh.defs.length+1) cap)).heap.size:=fun q hq=>⟨(h.xlt q hq).1,lZ (h.xlt q hq).2 a2.size⟩
 refine⟨⟨hb,km.1,(by rw[zCX,qW,zCW,if_pos rfl,zAW (fun i=>.string ((sh.addDef nm t).defn i).1) (fun i=>.pointer (some ⟨if i=sh.defs.length then q0 else dp i,0,none⟩)) (fun i=>.string (sh.defn i).1) (fun i=>.pointer (some ⟨dp i,0,none⟩)) _ fun i hi=>⟨by rw[zCV sh nm t i hi],by rw[if_neg (by omega)]⟩];exact a1),ka.1,kp.1,fun i hi=>(kr i hi).1,h.rApart,fun i hi k hk=>tk _ _ _ (h.rTree i hi k hk),fun i hi=>(by
  rw[zCX] at hi;by_cases e:i=sh.defs.length
  ·subst e;rw[zCW];simp only[if_pos];exact tk _ _ _ ht
  ·rw[zCV sh nm t i (by omega)];simp only[if_neg e];exact tk _ _ _ (h.dTree i (by omega))),xl,fun q hq=>⟨(h.xm q hq).1,hxn q hq,(h.xm q hq).2.2.1,(h.xm q hq).2.2.2⟩,h.xr,lZ h.lt a2.size⟩,a2⟩
theorem Sw.appMode (h:Sw w X S D sh mv dv av pv rv ps dp){nm:ByteArray}(hown:w2.ownsRow (S+1) 120 2 (.slice (some ⟨g,0,none⟩) (sh.modes.length+1) cap) (sh.modes.length+1) (zAX (fun i=>.string (sh.mode i).1) rv sh.modes.length++[.string nm,.slice none 0 0]))(hg:(w.alloc o).grownBy w2 mv.ownBlock)(hat:mv.ownBlock=some g∨w.heap.size<=g):
  Sw (w2.setCell ⟨S,0,none⟩ (.slice (some ⟨g,0,none⟩) (sh.modes.length+1) cap)) X S D (sh.addMode nm) (.slice (some ⟨g,0,none⟩) (sh.modes.length+1) cap) dv av pv (fun i=>if i=sh.modes.length then .slice none 0 0 else rv i) (fun i=>if i=sh.modes.length then[] else ps i) dp∧KeepO S mv (.slice (some ⟨g,0,none⟩) (sh.modes.length+1) cap) w (w2.setCell ⟨S,0,none⟩ (.slice (some ⟨g,0,none⟩) (sh.modes.length+1) cap)):=by
 obtain⟨a1,a2,a3⟩:=zEA (i:=0) h.mOwn (Nat.lt_succ_self S) h.lt hown hg hat
 have kd:=xW a2 h.dOwn (Nat.lt_succ_self S) (zY h.dOwn h.mOwn (by decide));have ka:=xW a2 h.aOwn (Nat.lt_succ_self S) (zY h.aOwn h.mOwn (by decide));have kp:=xW a2 h.pOwn (Nat.lt_succ_self S) (zY h.pOwn h.mOwn (by decide));have kr:=fun i (hi:i<sh.modes.length)=>xW a2 (h.rOwn i hi) (Nat.lt_succ_self S) (zY (h.rOwn i hi) h.mOwn (by decide));have hX:∀q,X q->q≠S∧some q≠mv.ownBlock:=fun q hq=>⟨Nat.ne_of_gt (h.xlt q hq).1,(h.xm q hq).1⟩
 have tk:∀d b t,TreeIn X w d b t->TreeIn X (w2.setCell ⟨S,0,none⟩ (.slice (some ⟨g,0,none⟩) (sh.modes.length+1) cap)) d b t:=fun d b t ht=>vV a2 ht hX;have hxn:∀q,X q->some q≠(Value.slice (some ⟨g,0,none⟩) (sh.modes.length+1) cap).ownBlock:=fun q hq=>(a2.block q (h.xlt q hq).2 (hX q hq).1 (hX q hq).2).2;have hb:(w2.setCell ⟨S,0,none⟩ (.slice (some ⟨g,0,none⟩) (sh.modes.length+1) cap)).heap[S]? =some (.cells #[(.slice (some ⟨g,0,none⟩) (sh.modes.length+1) cap),dv,av,pv] 114):=by
  have:=a3.trans h.blk;simp[setCell,lU,this]
 have xl:∀q,X q->S<q∧q<(w2.setCell ⟨S,0,none⟩ (.slice (some ⟨g,0,none⟩) (sh.modes.length+1) cap)).heap.size:=fun q hq=>⟨(h.xlt q hq).1,lZ (h.xlt q hq).2 a2.size⟩
 refine⟨⟨hb,(by rw[jC,qW,zAi,if_pos rfl,zAW (fun i=>.string ((sh.addMode nm).mode i).1) (fun i=>if i=sh.modes.length then .slice none 0 0 else rv i) (fun i=>.string (sh.mode i).1) rv _ fun i hi=>⟨by rw[zAh sh nm i hi],by rw[if_neg (by omega)]⟩];exact a1),kd.1,ka.1,kp.1,fun i hi=>(by
  rw[jC] at hi;by_cases e:i=sh.modes.length
  ·subst e;rw[zAi];simp only[if_pos];exact ownsRow_nil _ _ _ _
  ·rw[zAh sh nm i (by omega)];simp only[if_neg e];exact(kr i (by omega)).1),fun i j q hi hj hij hq=>(by
  rw[jC] at hi hj;by_cases e:i=sh.modes.length
  ·simp only[if_pos e] at hq;cases hq
  ·simp only[if_neg e] at hq
   by_cases e2:j=sh.modes.length
   ·simp only[if_pos e2];intro e3;cases e3
   ·simp only[if_neg e2];exact h.rApart i j q (by omega) (by omega) hij hq),fun i hi k hk=>(by
  rw[jC] at hi;by_cases e:i=sh.modes.length
  ·subst e;rw[zAi] at hk;exact absurd hk (Nat.not_lt_zero _)
  ·rw[zAh sh nm i (by omega)] at hk ⊢;simp only[if_neg e];exact tk _ _ _ (h.rTree i (by omega) k hk)),fun i hi=>tk _ _ _ (h.dTree i hi),xl,fun q hq=>⟨hxn q hq,(h.xm q hq).2.1,(h.xm q hq).2.2.1,(h.xm q hq).2.2.2⟩,fun q i hq hi=>(by
  rw[jC] at hi;by_cases e:i=sh.modes.length
  ·simp only[if_pos e];intro e3;cases e3
  ·simp only[if_neg e];exact h.xr q i hq (by omega)),lZ h.lt a2.size⟩,a2⟩
end
end
def Sh.addRule (sh:Sh)(k:Nat)(t:Tr):Sh:={sh with modes:=sh.modes.set k ((sh.mode k).1,(sh.mode k).2++[t])}
theorem zEo (sh:Sh)(k:Nat)(t:Tr):(sh.addRule k t).modes.length=sh.modes.length:=by unfold Sh.addRule;simp
theorem zAg (sh:Sh)(k:Nat)(t:Tr)(i:Nat)(hi:i≠k):(sh.addRule k t).mode i=sh.mode i:=by
 unfold Sh.addRule
 conv=>lhs;unfold Sh.mode
 conv=>rhs;unfold Sh.mode
 rw[lW,lW];show((sh.modes.set k _)[i]?).getD _=_;rw[List.getElem?_set_ne (Ne.symm hi),lW]
theorem zA0 (sh:Sh)(k:Nat)(t:Tr)(hk:k<sh.modes.length):(sh.addRule k t).mode k=((sh.mode k).1,(sh.mode k).2++[t]):=by
 unfold Sh.addRule
 conv=>lhs;unfold Sh.mode
 rw[lW];show((sh.modes.set k _)[k]?).getD _=_;rw[List.getElem?_set_self hk];rfl
theorem zHk (sh:Sh)(k:Nat)(t:Tr)(hk:k<sh.modes.length)(i:Nat):((sh.addRule k t).mode i).1=(sh.mode i).1:=by
 by_cases e:i=k
 ·subst e;rw[zA0 sh i t hk]
 ·rw[zAg sh k t i e]
theorem Sw.appRule {w w2:World}{X:Nat->Prop}{S D:Nat}{sh:Sh}{dv av pv:Value}{rv:Nat->Value}{ps:Nat->List Nat}{dp:Nat->Nat}{o:Obj}{g cap mg mc k q0:Nat}{t:Tr}(h:Sw w X S D sh (.slice (some ⟨mg,0,none⟩) sh.modes.length mc) dv av pv rv ps dp)(hk:k<sh.modes.length)(ht:TreeIn X w D q0 t)(hown:w2.ownsRow (S+1) 158 1 (.slice (some ⟨g,0,none⟩) ((sh.mode k).2.length+1) cap) ((sh.mode k).2.length+1) (xT (ps k)++[.pointer (some ⟨q0,0,none⟩)]))(hg:(w.alloc o).grownBy w2 (rv k).ownBlock)(hat:(rv k).ownBlock=some g∨w.heap.size<=g):
  Sw (w2.setCell ⟨mg,k*2+1,none⟩ (.slice (some ⟨g,0,none⟩) ((sh.mode k).2.length+1) cap)) X S D (sh.addRule k t) (.slice (some ⟨mg,0,none⟩) sh.modes.length mc) dv av pv (fun i=>if i=k then .slice (some ⟨g,0,none⟩) ((sh.mode k).2.length+1) cap else rv i) (fun i=>if i=k then ps k++[q0] else ps i) dp∧KeepO mg (rv k) (.slice (some ⟨g,0,none⟩) ((sh.mode k).2.length+1) cap) w (w2.setCell ⟨mg,k*2+1,none⟩ (.slice (some ⟨g,0,none⟩) ((sh.mode k).2.length+1) cap)):=by
 have hS:=h.lt;have hmg:=h.mOwn.lt mg rfl;have hmr:=zY h.mOwn (h.rOwn k hk) (by decide) mg rfl;have hsz:w.heap.size<=w2.heap.size:=lY (by simp) hg.size;have hgm:g≠mg:=fun e=>by
  rcases hat with ha|ha
  ·exact hmr (by rw[ha,e])
  ·omega
 have bl:∀j,j<w.heap.size->some j≠(rv k).ownBlock->w2.heap[j]? =w.heap[j]? :=fun j hj hne=>(hg.block j (by simp;omega) hne).trans (lG _ _ _ hj);have a2:KeepO mg (rv k) (.slice (some ⟨g,0,none⟩) ((sh.mode k).2.length+1) cap) w (w2.setCell ⟨mg,k*2+1,none⟩ (.slice (some ⟨g,0,none⟩) ((sh.mode k).2.length+1) cap)):=⟨hg.os,hg.output,by rw[zC];exact hsz,fun j h1 h2 h3=>⟨(lJ _ _ _ _ h2).trans (bl j h1 h3),fun e=>by
  have e2:j=g:=by simpa[Value.ownBlock] using e
  rcases hat with ha|ha
  ·exact h3 (by rw[ha,e2])
  ·omega⟩⟩
 have ne:∀{e z n v xs},w.ownsRow (S+1) e z v n xs->e≠120->∀q,v.ownBlock=some q->q≠mg:=fun ho he q hq e2=>zY ho h.mOwn he q hq (by rw[e2];rfl);have kd:=zCe a2 h.dOwn (ne h.dOwn (by decide)) (zY h.dOwn (h.rOwn k hk) (by decide));have ka:=zCe a2 h.aOwn (ne h.aOwn (by decide)) (zY h.aOwn (h.rOwn k hk) (by decide));have kp:=zCe a2 h.pOwn (ne h.pOwn (by decide)) (zY h.pOwn (h.rOwn k hk) (by decide));have kr:=fun i (hi:i<sh.modes.length) (hik:i≠k)=>zCe a2 (h.rOwn i hi) (ne (h.rOwn i hi) (by decide)) (fun q hq=>h.rApart i k q hi hk hik hq);have hX:∀q,X q->q≠mg∧some q≠(rv k).ownBlock:=fun q hq=>⟨fun e=>(h.xm q hq).1 (by rw[e];rfl),h.xr q k hq hk⟩
 have tk:∀d b t,TreeIn X w d b t->TreeIn X (w2.setCell ⟨mg,k*2+1,none⟩ (.slice (some ⟨g,0,none⟩) ((sh.mode k).2.length+1) cap)) d b t:=fun d b t ht=>vV a2 ht hX;have hlen:=zEo sh k t;refine⟨⟨?_,?_,kd.1,ka.1,kp.1,fun i hi=>?_,fun i j q hi hj hij hq=>?_,fun i hi j hj=>?_,fun i hi=>tk _ _ _ (h.dTree i hi),fun q hq=>⟨(h.xlt q hq).1,lZ (h.xlt q hq).2 a2.size⟩,h.xm,fun q i hq hi=>?_,lZ hS a2.size⟩,a2⟩
 ·exact(a2.block S hS (by omega) fun e=>by have:=((h.rOwn k hk).lt S e.symm).1;omega).1.trans h.blk
 ·have h1:=zD h.mOwn fun q _ hq hv=>bl q hq (by
   have e:mg=q:=by simpa[Value.ownBlock] using hv
   rw[<-e];exact hmr)
  have h2:=h1.stored (k*2+1) (.slice (some ⟨g,0,none⟩) ((sh.mode k).2.length+1) cap);rw[zKu _ _ _ _ _ hk] at h2;rw[hlen,zAW (fun i=>.string ((sh.addRule k t).mode i).1) _ (fun i=>.string (sh.mode i).1) (fun i=>if i=k then .slice (some ⟨g,0,none⟩) ((sh.mode k).2.length+1) cap else rv i) _ fun i _=>⟨by rw[zHk sh k t hk],rfl⟩];exact h2.1
 ·rw[hlen] at hi
  by_cases e:i=k
  ·subst e
   rw[zA0 sh i t hk];simp only[if_pos];have e2:((sh.mode i).2++[t]).length=(sh.mode i).2.length+1:=by simp
   have e3:xT (ps i++[q0])=xT (ps i)++[.pointer (some ⟨q0,0,none⟩)]:=by simp[xT]
   show World.ownsRow _ _ _ _ _ ((sh.mode i).2++[t]).length _;rw[e2,e3];exact zD hown fun q _ _ hv=>lJ _ _ _ _ (by
    have e4:g=q:=by simpa[Value.ownBlock] using hv
    rw[<-e4];exact hgm)
  ·rw[zAg sh k t i e]
   simp only[if_neg e];exact(kr i hi e).1
 ·rw[hlen] at hi hj
  by_cases e:i=k
  ·simp only[if_pos e] at hq
   have e2:j≠k:=fun e2=>hij (by rw[e,e2]);simp only[if_neg e2];exact fun e3=>(kr j hj e2).2 q e3.symm (hq.symm)
  ·simp only[if_neg e] at hq
   by_cases e2:j=k
   ·simp only[if_pos e2]
    exact(kr i hi e).2 q hq
   ·simp only[if_neg e2]
    exact h.rApart i j q hi hj hij hq
 ·rw[hlen] at hi
  by_cases e:i=k
  ·subst e
   rw[zA0 sh i t hk] at hj ⊢;simp only[if_pos];have hpl:(ps i).length=(sh.mode i).2.length:=by
    have:=(h.rOwn i hi).1;unfold xT at this;rw[kV] at this;omega
   have hj2:j<(sh.mode i).2.length+1:=by simpa using hj
   show TreeIn X _ D ((ps i++[q0]).getD j 0) (((sh.mode i).2++[t]).getD j Tr.none);by_cases hj3:j<(sh.mode i).2.length
   ·have e1:(ps i++[q0]).getD j 0=(ps i).getD j 0:=by rw[lW,lW,kW (by omega)]
    have e2:((sh.mode i).2++[t]).getD j Tr.none=(sh.mode i).2.getD j Tr.none:=by rw[lW,lW,kW hj3]
    rw[e1,e2];exact tk _ _ _ (h.rTree i hi j hj3)
   ·have e5:j=(sh.mode i).2.length:=by omega
    subst e5;have e1:(ps i++[q0]).getD (sh.mode i).2.length 0=q0:=by rw[<-hpl];simp
    have e2:((sh.mode i).2++[t]).getD (sh.mode i).2.length Tr.none=t:=by simp
    rw[e1,e2];exact tk _ _ _ ht
  ·rw[zAg sh k t i e] at hj ⊢
   simp only[if_neg e];exact tk _ _ _ (h.rTree i hi j hj)
 ·rw[hlen] at hi
  by_cases e:i=k
  ·simp only[if_pos e]
   exact(a2.block q (h.xlt q hq).2 (hX q hq).1 (hX q hq).2).2
  ·simp only[if_neg e]
   exact h.xr q i hq hi
theorem qH {w:World}{H e z n:Nat}{v:Value}{xs:List Value}(h:w.ownsRow H e z v n xs)(hn:0<n):∃g cap,v=.slice (some ⟨g,0,none⟩) n cap∧H<=g∧g<w.heap.size∧n<=cap∧cap<=maxLen∧(∀j u,xs[j]? =some u->w.cell? ⟨g,j,none⟩=some u)∧∀j,w.frozen? ⟨g,j,none⟩=false:=by
 rcases h.2 with⟨-,h0⟩|⟨g,cap,cur,hv,hH,hh,h1,h2,-⟩
 ·omega
 ·have hl:=h.lt g (by rw[hv];rfl)
  refine⟨g,cap,hv,hH,hl.2,h1,h2,fun j u hu=>?_,fun j=>?_⟩
  ·have:=h.cells (g:=g) (by rw[hv];rfl) j u hu
   rw[Addr.add_lit,Nat.zero_add] at this;exact this
  ·unfold frozen?;rw[hh];simp
theorem zDa {w:World}{H e z n:Nat}{v:Value}{xs:List Value}(h:w.ownsRow H e z v n xs):∃ao cap,v=.slice ao n cap∧n<=cap∧cap<=maxLen:=by
 rcases h.2 with⟨hv,h0⟩|⟨g,cap,cur,hv,hH,hh,h1,h2,-⟩
 ·exact⟨none,0,by rw[hv,h0],by omega,by unfold maxLen;omega⟩
 ·exact⟨_,cap,hv,h1,h2⟩
end Go.Proofs.YtbjcfkdnjaiclaaGreat
