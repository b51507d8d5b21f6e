import Derived.Test.YtbjcfkdnjaiclaaGreatB0
import Derived.Test.YtbjcfkdnjaiclaaGreatB22
/- Parts of the proof. -/
set_option linter.unusedVariables false
set_option linter.unusedSimpArgs false
set_option maxHeartbeats 4000000
set_option maxRecDepth 100000
namespace Go.Proofs.YtbjcfkdnjaiclaaGreat
open Go.RowKit Go.Proofs.Tryz Go.World
def DefsIn (b:Nat)(X:Nat->Prop)(w:World)(D:Nat)(v:Value)(l:List (ByteArray×Tr)):Prop:=
 ∃ao cap,v=.slice ao l.length cap∧l.length<=cap∧cap<=maxLen∧∀i,i<l.length->∃g o p,ao=some ⟨g,o,none⟩∧In w g∧g<b∧w.cell? ⟨g,o+i*2,none⟩=some (.string (l.getD i (⟨#[]⟩,Tr.none)).1)∧w.cell? ⟨g,o+i*2+1,none⟩=some (.pointer (some ⟨p,0,none⟩))∧TreeIn X w D p (l.getD i (⟨#[]⟩,Tr.none)).2∧(l.getD i (⟨#[]⟩,Tr.none)).1.size<=100000
theorem DefsIn.go {b:Nat}{X:Nat->Prop}{w w2:World}{D:Nat}{v:Value}{l:List (ByteArray×Tr)}(h:DefsIn b X w D v l)(hH:∀i,X i->i<b)(a:Agree (·<b) w w2):DefsIn b X w2 D v l:=by
 obtain⟨ao,cap,hv,h1,h2,h3⟩:=h;refine⟨ao,cap,hv,h1,h2,fun i hi=>?_⟩;obtain⟨g,o,p,ha,hg,hx,c0,c1,ht,hs⟩:=h3 i hi;have e:=a.block g hg hx;exact⟨g,o,p,ha,lZ hg a.size,hx,(cell?_of_block e).trans c0,(cell?_of_block e).trans c1,ht.go (a.mono fun i _ hx=>hH i hx),hs⟩
def TrAns (w:World)(X:Nat->Prop)(b:Nat)(s:ByteArray)(dv:Value)(r:Rx)(D:Nat)(a:Option (Tr×Nat))(e:Ending)(w':World):Prop:=
 Keep w.heap.size b w w'∧match a with
 |none=>∃v q,e=.returned (.tuple #[.pointer v,.bool false])∧RxAt w' b s dv {r with at_:=q}
 |some (t,q)=>∃p,e=.returned (.tuple #[.pointer (some ⟨p,0,none⟩),.bool true])∧TreeIn (fun i=>X i∨w.heap.size<=i) w' (D+4*q) p t∧RxAt w' b s dv {r with at_:=q}
theorem zI8 (s:ByteArray)(p:Nat)(l:List (ByteArray×Tr))(j:Nat)(h:j<l.length):zCt s p (l.drop j)=if zI s p (braced (l.getD j (⟨#[]⟩,Tr.none)).1) then some ((l.getD j (⟨#[]⟩,Tr.none)).2,p+(braced (l.getD j (⟨#[]⟩,Tr.none)).1).size) else zCt s p (l.drop (j+1)):=by
 rw[List.drop_eq_getElem_cons h,lW,lV h];rfl
theorem zI7 (w:World)(X:Nat->Prop)(b:Nat)(s:ByteArray)(dv:Value)(r:Rx)(h:RxAt w b s dv r)(hs:s.size<=1048576)(ha:r.at_<=s.size)(D:Nat)(defs:List (ByteArray×Tr))(hD:DefsIn b X w D dv defs)(hH:∀i,X i->i<b)(hlen:defs.length<=1000000):
  Calls prog 202 #[.pointer (some ⟨b,0,none⟩)] w (TrAns w X b s dv r D (zCt s r.at_ defs)):=by
 have hlb:=h.lt;obtain⟨ao,cap,rfl,hcap,hcap2,hd⟩:=hD;have HD:=vl hd;obtain⟨-,c1,-,-,-,-⟩:=h.cells;have HR:=vl h;have HLB:=vl hlb;obtain⟨G,hG⟩:∃G,G=zCt s r.at_ defs:=⟨_,rfl⟩
 have HG:=vl hG.symm;rw[<-hG];go_in;go_wp2;go_loopg [11] defs.length (fun q i wr=>∃j:Nat,q=defs.length-j∧j<=defs.length∧i=.int .i64 (j:Int)∧zCt s r.at_ (defs.drop j)=G∧RxAt wr b s (.slice ao defs.length cap) r∧Keep w.heap.size b w wr)
 case atStart=>exact⟨0,rfl,lX,rfl,HG.out,HR.out,Keep.refl _ _ _⟩
 case round=>
  obtain⟨j,hgk,hj,rfl,hGj,hR,hk⟩:=hrel;have HA:Hid (gk=defs.length-j∧RxAt wr b s (.slice ao defs.length cap) r∧Keep w.heap.size b w wr):=⟨hgk,hR,hk⟩
  by_cases hj2:j<defs.length
  ·have i1:(j:Int)<(defs.length:Int):=by omega
   obtain⟨g,o,p,rfl,hg,hgH,d0,d1,ht,hsz⟩:=HD.out j hj2;have hb:=HLB.out;have eb:wr.heap[g]? =w.heap[g]? :=hk.block g hg (kJ hgH);have y0:=(cell?_of_block eb).trans d0;have y1:=(cell?_of_block eb).trans d1;have HGj:Hid ((if zI s r.at_ (braced (defs.getD j (⟨#[]⟩,Tr.none)).1) then some ((defs.getD j (⟨#[]⟩,Tr.none)).2,r.at_+(braced (defs.getD j (⟨#[]⟩,Tr.none)).1).size) else zCt s r.at_ (defs.drop (j+1)))=G):=by
    show _=_;rw[<-zI8 s r.at_ defs j hj2];exact hGj
   have HT:=vl <| ht.go (hk.agree fun i hi hx=>⟨hi,kJ (hH i hx)⟩);generalize defs.getD j (⟨#[]⟩,Tr.none)=nt at *;obtain⟨nm,tr⟩:=nt;simp only at y0 y1 hsz;have HTK:Hid (∀w2 v,zI s r.at_ (braced nm)=v->RxAt w2 b s (.slice (some ⟨g,o,none⟩) defs.length cap) r->Calls prog 189 #[.pointer (some ⟨b,0,none⟩),.string (⟨#[123]⟩++nm++⟨#[125]⟩)] w2 fun e w'=>e=.returned (.bool v)∧RxAt w' b s (.slice (some ⟨g,o,none⟩) defs.length cap) {r with at_:=if v then r.at_+(braced nm).size else r.at_}∧∀H,Keep H b w2 w'):=fun w2 v hv h2=>jX (r:=r) (x:=r.at_) (braced nm) hs (by omega) (by rw[zB7];omega) hv rfl h2;have hbs:=zB7 nm;have HBN:Hid (braced nm=⟨#[123]⟩++nm++⟨#[125]⟩):=rfl;have hwz:w.heap.size<=wr.heap.size:=HA.out.2.2.size;obtain⟨wa,hwa,HRa,z0,z1,HKa⟩:∃wa,wa=wr.alloc (.cells #[.string nm,.pointer (some ⟨p,0,none⟩)] 233)∧Hid (RxAt wa b s (.slice (some ⟨g,o,none⟩) defs.length cap) r∧TreeIn (fun i=>X i∨w.heap.size<=i) wa D p tr)∧wa.cell? ⟨wr.heap.size,0,none⟩=some (.string nm)∧wa.cell? ⟨wr.heap.size,1,none⟩=some (.pointer (some ⟨p,0,none⟩))∧Hid (Keep w.heap.size b w wa):=by
    have hb2:=gG wr (.cells #[.string nm,.pointer (some ⟨p,0,none⟩)] 233);refine⟨_,rfl,⟨RxAt.of_block HA.out.2.1 (lG _ _ _ (by omega)),HT.out.step ((kZ (H:=wr.heap.size) (b:=b) _ _ lQ).agree fun i hi hx=>⟨hi,kJ (hH i hx)⟩) fun i _ hx=>.inl hx⟩,?_,?_,HA.out.2.2.trans (kZ _ _ hwz)⟩
    ·unfold cell?;rw[hb2];rfl
    ·unfold cell?;rw[hb2];rfl
   apply wp_cut;intro K1 HK1;go_wp2;apply HK1.out;apply wp_cut;intro K1 HK1;go_wp2;apply HK1.out;apply wp_cut;intro KB HKB;refine wp_block ?_;apply wp_cut;intro K1 HK1;go_wp2;apply HK1.out;clear HK1;rw[<-hwa];clear hwa y0 y1;have h1z:((⟨#[123]⟩:ByteArray)).size=1:=rfl;have h2z:((⟨#[125]⟩:ByteArray)).size=1:=rfl;clear hcap hcap2 hbs HBN;cases ht:zI s r.at_ (braced nm) with
   |true=>
    have HT1:=HTK.out wa true ht HRa.out.1;have HT2:=vl HT1;rw[ht] at HGj;have HG2:=vl HGj.out.symm;rw[HG2.out];have hb:=HLB.out;have HZ:Hid (∀w4,(∀H,Keep H b wa w4)->TreeIn (fun i=>X i∨w.heap.size<=i) w4 (D+4*(r.at_+(braced nm).size)) p tr∧Keep w.heap.size b w w4∧w4.cell? ⟨wr.heap.size,1,none⟩=some (.pointer (some ⟨p,0,none⟩))):=fun w4 hk4=>by
     refine⟨((HRa.out.2.go ((hk4 wa.heap.size).agree fun i hi hx=>⟨hi,by rcases hx with hx|hx;exact kJ (hH i hx);omega⟩))).deep (by omega),HKa.out.trans (hk4 _),?_⟩;exact(cell?_of_block ((hk4 (wr.heap.size+1)).block wr.heap.size (by omega) (by omega))).trans z1
    generalize (braced nm).size=bs at *;clear ht HT1 HTK HGj HG2 hb;go_wp2_with (first|(go_at_call 189;refine HT2.out.mono ?_;rintro e w4 ⟨rfl,hR4,hk4⟩;obtain⟨t4,k4,y1⟩:=HZ.out w4 hk4))
    refine bodyPost_ret (results_tmp2 rfl _ _ _) rfl ?_;exact⟨k4,p,rfl,t4,hR4⟩
   |false=>
    have HT1:=HTK.out wa false ht HRa.out.1;have HT2:=vl HT1;rw[ht] at HGj;have HG2:=vl HGj.out;clear ht HT1 HTK HGj;go_wp2_with (first|(go_at_call 189;refine HT2.out.mono ?_;rintro e w4 ⟨rfl,hR4,hk4⟩))
    apply HKB.out;clear HKB;go_wp2;go_roundg (defs.length-(j+1))
    case measure=>rw[HA.out.1];omega
    case rel=>exact⟨j+1,rfl,by omega,by go_num,HG2.out,hR4,HKa.out.trans (hk4 _)⟩
  ·have i1:(defs.length:Int)<=(j:Int):=by omega
   have HG2:Hid (G=none):=by
    show _=_;rw[<-hGj,List.drop_eq_nil_of_le (by omega)];rfl
   clear hgk hR hk hcap hcap2 hGj;go_wp2;rw[HG2.out];refine bodyPost_ret (results_tmp2 rfl _ _ _) rfl ?_;exact⟨HA.out.2.2,none,r.at_,rfl,HA.out.2.1⟩
def zAs (fn:Nat)(X:Nat->Prop)(b:Nat)(s:ByteArray)(dv:Value)(D0:Nat)(defs:List (ByteArray×Tr))(D k:Nat)(M:Reads):Prop:=
 ∀w r,RxAt w b s dv r->DefsIn b X w D0 dv defs->r.depth+k=8->r.at_<=s.size->Calls prog fn #[.pointer (some ⟨b,0,none⟩)] w (TrAns w X b s dv r D (M r.at_ r.both))
theorem zIw {X Y:Nat->Prop}{b:Nat}{s:ByteArray}{dv:Value}{w wa:World}{r:Rx}{D q:Nat}{u:Value}{c:Cs}(hb:b<w.heap.size)(hq:0<q)(hR:RxAt wa b s dv {r with at_:=q})(hr:RangesIn Y wa u c.ranges)(hY:∀i,Y i->w.heap.size<=i)(hk:Keep w.heap.size b w wa):Hid (Calls prog 205 #[.agg #[u,.bool c.others]] wa fun e w'=>∃p,e=.returned (.pointer (some ⟨p,0,none⟩))∧TreeIn (fun i=>X i∨w.heap.size<=i) w' (D+4*q) p (zGU c)∧RxAt w' b s dv {r with at_:=q}∧Keep w.heap.size b w w'):=by
 have hz:=hk.size;refine(zFS wa _ _ c hr).mono ?_;rintro e w4 ⟨p,rfl,ht,hk4⟩;refine⟨p,rfl,?_,RxAt.of_block hR (hk4.block b (by omega) (by omega)),hk.trans (hk4.lower (by omega) (by omega))⟩;have:=ht (D+4*q-1);rw[show D+4*q-1+1=D+4*q by omega] at this;exact this.mono fun i _ hx=>by
  rcases hx with hx|hx
  ·exact .inr (hY i hx.1)
  ·exact .inr (by omega)
theorem zNv (X:Nat->Prop)(b:Nat)(s:ByteArray)(dv:Value)(hs:s.size<=1048576)(D:Nat)(w:World)(r:Rx)(h:RxAt w b s dv r)(ha:r.at_<=s.size)(n1:byt s r.at_≠40)(n2:byt s r.at_≠123)(hm:jD s r.at_=none):
  Calls prog 196 #[.pointer (some ⟨b,0,none⟩)] w (TrAns w X b s dv r D none):=by
 have HP0:=vl <| qD w b s dv r h hs (by omega) 0 (by omega);have HST:Hid (Calls prog 203 #[.pointer (some ⟨b,0,none⟩)] w (zAm w b s dv r none)):=by have:=zDE w b s dv r h hs ha;rw[hm] at this;exact this
 have HLB:=vl h.lt;generalize byt s r.at_=c0 at *;have e1:((c0:Int)==40)=false:=by rw[gQ];omega
 have e2:((c0:Int)==123)=false:=by rw[gQ];omega
 go_in;go_wp2_with (first|(go_at_call 200;refine HP0.out.mono ?_;rintro e w9 ⟨rfl,hw9⟩;have hw8:=hw9.symm;subst hw8)|(go_at_call 203;refine HST.out.mono ?_;rintro e w2 ⟨hk2,v,n,cc,o,q,rfl,hR2⟩))
 refine bodyPost_ret (results_tmp2 rfl _ _ _) rfl ?_;have hb:=HLB.out;have hz:=hk2.size;refine⟨hk2.trans (kZ _ _ hz),none,q,rfl,RxAt.of_block hR2 (lG _ _ _ (by omega))⟩
theorem zNu (X:Nat->Prop)(b:Nat)(s:ByteArray)(dv:Value)(hs:s.size<=1048576)(D:Nat)(w:World)(r:Rx)(h:RxAt w b s dv r)(ha:r.at_<=s.size)(n1:byt s r.at_≠40)(n2:byt s r.at_≠123)(c:Cs)(q:Nat)(hm:jD s r.at_=some (c,q))(hbo:r.both=false):
  Calls prog 196 #[.pointer (some ⟨b,0,none⟩)] w (TrAns w X b s dv r D (some (zGU c,q))):=by
 have HP0:=vl <| qD w b s dv r h hs (by omega) 0 (by omega);have HST:Hid (Calls prog 203 #[.pointer (some ⟨b,0,none⟩)] w (zAm w b s dv r (some (c,q)))):=by have:=zDE w b s dv r h hs ha;rw[hm] at this;exact this
 have HLB:Hid (b<w.heap.size∧0<q∧c.ranges.length<=3000000):=⟨h.lt,by have:=(zC3 s hs _ _ _ hm).1;omega,(zC3 s hs _ _ _ hm).2.2.1⟩
 generalize byt s r.at_=c0 at *;have e1:((c0:Int)==40)=false:=by rw[gQ];omega
 have e2:((c0:Int)==123)=false:=by rw[gQ];omega
 have HBO:=vl hbo;go_in;apply wp_cut;intro K0 J;go_wp2;apply J.out;apply wp_cut;intro K0 J;go_wp2_with (first|(go_at_call 200;refine HP0.out.mono ?_;rintro e w9 ⟨rfl,hw9⟩;have hw8:=hw9.symm;subst hw8))
 apply J.out;apply wp_cut;intro K0 J;go_wp2_with (first|(go_at_call 203;refine HST.out.mono ?_;rintro e w2 ⟨hk2,u,rfl,hu,hR2⟩;obtain⟨ao,cap,hv,-⟩:=hu.at;subst hv))
 apply J.out;obtain⟨wa,hwa,z0,z1,c4,HA⟩:∃wa,wa=w2.alloc (.cells #[.slice ao c.ranges.length cap,.bool c.others] 161)∧wa.cell? ⟨w2.heap.size,0,none⟩=some (.slice ao c.ranges.length cap)∧wa.cell? ⟨w2.heap.size,1,none⟩=some (.bool c.others)∧wa.cell? ⟨b,4,none⟩=some (.bool false)∧Hid (RxAt wa b s dv {r with at_:=q}∧RangesIn (fun i=>w.heap.size<=i∧i≠w2.heap.size) wa (.slice ao c.ranges.length cap) c.ranges∧Keep w.heap.size b w wa∧wa.heap.size=w2.heap.size+1∧w.heap.size<=w2.heap.size∧wa.heap[w2.heap.size]? =some (.cells #[.slice ao c.ranges.length cap,.bool c.others] 161)):=by
  have hb:=HLB.out.1;have hz:=hk2.size;have hn:=gG w2 (.cells #[.slice ao c.ranges.length cap,.bool c.others] 161);have hR:RxAt (w2.alloc (.cells #[.slice ao c.ranges.length cap,.bool c.others] 161)) b s dv {r with at_:=q}:=RxAt.of_block hR2 (lG _ _ _ (by omega));refine⟨_,rfl,?_,?_,?_,hR,fun w3 a=>hu w3 ⟨a.os,a.output,lY (by simp) a.size,fun i hi hx=>(a.block i (by simp;omega) ⟨hx,by omega⟩).trans (lG _ _ _ hi)⟩,hk2.trans (kZ _ _ hz),by simp,hz,hn⟩
  ·unfold cell?;rw[hn];rfl
  ·unfold cell?;rw[hn];rfl
  ·have:=hR.cells.2.2.2.2.1
   rw[<-HBO.out];exact this
 rw[<-hwa];clear hwa hk2 hu hR2;obtain⟨B,hB⟩:∃B,B=w2.heap.size:=⟨_,rfl⟩
 rw[<-hB] at z0 z1 HA ⊢;clear hB;apply wp_cut;intro K0 J;go_wp2;apply J.out;clear J;have HOT:=zIw (X:=X) (D:=D) HLB.out.1 HLB.out.2.1 HA.out.1 HA.out.2.1 (fun i h=>h.1) HA.out.2.2.1;clear HA;go_wp2_with (first|(go_at_call 205;refine HOT.out.mono ?_;rintro e w4 ⟨p,rfl,ht4,hR4,hk4⟩))
 refine bodyPost_ret (results_tmp2 rfl _ _ _) rfl ?_;exact⟨hk4,p,rfl,ht4,hR4⟩
theorem zNw (X:Nat->Prop)(b:Nat)(s:ByteArray)(dv:Value)(hs:s.size<=1048576)(D:Nat)(w:World)(r:Rx)(h:RxAt w b s dv r)(ha:r.at_<=s.size)(n1:byt s r.at_≠40)(n2:byt s r.at_≠123)(c:Cs)(q:Nat)(hm:jD s r.at_=some (c,q))(hbo:r.both=true):
  Calls prog 196 #[.pointer (some ⟨b,0,none⟩)] w (TrAns w X b s dv r D (some (zGU ⟨qB c.ranges,c.others⟩,q))):=by
 have HP0:=vl <| qD w b s dv r h hs (by omega) 0 (by omega);have HST:Hid (Calls prog 203 #[.pointer (some ⟨b,0,none⟩)] w (zAm w b s dv r (some (c,q)))):=by have:=zDE w b s dv r h hs ha;rw[hm] at this;exact this
 have HLB:Hid (b<w.heap.size∧0<q∧c.ranges.length<=3000000):=⟨h.lt,by have:=(zC3 s hs _ _ _ hm).1;omega,(zC3 s hs _ _ _ hm).2.2.1⟩
 generalize byt s r.at_=c0 at *;have e1:((c0:Int)==40)=false:=by rw[gQ];omega
 have e2:((c0:Int)==123)=false:=by rw[gQ];omega
 have HBO:=vl hbo;go_in;apply wp_cut;intro K0 J;go_wp2;apply J.out;apply wp_cut;intro K0 J;go_wp2_with (first|(go_at_call 200;refine HP0.out.mono ?_;rintro e w9 ⟨rfl,hw9⟩;have hw8:=hw9.symm;subst hw8))
 apply J.out;clear J;apply wp_cut;intro K0 J;go_wp2_with (first|(go_at_call 203;refine HST.out.mono ?_;rintro e w2 ⟨hk2,u,rfl,hu,hR2⟩;obtain⟨ao,cap,hv,-⟩:=hu.at;subst hv))
 apply J.out;clear J;obtain⟨wa,hwa,z0,z1,c4,HA⟩:∃wa,wa=w2.alloc (.cells #[.slice ao c.ranges.length cap,.bool c.others] 161)∧wa.cell? ⟨w2.heap.size,0,none⟩=some (.slice ao c.ranges.length cap)∧wa.cell? ⟨w2.heap.size,1,none⟩=some (.bool c.others)∧wa.cell? ⟨b,4,none⟩=some (.bool true)∧Hid (RxAt wa b s dv {r with at_:=q}∧RangesIn (fun i=>w.heap.size<=i∧i≠w2.heap.size) wa (.slice ao c.ranges.length cap) c.ranges∧Keep w.heap.size b w wa∧wa.heap.size=w2.heap.size+1∧w.heap.size<=w2.heap.size∧wa.heap[w2.heap.size]? =some (.cells #[.slice ao c.ranges.length cap,.bool c.others] 161)):=by
  have hb:=HLB.out.1;have hz:=hk2.size;have hn:=gG w2 (.cells #[.slice ao c.ranges.length cap,.bool c.others] 161);have hR:RxAt (w2.alloc (.cells #[.slice ao c.ranges.length cap,.bool c.others] 161)) b s dv {r with at_:=q}:=RxAt.of_block hR2 (lG _ _ _ (by omega));refine⟨_,rfl,?_,?_,?_,hR,fun w3 a=>hu w3 ⟨a.os,a.output,lY (by simp) a.size,fun i hi hx=>(a.block i (by simp;omega) ⟨hx,by omega⟩).trans (lG _ _ _ hi)⟩,hk2.trans (kZ _ _ hz),by simp,hz,hn⟩
  ·unfold cell?;rw[hn];rfl
  ·unfold cell?;rw[hn];rfl
  ·have:=hR.cells.2.2.2.2.1
   rw[<-HBO.out];exact this
 rw[<-hwa];clear hwa hk2 hu hR2;obtain⟨B,hB⟩:∃B,B=w2.heap.size:=⟨_,rfl⟩
 rw[<-hB] at z0 z1 HA ⊢;clear hB;apply wp_cut;intro K0 J;go_wp2;apply J.out;clear J;have HBC:=vl <| zEv wa _ c.ranges c.others HA.out.2.1.at (by have:=HLB.out.2.2;omega)
 apply wp_cut;intro K0 J;go_wp2_with (first|(go_at_call 204;refine HBC.out.mono ?_;rintro e w5 ⟨u5,rfl,hu5,hk5⟩;obtain⟨ao5,cap5,hv5,-⟩:=hu5.at;subst hv5;have hB5:=(hk5.block B (by have:=HA.out.2.2.2.1;omega) (by have:=HA.out.2.2.2.1;omega)).trans HA.out.2.2.2.2.2;have q0:w5.cell? ⟨B,0,none⟩=some (.slice ao c.ranges.length cap):=(by unfold cell?;rw[hB5];rfl);have q1:w5.cell? ⟨B,1,none⟩=some (.bool c.others):=(by unfold cell?;rw[hB5];rfl);have g0:w5.frozen? ⟨B,0,none⟩=false:=(by unfold frozen?;rw[hB5];rfl);have g1:w5.frozen? ⟨B,1,none⟩=false:=(by unfold frozen?;rw[hB5];rfl);have HB5:=vl hB5;clear hB5))
 apply J.out;clear J;obtain⟨w6,hw6,y0,y1,H6⟩:∃w6,w6=(w5.setCell ⟨B,0,none⟩ (.slice ao5 (qB c.ranges).length cap5)).setCell ⟨B,1,none⟩ (.bool c.others)∧w6.cell? ⟨B,0,none⟩=some (.slice ao5 (qB c.ranges).length cap5)∧w6.cell? ⟨B,1,none⟩=some (.bool c.others)∧Hid (RxAt w6 b s dv {r with at_:=q}∧RangesIn (fun i=>w.heap.size<=i) w6 (.slice ao5 (qB c.ranges).length cap5) (qB c.ranges)∧Keep w.heap.size b w w6∧w.heap.size<=w6.heap.size):=by
  obtain⟨hR,hr,hk,hsz,hw2,hBB⟩:=HA.out;have hb:=HLB.out.1;have h2:((w5.setCell ⟨B,0,none⟩ (.slice ao5 (qB c.ranges).length cap5)).setCell ⟨B,1,none⟩ (.bool c.others)).heap[B]? =some (.cells #[.slice ao5 (qB c.ranges).length cap5,.bool c.others] 161):=by
   simp[setCell,lU,HB5.out]
  have hne:∀i,i≠B->((w5.setCell ⟨B,0,none⟩ (.slice ao5 (qB c.ranges).length cap5)).setCell ⟨B,1,none⟩ (.bool c.others)).heap[i]? =w5.heap[i]? :=fun i hi2=>by
   simp[setCell,lU,Ne.symm hi2]
  have hs5:=hk5.size;have hs6:((w5.setCell ⟨B,0,none⟩ (.slice ao5 (qB c.ranges).length cap5)).setCell ⟨B,1,none⟩ (.bool c.others)).heap.size=w5.heap.size:=by simp[World.setCell]
  refine⟨_,rfl,?_,?_,RxAt.of_block hR ((hne b (by omega)).trans (hk5.block b (by omega) (by omega))),RangesIn.mono (X:=fun i=>wa.heap.size<=i) (hu5.go ⟨rfl,rfl,by rw[hs6];omega,fun i _ hx=>hne i (by omega)⟩) (fun i _ hx=>by omega),(hk.trans (hk5.lower (by omega) (by omega))).trans ⟨rfl,rfl,by rw[hs6];omega,fun k h1 _=>hne k (by omega)⟩,by rw[hs6];omega⟩
  ·unfold cell?;rw[h2];rfl
  ·unfold cell?;rw[h2];rfl
 rw[<-hw6];clear hw6 hu5 hk5 q0 q1 g0 g1 z0 z1;have HOT:=zIw (X:=X) (D:=D) (c:=⟨qB c.ranges,c.others⟩) HLB.out.1 HLB.out.2.1 H6.out.1 H6.out.2.1 (fun i h=>h) H6.out.2.2.1;clear HA H6 HBC HB5;generalize qB c.ranges=L at *;go_wp2_with (first|(go_at_call 205;refine HOT.out.mono ?_;rintro e w4 ⟨p,rfl,ht4,hR4,hk4⟩))
 refine bodyPost_ret (results_tmp2 rfl _ _ _) rfl ?_;exact⟨hk4,p,rfl,ht4,hR4⟩
theorem TrAns.any {w w':World}{X:Nat->Prop}{b:Nat}{s:ByteArray}{dv:Value}{r:Rx}{D:Nat}{a:Option (Tr×Nat)}{e:Ending}(h:TrAns w X b s dv r D a e w'):∃(v:Option Addr) (q:Nat) (k:Bool),e=.returned (.tuple #[.pointer v,.bool k])∧RxAt w' b s dv {r with at_:=q}∧Hid (Keep w.heap.size b w w'∧(k=false∧a=none∨k=true∧∃p t,v=some ⟨p,0,none⟩∧a=some (t,q)∧TreeIn (fun i=>X i∨w.heap.size<=i) w' (D+4*q) p t)):=by
 cases a with
 |none=>
  obtain⟨hk,v,q,rfl,hR⟩:=h;exact⟨v,q,false,rfl,hR,hk,.inl ⟨rfl,rfl⟩⟩
 |some g=>
  obtain⟨t,q⟩:=g;obtain⟨hk,p,rfl,ht,hR⟩:=h;exact⟨_,q,true,rfl,hR,hk,.inr ⟨rfl,p,t,rfl,rfl,ht⟩⟩
theorem zMR (X:Nat->Prop)(b:Nat)(s:ByteArray)(dv:Value)(hs:s.size<=1048576)(D:Nat)(w:World)(r:Rx)(h:RxAt w b s dv r)(ha:r.at_<=s.size)(hc:byt s r.at_=40)(a:Option (Tr×Nat))(hB:Calls prog 201 #[.pointer (some ⟨b,0,none⟩)] w (TrAns w X b s dv r D a)):
  Calls prog 196 #[.pointer (some ⟨b,0,none⟩)] w (TrAns w X b s dv r D a):=by
 have HP1:=vl ((zGQ hs (by omega)).out w h);rw[hc] at HP1;have HBR:=vl hB;go_in;go_wp2_with (first|(go_at_call 200;refine HP1.out.mono ?_;rintro e w9 ⟨rfl,hw9⟩;have hw8:=hw9.symm;subst hw8)|(go_at_call 201;refine HBR.out.mono ?_;rintro e w2 hx;obtain⟨v,q,k,rfl,-,-⟩:=TrAns.any hx))
 refine bodyPost_ret (results_tmp2 rfl _ _ _) rfl ?_;exact hx
theorem zMQ (X:Nat->Prop)(b:Nat)(s:ByteArray)(dv:Value)(hs:s.size<=1048576)(D:Nat)(w:World)(r:Rx)(h:RxAt w b s dv r)(ha:r.at_<=s.size)(hc:byt s r.at_=123)(a:Option (Tr×Nat))(hB:Calls prog 202 #[.pointer (some ⟨b,0,none⟩)] w (TrAns w X b s dv r D a)):
  Calls prog 196 #[.pointer (some ⟨b,0,none⟩)] w (TrAns w X b s dv r D a):=by
 have HP1:=vl ((zGQ hs (by omega)).out w h);rw[hc] at HP1;have HBR:=vl hB;go_in;go_wp2_with (first|(go_at_call 200;refine HP1.out.mono ?_;rintro e w9 ⟨rfl,hw9⟩;have hw8:=hw9.symm;subst hw8)|(go_at_call 202;refine HBR.out.mono ?_;rintro e w2 hx;obtain⟨v,q,k,rfl,-,-⟩:=TrAns.any hx))
 refine bodyPost_ret (results_tmp2 rfl _ _ _) rfl ?_;exact hx
theorem zFC (X:Nat->Prop)(b:Nat)(s:ByteArray)(dv:Value)(hs:s.size<=1048576)(hH:∀i,X i->i<b)(D:Nat)(defs:List (ByteArray×Tr))(hlen:defs.length<=1000000)(k:Nat)(sub:Reads)(hbr:∀w r,RxAt w b s dv r->DefsIn b X w D dv defs->r.depth+k=8->r.at_<=s.size->byt s r.at_=40->Calls prog 201 #[.pointer (some ⟨b,0,none⟩)] w (TrAns w X b s dv r D (brM s k sub r.at_ r.both))):
  zAs 196 X b s dv D defs D k (zDs s defs k sub):=fun w r h hD hk ha=>by
 unfold zDs;by_cases h1:byt s r.at_=40
 ·rw[if_pos h1]
  exact zMR X b s dv hs D w r h ha h1 _ (hbr w r h hD hk ha h1)
 rw[if_neg h1];by_cases h2:byt s r.at_=123
 ·rw[if_pos h2]
  exact zMQ X b s dv hs D w r h ha h2 _ (zI7 w X b s dv r h hs ha D defs hD hH hlen)
 rw[if_neg h2];cases hm:jD s r.at_ with
 |none=>exact zNv X b s dv hs D w r h ha h1 h2 hm
 |some g=>
  obtain⟨c,q⟩:=g;cases hb:r.both with
  |false=>exact zNu X b s dv hs D w r h ha h1 h2 c q hm hb
  |true=>exact zNw X b s dv hs D w r h ha h1 h2 c q hm hb
section
section
variable {w:World} {b:Nat} {s:ByteArray} {dv:Value} {r:Rx}
theorem RxAt.setDepth (h:RxAt w b s dv r)(n:Nat):RxAt (w.setCell ⟨b,3,none⟩ (.int .i64 (n:Int))) b s dv {r with depth:=n}:=by
 unfold RxAt at *;simp[setCell,lU,h]
theorem RxAt.setBoth (h:RxAt w b s dv r)(x:Bool):RxAt (w.setCell ⟨b,4,none⟩ (.bool x)) b s dv {r with both:=x}:=by
 unfold RxAt at *;simp[setCell,lU,h]
end
theorem zMP (X:Nat->Prop)(b:Nat)(s:ByteArray)(dv:Value)(D:Nat)(w:World)(r:Rx)(h:RxAt w b s dv r)(hdp:r.depth=8):Calls prog 201 #[.pointer (some ⟨b,0,none⟩)] w (TrAns w X b s dv r D (none)):=by
 obtain⟨-,-,-,c3,-,-⟩:=h.cells;rw[hdp] at c3;have c3b:=c3;have HR:=vl h;go_in;go_wp2;refine bodyPost_ret (results_tmp2 rfl _ _ _) rfl ?_;exact⟨Keep.refl _ _ _,none,r.at_,rfl,HR.out⟩
theorem zL0 (X:Nat->Prop)(b:Nat)(s:ByteArray)(dv:Value)(hs:s.size<=1048576)(D:Nat)(w:World)(r:Rx)(h:RxAt w b s dv r)(hdp:r.depth<=7)(ha:r.at_<=s.size)(h0:zI s r.at_ ⟨#[40,41]⟩=true):Calls prog 201 #[.pointer (some ⟨b,0,none⟩)] w (TrAns w X b s dv r D (some (Tr.none,r.at_+2))):=by
 obtain⟨-,-,-,c3,-,-⟩:=h.cells;have HLB:=vl h.lt;have i8:(r.depth:Int)<8:=by omega
 have HT0:=vl (jX (r:=r) (x:=r.at_) (y:=r.at_+2) ⟨#[40,41]⟩ hs (by omega) (by decide) h0 rfl h);go_in;go_wp2_with (first|(go_at_call 189;refine HT0.out.mono ?_;rintro e w1 ⟨rfl,hR1,hk1⟩))
 refine bodyPost_ret (results_tmp2 rfl _ _ _) rfl ?_;have hb:=HLB.out;have hz:=(hk1 0).size;refine⟨(hk1 _).trans (kZ _ _ hz),_,rfl,?_,RxAt.of_block hR1 (lG _ _ _ (by omega))⟩;rw[show D+4*(r.at_+2)=D+4*r.at_+7+1 by omega];exact zIh (gG _ _) (.inr hz)
def zMZ (s:ByteArray):Option (Tr×Nat)->Option (Tr×Nat)
 |none=>none
 |some (t,q)=>if zI s q ⟨#[41]⟩ then some (t,q+1) else none
theorem zNR (X:Nat->Prop)(b:Nat)(s:ByteArray)(dv:Value)(hs:s.size<=1048576)(hH:∀i,X i->i<b)(D:Nat)(w:World)(r:Rx)(h:RxAt w b s dv r)(hdp:r.depth<=7)(ha:r.at_<s.size)(h0:zI s r.at_ ⟨#[40,41]⟩=false)(h1:zI s r.at_ ⟨#[40,105,58]⟩=true)(m:Option (Tr×Nat))(hsub:∀w4,RxAt w4 b s dv ⟨r.at_+3,r.depth+1,true⟩->Keep w.heap.size b w w4->Calls prog 182 #[.pointer (some ⟨b,0,none⟩)] w4 (TrAns w4 X b s dv ⟨r.at_+3,r.depth+1,true⟩ (D+2) m))(hq:∀t q,m=some (t,q)->q<=s.size):Calls prog 201 #[.pointer (some ⟨b,0,none⟩)] w (TrAns w X b s dv r D (zMZ s m)):=by
 obtain⟨-,-,-,c3,c4,-⟩:=h.cells;have HLB:=vl h.lt;have i8:(r.depth:Int)<8:=by omega
 have HT0:=vl (jX (r:=r) (x:=r.at_) (y:=r.at_) ⟨#[40,41]⟩ hs (by omega) (by decide) h0 rfl h);have HT1:=zIM (b:=b) (dv:=dv) (r:=r) (y:=r.at_+3) h1 hs (by omega) (by decide) rfl;have HSB:=vl hsub;have HQ:=vl hq;go_in;apply wp_cut;intro K0 J;go_wp2;apply J.out;apply wp_cut;intro K0 J;go_wp2;apply J.out;apply wp_cut;intro K0 J;go_wp2_with (first|(go_at_call 189;refine HT0.out.mono ?_;rintro e w1 ⟨rfl,hR1,hk1⟩))
 apply J.out;have d4:w1.cell? ⟨b,4,none⟩=some (.bool r.both):=hR1.cells.2.2.2.2.1;clear c3 c4;apply wp_cut;intro K0 J;go_wp2;apply J.out;clear J;clear d4;apply wp_cut;intro K0 J;go_wp2_with (first|(go_at_call 189;refine(HT1.out w1 hR1).mono ?_;rintro e w2 ⟨rfl,hR2,hk2⟩;have d4:w2.cell? ⟨b,4,none⟩=some (.bool r.both):=hR2.cells.2.2.2.2.1;have f4:=hR2.cells.2.2.2.2.2 4))
 apply J.out;clear J;obtain⟨w3,hw3,hR3,hk3⟩:∃w3,w3=w2.setCell ⟨b,4,none⟩ (.bool true)∧RxAt w3 b s dv ⟨r.at_+3,r.depth,true⟩∧Hid (Keep w.heap.size b w w3):=⟨_,rfl,hR2.setBoth true,((hk1 _).trans (hk2 _)).trans (Keep.set _ _ _)⟩
 rw[<-hw3];clear hw3 hR1 hR2 hk1 hk2 d4 f4;have d3:w3.cell? ⟨b,3,none⟩=some (.int .i64 (r.depth:Int)):=hR3.cells.2.2.2.1;have f3:=hR3.cells.2.2.2.2.2 3;apply wp_cut;intro K0 J;go_wp2;apply J.out;clear J;obtain⟨w4,hw4,hR4,hk4⟩:∃w4,w4=w3.setCell ⟨b,3,none⟩ (.int .i64 ((r.depth:Int)+1))∧RxAt w4 b s dv ⟨r.at_+3,r.depth+1,true⟩∧Hid (Keep w.heap.size b w w4):=⟨_,rfl,hR3.setDepth (r.depth+1),hk3.out.trans (Keep.set _ _ _)⟩
 rw[<-hw4];clear hw4 hR3 hk3 d3 f3;have HEJ:=vl (HSB.out w4 hR4 hk4.out);clear HSB;apply wp_cut;intro K0 J;go_wp2_with (first|(go_at_call 182;refine HEJ.out.mono ?_;rintro e w5 ha5;obtain⟨v,q,kk,rfl,hR5,HH⟩:=TrAns.any ha5;clear ha5))
 apply J.out;clear J;have d3:w5.cell? ⟨b,3,none⟩=some (.int .i64 ((r.depth:Int)+1)):=hR5.cells.2.2.2.1;have f3:=hR5.cells.2.2.2.2.2 3;apply wp_cut;intro K0 J;go_wp2;apply J.out;clear J;obtain⟨w6,hw6,hR6,HK6⟩:∃w6,w6=w5.setCell ⟨b,3,none⟩ (.int .i64 (r.depth:Int))∧RxAt w6 b s dv ⟨q,r.depth,true⟩∧Hid (∀H,Keep H b w5 w6):=⟨_,rfl,hR5.setDepth r.depth,fun H=>Keep.set _ _ _⟩
 rw[<-hw6];clear hw6 d3 f3 hR5;have d4:w6.cell? ⟨b,4,none⟩=some (.bool true):=hR6.cells.2.2.2.2.1;have f4:=hR6.cells.2.2.2.2.2 4;apply wp_cut;intro K0 J;go_wp2;apply J.out;clear J;obtain⟨w7,hw7,hR7,HK7⟩:∃w7,w7=w6.setCell ⟨b,4,none⟩ (.bool r.both)∧RxAt w7 b s dv {r with at_:=q}∧Hid (∀H,Keep H b w5 w7):=⟨_,rfl,hR6.setBoth r.both,fun H=>(HK6.out H).trans (Keep.set _ _ _)⟩
 rw[<-hw7];clear hw7 d4 f4 hR6 HK6;obtain⟨hk5,hkk⟩:=HH.out;have HKA:Hid (Keep w.heap.size b w w7):=by
  have h1:=hk4.out.size;exact(hk4.out.trans ⟨hk5.os,hk5.output,hk5.size,fun k h1 h2=>hk5.block k (by omega) h2⟩).trans (HK7.out _)
 rcases hkk with⟨rfl,rfl⟩|⟨rfl,p,t,rfl,rfl,ht5⟩
 ·clear hk5 HK7 hk4 hR4 HH
  go_wp2;refine bodyPost_ret (results_tmp2 rfl _ _ _) rfl ?_;exact⟨HKA.out,none,q,rfl,hR7⟩
 have HTR:Hid (∀w8,(∀H,Keep H b w7 w8)->TreeIn (fun i=>X i∨w.heap.size<=i) w8 (D+4*(q+1)) p t):=fun w8 hk8=>by
  have hb:=HLB.out;have h1:=hk4.out.size;refine(((ht5.go ((HK7.out w5.heap.size).agree fun i hi hx=>⟨hi,by rcases hx with hx|hx;exact kJ (hH i hx);omega⟩)).go ((hk8 w7.heap.size).agree fun i hi hx=>⟨hi,by rcases hx with hx|hx;exact kJ (hH i hx);omega⟩)).mono fun i _ hx=>?_).deep (by omega);rcases hx with hx|hx
  ·exact .inl hx
  ·exact .inr (by omega)
 have hq:=HQ.out t q rfl;clear ht5 hk5 HK7 hk4 hR4 HH;show Code.wp _ _ (bodyPost _ _ (TrAns w X b s dv r D (if zI s q ⟨#[41]⟩ then some (t,q+1) else none))) _ _;cases h2:zI s q ⟨#[41]⟩ with
 |true=>
  go_wp2_with (first|(go_at_call 189;refine(jX (r:=r) (x:=q) (y:=q+1) ⟨#[41]⟩ hs (by omega) (by decide) h2 rfl hR7).mono ?_;rintro e w8 ⟨rfl,hR8,hk8⟩))
  refine bodyPost_ret (results_tmp2 rfl _ _ _) rfl ?_;exact⟨HKA.out.trans (hk8 _),p,rfl,HTR.out w8 hk8,hR8⟩
 |false=>
  go_wp2_with (first|(go_at_call 189;refine(jX (r:=r) (x:=q) (y:=q) ⟨#[41]⟩ hs (by omega) (by decide) h2 rfl hR7).mono ?_;rintro e w8 ⟨rfl,hR8,hk8⟩))
  refine bodyPost_ret (results_tmp2 rfl _ _ _) rfl ?_;exact⟨HKA.out.trans (hk8 _),none,q,rfl,hR8⟩
theorem zNQ (X:Nat->Prop)(b:Nat)(s:ByteArray)(dv:Value)(hs:s.size<=1048576)(hH:∀i,X i->i<b)(D:Nat)(w:World)(r:Rx)(h:RxAt w b s dv r)(hdp:r.depth<=7)(ha:r.at_<s.size)(h0:zI s r.at_ ⟨#[40,41]⟩=false)(h1:zI s r.at_ ⟨#[40,105,58]⟩=false)(m:Option (Tr×Nat))(hsub:∀w4,RxAt w4 b s dv ⟨r.at_+1,r.depth+1,r.both⟩->Keep w.heap.size b w w4->Calls prog 182 #[.pointer (some ⟨b,0,none⟩)] w4 (TrAns w4 X b s dv ⟨r.at_+1,r.depth+1,r.both⟩ (D+2) m))(hq:∀t q,m=some (t,q)->q<=s.size):Calls prog 201 #[.pointer (some ⟨b,0,none⟩)] w (TrAns w X b s dv r D (zMZ s m)):=by
 obtain⟨-,-,-,c3,c4,-⟩:=h.cells;have HLB:=vl h.lt;have i8:(r.depth:Int)<8:=by omega
 have HT0:=vl (jX (r:=r) (x:=r.at_) (y:=r.at_) ⟨#[40,41]⟩ hs (by omega) (by decide) h0 rfl h);have HT1:=zIM (b:=b) (dv:=dv) (r:=r) (y:=r.at_) h1 hs (by omega) (by decide) rfl;have HSB:=vl hsub;have HQ:=vl hq;go_in;apply wp_cut;intro K0 J;go_wp2;apply J.out;apply wp_cut;intro K0 J;go_wp2;apply J.out;apply wp_cut;intro K0 J;go_wp2_with (first|(go_at_call 189;refine HT0.out.mono ?_;rintro e w1 ⟨rfl,hR1,hk1⟩))
 apply J.out;have d4:w1.cell? ⟨b,4,none⟩=some (.bool r.both):=hR1.cells.2.2.2.2.1;clear c3 c4;apply wp_cut;intro K0 J;go_wp2;apply J.out;clear J;clear d4;apply wp_cut;intro K0 J;go_wp2_with (first|(go_at_call 189;refine(HT1.out w1 hR1).mono ?_;rintro e w2 ⟨rfl,hR2,hk2⟩;have d2:w2.cell? ⟨b,2,none⟩=some (.int .i64 (r.at_:Int)):=hR2.cells.2.2.1;have f2:=hR2.cells.2.2.2.2.2 2))
 apply J.out;clear J;obtain⟨w3,hw3,hR3,hk3⟩:∃w3,w3=w2.setCell ⟨b,2,none⟩ (.int .i64 ((r.at_:Int)+1))∧RxAt w3 b s dv ⟨r.at_+1,r.depth,r.both⟩∧Hid (Keep w.heap.size b w w3):=⟨_,rfl,hR2.setAt (r.at_+1),((hk1 _).trans (hk2 _)).trans (Keep.set _ _ _)⟩
 rw[<-hw3];clear hw3 hR1 hR2 hk1 hk2 d2 f2;have d3:w3.cell? ⟨b,3,none⟩=some (.int .i64 (r.depth:Int)):=hR3.cells.2.2.2.1;have f3:=hR3.cells.2.2.2.2.2 3;apply wp_cut;intro K0 J;go_wp2;apply J.out;clear J;obtain⟨w4,hw4,hR4,hk4⟩:∃w4,w4=w3.setCell ⟨b,3,none⟩ (.int .i64 ((r.depth:Int)+1))∧RxAt w4 b s dv ⟨r.at_+1,r.depth+1,r.both⟩∧Hid (Keep w.heap.size b w w4):=⟨_,rfl,hR3.setDepth (r.depth+1),hk3.out.trans (Keep.set _ _ _)⟩
 rw[<-hw4];clear hw4 hR3 hk3 d3 f3;have HEJ:=vl (HSB.out w4 hR4 hk4.out);clear HSB;apply wp_cut;intro K0 J;go_wp2_with (first|(go_at_call 182;refine HEJ.out.mono ?_;rintro e w5 ha5;obtain⟨v,q,kk,rfl,hR5,HH⟩:=TrAns.any ha5;clear ha5))
 apply J.out;clear J;have d3:w5.cell? ⟨b,3,none⟩=some (.int .i64 ((r.depth:Int)+1)):=hR5.cells.2.2.2.1;have f3:=hR5.cells.2.2.2.2.2 3;apply wp_cut;intro K0 J;go_wp2;apply J.out;clear J;obtain⟨w6,hw6,hR6,HK6⟩:∃w6,w6=w5.setCell ⟨b,3,none⟩ (.int .i64 (r.depth:Int))∧RxAt w6 b s dv ⟨q,r.depth,r.both⟩∧Hid (∀H,Keep H b w5 w6):=⟨_,rfl,hR5.setDepth r.depth,fun H=>Keep.set _ _ _⟩
 rw[<-hw6];clear hw6 d3 f3 hR5;have d4:w6.cell? ⟨b,4,none⟩=some (.bool r.both):=hR6.cells.2.2.2.2.1;have f4:=hR6.cells.2.2.2.2.2 4;apply wp_cut;intro K0 J;go_wp2;apply J.out;clear J;obtain⟨w7,hw7,hR7,HK7⟩:∃w7,w7=w6.setCell ⟨b,4,none⟩ (.bool r.both)∧RxAt w7 b s dv {r with at_:=q}∧Hid (∀H,Keep H b w5 w7):=⟨_,rfl,hR6.setBoth r.both,fun H=>(HK6.out H).trans (Keep.set _ _ _)⟩
 rw[<-hw7];clear hw7 d4 f4 hR6 HK6;obtain⟨hk5,hkk⟩:=HH.out;have HKA:Hid (Keep w.heap.size b w w7):=by
  have h1:=hk4.out.size;exact(hk4.out.trans ⟨hk5.os,hk5.output,hk5.size,fun k h1 h2=>hk5.block k (by omega) h2⟩).trans (HK7.out _)
 rcases hkk with⟨rfl,rfl⟩|⟨rfl,p,t,rfl,rfl,ht5⟩
 ·clear hk5 HK7 hk4 hR4 HH
  go_wp2;refine bodyPost_ret (results_tmp2 rfl _ _ _) rfl ?_;exact⟨HKA.out,none,q,rfl,hR7⟩
 have HTR:Hid (∀w8,(∀H,Keep H b w7 w8)->TreeIn (fun i=>X i∨w.heap.size<=i) w8 (D+4*(q+1)) p t):=fun w8 hk8=>by
  have hb:=HLB.out;have h1:=hk4.out.size;refine(((ht5.go ((HK7.out w5.heap.size).agree fun i hi hx=>⟨hi,by rcases hx with hx|hx;exact kJ (hH i hx);omega⟩)).go ((hk8 w7.heap.size).agree fun i hi hx=>⟨hi,by rcases hx with hx|hx;exact kJ (hH i hx);omega⟩)).mono fun i _ hx=>?_).deep (by omega);rcases hx with hx|hx
  ·exact .inl hx
  ·exact .inr (by omega)
 have hq:=HQ.out t q rfl;clear ht5 hk5 HK7 hk4 hR4 HH;show Code.wp _ _ (bodyPost _ _ (TrAns w X b s dv r D (if zI s q ⟨#[41]⟩ then some (t,q+1) else none))) _ _;cases h2:zI s q ⟨#[41]⟩ with
 |true=>
  go_wp2_with (first|(go_at_call 189;refine(jX (r:=r) (x:=q) (y:=q+1) ⟨#[41]⟩ hs (by omega) (by decide) h2 rfl hR7).mono ?_;rintro e w8 ⟨rfl,hR8,hk8⟩))
  refine bodyPost_ret (results_tmp2 rfl _ _ _) rfl ?_;exact⟨HKA.out.trans (hk8 _),p,rfl,HTR.out w8 hk8,hR8⟩
 |false=>
  go_wp2_with (first|(go_at_call 189;refine(jX (r:=r) (x:=q) (y:=q) ⟨#[41]⟩ hs (by omega) (by decide) h2 rfl hR7).mono ?_;rintro e w8 ⟨rfl,hR8,hk8⟩))
  refine bodyPost_ret (results_tmp2 rfl _ _ _) rfl ?_;exact⟨HKA.out.trans (hk8 _),none,q,rfl,hR8⟩
theorem zF3 (X:Nat->Prop)(b:Nat)(s:ByteArray)(dv:Value)(hs:s.size<=1048576)(hH:∀i,X i->i<b)(D:Nat)(defs:List (ByteArray×Tr))(k:Nat)(sub:Reads)(hq:∀both,zCb s (D+2) fun p=>sub p both)(hsub:zAs 182 X b s dv D defs (D+2) k sub)(w:World)(r:Rx)(h:RxAt w b s dv r)(hD:DefsIn b X w D dv defs)(hk:r.depth+(k+1)=8)(ha:byt s r.at_=40):
  Calls prog 201 #[.pointer (some ⟨b,0,none⟩)] w (TrAns w X b s dv r D (brM s (k+1) sub r.at_ r.both)):=by
 have hin:r.at_<s.size:=zB6 (by omega);have hlb:=h.lt;have hdf:∀w4,Keep w.heap.size b w w4->DefsIn b X w4 D dv defs:=fun w4 hk4=>hD.go hH (hk4.agree fun i hi hx=>⟨hi,kJ hx⟩);unfold brM;rw[if_neg (by omega)];cases h0:zI s r.at_ ⟨#[40,41]⟩ with
 |true=>exact zL0 X b s dv hs D w r h (by omega) (by omega) h0
 |false=>
 rw[if_neg (by decide)];cases h1:zI s r.at_ ⟨#[40,105,58]⟩ with
 |true=>exact zNR X b s dv hs hH D w r h (by omega) hin h0 h1 _ (fun w4 h4 k4=>hsub w4 _ h4 (hdf w4 k4) (by show r.depth+1+k=8;omega) (qV h1:r.at_+3<=s.size)) fun t q hm=>(hq _ _ _ _ hm).2.1
 |false=>exact zNQ X b s dv hs hH D w r h (by omega) hin h0 h1 _ (fun w4 h4 k4=>hsub w4 _ h4 (hdf w4 k4) (by show r.depth+1+k=8;omega) (by show r.at_+1<=_;omega)) fun t q hm=>(hq _ _ _ _ hm).2.1
end
def ThW (w:World)(X:Nat->Prop)(b:Nat)(s:ByteArray)(dv:Value)(r:Rx)(D:Nat)(G:Option (Tr×Nat))(n:Nat)(v4 v5:Value)(wr:World):Prop:=
 (∃f pos t p,n=f∧v4=.pointer (some ⟨p,0,none⟩)∧v5=.bool true∧pos<=s.size∧s.size+1-pos<=f∧zBj s f pos t=G∧TreeIn (fun i=>X i∨w.heap.size<=i) wr (D+4*pos) p t∧TrOk (D+4*pos) t∧RxAt wr b s dv {r with at_:=pos}∧Keep w.heap.size b w wr)∨
 (∃x pos,v4=.pointer x∧v5=.bool false∧G=none∧n=0∧RxAt wr b s dv {r with at_:=pos}∧Keep w.heap.size b w wr)
theorem zKc (w:World)(x y:Value)(z:Bool):∃wa,wa=w.alloc (.cells #[x,y,.bool z] 163)∧wa.cell? ⟨w.heap.size,0,none⟩=some x∧wa.cell? ⟨w.heap.size,1,none⟩=some y∧wa.cell? ⟨w.heap.size,2,none⟩=some (.bool z)∧Hid (∀H b,H<=w.heap.size->Keep H b w wa):=by
 have hn:=gG w (.cells #[x,y,.bool z] 163);refine⟨_,rfl,?_,?_,?_,fun H b hH=>kZ _ _ hH⟩
 all_goals (unfold cell?;rw[hn];rfl)
def zMU (s:ByteArray):Option (Tr×Nat)->Option (Tr×Nat)
 |none=>none
 |some (t,q)=>zBj s (s.size+1) q t
theorem zMG {w:World}{b:Nat}{s:ByteArray}{dv:Value}{r:Rx}(h:RxAt w b s dv r)(hs:s.size<=1048576)(ha:r.at_<=s.size):Hid (Calls prog 198 #[.pointer (some ⟨b,0,none⟩)] w fun e w'=>∃(o:Tm) (q:Nat) (k:Bool),e=.returned (.tuple #[.agg #[.int .i64 (o.least:Int),.int .i64 (o.most:Int),.bool o.endless],.bool k])∧Hid (o.least<=300∧o.most<=300∧RxAt w' b s dv {r with at_:=q}∧Keep w.heap.size b w w'∧(k=true∧zDT s r.at_=some (o,q)∨k=false∧zDT s r.at_=none))):=by
 refine(zFl w b s dv r h hs ha).mono ?_;rintro e w' ⟨hk,ha⟩;cases hm:zDT s r.at_ with
 |none=>
  rw[hm] at ha;obtain⟨q,rfl,hR⟩:=ha;exact⟨⟨0,0,false⟩,q,false,rfl,lX,lX,hR,hk,.inr ⟨rfl,rfl⟩⟩
 |some g=>
  obtain⟨o,q⟩:=g;rw[hm] at ha;obtain⟨rfl,hR⟩:=ha;have:=zG4 s r.at_ o q hm;exact⟨o,q,true,rfl,this.2.2.1,this.2.2.2,hR,hk,.inl ⟨rfl,rfl⟩⟩
theorem zMf (X:Nat->Prop)(b:Nat)(s:ByteArray)(dv:Value)(hs:s.size<=1048576)(hH:∀i,X i->i<b)(D:Nat)(w:World)(r:Rx)(h:RxAt w b s dv r)(a:Option (Tr×Nat))(hok:∀t q,a=some (t,q)->q<=s.size∧TrOk (D+4*q) t)(hB:Calls prog 196 #[.pointer (some ⟨b,0,none⟩)] w (TrAns w X b s dv r D a)):
  Calls prog 193 #[.pointer (some ⟨b,0,none⟩)] w (TrAns w X b s dv r D (zMU s a)):=by
 have HLB:=vl h.lt;have HBR:=vl hB;obtain⟨G,hG⟩:∃G,G=zMU s a:=⟨_,rfl⟩
 have HST:Hid (∀e w2,TrAns w X b s dv r D a e w2->∃v4 v5 M,e=.returned (.tuple #[v4,v5])∧ThW w X b s dv r D G M v4 v5 w2):=fun e w2 hans=>by
  cases a with
  |none=>
   obtain⟨hk2,v,q,rfl,hR2⟩:=hans;exact⟨_,_,0,rfl,.inr ⟨v,q,rfl,rfl,hG,rfl,hR2,hk2⟩⟩
  |some g=>
   obtain⟨t0,q0⟩:=g;obtain⟨hk2,p,rfl,ht2,hR2⟩:=hans;obtain⟨hq0,ht0⟩:=hok t0 q0 rfl;exact⟨_,_,s.size+1,rfl,.inl ⟨s.size+1,q0,t0,p,rfl,rfl,rfl,hq0,by omega,hG.symm,ht2,ht0,hR2,hk2⟩⟩
 rw[<-hG];go_in;apply wp_cut;intro K0 J;go_wp2;apply J.out;apply wp_cut;intro K0 J;go_wp2_with (first|(go_at_call 196;refine HBR.out.mono ?_;rintro e w2 ha;obtain⟨v4,v5,M,rfl,hb⟩:=HST.out e w2 ha;have HTW:=vl hb;clear ha hb))
 apply J.out;apply wp_cut;intro KL HKL;refine wp_block ?_;go_loopg [4,5] M (fun n v4 v5 wr=>ThW w X b s dv r D G n v4 v5 wr)
 case atStart=>exact HTW.out
 case round=>
  rcases hrel with⟨f,pos,t,p1,hgk,rfl,rfl,hpos,hf,hGo,hT,hOk,hR,hk⟩|⟨x,pos,rfl,rfl,hGn,-,hR,hk⟩
  ·cases f with
   |zero=>omega
   |succ f=>
   have HA:Hid (TreeIn (fun i=>X i∨w.heap.size<=i) wr (D+4*pos) p1 t∧TrOk (D+4*pos) t∧RxAt wr b s dv {r with at_:=pos}∧Keep w.heap.size b w wr∧gk=f+1∧w.heap.size<=wr.heap.size):=⟨hT,hOk,hR,hk,hgk,hk.size⟩
   have hGo2:(if zAU s pos then(match zDT s pos with|none=>none|some (o,q)=>zBj s f q (zBy t o)) else some (t,pos))=G:=hGo;have HIR:=vl <| zDP wr b s dv {r with at_:=pos} hR hs (by show pos<=_;omega);cases hrep:zAU s pos with
   |false=>
    rw[hrep] at hGo2 HIR;have HG2:=vl hGo2.symm;go_wp2_with (first|(go_at_call 197;refine HIR.out.mono ?_;rintro e w9 ⟨rfl,hw9⟩;have hw8:=hw9.symm;subst hw8))
    apply HKL.out;go_wp2;rw[HG2.out];refine bodyPost_ret (results_tmp2 rfl _ _ _) rfl ?_;exact⟨HA.out.2.2.2.1,p1,rfl,HA.out.1,HA.out.2.2.1⟩
   |true=>
    rw[hrep] at hGo2 HIR;rw[if_pos rfl] at hGo2;have HG2:=vl hGo2;have HHO:=zMG HA.out.2.2.1 hs hpos;have HW:=vl fun o q h=>zG4 s pos o q h;clear hGo2 hrep;apply wp_cut;intro K1 HK1;go_wp2_with (first|(go_at_call 197;refine HIR.out.mono ?_;rintro e w9 ⟨rfl,hw9⟩;have hw8:=hw9.symm;subst hw8))
    apply HK1.out;clear HK1;refine wp_block ?_;apply wp_cut;intro K1 HK1;go_wp2_with (first|(go_at_call 198;refine HHO.out.mono ?_;rintro e wh ⟨o,q1,k,rfl,HH⟩))
    apply HK1.out;clear HK1 HHO;obtain⟨wa,hwa,z0,z1,z2,HKa⟩:=zKc wh (.int .i64 (o.least:Int)) (.int .i64 (o.most:Int)) o.endless;have HB:Hid (RxAt wa b s dv {r with at_:=q1}∧TreeIn (fun i=>X i∨w.heap.size<=i) wa (D+4*pos) p1 t∧Keep w.heap.size b w wa):=by
     obtain⟨-,-,hRh,hkh,-⟩:=HH.out;have hb:=HLB.out;have hz:=hkh.size;have hz2:=HA.out.2.2.2.2.2;have hka:Keep wr.heap.size b wr wa:=hkh.trans (HKa.out _ _ hz);refine⟨RxAt.of_block hRh ((HKa.out wh.heap.size wh.heap.size lQ).block b (by omega) (by omega)),HA.out.1.go (hka.agree fun i hi hx=>⟨hi,by rcases hx with hx|hx;exact kJ (hH i hx);omega⟩),HA.out.2.2.2.1.trans ⟨hka.os,hka.output,hka.size,fun k h1 h2=>hka.block k (by omega) h2⟩⟩
    have HAG:Hid (Calls prog 199 #[.pointer (some ⟨p1,0,none⟩),.agg #[.int .i64 (o.least:Int),.int .i64 (o.most:Int),.bool o.endless]] wa fun e w'=>∃p',e=.returned (.pointer (some ⟨p',0,none⟩))∧TreeIn (fun i=>X i∨w.heap.size<=i) w' (D+4*pos+1) p' (zBy t o)∧RxAt w' b s dv {r with at_:=q1}∧Keep w.heap.size b w w'):=by
     have hb:=HLB.out;have hz2:=HB.out.2.2.size;refine(zIC wa _ _ p1 t HB.out.2.1 HA.out.2.1.few o ⟨HH.out.1,HH.out.2.1⟩).mono ?_;rintro e w4 ⟨p',rfl,ht,hk4⟩;refine⟨p',rfl,ht.mono fun i _ hx=>?_,RxAt.of_block HB.out.1 (hk4.block b (by omega) (by omega)),HB.out.2.2.trans (hk4.lower hz2 hz2)⟩;rcases hx with hx|hx
     ·exact hx.1
     ·exact .inr (by omega)
    rw[<-hwa];clear hwa HKa;go_wp2_with (first|(go_at_call 199;refine HAG.out.mono ?_;rintro e w4 ⟨p4,rfl,ht4,hR4,hk4⟩))
    go_roundg (if k then f else 0)
    case measure=>rw[HA.out.2.2.2.2.1];split <;> omega
    case rel=>
     rcases HH.out.2.2.2.2 with⟨rfl,hm⟩|⟨rfl,hm⟩
     ·have hg:=HG2.out
      rw[show zDT s pos=some (o,q1) from hm] at hg;have hw:=HW.out o q1 hm;exact .inl ⟨f,q1,_,p4,rfl,rfl,rfl,hw.2.1,by omega,hg,ht4.deep (by omega),(zIB o HA.out.2.1).deep (by omega),hR4,hk4⟩
     ·have hg:=HG2.out
      rw[show zDT s pos=none from hm] at hg;exact .inr ⟨_,q1,rfl,rfl,hg.symm,rfl,hR4,hk4⟩
  ·have HA:Hid (RxAt wr b s dv {r with at_:=pos}∧Keep w.heap.size b w wr∧G=none):=⟨hR,hk,hGn⟩
   clear hR hk hGn;go_wp2;apply HKL.out;clear HKL;go_wp2;rw[HA.out.2.2];refine bodyPost_ret (results_tmp2 rfl _ _ _) rfl ?_;exact⟨HA.out.2.1,x,pos,rfl,HA.out.1⟩
theorem zD4 (X:Nat->Prop)(b:Nat)(s:ByteArray)(dv:Value)(hs:s.size<=1048576)(hH:∀i,X i->i<b)(D:Nat)(defs:List (ByteArray×Tr))(k:Nat)(sub:Reads)(hok:∀both,zCb s D fun p=>zDs s defs k sub p both)(hat:zAs 196 X b s dv D defs D k (zDs s defs k sub)):
  zAs 193 X b s dv D defs D k (zDA s defs k sub):=fun w r h hD hk ha=>by
 have:=hat w r h hD hk ha;unfold zDA;exact zMf X b s dv hs hH D w r h _ (fun t q hm=>(hok r.both r.at_ t q hm).2) this
end Go.Proofs.YtbjcfkdnjaiclaaGreat
