import Derived.Deep.RegionHeld3
import Derived.Test.YtbjcfkdnjaiclaaGreatB0
import Derived.Test.YtbjcfkdnjaiclaaGreatB21
/- Parts of the proof. -/
set_option linter.unusedVariables false
set_option linter.unusedSimpArgs false
set_option maxHeartbeats 4000000
set_option maxRecDepth 100000
namespace Go.Proofs.YtbjcfkdnjaiclaaGreat
open Go.RowKit Go.Proofs.Tryz Go.World
theorem zMk {w w2:World}{b:Nat}(hb:b<w.heap.size)(hk:Keep (w.heap.size+1) b (w.alloc (.cells #[.slice none 0 0,.bool false] 161)) w2):w2.heap[w.heap.size]? =some (.cells #[.slice none 0 0,.bool false] 161)∧w2.cell? ⟨w.heap.size,0,none⟩=some (.slice none 0 0)∧w2.cell? ⟨w.heap.size,1,none⟩=some (.bool false)∧w2.frozen? ⟨w.heap.size,0,none⟩=false∧w2.frozen? ⟨w.heap.size,1,none⟩=false∧Keep w.heap.size b w w2:=by
 have h1:=gG w (.cells #[.slice none 0 0,.bool false] 161);have h2:=(hk.block w.heap.size (by omega) (by omega)).trans h1;refine⟨h2,?_,?_,?_,?_,(kZ (H:=w.heap.size) (b:=b) _ _ lQ).trans ⟨hk.os,hk.output,hk.size,fun k h1 h2=>hk.block k (by omega) h2⟩⟩
 all_goals first|(unfold cell?;rw[h2];rfl)|(unfold frozen?;rw[h2];simp)
theorem zL3 {w1:World}{b:Nat}{s:ByteArray}{dv:Value}{r:Rx}(h1:RxAt w1 b s dv r):∃w2,w2=w1.setCell ⟨b,2,none⟩ (.int .i64 ((r.at_:Int)+1))∧RxAt w2 b s dv {r with at_:=r.at_+1}∧(∀H,Keep H b w1 w2)∧w1.cell? ⟨b,2,none⟩=some (.int .i64 (r.at_:Int))∧w1.frozen? ⟨b,2,none⟩=false:=
 ⟨_,rfl,h1.setAt (r.at_+1),fun H=>Keep.set _ _ _,h1.cells.2.2.1,h1.cells.2.2.2.2.2 2⟩
theorem jR {w:World}{b:Nat}{s:ByteArray}{dv:Value}{r:Rx}(h:RxAt w b s dv r)(hs:s.size<=1048576)(ha:r.at_<=s.size):∃w1,w1=w.alloc (.cells #[.slice none 0 0,.bool false] 161)∧RxAt w1 b s dv r∧Hid (∀w2,Keep (w.heap.size+1) b w1 w2->w2.heap[w.heap.size]? =some (.cells #[.slice none 0 0,.bool false] 161)∧w2.cell? ⟨w.heap.size,0,none⟩=some (.slice none 0 0)∧w2.cell? ⟨w.heap.size,1,none⟩=some (.bool false)∧w2.frozen? ⟨w.heap.size,0,none⟩=false∧w2.frozen? ⟨w.heap.size,1,none⟩=false∧Keep w.heap.size b w w2)∧Hid (w1.heap.size=w.heap.size+1)∧Hid (b<w.heap.size)∧Hid (Calls prog 200 #[.pointer (some ⟨b,0,none⟩),.int .i64 0] w1 fun e w'=>e=.returned (.int .u8 (byt s r.at_:Nat))∧w'=w1):=
 have h1:=RxAt.of_block h (lG _ _ _ h.lt)
 ⟨_,rfl,h1,fun w2 hk=>zMk h.lt hk,by show _=_;simp,h.lt,(zGQ hs (by omega)).out _ h1⟩
theorem zNe (w:World)(b:Nat)(s:ByteArray)(dv:Value)(r:Rx)(h:RxAt w b s dv r)(hs:s.size<=1048576)(ha:r.at_<=s.size)(hc:byt s r.at_=91)(hm:zB5 s r.at_=none):
  Calls prog 203 #[.pointer (some ⟨b,0,none⟩)] w (zAm w b s dv r (jD s r.at_)):=by
 obtain⟨w1,hw1,h1,HK1,HZ1,HLB,HP0⟩:=jR h hs ha;have HA:Hid (jD s r.at_=none):=by show _=_;unfold jD;rw[if_pos hc,hm]
 have HCL:=vl (zEm w1 b s dv r h1 hs (zB6 (by omega)));rw[hm] at HCL;rw[HA.out];rw[hc] at HP0;go_in;apply wp_cut;intro K0 J;go_wp2;apply J.out;rw[<-hw1];clear hw1;go_wp2_with (first|(go_at_call 200;refine HP0.out.mono ?_;rintro e w9 ⟨rfl,hw9⟩;have hw8:=hw9.symm;subst hw8)|(go_at_call 208;refine HCL.out.mono ?_;rintro e w2 ⟨hk2,v,n,cc,o,q,rfl,hR2⟩;have HRR:=vl hR2;obtain⟨hB,c0,c1,f0,f1,hkk⟩:=HK1.out w2 (by rw[<-HZ1.out];exact hk2);obtain⟨w7,hw7,z0,z1,HZ⟩:=vE w w2 b s dv {r with at_:=q} _ _ (.slice v n cc) (o) HLB.out hB HRR.out hkk;clear hB hkk))
 rw[<-hw7];refine bodyPost_ret (v:=.tuple #[.agg #[.slice v n cc,.bool (o)],.bool false]) (by simp[results,results203,go_sem,z0,z1]) rfl ?_;exact⟨HZ.out.2.1,v,n,cc,o,q,rfl,HZ.out.1⟩
theorem zNd (w:World)(b:Nat)(s:ByteArray)(dv:Value)(r:Rx)(h:RxAt w b s dv r)(hs:s.size<=1048576)(ha:r.at_<=s.size)(hc:byt s r.at_=91)(c:Cs)(q:Nat)(hm:zB5 s r.at_=some (c,q)):
  Calls prog 203 #[.pointer (some ⟨b,0,none⟩)] w (zAm w b s dv r (jD s r.at_)):=by
 obtain⟨w1,hw1,h1,HK1,HZ1,HLB,HP0⟩:=jR h hs ha;have HA:Hid (jD s r.at_=some (c,q)):=by show _=_;unfold jD;rw[if_pos hc,hm]
 have HCL:=vl (zEm w1 b s dv r h1 hs (zB6 (by omega)));rw[hm] at HCL;rw[HA.out];rw[hc] at HP0;go_in;apply wp_cut;intro K0 J;go_wp2;apply J.out;clear J;rw[<-hw1];clear hw1;go_wp2_with (first|(go_at_call 200;refine HP0.out.mono ?_;rintro e w9 ⟨rfl,hw9⟩;have hw8:=hw9.symm;subst hw8)|(go_at_call 208;refine HCL.out.mono ?_;rintro e w2 ⟨hk2,u,rfl,hu2,hR2⟩;obtain⟨ao,cap,hu,-⟩:=hu2.at;subst hu;have HRR:=vl hR2;have HRI:Hid (RangesIn (fun i=>w.heap.size<i) w2 (.slice ao c.ranges.length cap) c.ranges):=hu2.mono (fun i _ hi=>by have:=HZ1.out;omega);obtain⟨hB,c0,c1,f0,f1,hkk⟩:=HK1.out w2 (by rw[<-HZ1.out];exact hk2);obtain⟨w7,hw7,z0,z1,HZ⟩:=vE w w2 b s dv {r with at_:=q} _ _ (.slice ao c.ranges.length cap) (c.others) HLB.out hB HRR.out hkk;clear hB hkk))
 rw[<-hw7];refine bodyPost_ret (v:=.tuple #[.agg #[.slice ao c.ranges.length cap,.bool (c.others)],.bool true]) (by simp[results,results203,go_sem,z0,z1]) rfl ?_;exact⟨HZ.out.2.1,_,rfl,HZ.out.2.2 _ HRI.out,HZ.out.1⟩
theorem zNb (w:World)(b:Nat)(s:ByteArray)(dv:Value)(r:Rx)(h:RxAt w b s dv r)(hs:s.size<=1048576)(ha:r.at_<=s.size)(hc:byt s r.at_=92)(es:Sg)(hes:zAM s (r.at_+1)=es)(hok:es.ok=true):
  Calls prog 203 #[.pointer (some ⟨b,0,none⟩)] w (zAm w b s dv r (jD s r.at_)):=by
 obtain⟨w1,hw1,h1,HK1,HZ1,HLB,HP0⟩:=jR h hs ha;have HA:Hid (jD s r.at_=some (zH3 es.num,es.at_)):=by show _=_;unfold jD;rw[if_neg (by omega),if_pos hc,hes,hok];rfl
 have HES:=vl (zBu w1 b s dv r h1 hs (by omega));rw[hes,hok] at HES;rw[HA.out];rw[hc] at HP0;clear HA hc hes hok;clear h h1;go_in;apply wp_cut;intro K0 J;go_wp2;apply J.out;clear J;rw[<-hw1];clear hw1;go_wp2_with (first|(go_at_call 200;refine HP0.out.mono ?_;rintro e w9 ⟨rfl,hw9⟩;have hw8:=hw9.symm;subst hw8)|(go_at_call 209;refine HES.out.mono ?_;rintro e w2 ⟨rfl,hR2,hk2⟩)|(go_at_call 210;refine(zDH w2 es.num).mono ?_;rintro e w3 ⟨u,rfl,⟨g,hg,rfl,hgb⟩,hk3⟩;have hs2:=(hk2 0).size;have hb2:b<w2.heap.size:=hR2.lt;have HRR:=vl <| RxAt.of_block hR2 (hk3.block b hb2 (by omega));have HRI:Hid (RangesIn (fun i=>w.heap.size<i) w3 (.slice (some ⟨g,0,none⟩) 1 1) [(es.num,es.num)]):=zGT hgb (by have:=HZ1.out;omega);obtain⟨hB,c0,c1,f0,f1,hkk⟩:=HK1.out w3 ((hk2 _).trans ⟨hk3.os,hk3.output,hk3.size,fun k h1 _=>hk3.block k (by have:=HZ1.out;omega) (by have:=HZ1.out;omega)⟩);obtain⟨w7,hw7,z0,z1,HZ⟩:=vE w w3 b s dv {r with at_:=es.at_} _ _ (.slice (some ⟨g,0,none⟩) 1 1) (false) HLB.out hB HRR.out hkk;clear hB hkk;clear hs2 hb2 hg))
 rw[<-hw7];refine bodyPost_ret (v:=.tuple #[.agg #[.slice (some ⟨g,0,none⟩) 1 1,.bool (false)],.bool true]) (by simp[results,results203,go_sem,z0,z1]) rfl ?_;exact⟨HZ.out.2.1,_,rfl,HZ.out.2.2 _ HRI.out,HZ.out.1⟩
theorem zNc (w:World)(b:Nat)(s:ByteArray)(dv:Value)(r:Rx)(h:RxAt w b s dv r)(hs:s.size<=1048576)(ha:r.at_<=s.size)(hc:byt s r.at_=92)(es:Sg)(hes:zAM s (r.at_+1)=es)(hok:es.ok=false):
  Calls prog 203 #[.pointer (some ⟨b,0,none⟩)] w (zAm w b s dv r (jD s r.at_)):=by
 obtain⟨w1,hw1,h1,HK1,HZ1,HLB,HP0⟩:=jR h hs ha;have HA:Hid (jD s r.at_=none):=by show _=_;unfold jD;rw[if_neg (by omega),if_pos hc,hes,hok];rfl
 have HES:=vl (zBu w1 b s dv r h1 hs (by omega));rw[hes,hok] at HES;rw[HA.out];rw[hc] at HP0;go_in;apply wp_cut;intro K0 J;go_wp2;apply J.out;clear J;rw[<-hw1];clear hw1;go_wp2_with (first|(go_at_call 200;refine HP0.out.mono ?_;rintro e w9 ⟨rfl,hw9⟩;have hw8:=hw9.symm;subst hw8)|(go_at_call 209;refine HES.out.mono ?_;rintro e w2 ⟨rfl,hR2,hk2⟩)|(go_at_call 210;refine(zDH w2 es.num).mono ?_;rintro e w3 ⟨u,rfl,⟨g,hg,rfl,hgb⟩,hk3⟩;have hs2:=(hk2 0).size;have hb2:b<w2.heap.size:=hR2.lt;have HRR:=vl <| RxAt.of_block hR2 (hk3.block b hb2 (by omega));have HRI:=vl <| zGT hgb (by have:=HZ1.out;omega);obtain⟨hB,c0,c1,f0,f1,hkk⟩:=HK1.out w3 ((hk2 _).trans ⟨hk3.os,hk3.output,hk3.size,fun k h1 _=>hk3.block k (by have:=HZ1.out;omega) (by have:=HZ1.out;omega)⟩);obtain⟨w7,hw7,z0,z1,HZ⟩:=vE w w3 b s dv {r with at_:=es.at_} _ _ (.slice (some ⟨g,0,none⟩) 1 1) (false) HLB.out hB HRR.out hkk;clear hB hkk;clear hs2 hb2 hg))
 rw[<-hw7];refine bodyPost_ret (v:=.tuple #[.agg #[.slice (some ⟨g,0,none⟩) 1 1,.bool (false)],.bool false]) (by simp[results,results203,go_sem,z0,z1]) rfl ?_;exact⟨HZ.out.2.1,some ⟨g,0,none⟩,1,1,false,es.at_,rfl,HZ.out.1⟩
theorem zNF (w:World)(b:Nat)(s:ByteArray)(dv:Value)(r:Rx)(h:RxAt w b s dv r)(hs:s.size<=1048576)(ha:r.at_<=s.size)(hc:byt s r.at_=46):
  Calls prog 203 #[.pointer (some ⟨b,0,none⟩)] w (zAm w b s dv r (jD s r.at_)):=by
 obtain⟨w1,hw1,h1,HK1,HZ1,HLB,HP0⟩:=jR h hs ha;have HA:Hid (jD s r.at_=some (zNr,r.at_+1)):=by show _=_;unfold jD;rw[if_neg (by omega),if_neg (by omega),if_pos hc]
 rw[HA.out];obtain⟨w2,hw2,hR2,hk2,c2,cf2⟩:=zL3 h1;rw[hc] at HP0;clear hc;clear HA;clear h h1;go_in;apply wp_cut;intro K0 J;go_wp2;apply J.out;clear J;rw[<-hw1];clear hw1;go_wp2_with (first|(go_at_call 200;refine HP0.out.mono ?_;rintro e w9 ⟨rfl,hw9⟩;have hw8:=hw9.symm;subst hw8)|(rw [<-hw2];go_at_call 211;refine(zKX w2).mono ?_;rintro e w3 ⟨u,rfl,⟨g,hg,rfl,hgb⟩,hk3⟩;have hs2:=(hk2 0).size;have hb2:b<w2.heap.size:=hR2.lt;have HRR:=vl <| RxAt.of_block hR2 (hk3.block b hb2 (by omega));have HRI:Hid (RangesIn (fun i=>w.heap.size<i) w3 (.slice (some ⟨g,0,none⟩) 1 1) [(10,10)]):=zGT hgb (by have:=HZ1.out;omega);obtain⟨hB,c0,c1,f0,f1,hkk⟩:=HK1.out w3 ((hk2 _).trans ⟨hk3.os,hk3.output,hk3.size,fun k h1 _=>hk3.block k (by have:=HZ1.out;omega) (by have:=HZ1.out;omega)⟩);obtain⟨w7,hw7,z0,z1,HZ⟩:=vE w w3 b s dv {r with at_:=r.at_+1} _ _ (.slice (some ⟨g,0,none⟩) 1 1) (true) HLB.out hB HRR.out hkk;clear hB hkk;clear hs2 hb2 hg))
 rw[<-hw7];refine bodyPost_ret (v:=.tuple #[.agg #[.slice (some ⟨g,0,none⟩) 1 1,.bool (true)],.bool true]) (by simp[results,results203,go_sem,z0,z1]) rfl ?_;exact⟨HZ.out.2.1,_,rfl,HZ.out.2.2 _ HRI.out,HZ.out.1⟩
theorem zND (w:World)(b:Nat)(s:ByteArray)(dv:Value)(r:Rx)(h:RxAt w b s dv r)(hs:s.size<=1048576)(ha:r.at_<=s.size)(c:Nat)(hcc:byt s r.at_=c)(n1:c≠91)(n2:c≠92)(n3:c≠46)(hp:zAJ c=true):
  Calls prog 203 #[.pointer (some ⟨b,0,none⟩)] w (zAm w b s dv r (jD s r.at_)):=by
 obtain⟨w1,hw1,h1,HK1,HZ1,HLB,HP0⟩:=jR h hs ha;have HA:Hid (jD s r.at_=some (zH3 (c:Nat),r.at_+1)):=by show _=_;unfold jD;rw[hcc,if_neg n1,if_neg n2,if_neg n3,if_pos hp]
 rw[HA.out];obtain⟨w2,hw2,hR2,hk2,c2,cf2⟩:=zL3 h1;have hcl:=zAl s r.at_;rw[hcc] at HP0 hcl;have HIP:=vl fun w=>zCw w c;rw[hp] at HIP;have e1:((c:Int)==91)=false:=by rw[gQ];omega
 have e2:((c:Int)==92)=false:=by rw[gQ];omega
 have e3:((c:Int)==46)=false:=by rw[gQ];omega
 clear hcc n1 n2 n3 hp;clear HA;clear h h1;go_in;apply wp_cut;intro K0 J;go_wp2;apply J.out;clear J;rw[<-hw1];clear hw1;go_wp2_with (first|(go_at_call 200;refine HP0.out.mono ?_;rintro e w9 ⟨rfl,hw9⟩;have hw8:=hw9.symm;subst hw8)|(go_at_call 212;refine(HIP.out _).mono ?_;rintro e w9 ⟨rfl,hw9⟩;have hw8:=hw9.symm;subst hw8)|(rw [<-hw2];go_at_call 210;refine(zDH w2 (c:Int)).mono ?_;rintro e w3 ⟨u,rfl,⟨g,hg,rfl,hgb⟩,hk3⟩;have hs2:=(hk2 0).size;have hb2:b<w2.heap.size:=hR2.lt;have HRR:=vl <| RxAt.of_block hR2 (hk3.block b hb2 (by omega));have HRI:Hid (RangesIn (fun i=>w.heap.size<i) w3 (.slice (some ⟨g,0,none⟩) 1 1) [((c:Int),(c:Int))]):=zGT hgb (by have:=HZ1.out;omega);obtain⟨hB,c0,c1,f0,f1,hkk⟩:=HK1.out w3 ((hk2 _).trans ⟨hk3.os,hk3.output,hk3.size,fun k h1 _=>hk3.block k (by have:=HZ1.out;omega) (by have:=HZ1.out;omega)⟩);obtain⟨w7,hw7,z0,z1,HZ⟩:=vE w w3 b s dv {r with at_:=r.at_+1} _ _ (.slice (some ⟨g,0,none⟩) 1 1) (false) HLB.out hB HRR.out hkk;clear hB hkk;clear hs2 hb2 hg))
 rw[<-hw7];refine bodyPost_ret (v:=.tuple #[.agg #[.slice (some ⟨g,0,none⟩) 1 1,.bool (false)],.bool true]) (by simp[results,results203,go_sem,z0,z1]) rfl ?_;exact⟨HZ.out.2.1,_,rfl,HZ.out.2.2 _ HRI.out,HZ.out.1⟩
theorem zNE (w:World)(b:Nat)(s:ByteArray)(dv:Value)(r:Rx)(h:RxAt w b s dv r)(hs:s.size<=1048576)(ha:r.at_<=s.size)(c:Nat)(hcc:byt s r.at_=c)(n1:c≠91)(n2:c≠92)(n3:c≠46)(hp:zAJ c=false):
  Calls prog 203 #[.pointer (some ⟨b,0,none⟩)] w (zAm w b s dv r (jD s r.at_)):=by
 obtain⟨w1,hw1,h1,HK1,HZ1,HLB,HP0⟩:=jR h hs ha;have HA:Hid (jD s r.at_=none):=by show _=_;unfold jD;rw[hcc,if_neg n1,if_neg n2,if_neg n3,if_neg (by rw[hp];decide)]
 rw[HA.out];have hcl:=zAl s r.at_;rw[hcc] at HP0 hcl;have HIP:=vl fun w=>zCw w c;rw[hp] at HIP;have e1:((c:Int)==91)=false:=by rw[gQ];omega
 have e2:((c:Int)==92)=false:=by rw[gQ];omega
 have e3:((c:Int)==46)=false:=by rw[gQ];omega
 have HRR:=vl h1;obtain⟨hB,c0,c1,f0,f1,hkk⟩:=HK1.out w1 (Keep.refl _ _ _);obtain⟨w7,hw7,z0,z1,HZ⟩:=vE w w1 b s dv r _ _ (.slice none 0 0) false HLB.out hB HRR.out hkk;go_in;apply wp_cut;intro K0 J;go_wp2;apply J.out;clear J;rw[<-hw1];clear hw1;go_wp2_with (first|(go_at_call 200;refine HP0.out.mono ?_;rintro e w9 ⟨rfl,hw9⟩;have hw8:=hw9.symm;subst hw8)|(go_at_call 212;refine(HIP.out _).mono ?_;rintro e w9 ⟨rfl,hw9⟩;have hw8:=hw9.symm;subst hw8))
 rw[<-hw7];refine bodyPost_ret (v:=.tuple #[.agg #[.slice none 0 0,.bool (false)],.bool false]) (by simp[results,results203,go_sem,z0,z1]) rfl ?_;exact⟨HZ.out.2.1,none,0,0,false,r.at_,rfl,HZ.out.1⟩
theorem zDE (w:World)(b:Nat)(s:ByteArray)(dv:Value)(r:Rx)(h:RxAt w b s dv r)(hs:s.size<=1048576)(ha:r.at_<=s.size):
  Calls prog 203 #[.pointer (some ⟨b,0,none⟩)] w (zAm w b s dv r (jD s r.at_)):=by
 by_cases h1:byt s r.at_=91
 ·cases hm:zB5 s r.at_ with
  |none=>exact zNe w b s dv r h hs ha h1 hm
  |some g=>
   obtain⟨c,q⟩:=g;exact zNd w b s dv r h hs ha h1 c q hm
 by_cases h2:byt s r.at_=92
 ·cases hok:(zAM s (r.at_+1)).ok with
  |true=>exact zNb w b s dv r h hs ha h2 _ rfl hok
  |false=>exact zNc w b s dv r h hs ha h2 _ rfl hok
 by_cases h3:byt s r.at_=46
 ·exact zNF w b s dv r h hs ha h3
 cases hp:zAJ (byt s r.at_) with
 |true=>exact zND w b s dv r h hs ha _ rfl h1 h2 h3 hp
 |false=>exact zNE w b s dv r h hs ha _ rfl h1 h2 h3 hp
def zL8 (w:World)(b:Nat)(s:ByteArray)(dv:Value)(r:Rx)(a:Option (Tm×Nat))(e:Ending)(w':World):Prop:=
 Keep w.heap.size b w w'∧match a with
 |none=>∃q,e=.returned (.tuple #[.agg #[.int .i64 0,.int .i64 0,.bool false],.bool false])∧RxAt w' b s dv {r with at_:=q}
 |some (o,q)=>e=.returned (.tuple #[.agg #[.int .i64 (o.least:Int),.int .i64 (o.most:Int),.bool o.endless],.bool true])∧RxAt w' b s dv {r with at_:=q}
theorem yW (w w2:World)(b:Nat)(s:ByteArray)(dv:Value)(r:Rx)(n m:Int)(o:Bool)(hb:b<w.heap.size)(hB:Hid (Keep w.heap.size b w w2∧w2.heap[w.heap.size]? =some (.cells #[.int .i64 0,.int .i64 0,.bool false] 163)))(h:RxAt w2 b s dv r):
  ∃w3,w3=((w2.setCell ⟨w.heap.size,0,none⟩ (.int .i64 n)).setCell ⟨w.heap.size,1,none⟩ (.int .i64 m)).setCell ⟨w.heap.size,2,none⟩ (.bool o)∧w3.cell? ⟨w.heap.size,0,none⟩=some (.int .i64 n)∧w3.cell? ⟨w.heap.size,1,none⟩=some (.int .i64 m)∧w3.cell? ⟨w.heap.size,2,none⟩=some (.bool o)∧Hid (RxAt w3 b s dv r∧Keep w.heap.size b w w3):=by
 have h2:(((w2.setCell ⟨w.heap.size,0,none⟩ (.int .i64 n)).setCell ⟨w.heap.size,1,none⟩ (.int .i64 m)).setCell ⟨w.heap.size,2,none⟩ (.bool o)).heap[w.heap.size]? =some (.cells #[.int .i64 n,.int .i64 m,.bool o] 163):=by
  simp[setCell,lU,hB.out.2]
 have hne:∀i,i≠w.heap.size->(((w2.setCell ⟨w.heap.size,0,none⟩ (.int .i64 n)).setCell ⟨w.heap.size,1,none⟩ (.int .i64 m)).setCell ⟨w.heap.size,2,none⟩ (.bool o)).heap[i]? =w2.heap[i]? :=fun i hi2=>by
  simp[setCell,lU,Ne.symm hi2]
 refine⟨_,rfl,?_,?_,?_,RxAt.of_block h (hne b (by omega)),hB.out.1.trans ⟨rfl,rfl,by simp[World.setCell],fun k h1 _=>hne k (by omega)⟩⟩
 all_goals (unfold cell?;rw[h2];rfl)
theorem zKd {w w2:World}{b:Nat}(hb:b<w.heap.size)(hk:Keep (w.heap.size+1) b (w.alloc (.cells #[.int .i64 0,.int .i64 0,.bool false] 163)) w2):Hid (Keep w.heap.size b w w2∧w2.heap[w.heap.size]? =some (.cells #[.int .i64 0,.int .i64 0,.bool false] 163))∧w2.cell? ⟨w.heap.size,0,none⟩=some (.int .i64 0)∧w2.cell? ⟨w.heap.size,1,none⟩=some (.int .i64 0)∧w2.cell? ⟨w.heap.size,2,none⟩=some (.bool false)∧w2.frozen? ⟨w.heap.size,0,none⟩=false∧w2.frozen? ⟨w.heap.size,1,none⟩=false∧w2.frozen? ⟨w.heap.size,2,none⟩=false:=by
 have h1:=gG w (.cells #[.int .i64 0,.int .i64 0,.bool false] 163);have h2:=(hk.block w.heap.size (by omega) (by omega)).trans h1;refine⟨⟨(kZ (H:=w.heap.size) (b:=b) _ _ lQ).trans ⟨hk.os,hk.output,hk.size,fun k h1 h2=>hk.block k (by omega) h2⟩,h2⟩,?_,?_,?_,?_,?_,?_⟩
 all_goals first|(unfold cell?;rw[h2];rfl)|(unfold frozen?;rw[h2];simp)
theorem zCS {c:Nat}(h:xX c=true):zA3 c=((c-48:Nat):Int)∧48<=c∧c<=52:=by
 have h1:48<=c:=by
  unfold xX xF at h;rw[Bool.and_eq_true,Bool.and_eq_true] at h;exact of_decide_eq_true h.1.1
 have h2:c<=52:=by
  unfold xX at h;rw[Bool.and_eq_true] at h;exact of_decide_eq_true h.2
 exact⟨by unfold zA3;rw[if_pos h];omega,h1,h2⟩
theorem zNO {w0 w:World}{b x n:Nat}{s:ByteArray}{dv:Value}{r:Rx}(hv:xX (byt s x)=true)(hn:Hid (byt s x-48=n))(h:RxAt w b s dv {r with at_:=x})(hk:∀H,Keep H b w0 w)(hs:s.size<=1048576)(ha:x<=2000000):
  Calls prog 214 #[.pointer (some ⟨b,0,none⟩)] w fun e w'=>e=.returned (.int .i64 (n:Int))∧RxAt w' b s dv {r with at_:=x+1}∧∀H,Keep H b w0 w':=by
 refine(zEl w b s dv {r with at_:=x} h hs ha).mono ?_;rintro e w' ⟨rfl,h1,h2⟩;refine⟨by rw[(zCS hv).1,<-hn.out],?_,fun H=>(hk H).trans (h2 H)⟩;have e:(({r with at_:=x}:Rx).on (xX (byt s x)))={r with at_:=x+1}:=by rw[hv];rfl
 rw[<-e];exact h1
theorem zNP {w0 w:World}{b x:Nat}{s:ByteArray}{dv:Value}{r:Rx}(hv:xX (byt s x)=false)(h:RxAt w b s dv {r with at_:=x})(hk:∀H,Keep H b w0 w)(hs:s.size<=1048576)(ha:x<=2000000):
  Calls prog 214 #[.pointer (some ⟨b,0,none⟩)] w fun e w'=>e=.returned (.int .i64 (-1))∧RxAt w' b s dv {r with at_:=x}∧∀H,Keep H b w0 w':=by
 refine(zEl w b s dv {r with at_:=x} h hs ha).mono ?_;rintro e w' ⟨rfl,h1,h2⟩;refine⟨by unfold zA3;rw[if_neg (by rw[hv];decide)],?_,fun H=>(hk H).trans (h2 H)⟩;have e:(({r with at_:=x}:Rx).on (xX (byt s x)))={r with at_:=x}:=by rw[hv];rfl
 rw[<-e];exact h1
theorem zD3 {w:World}{b:Nat}{s:ByteArray}{dv:Value}{r:Rx}(h:RxAt w b s dv r):∃w1,w1=w.alloc (.cells #[.int .i64 0,.int .i64 0,.bool false] 163)∧RxAt w1 b s dv {r with at_:=r.at_}∧Hid (∀w2,Keep (w.heap.size+1) b w1 w2->Hid (Keep w.heap.size b w w2∧w2.heap[w.heap.size]? =some (.cells #[.int .i64 0,.int .i64 0,.bool false] 163))∧w2.cell? ⟨w.heap.size,0,none⟩=some (.int .i64 0)∧w2.cell? ⟨w.heap.size,1,none⟩=some (.int .i64 0)∧w2.cell? ⟨w.heap.size,2,none⟩=some (.bool false)∧w2.frozen? ⟨w.heap.size,0,none⟩=false∧w2.frozen? ⟨w.heap.size,1,none⟩=false∧w2.frozen? ⟨w.heap.size,2,none⟩=false)∧Hid (w1.heap.size=w.heap.size+1)∧Hid (b<w.heap.size):=⟨_,rfl,RxAt.of_block h (lG _ _ _ h.lt),fun w2 hk=>zKd h.lt hk,by show _=_;simp,h.lt⟩
theorem zKb {w1:World}{b:Nat}{s:ByteArray}{dv:Value}{r:Rx}(h1:RxAt w1 b s dv {r with at_:=r.at_}):∃w2,w2=w1.setCell ⟨b,2,none⟩ (.int .i64 ((r.at_:Int)+1))∧RxAt w2 b s dv {r with at_:=r.at_+1}∧(∀H,Keep H b w1 w2)∧w1.cell? ⟨b,2,none⟩=some (.int .i64 (r.at_:Int))∧w1.frozen? ⟨b,2,none⟩=false:=
 ⟨_,rfl,h1.setAt (r.at_+1),fun H=>Keep.set _ _ _,h1.cells.2.2.1,h1.cells.2.2.2.2.2 2⟩
theorem zF1 (w:World)(b:Nat)(s:ByteArray)(dv:Value)(r:Rx)(h:RxAt w b s dv r)(hs:s.size<=1048576)(ha:r.at_<=s.size):
  Calls prog 207 #[.pointer (some ⟨b,0,none⟩)] w (zL8 w b s dv r (zBf s r.at_)):=by
 obtain⟨w1,hw1,h1,HK1,HZ1,HLB⟩:=zD3 h;obtain⟨w2,hw2,hR,hk,cc2,cf2⟩:=zKb h1;clear h h1;go_in;apply wp_cut;intro K0 J;go_wp2;apply J.out;clear J;rw[<-hw1];clear hw1;apply wp_cut;intro K0 J;go_wp2;apply J.out;clear J;rw[<-hw2];clear hw2 cc2 cf2;obtain⟨v,hwv⟩:∃v,v=w2:=⟨_,rfl⟩
 rw[<-hwv] at hR hk ⊢;clear hwv;unfold zBf;obtain⟨n,hn⟩:∃n,byt s (r.at_+1)-48=n:=⟨_,rfl⟩
 obtain⟨m,hm⟩:∃m,byt s (r.at_+3)-48=m:=⟨_,rfl⟩
 rw[hn,hm];have q0:=zAl s (r.at_+1);rcases h1:xX (byt s (r.at_+1)) with _|_;rotate_left;have q1:=(zCS h1).2;have n4:n<=4:=by omega
 rw[if_pos rfl];rcases h2:zI s (r.at_+2) ⟨#[125]⟩ with _|_;rw[if_neg (by decide)];rcases h3:zI s (r.at_+2) ⟨#[44]⟩ with _|_;rotate_left;rw[if_pos rfl];rcases h4:zI s (r.at_+3) ⟨#[125]⟩ with _|_;rw[if_neg (by decide)];rcases h5:xX (byt s (r.at_+3)) with _|_;rotate_left;have q2:=(zCS h5).2;have m4:m<=4:=by omega
 rcases h6:decide (byt s (r.at_+1)<=byt s (r.at_+3)) with _|_;rotate_left;rw[if_pos (show (true&&true)=true from rfl)];rcases h7:zI s (r.at_+4) ⟨#[125]⟩ with _|_
 all_goals
  try have h66:(n:Int)<=(m:Int):=by have:=of_decide_eq_true h6;omega
  try have h66:(m:Int)<(n:Int):=by have:=of_decide_eq_false h6;omega
  have HN:=vl hn;have HM:=vl hm;clear hn hm q0
  try clear q1
  try clear q2
  try clear h6
  go_wp2_with ((first|(go_at_call 189;(first|refine(zM5 (by assumption) hR hk hs (by omega)).mono ?_|refine(zM4 (by assumption) hR hk hs (by omega)).mono ?_))|(go_at_call 214;(first|refine(zNP (by assumption) hR hk hs (by omega)).mono ?_|refine(zNO (by assumption) (by assumption) hR hk hs (by omega)).mono ?_)));rintro e v ⟨rfl,hR,hk⟩;obtain⟨HB,c0,c1,c2,f0,f1,f2⟩:=HK1.out v (hk _))
  first
  |(obtain ⟨w7,hw7,z0,z1,z2,HZ⟩:=yW w v b s dv _ 0 0 false HLB.out HB hR;rw[<-hw7];refine bodyPost_ret (v:=.tuple #[.agg #[.int .i64 0,.int .i64 0,.bool false],.bool false]) (by simp[results,results207,go_sem,z0,z1,z2]) rfl ?_;exact⟨HZ.out.2,_,rfl,HZ.out.1⟩)
  |(obtain ⟨w7,hw7,z0,z1,z2,HZ⟩:=yW w v b s dv _ n n false HLB.out HB hR;rw[<-hw7];refine bodyPost_ret (v:=.tuple #[.agg #[.int .i64 n,.int .i64 n,.bool false],.bool true]) (by simp[results,results207,go_sem,z0,z1,z2]) rfl ?_;exact⟨HZ.out.2,rfl,HZ.out.1⟩)
  |(obtain ⟨w7,hw7,z0,z1,z2,HZ⟩:=yW w v b s dv _ n 0 true HLB.out HB hR;rw[<-hw7];refine bodyPost_ret (v:=.tuple #[.agg #[.int .i64 n,.int .i64 0,.bool true],.bool true]) (by simp[results,results207,go_sem,z0,z1,z2]) rfl ?_;exact⟨HZ.out.2,rfl,HZ.out.1⟩)
  |(obtain ⟨w7,hw7,z0,z1,z2,HZ⟩:=yW w v b s dv _ n m false HLB.out HB hR;rw[<-hw7];refine bodyPost_ret (v:=.tuple #[.agg #[.int .i64 n,.int .i64 m,.bool false],.bool true]) (by simp[results,results207,go_sem,z0,z1,z2]) rfl ?_;exact⟨HZ.out.2,rfl,HZ.out.1⟩)
theorem zFl (w:World)(b:Nat)(s:ByteArray)(dv:Value)(r:Rx)(h:RxAt w b s dv r)(hs:s.size<=1048576)(ha:r.at_<=s.size):
  Calls prog 198 #[.pointer (some ⟨b,0,none⟩)] w (zL8 w b s dv r (zDT s r.at_)):=by
 have HCD:Hid (∀w,RxAt w b s dv r->Calls prog 207 #[.pointer (some ⟨b,0,none⟩)] w (zL8 w b s dv r (zBf s r.at_))):=fun w h=>zF1 w b s dv r h hs ha;obtain⟨v,hw1,hR,HK1,HZ1,HLB⟩:=zD3 h;have hk:∀H,Keep H b v v:=fun H=>⟨rfl,rfl,lQ,fun k _ _=>rfl⟩
 clear h;go_in;apply wp_cut;intro K0 J;go_wp2;apply J.out;clear J;rw[<-hw1];clear hw1;unfold zDT;obtain⟨v0,hv0⟩:∃v0,v0=v:=⟨_,rfl⟩
 rw[<-hv0] at HK1 HZ1;have hk:∀H,Keep H b v0 v:=by rw[hv0];exact hk
 clear hv0;rcases h1:zI s r.at_ ⟨#[42]⟩ with _|_;rcases h2:zI s r.at_ ⟨#[43]⟩ with _|_;rcases h3:zI s r.at_ ⟨#[63]⟩ with _|_;rw[if_neg (by decide),if_neg (by decide),if_neg (by decide)];have hcd:∃a,zBf s r.at_=a:=⟨_,rfl⟩
 obtain⟨a,hcd⟩:=hcd;rw[hcd] at HCD ⊢;clear hcd;rcases a with _|⟨o,q⟩
 all_goals
  go_wp2_with (first|(go_at_call 189;(first|refine(zM5 (by assumption) hR hk hs (by omega)).mono ?_|refine(zM4 (by assumption) hR hk hs (by omega)).mono ?_);rintro e v ⟨rfl,hR,hk⟩;obtain⟨HB,c0,c1,c2,f0,f1,f2⟩:=HK1.out v (hk _))|(go_at_call 207;refine(HCD.out v hR).mono ?_;(first|rintro e v4 ⟨hk4,q,rfl,hR⟩|rintro e v4 ⟨hk4,rfl,hR⟩);obtain⟨HB,c0,c1,c2,f0,f1,f2⟩:=HK1.out v4 ((hk _).trans ⟨hk4.os,hk4.output,hk4.size,fun k h1 h2=>hk4.block k (by have:=HZ1.out;have:=(hk 0).size;omega) h2⟩)))
  first
  |(obtain ⟨w7,hw7,z0,z1,z2,HZ⟩:=yW w v4 b s dv _ 0 0 false HLB.out HB hR;rw[<-hw7];refine bodyPost_ret (v:=.tuple #[.agg #[.int .i64 0,.int .i64 0,.bool false],.bool false]) (by simp[results,results198,go_sem,z0,z1,z2]) rfl ?_;exact⟨HZ.out.2,_,rfl,HZ.out.1⟩)
  |(obtain ⟨w7,hw7,z0,z1,z2,HZ⟩:=yW w v4 b s dv _ o.least o.most o.endless HLB.out HB hR;rw[<-hw7];refine bodyPost_ret (v:=.tuple #[.agg #[.int .i64 o.least,.int .i64 o.most,.bool o.endless],.bool true]) (by simp[results,results198,go_sem,z0,z1,z2]) rfl ?_;exact⟨HZ.out.2,rfl,HZ.out.1⟩)
  |(obtain ⟨w7,hw7,z0,z1,z2,HZ⟩:=yW w v b s dv _ 0 0 true HLB.out HB hR;rw[<-hw7];refine bodyPost_ret (v:=.tuple #[.agg #[.int .i64 0,.int .i64 0,.bool true],.bool true]) (by simp[results,results198,go_sem,z0,z1,z2]) rfl ?_;exact⟨HZ.out.2,rfl,HZ.out.1⟩)
  |(obtain ⟨w7,hw7,z0,z1,z2,HZ⟩:=yW w v b s dv _ 1 0 true HLB.out HB hR;rw[<-hw7];refine bodyPost_ret (v:=.tuple #[.agg #[.int .i64 1,.int .i64 0,.bool true],.bool true]) (by simp[results,results198,go_sem,z0,z1,z2]) rfl ?_;exact⟨HZ.out.2,rfl,HZ.out.1⟩)
  |(obtain ⟨w7,hw7,z0,z1,z2,HZ⟩:=yW w v b s dv _ 0 1 false HLB.out HB hR;rw[<-hw7];refine bodyPost_ret (v:=.tuple #[.agg #[.int .i64 0,.int .i64 1,.bool false],.bool true]) (by simp[results,results198,go_sem,z0,z1,z2]) rfl ?_;exact⟨HZ.out.2,rfl,HZ.out.1⟩)
theorem zFS (w:World)(X:Nat->Prop)(u:Value)(c:Cs)(h:RangesIn X w u c.ranges):
  Calls prog 205 #[.agg #[u,.bool c.others]] w fun e w'=>∃p,e=.returned (.pointer (some ⟨p,0,none⟩))∧(∀d,TreeIn (fun i=>(X i∧i<w.heap.size)∨w.heap.size<=i) w' (d+1) p (zGU c))∧Grew w w':=by
 obtain⟨ao,cap,rfl,-⟩:=h.at
 obtain⟨w2,hw2,HB,HK⟩:∃w2,w2=(w.alloc (Obj.cells #[.slice ao c.ranges.length cap,.bool c.others] 161)).alloc (Obj.cells #[.int .i64 1,.slice ao c.ranges.length cap,.bool c.others,.slice none 0 0,.int .i64 0,.int .i64 0,.bool false,.int .i64 1] 165)∧Hid (∀d,TreeIn (fun i=>(X i∧i<w.heap.size)∨w.heap.size<=i) w2 (d+1) (w.heap.size+1) (zGU c))∧Hid (Grew w w2):=by
  have s1:(w.alloc (Obj.cells #[.slice ao c.ranges.length cap,.bool c.others] 161)).heap.size=w.heap.size+1:=by simp
  have h2:=gG (w.alloc (Obj.cells #[.slice ao c.ranges.length cap,.bool c.others] 161)) (Obj.cells #[.int .i64 1,.slice ao c.ranges.length cap,.bool c.others,.slice none 0 0,.int .i64 0,.int .i64 0,.bool false,.int .i64 1] 165);rw[s1] at h2;have hk:Grew w ((w.alloc (Obj.cells #[.slice ao c.ranges.length cap,.bool c.others] 161)).alloc (Obj.cells #[.int .i64 1,.slice ao c.ranges.length cap,.bool c.others,.slice none 0 0,.int .i64 0,.int .i64 0,.bool false,.int .i64 1] 165)):=(kZ _ _ lQ).trans (kZ _ _ (by rw[s1];omega));have hr:RangesIn (fun i=>(X i∧i<w.heap.size)∨w.heap.size<=i) ((w.alloc (Obj.cells #[.slice ao c.ranges.length cap,.bool c.others] 161)).alloc (Obj.cells #[.int .i64 1,.slice ao c.ranges.length cap,.bool c.others,.slice none 0 0,.int .i64 0,.int .i64 0,.bool false,.int .i64 1] 165)) (.slice ao c.ranges.length cap) c.ranges:=fun w3 a=>h w3 ⟨a.os.trans hk.os,a.output.trans hk.output,lY hk.size a.size,fun i hi hx=>(a.block i (lZ hi hk.size) (.inl ⟨hx,hi⟩)).trans (hk.block i hi (by omega))⟩;exact⟨_,rfl,fun d=>zG0 (t:=zGU c) h2 (.inr (by omega)) hr rfl ⟨by show 0<=1000;omega,by show 0<=1000;omega⟩,hk⟩
 go_in;go_wp2;rw[<-hw2];go_ret;exact⟨_,rfl,HB.out,HK.out⟩
theorem zEb (w:World)(X:Nat->Prop)(d p:Nat)(t:Tr)(h:TreeIn X w d p t):
  Calls prog 190 #[.pointer (some ⟨p,0,none⟩)] w fun e w'=>∃p',e=.returned (.pointer (some ⟨p',0,none⟩))∧TreeIn (fun i=>(X i∧i<w.heap.size)∨w.heap.size<=i) w' d p' t.plain∧Grew w w':=by
 cases d with
 |zero=>exact False.elim h.at
 |succ d=>
 have c7:w.cell? ⟨p,7,none⟩=some (.int .i64 (t.chars:Int)):=by
  obtain⟨-,rv,pv,hb,-⟩:=h.at
  unfold cell?;rw[hb];rfl
 have HT:=vl h;by_cases h0:t.chars=0
 ·have HP:Hid (t.plain=Tr.none):=by show _=_;unfold Tr.plain;rw[if_pos h0]
  rw[h0] at c7;have c7b:=c7;go_in;go_wp2;go_ret;refine⟨_,rfl,?_,kZ _ _ lQ⟩;rw[HP.out];exact zIh (gG _ _) (.inr lQ)
 ·have HP:Hid (t.plain=t):=by show _=_;unfold Tr.plain;rw[if_neg h0]
  have e0:((t.chars:Int)==0)=false:=by rw[gQ];omega
  go_in;go_wp2;go_ret;exact⟨_,rfl,by rw[HP.out];exact HT.out.mono fun i hi hx=>.inl ⟨hx,hi⟩,Keep.refl _ _ _⟩
theorem zDR:(prog.info? 158).map (fun i=>(i.zero,i.size,i.bytes))=some (some (.pointer none),1,8):=by kernel_rfl
theorem TreeIn.chars {X:Nat->Prop}{w:World}{d p:Nat}{t:Tr}(h:TreeIn X w d p t):w.cell? ⟨p,7,none⟩=some (.int .i64 (t.chars:Int)):=by
 cases d with
 |zero=>exact False.elim h.at
 |succ d=>
  obtain⟨-,rv,pv,hb,-⟩:=h.at
  unfold cell?;rw[hb];rfl
theorem zF5 (w:World)(Y:Nat->Prop)(H p d:Nat)(sv:Value)(ps:List Nat)(t:Tr)(h:Tw w Y H p d sv ps t)(q:Nat)(u:Tr)(hu:TreeIn (fun j=>Y j∧j≠p∧some j≠sv.ownBlock) w d q u)(hc:u.chars<=25)(hl:t.parts.length<9000000):
  Calls prog 188 #[.pointer (some ⟨p,0,none⟩),.pointer (some ⟨q,0,none⟩)] w fun e w'=>e=.returned (.tuple #[])∧∃sv' ps',Tw w' Y H p d sv' ps' (t.add u)∧KeepO p sv sv' w w':=by
 obtain⟨i0,hi0,hz0,hz1,hz2⟩:=info_parts zDR;obtain⟨ao,cap0,hsv⟩:=zE h.own;subst hsv;obtain⟨x3,x7,xf⟩:=h.cells;have xf3:=xf 3;have OW:w.ownsRow H 158 1 (.slice ao t.parts.length cap0) t.parts.length (xT ps):=h.own;have hlt:p<w.heap.size:=lZ h.pH h.lt;have hHw:H<=w.heap.size:=h.lt;have HNP:=vl <| zL h.own h.blk (by decide);have hsm:=h.small.2.2.2;have HT:=vl h;have HU:=vl hu;have HWR:Hid (IntKind.i64.wrap ((t.chars:Int)+(u.chars:Int))=(t.chars:Int)+(u.chars:Int)):=zAQ _ (by omega) (by omega);have HBD:Hid (∀w,Calls prog 195 #[.int .i64 (IntKind.i64.wrap ((t.chars:Int)+(u.chars:Int)))] w fun e w'=>e=.returned (.int .i64 (xJ (t.chars+u.chars):Int))∧w'=w):=fun w=>by
  have:=zCB w (t.chars+u.chars);rw[show ((t.chars+u.chars:Nat):Int)=(t.chars:Int)+(u.chars:Int) by omega] at this;rw[HWR.out];exact this
 clear xf h hu x7;go_in;apply wp_cut;intro K0 J;go_wp2_with (first|(at_builtin;refine wpList_append_lies _ rfl _ _ 118 rfl (H) 158 i0 (.pointer none) 1 8 underlying118 hi0 hz0 hz1 hz2 rfl (by decide) _ _ _ rfl (OW.alloc _) ⟨w.heap.size,0,none⟩ 1 1 [.pointer (some ⟨q,0,none⟩)] rfl rfl (cell_one_new _ _ _) (by intro u hu;simp at hu;subst hu;rfl) (by decide) (by unfold maxLen;omega) (by omega) (by simp;omega) _ rfl ?_;intro gg cap w2 hown hgrow hat hlt2;have hPB:=hgrow.block p (by simp;omega) HNP.out;have x3b:w2.cell? ⟨p,3,none⟩=some (.slice ao t.parts.length cap0):=(cell?_of_block hPB).trans ((cell?_alloc_past _ _ _ hlt).trans x3);have xf3b:w2.frozen? ⟨p,3,none⟩=false:=(frozen?_of_block hPB).trans ((frozen?_alloc_past _ _ _ hlt).trans xf3)))
 apply J.out;clear J;obtain⟨w3,hw3,H3⟩:∃w3,w3=w2.setCell ⟨p,3,none⟩ (.slice (some ⟨gg,0,none⟩) (t.parts.length+1) cap)∧Hid (Tw w3 Y H p d (.slice (some ⟨gg,0,none⟩) (t.parts.length+1) cap) (ps++[q]) {t with parts:=t.parts++[u]}∧KeepO p (.slice ao t.parts.length cap0) (.slice (some ⟨gg,0,none⟩) (t.parts.length+1) cap) w w3):=⟨_,rfl,HT.out.app rfl (by omega) HU.out hown hgrow (by rcases hat with ha|ha;exact .inl ha;right;rw[ha];simp)⟩
 rw[<-hw3];clear hw3 hown hgrow hat hlt2 hPB x3b xf3b OW HNP x3 xf3;have x7:w3.cell? ⟨p,7,none⟩=some (.int .i64 (t.chars:Int)):=H3.out.1.cells.2.1;have xf7:w3.frozen? ⟨p,7,none⟩=false:=H3.out.1.cells.2.2 7;have y7:w3.cell? ⟨q,7,none⟩=some (.int .i64 (u.chars:Int)):=by
  have h1:=H3.out.1.parts t.parts.length (by simp);have e1:(ps++[q]).getD t.parts.length 0=q:=by rw[<-HT.out.len];simp
  have e2:(t.parts++[u]).getD t.parts.length Tr.none=u:=by simp
  have h2:TreeIn _ w3 d ((ps++[q]).getD t.parts.length 0) ((t.parts++[u]).getD t.parts.length Tr.none):=h1;rw[e1,e2] at h2;exact h2.chars
 have HN:Hid (∀i,Tw ((w3.setCell ⟨p,7,none⟩ (.int .i64 (xJ (t.chars+u.chars):Int))).drewN i) Y H p d (.slice (some ⟨gg,0,none⟩) (t.parts.length+1) cap) (ps++[q]) (t.add u)∧KeepO p (.slice ao t.parts.length cap0) (.slice (some ⟨gg,0,none⟩) (t.parts.length+1) cap) w ((w3.setCell ⟨p,7,none⟩ (.int .i64 (xJ (t.chars+u.chars):Int))).drewN i)):=fun i=>by
  have h1:=H3.out.1.setChars (xJ (t.chars+u.chars)) (zDY _);have h2:KeepO p (.slice (some ⟨gg,0,none⟩) (t.parts.length+1) cap) (.slice (some ⟨gg,0,none⟩) (t.parts.length+1) cap) w3 (w3.setCell ⟨p,7,none⟩ (.int .i64 (xJ (t.chars+u.chars):Int))):=⟨rfl,rfl,by rw[zC];omega,fun k _ h2 h3=>⟨lJ _ _ _ _ h2,h3⟩⟩
  have h3:=H3.out.2.trans h2;exact⟨⟨h1.blk,h1.set,zD h1.own fun g _ _ _=>rfl,h1.len,fun i hi=>(h1.parts i hi).go ⟨rfl,rfl,lQ,fun _ _ _=>rfl⟩,h1.pH,h1.lt,h1.small⟩,⟨h3.os,h3.output,h3.size,h3.block⟩⟩
 clear H3 HT HU hsm;go_region_with ((go_at_call 195;go_must ((refine (HBD.out _).mono ?_;rintro e w5 ⟨rfl,rfl⟩))))
 all_goals
  go_end0;exact⟨rfl,_,_,HN.out _⟩
theorem zIC (w:World)(X:Nat->Prop)(d p:Nat)(t:Tr)(h:TreeIn X w d p t)(hc:t.chars<=25)(o:Tm)(ho:o.least<=300∧o.most<=300):
  Calls prog 199 #[.pointer (some ⟨p,0,none⟩),.agg #[.int .i64 (o.least:Int),.int .i64 (o.most:Int),.bool o.endless]] w fun e w'=>∃p',e=.returned (.pointer (some ⟨p',0,none⟩))∧TreeIn (fun i=>(X i∧i<w.heap.size)∨w.heap.size<=i) w' (d+1) p' (zBy t o)∧Grew w w':=by
 obtain⟨i0,hi0,hz0,hz1,hz2⟩:=info_parts zDR;have hC:o.copies<=301:=by
  unfold Tm.copies;split
  ·split <;> omega
  ·omega
 obtain⟨w1,hw1,y0,y1,y2,K1⟩:∃w1,w1=w.alloc (.cells #[.int .i64 (o.least:Int),.int .i64 (o.most:Int),.bool o.endless] 163)∧w1.cell? ⟨w.heap.size,0,none⟩=some (.int .i64 (o.least:Int))∧w1.cell? ⟨w.heap.size,1,none⟩=some (.int .i64 (o.most:Int))∧w1.cell? ⟨w.heap.size,2,none⟩=some (.bool o.endless)∧Hid (Grew w w1∧w1.heap.size=w.heap.size+1):=by
  have hb:=gG w (.cells #[.int .i64 (o.least:Int),.int .i64 (o.most:Int),.bool o.endless] 163);refine⟨_,rfl,?_,?_,?_,kZ _ _ lQ,by simp⟩
  all_goals (unfold cell?;rw[hb];rfl)
 have hpl:p<w.heap.size:=by
  cases d with
  |zero=>exact False.elim h.at
  |succ d=>exact h.at.1
 have y7:w1.cell? ⟨p,7,none⟩=some (.int .i64 (t.chars:Int)):=(cell?_of_block (K1.out.1.block p hpl (by omega))).trans h.chars;have HCP:Hid (∀w',Grew w1 w'->Calls prog 165 #[.agg #[.int .i64 (o.least:Int),.int .i64 (o.most:Int),.bool o.endless]] w' fun x w2=>x=.returned (.int .i64 (o.copies:Int))∧Grew w1 w2∧w2.cell? ⟨w.heap.size,0,none⟩=some (.int .i64 (o.least:Int))∧w2.cell? ⟨w.heap.size,1,none⟩=some (.int .i64 (o.most:Int))∧w2.cell? ⟨w.heap.size,2,none⟩=some (.bool o.endless)∧w2.cell? ⟨p,7,none⟩=some (.int .i64 (t.chars:Int))):=fun w' hk=>by
  refine(zDo w' o.least o.most o.endless).mono ?_;rintro x w2 ⟨rfl,hk2⟩;have hs:=K1.out.2;have hk3:Grew w1 w2:=hk.trans (hk2.lower hk.size hk.size);exact⟨rfl,hk3,zA y0 (by show w.heap.size<w1.heap.size;omega) hk3,zA y1 (by show w.heap.size<w1.heap.size;omega) hk3,zA y2 (by show w.heap.size<w1.heap.size;omega) hk3,zA y7 (by show p<w1.heap.size;omega) hk3⟩
 have hm0:(0:Int)<=(t.chars:Int)*(o.copies:Int):=Int.mul_nonneg (by omega) (by omega);have hm1:(t.chars:Int)*(o.copies:Int)<=25*301:=by
  rw[<-Int.natCast_mul];have:=Nat.mul_le_mul hc hC;omega
 have HWR:Hid (IntKind.i64.wrap ((t.chars:Int)*(o.copies:Int))=(t.chars:Int)*(o.copies:Int)):=zAQ _ (by omega) (by omega);have HBD:Hid (∀w,Calls prog 195 #[.int .i64 (IntKind.i64.wrap ((t.chars:Int)*(o.copies:Int)))] w fun e w'=>e=.returned (.int .i64 (xJ (t.chars*o.copies):Int))∧w'=w):=fun w=>by
  have:=zCB w (t.chars*o.copies);rw[show ((t.chars*o.copies:Nat):Int)=(t.chars:Int)*(o.copies:Int) by rw[Int.natCast_mul]] at this;rw[HWR.out];exact this
 have HA:Hid (zBy t o=Tr.plain ⟨4,⟨[],false⟩,[t],o.least,o.most,o.endless,xJ (t.chars*o.copies)⟩):=rfl;have HBL:Hid (xJ (t.chars*o.copies)<=25):=zDY _;have HT:=vl h;clear h hC;generalize xJ (t.chars*o.copies)=bn at *;generalize o.copies=C at *;generalize zBy t o=ag at *;go_in;apply wp_cut;intro K0 J;go_wp2;apply J.out;clear J;rw[<-hw1];clear hw1 hpl;apply wp_cut;intro K0 J;go_region_held3 (fun w'=>w'.cell? ⟨w.heap.size,0,none⟩=some (.int .i64 (o.least:Int))∧w'.cell? ⟨w.heap.size,1,none⟩=some (.int .i64 (o.most:Int))∧w'.cell? ⟨w.heap.size,2,none⟩=some (.bool o.endless)∧w'.cell? ⟨p,7,none⟩=some (.int .i64 (t.chars:Int))) (first|exact⟨z0,z1,z2,z3⟩|go_keep) (first|(go_at_call 165;go_must ((refine (HCP.out w1.drew (Keep.alike (w':=w1.drew) ⟨rfl,rfl,rfl⟩)).mono ?_;rintro x w3 ⟨rfl,hk3,z0,z1,z2,z3⟩)))|(go_at_call 195;go_must ((refine (HBD.out _).mono ?_;rintro x w4 ⟨rfl,hw4⟩;have hw5:=hw4.symm;subst hw5))));show K0 _ _;apply J.out;clear J;have HY:Hid (Grew w w3∧w.heap.size+1<=w3.heap.size):=⟨K1.out.1.trans (hk3.lower K1.out.1.size K1.out.1.size),by have:=K1.out.2;have:=hk3.size;omega⟩
 obtain⟨P,hP⟩:∃P,P=w3.heap.size:=⟨_,rfl⟩
 obtain⟨w4,hw4,H4,HK4⟩:∃w4,w4=w3.alloc (.cells #[.int .i64 4,.slice none 0 0,.bool false,.slice none 0 0,.int .i64 (o.least:Int),.int .i64 (o.most:Int),.bool o.endless,.int .i64 (bn:Int)] 165)∧Tw w4 (fun i=>(X i∧i<w.heap.size)∨w.heap.size<=i) (P+1) P d (.slice none 0 0) [] ⟨4,⟨[],false⟩,[],o.least,o.most,o.endless,bn⟩∧Hid (Grew w w4∧TreeIn (fun j=>((X j∧j<w.heap.size)∨w.heap.size<=j)∧j≠P∧some j≠(Value.slice none 0 0).ownBlock) w4 d p t∧w.heap.size+1<=P):=by
  have hk4:Grew w (w3.alloc (.cells #[.int .i64 4,.slice none 0 0,.bool false,.slice none 0 0,.int .i64 (o.least:Int),.int .i64 (o.most:Int),.bool o.endless,.int .i64 (bn:Int)] 165)):=HY.out.1.trans (kZ _ _ (by have:=HY.out.2;omega));have hb:=gG w3 (.cells #[.int .i64 4,.slice none 0 0,.bool false,.slice none 0 0,.int .i64 (o.least:Int),.int .i64 (o.most:Int),.bool o.endless,.int .i64 (bn:Int)] 165);rw[<-hP] at hb;have h5:=HY.out.2;refine⟨_,rfl,⟨hb,rfl,ownsRow_nil _ _ _ _,rfl,fun i hi=>absurd hi (Nat.not_lt_zero _),by omega,by rw[hP];simp,⟨by show 0<=_;omega,by show o.least<=_;omega,by show o.most<=_;omega,HBL.out⟩⟩,hk4,?_,by rw[hP];exact h5⟩;exact HT.out.step (hk4.agree fun i hi _=>⟨hi,by omega⟩) fun i hi hx=>⟨.inl ⟨hx,hi⟩,by omega,by simp[Value.ownBlock]⟩
 rw[<-hP,<-hw4];have HP:=vl hP;clear hw4 hP HT hk3 HY K1 HCP HBD HWR z0 z1 z2 z3 y0 y1 y2 y7;obtain⟨x3,-,xf⟩:=H4.cells;have xf3:=xf 3;have OW:w4.ownsRow (P+1) 158 1 (.slice none 0 0) 0 (xT []):=H4.own;have hlt:P<w4.heap.size:=H4.lt;have HT4:=vl H4;clear H4 xf HP;apply wp_cut;intro K0 J;go_wp2_with (first|(at_builtin;refine wpList_append_lies _ rfl _ _ 118 rfl (P+1) 158 i0 (.pointer none) 1 8 underlying118 hi0 hz0 hz1 hz2 rfl (by decide) _ _ _ rfl (OW.alloc _) ⟨w4.heap.size,0,none⟩ 1 1 [.pointer (some ⟨p,0,none⟩)] rfl rfl (cell_one_new _ _ _) (by intro u hu;simp at hu;subst hu;rfl) (by decide) (by unfold maxLen;omega) (by omega) (by simp;omega) _ rfl ?_;intro gg cap w5 hown hgrow hat hlt2;have hPB:=hgrow.block P (by simp;omega) (by intro e;cases e);have x3b:w5.cell? ⟨P,3,none⟩=some (.slice none 0 0):=(cell?_of_block hPB).trans ((cell?_alloc_past _ _ _ hlt).trans x3);have xf3b:w5.frozen? ⟨P,3,none⟩=false:=(frozen?_of_block hPB).trans ((frozen?_alloc_past _ _ _ hlt).trans xf3)))
 apply J.out;clear J;obtain⟨w6,hw6,H6⟩:∃w6,w6=w5.setCell ⟨P,3,none⟩ (.slice (some ⟨gg,0,none⟩) 1 cap)∧Hid (Tw w6 (fun i=>(X i∧i<w.heap.size)∨w.heap.size<=i) (P+1) P d (.slice (some ⟨gg,0,none⟩) 1 cap) [p] ⟨4,⟨[],false⟩,[t],o.least,o.most,o.endless,bn⟩∧KeepO P (.slice none 0 0) (.slice (some ⟨gg,0,none⟩) 1 cap) w4 w6):=⟨_,rfl,HT4.out.app (m:=0) (q:=p) (u:=t) rfl (by omega) HK4.out.2.1 hown hgrow (by rcases hat with ha|ha;exact .inl ha;right;rw[ha];simp)⟩
 rw[<-hw6];clear hw6 hown hgrow hat hlt2 hPB x3b xf3b OW x3 xf3;have HPL:Hid (Calls prog 190 #[.pointer (some ⟨P,0,none⟩)] w6 fun e w'=>∃p',e=.returned (.pointer (some ⟨p',0,none⟩))∧TreeIn (fun i=>(X i∧i<w.heap.size)∨w.heap.size<=i) w' (d+1) p' ag∧Grew w w'):=by
  have hP:=HK4.out.2.2;have h4:=HK4.out.1;have hk6:Keep (P+1) P w4 w6:=H6.out.2.keep HT4.out.own HT4.out.lt;refine(zEb w6 _ (d+1) P _ (H6.out.1.in (.inr (by omega)) fun j hj=>.inr (by omega))).mono ?_;rintro e w7 ⟨p',rfl,ht,hk7⟩;have hs6:=hk6.size;have hs4:=h4.size;refine⟨p',rfl,?_,h4.trans (Keep.trans (w':=w6) ⟨hk6.os,hk6.output,hk6.size,fun k h1 _=>hk6.block k (by omega) (by omega)⟩ (hk7.lower (by omega) (by omega)))⟩;rw[HA.out];exact ht.mono fun i _ hx=>by
   rcases hx with hx|hx
   ·exact hx.1
   ·exact .inr (by omega)
 clear H6 HT4 HK4 HA;go_wp2_with (first|(go_at_call 190;refine HPL.out.mono ?_;rintro e w7 ⟨p',rfl,ht7,hk7⟩))
 go_ret;exact⟨p',rfl,ht7,hk7⟩
end Go.Proofs.YtbjcfkdnjaiclaaGreat
