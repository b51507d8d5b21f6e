import Derived.Deep.DrawnRows
import Derived.Deep.RegionLaw
import Derived.Laws.OwnMore
import Derived.Test.YtbjcfkdnjaiclaaGreatA0
import Derived.Test.YtbjcfkdnjaiclaaGreatA7
import Derived.Test.YtbjcfkdnjaiclaaGreatA8
/- Parts of the proof. -/
set_option linter.unusedVariables false
set_option linter.unusedSimpArgs false
set_option maxHeartbeats 4000000
set_option maxRecDepth 100000
namespace Go.Proofs.YtbjcfkdnjaiclaaGreat
open Go.RowKit Go.Proofs.Tryz Go.World
open Go.Value (int slice bool pointer string agg tuple)
open Go.IntKind (i64)
open Go.Ending (returned)
section
section
variable {w:World} {b:Nat} {s:ByteArray} {dv:Value} {r:Rx}
theorem RxAt.setDepth (h:RxAt w b s dv r)(n:Nat):RxAt (w.setCell ⟨b,3,none⟩ (int i64 (n:Int))) b s dv {r with depth:=n}:=by
 unfold RxAt at *;simp[setCell,lU,h]
theorem RxAt.setBoth (h:RxAt w b s dv r)(x:Bool):RxAt (w.setCell ⟨b,4,none⟩ (bool x)) b s dv {r with both:=x}:=by
 unfold RxAt at *;simp[setCell,lU,h]
end
theorem zNC (X:Nat->Prop)(b:Nat)(s:ByteArray)(dv:Value)(D:Nat)(w:World)(r:Rx)(h:RxAt w b s dv r)(hdp:r.depth=8):Calls prog 201 #[pointer (some ⟨b,0,none⟩)] w (TrAns w X b s dv r D (none)):=by
 obtain⟨-,-,-,c3,-,-⟩:=h.cells;rw[hdp] at c3;have c3b:=c3;have HR:=vl h;go_in;go_wp2;refine dZ (results_tmp2 rfl _ _ _) rfl ?_;exact⟨Keep.refl _ _ _,none,r.at_,rfl,HR.out⟩
theorem zMJ (X:Nat->Prop)(b:Nat)(s:ByteArray)(dv:Value)(hs:s.size<=1048576)(D:Nat)(w:World)(r:Rx)(h:RxAt w b s dv r)(hdp:r.depth<=7)(ha:r.at_<=s.size)(h0:zJ s r.at_ ⟨#[40,41]⟩=true):Calls prog 201 #[pointer (some ⟨b,0,none⟩)] w (TrAns w X b s dv r D (some (Tr.none,r.at_+2))):=by
 obtain⟨-,-,-,c3,-,-⟩:=h.cells;have HLB:=vl h.lt;have i8:(r.depth:Int)<8:=by omega
 have HT0:=vl (zAb (r:=r) (x:=r.at_) (y:=r.at_+2) ⟨#[40,41]⟩ hs (by omega) (by decide) h0 rfl h);go_in;go_wp2_with (first|(go_at_call 189;refine HT0.out.mono ?_;rintro e w1 ⟨rfl,hR1,hk1⟩))
 refine dZ (results_tmp2 rfl _ _ _) rfl ?_;have hb:=HLB.out;have hz:=(hk1 0).size;refine⟨(hk1 _).trans (kZ _ _ hz),_,rfl,?_,RxAt.of_block hR1 (lG _ _ _ (by omega))⟩;rw[show D+4*(r.at_+2)=D+4*r.at_+7+1 by omega];exact zIn (gJ _ _) (.inr hz)
def zNN (s:ByteArray):Option (Tr×Nat)->Option (Tr×Nat)
 |none=>none
 |some (t,q)=>if zJ s q ⟨#[41]⟩ then some (t,q+1) else none
theorem zOJ (X:Nat->Prop)(b:Nat)(s:ByteArray)(dv:Value)(hs:s.size<=1048576)(hH:∀i,X i->i<b)(D:Nat)(w:World)(r:Rx)(h:RxAt w b s dv r)(hdp:r.depth<=7)(ha:r.at_<s.size)(h0:zJ s r.at_ ⟨#[40,41]⟩=false)(h1:zJ s r.at_ ⟨#[40,105,58]⟩=true)(m:Option (Tr×Nat))(hsub:∀w4,RxAt w4 b s dv ⟨r.at_+3,r.depth+1,true⟩->Keep w.heap.size b w w4->Calls prog 182 #[pointer (some ⟨b,0,none⟩)] w4 (TrAns w4 X b s dv ⟨r.at_+3,r.depth+1,true⟩ (D+2) m))(hq:∀t q,m=some (t,q)->q<=s.size):Calls prog 201 #[pointer (some ⟨b,0,none⟩)] w (TrAns w X b s dv r D (zNN s m)):=by
 obtain⟨-,-,-,c3,c4,-⟩:=h.cells;have HLB:=vl h.lt;have i8:(r.depth:Int)<8:=by omega
 have HT0:=vl (zAb (r:=r) (x:=r.at_) (y:=r.at_) ⟨#[40,41]⟩ hs (by omega) (by decide) h0 rfl h);have HT1:=zIW (b:=b) (dv:=dv) (r:=r) (y:=r.at_+3) h1 hs (by omega) (by decide) rfl;have HSB:=vl hsub;have HQ:=vl hq;go_in;apply wp_cut;intro K0 J;go_wp2;apply J.out;apply wp_cut;intro K0 J;go_wp2;apply J.out;apply wp_cut;intro K0 J;go_wp2_with (first|(go_at_call 189;refine HT0.out.mono ?_;rintro e w1 ⟨rfl,hR1,hk1⟩))
 apply J.out;have d4:w1.cell? ⟨b,4,none⟩=some (bool r.both):=hR1.cells.2.2.2.2.1;clear c3 c4;apply wp_cut;intro K0 J;go_wp2;apply J.out;clear J;clear d4;apply wp_cut;intro K0 J;go_wp2_with (first|(go_at_call 189;refine(HT1.out w1 hR1).mono ?_;rintro e w2 ⟨rfl,hR2,hk2⟩;have d4:w2.cell? ⟨b,4,none⟩=some (bool r.both):=hR2.cells.2.2.2.2.1;have f4:=hR2.cells.2.2.2.2.2 4))
 apply J.out;clear J;obtain⟨w3,hw3,hR3,hk3⟩:∃w3,w3=w2.setCell ⟨b,4,none⟩ (bool true)∧RxAt w3 b s dv ⟨r.at_+3,r.depth,true⟩∧Hid (Keep w.heap.size b w w3):=⟨_,rfl,hR2.setBoth true,((hk1 _).trans (hk2 _)).trans (Keep.set _ _ _)⟩
 rw[<-hw3];clear hw3 hR1 hR2 hk1 hk2 d4 f4;have d3:w3.cell? ⟨b,3,none⟩=some (int i64 (r.depth:Int)):=hR3.cells.2.2.2.1;have f3:=hR3.cells.2.2.2.2.2 3;apply wp_cut;intro K0 J;go_wp2;apply J.out;clear J;obtain⟨w4,hw4,hR4,hk4⟩:∃w4,w4=w3.setCell ⟨b,3,none⟩ (int i64 ((r.depth:Int)+1))∧RxAt w4 b s dv ⟨r.at_+3,r.depth+1,true⟩∧Hid (Keep w.heap.size b w w4):=⟨_,rfl,hR3.setDepth (r.depth+1),hk3.out.trans (Keep.set _ _ _)⟩
 rw[<-hw4];clear hw4 hR3 hk3 d3 f3;have HEJ:=vl (HSB.out w4 hR4 hk4.out);clear HSB;apply wp_cut;intro K0 J;go_wp2_with (first|(go_at_call 182;refine HEJ.out.mono ?_;rintro e w5 ha5;obtain⟨v,q,kk,rfl,hR5,HH⟩:=TrAns.any ha5;clear ha5))
 apply J.out;clear J;have d3:w5.cell? ⟨b,3,none⟩=some (int i64 ((r.depth:Int)+1)):=hR5.cells.2.2.2.1;have f3:=hR5.cells.2.2.2.2.2 3;apply wp_cut;intro K0 J;go_wp2;apply J.out;clear J;obtain⟨w6,hw6,hR6,HK6⟩:∃w6,w6=w5.setCell ⟨b,3,none⟩ (int i64 (r.depth:Int))∧RxAt w6 b s dv ⟨q,r.depth,true⟩∧Hid (∀H,Keep H b w5 w6):=⟨_,rfl,hR5.setDepth r.depth,fun H=>Keep.set _ _ _⟩
 rw[<-hw6];clear hw6 d3 f3 hR5;have d4:w6.cell? ⟨b,4,none⟩=some (bool true):=hR6.cells.2.2.2.2.1;have f4:=hR6.cells.2.2.2.2.2 4;apply wp_cut;intro K0 J;go_wp2;apply J.out;clear J;obtain⟨w7,hw7,hR7,HK7⟩:∃w7,w7=w6.setCell ⟨b,4,none⟩ (bool r.both)∧RxAt w7 b s dv {r with at_:=q}∧Hid (∀H,Keep H b w5 w7):=⟨_,rfl,hR6.setBoth r.both,fun H=>(HK6.out H).trans (Keep.set _ _ _)⟩
 rw[<-hw7];clear hw7 d4 f4 hR6 HK6;obtain⟨hk5,hkk⟩:=HH.out;have HKA:Hid (Keep w.heap.size b w w7):=by
  have h1:=hk4.out.size;exact(hk4.out.trans ⟨hk5.os,hk5.output,hk5.size,fun k h1 h2=>hk5.block k (by omega) h2⟩).trans (HK7.out _)
 rcases hkk with⟨rfl,rfl⟩|⟨rfl,p,t,rfl,rfl,ht5⟩
 ·clear hk5 HK7 hk4 hR4 HH
  go_wp2;refine dZ (results_tmp2 rfl _ _ _) rfl ?_;exact⟨HKA.out,none,q,rfl,hR7⟩
 have HTR:Hid (∀w8,(∀H,Keep H b w7 w8)->TreeIn (fun i=>X i∨w.heap.size<=i) w8 (D+4*(q+1)) p t):=fun w8 hk8=>by
  have hb:=HLB.out;have h1:=hk4.out.size;refine(((ht5.go ((HK7.out w5.heap.size).agree fun i hi hx=>⟨hi,by rcases hx with hx|hx;exact kJ (hH i hx);omega⟩)).go ((hk8 w7.heap.size).agree fun i hi hx=>⟨hi,by rcases hx with hx|hx;exact kJ (hH i hx);omega⟩)).mono fun i _ hx=>?_).deep (by omega);rcases hx with hx|hx
  ·exact .inl hx
  ·exact .inr (by omega)
 have hq:=HQ.out t q rfl;clear ht5 hk5 HK7 hk4 hR4 HH;show Code.wp _ _ (bodyPost _ _ (TrAns w X b s dv r D (if zJ s q ⟨#[41]⟩ then some (t,q+1) else none))) _ _;cases h2:zJ s q ⟨#[41]⟩ with
 |true=>
  go_wp2_with (first|(go_at_call 189;refine(zAb (r:=r) (x:=q) (y:=q+1) ⟨#[41]⟩ hs (by omega) (by decide) h2 rfl hR7).mono ?_;rintro e w8 ⟨rfl,hR8,hk8⟩))
  refine dZ (results_tmp2 rfl _ _ _) rfl ?_;exact⟨HKA.out.trans (hk8 _),p,rfl,HTR.out w8 hk8,hR8⟩
 |false=>
  go_wp2_with (first|(go_at_call 189;refine(zAb (r:=r) (x:=q) (y:=q) ⟨#[41]⟩ hs (by omega) (by decide) h2 rfl hR7).mono ?_;rintro e w8 ⟨rfl,hR8,hk8⟩))
  refine dZ (results_tmp2 rfl _ _ _) rfl ?_;exact⟨HKA.out.trans (hk8 _),none,q,rfl,hR8⟩
theorem zOI (X:Nat->Prop)(b:Nat)(s:ByteArray)(dv:Value)(hs:s.size<=1048576)(hH:∀i,X i->i<b)(D:Nat)(w:World)(r:Rx)(h:RxAt w b s dv r)(hdp:r.depth<=7)(ha:r.at_<s.size)(h0:zJ s r.at_ ⟨#[40,41]⟩=false)(h1:zJ s r.at_ ⟨#[40,105,58]⟩=false)(m:Option (Tr×Nat))(hsub:∀w4,RxAt w4 b s dv ⟨r.at_+1,r.depth+1,r.both⟩->Keep w.heap.size b w w4->Calls prog 182 #[pointer (some ⟨b,0,none⟩)] w4 (TrAns w4 X b s dv ⟨r.at_+1,r.depth+1,r.both⟩ (D+2) m))(hq:∀t q,m=some (t,q)->q<=s.size):Calls prog 201 #[pointer (some ⟨b,0,none⟩)] w (TrAns w X b s dv r D (zNN s m)):=by
 obtain⟨-,-,-,c3,c4,-⟩:=h.cells;have HLB:=vl h.lt;have i8:(r.depth:Int)<8:=by omega
 have HT0:=vl (zAb (r:=r) (x:=r.at_) (y:=r.at_) ⟨#[40,41]⟩ hs (by omega) (by decide) h0 rfl h);have HT1:=zIW (b:=b) (dv:=dv) (r:=r) (y:=r.at_) h1 hs (by omega) (by decide) rfl;have HSB:=vl hsub;have HQ:=vl hq;go_in;apply wp_cut;intro K0 J;go_wp2;apply J.out;apply wp_cut;intro K0 J;go_wp2;apply J.out;apply wp_cut;intro K0 J;go_wp2_with (first|(go_at_call 189;refine HT0.out.mono ?_;rintro e w1 ⟨rfl,hR1,hk1⟩))
 apply J.out;have d4:w1.cell? ⟨b,4,none⟩=some (bool r.both):=hR1.cells.2.2.2.2.1;clear c3 c4;apply wp_cut;intro K0 J;go_wp2;apply J.out;clear J;clear d4;apply wp_cut;intro K0 J;go_wp2_with (first|(go_at_call 189;refine(HT1.out w1 hR1).mono ?_;rintro e w2 ⟨rfl,hR2,hk2⟩;have d2:w2.cell? ⟨b,2,none⟩=some (int i64 (r.at_:Int)):=hR2.cells.2.2.1;have f2:=hR2.cells.2.2.2.2.2 2))
 apply J.out;clear J;obtain⟨w3,hw3,hR3,hk3⟩:∃w3,w3=w2.setCell ⟨b,2,none⟩ (int i64 ((r.at_:Int)+1))∧RxAt w3 b s dv ⟨r.at_+1,r.depth,r.both⟩∧Hid (Keep w.heap.size b w w3):=⟨_,rfl,hR2.setAt (r.at_+1),((hk1 _).trans (hk2 _)).trans (Keep.set _ _ _)⟩
 rw[<-hw3];clear hw3 hR1 hR2 hk1 hk2 d2 f2;have d3:w3.cell? ⟨b,3,none⟩=some (int i64 (r.depth:Int)):=hR3.cells.2.2.2.1;have f3:=hR3.cells.2.2.2.2.2 3;apply wp_cut;intro K0 J;go_wp2;apply J.out;clear J;obtain⟨w4,hw4,hR4,hk4⟩:∃w4,w4=w3.setCell ⟨b,3,none⟩ (int i64 ((r.depth:Int)+1))∧RxAt w4 b s dv ⟨r.at_+1,r.depth+1,r.both⟩∧Hid (Keep w.heap.size b w w4):=⟨_,rfl,hR3.setDepth (r.depth+1),hk3.out.trans (Keep.set _ _ _)⟩
 rw[<-hw4];clear hw4 hR3 hk3 d3 f3;have HEJ:=vl (HSB.out w4 hR4 hk4.out);clear HSB;apply wp_cut;intro K0 J;go_wp2_with (first|(go_at_call 182;refine HEJ.out.mono ?_;rintro e w5 ha5;obtain⟨v,q,kk,rfl,hR5,HH⟩:=TrAns.any ha5;clear ha5))
 apply J.out;clear J;have d3:w5.cell? ⟨b,3,none⟩=some (int i64 ((r.depth:Int)+1)):=hR5.cells.2.2.2.1;have f3:=hR5.cells.2.2.2.2.2 3;apply wp_cut;intro K0 J;go_wp2;apply J.out;clear J;obtain⟨w6,hw6,hR6,HK6⟩:∃w6,w6=w5.setCell ⟨b,3,none⟩ (int i64 (r.depth:Int))∧RxAt w6 b s dv ⟨q,r.depth,r.both⟩∧Hid (∀H,Keep H b w5 w6):=⟨_,rfl,hR5.setDepth r.depth,fun H=>Keep.set _ _ _⟩
 rw[<-hw6];clear hw6 d3 f3 hR5;have d4:w6.cell? ⟨b,4,none⟩=some (bool r.both):=hR6.cells.2.2.2.2.1;have f4:=hR6.cells.2.2.2.2.2 4;apply wp_cut;intro K0 J;go_wp2;apply J.out;clear J;obtain⟨w7,hw7,hR7,HK7⟩:∃w7,w7=w6.setCell ⟨b,4,none⟩ (bool r.both)∧RxAt w7 b s dv {r with at_:=q}∧Hid (∀H,Keep H b w5 w7):=⟨_,rfl,hR6.setBoth r.both,fun H=>(HK6.out H).trans (Keep.set _ _ _)⟩
 rw[<-hw7];clear hw7 d4 f4 hR6 HK6;obtain⟨hk5,hkk⟩:=HH.out;have HKA:Hid (Keep w.heap.size b w w7):=by
  have h1:=hk4.out.size;exact(hk4.out.trans ⟨hk5.os,hk5.output,hk5.size,fun k h1 h2=>hk5.block k (by omega) h2⟩).trans (HK7.out _)
 rcases hkk with⟨rfl,rfl⟩|⟨rfl,p,t,rfl,rfl,ht5⟩
 ·clear hk5 HK7 hk4 hR4 HH
  go_wp2;refine dZ (results_tmp2 rfl _ _ _) rfl ?_;exact⟨HKA.out,none,q,rfl,hR7⟩
 have HTR:Hid (∀w8,(∀H,Keep H b w7 w8)->TreeIn (fun i=>X i∨w.heap.size<=i) w8 (D+4*(q+1)) p t):=fun w8 hk8=>by
  have hb:=HLB.out;have h1:=hk4.out.size;refine(((ht5.go ((HK7.out w5.heap.size).agree fun i hi hx=>⟨hi,by rcases hx with hx|hx;exact kJ (hH i hx);omega⟩)).go ((hk8 w7.heap.size).agree fun i hi hx=>⟨hi,by rcases hx with hx|hx;exact kJ (hH i hx);omega⟩)).mono fun i _ hx=>?_).deep (by omega);rcases hx with hx|hx
  ·exact .inl hx
  ·exact .inr (by omega)
 have hq:=HQ.out t q rfl;clear ht5 hk5 HK7 hk4 hR4 HH;show Code.wp _ _ (bodyPost _ _ (TrAns w X b s dv r D (if zJ s q ⟨#[41]⟩ then some (t,q+1) else none))) _ _;cases h2:zJ s q ⟨#[41]⟩ with
 |true=>
  go_wp2_with (first|(go_at_call 189;refine(zAb (r:=r) (x:=q) (y:=q+1) ⟨#[41]⟩ hs (by omega) (by decide) h2 rfl hR7).mono ?_;rintro e w8 ⟨rfl,hR8,hk8⟩))
  refine dZ (results_tmp2 rfl _ _ _) rfl ?_;exact⟨HKA.out.trans (hk8 _),p,rfl,HTR.out w8 hk8,hR8⟩
 |false=>
  go_wp2_with (first|(go_at_call 189;refine(zAb (r:=r) (x:=q) (y:=q) ⟨#[41]⟩ hs (by omega) (by decide) h2 rfl hR7).mono ?_;rintro e w8 ⟨rfl,hR8,hk8⟩))
  refine dZ (results_tmp2 rfl _ _ _) rfl ?_;exact⟨HKA.out.trans (hk8 _),none,q,rfl,hR8⟩
theorem zFZ (X:Nat->Prop)(b:Nat)(s:ByteArray)(dv:Value)(hs:s.size<=1048576)(hH:∀i,X i->i<b)(D:Nat)(defs:List (ByteArray×Tr))(k:Nat)(sub:Reads)(hq:∀both,zB2 s (D+2) fun p=>sub p both)(hsub:zAw 182 X b s dv D defs (D+2) k sub)(w:World)(r:Rx)(h:RxAt w b s dv r)(hD:DefsIn b X w D dv defs)(hk:r.depth+(k+1)=8)(ha:byt s r.at_=40):
  Calls prog 201 #[pointer (some ⟨b,0,none⟩)] w (TrAns w X b s dv r D (brM s (k+1) sub r.at_ r.both)):=by
 have hin:r.at_<s.size:=zBX (by omega);have hlb:=h.lt;have hdf:∀w4,Keep w.heap.size b w w4->DefsIn b X w4 D dv defs:=fun w4 hk4=>hD.go hH (hk4.agree fun i hi hx=>⟨hi,kJ hx⟩);unfold brM;rw[if_neg (by omega)];cases h0:zJ s r.at_ ⟨#[40,41]⟩ with
 |true=>exact zMJ X b s dv hs D w r h (by omega) (by omega) h0
 |false=>
 rw[if_neg (by decide)];cases h1:zJ s r.at_ ⟨#[40,105,58]⟩ with
 |true=>exact zOJ X b s dv hs hH D w r h (by omega) hin h0 h1 _ (fun w4 h4 k4=>hsub w4 _ h4 (hdf w4 k4) (by show r.depth+1+k=8;omega) (vC h1:r.at_+3<=s.size)) fun t q hm=>(hq _ _ _ _ hm).2.1
 |false=>exact zOI X b s dv hs hH D w r h (by omega) hin h0 h1 _ (fun w4 h4 k4=>hsub w4 _ h4 (hdf w4 k4) (by show r.depth+1+k=8;omega) (by show r.at_+1<=_;omega)) fun t q hm=>(hq _ _ _ _ hm).2.1
end
def ThW (w:World)(X:Nat->Prop)(b:Nat)(s:ByteArray)(dv:Value)(r:Rx)(D:Nat)(G:Option (Tr×Nat))(n:Nat)(v4 v5:Value)(wr:World):Prop:=
 (∃f pos t p,n=f∧v4=pointer (some ⟨p,0,none⟩)∧v5=bool true∧pos<=s.size∧s.size+1-pos<=f∧zBf s f pos t=G∧TreeIn (fun i=>X i∨w.heap.size<=i) wr (D+4*pos) p t∧TrOk (D+4*pos) t∧RxAt wr b s dv {r with at_:=pos}∧Keep w.heap.size b w wr)∨
 (∃x pos,v4=pointer x∧v5=bool false∧G=none∧n=0∧RxAt wr b s dv {r with at_:=pos}∧Keep w.heap.size b w wr)
theorem zKC (w:World)(x y:Value)(z:Bool):∃wa,wa=w.alloc (.cells #[x,y,bool z] 163)∧wa.cell? ⟨w.heap.size,0,none⟩=some x∧wa.cell? ⟨w.heap.size,1,none⟩=some y∧wa.cell? ⟨w.heap.size,2,none⟩=some (bool z)∧Hid (∀H b,H<=w.heap.size->Keep H b w wa):=by
 have hn:=gJ w (.cells #[x,y,bool z] 163);refine⟨_,rfl,?_,?_,?_,fun H b hH=>kZ _ _ hH⟩
 all_goals (unfold cell?;rw[hn];rfl)
def zNI (s:ByteArray):Option (Tr×Nat)->Option (Tr×Nat)
 |none=>none
 |some (t,q)=>zBf s (s.size+1) q t
theorem zNq {w:World}{b:Nat}{s:ByteArray}{dv:Value}{r:Rx}(h:RxAt w b s dv r)(hs:s.size<=1048576)(ha:r.at_<=s.size):Hid (Calls prog 198 #[pointer (some ⟨b,0,none⟩)] w fun e w'=>∃(o:Tm) (q:Nat) (k:Bool),e=returned (tuple #[agg #[int i64 (o.least:Int),int i64 (o.most:Int),bool o.endless],bool k])∧Hid (o.least<=300∧o.most<=300∧RxAt w' b s dv {r with at_:=q}∧Keep w.heap.size b w w'∧(k=true∧zDK s r.at_=some (o,q)∨k=false∧zDK s r.at_=none))):=by
 refine(zFk w b s dv r h hs ha).mono ?_;rintro e w' ⟨hk,ha⟩;cases hm:zDK s r.at_ with
 |none=>
  rw[hm] at ha;obtain⟨q,rfl,hR⟩:=ha;exact⟨⟨0,0,false⟩,q,false,rfl,lX,lX,hR,hk,.inr ⟨rfl,rfl⟩⟩
 |some g=>
  obtain⟨o,q⟩:=g;rw[hm] at ha;obtain⟨rfl,hR⟩:=ha;have:=zG8 s r.at_ o q hm;exact⟨o,q,true,rfl,this.2.2.1,this.2.2.2,hR,hk,.inl ⟨rfl,rfl⟩⟩
theorem zM0 (X:Nat->Prop)(b:Nat)(s:ByteArray)(dv:Value)(hs:s.size<=1048576)(hH:∀i,X i->i<b)(D:Nat)(w:World)(r:Rx)(h:RxAt w b s dv r)(a:Option (Tr×Nat))(hok:∀t q,a=some (t,q)->q<=s.size∧TrOk (D+4*q) t)(hB:Calls prog 196 #[pointer (some ⟨b,0,none⟩)] w (TrAns w X b s dv r D a)):
  Calls prog 193 #[pointer (some ⟨b,0,none⟩)] w (TrAns w X b s dv r D (zNI s a)):=by
 have HLB:=vl h.lt;have HBR:=vl hB;obtain⟨G,hG⟩:∃G,G=zNI s a:=⟨_,rfl⟩
 have HST:Hid (∀e w2,TrAns w X b s dv r D a e w2->∃v4 v5 M,e=returned (tuple #[v4,v5])∧ThW w X b s dv r D G M v4 v5 w2):=fun e w2 hans=>by
  cases a with
  |none=>
   obtain⟨hk2,v,q,rfl,hR2⟩:=hans;exact⟨_,_,0,rfl,.inr ⟨v,q,rfl,rfl,hG,rfl,hR2,hk2⟩⟩
  |some g=>
   obtain⟨t0,q0⟩:=g;obtain⟨hk2,p,rfl,ht2,hR2⟩:=hans;obtain⟨hq0,ht0⟩:=hok t0 q0 rfl;exact⟨_,_,s.size+1,rfl,.inl ⟨s.size+1,q0,t0,p,rfl,rfl,rfl,hq0,by omega,hG.symm,ht2,ht0,hR2,hk2⟩⟩
 rw[<-hG];go_in;apply wp_cut;intro K0 J;go_wp2;apply J.out;apply wp_cut;intro K0 J;go_wp2_with (first|(go_at_call 196;refine HBR.out.mono ?_;rintro e w2 ha;obtain⟨v4,v5,M,rfl,hb⟩:=HST.out e w2 ha;have HTW:=vl hb;clear ha hb))
 apply J.out;apply wp_cut;intro KL HKL;refine wp_block ?_;go_loopg [4,5] M (fun n v4 v5 wr=>ThW w X b s dv r D G n v4 v5 wr)
 case atStart=>exact HTW.out
 case round=>
  rcases hrel with⟨f,pos,t,p1,hgk,rfl,rfl,hpos,hf,hGo,hT,hOk,hR,hk⟩|⟨x,pos,rfl,rfl,hGn,-,hR,hk⟩
  ·cases f with
   |zero=>omega
   |succ f=>
   have HA:Hid (TreeIn (fun i=>X i∨w.heap.size<=i) wr (D+4*pos) p1 t∧TrOk (D+4*pos) t∧RxAt wr b s dv {r with at_:=pos}∧Keep w.heap.size b w wr∧gk=f+1∧w.heap.size<=wr.heap.size):=⟨hT,hOk,hR,hk,hgk,hk.size⟩
   have hGo2:(if zAP s pos then(match zDK s pos with|none=>none|some (o,q)=>zBf s f q (zBv t o)) else some (t,pos))=G:=hGo;have HIR:=vl <| zDG wr b s dv {r with at_:=pos} hR hs (by show pos<=_;omega);cases hrep:zAP s pos with
   |false=>
    rw[hrep] at hGo2 HIR;have HG2:=vl hGo2.symm;go_wp2_with (first|(go_at_call 197;refine HIR.out.mono ?_;rintro e w9 ⟨rfl,hw9⟩;have hw8:=hw9.symm;subst hw8))
    apply HKL.out;go_wp2;rw[HG2.out];refine dZ (results_tmp2 rfl _ _ _) rfl ?_;exact⟨HA.out.2.2.2.1,p1,rfl,HA.out.1,HA.out.2.2.1⟩
   |true=>
    rw[hrep] at hGo2 HIR;rw[if_pos rfl] at hGo2;have HG2:=vl hGo2;have HHO:=zNq HA.out.2.2.1 hs hpos;have HW:=vl fun o q h=>zG8 s pos o q h;clear hGo2 hrep;apply wp_cut;intro K1 HK1;go_wp2_with (first|(go_at_call 197;refine HIR.out.mono ?_;rintro e w9 ⟨rfl,hw9⟩;have hw8:=hw9.symm;subst hw8))
    apply HK1.out;clear HK1;refine wp_block ?_;apply wp_cut;intro K1 HK1;go_wp2_with (first|(go_at_call 198;refine HHO.out.mono ?_;rintro e wh ⟨o,q1,k,rfl,HH⟩))
    apply HK1.out;clear HK1 HHO;obtain⟨wa,hwa,z0,z1,z2,HKa⟩:=zKC wh (int i64 (o.least:Int)) (int i64 (o.most:Int)) o.endless;have HB:Hid (RxAt wa b s dv {r with at_:=q1}∧TreeIn (fun i=>X i∨w.heap.size<=i) wa (D+4*pos) p1 t∧Keep w.heap.size b w wa):=by
     obtain⟨-,-,hRh,hkh,-⟩:=HH.out;have hb:=HLB.out;have hz:=hkh.size;have hz2:=HA.out.2.2.2.2.2;have hka:Keep wr.heap.size b wr wa:=hkh.trans (HKa.out _ _ hz);refine⟨RxAt.of_block hRh ((HKa.out wh.heap.size wh.heap.size lQ).block b (by omega) (by omega)),HA.out.1.go (hka.agree fun i hi hx=>⟨hi,by rcases hx with hx|hx;exact kJ (hH i hx);omega⟩),HA.out.2.2.2.1.trans ⟨hka.os,hka.output,hka.size,fun k h1 h2=>hka.block k (by omega) h2⟩⟩
    have HAG:Hid (Ca 199 #[pointer (some ⟨p1,0,none⟩),agg #[int i64 (o.least:Int),int i64 (o.most:Int),bool o.endless]] wa fun e w'=>∃p',e=returned (pointer (some ⟨p',0,none⟩))∧TreeIn (fun i=>X i∨w.heap.size<=i) w' (D+4*pos+1) p' (zBv t o)∧RxAt w' b s dv {r with at_:=q1}∧Keep w.heap.size b w w'):=by
     have hb:=HLB.out;have hz2:=HB.out.2.2.size;refine(zIK wa _ _ p1 t HB.out.2.1 HA.out.2.1.few o ⟨HH.out.1,HH.out.2.1⟩).mono ?_;rintro e w4 ⟨p',rfl,ht,hk4⟩;refine⟨p',rfl,ht.mono fun i _ hx=>?_,RxAt.of_block HB.out.1 (hk4.block b (by omega) (by omega)),HB.out.2.2.trans (hk4.lower hz2 hz2)⟩;rcases hx with hx|hx
     ·exact hx.1
     ·exact .inr (by omega)
    rw[<-hwa];clear hwa HKa;go_wp2_with (first|(go_at_call 199;refine HAG.out.mono ?_;rintro e w4 ⟨p4,rfl,ht4,hR4,hk4⟩))
    go_roundg (if k then f else 0)
    case measure=>rw[HA.out.2.2.2.2.1];split <;> omega
    case rel=>
     rcases HH.out.2.2.2.2 with⟨rfl,hm⟩|⟨rfl,hm⟩
     ·have hg:=HG2.out
      rw[show zDK s pos=some (o,q1) from hm] at hg;have hw:=HW.out o q1 hm;exact .inl ⟨f,q1,_,p4,rfl,rfl,rfl,hw.2.1,by omega,hg,ht4.deep (by omega),(zIJ o HA.out.2.1).deep (by omega),hR4,hk4⟩
     ·have hg:=HG2.out
      rw[show zDK s pos=none from hm] at hg;exact .inr ⟨_,q1,rfl,rfl,hg.symm,rfl,hR4,hk4⟩
  ·have HA:Hid (RxAt wr b s dv {r with at_:=pos}∧Keep w.heap.size b w wr∧G=none):=⟨hR,hk,hGn⟩
   clear hR hk hGn;go_wp2;apply HKL.out;clear HKL;go_wp2;rw[HA.out.2.2];refine dZ (results_tmp2 rfl _ _ _) rfl ?_;exact⟨HA.out.2.1,x,pos,rfl,HA.out.1⟩
theorem zDW (X:Nat->Prop)(b:Nat)(s:ByteArray)(dv:Value)(hs:s.size<=1048576)(hH:∀i,X i->i<b)(D:Nat)(defs:List (ByteArray×Tr))(k:Nat)(sub:Reads)(hok:∀both,zB2 s D fun p=>zDl s defs k sub p both)(hat:zAw 196 X b s dv D defs D k (zDl s defs k sub)):
  zAw 193 X b s dv D defs D k (zDr s defs k sub):=fun w r h hD hk ha=>by
 have:=hat w r h hD hk ha;unfold zDr;exact zM0 X b s dv hs hH D w r h _ (fun t q hm=>(hok r.both r.at_ t q hm).2) this
theorem zJ0 {X:Nat->Prop}{b:Nat}{s:ByteArray}{dv:Value}{w:World}{r:Rx}(h:RxAt w b s dv r)(D kind:Nat)(ki:Int)(hki:ki=kind):∃w1,w1=w.alloc (.cells #[int i64 ki,slice none 0 0,bool false,slice none 0 0,int i64 0,int i64 0,bool false,int i64 0] 165)∧Hid (Tw w1 (fun i=>X i∨w.heap.size<=i) (w.heap.size+1) w.heap.size (D+4*r.at_) (slice none 0 0) [] (zC5 kind)∧RxAt w1 b s dv {r with at_:=r.at_}∧Keep w.heap.size b w w1):=by
 have hb:=h.lt;subst hki;refine⟨_,rfl,⟨gJ _ _,rfl,ownsRow_nil _ _ _ _,rfl,fun i hi=>absurd hi (Nat.not_lt_zero _),by omega,by simp,⟨by show 0<=_;omega,by show 0<=_;omega,by show 0<=_;omega,by show 0<=_;omega⟩⟩,RxAt.of_block h (lG _ _ _ hb),kZ _ _ lQ⟩
theorem zJ1 {X:Nat->Prop}{b:Nat}{s:ByteArray}{dv:Value}{w wr w2:World}{r:Rx}{D pos q p2:Nat}{sv:Value}{ps:List Nat}{t u:Tr}(hb:b<w.heap.size)(hH:∀i,X i->i<b)(hT:Tw wr (fun i=>X i∨w.heap.size<=i) (w.heap.size+1) w.heap.size (D+4*pos) sv ps t)(hk:Keep w.heap.size b w wr)(hk2:Keep wr.heap.size b wr w2)(ht2:TreeIn (fun i=>X i∨wr.heap.size<=i) w2 (D+4*q) p2 u)(hR2:RxAt w2 b s dv {r with at_:=q})(hq1:pos<q)(hu:TrOk (D+4*q) u)(hl:t.parts.length<=2000000):
  Hid (Ca 188 #[pointer (some ⟨w.heap.size,0,none⟩),pointer (some ⟨p2,0,none⟩)] w2 fun e w'=>e=returned (tuple #[])∧RxAt w' b s dv {r with at_:=q}∧Keep w.heap.size b w w'∧∃sv' ps',Tw w' (fun i=>X i∨w.heap.size<=i) (w.heap.size+1) w.heap.size (D+4*q) sv' ps' (t.add u)):=by
 have hz:=hk.size;have hl2:=hT.lt;have ho:∀g,some g=sv.ownBlock->w.heap.size+1<=g∧g<wr.heap.size:=fun g hg=>hT.own.lt g hg.symm;have h1:=(hT.keep hk2 (.inl (by omega)) (by omega) (fun _ hx=>by rcases hx with hx|hx;exact Nat.lt_irrefl _ (hH b hx);omega)).deep (show D+4*pos<=D+4*q by omega);have h2:TreeIn (fun j=>(X j∨w.heap.size<=j)∧j≠w.heap.size∧some j≠sv.ownBlock) w2 (D+4*q) p2 u:=ht2.mono fun i _ hx=>by
  rcases hx with hx|hx
  ·have hxb:=hH i hx
   exact⟨.inl hx,by omega,fun e=>by have:=(ho i e).1;omega⟩
  ·exact⟨.inr (by omega),by omega,fun e=>by have:=(ho i e).2;omega⟩
 refine(zF1 w2 _ _ _ _ sv ps t h1 p2 u h2 hu.few (by omega)).mono ?_;rintro e w3 ⟨rfl,sv',ps',hT3,hk3⟩;have hk4:=hk3.keep h1.own h1.lt;exact⟨rfl,RxAt.of_block hR2 (hk4.block b (by omega) (by omega)),(hk.trans ⟨hk2.os,hk2.output,hk2.size,fun k h1 h2=>hk2.block k (by omega) h2⟩).trans ⟨hk4.os,hk4.output,hk4.size,fun k h1 h2=>hk4.block k (by omega) (by omega)⟩,sv',ps',hT3⟩
theorem zF8 {X:Nat->Prop}{b:Nat}{s:ByteArray}{dv:Value}{w w3:World}{r:Rx}{D q:Nat}{sv:Value}{ps:List Nat}{t:Tr}(hb:b<w.heap.size)(hH:∀i,X i->i<b)(hT:Tw w3 (fun i=>X i∨w.heap.size<=i) (w.heap.size+1) w.heap.size (D+4*q) sv ps t)(hk:Keep w.heap.size b w w3):
  Hid (∀w4,RxAt w4 b s dv {r with at_:=q}->(∀H,Keep H b w3 w4)->Ca 190 #[pointer (some ⟨w.heap.size,0,none⟩)] w4 fun e w'=>∃p',e=returned (pointer (some ⟨p',0,none⟩))∧TreeIn (fun i=>X i∨w.heap.size<=i) w' (D+1+4*q) p' t.plain∧RxAt w' b s dv {r with at_:=q}∧Keep w.heap.size b w w'):=fun w4 hR4 hk4=>by
 have hl:=hT.lt;have hz:=(hk4 0).size;have hT4:=hT.keep (hk4 _) (.inl (by omega)) (by omega) (fun _ hx=>by rcases hx with hx|hx;exact Nat.lt_irrefl _ (hH b hx);omega);refine(zD2 w4 _ (D+4*q+1) w.heap.size _ (hT4.in (.inr lQ) fun j hj=>.inr (by omega))).mono ?_;rintro e w5 ⟨p',rfl,ht,hk5⟩;refine⟨p',rfl,?_,RxAt.of_block hR4 (hk5.block b (by omega) (by omega)),(hk.trans (hk4 _)).trans (hk5.lower (by omega) (by omega))⟩;rw[show D+1+4*q=D+4*q+1 by omega];exact ht.mono fun i _ hx=>by
  rcases hx with hx|hx
  ·exact hx.1
  ·exact .inr (by omega)
theorem zDY (X:Nat->Prop)(b:Nat)(s:ByteArray)(dv:Value)(hs:s.size<=1048576)(hH:∀i,X i->i<b)(D0 D:Nat)(defs:List (ByteArray×Tr))(k:Nat)(M:Reads)(hok:∀both,zB2 s D fun p=>M p both)(hth:zAw 193 X b s dv D0 defs D k M):
  zAw 187 X b s dv D0 defs (D+1) k (fun p both=>zBy s (fun q=>M q both) (s.size+1) p (zC5 2)):=fun w r h hD hdp ha=>by
 show Calls prog 187 #[pointer (some ⟨b,0,none⟩)] w (TrAns w X b s dv r (D+1) (zBy s (fun q=>M q r.both) (s.size+1) r.at_ (zC5 2)));have HLB:=vl h.lt;have HTH:Hid (∀wr pos,RxAt wr b s dv {r with at_:=pos}->Keep w.heap.size b w wr->pos<=s.size->Ca 193 #[pointer (some ⟨b,0,none⟩)] wr (TrAns wr X b s dv {r with at_:=pos} D (M pos r.both))):=fun wr pos hR hk hp=>hth wr {r with at_:=pos} hR (hD.go hH (hk.agree fun i hi hx=>⟨hi,kJ hx⟩)) hdp hp;have HOK:=vl (hok r.both);obtain⟨G,hG⟩:∃G,G=zBy s (fun q=>M q r.both) (s.size+1) r.at_ (zC5 2):=⟨_,rfl⟩
 have HG:=vl hG.symm;rw[<-hG];obtain⟨w1,hw1,H1⟩:=zJ0 (X:=X) h D 2 2 rfl;go_in;apply wp_cut;intro K1 HK1;go_wp2;apply HK1.out;apply wp_cut;intro K1 HK1;go_wp2;apply HK1.out;rw[<-hw1];refine wp_block ?_;go_loopg [6] (s.size+1) (fun n v wr=>∃f pos t sv ps,n=f∧pos<=s.size∧s.size+1-pos<=f∧zBy s (fun q=>M q r.both) f pos t=G∧Tw wr (fun i=>X i∨w.heap.size<=i) (w.heap.size+1) w.heap.size (D+4*pos) sv ps t∧TrOk (D+1+4*pos) t∧(t.kind=2∨t.kind=3)∧t.parts.length<=pos∧RxAt wr b s dv {r with at_:=pos}∧Keep w.heap.size b w wr)
 case atStart=>exact⟨s.size+1,r.at_,zC5 2,_,_,rfl,ha,by omega,HG.out,H1.out.1,by rw[show D+1+4*r.at_=D+4*r.at_+1 by omega];exact zGZ _ 2 (.inl rfl),.inl rfl,lX,H1.out.2.1,H1.out.2.2⟩
 case round=>
  obtain⟨f,pos,t,sv,ps,hgk,hpos,hf,hGo,hTw,hTok,hkd,hpl,hR,hk⟩:=hrel;cases f with
  |zero=>omega
  |succ f=>
  have HT0:=HTH.out wr pos hR hk hpos;have HA:Hid (Tw wr (fun i=>X i∨w.heap.size<=i) (w.heap.size+1) w.heap.size (D+4*pos) sv ps t∧TrOk (D+1+4*pos) t∧(t.kind=2∨t.kind=3)∧RxAt wr b s dv {r with at_:=pos}∧Keep w.heap.size b w wr∧gk=f+1):=⟨hTw,hTok,hkd,hR,hk,hgk⟩
  cases hm:M pos r.both with
  |none=>
   rw[hm] at HT0;have HT:=vl HT0;have HG2:Hid (G=none):=by
    show _=_;rw[<-hGo];unfold zBy;rw[hm]
   refine wp_block ?_;go_wp2_with (first|(go_at_call 193;refine HT.out.mono ?_;rintro e w2 ⟨hk2,v2,q2,rfl,hR2⟩))
   rw[HG2.out];refine dZ (results_tmp2 rfl _ _ _) rfl ?_;have hz:=HA.out.2.2.2.2.1.size;exact⟨HA.out.2.2.2.2.1.trans ⟨hk2.os,hk2.output,hk2.size,fun k h1 h2=>hk2.block k (by omega) h2⟩,none,q2,rfl,hR2⟩
  |some g=>
   obtain⟨u,q⟩:=g;rw[hm] at HT0;have HT:=vl HT0;have HU:=vl <| HOK.out pos u q hm;have HGo:Hid ((if zBD s q then some ((t.add u).plain,q) else zBy s (fun q=>M q r.both) f q (t.add u))=G):=by
    show _=_;rw[<-hGo]
    conv=>rhs;unfold zBy
    rw[hm]
   refine wp_block ?_;apply wp_cut;intro K1 HK1;go_wp2_with (first|(go_at_call 193;refine HT.out.mono ?_;rintro e w2 ⟨hk2,p2,rfl,ht2,hR2⟩))
   apply HK1.out;apply wp_cut;intro K1 HK1;go_wp2;apply HK1.out;have hq1:=HU.out.1;have hq2:=HU.out.2.1;have HAD:=zJ1 HLB.out hH HA.out.1 HA.out.2.2.2.2.1 hk2 ht2 hR2 hq1 HU.out.2.2 (by omega);apply wp_cut;intro K1 HK1;go_wp2_with (first|(go_at_call 188;refine HAD.out.mono ?_;rintro e w3 ⟨rfl,hR3,hk3,sv3,ps3,hT3⟩))
   apply HK1.out;have HC:Hid (Tw w3 (fun i=>X i∨w.heap.size<=i) (w.heap.size+1) w.heap.size (D+4*q) sv3 ps3 (t.add u)∧RxAt w3 b s dv {r with at_:=q}∧Keep w.heap.size b w w3∧TrOk (D+1+4*q) (t.add u)):=⟨hT3,hR3,hk3,by
    rw[show D+1+4*q=D+4*q+1 by omega];exact zHl (HA.out.2.1.deep (by omega)) HA.out.2.2.1 HU.out.2.2⟩
   have HRE:Hid (Ca 194 #[pointer (some ⟨b,0,none⟩)] w3 fun e w'=>e=returned (bool (zBD s q))∧RxAt w' b s dv {r with at_:=q}∧∀H,Keep H b w3 w'):=by
    refine(zFM w3 b s dv {r with at_:=q} HC.out.2.1 hs (by show q<=_;omega)).mono ?_;rintro e w4 ⟨rfl,hk4⟩;exact⟨rfl,RxAt.of_block HC.out.2.1 ((hk4 (b+1) (b+1)).block b (by omega) (by omega)),fun H=>hk4 H b⟩
   cases he:zBD s q with
   |true=>
    rw[he] at HRE HGo;have HRE2:=HRE;have HG2:=vl HGo.out.symm;have HPL:=zF8 (s:=s) (dv:=dv) (r:=r) HLB.out hH HC.out.1 HC.out.2.2.1;go_wp2_with (first|(go_at_call 194;refine HRE2.out.mono ?_;rintro e w4 ⟨rfl,hR4,hk4⟩)|(go_at_call 190;refine(HPL.out w4 hR4 hk4).mono ?_;rintro e w5 ⟨p5,rfl,ht5,hR5,hk5⟩))
    rw[HG2.out];refine dZ (results_tmp2 rfl _ _ _) rfl ?_;exact⟨hk5,p5,rfl,ht5,hR5⟩
   |false=>
    rw[he] at HRE HGo;have HRE2:=HRE;have HG2:=vl HGo.out;go_wp2_with (first|(go_at_call 194;refine HRE2.out.mono ?_;rintro e w4 ⟨rfl,hR4,hk4⟩))
    have hb:=HLB.out;go_roundg f
    case measure=>rw[HA.out.2.2.2.2.2];omega
    case rel=>exact⟨f,q,t.add u,sv3,ps3,rfl,hq2,by omega,HG2.out,HC.out.1.keep (hk4 _) (.inl (by omega)) (by omega) (fun _ hx=>by rcases hx with hx|hx;exact Nat.lt_irrefl _ (hH b hx);omega),HC.out.2.2.2,zDn HA.out.2.2.1,by show(t.parts++[u]).length<=q;rw[kX];show t.parts.length+1<=q;omega,hR4,HC.out.2.2.1.trans (hk4 _)⟩
theorem zBK (X:Nat->Prop)(b:Nat)(s:ByteArray)(dv:Value)(hs:s.size<=1048576)(hH:∀i,X i->i<b)(D0 D:Nat)(defs:List (ByteArray×Tr))(k:Nat)(M:Reads)(hok:∀both,zB2 s D fun p=>M p both)(hth:zAw 187 X b s dv D0 defs D k M):
  zAw 182 X b s dv D0 defs (D+1) k (fun p both=>zAn s (fun q=>M q both) (s.size+1) p (zC5 3)):=fun w r h hD hdp ha=>by
 show Calls prog 182 #[pointer (some ⟨b,0,none⟩)] w (TrAns w X b s dv r (D+1) (zAn s (fun q=>M q r.both) (s.size+1) r.at_ (zC5 3)));have HLB:=vl h.lt;have HTH:Hid (∀wr pos,RxAt wr b s dv {r with at_:=pos}->Keep w.heap.size b w wr->pos<=s.size->Ca 187 #[pointer (some ⟨b,0,none⟩)] wr (TrAns wr X b s dv {r with at_:=pos} D (M pos r.both))):=fun wr pos hR hk hp=>hth wr {r with at_:=pos} hR (hD.go hH (hk.agree fun i hi hx=>⟨hi,kJ hx⟩)) hdp hp;have HOK:=vl (hok r.both);obtain⟨G,hG⟩:∃G,G=zAn s (fun q=>M q r.both) (s.size+1) r.at_ (zC5 3):=⟨_,rfl⟩
 have HG:=vl hG.symm;rw[<-hG];obtain⟨w1,hw1,H1⟩:=zJ0 (X:=X) h D 3 3 rfl;go_in;apply wp_cut;intro K1 HK1;go_wp2;apply HK1.out;apply wp_cut;intro K1 HK1;go_wp2;apply HK1.out;rw[<-hw1];refine wp_block ?_;go_loopg [6] (s.size+1) (fun n v wr=>∃f pos t sv ps,n=f∧pos<=s.size∧s.size+1-pos<=f∧zAn s (fun q=>M q r.both) f pos t=G∧Tw wr (fun i=>X i∨w.heap.size<=i) (w.heap.size+1) w.heap.size (D+4*pos) sv ps t∧TrOk (D+1+4*pos) t∧(t.kind=2∨t.kind=3)∧t.parts.length<=pos∧RxAt wr b s dv {r with at_:=pos}∧Keep w.heap.size b w wr)
 case atStart=>exact⟨s.size+1,r.at_,zC5 3,_,_,rfl,ha,by omega,HG.out,H1.out.1,by rw[show D+1+4*r.at_=D+4*r.at_+1 by omega];exact zGZ _ 3 (.inr rfl),.inr rfl,lX,H1.out.2.1,H1.out.2.2⟩
 case round=>
  obtain⟨f,pos,t,sv,ps,hgk,hpos,hf,hGo,hTw,hTok,hkd,hpl,hR,hk⟩:=hrel;cases f with
  |zero=>omega
  |succ f=>
  have HT0:=HTH.out wr pos hR hk hpos;have HA:Hid (Tw wr (fun i=>X i∨w.heap.size<=i) (w.heap.size+1) w.heap.size (D+4*pos) sv ps t∧TrOk (D+1+4*pos) t∧(t.kind=2∨t.kind=3)∧RxAt wr b s dv {r with at_:=pos}∧Keep w.heap.size b w wr∧gk=f+1):=⟨hTw,hTok,hkd,hR,hk,hgk⟩
  cases hm:M pos r.both with
  |none=>
   rw[hm] at HT0;have HT:=vl HT0;have HG2:Hid (G=none):=by
    show _=_;rw[<-hGo];unfold zAn;rw[hm]
   refine wp_block ?_;go_wp2_with (first|(go_at_call 187;refine HT.out.mono ?_;rintro e w2 ⟨hk2,v2,q2,rfl,hR2⟩))
   rw[HG2.out];refine dZ (results_tmp2 rfl _ _ _) rfl ?_;have hz:=HA.out.2.2.2.2.1.size;exact⟨HA.out.2.2.2.2.1.trans ⟨hk2.os,hk2.output,hk2.size,fun k h1 h2=>hk2.block k (by omega) h2⟩,none,q2,rfl,hR2⟩
  |some g=>
   obtain⟨u,q⟩:=g;rw[hm] at HT0;have HT:=vl HT0;have HU:=vl <| HOK.out pos u q hm;have HGo:Hid ((if zJ s q ⟨#[124]⟩ then zAn s (fun q=>M q r.both) f (q+1) (t.add u) else some ((t.add u).plain,q))=G):=by
    show _=_;rw[<-hGo]
    conv=>rhs;unfold zAn
    rw[hm]
   refine wp_block ?_;apply wp_cut;intro K1 HK1;go_wp2_with (first|(go_at_call 187;refine HT.out.mono ?_;rintro e w2 ⟨hk2,p2,rfl,ht2,hR2⟩))
   apply HK1.out;apply wp_cut;intro K1 HK1;go_wp2;apply HK1.out;have hq1:=HU.out.1;have hq2:=HU.out.2.1;have HAD:=zJ1 HLB.out hH HA.out.1 HA.out.2.2.2.2.1 hk2 ht2 hR2 hq1 HU.out.2.2 (by omega);apply wp_cut;intro K1 HK1;go_wp2_with (first|(go_at_call 188;refine HAD.out.mono ?_;rintro e w3 ⟨rfl,hR3,hk3,sv3,ps3,hT3⟩))
   apply HK1.out;have HC:Hid (Tw w3 (fun i=>X i∨w.heap.size<=i) (w.heap.size+1) w.heap.size (D+4*q) sv3 ps3 (t.add u)∧RxAt w3 b s dv {r with at_:=q}∧Keep w.heap.size b w w3∧TrOk (D+1+4*q) (t.add u)):=⟨hT3,hR3,hk3,by
    rw[show D+1+4*q=D+4*q+1 by omega];exact zHl (HA.out.2.1.deep (by omega)) HA.out.2.2.1 HU.out.2.2⟩
   cases he:zJ s q ⟨#[124]⟩ with
   |false=>
    have HTK:=vl (zAb (r:=r) (x:=q) (y:=q) ⟨#[124]⟩ hs (by omega) (by decide) he rfl HC.out.2.1);rw[he] at HGo;have HG2:=vl HGo.out.symm;have HPL:=zF8 (s:=s) (dv:=dv) (r:=r) HLB.out hH HC.out.1 HC.out.2.2.1;go_wp2_with (first|(go_at_call 189;refine HTK.out.mono ?_;rintro e w4 ⟨rfl,hR4,hk4⟩)|(go_at_call 190;refine(HPL.out w4 hR4 hk4).mono ?_;rintro e w5 ⟨p5,rfl,ht5,hR5,hk5⟩))
    rw[HG2.out];refine dZ (results_tmp2 rfl _ _ _) rfl ?_;exact⟨hk5,p5,rfl,ht5,hR5⟩
   |true=>
    have HTK:=vl (zAb (r:=r) (x:=q) (y:=q+1) ⟨#[124]⟩ hs (by omega) (by decide) he rfl HC.out.2.1);have hq3:=vC he;rw[he] at HGo;have HG2:=vl HGo.out;go_wp2_with (first|(go_at_call 189;refine HTK.out.mono ?_;rintro e w4 ⟨rfl,hR4,hk4⟩))
    have hb:=HLB.out;go_roundg f
    case measure=>rw[HA.out.2.2.2.2.2];omega
    case rel=>exact⟨f,q+1,t.add u,sv3,ps3,rfl,hq3,by omega,HG2.out,(HC.out.1.keep (hk4 _) (.inl (by omega)) (by omega) (fun _ hx=>by rcases hx with hx|hx;exact Nat.lt_irrefl _ (hH b hx);omega)).deep (by omega),HC.out.2.2.2.deep (by omega),zDn HA.out.2.2.1,by show(t.parts++[u]).length<=q+1;rw[kX];show t.parts.length+1<=q+1;omega,hR4,HC.out.2.2.1.trans (hk4 _)⟩
theorem zDf (X:Nat->Prop)(b:Nat)(s:ByteArray)(dv:Value)(hs:s.size<=1048576)(hH:∀i,X i->i<b)(D:Nat)(defs:List (ByteArray×Tr))(hlen:defs.length<=1000000)(hdo:zA0 D defs):∀k,zAw 182 X b s dv D defs (D+2) k (zBr s defs k)
 |0=>zBK X b s dv hs hH D (D+1) defs 0 _ (zGN hs hdo (fun _ p t q h=>by cases h)) (zDY X b s dv hs hH D D defs 0 _ (zDq hs hdo (fun _ p t q h=>by cases h)) (zDW X b s dv hs hH D defs 0 _ (zFA hs hdo (fun _ p t q h=>by cases h)) (zFz X b s dv hs hH D defs hlen 0 _ fun w r h _ hk _ _=>zNC X b s dv D w r h hk)))
 |k+1=>zBK X b s dv hs hH D (D+1) defs (k+1) _ (zGN hs hdo (zAa hs hdo k)) (zDY X b s dv hs hH D D defs (k+1) _ (zDq hs hdo (zAa hs hdo k)) (zDW X b s dv hs hH D defs (k+1) _ (zFA hs hdo (zAa hs hdo k)) (zFz X b s dv hs hH D defs hlen (k+1) _ fun w r h hD hk _ hc=>zFZ X b s dv hs hH D defs k _ (zAa hs hdo k) (zDf X b s dv hs hH D defs hlen hdo k) w r h hD hk hc)))
theorem DefsIn.step {b c:Nat}{X Y:Nat->Prop}{w w2:World}{D:Nat}{v:Value}{l:List (ByteArray×Tr)}(h:DefsIn b X w D v l)(a:Grew w w2)(hb:b<=c)(hx:∀i,i<w.heap.size->X i->Y i):DefsIn c Y w2 D v l:=by
 obtain⟨ao,cap,hv,h1,h2,h3⟩:=h;refine⟨ao,cap,hv,h1,h2,fun i hi=>?_⟩;obtain⟨g,o,p,ha,hg,hxg,c0,c1,ht,hs⟩:=h3 i hi;have hg2:=hg;have e:=a.block g hg (kJ hg2);exact⟨g,o,p,ha,lZ hg2 a.size,by omega,(gG e).trans c0,(gG e).trans c1,ht.step (a.agree fun i hi _=>⟨hi,kJ hi⟩) hx,hs⟩
def zHp (w:World)(X:Nat->Prop)(D:Nat)(a:Option Tr)(e:Ending)(w':World):Prop:=
 Grew w w'∧match a with
 |none=>e=returned (tuple #[pointer none,bool false])
 |some t=>∃p,e=returned (tuple #[pointer (some ⟨p,0,none⟩),bool true])∧TreeIn (fun i=>(X i∧i<w.heap.size)∨w.heap.size<=i) w' D p t
theorem jN (w:World)(X:Nat->Prop)(s:ByteArray)(dv:Value)(hs:s.size<=1048576)(D:Nat)(defs:List (ByteArray×Tr))(hD:DefsIn w.heap.size X w D dv defs)(hlen:defs.length<=1000000)(hdo:zA0 D defs):
  Calls prog 162 #[string s,dv] w (zHp w X (D+2+4*s.size) (vO s defs)):=by
 obtain⟨w1,hw1,H1⟩:∃w1,w1=w.alloc (.cells #[string s,dv,int i64 0,int i64 0,bool false] 252)∧Hid (Ca 182 #[pointer (some ⟨w.heap.size,0,none⟩)] w1 (TrAns w1 (fun i=>X i∧i<w.heap.size) w.heap.size s dv ⟨0,0,false⟩ (D+2) (zBr s defs 8 0 false))∧w1.heap.size=w.heap.size+1∧Grew w w1):=by
  refine⟨_,rfl,?_,by simp,kZ _ _ lQ⟩;exact zDf (fun i=>X i∧i<w.heap.size) w.heap.size s dv hs (fun i hi=>hi.2) D defs hlen hdo 8 _ ⟨0,0,false⟩ (gJ _ _) (hD.step (kZ _ _ lQ) lQ fun i hi hx=>⟨hx,hi⟩) rfl lX
 obtain⟨ao,cap,rfl,-⟩:=hD;have HE:Hid (∀w2,Keep w1.heap.size w.heap.size w1 w2->Grew w w2):=fun w2 hk=>H1.out.2.2.trans ⟨hk.os,hk.output,hk.size,fun k h1 h2=>hk.block k (by have:=H1.out.2.1;omega) h2⟩;have HM:Hid (vO s defs=match zBr s defs 8 0 false with|none=>none|some (t,q)=>if q=s.size then some t else none):=rfl;have HQ:Hid (∀t q,zBr s defs 8 0 false=some (t,q)->q<=s.size):=fun t q e=>(zAa hs hdo 8 false 0 t q e).2.1;cases hm:zBr s defs 8 0 false with
 |none=>
  have HC:Hid (Ca 182 #[pointer (some ⟨w.heap.size,0,none⟩)] w1 (TrAns w1 (fun i=>X i∧i<w.heap.size) w.heap.size s (slice ao defs.length cap) ⟨0,0,false⟩ (D+2) none)):=by have:=H1.out.1;rw[hm] at this;exact this
  have HA:Hid (vO s defs=none):=by show _=_;rw[HM.out,hm]
  rw[HA.out];go_in;apply wp_cut;intro K0 J;go_wp2;apply J.out;apply wp_cut;intro K0 J;go_wp2;apply J.out;clear J;rw[<-hw1];clear hw1;go_wp2_with (first|(go_at_call 182;refine HC.out.mono ?_;rintro e w2 ⟨hk2,v,q,rfl,hR2⟩))
  refine dZ (results_tmp2 rfl _ _ _) rfl ?_;exact⟨HE.out w2 hk2,rfl⟩
 |some g=>
  obtain⟨t,q⟩:=g;have HC:Hid (Ca 182 #[pointer (some ⟨w.heap.size,0,none⟩)] w1 (TrAns w1 (fun i=>X i∧i<w.heap.size) w.heap.size s (slice ao defs.length cap) ⟨0,0,false⟩ (D+2) (some (t,q)))):=by have:=H1.out.1;rw[hm] at this;exact this
  have hql:=HQ.out t q hm;have hsz:=H1.out.2.1;by_cases hq:q=s.size
  ·have HA:Hid (vO s defs=some t):=by show _=_;rw[HM.out,hm];exact if_pos hq
   rw[HA.out];clear hm HA HM H1 HQ;have eq1:((q:Int) != (s.size:Int))=false:=by rw[hq];simp
   have HSZ:Hid (w1.heap.size=w.heap.size+1∧q=s.size):=⟨hsz,hq⟩
   clear hsz hq;go_in;apply wp_cut;intro K0 J;go_wp2;apply J.out;clear J;apply wp_cut;intro K0 J;go_wp2;apply J.out;clear J;rw[<-hw1];clear hw1;go_wp2_with (first|(go_at_call 182;refine HC.out.mono ?_;rintro e w2 ⟨hk2,p,rfl,ht2,hR2⟩;have d2:w2.cell? ⟨w.heap.size,2,none⟩=some (int i64 (q:Int)):=hR2.cells.2.2.1))
   refine dZ (results_tmp2 rfl _ _ _) rfl ?_;refine⟨HE.out w2 hk2,p,rfl,?_⟩;rw[<-HSZ.out.2];exact ht2.mono fun i _ hx=>by
    rcases hx with hx|hx
    ·exact .inl hx
    ·exact .inr (by have:=HSZ.out.1;omega)
  ·have HA:Hid (vO s defs=none):=by show _=_;rw[HM.out,hm];exact if_neg hq
   rw[HA.out];clear hm HA HM H1 HQ hsz;have eq1:((q:Int) != (s.size:Int))=true:=by simp;omega
   clear hq;go_in;apply wp_cut;intro K0 J;go_wp2;apply J.out;clear J;apply wp_cut;intro K0 J;go_wp2;apply J.out;clear J;rw[<-hw1];clear hw1;go_wp2_with (first|(go_at_call 182;refine HC.out.mono ?_;rintro e w2 ⟨hk2,p,rfl,ht2,hR2⟩;have d2:w2.cell? ⟨w.heap.size,2,none⟩=some (int i64 (q:Int)):=hR2.cells.2.2.1))
   refine dZ (results_tmp2 rfl _ _ _) rfl ?_;exact⟨HE.out w2 hk2,rfl⟩
section
def zAR (f g:Nat->Value)(n:Nat):List Value:=(List.range n).flatMap fun i=>[f i,g i]
theorem vE (f g:Nat->Value)(n:Nat):zAR f g (n+1)=zAR f g n++[f n,g n]:=by
 unfold zAR;rw[List.range_succ,List.flatMap_append];rfl
theorem zGb (f g:Nat->Value)(n:Nat):(zAR f g n).length=n*2:=by
 induction n with
 |zero=>rfl
 |succ n ih=>rw[vE,kX,ih];show n*2+2=_;omega
theorem zA3 (f g:Nat->Value)(n i:Nat)(hi:i<n):(zAR f g n)[i*2]? =some (f i)∧(zAR f g n)[i*2+1]? =some (g i):=by
 induction n with
 |zero=>omega
 |succ n ih=>
  rw[vE];have hl:=zGb f g n;by_cases h:i<n
  ·rw[kW (by omega),kW (by omega)]
   exact ih h
  ·have e:i=n:=by omega
   subst e;rw[gQ (by omega),gQ (by omega),hl,Nat.sub_self,show i*2+1-i*2=1 by omega];exact⟨rfl,rfl⟩
theorem zAQ (f g f' g':Nat->Value)(n:Nat)(h:∀i,i<n->f i=f' i∧g i=g' i):zAR f g n=zAR f' g' n:=by
 induction n with
 |zero=>rfl
 |succ n ih=>rw[vE,vE,ih fun i hi=>h i (by omega),(h n (by omega)).1,(h n (by omega)).2]
theorem zKV (f g:Nat->Value)(n k:Nat)(v:Value)(hk:k<n):(zAR f g n).set (k*2+1) v=zAR f (fun i=>if i=k then v else g i) n:=by
 induction n with
 |zero=>omega
 |succ n ih=>
  have hl:=zGb f g n;rw[vE,vE];by_cases h:k<n
  ·rw[List.set_append_left _ _ (by omega),ih h,if_neg (by omega)]
  ·have e:k=n:=by omega
   subst e;rw[List.set_append_right _ _ (by omega),hl,show k*2+1-k*2=1 by omega,if_pos rfl];rw[zAQ f (fun i=>if i=k then v else g i) f g k fun i hi=>⟨rfl,if_neg (by omega)⟩];rfl
structure Sh where
 modes:List (ByteArray×List Tr)
 defs:List (ByteArray×Tr)
 acts:List Nat
 pushed:List ByteArray
def Sh.mode (s:Sh)(i:Nat):ByteArray×List Tr:=s.modes.getD i (⟨#[]⟩,[])
def Sh.defn (s:Sh)(i:Nat):ByteArray×Tr:=s.defs.getD i (⟨#[]⟩,Tr.none)
def Sh.none:Sh:=⟨[],[],[],[]⟩
structure Sw (w:World)(X:Nat->Prop)(S D:Nat)(sh:Sh)(mv dv av pv:Value)(rv:Nat->Value)(ps:Nat->List Nat)(dp:Nat->Nat):Prop where
 blk:w.heap[S]? =some (.cells #[mv,dv,av,pv] 114)
 mOwn:w.ownsRow (S+1) 120 2 mv sh.modes.length (zAR (fun i=>string (sh.mode i).1) rv sh.modes.length)
 dOwn:w.ownsRow (S+1) 233 2 dv sh.defs.length (zAR (fun i=>string (sh.defn i).1) (fun i=>pointer (some ⟨dp i,0,none⟩)) sh.defs.length)
 aOwn:w.ownsRow (S+1) 3 1 av sh.acts.length (sh.acts.map fun x:Nat=>int i64 (x:Int))
 pOwn:w.ownsRow (S+1) 9 1 pv sh.pushed.length (sh.pushed.map fun x=>string x)
 rOwn:∀i,i<sh.modes.length->w.ownsRow (S+1) 158 1 (rv i) (sh.mode i).2.length (xU (ps i))
 rApart:∀i j g,i<sh.modes.length->j<sh.modes.length->i≠j->(rv i).ownBlock=some g->some g≠(rv j).ownBlock
 rTree:∀i,i<sh.modes.length->∀k,k<(sh.mode i).2.length->TreeIn X w D ((ps i).getD k 0) ((sh.mode i).2.getD k Tr.none)
 dTree:∀i,i<sh.defs.length->TreeIn X w D (dp i) (sh.defn i).2
 xlt:∀g,X g->S<g∧g<w.heap.size
 xm:∀g,X g->some g≠mv.ownBlock∧some g≠dv.ownBlock∧some g≠av.ownBlock∧some g≠pv.ownBlock
 xr:∀g i,X g->i<sh.modes.length->some g≠(rv i).ownBlock
 lt:S<w.heap.size
def SwIs (w:World)(S D:Nat)(sh:Sh):Prop:=∃X mv dv av pv rv ps dp,Sw w X S D sh mv dv av pv rv ps dp
section
variable {w w2:World} {X:Nat->Prop} {S D E:Nat} {sh:Sh} {mv dv av pv:Value} {rv:Nat->Value} {ps:Nat->List Nat} {dp:Nat->Nat}
theorem zZ {H e z n e' z' n':Nat}{v v':Value}{xs xs':List Value}(h:w.ownsRow H e z v n xs)(h':w.ownsRow H e' z' v' n' xs')(he:e≠e')(g:Nat)(hg:v.ownBlock=some g):some g≠v'.ownBlock:=by
 rcases h.2 with⟨hv,-⟩|⟨g2,cap,cur,hv,hH,hh,-⟩
 ·rw[hv] at hg;cases hg
 ·rw[hv] at hg
  have e2:g2=g:=by simpa[Value.ownBlock] using hg
  rw[e2] at hh;exact zM h' hh (Ne.symm he)
theorem Sw.cells (h:Sw w X S D sh mv dv av pv rv ps dp):w.cell? ⟨S,0,none⟩=some mv∧w.cell? ⟨S,1,none⟩=some dv∧w.cell? ⟨S,2,none⟩=some av∧w.cell? ⟨S,3,none⟩=some pv∧∀i,w.frozen? ⟨S,i,none⟩=false:=by
 refine⟨?_,?_,?_,?_,fun i=>?_⟩
 all_goals first|(unfold cell?;rw[h.blk];rfl)|(unfold frozen?;rw[h.blk];simp)
theorem Sw.grown (h:Sw w X S D sh mv dv av pv rv ps dp)(hk:Grew w w2):Sw w2 X S D sh mv dv av pv rv ps dp:=by
 have hb:∀{H e z n v xs},w.ownsRow H e z v n xs->w2.ownsRow H e z v n xs:=fun ho=>zD ho fun g _ hg _=>hk.block g hg (kJ hg);have ha:Agree X w w2:=hk.agree fun i hi _=>⟨hi,kJ hi⟩
 exact⟨(hk.block S h.lt (kJ h.lt)).trans h.blk,hb h.mOwn,hb h.dOwn,hb h.aOwn,hb h.pOwn,fun i hi=>hb (h.rOwn i hi),h.rApart,fun i hi k hk2=>(h.rTree i hi k hk2).go ha,fun i hi=>(h.dTree i hi).go ha,fun g hg=>⟨(h.xlt g hg).1,lZ (h.xlt g hg).2 hk.size⟩,h.xm,h.xr,lZ h.lt hk.size⟩
theorem Sw.deep (h:Sw w X S D sh mv dv av pv rv ps dp)(he:D<=E):Sw w X S E sh mv dv av pv rv ps dp:=⟨h.blk,h.mOwn,h.dOwn,h.aOwn,h.pOwn,h.rOwn,h.rApart,fun i hi k hk=>(h.rTree i hi k hk).deep he,fun i hi=>(h.dTree i hi).deep he,h.xlt,h.xm,h.xr,h.lt⟩
theorem Sw.more (h:Sw w X S D sh mv dv av pv rv ps dp)(hk:Grew w w2):Sw w2 (fun i=>X i∨(w.heap.size<=i∧i<w2.heap.size)) S D sh mv dv av pv rv ps dp:=by
 have h2:=h.grown hk;have hl:=h.lt;have ho:∀{e z n v xs},w.ownsRow (S+1) e z v n xs->∀g,w.heap.size<=g->some g≠v.ownBlock:=fun hw g hg e=>by have:=(hw.lt g e.symm).2;omega
 refine⟨h2.blk,h2.mOwn,h2.dOwn,h2.aOwn,h2.pOwn,h2.rOwn,h2.rApart,fun i hi k hk2=>(h2.rTree i hi k hk2).mono fun _ _ hx=>.inl hx,fun i hi=>(h2.dTree i hi).mono fun _ _ hx=>.inl hx,fun g hg=>?_,fun g hg=>?_,fun g i hg hi=>?_,h2.lt⟩
 ·rcases hg with hg|hg
  ·exact h2.xlt g hg
  ·exact⟨by omega,hg.2⟩
 ·rcases hg with hg|hg
  ·exact h2.xm g hg
  ·exact⟨ho h.mOwn g hg.1,ho h.dOwn g hg.1,ho h.aOwn g hg.1,ho h.pOwn g hg.1⟩
 ·rcases hg with hg|hg
  ·exact h2.xr g i hg hi
  ·exact ho (h.rOwn i hi) g hg.1
theorem xW {p H e z n:Nat}{u u' v:Value}{xs:List Value}(hk:KeepO p u u' w w2)(ho:w.ownsRow H e z v n xs)(hp:p<H)(hne:∀g,v.ownBlock=some g->some g≠u.ownBlock):w2.ownsRow H e z v n xs∧∀g,v.ownBlock=some g->some g≠u'.ownBlock:=by
 refine⟨zD ho fun g hH hg hv=>(hk.block g hg (by omega) (hne g hv)).1,fun g hv=>?_⟩;have hl:=ho.lt g hv;exact(hk.block g hl.2 (by omega) (hne g hv)).2
theorem vZ {p d b:Nat}{u u':Value}{t:Tr}(hk:KeepO p u u' w w2)(ht:TreeIn X w d b t)(hx:∀g,X g->g≠p∧some g≠u.ownBlock):TreeIn X w2 d b t:=ht.go ⟨hk.os,hk.output,hk.size,fun i hi hxi=>(hk.block i hi (hx i hxi).1 (hx i hxi).2).1⟩
theorem zEt {o:Obj}{H e z n g cap m i:Nat}{v:Value}{xs ys:List Value}(ho:w.ownsRow H e z v n xs)(hS:S<H)(hl:H<=w.heap.size)(hown:w2.ownsRow H e z (slice (some ⟨g,0,none⟩) m cap) m ys)(hg:(w.alloc o).grownBy w2 v.ownBlock)(hat:v.ownBlock=some g∨w.heap.size<=g):
  (w2.setCell ⟨S,i,none⟩ (slice (some ⟨g,0,none⟩) m cap)).ownsRow H e z (slice (some ⟨g,0,none⟩) m cap) m ys∧KeepO S v (slice (some ⟨g,0,none⟩) m cap) w (w2.setCell ⟨S,i,none⟩ (slice (some ⟨g,0,none⟩) m cap))∧w2.heap[S]? =w.heap[S]? :=by
 have hbl:∀j,j<H->w2.heap[j]? =w.heap[j]? :=fun j hj=>(hg.block j (by simp;omega) fun e=>by have:=(ho.lt j e.symm).1;omega).trans (lG _ _ _ (by omega));have hsz:w.heap.size<=w2.heap.size:=lY (by simp) hg.size;refine⟨zX hown hS,⟨hg.os,hg.output,by rw[zC];exact hsz,fun k h1 h2 h3=>⟨(lJ _ _ _ _ h2).trans ((hg.block k (by simp;omega) h3).trans (lG _ _ _ h1)),fun e=>by
  have e2:k=g:=by simpa[Value.ownBlock] using e
  rcases hat with ha|ha
  ·exact h3 (by rw[ha,e2])
  ·omega⟩⟩,hbl S hS⟩
end
end
section
section
variable {w w2:World} {X:Nat->Prop} {S D:Nat} {sh:Sh} {mv dv av pv:Value} {rv:Nat->Value} {ps:Nat->List Nat} {dp:Nat->Nat} {o:Obj} {g cap:Nat}
theorem zCa {p H e z n:Nat}{u u' v:Value}{xs:List Value}(hk:KeepO p u u' w w2)(ho:w.ownsRow H e z v n xs)(hp:∀g,v.ownBlock=some g->g≠p)(hne:∀g,v.ownBlock=some g->some g≠u.ownBlock):w2.ownsRow H e z v n xs∧∀g,v.ownBlock=some g->some g≠u'.ownBlock:=by
 refine⟨zD ho fun g hH hg hv=>(hk.block g hg (hp g hv) (hne g hv)).1,fun g hv=>?_⟩;have hl:=ho.lt g hv;exact(hk.block g hl.2 (hp g hv) (hne g hv)).2
def Sh.addMode (sh:Sh)(nm:ByteArray):Sh:={sh with modes:=sh.modes++[(nm,[])]}
def Sh.addDef (sh:Sh)(nm:ByteArray)(t:Tr):Sh:={sh with defs:=sh.defs++[(nm,t)]}
def Sh.addAct (sh:Sh)(a:Nat):Sh:={sh with acts:=sh.acts++[a]}
def Sh.addPush (sh:Sh)(nm:ByteArray):Sh:={sh with pushed:=sh.pushed++[nm]}
theorem zAk (sh:Sh)(nm:ByteArray)(i:Nat)(hi:i<sh.modes.length):(sh.addMode nm).mode i=sh.mode i:=by
 unfold Sh.mode Sh.addMode;rw[lW,lW];show((sh.modes++[(nm,[])])[i]?).getD _=_;rw[kW hi]
theorem zAl (sh:Sh)(nm:ByteArray):(sh.addMode nm).mode sh.modes.length=(nm,[]):=by
 unfold Sh.mode Sh.addMode;simp
theorem jF (sh:Sh)(nm:ByteArray):(sh.addMode nm).modes.length=sh.modes.length+1:=by unfold Sh.addMode;simp
theorem zCN (sh:Sh)(nm:ByteArray)(t:Tr)(i:Nat)(hi:i<sh.defs.length):(sh.addDef nm t).defn i=sh.defn i:=by
 unfold Sh.defn Sh.addDef;rw[lW,lW];show((sh.defs++[(nm,t)])[i]?).getD _=_;rw[kW hi]
theorem zCO (sh:Sh)(nm:ByteArray)(t:Tr):(sh.addDef nm t).defn sh.defs.length=(nm,t):=by
 unfold Sh.defn Sh.addDef;simp
theorem zCP (sh:Sh)(nm:ByteArray)(t:Tr):(sh.addDef nm t).defs.length=sh.defs.length+1:=by unfold Sh.addDef;simp
theorem Sw.appAct (h:Sw w X S D sh mv dv av pv rv ps dp){x:Nat}(hown:w2.ownsRow (S+1) 3 1 (slice (some ⟨g,0,none⟩) (sh.acts.length+1) cap) (sh.acts.length+1) ((sh.acts.map fun x:Nat=>int i64 (x:Int))++[int i64 (x:Int)]))(hg:(w.alloc o).grownBy w2 av.ownBlock)(hat:av.ownBlock=some g∨w.heap.size<=g){V:Value}(hV:V=slice (some ⟨g,0,none⟩) (sh.acts.length+1) cap:=by rfl):
  Sw (w2.setCell ⟨S,2,none⟩ V) X S D (sh.addAct x) mv dv V pv rv ps dp∧KeepO S av V w (w2.setCell ⟨S,2,none⟩ V):=by
 obtain⟨a1,a2,a3⟩:=zEt (i:=2) h.aOwn (Nat.lt_succ_self S) h.lt hown hg hat
 rw[<-hV] at a1 a2;have km:=xW a2 h.mOwn (Nat.lt_succ_self S) (zZ h.mOwn h.aOwn (by decide));have kd:=xW a2 h.dOwn (Nat.lt_succ_self S) (zZ h.dOwn h.aOwn (by decide));have kp:=xW a2 h.pOwn (Nat.lt_succ_self S) (zZ h.pOwn h.aOwn (by decide));have kr:=fun i (hi:i<sh.modes.length)=>xW a2 (h.rOwn i hi) (Nat.lt_succ_self S) (zZ (h.rOwn i hi) h.aOwn (by decide));have hX:∀q,X q->q≠S∧some q≠av.ownBlock:=fun q hq=>⟨Nat.ne_of_gt (h.xlt q hq).1,(h.xm q hq).2.2.1⟩
 have tk:∀d b t,TreeIn X w d b t->TreeIn X (w2.setCell ⟨S,2,none⟩ V) d b t:=fun d b t ht=>vZ a2 ht hX;have hxn:∀q,X q->some q≠V.ownBlock:=fun q hq=>(a2.block q (h.xlt q hq).2 (hX q hq).1 (hX q hq).2).2;have hb:(w2.setCell ⟨S,2,none⟩ V).heap[S]? =some (.cells #[mv,dv,V,pv] 114):=by
  have:=a3.trans h.blk;simp[setCell,lU,this]
 have xl:∀q,X q->S<q∧q<(w2.setCell ⟨S,2,none⟩ V).heap.size:=fun q hq=>⟨(h.xlt q hq).1,lZ (h.xlt q hq).2 a2.size⟩
 refine⟨⟨hb,km.1,kd.1,(by show(setCell _ _ _).ownsRow _ _ _ _ (sh.acts++[x]).length ((sh.acts++[x]).map _);rw[kX,List.map_append];exact a1),kp.1,fun i hi=>(kr i hi).1,h.rApart,fun i hi k hk=>tk _ _ _ (h.rTree i hi k hk),fun i hi=>tk _ _ _ (h.dTree i hi),xl,fun q hq=>⟨(h.xm q hq).1,(h.xm q hq).2.1,hxn q hq,(h.xm q hq).2.2.2⟩,h.xr,lZ h.lt a2.size⟩,a2⟩
theorem Sw.appPush (h:Sw w X S D sh mv dv av pv rv ps dp){x:ByteArray}(hown:w2.ownsRow (S+1) 9 1 (slice (some ⟨g,0,none⟩) (sh.pushed.length+1) cap) (sh.pushed.length+1) ((sh.pushed.map fun x=>string x)++[string x]))(hg:(w.alloc o).grownBy w2 pv.ownBlock)(hat:pv.ownBlock=some g∨w.heap.size<=g){V:Value}(hV:V=slice (some ⟨g,0,none⟩) (sh.pushed.length+1) cap:=by rfl):
  Sw (w2.setCell ⟨S,3,none⟩ V) X S D (sh.addPush x) mv dv av V rv ps dp∧KeepO S pv V w (w2.setCell ⟨S,3,none⟩ V):=by
 obtain⟨a1,a2,a3⟩:=zEt (i:=3) h.pOwn (Nat.lt_succ_self S) h.lt hown hg hat
 rw[<-hV] at a1 a2;have km:=xW a2 h.mOwn (Nat.lt_succ_self S) (zZ h.mOwn h.pOwn (by decide));have kd:=xW a2 h.dOwn (Nat.lt_succ_self S) (zZ h.dOwn h.pOwn (by decide));have ka:=xW a2 h.aOwn (Nat.lt_succ_self S) (zZ h.aOwn h.pOwn (by decide));have kr:=fun i (hi:i<sh.modes.length)=>xW a2 (h.rOwn i hi) (Nat.lt_succ_self S) (zZ (h.rOwn i hi) h.pOwn (by decide));have hX:∀q,X q->q≠S∧some q≠pv.ownBlock:=fun q hq=>⟨Nat.ne_of_gt (h.xlt q hq).1,(h.xm q hq).2.2.2⟩
 have tk:∀d b t,TreeIn X w d b t->TreeIn X (w2.setCell ⟨S,3,none⟩ V) d b t:=fun d b t ht=>vZ a2 ht hX;have hxn:∀q,X q->some q≠V.ownBlock:=fun q hq=>(a2.block q (h.xlt q hq).2 (hX q hq).1 (hX q hq).2).2;have hb:(w2.setCell ⟨S,3,none⟩ V).heap[S]? =some (.cells #[mv,dv,av,V] 114):=by
  have:=a3.trans h.blk;simp[setCell,lU,this]
 have xl:∀q,X q->S<q∧q<(w2.setCell ⟨S,3,none⟩ V).heap.size:=fun q hq=>⟨(h.xlt q hq).1,lZ (h.xlt q hq).2 a2.size⟩
 refine⟨⟨hb,km.1,kd.1,ka.1,(by show(setCell _ _ _).ownsRow _ _ _ _ (sh.pushed++[x]).length ((sh.pushed++[x]).map _);rw[kX,List.map_append];exact a1),fun i hi=>(kr i hi).1,h.rApart,fun i hi k hk=>tk _ _ _ (h.rTree i hi k hk),fun i hi=>tk _ _ _ (h.dTree i hi),xl,fun q hq=>⟨(h.xm q hq).1,(h.xm q hq).2.1,(h.xm q hq).2.2.1,hxn q hq⟩,h.xr,lZ h.lt a2.size⟩,a2⟩
theorem Sw.appDef (h:Sw w X S D sh mv dv av pv rv ps dp){nm:ByteArray}{t:Tr}{q0:Nat}(ht:TreeIn X w D q0 t)(hown:w2.ownsRow (S+1) 233 2 (slice (some ⟨g,0,none⟩) (sh.defs.length+1) cap) (sh.defs.length+1) (zAR (fun i=>string (sh.defn i).1) (fun i=>pointer (some ⟨dp i,0,none⟩)) sh.defs.length++[string nm,pointer (some ⟨q0,0,none⟩)]))(hg:(w.alloc o).grownBy w2 dv.ownBlock)(hat:dv.ownBlock=some g∨w.heap.size<=g){V:Value}(hV:V=slice (some ⟨g,0,none⟩) (sh.defs.length+1) cap:=by rfl):
  Sw (w2.setCell ⟨S,1,none⟩ V) X S D (sh.addDef nm t) mv V av pv rv ps (fun i=>if i=sh.defs.length then q0 else dp i)∧KeepO S dv V w (w2.setCell ⟨S,1,none⟩ V):=by
 obtain⟨a1,a2,a3⟩:=zEt (i:=1) h.dOwn (Nat.lt_succ_self S) h.lt hown hg hat
 rw[<-hV] at a1 a2;have km:=xW a2 h.mOwn (Nat.lt_succ_self S) (zZ h.mOwn h.dOwn (by decide));have ka:=xW a2 h.aOwn (Nat.lt_succ_self S) (zZ h.aOwn h.dOwn (by decide));have kp:=xW a2 h.pOwn (Nat.lt_succ_self S) (zZ h.pOwn h.dOwn (by decide));have kr:=fun i (hi:i<sh.modes.length)=>xW a2 (h.rOwn i hi) (Nat.lt_succ_self S) (zZ (h.rOwn i hi) h.dOwn (by decide));have hX:∀q,X q->q≠S∧some q≠dv.ownBlock:=fun q hq=>⟨Nat.ne_of_gt (h.xlt q hq).1,(h.xm q hq).2.1⟩
 have tk:∀d b t,TreeIn X w d b t->TreeIn X (w2.setCell ⟨S,1,none⟩ V) d b t:=fun d b t ht=>vZ a2 ht hX;have hxn:∀q,X q->some q≠V.ownBlock:=fun q hq=>(a2.block q (h.xlt q hq).2 (hX q hq).1 (hX q hq).2).2;have hb:(w2.setCell ⟨S,1,none⟩ V).heap[S]? =some (.cells #[mv,V,av,pv] 114):=by
  have:=a3.trans h.blk;simp[setCell,lU,this]
 have xl:∀q,X q->S<q∧q<(w2.setCell ⟨S,1,none⟩ V).heap.size:=fun q hq=>⟨(h.xlt q hq).1,lZ (h.xlt q hq).2 a2.size⟩
 refine⟨⟨hb,km.1,(by rw[zCP,vE,zCO,if_pos rfl,zAQ (fun i=>string ((sh.addDef nm t).defn i).1) (fun i=>pointer (some ⟨if i=sh.defs.length then q0 else dp i,0,none⟩)) (fun i=>string (sh.defn i).1) (fun i=>pointer (some ⟨dp i,0,none⟩)) _ fun i hi=>⟨by rw[zCN sh nm t i hi],by rw[if_neg (by omega)]⟩];exact a1),ka.1,kp.1,fun i hi=>(kr i hi).1,h.rApart,fun i hi k hk=>tk _ _ _ (h.rTree i hi k hk),fun i hi=>(by
  rw[zCP] at hi;by_cases e:i=sh.defs.length
  ·subst e;rw[zCO];simp only[if_pos];exact tk _ _ _ ht
  ·rw[zCN sh nm t i (by omega)];simp only[if_neg e];exact tk _ _ _ (h.dTree i (by omega))),xl,fun q hq=>⟨(h.xm q hq).1,hxn q hq,(h.xm q hq).2.2.1,(h.xm q hq).2.2.2⟩,h.xr,lZ h.lt a2.size⟩,a2⟩
theorem Sw.appMode (h:Sw w X S D sh mv dv av pv rv ps dp){nm:ByteArray}(hown:w2.ownsRow (S+1) 120 2 (slice (some ⟨g,0,none⟩) (sh.modes.length+1) cap) (sh.modes.length+1) (zAR (fun i=>string (sh.mode i).1) rv sh.modes.length++[string nm,slice none 0 0]))(hg:(w.alloc o).grownBy w2 mv.ownBlock)(hat:mv.ownBlock=some g∨w.heap.size<=g){V:Value}(hV:V=slice (some ⟨g,0,none⟩) (sh.modes.length+1) cap:=by rfl):
  Sw (w2.setCell ⟨S,0,none⟩ V) X S D (sh.addMode nm) V dv av pv (fun i=>if i=sh.modes.length then slice none 0 0 else rv i) (fun i=>if i=sh.modes.length then[] else ps i) dp∧KeepO S mv V w (w2.setCell ⟨S,0,none⟩ V):=by
 obtain⟨a1,a2,a3⟩:=zEt (i:=0) h.mOwn (Nat.lt_succ_self S) h.lt hown hg hat
 rw[<-hV] at a1 a2;have kd:=xW a2 h.dOwn (Nat.lt_succ_self S) (zZ h.dOwn h.mOwn (by decide));have ka:=xW a2 h.aOwn (Nat.lt_succ_self S) (zZ h.aOwn h.mOwn (by decide));have kp:=xW a2 h.pOwn (Nat.lt_succ_self S) (zZ h.pOwn h.mOwn (by decide));have kr:=fun i (hi:i<sh.modes.length)=>xW a2 (h.rOwn i hi) (Nat.lt_succ_self S) (zZ (h.rOwn i hi) h.mOwn (by decide));have hX:∀q,X q->q≠S∧some q≠mv.ownBlock:=fun q hq=>⟨Nat.ne_of_gt (h.xlt q hq).1,(h.xm q hq).1⟩
 have tk:∀d b t,TreeIn X w d b t->TreeIn X (w2.setCell ⟨S,0,none⟩ V) d b t:=fun d b t ht=>vZ a2 ht hX;have hxn:∀q,X q->some q≠V.ownBlock:=fun q hq=>(a2.block q (h.xlt q hq).2 (hX q hq).1 (hX q hq).2).2;have hb:(w2.setCell ⟨S,0,none⟩ V).heap[S]? =some (.cells #[V,dv,av,pv] 114):=by
  have:=a3.trans h.blk;simp[setCell,lU,this]
 have xl:∀q,X q->S<q∧q<(w2.setCell ⟨S,0,none⟩ V).heap.size:=fun q hq=>⟨(h.xlt q hq).1,lZ (h.xlt q hq).2 a2.size⟩
 refine⟨⟨hb,(by rw[jF,vE,zAl,if_pos rfl,zAQ (fun i=>string ((sh.addMode nm).mode i).1) (fun i=>if i=sh.modes.length then slice none 0 0 else rv i) (fun i=>string (sh.mode i).1) rv _ fun i hi=>⟨by rw[zAk sh nm i hi],by rw[if_neg (by omega)]⟩];exact a1),kd.1,ka.1,kp.1,fun i hi=>(by
  rw[jF] at hi;by_cases e:i=sh.modes.length
  ·subst e;rw[zAl];simp only[if_pos];exact ownsRow_nil _ _ _ _
  ·rw[zAk sh nm i (by omega)];simp only[if_neg e];exact(kr i (by omega)).1),fun i j q hi hj hij hq=>(by
  rw[jF] at hi hj;by_cases e:i=sh.modes.length
  ·simp only[if_pos e] at hq;cases hq
  ·simp only[if_neg e] at hq
   by_cases e2:j=sh.modes.length
   ·simp only[if_pos e2];intro e3;cases e3
   ·simp only[if_neg e2];exact h.rApart i j q (by omega) (by omega) hij hq),fun i hi k hk=>(by
  rw[jF] at hi;by_cases e:i=sh.modes.length
  ·subst e;rw[zAl] at hk;exact absurd hk (Nat.not_lt_zero _)
  ·rw[zAk sh nm i (by omega)] at hk ⊢;simp only[if_neg e];exact tk _ _ _ (h.rTree i (by omega) k hk)),fun i hi=>tk _ _ _ (h.dTree i hi),xl,fun q hq=>⟨hxn q hq,(h.xm q hq).2.1,(h.xm q hq).2.2.1,(h.xm q hq).2.2.2⟩,fun q i hq hi=>(by
  rw[jF] at hi;by_cases e:i=sh.modes.length
  ·simp only[if_pos e];intro e3;cases e3
  ·simp only[if_neg e];exact h.xr q i hq (by omega)),lZ h.lt a2.size⟩,a2⟩
end
end
def Sh.addRule (sh:Sh)(k:Nat)(t:Tr):Sh:={sh with modes:=sh.modes.set k ((sh.mode k).1,(sh.mode k).2++[t])}
theorem zEe (sh:Sh)(k:Nat)(t:Tr):(sh.addRule k t).modes.length=sh.modes.length:=by unfold Sh.addRule;simp
theorem zAj (sh:Sh)(k:Nat)(t:Tr)(i:Nat)(hi:i≠k):(sh.addRule k t).mode i=sh.mode i:=by
 unfold Sh.addRule
 conv=>lhs;unfold Sh.mode
 conv=>rhs;unfold Sh.mode
 rw[lW,lW];show((sh.modes.set k _)[i]?).getD _=_;rw[List.getElem?_set_ne (Ne.symm hi),lW]
theorem zAV (sh:Sh)(k:Nat)(t:Tr)(hk:k<sh.modes.length):(sh.addRule k t).mode k=((sh.mode k).1,(sh.mode k).2++[t]):=by
 unfold Sh.addRule
 conv=>lhs;unfold Sh.mode
 rw[lW];show((sh.modes.set k _)[k]?).getD _=_;rw[List.getElem?_set_self hk];rfl
theorem zHn (sh:Sh)(k:Nat)(t:Tr)(hk:k<sh.modes.length)(i:Nat):((sh.addRule k t).mode i).1=(sh.mode i).1:=by
 by_cases e:i=k
 ·subst e;rw[zAV sh i t hk]
 ·rw[zAj sh k t i e]
theorem Sw.appRule {w w2:World}{X:Nat->Prop}{S D:Nat}{sh:Sh}{dv av pv:Value}{rv:Nat->Value}{ps:Nat->List Nat}{dp:Nat->Nat}{o:Obj}{g cap mg mc k q0:Nat}{t:Tr}(h:Sw w X S D sh (slice (some ⟨mg,0,none⟩) sh.modes.length mc) dv av pv rv ps dp)(hk:k<sh.modes.length)(ht:TreeIn X w D q0 t)(hown:w2.ownsRow (S+1) 158 1 (slice (some ⟨g,0,none⟩) ((sh.mode k).2.length+1) cap) ((sh.mode k).2.length+1) (xU (ps k)++[pointer (some ⟨q0,0,none⟩)]))(hg:(w.alloc o).grownBy w2 (rv k).ownBlock)(hat:(rv k).ownBlock=some g∨w.heap.size<=g):
  Sw (w2.setCell ⟨mg,k*2+1,none⟩ (slice (some ⟨g,0,none⟩) ((sh.mode k).2.length+1) cap)) X S D (sh.addRule k t) (slice (some ⟨mg,0,none⟩) sh.modes.length mc) dv av pv (fun i=>if i=k then slice (some ⟨g,0,none⟩) ((sh.mode k).2.length+1) cap else rv i) (fun i=>if i=k then ps k++[q0] else ps i) dp∧KeepO mg (rv k) (slice (some ⟨g,0,none⟩) ((sh.mode k).2.length+1) cap) w (w2.setCell ⟨mg,k*2+1,none⟩ (slice (some ⟨g,0,none⟩) ((sh.mode k).2.length+1) cap)):=by
 have hS:=h.lt;have hmg:=h.mOwn.lt mg rfl;have hmr:=zZ h.mOwn (h.rOwn k hk) (by decide) mg rfl;have hsz:w.heap.size<=w2.heap.size:=lY (by simp) hg.size;have hgm:g≠mg:=fun e=>by
  rcases hat with ha|ha
  ·exact hmr (by rw[ha,e])
  ·omega
 have bl:∀j,j<w.heap.size->some j≠(rv k).ownBlock->w2.heap[j]? =w.heap[j]? :=fun j hj hne=>(hg.block j (by simp;omega) hne).trans (lG _ _ _ hj);have a2:KeepO mg (rv k) (slice (some ⟨g,0,none⟩) ((sh.mode k).2.length+1) cap) w (w2.setCell ⟨mg,k*2+1,none⟩ (slice (some ⟨g,0,none⟩) ((sh.mode k).2.length+1) cap)):=⟨hg.os,hg.output,by rw[zC];exact hsz,fun j h1 h2 h3=>⟨(lJ _ _ _ _ h2).trans (bl j h1 h3),fun e=>by
  have e2:j=g:=by simpa[Value.ownBlock] using e
  rcases hat with ha|ha
  ·exact h3 (by rw[ha,e2])
  ·omega⟩⟩
 have ne:∀{e z n v xs},w.ownsRow (S+1) e z v n xs->e≠120->∀q,v.ownBlock=some q->q≠mg:=fun ho he q hq e2=>zZ ho h.mOwn he q hq (by rw[e2];rfl);have kd:=zCa a2 h.dOwn (ne h.dOwn (by decide)) (zZ h.dOwn (h.rOwn k hk) (by decide));have ka:=zCa a2 h.aOwn (ne h.aOwn (by decide)) (zZ h.aOwn (h.rOwn k hk) (by decide));have kp:=zCa a2 h.pOwn (ne h.pOwn (by decide)) (zZ h.pOwn (h.rOwn k hk) (by decide));have kr:=fun i (hi:i<sh.modes.length) (hik:i≠k)=>zCa a2 (h.rOwn i hi) (ne (h.rOwn i hi) (by decide)) (fun q hq=>h.rApart i k q hi hk hik hq);have hX:∀q,X q->q≠mg∧some q≠(rv k).ownBlock:=fun q hq=>⟨fun e=>(h.xm q hq).1 (by rw[e];rfl),h.xr q k hq hk⟩
 have tk:∀d b t,TreeIn X w d b t->TreeIn X (w2.setCell ⟨mg,k*2+1,none⟩ (slice (some ⟨g,0,none⟩) ((sh.mode k).2.length+1) cap)) d b t:=fun d b t ht=>vZ a2 ht hX;have hlen:=zEe sh k t;refine⟨⟨?_,?_,kd.1,ka.1,kp.1,fun i hi=>?_,fun i j q hi hj hij hq=>?_,fun i hi j hj=>?_,fun i hi=>tk _ _ _ (h.dTree i hi),fun q hq=>⟨(h.xlt q hq).1,lZ (h.xlt q hq).2 a2.size⟩,h.xm,fun q i hq hi=>?_,lZ hS a2.size⟩,a2⟩
 ·exact(a2.block S hS (by omega) fun e=>by have:=((h.rOwn k hk).lt S e.symm).1;omega).1.trans h.blk
 ·have h1:=zD h.mOwn fun q _ hq hv=>bl q hq (by
   have e:mg=q:=by simpa[Value.ownBlock] using hv
   rw[<-e];exact hmr)
  have h2:=h1.stored (k*2+1) (slice (some ⟨g,0,none⟩) ((sh.mode k).2.length+1) cap);rw[zKV _ _ _ _ _ hk] at h2;rw[hlen,zAQ (fun i=>string ((sh.addRule k t).mode i).1) _ (fun i=>string (sh.mode i).1) (fun i=>if i=k then slice (some ⟨g,0,none⟩) ((sh.mode k).2.length+1) cap else rv i) _ fun i _=>⟨by rw[zHn sh k t hk],rfl⟩];exact h2.1
 ·rw[hlen] at hi
  by_cases e:i=k
  ·subst e
   rw[zAV sh i t hk];simp only[if_pos];have e2:((sh.mode i).2++[t]).length=(sh.mode i).2.length+1:=by simp
   have e3:xU (ps i++[q0])=xU (ps i)++[pointer (some ⟨q0,0,none⟩)]:=by simp[xU]
   show World.ownsRow _ _ _ _ _ ((sh.mode i).2++[t]).length _;rw[e2,e3];exact zD hown fun q _ _ hv=>lJ _ _ _ _ (by
    have e4:g=q:=by simpa[Value.ownBlock] using hv
    rw[<-e4];exact hgm)
  ·rw[zAj sh k t i e]
   simp only[if_neg e];exact(kr i hi e).1
 ·rw[hlen] at hi hj
  by_cases e:i=k
  ·simp only[if_pos e] at hq
   have e2:j≠k:=fun e2=>hij (by rw[e,e2]);simp only[if_neg e2];exact fun e3=>(kr j hj e2).2 q e3.symm (hq.symm)
  ·simp only[if_neg e] at hq
   by_cases e2:j=k
   ·simp only[if_pos e2]
    exact(kr i hi e).2 q hq
   ·simp only[if_neg e2]
    exact h.rApart i j q hi hj hij hq
 ·rw[hlen] at hi
  by_cases e:i=k
  ·subst e
   rw[zAV sh i t hk] at hj ⊢;simp only[if_pos];have hpl:(ps i).length=(sh.mode i).2.length:=by
    have:=(h.rOwn i hi).1;unfold xU at this;rw[kV] at this;omega
   have hj2:j<(sh.mode i).2.length+1:=by simpa using hj
   show TreeIn X _ D ((ps i++[q0]).getD j 0) (((sh.mode i).2++[t]).getD j Tr.none);by_cases hj3:j<(sh.mode i).2.length
   ·have e1:(ps i++[q0]).getD j 0=(ps i).getD j 0:=by rw[lW,lW,kW (by omega)]
    have e2:((sh.mode i).2++[t]).getD j Tr.none=(sh.mode i).2.getD j Tr.none:=by rw[lW,lW,kW hj3]
    rw[e1,e2];exact tk _ _ _ (h.rTree i hi j hj3)
   ·have e5:j=(sh.mode i).2.length:=by omega
    subst e5;have e1:(ps i++[q0]).getD (sh.mode i).2.length 0=q0:=by rw[<-hpl];simp
    have e2:((sh.mode i).2++[t]).getD (sh.mode i).2.length Tr.none=t:=by simp
    rw[e1,e2];exact tk _ _ _ ht
  ·rw[zAj sh k t i e] at hj ⊢
   simp only[if_neg e];exact tk _ _ _ (h.rTree i hi j hj)
 ·rw[hlen] at hi
  by_cases e:i=k
  ·simp only[if_pos e]
   exact(a2.block q (h.xlt q hq).2 (hX q hq).1 (hX q hq).2).2
  ·simp only[if_neg e]
   exact h.xr q i hq hi
theorem qL {w:World}{H e z n:Nat}{v:Value}{xs:List Value}(h:w.ownsRow H e z v n xs)(hn:0<n):∃g cap,v=slice (some ⟨g,0,none⟩) n cap∧H<=g∧g<w.heap.size∧n<=cap∧cap<=maxLen∧(∀j u,xs[j]? =some u->w.cell? ⟨g,j,none⟩=some u)∧∀j,w.frozen? ⟨g,j,none⟩=false:=by
 rcases h.2 with⟨-,h0⟩|⟨g,cap,cur,hv,hH,hh,h1,h2,-⟩
 ·omega
 ·have hl:=h.lt g (by rw[hv];rfl)
  refine⟨g,cap,hv,hH,hl.2,h1,h2,fun j u hu=>?_,fun j=>?_⟩
  ·have:=h.cells (g:=g) (by rw[hv];rfl) j u hu
   rw[Addr.add_lit,Nat.zero_add] at this;exact this
  ·unfold frozen?;rw[hh];simp
theorem zC4 {w:World}{H e z n:Nat}{v:Value}{xs:List Value}(h:w.ownsRow H e z v n xs):∃ao cap,v=slice ao n cap∧n<=cap∧cap<=maxLen:=by
 rcases h.2 with⟨hv,h0⟩|⟨g,cap,cur,hv,hH,hh,h1,h2,-⟩
 ·exact⟨none,0,by rw[hv,h0],by omega,by unfold maxLen;omega⟩
 ·exact⟨_,cap,hv,h1,h2⟩
theorem zGr {α:Type}(l:List α)(p:α->Bool)(d:α)(j:Nat)(hj:j<l.length)(h:p (l.getD j d)=true)(hn:∀i,i<j->p (l.getD i d)=false):l.findIdx p=j:=by
 have hg:∀i (hi:i<l.length),l.getD i d=l[i]:=fun i hi=>by rw[lW,lV hi];rfl
 rw[List.findIdx_eq hj];refine⟨by rw[<-hg j hj];exact h,fun k hk=>?_⟩;rw[<-hg k (by omega)];exact hn k hk
theorem zIl {α:Type}(l:List α)(p:α->Bool)(d:α)(hn:∀i,i<l.length->p (l.getD i d)=false):l.findIdx p=l.length:=by
 apply List.findIdx_eq_length_of_false;intro x hx;obtain⟨i,hi,e⟩:=List.getElem_of_mem hx;have:=hn i hi;rw[lW,lV hi] at this;rw[<-e];exact this
def Sh.modeIx (sh:Sh)(nm:ByteArray):Nat:=sh.modes.findIdx fun m=>eqS m.1 nm
def Sh.modeI (sh:Sh)(nm:ByteArray):Int:=if sh.modeIx nm<sh.modes.length then(sh.modeIx nm:Int) else -1
def Sh.hasDefB (sh:Sh)(nm:ByteArray):Bool:=decide ((sh.defs.findIdx fun m=>eqS m.1 nm)<sh.defs.length)
theorem zC6 (w:World)(X:Nat->Prop)(S D:Nat)(sh:Sh)(mv dv av pv:Value)(rv:Nat->Value)(ps:Nat->List Nat)(dp:Nat->Nat)(h:Sw w X S D sh mv dv av pv rv ps dp)(hlen:sh.modes.length<=1000000)(nm:ByteArray):
  Calls prog 88 #[pointer (some ⟨S,0,none⟩),string nm] w fun e w'=>e=returned (int i64 (sh.modeI nm))∧Grew w w':=by
 have H1:Hid (∀j,j<sh.modes.length->eqS (sh.mode j).1 nm=true->(∀i,i<j->eqS (sh.mode i).1 nm=false)->sh.modeI nm=(j:Int)):=fun j hj hh hn=>by
  have e:sh.modeIx nm=j:=zGr sh.modes _ (⟨#[]⟩,[]) j hj hh hn;unfold Sh.modeI;rw[e,if_pos hj]
 have H2:Hid ((∀i,i<sh.modes.length->eqS (sh.mode i).1 nm=false)->sh.modeI nm=-1):=fun hn=>by
  have e:sh.modeIx nm=sh.modes.length:=zIl sh.modes _ (⟨#[]⟩,[]) hn;unfold Sh.modeI;rw[e,if_neg (by omega)]
 generalize sh.modeI nm=V at *;obtain⟨ao,cap0,hmv⟩:=zG h.mOwn;obtain⟨c0,-,-,-,-⟩:=h.cells;have HS:=vl h;have HMV:=vl hmv;rw[hmv] at c0;go_in;go_wp2;go_loopg [12] sh.modes.length (fun q i wr=>∃j:Nat,q=sh.modes.length-j∧j<=sh.modes.length∧i=int i64 (j:Int)∧(∀k,k<j->eqS (sh.mode k).1 nm=false)∧Grew w wr)
 case atStart=>exact⟨0,rfl,lX,rfl,fun k hk=>by omega,Keep.refl _ _ _⟩
 case round=>
  obtain⟨j,hgk,hj,rfl,hno,hk⟩:=hrel;have HA:Hid (gk=sh.modes.length-j∧(∀k,k<j->eqS (sh.mode k).1 nm=false)∧Grew w wr∧w.heap.size<=wr.heap.size):=⟨hgk,hno,hk,hk.size⟩
  by_cases hj2:j<sh.modes.length
  ·have i1:(j:Int)<(sh.modes.length:Int):=by omega
   obtain⟨mg,mc,hmv2,-,hmgl,-,-,hcl,-⟩:=qL HS.out.mOwn (by omega);rw[HMV.out] at hmv2;injection hmv2 with ea eb ec;subst ea ec;obtain⟨e1,e2⟩:=zA3 (fun i=>string (sh.mode i).1) rv sh.modes.length j hj2;have y0:=zA (hcl _ _ e1) hmgl hk;have y1:=zA (hcl _ _ e2) hmgl hk;obtain⟨ra,rc,hrv⟩:=zG (HS.out.rOwn j hj2);rw[hrv] at y1;obtain⟨wa,hwa,z0,HKa⟩:∃wa,wa=wr.alloc (.cells #[string (sh.mode j).1,(slice ra (sh.mode j).2.length rc)] 120)∧wa.cell? ⟨wr.heap.size,0,none⟩=some (string (sh.mode j).1)∧Hid (Grew w wa):=by
    have hb2:=gJ wr (.cells #[string (sh.mode j).1,(slice ra (sh.mode j).2.length rc)] 120);refine⟨_,rfl,?_,HA.out.2.2.1.trans (kZ _ _ HA.out.2.2.2)⟩;unfold cell?;rw[hb2];rfl
   have HH1:Hid (eqS (sh.mode j).1 nm=true->V=(j:Int)):=fun hh=>H1.out j hj2 hh HA.out.2.1;have HNO:Hid (eqS (sh.mode j).1 nm=false->∀k,k<j+1->eqS (sh.mode k).1 nm=false):=fun hh k hk=>by
    by_cases e:k=j
    ·rw[e];exact hh
    ·exact HA.out.2.1 k (by omega)
   apply wp_cut;intro K1 HK1;go_wp2;apply HK1.out;apply wp_cut;intro K1 HK1;go_wp2;apply HK1.out;apply wp_cut;intro KB HKB;refine wp_block ?_;apply wp_cut;intro K1 HK1;go_wp2;apply HK1.out;clear HK1;rw[<-hwa];clear hwa y0 y1;cases hc:eqS (sh.mode j).1 nm with
   |true=>
    have HV:=vl <| HH1.out hc;have hc2:((sh.mode j).1.toList==nm.toList)=true:=hc;clear HH1 HNO hc;go_wp2;go_ret;exact⟨by rw[HV.out];rfl,HKa.out⟩
   |false=>
    have HN2:=HNO.out hc;have hc2:((sh.mode j).1.toList==nm.toList)=false:=hc;clear HH1 HNO hc;go_wp2;apply HKB.out;clear HKB;go_wp2;go_roundg (sh.modes.length-(j+1))
    case measure=>rw[HA.out.1];omega
    case rel=>exact⟨j+1,rfl,by omega,by go_num,HN2,HKa.out⟩
  ·have i1:(sh.modes.length:Int)<=(j:Int):=by omega
   have HV:=vl <| H2.out fun k hk=>hno k (by omega);clear hgk hno hk;go_wp2;go_ret;exact⟨by rw[HV.out];rfl,HA.out.2.2.1⟩
theorem zDa (w:World)(X:Nat->Prop)(S D:Nat)(sh:Sh)(mv dv av pv:Value)(rv:Nat->Value)(ps:Nat->List Nat)(dp:Nat->Nat)(h:Sw w X S D sh mv dv av pv rv ps dp)(hlen:sh.defs.length<=1000000)(nm:ByteArray):
  Calls prog 161 #[pointer (some ⟨S,0,none⟩),string nm] w fun e w'=>e=returned (bool (sh.hasDefB nm))∧Grew w w':=by
 have H1:Hid (∀j,j<sh.defs.length->eqS (sh.defn j).1 nm=true->(∀i,i<j->eqS (sh.defn i).1 nm=false)->sh.hasDefB nm=true):=fun j hj hh hn=>by
  have e:(sh.defs.findIdx fun m=>eqS m.1 nm)=j:=zGr sh.defs _ (⟨#[]⟩,Tr.none) j hj hh hn;unfold Sh.hasDefB;rw[e];exact dW hj
 have H2:Hid ((∀i,i<sh.defs.length->eqS (sh.defn i).1 nm=false)->sh.hasDefB nm=false):=fun hn=>by
  have e:(sh.defs.findIdx fun m=>eqS m.1 nm)=sh.defs.length:=zIl sh.defs _ (⟨#[]⟩,Tr.none) hn;unfold Sh.hasDefB;rw[e];exact dY (by omega)
 generalize sh.hasDefB nm=V at *;obtain⟨ao,cap0,hmv⟩:=zG h.dOwn;obtain⟨-,c0,-,-,-⟩:=h.cells;have HS:=vl h;have HMV:=vl hmv;rw[hmv] at c0;go_in;go_wp2;go_loopg [12] sh.defs.length (fun q i wr=>∃j:Nat,q=sh.defs.length-j∧j<=sh.defs.length∧i=int i64 (j:Int)∧(∀k,k<j->eqS (sh.defn k).1 nm=false)∧Grew w wr)
 case atStart=>exact⟨0,rfl,lX,rfl,fun k hk=>by omega,Keep.refl _ _ _⟩
 case round=>
  obtain⟨j,hgk,hj,rfl,hno,hk⟩:=hrel;have HA:Hid (gk=sh.defs.length-j∧(∀k,k<j->eqS (sh.defn k).1 nm=false)∧Grew w wr∧w.heap.size<=wr.heap.size):=⟨hgk,hno,hk,hk.size⟩
  by_cases hj2:j<sh.defs.length
  ·have i1:(j:Int)<(sh.defs.length:Int):=by omega
   obtain⟨mg,mc,hmv2,-,hmgl,-,-,hcl,-⟩:=qL HS.out.dOwn (by omega);rw[HMV.out] at hmv2;injection hmv2 with ea eb ec;subst ea ec;obtain⟨e1,e2⟩:=zA3 (fun i=>string (sh.defn i).1) (fun i=>pointer (some ⟨dp i,0,none⟩)) sh.defs.length j hj2;have y0:=zA (hcl _ _ e1) hmgl hk;have y1:=zA (hcl _ _ e2) hmgl hk;obtain⟨wa,hwa,z0,HKa⟩:∃wa,wa=wr.alloc (.cells #[string (sh.defn j).1,(pointer (some ⟨dp j,0,none⟩))] 233)∧wa.cell? ⟨wr.heap.size,0,none⟩=some (string (sh.defn j).1)∧Hid (Grew w wa):=by
    have hb2:=gJ wr (.cells #[string (sh.defn j).1,(pointer (some ⟨dp j,0,none⟩))] 233);refine⟨_,rfl,?_,HA.out.2.2.1.trans (kZ _ _ HA.out.2.2.2)⟩;unfold cell?;rw[hb2];rfl
   have HH1:Hid (eqS (sh.defn j).1 nm=true->V=true):=fun hh=>H1.out j hj2 hh HA.out.2.1;have HNO:Hid (eqS (sh.defn j).1 nm=false->∀k,k<j+1->eqS (sh.defn k).1 nm=false):=fun hh k hk=>by
    by_cases e:k=j
    ·rw[e];exact hh
    ·exact HA.out.2.1 k (by omega)
   apply wp_cut;intro K1 HK1;go_wp2;apply HK1.out;apply wp_cut;intro K1 HK1;go_wp2;apply HK1.out;apply wp_cut;intro KB HKB;refine wp_block ?_;apply wp_cut;intro K1 HK1;go_wp2;apply HK1.out;clear HK1;rw[<-hwa];clear hwa y0 y1;cases hc:eqS (sh.defn j).1 nm with
   |true=>
    have HV:=vl <| HH1.out hc;have hc2:((sh.defn j).1.toList==nm.toList)=true:=hc;clear HH1 HNO hc;go_wp2;go_ret;exact⟨by rw[HV.out];rfl,HKa.out⟩
   |false=>
    have HN2:=HNO.out hc;have hc2:((sh.defn j).1.toList==nm.toList)=false:=hc;clear HH1 HNO hc;go_wp2;apply HKB.out;clear HKB;go_wp2;go_roundg (sh.defs.length-(j+1))
    case measure=>rw[HA.out.1];omega
    case rel=>exact⟨j+1,rfl,by omega,by go_num,HN2,HKa.out⟩
  ·have i1:(sh.defs.length:Int)<=(j:Int):=by omega
   have HV:=vl <| H2.out fun k hk=>hno k (by omega);clear hgk hno hk;go_wp2;go_ret;exact⟨by rw[HV.out];rfl,HA.out.2.2.1⟩
theorem zJu:(prog.info? 120).map (fun i=>(i.zero,i.size,i.bytes))=some (some (agg #[string ⟨#[]⟩,slice none 0 0]),2,40):=by kernel_rfl
def yA (sh:Sh)(nm:ByteArray):Option Sh:=if 3<=sh.modes.length then none else if 0<=sh.modeI nm then none else if xD nm then some (sh.addMode nm) else none
def LnAns (w:World)(S D:Nat)(a:Option Sh)(e:Ending)(w':World):Prop:=
 Keep S S w w'∧match a with
 |none=>e=returned (bool false)
 |some sh=>e=returned (bool true)∧SwIs w' S D sh
theorem zD4 (sh:Sh)(nm:ByteArray):sh.modeI nm=-1∨(0<=sh.modeI nm∧sh.modeI nm<sh.modes.length):=by
 unfold Sh.modeI;split
 ·right;omega
 ·left;rfl
theorem zEY (w:World)(X:Nat->Prop)(S D:Nat)(sh:Sh)(mv dv av pv:Value)(rv:Nat->Value)(ps:Nat->List Nat)(dp:Nat->Nat)(h:Sw w X S D sh mv dv av pv rv ps dp)(hlen:sh.modes.length<=1000000)(nm:ByteArray)(hs:nm.size<=1048576):
  Calls prog 120 #[pointer (some ⟨S,0,none⟩),string nm] w (LnAns w S D (yA sh nm)):=by
 obtain⟨i0,hi0,hz0,hz1,hz2⟩:=info_parts zJu;obtain⟨ao,cap0,hmv⟩:=zG h.mOwn;subst hmv;obtain⟨c0,-,-,-,-⟩:=h.cells;have HMO:=vl <| zC6 w X S D sh _ dv av pv rv ps dp h hlen nm;have HNM:Hid (∀w,Ca 160 #[string nm] w fun e w'=>e=returned (bool (xD nm))∧w'=w):=fun w=>vM w nm hs;have HS:=vl h;have hlS:=h.lt;have HLS:Hid (∀w1,Grew w w1->Keep S S w w1):=fun w1 hk=>hk.lower (Nat.le_of_lt hlS) (Nat.le_of_lt hlS);have HM:Hid (yA sh nm=if 3<=sh.modes.length then none else if 0<=sh.modeI nm then none else if xD nm then some (sh.addMode nm) else none):=rfl;by_cases h3:3<=sh.modes.length
 ·have HV:Hid (yA sh nm=none):=by show _=_;rw[HM.out,if_pos h3]
  have j3:(3:Int)<=(sh.modes.length:Int):=by omega
  rw[HV.out];go_in;go_wp2;go_ret;exact⟨Keep.refl _ _ _,rfl⟩
 have j3:(sh.modes.length:Int)<3:=by omega
 rcases zD4 sh nm with hmi|⟨hmi,-⟩
 ·rw[hmi] at HMO
  have HMO2:=vl HMO;cases hn:xD nm with
  |false=>
   rw[hn] at HNM;have HNM2:=vl HNM;have HV:Hid (yA sh nm=none):=by show _=_;rw[HM.out,if_neg h3,if_neg (by rw[hmi];decide),hn];rfl
   rw[HV.out];go_in;go_wp2_with (first|(go_at_call 88;refine HMO2.out.mono ?_;rintro e w1 ⟨rfl,hk1⟩)|(go_at_call 160;refine(HNM2.out _).mono ?_;rintro e w9 ⟨rfl,hw9⟩;have hw8:=hw9.symm;subst hw8))
   go_ret;exact⟨HLS.out _ hk1,rfl⟩
  |true=>
   rw[hn] at HNM;have HNM2:=vl HNM;have HV:Hid (yA sh nm=some (sh.addMode nm)):=by show _=_;rw[HM.out,if_neg h3,if_neg (by rw[hmi];decide),hn];rfl
   rw[HV.out];go_in;apply wp_cut;intro K0 J;go_wp2;apply J.out;apply wp_cut;intro K0 J;go_wp2_with (first|(go_at_call 88;refine HMO2.out.mono ?_;rintro e w1 ⟨rfl,hk1⟩)|(go_at_call 160;refine(HNM2.out _).mono ?_;rintro e w9 ⟨rfl,hw9⟩;have hw8:=hw9.symm;subst hw8))
   apply J.out;have h1:=HS.out.grown hk1;have H1:Hid (Sw w1 X S D sh (slice ao sh.modes.length cap0) dv av pv rv ps dp∧Keep S S w w1):=⟨h1,HLS.out _ hk1⟩
   obtain⟨x0,-,-,-,xf⟩:=h1.cells;have xf0:=xf 0;have OW:=h1.mOwn;have hlt1:=h1.lt;have HNP:=vl <| zM h1.mOwn h1.blk (by decide);apply wp_cut;intro K0 J;go_wp2_with (first|(at_builtin;refine wpList_append_lies _ rfl _ _ 77 rfl (S+1) 120 i0 (agg #[string ⟨#[]⟩,slice none 0 0]) 2 40 underlying77 hi0 hz0 hz1 hz2 rfl (by decide) _ _ _ rfl (OW.alloc _) ⟨w1.heap.size,0,none⟩ 1 1 [string nm,slice none 0 0] rfl rfl (news_of_block (cs:=#[string nm,slice none 0 0]) (t:=120) (fr:=(0,0)) (gJ w1 _)) (by simp[Value.oneCell']) (by decide) (by unfold maxLen;omega) (by omega) (by simp;omega) _ rfl ?_;intro gg cap w2 hown hgrow hat hlt;have hPB:=hgrow.block S (by simp;omega) HNP.out;have x0b:=(gG hPB).trans ((dX _ _ _ hlt1).trans x0);have xf0b:=(dQ hPB).trans ((frozen?_alloc_past _ _ _ hlt1).trans xf0)))
   apply J.out;obtain⟨w3,hw3,H3⟩:∃w3,w3=w2.setCell ⟨S,0,none⟩ (slice (some ⟨gg,0,none⟩) (sh.modes.length+1) cap)∧Hid (SwIs w3 S D (sh.addMode nm)∧Keep S S w w3):=by
    obtain⟨q1,q2⟩:=H1.out.1.appMode hown hgrow (by rcases hat with ha|ha;exact .inl ha;right;rw[ha];simp);exact⟨_,rfl,⟨X,_,dv,av,pv,_,_,dp,q1⟩,H1.out.2.trans ((q2.keep H1.out.1.mOwn H1.out.1.lt).lower (Nat.le_succ S) (Nat.le_refl S))⟩
   rw[<-hw3];go_wp2;go_ret;exact⟨H3.out.2,rfl,H3.out.1⟩
 ·have HV:Hid (yA sh nm=none):=by show _=_;rw[HM.out,if_neg h3,if_pos hmi]
  rw[HV.out];generalize sh.modeI nm=mi at *;go_in;go_wp2_with (first|(go_at_call 88;refine HMO.out.mono ?_;rintro e w1 ⟨rfl,hk1⟩))
  go_ret;exact⟨HLS.out _ hk1,rfl⟩
section
variable (w:World) (X:Nat->Prop) (S D:Nat) (sh:Sh) (mv dv av pv:Value)
theorem zNp:(prog.info? 233).map (fun i=>(i.zero,i.size,i.bytes))=some (some (agg #[string ⟨#[]⟩,pointer none]),2,24):=by kernel_rfl
structure ShOk (sh:Sh)(D:Nat):Prop where
 modes:sh.modes.length<=3
 defs:sh.defs.length<=4
 acts:sh.acts.length<=8
 same:sh.pushed.length=sh.acts.length
 names:∀i,i<sh.defs.length->(sh.defn i).1.size<=6
 trees:zA0 D sh.defs
 rules:∀i,i<sh.modes.length->∀t∈(sh.mode i).2,TrOk D t
theorem Sw.defsIn {w:World}{X:Nat->Prop}{S D:Nat}{sh:Sh}{mv dv av pv:Value}{rv:Nat->Value}{ps:Nat->List Nat}{dp:Nat->Nat}(h:Sw w X S D sh mv dv av pv rv ps dp)(hn:∀i,i<sh.defs.length->(sh.defn i).1.size<=6):DefsIn w.heap.size X w D dv sh.defs:=by
 obtain⟨ao,cap,hv,h1,h2⟩:=zC4 h.dOwn;refine⟨ao,cap,hv,h1,h2,fun i hi=>?_⟩;obtain⟨g,cap2,hv2,-,hg,-,-,hc,-⟩:=qL h.dOwn (by omega);rw[hv] at hv2;injection hv2 with e1 e2 e3;obtain⟨p1,p2⟩:=zA3 (fun i=>string (sh.defn i).1) (fun i=>pointer (some ⟨dp i,0,none⟩)) sh.defs.length i hi;refine⟨g,0,dp i,e1,hg,hg,?_,?_,h.dTree i hi,lY (hn i hi) (by omega)⟩
 ·rw[Nat.zero_add];exact hc _ _ p1
 ·rw[Nat.zero_add];exact hc _ _ p2
theorem zBo {w w1 w2:World}(h1:Grew w w1)(h2:Grew w1 w2):Grew w w2:=h1.trans (h2.lower h1.size h1.size)
def vD (sh:Sh)(s:ByteArray):Option Sh:=
 if jS s 32 then if 4<=sh.defs.length then none else if sh.hasDefB (xX s 32) then none else if xD (xX s 32) then(match vO (yK s 32) sh.defs with
  |none=>none
  |some t=>some (sh.addDef (xX s 32) t)) else none else none
theorem zDO (s:ByteArray)(c:Nat):(xX s c).size<=s.size:=by
 unfold xX;split
 ·rw[ByteArray.size_extract];omega
 ·exact lQ
theorem jD (s:ByteArray)(c:Nat):(yK s c).size<=s.size:=by
 unfold yK;split
 ·rw[ByteArray.size_extract];omega
 ·exact lX
theorem zMj (rv:Nat->Value)(ps:Nat->List Nat)(dp:Nat->Nat)(h:Sw w X S D sh mv dv av pv rv ps dp)(ok:ShOk sh D)(s:ByteArray)(hs:s.size<=1000)(A B:ByteArray)(K:Bool)(hA:A.size<=1000)(hB:B.size<=1000)(hcut:∀w,Calls prog 86 #[string s,int .u8 32] w fun e w'=>e=returned (tuple #[string A,string B,bool K])∧Grew w w')(hno:¬(K=true∧¬4<=sh.defs.length∧sh.hasDefB A=false∧xD A=true∧∃t,vO B sh.defs=some t)):
  Calls prog 121 #[pointer (some ⟨S,0,none⟩),string s] w (LnAns w S (D+2+4*s.size) (none)):=by
 obtain⟨ao,cap0,hdv⟩:=zG h.dOwn;subst hdv;have hlS:=h.lt;have HLS:Hid (∀w1,Grew w w1->Keep S S w w1):=fun w1 hk=>hk.lower (Nat.le_of_lt hlS) (Nat.le_of_lt hlS);have HSG:Hid (∀w1,Grew w w1->Sw w1 X S D sh mv (slice ao sh.defs.length cap0) av pv rv ps dp):=fun w1 hk=>h.grown hk;have HTR:=vl fun w1 w2=>zBo (w:=w) (w1:=w1) (w2:=w2);have HCU:=vl (hcut w);have OK:=vl ok;have j4:=Nat.lt_or_ge sh.defs.length 4;have HHD:=vl fun(w1:World) (hk:Grew w w1)=>zDa w1 X S D sh _ _ av pv rv ps dp (HSG.out w1 hk) (by have:=OK.out.defs;omega) A;have HNM:=vl fun w=>vM w A (by omega);have HRD:=vl fun(w2:World) (hk:Grew w w2)=>jN w2 X B (slice ao sh.defs.length cap0) (by omega) D sh.defs ((HSG.out w2 hk).defsIn OK.out.names) (by have:=OK.out.defs;omega) OK.out.trees;go_in;rcases K with _|_;rotate_left;rcases j4 with j4|j4;rcases hhd:sh.hasDefB A with _|_;rcases hnm:xD A with _|_;rotate_left;rcases hrm:vO B sh.defs with _|t;rotate_left
 ·exact absurd ⟨rfl,by omega,hhd,hnm,t,hrm⟩ hno
 all_goals
  try rw[hhd] at HHD
  try rw[hnm] at HNM
  try rw[hrm] at HRD
  try have i4:(sh.defs.length:Int)<4:=by omega
  try have i4:(4:Int)<=(sh.defs.length:Int):=by omega
  go_wp2_with (first|(go_at_call 86;refine HCU.out.mono ?_;rintro e w1 ⟨rfl,hk1⟩;have c1b:=(HSG.out w1 hk1).cells.2.1)|(go_at_call 161;refine(HHD.out w1 hk1).mono ?_;rintro e w2 ⟨rfl,hk2⟩;have HK2:=vl (HTR.out _ _ hk1 hk2);have d1:=(HSG.out w2 HK2.out).cells.2.1)|(go_at_call 160;refine(HNM.out _).mono ?_;rintro e w9 ⟨rfl,hw9⟩;have hw8:=hw9.symm;subst hw8)|(go_at_call 162;refine(HRD.out w2 HK2.out).mono ?_;rintro e w3 ⟨hk3,rfl⟩))
  go_ret
  first|exact⟨HLS.out _ (HTR.out _ _ HK2.out hk3),rfl⟩|exact⟨HLS.out _ HK2.out,rfl⟩|exact⟨HLS.out _ hk1,rfl⟩
theorem zOA (rv:Nat->Value)(ps:Nat->List Nat)(dp:Nat->Nat)(h:Sw w X S D sh mv dv av pv rv ps dp)(ok:ShOk sh D)(s:ByteArray)(hs:s.size<=1000)(A B:ByteArray)(K:Bool)(hA:A.size<=1000)(hB:B.size<=1000)(hcut:∀w,Calls prog 86 #[string s,int .u8 32] w fun e w'=>e=returned (tuple #[string A,string B,bool K])∧Grew w w')(hBs:B.size<=s.size)(hK:K=true)(h4:¬4<=sh.defs.length)(hhd:sh.hasDefB A=false)(hnm:xD A=true)(t:Tr)(hrm:vO B sh.defs=some t):
  Calls prog 121 #[pointer (some ⟨S,0,none⟩),string s] w (LnAns w S (D+2+4*s.size) (some (sh.addDef A t))):=by
 obtain⟨ao,cap0,hdv⟩:=zG h.dOwn;subst hdv;have hlS:=h.lt;have HLS:Hid (∀w1,Grew w w1->Keep S S w w1):=fun w1 hk=>hk.lower (Nat.le_of_lt hlS) (Nat.le_of_lt hlS);have HSG:Hid (∀w1,Grew w w1->Sw w1 X S D sh mv (slice ao sh.defs.length cap0) av pv rv ps dp):=fun w1 hk=>h.grown hk;have HTR:=vl fun w1 w2=>zBo (w:=w) (w1:=w1) (w2:=w2);have HCU:=vl (hcut w);have OK:=vl ok;subst hK;obtain⟨i0,hi0,hz0,hz1,hz2⟩:=info_parts zNp;have j4:(sh.defs.length:Int)<4:=by omega
 have HHD:Hid (∀w1,Grew w w1->Ca 161 #[pointer (some ⟨S,0,none⟩),string A] w1 fun e w'=>e=returned (bool false)∧Grew w1 w'):=fun w1 hk=>by have:=zDa w1 X S D sh _ _ av pv rv ps dp (HSG.out w1 hk) (by have:=OK.out.defs;omega) A;rw[hhd] at this;exact this
 have HNM:Hid (∀w,Ca 160 #[string A] w fun e w'=>e=returned (bool true)∧w'=w):=fun w=>by have:=vM w A (by omega);rw[hnm] at this;exact this
 have HRD:Hid (∀w2,Grew w w2->Ca 162 #[string B,slice ao sh.defs.length cap0] w2 (zHp w2 X (D+2+4*B.size) (some t))):=fun w2 hk=>by have:=jN w2 X B _ (by omega) D sh.defs ((HSG.out w2 hk).defsIn OK.out.names) (by have:=OK.out.defs;omega) OK.out.trees;rw[hrm] at this;exact this
 go_in;apply wp_cut;intro K0 J;go_wp2;apply J.out;apply wp_cut;intro K0 J;go_wp2_with (first|(go_at_call 86;refine HCU.out.mono ?_;rintro e w1 ⟨rfl,hk1⟩;have c1b:=(HSG.out w1 hk1).cells.2.1))
 apply J.out;apply wp_cut;intro K0 J;go_wp2_with (first|(go_at_call 161;refine(HHD.out w1 hk1).mono ?_;rintro e w2 ⟨rfl,hk2⟩)|(go_at_call 160;refine(HNM.out _).mono ?_;rintro e w9 ⟨rfl,hw9⟩;have hw8:=hw9.symm;subst hw8))
 apply J.out;have HK2:=vl <| HTR.out _ _ hk1 hk2;have d1:=(HSG.out w2 HK2.out).cells.2.1;apply wp_cut;intro K0 J;go_wp2_with (first|(go_at_call 162;refine(HRD.out w2 HK2.out).mono ?_;rintro e w3 ⟨hk3,p,rfl,ht3⟩))
 apply J.out;apply wp_cut;intro K0 J;go_wp2;apply J.out;obtain⟨Y,H3⟩:∃Y,Hid (Sw w3 Y S (D+2+4*s.size) sh mv (slice ao sh.defs.length cap0) av pv rv ps dp∧TreeIn Y w3 (D+2+4*s.size) p t∧Keep S S w w3):=by
  refine⟨_,((HSG.out w2 HK2.out).more hk3).deep (by omega),(TreeIn.deep ht3 (by omega)).mono fun i hi hx=>?_,HLS.out _ (HTR.out _ _ HK2.out hk3)⟩;rcases hx with hx|hx
  ·exact .inl hx.1
  ·exact .inr ⟨hx,hi⟩
 obtain⟨-,x1,-,-,xf⟩:=H3.out.1.cells;have xf1:=xf 1;have OW:=H3.out.1.dOwn;have hlt1:=H3.out.1.lt;have HNP:=vl <| zM H3.out.1.dOwn H3.out.1.blk (by decide);apply wp_cut;intro K0 J;go_wp2_with (first|(at_builtin;refine wpList_append_lies _ rfl _ _ 112 rfl (S+1) 233 i0 (agg #[string ⟨#[]⟩,pointer none]) 2 24 underlying112 hi0 hz0 hz1 hz2 rfl (by decide) _ _ _ rfl (OW.alloc _) ⟨w3.heap.size,0,none⟩ 1 1 [string A,pointer (some ⟨p,0,none⟩)] rfl rfl (news_of_block (cs:=#[string A,pointer (some ⟨p,0,none⟩)]) (t:=233) (fr:=(0,0)) (gJ w3 _)) (by simp[Value.oneCell']) (by decide) (by unfold maxLen;omega) (by omega) (by simp;omega) _ rfl ?_;intro gg cap w4 hown hgrow hat hlt;have hPB:=hgrow.block S (by simp;omega) HNP.out;have x1b:=(gG hPB).trans ((dX _ _ _ hlt1).trans x1);have xf1b:=(dQ hPB).trans ((frozen?_alloc_past _ _ _ hlt1).trans xf1)))
 apply J.out;obtain⟨w5,hw5,H5⟩:∃w5,w5=w4.setCell ⟨S,1,none⟩ (slice (some ⟨gg,0,none⟩) (sh.defs.length+1) cap)∧Hid (SwIs w5 S (D+2+4*s.size) (sh.addDef A t)∧Keep S S w w5):=by
  obtain⟨q1,q2⟩:=H3.out.1.appDef H3.out.2.1 hown hgrow (by rcases hat with ha|ha;exact .inl ha;right;rw[ha];simp);exact⟨_,rfl,⟨Y,mv,_,av,pv,rv,ps,_,q1⟩,H3.out.2.2.trans ((q2.keep H3.out.1.dOwn H3.out.1.lt).lower (Nat.le_succ S) (Nat.le_refl S))⟩
 rw[<-hw5];go_wp2;go_ret;exact⟨H5.out.2,rfl,H5.out.1⟩
theorem zFN (rv:Nat->Value)(ps:Nat->List Nat)(dp:Nat->Nat)(h:Sw w X S D sh mv dv av pv rv ps dp)(ok:ShOk sh D)(s:ByteArray)(hs:s.size<=1000):
  Calls prog 121 #[pointer (some ⟨S,0,none⟩),string s] w (LnAns w S (D+2+4*s.size) (vD sh s)):=by
 have hA:=lY (zDO s 32) hs;have hB:=lY (jD s 32) hs;have hcut:∀w,Calls prog 86 #[string s,int .u8 32] w fun e w'=>e=returned (tuple #[string (xX s 32),string (yK s 32),bool (jS s 32)])∧Grew w w':=fun w=>zCi w s (by omega) 32;have no:=zMj w X S D sh mv dv av pv rv ps dp h ok s hs _ _ _ hA hB hcut;unfold vD;cases hK:jS s 32 with
 |false=>exact no fun g=>by rw[hK] at g;exact Bool.noConfusion g.1
 |true=>
 rw[if_pos rfl];by_cases h4:4<=sh.defs.length
 ·rw[if_pos h4]
  exact no fun g=>g.2.1 h4
 rw[if_neg h4];cases hhd:sh.hasDefB (xX s 32) with
 |true=>exact no fun g=>by rw[hhd] at g;exact Bool.noConfusion g.2.2.1
 |false=>
 rw[if_neg (by decide)];cases hnm:xD (xX s 32) with
 |false=>exact no fun g=>by rw[hnm] at g;exact Bool.noConfusion g.2.2.2.1
 |true=>
 rw[if_pos rfl];cases hrm:vO (yK s 32) sh.defs with
 |none=>exact no fun g=>by obtain⟨t,ht⟩:=g.2.2.2.2;rw[hrm] at ht;cases ht
 |some t=>exact zOA w X S D sh mv dv av pv rv ps dp h ok s hs _ _ _ hA hB hcut (jD s 32) hK h4 hhd hnm t hrm
end
def qK (sh:Sh)(nm s:ByteArray):Option Sh:=
 if jS s 32 then if sh.modes.length=0 then none else if 8<=sh.acts.length then none else if xD nm then(if (zAv (xX s 32)).ok then(match vO (yK s 32) sh.defs with
  |none=>none
  |some t=>some (((sh.addAct (zAv (xX s 32)).act).addPush (zAv (xX s 32)).name).addRule (sh.modes.length-1) t)) else none) else none else none
theorem zHY (w:World)(X:Nat->Prop)(S D:Nat)(sh:Sh)(mv dv av pv:Value)(rv:Nat->Value)(ps:Nat->List Nat)(dp:Nat->Nat)(h:Sw w X S D sh mv dv av pv rv ps dp)(ok:ShOk sh D)(nm s:ByteArray)(hs:s.size<=1000)(hnz:nm.size<=1000)(A B:ByteArray)(K:Bool)(hA:A.size<=1000)(hB:B.size<=1000)(hcut:∀w,Calls prog 86 #[string s,int .u8 32] w fun e w'=>e=returned (tuple #[string A,string B,bool K])∧Grew w w')(hno:¬(K=true∧¬sh.modes.length=0∧¬8<=sh.acts.length∧xD nm=true∧(zAv A).ok=true∧∃t,vO B sh.defs=some t)):
  Calls prog 122 #[pointer (some ⟨S,0,none⟩),string nm,string s] w (LnAns w S (D+2+4*s.size) (none)):=by
 obtain⟨am,cm,hmv⟩:=zG h.mOwn;obtain⟨ad,cd,hdv⟩:=zG h.dOwn;obtain⟨aa,ca,hav⟩:=zG h.aOwn;obtain⟨ap,cp,hpv⟩:=zG h.pOwn;subst hmv hdv hav hpv;have hlS:=h.lt;have HLS:Hid (∀w1,Grew w w1->Keep S S w w1):=fun w1 hk=>hk.lower (Nat.le_of_lt hlS) (Nat.le_of_lt hlS);have HSG:Hid (∀w1,Grew w w1->Sw w1 X S D sh (slice am sh.modes.length cm) (slice ad sh.defs.length cd) (slice aa sh.acts.length ca) (slice ap sh.pushed.length cp) rv ps dp):=fun w1 hk=>h.grown hk;have HTR:=vl fun w1 w2=>zBo (w:=w) (w1:=w1) (w2:=w2);have HCU:=vl (hcut w);have OK:=vl ok;have hmb:=ok.modes;have hab:=ok.acts;have j0:=Nat.eq_zero_or_pos sh.modes.length;have j8:=Nat.lt_or_ge sh.acts.length 8;have HNM:=vl fun w=>vM w nm (by omega);have HAC:=vl fun w=>zCl w A (by omega);have HRD:=vl fun(w2:World) (hk:Grew w w2)=>jN w2 X B (slice ad sh.defs.length cd) (by omega) D sh.defs ((HSG.out w2 hk).defsIn OK.out.names) (by have:=OK.out.defs;omega) OK.out.trees;generalize zAv A=ac at *;go_in;rcases K with _|_;rotate_left;rcases j0 with j0|j0;rotate_left;rcases j8 with j8|j8;rcases hnm:xD nm with _|_;rotate_left;rcases hok:ac.ok with _|_;rcases hrm:vO B sh.defs with _|t;rotate_left 2;rcases hrm:vO B sh.defs with _|t;rotate_left
 ·exact absurd ⟨rfl,by omega,by omega,hnm,hok,t,hrm⟩ hno
 all_goals
  try rw[hnm] at HNM
  try rw[hok] at HAC
  try rw[hrm] at HRD
  try have i0:((sh.modes.length:Int)-1)<0:=by omega
  try have i0:¬((sh.modes.length:Int)-1)<0:=by omega
  try have i8:(sh.acts.length:Int)<8:=by omega
  try have i8:(8:Int)<=(sh.acts.length:Int):=by omega
  go_wp2_with (first|(go_at_call 86;refine HCU.out.mono ?_;rintro e w1 ⟨rfl,hk1⟩;have c0b:=(HSG.out w1 hk1).cells.1;have c2b:=(HSG.out w1 hk1).cells.2.2.1)|(go_at_call 160;refine(HNM.out _).mono ?_;rintro e w9 ⟨rfl,hw9⟩;have hw8:=hw9.symm;subst hw8)|(go_at_call 163;refine(HAC.out w1).mono ?_;rintro e w2 ⟨rfl,hk2⟩;have HK2:=vl <| HTR.out _ _ hk1 hk2;have d1:=(HSG.out w2 HK2.out).cells.2.1)|(go_at_call 162;refine(HRD.out w2 HK2.out).mono ?_;first|rintro e w3 ⟨hk3,rfl⟩|rintro e w3 ⟨hk3,p,rfl,ht3⟩))
  go_ret
  first|exact⟨HLS.out _ (HTR.out _ _ HK2.out hk3),rfl⟩|exact⟨HLS.out _ hk1,rfl⟩
section
attribute [local go_sem ↓] Go.wp_at_zero Go.wp_at_succ
theorem zN3 (w:World)(X:Nat->Prop)(S D:Nat)(sh:Sh)(mv dv av pv:Value)(rv:Nat->Value)(ps:Nat->List Nat)(dp:Nat->Nat)(h:Sw w X S D sh mv dv av pv rv ps dp)(ok:ShOk sh D)(nm s:ByteArray)(hs:s.size<=1000)(hnz:nm.size<=1000)(A B:ByteArray)(K:Bool)(hA:A.size<=1000)(hB:B.size<=1000)(hcut:∀w,Calls prog 86 #[string s,int .u8 32] w fun e w'=>e=returned (tuple #[string A,string B,bool K])∧Grew w w')(hBs:B.size<=s.size)(hK:K=true)(k:Nat)(hk:sh.modes.length=k+1)(hrb:(sh.mode k).2.length<=1000000)(h8:¬8<=sh.acts.length)(hnm:xD nm=true)(ac:Ac)(hac:zAv A=ac)(hok:ac.ok=true)(t:Tr)(hrm:vO B sh.defs=some t):
  Calls prog 122 #[pointer (some ⟨S,0,none⟩),string nm,string s] w (LnAns w S (D+2+4*s.size) (some (((sh.addAct ac.act).addPush ac.name).addRule k t))):=by
 obtain⟨am,cm,hmv⟩:=zG h.mOwn;obtain⟨ad,cd,hdv⟩:=zG h.dOwn;obtain⟨aa,ca,hav⟩:=zG h.aOwn;obtain⟨ap,cp,hpv⟩:=zG h.pOwn;subst hmv hdv hav hpv;have hlS:S<w.heap.size:=h.lt;have HLS:Hid (∀w1,Grew w w1->Keep S S w w1):=fun w1 hk=>hk.lower (Nat.le_of_lt hlS) (Nat.le_of_lt hlS);have HSG:Hid (∀w1,Grew w w1->Sw w1 X S D sh (slice am sh.modes.length cm) (slice ad sh.defs.length cd) (slice aa sh.acts.length ca) (slice ap sh.pushed.length cp) rv ps dp):=fun w1 hk=>h.grown hk;have HTR:=vl fun w1 w2=>zBo (w:=w) (w1:=w1) (w2:=w2);have HCU:=vl (hcut w);have OK:=vl ok;have hmb:=ok.modes;have hab:=ok.acts;subst hK;have j0:¬((k:Int))<0:=by omega
 have HEK:Hid (((sh.modes.length:Int)-1)=(k:Int)):=by show _=_;omega
 have hkl:k<sh.modes.length:=by omega
 have i2:(k:Int)<(sh.modes.length:Int):=by omega
 have HPO:Hid (0<sh.modes.length):=by show 0<_;omega
 clear hk;obtain⟨i0,hi0,hz0,hz1,hz2⟩:=info_parts yL;have j8:(sh.acts.length:Int)<8:=by omega
 clear h8;have HNM:Hid (∀w,Ca 160 #[string nm] w fun e w'=>e=returned (bool true)∧w'=w):=fun w=>by have:=vM w nm (by omega);rw[hnm] at this;exact this
 have HAC:Hid (∀w,Ca 163 #[string A] w fun e w'=>e=returned (tuple #[int i64 (ac.act:Int),string ac.name,bool true])∧Grew w w'):=fun w=>by have:=zCl w A (by omega);rw[hac,hok] at this;exact this
 have HRD:Hid (∀w2,Grew w w2->Ca 162 #[string B,slice ad sh.defs.length cd] w2 (zHp w2 X (D+2+4*B.size) (some t))):=fun w2 hk=>by have:=jN w2 X B _ (by omega) D sh.defs ((HSG.out w2 hk).defsIn OK.out.names) (by have:=OK.out.defs;omega) OK.out.trees;rw[hrm] at this;exact this
 clear hnm hac hok hrm;clear h hlS hcut ok;go_in;apply wp_cut;intro K0 J;go_wp2;apply J.out;clear J;apply wp_cut;intro K0 J;go_wp2_with (first|(go_at_call 86;refine HCU.out.mono ?_;rintro e w1 ⟨rfl,hk1⟩;have c0b:w1.cell? ⟨S,0,none⟩=some (slice am sh.modes.length cm):=(HSG.out w1 hk1).cells.1;have c2b:w1.cell? ⟨S,2,none⟩=some (slice aa sh.acts.length ca):=(HSG.out w1 hk1).cells.2.2.1))
 apply J.out;clear J;apply wp_cut;intro K0 J;go_wp2;apply J.out;clear J;rw[HEK.out];apply wp_cut;intro K0 J;go_wp2_with (first|(go_at_call 160;refine(HNM.out _).mono ?_;rintro e w9 ⟨rfl,hw9⟩;have hw8:=hw9.symm;subst hw8))
 apply J.out;clear J;apply wp_cut;intro K0 J;go_wp2_with (first|(go_at_call 163;refine(HAC.out w1).mono ?_;rintro e w2 ⟨rfl,hk2⟩;have HK2:=vl <| HTR.out _ _ hk1 hk2;have d1:w2.cell? ⟨S,1,none⟩=some (slice ad sh.defs.length cd):=(HSG.out w2 HK2.out).cells.2.1))
 apply J.out;clear J;clear c0b c2b hk1 hk2;apply wp_cut;intro K0 J;go_wp2_with (first|(go_at_call 162;refine(HRD.out w2 HK2.out).mono ?_;rintro e w3 ⟨hk3,p,rfl,ht3⟩))
 apply J.out;clear J;apply wp_cut;intro K0 J;go_wp2;apply J.out;clear J;obtain⟨Y,H3⟩:∃Y,Hid (Sw w3 Y S (D+2+4*s.size) sh (slice am sh.modes.length cm) (slice ad sh.defs.length cd) (slice aa sh.acts.length ca) (slice ap sh.pushed.length cp) rv ps dp∧TreeIn Y w3 (D+2+4*s.size) p t∧Keep S S w w3):=by
  refine⟨_,((HSG.out w2 HK2.out).more hk3).deep (by omega),(TreeIn.deep ht3 (by omega)).mono fun i hi hx=>?_,HLS.out _ (HTR.out _ _ HK2.out hk3)⟩;rcases hx with hx|hx
  ·exact .inl hx.1
  ·exact .inr ⟨hx,hi⟩
 clear d1 hk3 ht3;obtain⟨-,-,xx,-,xf⟩:=H3.out.1.cells;have xf2:=xf 2;have OW:w3.ownsRow (S+1) 3 1 (slice aa sh.acts.length ca) sh.acts.length (sh.acts.map fun x:Nat=>int i64 (x:Int)):=H3.out.1.aOwn;have hlt1:S<w3.heap.size:=H3.out.1.lt;have HNP:=vl <| zM H3.out.1.aOwn H3.out.1.blk (by decide);clear xf;apply wp_cut;intro K0 J;go_wp2_with (first|(at_builtin;refine wpList_append_lies _ rfl _ _ 45 rfl (S+1) 3 i0 (int i64 0) 1 8 underlying45 hi0 hz0 hz1 hz2 rfl (by decide) _ _ _ rfl (OW.alloc _) ⟨w3.heap.size,0,none⟩ 1 1 [int i64 (ac.act:Int)] rfl rfl (cell_one_new _ _ _) (by intro u hu;simp at hu;subst hu;rfl) (by decide) (by unfold maxLen;omega) (by omega) (by simp;omega) _ rfl ?_;intro gg cap w4 hown hgrow hat hlt;have hPB:=hgrow.block S (by simp;omega) HNP.out;have xxb:w4.cell? ⟨S,2,none⟩=some (slice aa sh.acts.length ca):=(gG hPB).trans ((dX _ _ _ hlt1).trans xx);have xfb:w4.frozen? ⟨S,2,none⟩=false:=(dQ hPB).trans ((frozen?_alloc_past _ _ _ hlt1).trans xf2)))
 apply J.out;clear J;obtain⟨w5,hw5,v5,H5⟩:∃w5,w5=w4.setCell ⟨S,2,none⟩ (slice (some ⟨gg,0,none⟩) (sh.acts.length+1) cap)∧∃v5,Hid (Sw w5 Y S (D+2+4*s.size) (sh.addAct ac.act) (slice am sh.modes.length cm) (slice ad sh.defs.length cd) v5 (slice ap sh.pushed.length cp) rv ps dp∧TreeIn Y w5 (D+2+4*s.size) p t∧Keep S S w w5):=by
  obtain⟨q1,q2⟩:=H3.out.1.appAct (x:=ac.act) hown hgrow (by rcases hat with ha|ha;exact .inl ha;right;rw[ha];simp);exact⟨_,rfl,_,q1,vZ q2 H3.out.2.1 (fun q hq=>⟨Nat.ne_of_gt (H3.out.1.xlt q hq).1,(H3.out.1.xm q hq).2.2.1⟩),H3.out.2.2.trans ((q2.keep H3.out.1.aOwn H3.out.1.lt).lower (Nat.le_succ S) (Nat.le_refl S))⟩
 rw[<-hw5];clear hw5 hown hgrow hat hlt hPB xxb xfb OW HNP hlt1 xx xf2 H3;obtain⟨-,-,-,xx,xf⟩:=H5.out.1.cells;have xf2:=xf 3;have OW:w5.ownsRow (S+1) 9 1 (slice ap sh.pushed.length cp) sh.pushed.length (sh.pushed.map fun x=>string x):=H5.out.1.pOwn;have hlt1:S<w5.heap.size:=H5.out.1.lt;have HNP:=vl <| zM H5.out.1.pOwn H5.out.1.blk (by decide);have hpb:sh.pushed.length<=8:=by have:=OK.out.same;omega
 clear xf;obtain⟨i0,hi0,hz0,hz1,hz2⟩:=info_parts zKd;apply wp_cut;intro K0 J;go_wp2_with (first|(at_builtin;refine wpList_append_lies _ rfl _ _ 108 rfl (S+1) 9 i0 (string ⟨#[]⟩) 1 16 underlying108 hi0 hz0 hz1 hz2 rfl (by decide) _ _ _ rfl (OW.alloc _) ⟨w5.heap.size,0,none⟩ 1 1 [string ac.name] rfl rfl (cell_one_new _ _ _) (by intro u hu;simp at hu;subst hu;rfl) (by decide) (by unfold maxLen;omega) (by omega) (by simp;omega) _ rfl ?_;intro gg cap w4 hown hgrow hat hlt;have hPB:=hgrow.block S (by simp;omega) HNP.out;have xxb:w4.cell? ⟨S,3,none⟩=some (slice ap sh.pushed.length cp):=(gG hPB).trans ((dX _ _ _ hlt1).trans xx);have xfb:w4.frozen? ⟨S,3,none⟩=false:=(dQ hPB).trans ((frozen?_alloc_past _ _ _ hlt1).trans xf2)))
 apply J.out;clear J;obtain⟨w7,hw7,v7,H7⟩:∃w7,w7=w4.setCell ⟨S,3,none⟩ (slice (some ⟨gg,0,none⟩) (sh.pushed.length+1) cap)∧∃v7,Hid (Sw w7 Y S (D+2+4*s.size) ((sh.addAct ac.act).addPush ac.name) (slice am sh.modes.length cm) (slice ad sh.defs.length cd) v5 v7 rv ps dp∧TreeIn Y w7 (D+2+4*s.size) p t∧Keep S S w w7):=by
  obtain⟨q1,q2⟩:=H5.out.1.appPush (x:=ac.name) hown hgrow (by rcases hat with ha|ha;exact .inl ha;right;rw[ha];simp);exact⟨_,rfl,_,q1,vZ q2 H5.out.2.1 (fun q hq=>⟨Nat.ne_of_gt (H5.out.1.xlt q hq).1,(H5.out.1.xm q hq).2.2.2⟩),H5.out.2.2.trans ((q2.keep H5.out.1.pOwn H5.out.1.lt).lower (Nat.le_succ S) (Nat.le_refl S))⟩
 rw[<-hw7];clear hw7 hown hgrow hat hlt hPB xxb xfb OW HNP hlt1 xx xf2 H5 hi0 hz0 hz1 hz2;obtain⟨i1,hi1,hy0,hy1,hy2⟩:=info_parts zDI;obtain⟨mg,mc,hmv2,-,hmgl,-,-,hcl,hfz⟩:=qL H7.out.1.mOwn (show 0<((sh.addAct ac.act).addPush ac.name).modes.length from HPO.out);injection hmv2 with ea eb ec;subst ea ec;clear eb;obtain⟨ra,rc,hrv⟩:=zG (H7.out.1.rOwn k hkl);have y1:w7.cell? ⟨mg,k*2+1,none⟩=some (slice ra (sh.mode k).2.length rc):=by
  have e2:=(zA3 (fun i=>string (((sh.addAct ac.act).addPush ac.name).mode i).1) rv sh.modes.length k hkl).2;rw[hrv] at e2;exact hcl _ _ e2
 have yf:=hfz (k*2+1);obtain⟨x0,-,-,-,-⟩:=H7.out.1.cells;have OR:=H7.out.1.rOwn k hkl;rw[hrv] at OR;have OW:w7.ownsRow (S+1) 158 1 (slice ra (sh.mode k).2.length rc) (sh.mode k).2.length (xU (ps k)):=OR;have HNM2:=vl <| zZ H7.out.1.mOwn OW (by decide) mg rfl;have HRV:Hid (rv k=slice ra (sh.mode k).2.length rc):=hrv;have hrl:(sh.mode k).2.length<=1000000:=hrb;have hlt7:mg<w7.heap.size:=hmgl;have hS7:S+1<=w7.heap.size:=H7.out.1.lt;clear hcl hfz hrv OR hmgl;generalize hrL:(sh.mode k).2.length=rl at *;have hSr:some S≠(Value.slice ra rl rc).ownBlock:=fun e=>by have:=(OW.lt S e.symm).1;omega
 have HSR:Hid (some S≠(Value.slice ra rl rc).ownBlock):=hSr;have hS8:S<w7.heap.size:=by omega
 clear hSr;have HFIN:Hid (∀gg cap w8,w8.ownsRow (S+1) 158 1 (slice (some ⟨gg,0,none⟩) (rl+1) cap) (rl+1) (xU (ps k)++[pointer (some ⟨p,0,none⟩)])->(w7.drew.alloc (Obj.cells #[pointer (some ⟨p,0,none⟩)] 158)).grownBy w8 (Value.slice ra rl rc).ownBlock->((Value.slice ra rl rc).ownBlock=some gg∨w7.heap.size<=gg)->SwIs (w8.setCell ⟨mg,k*2+1,none⟩ (slice (some ⟨gg,0,none⟩) (rl+1) cap)) S (D+2+4*s.size) (((sh.addAct ac.act).addPush ac.name).addRule k t)∧Keep S S w (w8.setCell ⟨mg,k*2+1,none⟩ (slice (some ⟨gg,0,none⟩) (rl+1) cap))):=fun gg cap w8 ho hg ha=>by
  subst hrL;rw[<-HRV.out] at hg ha;have hmS:=(H7.out.1.mOwn.lt mg rfl).1;obtain⟨q1,q2⟩:=Sw.appRule (w:=w7.drew) (sh:=(sh.addAct ac.act).addPush ac.name) (H7.out.1.grown (Keep.drew _)) hkl (H7.out.2.1.go ⟨rfl,rfl,lQ,fun _ _ _=>rfl⟩) ho hg ha;refine⟨⟨Y,_,_,v5,v7,_,_,dp,q1⟩,H7.out.2.2.trans ⟨q2.os,q2.output,q2.size,fun j h1 _=>?_⟩⟩;exact(q2.block j (by show j<w7.heap.size;omega) (by omega) fun e=>by have:=((H7.out.1.rOwn k hkl).lt j e.symm).1;omega).1
 apply wp_cut;intro K0 J;go_region_law ((refine step_append_lies _ (by rfl) (.tmp 100) (.tmp 102) 118 (by rfl) (S+1) 158 i1 _ 1 8 underlying118 hi1 hy0 hy1 hy2 rfl (by decide) (slice ra rl rc) rl (xU (ps k)) (by simp[Act.eval,Act.put]) ((OW.alloc _).drew) ⟨w7.heap.size,0,none⟩ 1 1 [pointer (some ⟨p,0,none⟩)] (by simp[Act.eval,Act.put]) (by rfl) (news_of_block (cs:=#[pointer (some ⟨p,0,none⟩)]) (t:=158) (fr:=(0,0)) (gJ w7 _)) (by simp[Value.oneCell']) (by decide) (by unfold maxLen;omega) (by omega) (by simp;omega) (w7.heap.size+1) (by simp) ?_;intro gg cap w8 hown hgrow hat hlt;have hPB:=hgrow.block mg (by simp;omega) HNM2.out;have y1b:w8.cell? ⟨mg,k*2+1,none⟩=some (slice ra rl rc):=(gG hPB).trans ((dX _ _ _ hlt7).trans y1);have yfb:w8.frozen? ⟨mg,k*2+1,none⟩=false:=(dQ hPB).trans ((frozen?_alloc_past _ _ _ hlt7).trans yf);have hPS:=hgrow.block S (by simp;omega) HSR.out;have x0b:w8.cell? ⟨S,0,none⟩=some (slice (some ⟨mg,0,none⟩) sh.modes.length cm):=(gG hPS).trans ((dX _ _ _ hS8).trans x0)))
 all_goals
  obtain⟨w9,hw9,H9⟩:∃w9,w9=w8.setCell ⟨mg,k*2+1,none⟩ (slice (some ⟨gg,0,none⟩) (rl+1) cap)∧Hid (SwIs w9 S (D+2+4*s.size) (((sh.addAct ac.act).addPush ac.name).addRule k t)∧Keep S S w w9):=⟨_,rfl,HFIN.out gg cap w8 hown hgrow (by rcases hat with ha|ha;exact .inl ha;right;show w7.heap.size<=gg;omega)⟩
  rw[<-hw9];clear hw9 hown hgrow hat hlt hPB y1b yfb hPS x0b;show K0 _ _;apply J.out;clear J;go_wp2;go_ret;exact⟨H9.out.2,rfl,H9.out.1⟩
theorem zEX (w:World)(X:Nat->Prop)(S D:Nat)(sh:Sh)(mv dv av pv:Value)(rv:Nat->Value)(ps:Nat->List Nat)(dp:Nat->Nat)(h:Sw w X S D sh mv dv av pv rv ps dp)(ok:ShOk sh D)(hrb:∀k,k<sh.modes.length->(sh.mode k).2.length<=1000000)(nm s:ByteArray)(hs:s.size<=1000)(hnz:nm.size<=1000):
  Calls prog 122 #[pointer (some ⟨S,0,none⟩),string nm,string s] w (LnAns w S (D+2+4*s.size) (qK sh nm s)):=by
 have hA:=lY (zDO s 32) hs;have hB:=lY (jD s 32) hs;have hcut:∀w,Calls prog 86 #[string s,int .u8 32] w fun e w'=>e=returned (tuple #[string (xX s 32),string (yK s 32),bool (jS s 32)])∧Grew w w':=fun w=>zCi w s (by omega) 32;have no:=zHY w X S D sh mv dv av pv rv ps dp h ok nm s hs hnz _ _ _ hA hB hcut;unfold qK;cases hK:jS s 32 with
 |false=>exact no fun g=>by rw[hK] at g;exact Bool.noConfusion g.1
 |true=>
 rw[if_pos rfl];by_cases h0:sh.modes.length=0
 ·rw[if_pos h0]
  exact no fun g=>g.2.1 h0
 rw[if_neg h0];by_cases h8:8<=sh.acts.length
 ·rw[if_pos h8]
  exact no fun g=>g.2.2.1 h8
 rw[if_neg h8];cases hnm:xD nm with
 |false=>exact no fun g=>by rw[hnm] at g;exact Bool.noConfusion g.2.2.2.1
 |true=>
 rw[if_pos rfl];cases hok:(zAv (xX s 32)).ok with
 |false=>exact no fun g=>by rw[hok] at g;exact Bool.noConfusion g.2.2.2.2.1
 |true=>
  rw[if_pos rfl];cases hrm:vO (yK s 32) sh.defs with
  |none=>exact no fun g=>by obtain⟨t,ht⟩:=g.2.2.2.2.2;rw[hrm] at ht;cases ht
  |some t=>exact zN3 w X S D sh mv dv av pv rv ps dp h ok nm s hs hnz _ _ _ hA hB hcut (jD s 32) hK (sh.modes.length-1) (by omega) (hrb _ (by omega)) h8 hnm _ rfl hok t hrm
end
def xK (sh:Sh)(s:ByteArray):Option Sh:=if jS s 32 then(if eqS (xX s 32) ⟨#[109,111,100,101]⟩ then yA sh (yK s 32) else if eqS (xX s 32) ⟨#[108,101,116]⟩ then vD sh (yK s 32) else qK sh (xX s 32) (yK s 32)) else none
def vW (sh:Sh):Prop:=∀i,i<sh.modes.length->(sh.mode i).2.length<=sh.acts.length
theorem SwIs.deep {w:World}{S D E:Nat}{sh:Sh}(h:SwIs w S D sh)(he:D<=E):SwIs w S E sh:=by
 obtain⟨X,mv,dv,av,pv,rv,ps,dp,h⟩:=h;exact⟨X,mv,dv,av,pv,rv,ps,dp,h.deep he⟩
theorem LnAns.deep {w w':World}{S D E:Nat}{a:Option Sh}{e:Ending}(h:LnAns w S D a e w')(he:D<=E):LnAns w S E a e w':=by
 refine⟨h.1,?_⟩;cases a with
 |none=>exact h.2
 |some sh=>exact⟨h.2.1,h.2.2.deep he⟩
theorem LnAns.from {w w1 w':World}{S D:Nat}{a:Option Sh}{e:Ending}(h:LnAns w1 S D a e w')(hk:Keep S S w w1):LnAns w S D a e w':=⟨hk.trans h.1,h.2⟩
theorem zEZ (w:World)(X:Nat->Prop)(S D:Nat)(sh:Sh)(mv dv av pv:Value)(rv:Nat->Value)(ps:Nat->List Nat)(dp:Nat->Nat)(h:Sw w X S D sh mv dv av pv rv ps dp)(ok:ShOk sh D)(few:vW sh)(s:ByteArray)(hs:s.size<=1000):
  Calls prog 87 #[pointer (some ⟨S,0,none⟩),string s] w (LnAns w S (D+2+4*s.size) (xK sh s)):=by
 have hA:=lY (zDO s 32) hs;have hBs:=jD s 32;have hB:=lY hBs hs;have HCU:=vl <| zCi w s (by omega) 32;have HM:Hid (xK sh s=if jS s 32 then(if eqS (xX s 32) ⟨#[109,111,100,101]⟩ then yA sh (yK s 32) else if eqS (xX s 32) ⟨#[108,101,116]⟩ then vD sh (yK s 32) else qK sh (xX s 32) (yK s 32)) else none):=rfl;have hlS:=h.lt;have HLS:Hid (∀w1,Grew w w1->Keep S S w w1):=fun w1 hk=>hk.lower (Nat.le_of_lt hlS) (Nat.le_of_lt hlS);generalize xK sh s=V at *;generalize jS s 32=K at *;have HMO:Hid (∀w1,Grew w w1->Ca 120 #[pointer (some ⟨S,0,none⟩),string (yK s 32)] w1 (LnAns w S (D+2+4*s.size) (yA sh (yK s 32)))):=fun w1 hk=>(zEY w1 X S D sh _ _ _ _ rv ps dp (h.grown hk) (by have:=ok.modes;omega) (yK s 32) (by omega)).mono fun e w2 h2=>(h2.from (HLS.out w1 hk)).deep (by omega);have HLE:Hid (∀w1,Grew w w1->Ca 121 #[pointer (some ⟨S,0,none⟩),string (yK s 32)] w1 (LnAns w S (D+2+4*s.size) (vD sh (yK s 32)))):=fun w1 hk=>(zFN w1 X S D sh _ _ _ _ rv ps dp (h.grown hk) ok (yK s 32) hB).mono fun e w2 h2=>(h2.from (HLS.out w1 hk)).deep (by omega);have HRU:Hid (∀w1,Grew w w1->Ca 122 #[pointer (some ⟨S,0,none⟩),string (xX s 32),string (yK s 32)] w1 (LnAns w S (D+2+4*s.size) (qK sh (xX s 32) (yK s 32)))):=fun w1 hk=>(zEX w1 X S D sh _ _ _ _ rv ps dp (h.grown hk) ok (fun k hkk=>by have:=few k hkk;have:=ok.acts;omega) (xX s 32) (yK s 32) hB hA).mono fun e w2 h2=>(h2.from (HLS.out w1 hk)).deep (by omega);generalize xX s 32=A at *;generalize yK s 32=B at *;have hm:(⟨#[109,111,100,101]⟩:ByteArray).toList=[109,111,100,101]:=by rw[ByteArray.toList_eq]
 have hl:(⟨#[108,101,116]⟩:ByteArray).toList=[108,101,116]:=by rw[ByteArray.toList_eq]
 cases K with
 |false=>
  have HV:=vl HM.out;rw[HV.out];go_in;go_wp2_with (first|(go_at_call 86;refine HCU.out.mono ?_;rintro e w1 ⟨rfl,hk1⟩))
  go_ret;exact⟨HLS.out _ hk1,rfl⟩
 |true=>
 cases e1:eqS A ⟨#[109,111,100,101]⟩ with
 |true=>
  rw[e1] at HM;have HV:=vl HM.out;have f1:(A.toList==[109,111,100,101])=true:=by rw[<-hm];exact e1
  rw[HV.out];generalize yA sh B=R at *;go_in;go_wp2_with (first|(go_at_call 86;refine HCU.out.mono ?_;rintro e w1 ⟨rfl,hk1⟩)|(go_at_call 120;refine(HMO.out w1 hk1).mono ?_;intro e w2 h2;obtain⟨v2,hv2⟩:∃v2,e=returned (bool v2):=(by have:=h2.2;cases R with|none=>exact⟨false,this⟩|some x=>exact⟨true,this.1⟩);subst hv2))
  go_ret;exact h2
 |false=>
 have f1:(A.toList==[109,111,100,101])=false:=by rw[<-hm];exact e1
 rw[e1] at HM;cases e2:eqS A ⟨#[108,101,116]⟩ with
 |true=>
  rw[e2] at HM;have HV:=vl HM.out;have f2:(A.toList==[108,101,116])=true:=by rw[<-hl];exact e2
  rw[HV.out];generalize vD sh B=R at *;go_in;go_wp2_with (first|(go_at_call 86;refine HCU.out.mono ?_;rintro e w1 ⟨rfl,hk1⟩)|(go_at_call 121;refine(HLE.out w1 hk1).mono ?_;intro e w2 h2;obtain⟨v2,hv2⟩:∃v2,e=returned (bool v2):=(by have:=h2.2;cases R with|none=>exact⟨false,this⟩|some x=>exact⟨true,this.1⟩);subst hv2))
  go_ret;exact h2
 |false=>
  rw[e2] at HM;have HV:=vl HM.out;have f2:(A.toList==[108,101,116])=false:=by rw[<-hl];exact e2
  rw[HV.out];generalize qK sh A B=R at *;go_in;go_wp2_with (first|(go_at_call 86;refine HCU.out.mono ?_;rintro e w1 ⟨rfl,hk1⟩)|(go_at_call 122;refine(HRU.out w1 hk1).mono ?_;intro e w2 h2;obtain⟨v2,hv2⟩:∃v2,e=returned (bool v2):=(by have:=h2.2;cases R with|none=>exact⟨false,this⟩|some x=>exact⟨true,this.1⟩);subst hv2))
  go_ret;exact h2
end Go.Proofs.YtbjcfkdnjaiclaaGreat
