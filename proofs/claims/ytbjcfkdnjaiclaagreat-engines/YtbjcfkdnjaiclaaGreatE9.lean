import Derived.Deep.RegionHeld3
import Derived.Laws.OwnMore
import Derived.Test.YtbjcfkdnjaiclaaGreatE0
import Derived.Test.YtbjcfkdnjaiclaaGreatE7
import Derived.Test.YtbjcfkdnjaiclaaGreatE8
/- Parts of the proof. -/
set_option linter.unusedVariables false
set_option linter.unusedSimpArgs false
set_option maxHeartbeats 4000000
set_option maxRecDepth 100000
namespace Go.Proofs.YtbjcfkdnjaiclaaGreat
open Go.RowKit Go.Proofs.Tryz Go.World
open Go.Value (int slice bool pointer string agg tuple)
open Go.IntKind (i64)
open Go.Ending (returned)
def zMI (w:World)(b:Nat)(s:ByteArray)(dv:Value)(r:Rx)(a:Option (Tm×Nat))(e:Ending)(w':World):Prop:=
 Keep w.heap.size b w w'∧match a with
 |none=>∃q,e=returned (tuple #[agg #[int i64 0,int i64 0,bool false],bool false])∧RxAt w' b s dv {r with at_:=q}
 |some (o,q)=>e=returned (tuple #[agg #[int i64 (o.least:Int),int i64 (o.most:Int),bool o.endless],bool true])∧RxAt w' b s dv {r with at_:=q}
theorem yW (w w2:World)(b:Nat)(s:ByteArray)(dv:Value)(r:Rx)(n m:Int)(o:Bool)(hb:b<w.heap.size)(hB:Hid (Keep w.heap.size b w w2∧w2.heap[w.heap.size]? =some (.cells #[int i64 0,int i64 0,bool false] 163)))(h:RxAt w2 b s dv r):
  ∃w3,w3=((w2.setCell ⟨w.heap.size,0,none⟩ (int i64 n)).setCell ⟨w.heap.size,1,none⟩ (int i64 m)).setCell ⟨w.heap.size,2,none⟩ (bool o)∧w3.cell? ⟨w.heap.size,0,none⟩=some (int i64 n)∧w3.cell? ⟨w.heap.size,1,none⟩=some (int i64 m)∧w3.cell? ⟨w.heap.size,2,none⟩=some (bool o)∧Hid (RxAt w3 b s dv r∧Keep w.heap.size b w w3):=by
 have h2:(((w2.setCell ⟨w.heap.size,0,none⟩ (int i64 n)).setCell ⟨w.heap.size,1,none⟩ (int i64 m)).setCell ⟨w.heap.size,2,none⟩ (bool o)).heap[w.heap.size]? =some (.cells #[int i64 n,int i64 m,bool o] 163):=by
  simp[setCell,lU,hB.out.2]
 have hne:∀i,i≠w.heap.size->(((w2.setCell ⟨w.heap.size,0,none⟩ (int i64 n)).setCell ⟨w.heap.size,1,none⟩ (int i64 m)).setCell ⟨w.heap.size,2,none⟩ (bool o)).heap[i]? =w2.heap[i]? :=fun i hi2=>by
  simp[setCell,lU,Ne.symm hi2]
 refine⟨_,rfl,?_,?_,?_,RxAt.of_block h (hne b (by omega)),hB.out.1.trans ⟨rfl,rfl,by simp[World.setCell],fun k h1 _=>hne k (by omega)⟩⟩
 all_goals (unfold cell?;rw[h2];rfl)
theorem zKu {w w2:World}{b:Nat}(hb:b<w.heap.size)(hk:Keep (w.heap.size+1) b (w.alloc (.cells #[int i64 0,int i64 0,bool false] 163)) w2):Hid (Keep w.heap.size b w w2∧w2.heap[w.heap.size]? =some (.cells #[int i64 0,int i64 0,bool false] 163))∧w2.cell? ⟨w.heap.size,0,none⟩=some (int i64 0)∧w2.cell? ⟨w.heap.size,1,none⟩=some (int i64 0)∧w2.cell? ⟨w.heap.size,2,none⟩=some (bool false)∧w2.frozen? ⟨w.heap.size,0,none⟩=false∧w2.frozen? ⟨w.heap.size,1,none⟩=false∧w2.frozen? ⟨w.heap.size,2,none⟩=false:=by
 have h1:=gU w (.cells #[int i64 0,int i64 0,bool false] 163);have h2:=(hk.block w.heap.size (by omega) (by omega)).trans h1;refine⟨⟨(kZ (H:=w.heap.size) (b:=b) _ _ lQ).trans ⟨hk.os,hk.output,hk.size,fun k h1 h2=>hk.block k (by omega) h2⟩,h2⟩,?_,?_,?_,?_,?_,?_⟩
 all_goals first|(unfold cell?;rw[h2];rfl)|(unfold frozen?;rw[h2];simp)
theorem zCE {c:Nat}(h:xX c=true):zAX c=((c-48:Nat):Int)∧48<=c∧c<=52:=by
 have h1:48<=c:=by
  unfold xX xE at h;rw[Bool.and_eq_true,Bool.and_eq_true] at h;exact of_decide_eq_true h.1.1
 have h2:c<=52:=by
  unfold xX at h;rw[Bool.and_eq_true] at h;exact of_decide_eq_true h.2
 exact⟨by unfold zAX;rw[if_pos h];omega,h1,h2⟩
theorem zOz {w0 w:World}{b x n:Nat}{s:ByteArray}{dv:Value}{r:Rx}(hv:xX (byt s x)=true)(hn:Hid (byt s x-48=n))(h:RxAt w b s dv {r with at_:=x})(hk:∀H,Keep H b w0 w)(hs:s.size<=1048576)(ha:x<=2000000):
  Calls prog 214 #[pointer (some ⟨b,0,none⟩)] w fun e w'=>e=returned (int i64 (n:Int))∧RxAt w' b s dv {r with at_:=x+1}∧∀H,Keep H b w0 w':=by
 refine(zD4 w b s dv {r with at_:=x} h hs ha).mono ?_;rintro e w' ⟨rfl,h1,h2⟩;refine⟨by rw[(zCE hv).1,<-hn.out],?_,fun H=>(hk H).trans (h2 H)⟩;have e:(({r with at_:=x}:Rx).on (xX (byt s x)))={r with at_:=x+1}:=by rw[hv];rfl
 rw[<-e];exact h1
theorem zOA {w0 w:World}{b x:Nat}{s:ByteArray}{dv:Value}{r:Rx}(hv:xX (byt s x)=false)(h:RxAt w b s dv {r with at_:=x})(hk:∀H,Keep H b w0 w)(hs:s.size<=1048576)(ha:x<=2000000):
  Calls prog 214 #[pointer (some ⟨b,0,none⟩)] w fun e w'=>e=returned (int i64 (-1))∧RxAt w' b s dv {r with at_:=x}∧∀H,Keep H b w0 w':=by
 refine(zD4 w b s dv {r with at_:=x} h hs ha).mono ?_;rintro e w' ⟨rfl,h1,h2⟩;refine⟨by unfold zAX;rw[if_neg (by rw[hv];decide)],?_,fun H=>(hk H).trans (h2 H)⟩;have e:(({r with at_:=x}:Rx).on (xX (byt s x)))={r with at_:=x}:=by rw[hv];rfl
 rw[<-e];exact h1
theorem zDN {w:World}{b:Nat}{s:ByteArray}{dv:Value}{r:Rx}(h:RxAt w b s dv r):∃w1,w1=w.alloc (.cells #[int i64 0,int i64 0,bool false] 163)∧RxAt w1 b s dv {r with at_:=r.at_}∧Hid (∀w2,Keep (w.heap.size+1) b w1 w2->Hid (Keep w.heap.size b w w2∧w2.heap[w.heap.size]? =some (.cells #[int i64 0,int i64 0,bool false] 163))∧w2.cell? ⟨w.heap.size,0,none⟩=some (int i64 0)∧w2.cell? ⟨w.heap.size,1,none⟩=some (int i64 0)∧w2.cell? ⟨w.heap.size,2,none⟩=some (bool false)∧w2.frozen? ⟨w.heap.size,0,none⟩=false∧w2.frozen? ⟨w.heap.size,1,none⟩=false∧w2.frozen? ⟨w.heap.size,2,none⟩=false)∧Hid (w1.heap.size=w.heap.size+1)∧Hid (b<w.heap.size):=⟨_,rfl,RxAt.of_block h (lG _ _ _ h.lt),fun w2 hk=>zKu h.lt hk,by show _=_;simp,h.lt⟩
theorem zKs {w1:World}{b:Nat}{s:ByteArray}{dv:Value}{r:Rx}(h1:RxAt w1 b s dv {r with at_:=r.at_}):∃w2,w2=w1.setCell ⟨b,2,none⟩ (int i64 ((r.at_:Int)+1))∧RxAt w2 b s dv {r with at_:=r.at_+1}∧(∀H,Keep H b w1 w2)∧w1.cell? ⟨b,2,none⟩=some (int i64 (r.at_:Int))∧w1.frozen? ⟨b,2,none⟩=false:=
 ⟨_,rfl,h1.setAt (r.at_+1),fun H=>Keep.set _ _ _,h1.cells.2.2.1,h1.cells.2.2.2.2.2 2⟩
theorem zFU (w:World)(b:Nat)(s:ByteArray)(dv:Value)(r:Rx)(h:RxAt w b s dv r)(hs:s.size<=1048576)(ha:r.at_<=s.size):
  Calls prog 207 #[pointer (some ⟨b,0,none⟩)] w (zMI w b s dv r (zA7 s r.at_)):=by
 obtain⟨w1,hw1,h1,HK1,HZ1,HLB⟩:=zDN h;obtain⟨w2,hw2,hR,hk,cc2,cf2⟩:=zKs h1;clear h h1;go_in;apply wp_cut;intro K0 J;go_wp2;apply J.out;clear J;rw[<-hw1];clear hw1;apply wp_cut;intro K0 J;go_wp2;apply J.out;clear J;rw[<-hw2];clear hw2 cc2 cf2;obtain⟨v,hwv⟩:∃v,v=w2:=⟨_,rfl⟩
 rw[<-hwv] at hR hk ⊢;clear hwv;unfold zA7;obtain⟨n,hn⟩:∃n,byt s (r.at_+1)-48=n:=⟨_,rfl⟩
 obtain⟨m,hm⟩:∃m,byt s (r.at_+3)-48=m:=⟨_,rfl⟩
 rw[hn,hm];have q0:=zAm s (r.at_+1);rcases h1:xX (byt s (r.at_+1)) with _|_;rotate_left;have q1:=(zCE h1).2;have n4:n<=4:=by omega
 rw[if_pos rfl];rcases h2:zJ s (r.at_+2) ⟨#[125]⟩ with _|_;rw[if_neg (by decide)];rcases h3:zJ s (r.at_+2) ⟨#[44]⟩ with _|_;rotate_left;rw[if_pos rfl];rcases h4:zJ s (r.at_+3) ⟨#[125]⟩ with _|_;rw[if_neg (by decide)];rcases h5:xX (byt s (r.at_+3)) with _|_;rotate_left;have q2:=(zCE h5).2;have m4:m<=4:=by omega
 rcases h6:decide (byt s (r.at_+1)<=byt s (r.at_+3)) with _|_;rotate_left;rw[if_pos (show (true&&true)=true from rfl)];rcases h7:zJ s (r.at_+4) ⟨#[125]⟩ with _|_
 all_goals
  try have h66:(n:Int)<=(m:Int):=by have:=of_decide_eq_true h6;omega
  try have h66:(m:Int)<(n:Int):=by have:=of_decide_eq_false h6;omega
  have HN:=vl hn;have HM:=vl hm;clear hn hm q0
  try clear q1
  try clear q2
  try clear h6
  go_wp2_with ((first|(go_at_call 189;(first|refine(zNO (by assumption) hR hk hs (by omega)).mono ?_|refine(zNN (by assumption) hR hk hs (by omega)).mono ?_))|(go_at_call 214;(first|refine(zOA (by assumption) hR hk hs (by omega)).mono ?_|refine(zOz (by assumption) (by assumption) hR hk hs (by omega)).mono ?_)));rintro e v ⟨rfl,hR,hk⟩;obtain⟨HB,c0,c1,c2,f0,f1,f2⟩:=HK1.out v (hk _))
  first
  |(obtain ⟨w7,hw7,z0,z1,z2,HZ⟩:=yW w v b s dv _ 0 0 false HLB.out HB hR;rw[<-hw7];refine bodyPost_ret (v:=tuple #[agg #[int i64 0,int i64 0,bool false],bool false]) (by simp[results,results207,go_sem,z0,z1,z2]) rfl ?_;exact⟨HZ.out.2,_,rfl,HZ.out.1⟩)
  |(obtain ⟨w7,hw7,z0,z1,z2,HZ⟩:=yW w v b s dv _ n n false HLB.out HB hR;rw[<-hw7];refine bodyPost_ret (v:=tuple #[agg #[int i64 n,int i64 n,bool false],bool true]) (by simp[results,results207,go_sem,z0,z1,z2]) rfl ?_;exact⟨HZ.out.2,rfl,HZ.out.1⟩)
  |(obtain ⟨w7,hw7,z0,z1,z2,HZ⟩:=yW w v b s dv _ n 0 true HLB.out HB hR;rw[<-hw7];refine bodyPost_ret (v:=tuple #[agg #[int i64 n,int i64 0,bool true],bool true]) (by simp[results,results207,go_sem,z0,z1,z2]) rfl ?_;exact⟨HZ.out.2,rfl,HZ.out.1⟩)
  |(obtain ⟨w7,hw7,z0,z1,z2,HZ⟩:=yW w v b s dv _ n m false HLB.out HB hR;rw[<-hw7];refine bodyPost_ret (v:=tuple #[agg #[int i64 n,int i64 m,bool false],bool true]) (by simp[results,results207,go_sem,z0,z1,z2]) rfl ?_;exact⟨HZ.out.2,rfl,HZ.out.1⟩)
theorem zFe (w:World)(b:Nat)(s:ByteArray)(dv:Value)(r:Rx)(h:RxAt w b s dv r)(hs:s.size<=1048576)(ha:r.at_<=s.size):
  Calls prog 198 #[pointer (some ⟨b,0,none⟩)] w (zMI w b s dv r (zDE s r.at_)):=by
 have HCD:Hid (∀w,RxAt w b s dv r->Ca 207 #[pointer (some ⟨b,0,none⟩)] w (zMI w b s dv r (zA7 s r.at_))):=fun w h=>zFU w b s dv r h hs ha;obtain⟨v,hw1,hR,HK1,HZ1,HLB⟩:=zDN h;have hk:∀H,Keep H b v v:=fun H=>⟨rfl,rfl,lQ,fun k _ _=>rfl⟩
 clear h;go_in;apply wp_cut;intro K0 J;go_wp2;apply J.out;clear J;rw[<-hw1];clear hw1;unfold zDE;obtain⟨v0,hv0⟩:∃v0,v0=v:=⟨_,rfl⟩
 rw[<-hv0] at HK1 HZ1;have hk:∀H,Keep H b v0 v:=by rw[hv0];exact hk
 clear hv0;rcases h1:zJ s r.at_ ⟨#[42]⟩ with _|_;rcases h2:zJ s r.at_ ⟨#[43]⟩ with _|_;rcases h3:zJ s r.at_ ⟨#[63]⟩ with _|_;rw[if_neg (by decide),if_neg (by decide),if_neg (by decide)];have hcd:∃a,zA7 s r.at_=a:=⟨_,rfl⟩
 obtain⟨a,hcd⟩:=hcd;rw[hcd] at HCD ⊢;clear hcd;rcases a with _|⟨o,q⟩
 all_goals
  go_wp2_with (first|(go_at_call 189;(first|refine(zNO (by assumption) hR hk hs (by omega)).mono ?_|refine(zNN (by assumption) hR hk hs (by omega)).mono ?_);rintro e v ⟨rfl,hR,hk⟩;obtain⟨HB,c0,c1,c2,f0,f1,f2⟩:=HK1.out v (hk _))|(go_at_call 207;refine(HCD.out v hR).mono ?_;(first|rintro e v4 ⟨hk4,q,rfl,hR⟩|rintro e v4 ⟨hk4,rfl,hR⟩);obtain⟨HB,c0,c1,c2,f0,f1,f2⟩:=HK1.out v4 ((hk _).trans ⟨hk4.os,hk4.output,hk4.size,fun k h1 h2=>hk4.block k (by have:=HZ1.out;have:=(hk 0).size;omega) h2⟩)))
  first
  |(obtain ⟨w7,hw7,z0,z1,z2,HZ⟩:=yW w v4 b s dv _ 0 0 false HLB.out HB hR;rw[<-hw7];refine bodyPost_ret (v:=tuple #[agg #[int i64 0,int i64 0,bool false],bool false]) (by simp[results,results198,go_sem,z0,z1,z2]) rfl ?_;exact⟨HZ.out.2,_,rfl,HZ.out.1⟩)
  |(obtain ⟨w7,hw7,z0,z1,z2,HZ⟩:=yW w v4 b s dv _ o.least o.most o.endless HLB.out HB hR;rw[<-hw7];refine bodyPost_ret (v:=tuple #[agg #[int i64 o.least,int i64 o.most,bool o.endless],bool true]) (by simp[results,results198,go_sem,z0,z1,z2]) rfl ?_;exact⟨HZ.out.2,rfl,HZ.out.1⟩)
  |(obtain ⟨w7,hw7,z0,z1,z2,HZ⟩:=yW w v b s dv _ 0 0 true HLB.out HB hR;rw[<-hw7];refine bodyPost_ret (v:=tuple #[agg #[int i64 0,int i64 0,bool true],bool true]) (by simp[results,results198,go_sem,z0,z1,z2]) rfl ?_;exact⟨HZ.out.2,rfl,HZ.out.1⟩)
  |(obtain ⟨w7,hw7,z0,z1,z2,HZ⟩:=yW w v b s dv _ 1 0 true HLB.out HB hR;rw[<-hw7];refine bodyPost_ret (v:=tuple #[agg #[int i64 1,int i64 0,bool true],bool true]) (by simp[results,results198,go_sem,z0,z1,z2]) rfl ?_;exact⟨HZ.out.2,rfl,HZ.out.1⟩)
  |(obtain ⟨w7,hw7,z0,z1,z2,HZ⟩:=yW w v b s dv _ 0 1 false HLB.out HB hR;rw[<-hw7];refine bodyPost_ret (v:=tuple #[agg #[int i64 0,int i64 1,bool false],bool true]) (by simp[results,results198,go_sem,z0,z1,z2]) rfl ?_;exact⟨HZ.out.2,rfl,HZ.out.1⟩)
theorem zFK (w:World)(X:Nat->Prop)(u:Value)(c:Cs)(h:RangesIn X w u c.ranges):
  Calls prog 205 #[agg #[u,bool c.others]] w fun e w'=>∃p,e=returned (pointer (some ⟨p,0,none⟩))∧(∀d,TreeIn (fun i=>(X i∧i<w.heap.size)∨w.heap.size<=i) w' (d+1) p (zGV c))∧Grew w w':=by
 obtain⟨ao,cap,rfl,-⟩:=h.at
 obtain⟨w2,hw2,HB,HK⟩:∃w2,w2=(w.alloc (Obj.cells #[slice ao c.ranges.length cap,bool c.others] 161)).alloc (Obj.cells #[int i64 1,slice ao c.ranges.length cap,bool c.others,slice none 0 0,int i64 0,int i64 0,bool false,int i64 1] 165)∧Hid (∀d,TreeIn (fun i=>(X i∧i<w.heap.size)∨w.heap.size<=i) w2 (d+1) (w.heap.size+1) (zGV c))∧Hid (Grew w w2):=by
  have s1:(w.alloc (Obj.cells #[slice ao c.ranges.length cap,bool c.others] 161)).heap.size=w.heap.size+1:=by simp
  have h2:=gU (w.alloc (Obj.cells #[slice ao c.ranges.length cap,bool c.others] 161)) (Obj.cells #[int i64 1,slice ao c.ranges.length cap,bool c.others,slice none 0 0,int i64 0,int i64 0,bool false,int i64 1] 165);rw[s1] at h2;have hk:Grew w ((w.alloc (Obj.cells #[slice ao c.ranges.length cap,bool c.others] 161)).alloc (Obj.cells #[int i64 1,slice ao c.ranges.length cap,bool c.others,slice none 0 0,int i64 0,int i64 0,bool false,int i64 1] 165)):=(kZ _ _ lQ).trans (kZ _ _ (by rw[s1];omega));have hr:RangesIn (fun i=>(X i∧i<w.heap.size)∨w.heap.size<=i) ((w.alloc (Obj.cells #[slice ao c.ranges.length cap,bool c.others] 161)).alloc (Obj.cells #[int i64 1,slice ao c.ranges.length cap,bool c.others,slice none 0 0,int i64 0,int i64 0,bool false,int i64 1] 165)) (slice ao c.ranges.length cap) c.ranges:=fun w3 a=>h w3 ⟨a.os.trans hk.os,a.output.trans hk.output,lY hk.size a.size,fun i hi hx=>(a.block i (lZ hi hk.size) (.inl ⟨hx,hi⟩)).trans (hk.block i hi (by omega))⟩;exact⟨_,rfl,fun d=>zG1 (t:=zGV c) h2 (.inr (by omega)) hr rfl ⟨by show 0<=1000;omega,by show 0<=1000;omega⟩,hk⟩
 go_in;go_wp2;rw[<-hw2];go_ret;exact⟨_,rfl,HB.out,HK.out⟩
theorem zDW (w:World)(X:Nat->Prop)(d p:Nat)(t:Tr)(h:TreeIn X w d p t):
  Calls prog 190 #[pointer (some ⟨p,0,none⟩)] w fun e w'=>∃p',e=returned (pointer (some ⟨p',0,none⟩))∧TreeIn (fun i=>(X i∧i<w.heap.size)∨w.heap.size<=i) w' d p' t.plain∧Grew w w':=by
 cases d with
 |zero=>exact False.elim h.at
 |succ d=>
 have c7:w.cell? ⟨p,7,none⟩=some (int i64 (t.chars:Int)):=by
  obtain⟨-,rv,pv,hb,-⟩:=h.at
  unfold cell?;rw[hb];rfl
 have HT:=vl h;by_cases h0:t.chars=0
 ·have HP:Hid (t.plain=Tr.none):=by show _=_;unfold Tr.plain;rw[if_pos h0]
  rw[h0] at c7;have c7b:=c7;go_in;go_wp2;go_ret;refine⟨_,rfl,?_,kZ _ _ lQ⟩;rw[HP.out];exact zIm (gU _ _) (.inr lQ)
 ·have HP:Hid (t.plain=t):=by show _=_;unfold Tr.plain;rw[if_neg h0]
  have e0:((t.chars:Int)==0)=false:=by rw[hJ];omega
  go_in;go_wp2;go_ret;exact⟨_,rfl,by rw[HP.out];exact HT.out.mono fun i hi hx=>.inl ⟨hx,hi⟩,Keep.refl _ _ _⟩
theorem zDC:(prog.info? 158).map (fun i=>(i.zero,i.size,i.bytes))=some (some (pointer none),1,8):=by kernel_rfl
theorem TreeIn.chars {X:Nat->Prop}{w:World}{d p:Nat}{t:Tr}(h:TreeIn X w d p t):w.cell? ⟨p,7,none⟩=some (int i64 (t.chars:Int)):=by
 cases d with
 |zero=>exact False.elim h.at
 |succ d=>
  obtain⟨-,rv,pv,hb,-⟩:=h.at
  unfold cell?;rw[hb];rfl
theorem zFX (w:World)(Y:Nat->Prop)(H p d:Nat)(sv:Value)(ps:List Nat)(t:Tr)(h:Tw w Y H p d sv ps t)(q:Nat)(u:Tr)(hu:TreeIn (fun j=>Y j∧j≠p∧some j≠sv.ownBlock) w d q u)(hc:u.chars<=25)(hl:t.parts.length<9000000):
  Calls prog 188 #[pointer (some ⟨p,0,none⟩),pointer (some ⟨q,0,none⟩)] w fun e w'=>e=returned (tuple #[])∧∃sv' ps',Tw w' Y H p d sv' ps' (t.add u)∧KeepO p sv sv' w w':=by
 obtain⟨i0,hi0,hz0,hz1,hz2⟩:=info_parts zDC;obtain⟨ao,cap0,hsv⟩:=zG h.own;subst hsv;obtain⟨x3,x7,xf⟩:=h.cells;have xf3:=xf 3;have OW:w.ownsRow H 158 1 (slice ao t.parts.length cap0) t.parts.length (xT ps):=h.own;have hlt:p<w.heap.size:=lZ h.pH h.lt;have hHw:H<=w.heap.size:=h.lt;have HNP:=vl <| zM h.own h.blk (by decide);have hsm:=h.small.2.2.2;have HT:=vl h;have HU:=vl hu;have HWR:Hid (IntKind.i64.wrap ((t.chars:Int)+(u.chars:Int))=(t.chars:Int)+(u.chars:Int)):=zAI _ (by omega) (by omega);have HBD:Hid (∀w,Ca 195 #[int i64 (IntKind.i64.wrap ((t.chars:Int)+(u.chars:Int)))] w fun e w'=>e=returned (int i64 (xI (t.chars+u.chars):Int))∧w'=w):=fun w=>by
  have:=zCu w (t.chars+u.chars);rw[show ((t.chars+u.chars:Nat):Int)=(t.chars:Int)+(u.chars:Int) by omega] at this;rw[HWR.out];exact this
 clear xf h hu x7;go_in;apply wp_cut;intro K0 J;go_wp2_with (first|(at_builtin;refine wpList_append_lies _ rfl _ _ 118 rfl (H) 158 i0 (pointer none) 1 8 underlying118 hi0 hz0 hz1 hz2 rfl (by decide) _ _ _ rfl (OW.alloc _) ⟨w.heap.size,0,none⟩ 1 1 [pointer (some ⟨q,0,none⟩)] rfl rfl (cell_one_new _ _ _) (by intro u hu;simp at hu;subst hu;rfl) (by decide) (by unfold maxLen;omega) (by omega) (by simp;omega) _ rfl ?_;intro gg cap w2 hown hgrow hat hlt2;have hPB:=hgrow.block p (by simp;omega) HNP.out;have x3b:w2.cell? ⟨p,3,none⟩=some (slice ao t.parts.length cap0):=(cell?_of_block hPB).trans ((cell?_alloc_past _ _ _ hlt).trans x3);have xf3b:w2.frozen? ⟨p,3,none⟩=false:=(frozen?_of_block hPB).trans ((frozen?_alloc_past _ _ _ hlt).trans xf3)))
 apply J.out;clear J;obtain⟨w3,hw3,H3⟩:∃w3,w3=w2.setCell ⟨p,3,none⟩ (slice (some ⟨gg,0,none⟩) (t.parts.length+1) cap)∧Hid (Tw w3 Y H p d (slice (some ⟨gg,0,none⟩) (t.parts.length+1) cap) (ps++[q]) {t with parts:=t.parts++[u]}∧KeepO p (slice ao t.parts.length cap0) (slice (some ⟨gg,0,none⟩) (t.parts.length+1) cap) w w3):=⟨_,rfl,HT.out.app rfl (by omega) HU.out hown hgrow (by rcases hat with ha|ha;exact .inl ha;right;rw[ha];simp)⟩
 rw[<-hw3];clear hw3 hown hgrow hat hlt2 hPB x3b xf3b OW HNP x3 xf3;have x7:w3.cell? ⟨p,7,none⟩=some (int i64 (t.chars:Int)):=H3.out.1.cells.2.1;have xf7:w3.frozen? ⟨p,7,none⟩=false:=H3.out.1.cells.2.2 7;have y7:w3.cell? ⟨q,7,none⟩=some (int i64 (u.chars:Int)):=by
  have h1:=H3.out.1.parts t.parts.length (by simp);have e1:(ps++[q]).getD t.parts.length 0=q:=by rw[<-HT.out.len];simp
  have e2:(t.parts++[u]).getD t.parts.length Tr.none=u:=by simp
  have h2:TreeIn _ w3 d ((ps++[q]).getD t.parts.length 0) ((t.parts++[u]).getD t.parts.length Tr.none):=h1;rw[e1,e2] at h2;exact h2.chars
 have HN:Hid (∀i,Tw ((w3.setCell ⟨p,7,none⟩ (int i64 (xI (t.chars+u.chars):Int))).drewN i) Y H p d (slice (some ⟨gg,0,none⟩) (t.parts.length+1) cap) (ps++[q]) (t.add u)∧KeepO p (slice ao t.parts.length cap0) (slice (some ⟨gg,0,none⟩) (t.parts.length+1) cap) w ((w3.setCell ⟨p,7,none⟩ (int i64 (xI (t.chars+u.chars):Int))).drewN i)):=fun i=>by
  have h1:=H3.out.1.setChars (xI (t.chars+u.chars)) (zDJ _);have h2:KeepO p (slice (some ⟨gg,0,none⟩) (t.parts.length+1) cap) (slice (some ⟨gg,0,none⟩) (t.parts.length+1) cap) w3 (w3.setCell ⟨p,7,none⟩ (int i64 (xI (t.chars+u.chars):Int))):=⟨rfl,rfl,by rw[zC];omega,fun k _ h2 h3=>⟨lJ _ _ _ _ h2,h3⟩⟩
  have h3:=H3.out.2.trans h2;exact⟨⟨h1.blk,h1.set,zD h1.own fun g _ _ _=>rfl,h1.len,fun i hi=>(h1.parts i hi).go ⟨rfl,rfl,lQ,fun _ _ _=>rfl⟩,h1.pH,h1.lt,h1.small⟩,⟨h3.os,h3.output,h3.size,h3.block⟩⟩
 clear H3 HT HU hsm;go_region_with ((go_at_call 195;go_must ((refine (HBD.out _).mono ?_;rintro e w5 ⟨rfl,rfl⟩))))
 all_goals
  go_end0;exact⟨rfl,_,_,HN.out _⟩
theorem zIK (w:World)(X:Nat->Prop)(d p:Nat)(t:Tr)(h:TreeIn X w d p t)(hc:t.chars<=25)(o:Tm)(ho:o.least<=300∧o.most<=300):
  Calls prog 199 #[pointer (some ⟨p,0,none⟩),agg #[int i64 (o.least:Int),int i64 (o.most:Int),bool o.endless]] w fun e w'=>∃p',e=returned (pointer (some ⟨p',0,none⟩))∧TreeIn (fun i=>(X i∧i<w.heap.size)∨w.heap.size<=i) w' (d+1) p' (zBs t o)∧Grew w w':=by
 obtain⟨i0,hi0,hz0,hz1,hz2⟩:=info_parts zDC;have hC:o.copies<=301:=by
  unfold Tm.copies;split
  ·split <;> omega
  ·omega
 obtain⟨w1,hw1,y0,y1,y2,K1⟩:∃w1,w1=w.alloc (.cells #[int i64 (o.least:Int),int i64 (o.most:Int),bool o.endless] 163)∧w1.cell? ⟨w.heap.size,0,none⟩=some (int i64 (o.least:Int))∧w1.cell? ⟨w.heap.size,1,none⟩=some (int i64 (o.most:Int))∧w1.cell? ⟨w.heap.size,2,none⟩=some (bool o.endless)∧Hid (Grew w w1∧w1.heap.size=w.heap.size+1):=by
  have hb:=gU w (.cells #[int i64 (o.least:Int),int i64 (o.most:Int),bool o.endless] 163);refine⟨_,rfl,?_,?_,?_,kZ _ _ lQ,by simp⟩
  all_goals (unfold cell?;rw[hb];rfl)
 have hpl:p<w.heap.size:=by
  cases d with
  |zero=>exact False.elim h.at
  |succ d=>exact h.at.1
 have y7:w1.cell? ⟨p,7,none⟩=some (int i64 (t.chars:Int)):=(cell?_of_block (K1.out.1.block p hpl (by omega))).trans h.chars;have HCP:Hid (∀w',Grew w1 w'->Ca 165 #[agg #[int i64 (o.least:Int),int i64 (o.most:Int),bool o.endless]] w' fun x w2=>x=returned (int i64 (o.copies:Int))∧Grew w1 w2∧w2.cell? ⟨w.heap.size,0,none⟩=some (int i64 (o.least:Int))∧w2.cell? ⟨w.heap.size,1,none⟩=some (int i64 (o.most:Int))∧w2.cell? ⟨w.heap.size,2,none⟩=some (bool o.endless)∧w2.cell? ⟨p,7,none⟩=some (int i64 (t.chars:Int))):=fun w' hk=>by
  refine(zDc w' o.least o.most o.endless).mono ?_;rintro x w2 ⟨rfl,hk2⟩;have hs:=K1.out.2;have hk3:Grew w1 w2:=hk.trans (hk2.lower hk.size hk.size);exact⟨rfl,hk3,zA y0 (by show w.heap.size<w1.heap.size;omega) hk3,zA y1 (by show w.heap.size<w1.heap.size;omega) hk3,zA y2 (by show w.heap.size<w1.heap.size;omega) hk3,zA y7 (by show p<w1.heap.size;omega) hk3⟩
 have hm0:(0:Int)<=(t.chars:Int)*(o.copies:Int):=Int.mul_nonneg (by omega) (by omega);have hm1:(t.chars:Int)*(o.copies:Int)<=25*301:=by
  rw[<-Int.natCast_mul];have:=Nat.mul_le_mul hc hC;omega
 have HWR:Hid (IntKind.i64.wrap ((t.chars:Int)*(o.copies:Int))=(t.chars:Int)*(o.copies:Int)):=zAI _ (by omega) (by omega);have HBD:Hid (∀w,Ca 195 #[int i64 (IntKind.i64.wrap ((t.chars:Int)*(o.copies:Int)))] w fun e w'=>e=returned (int i64 (xI (t.chars*o.copies):Int))∧w'=w):=fun w=>by
  have:=zCu w (t.chars*o.copies);rw[show ((t.chars*o.copies:Nat):Int)=(t.chars:Int)*(o.copies:Int) by rw[Int.natCast_mul]] at this;rw[HWR.out];exact this
 have HA:Hid (zBs t o=Tr.plain ⟨4,⟨[],false⟩,[t],o.least,o.most,o.endless,xI (t.chars*o.copies)⟩):=rfl;have HBL:Hid (xI (t.chars*o.copies)<=25):=zDJ _;have HT:=vl h;clear h hC;generalize xI (t.chars*o.copies)=bn at *;generalize o.copies=C at *;generalize zBs t o=ag at *;go_in;apply wp_cut;intro K0 J;go_wp2;apply J.out;clear J;rw[<-hw1];clear hw1 hpl;apply wp_cut;intro K0 J;go_region_held3 (fun w'=>w'.cell? ⟨w.heap.size,0,none⟩=some (int i64 (o.least:Int))∧w'.cell? ⟨w.heap.size,1,none⟩=some (int i64 (o.most:Int))∧w'.cell? ⟨w.heap.size,2,none⟩=some (bool o.endless)∧w'.cell? ⟨p,7,none⟩=some (int i64 (t.chars:Int))) (first|exact⟨z0,z1,z2,z3⟩|go_keep) (first|(go_at_call 165;go_must ((refine (HCP.out w1.drew (Keep.alike (w':=w1.drew) ⟨rfl,rfl,rfl⟩)).mono ?_;rintro x w3 ⟨rfl,hk3,z0,z1,z2,z3⟩)))|(go_at_call 195;go_must ((refine (HBD.out _).mono ?_;rintro x w4 ⟨rfl,hw4⟩;have hw5:=hw4.symm;subst hw5))));show K0 _ _;apply J.out;clear J;have HY:Hid (Grew w w3∧w.heap.size+1<=w3.heap.size):=⟨K1.out.1.trans (hk3.lower K1.out.1.size K1.out.1.size),by have:=K1.out.2;have:=hk3.size;omega⟩
 obtain⟨P,hP⟩:∃P,P=w3.heap.size:=⟨_,rfl⟩
 obtain⟨w4,hw4,H4,HK4⟩:∃w4,w4=w3.alloc (.cells #[int i64 4,slice none 0 0,bool false,slice none 0 0,int i64 (o.least:Int),int i64 (o.most:Int),bool o.endless,int i64 (bn:Int)] 165)∧Tw w4 (fun i=>(X i∧i<w.heap.size)∨w.heap.size<=i) (P+1) P d (slice none 0 0) [] ⟨4,⟨[],false⟩,[],o.least,o.most,o.endless,bn⟩∧Hid (Grew w w4∧TreeIn (fun j=>((X j∧j<w.heap.size)∨w.heap.size<=j)∧j≠P∧some j≠(Value.slice none 0 0).ownBlock) w4 d p t∧w.heap.size+1<=P):=by
  have hk4:Grew w (w3.alloc (.cells #[int i64 4,slice none 0 0,bool false,slice none 0 0,int i64 (o.least:Int),int i64 (o.most:Int),bool o.endless,int i64 (bn:Int)] 165)):=HY.out.1.trans (kZ _ _ (by have:=HY.out.2;omega));have hb:=gU w3 (.cells #[int i64 4,slice none 0 0,bool false,slice none 0 0,int i64 (o.least:Int),int i64 (o.most:Int),bool o.endless,int i64 (bn:Int)] 165);rw[<-hP] at hb;have h5:=HY.out.2;refine⟨_,rfl,⟨hb,rfl,ownsRow_nil _ _ _ _,rfl,fun i hi=>absurd hi (Nat.not_lt_zero _),by omega,by rw[hP];simp,⟨by show 0<=_;omega,by show o.least<=_;omega,by show o.most<=_;omega,HBL.out⟩⟩,hk4,?_,by rw[hP];exact h5⟩;exact HT.out.step (hk4.agree fun i hi _=>⟨hi,by omega⟩) fun i hi hx=>⟨.inl ⟨hx,hi⟩,by omega,by simp[Value.ownBlock]⟩
 rw[<-hP,<-hw4];have HP:=vl hP;clear hw4 hP HT hk3 HY K1 HCP HBD HWR z0 z1 z2 z3 y0 y1 y2 y7;obtain⟨x3,-,xf⟩:=H4.cells;have xf3:=xf 3;have OW:w4.ownsRow (P+1) 158 1 (slice none 0 0) 0 (xT []):=H4.own;have hlt:P<w4.heap.size:=H4.lt;have HT4:=vl H4;clear H4 xf HP;apply wp_cut;intro K0 J;go_wp2_with (first|(at_builtin;refine wpList_append_lies _ rfl _ _ 118 rfl (P+1) 158 i0 (pointer none) 1 8 underlying118 hi0 hz0 hz1 hz2 rfl (by decide) _ _ _ rfl (OW.alloc _) ⟨w4.heap.size,0,none⟩ 1 1 [pointer (some ⟨p,0,none⟩)] rfl rfl (cell_one_new _ _ _) (by intro u hu;simp at hu;subst hu;rfl) (by decide) (by unfold maxLen;omega) (by omega) (by simp;omega) _ rfl ?_;intro gg cap w5 hown hgrow hat hlt2;have hPB:=hgrow.block P (by simp;omega) (by intro e;cases e);have x3b:w5.cell? ⟨P,3,none⟩=some (slice none 0 0):=(cell?_of_block hPB).trans ((cell?_alloc_past _ _ _ hlt).trans x3);have xf3b:w5.frozen? ⟨P,3,none⟩=false:=(frozen?_of_block hPB).trans ((frozen?_alloc_past _ _ _ hlt).trans xf3)))
 apply J.out;clear J;obtain⟨w6,hw6,H6⟩:∃w6,w6=w5.setCell ⟨P,3,none⟩ (slice (some ⟨gg,0,none⟩) 1 cap)∧Hid (Tw w6 (fun i=>(X i∧i<w.heap.size)∨w.heap.size<=i) (P+1) P d (slice (some ⟨gg,0,none⟩) 1 cap) [p] ⟨4,⟨[],false⟩,[t],o.least,o.most,o.endless,bn⟩∧KeepO P (slice none 0 0) (slice (some ⟨gg,0,none⟩) 1 cap) w4 w6):=⟨_,rfl,HT4.out.app (m:=0) (q:=p) (u:=t) rfl (by omega) HK4.out.2.1 hown hgrow (by rcases hat with ha|ha;exact .inl ha;right;rw[ha];simp)⟩
 rw[<-hw6];clear hw6 hown hgrow hat hlt2 hPB x3b xf3b OW x3 xf3;have HPL:Hid (Ca 190 #[pointer (some ⟨P,0,none⟩)] w6 fun e w'=>∃p',e=returned (pointer (some ⟨p',0,none⟩))∧TreeIn (fun i=>(X i∧i<w.heap.size)∨w.heap.size<=i) w' (d+1) p' ag∧Grew w w'):=by
  have hP:=HK4.out.2.2;have h4:=HK4.out.1;have hk6:Keep (P+1) P w4 w6:=H6.out.2.keep HT4.out.own HT4.out.lt;refine(zDW w6 _ (d+1) P _ (H6.out.1.in (.inr (by omega)) fun j hj=>.inr (by omega))).mono ?_;rintro e w7 ⟨p',rfl,ht,hk7⟩;have hs6:=hk6.size;have hs4:=h4.size;refine⟨p',rfl,?_,h4.trans (Keep.trans (w':=w6) ⟨hk6.os,hk6.output,hk6.size,fun k h1 _=>hk6.block k (by omega) (by omega)⟩ (hk7.lower (by omega) (by omega)))⟩;rw[HA.out];exact ht.mono fun i _ hx=>by
   rcases hx with hx|hx
   ·exact hx.1
   ·exact .inr (by omega)
 clear H6 HT4 HK4 HA;go_wp2_with (first|(go_at_call 190;refine HPL.out.mono ?_;rintro e w7 ⟨p',rfl,ht7,hk7⟩))
 go_ret;exact⟨p',rfl,ht7,hk7⟩
def DefsIn (b:Nat)(X:Nat->Prop)(w:World)(D:Nat)(v:Value)(l:List (ByteArray×Tr)):Prop:=
 ∃ao cap,v=slice ao l.length cap∧l.length<=cap∧cap<=maxLen∧∀i,i<l.length->∃g o p,ao=some ⟨g,o,none⟩∧In w g∧g<b∧w.cell? ⟨g,o+i*2,none⟩=some (string (l.getD i (⟨#[]⟩,Tr.none)).1)∧w.cell? ⟨g,o+i*2+1,none⟩=some (pointer (some ⟨p,0,none⟩))∧TreeIn X w D p (l.getD i (⟨#[]⟩,Tr.none)).2∧(l.getD i (⟨#[]⟩,Tr.none)).1.size<=100000
theorem DefsIn.go {b:Nat}{X:Nat->Prop}{w w2:World}{D:Nat}{v:Value}{l:List (ByteArray×Tr)}(h:DefsIn b X w D v l)(hH:∀i,X i->i<b)(a:Agree (·<b) w w2):DefsIn b X w2 D v l:=by
 obtain⟨ao,cap,hv,h1,h2,h3⟩:=h;refine⟨ao,cap,hv,h1,h2,fun i hi=>?_⟩;obtain⟨g,o,p,ha,hg,hx,c0,c1,ht,hs⟩:=h3 i hi;have e:=a.block g hg hx;exact⟨g,o,p,ha,lZ hg a.size,hx,(cell?_of_block e).trans c0,(cell?_of_block e).trans c1,ht.go (a.mono fun i _ hx=>hH i hx),hs⟩
def TrAns (w:World)(X:Nat->Prop)(b:Nat)(s:ByteArray)(dv:Value)(r:Rx)(D:Nat)(a:Option (Tr×Nat))(e:Ending)(w':World):Prop:=
 Keep w.heap.size b w w'∧match a with
 |none=>∃v q,e=returned (tuple #[pointer v,bool false])∧RxAt w' b s dv {r with at_:=q}
 |some (t,q)=>∃p,e=returned (tuple #[pointer (some ⟨p,0,none⟩),bool true])∧TreeIn (fun i=>X i∨w.heap.size<=i) w' (D+4*q) p t∧RxAt w' b s dv {r with at_:=q}
theorem zJi (s:ByteArray)(p:Nat)(l:List (ByteArray×Tr))(j:Nat)(h:j<l.length):zCl s p (l.drop j)=if zJ s p (braced (l.getD j (⟨#[]⟩,Tr.none)).1) then some ((l.getD j (⟨#[]⟩,Tr.none)).2,p+(braced (l.getD j (⟨#[]⟩,Tr.none)).1).size) else zCl s p (l.drop (j+1)):=by
 rw[List.drop_eq_getElem_cons h,lW,lV h];rfl
theorem zJh (w:World)(X:Nat->Prop)(b:Nat)(s:ByteArray)(dv:Value)(r:Rx)(h:RxAt w b s dv r)(hs:s.size<=1048576)(ha:r.at_<=s.size)(D:Nat)(defs:List (ByteArray×Tr))(hD:DefsIn b X w D dv defs)(hH:∀i,X i->i<b)(hlen:defs.length<=1000000):
  Calls prog 202 #[pointer (some ⟨b,0,none⟩)] w (TrAns w X b s dv r D (zCl s r.at_ defs)):=by
 have hlb:=h.lt;obtain⟨ao,cap,rfl,hcap,hcap2,hd⟩:=hD;have HD:=vl hd;obtain⟨-,c1,-,-,-,-⟩:=h.cells;have HR:=vl h;have HLB:=vl hlb;obtain⟨G,hG⟩:∃G,G=zCl s r.at_ defs:=⟨_,rfl⟩
 have HG:=vl hG.symm;rw[<-hG];go_in;go_wp2;go_loopg [11] defs.length (fun q i wr=>∃j:Nat,q=defs.length-j∧j<=defs.length∧i=int i64 (j:Int)∧zCl s r.at_ (defs.drop j)=G∧RxAt wr b s (slice ao defs.length cap) r∧Keep w.heap.size b w wr)
 case atStart=>exact⟨0,rfl,lX,rfl,HG.out,HR.out,Keep.refl _ _ _⟩
 case round=>
  obtain⟨j,hgk,hj,rfl,hGj,hR,hk⟩:=hrel;have HA:Hid (gk=defs.length-j∧RxAt wr b s (slice ao defs.length cap) r∧Keep w.heap.size b w wr):=⟨hgk,hR,hk⟩
  by_cases hj2:j<defs.length
  ·have i1:(j:Int)<(defs.length:Int):=by omega
   obtain⟨g,o,p,rfl,hg,hgH,d0,d1,ht,hsz⟩:=HD.out j hj2;have hb:=HLB.out;have eb:wr.heap[g]? =w.heap[g]? :=hk.block g hg (kJ hgH);have y0:=(cell?_of_block eb).trans d0;have y1:=(cell?_of_block eb).trans d1;have HGj:Hid ((if zJ s r.at_ (braced (defs.getD j (⟨#[]⟩,Tr.none)).1) then some ((defs.getD j (⟨#[]⟩,Tr.none)).2,r.at_+(braced (defs.getD j (⟨#[]⟩,Tr.none)).1).size) else zCl s r.at_ (defs.drop (j+1)))=G):=by
    show _=_;rw[<-zJi s r.at_ defs j hj2];exact hGj
   have HT:=vl <| ht.go (hk.agree fun i hi hx=>⟨hi,kJ (hH i hx)⟩);generalize defs.getD j (⟨#[]⟩,Tr.none)=nt at *;obtain⟨nm,tr⟩:=nt;simp only at y0 y1 hsz;have HTK:Hid (∀w2 v,zJ s r.at_ (braced nm)=v->RxAt w2 b s (slice (some ⟨g,o,none⟩) defs.length cap) r->Ca 189 #[pointer (some ⟨b,0,none⟩),string (⟨#[123]⟩++nm++⟨#[125]⟩)] w2 fun e w'=>e=returned (bool v)∧RxAt w' b s (slice (some ⟨g,o,none⟩) defs.length cap) {r with at_:=if v then r.at_+(braced nm).size else r.at_}∧∀H,Keep H b w2 w'):=fun w2 v hv h2=>jV (r:=r) (x:=r.at_) (braced nm) hs (by omega) (by rw[zBV];omega) hv rfl h2;have hbs:=zBV nm;have HBN:Hid (braced nm=⟨#[123]⟩++nm++⟨#[125]⟩):=rfl;have hwz:w.heap.size<=wr.heap.size:=HA.out.2.2.size;obtain⟨wa,hwa,HRa,z0,z1,HKa⟩:∃wa,wa=wr.alloc (.cells #[string nm,pointer (some ⟨p,0,none⟩)] 233)∧Hid (RxAt wa b s (slice (some ⟨g,o,none⟩) defs.length cap) r∧TreeIn (fun i=>X i∨w.heap.size<=i) wa D p tr)∧wa.cell? ⟨wr.heap.size,0,none⟩=some (string nm)∧wa.cell? ⟨wr.heap.size,1,none⟩=some (pointer (some ⟨p,0,none⟩))∧Hid (Keep w.heap.size b w wa):=by
    have hb2:=gU wr (.cells #[string nm,pointer (some ⟨p,0,none⟩)] 233);refine⟨_,rfl,⟨RxAt.of_block HA.out.2.1 (lG _ _ _ (by omega)),HT.out.step ((kZ (H:=wr.heap.size) (b:=b) _ _ lQ).agree fun i hi hx=>⟨hi,kJ (hH i hx)⟩) fun i _ hx=>.inl hx⟩,?_,?_,HA.out.2.2.trans (kZ _ _ hwz)⟩
    ·unfold cell?;rw[hb2];rfl
    ·unfold cell?;rw[hb2];rfl
   apply wp_cut;intro K1 HK1;go_wp2;apply HK1.out;apply wp_cut;intro K1 HK1;go_wp2;apply HK1.out;apply wp_cut;intro KB HKB;refine wp_block ?_;apply wp_cut;intro K1 HK1;go_wp2;apply HK1.out;clear HK1;rw[<-hwa];clear hwa y0 y1;have h1z:((⟨#[123]⟩:ByteArray)).size=1:=rfl;have h2z:((⟨#[125]⟩:ByteArray)).size=1:=rfl;clear hcap hcap2 hbs HBN;cases ht:zJ s r.at_ (braced nm) with
   |true=>
    have HT1:=HTK.out wa true ht HRa.out.1;have HT2:=vl HT1;rw[ht] at HGj;have HG2:=vl HGj.out.symm;rw[HG2.out];have hb:=HLB.out;have HZ:Hid (∀w4,(∀H,Keep H b wa w4)->TreeIn (fun i=>X i∨w.heap.size<=i) w4 (D+4*(r.at_+(braced nm).size)) p tr∧Keep w.heap.size b w w4∧w4.cell? ⟨wr.heap.size,1,none⟩=some (pointer (some ⟨p,0,none⟩))):=fun w4 hk4=>by
     refine⟨((HRa.out.2.go ((hk4 wa.heap.size).agree fun i hi hx=>⟨hi,by rcases hx with hx|hx;exact kJ (hH i hx);omega⟩))).deep (by omega),HKa.out.trans (hk4 _),?_⟩;exact(cell?_of_block ((hk4 (wr.heap.size+1)).block wr.heap.size (by omega) (by omega))).trans z1
    generalize (braced nm).size=bs at *;clear ht HT1 HTK HGj HG2 hb;go_wp2_with (first|(go_at_call 189;refine HT2.out.mono ?_;rintro e w4 ⟨rfl,hR4,hk4⟩;obtain⟨t4,k4,y1⟩:=HZ.out w4 hk4))
    refine bodyPost_ret (results_tmp2 rfl _ _ _) rfl ?_;exact⟨k4,p,rfl,t4,hR4⟩
   |false=>
    have HT1:=HTK.out wa false ht HRa.out.1;have HT2:=vl HT1;rw[ht] at HGj;have HG2:=vl HGj.out;clear ht HT1 HTK HGj;go_wp2_with (first|(go_at_call 189;refine HT2.out.mono ?_;rintro e w4 ⟨rfl,hR4,hk4⟩))
    apply HKB.out;clear HKB;go_wp2;go_roundg (defs.length-(j+1))
    case measure=>rw[HA.out.1];omega
    case rel=>exact⟨j+1,rfl,by omega,by go_num,HG2.out,hR4,HKa.out.trans (hk4 _)⟩
  ·have i1:(defs.length:Int)<=(j:Int):=by omega
   have HG2:Hid (G=none):=by
    show _=_;rw[<-hGj,List.drop_eq_nil_of_le (by omega)];rfl
   clear hgk hR hk hcap hcap2 hGj;go_wp2;rw[HG2.out];refine bodyPost_ret (results_tmp2 rfl _ _ _) rfl ?_;exact⟨HA.out.2.2,none,r.at_,rfl,HA.out.2.1⟩
def zAs (fn:Nat)(X:Nat->Prop)(b:Nat)(s:ByteArray)(dv:Value)(D0:Nat)(defs:List (ByteArray×Tr))(D k:Nat)(M:Reads):Prop:=
 ∀w r,RxAt w b s dv r->DefsIn b X w D0 dv defs->r.depth+k=8->r.at_<=s.size->Calls prog fn #[pointer (some ⟨b,0,none⟩)] w (TrAns w X b s dv r D (M r.at_ r.both))
theorem zID {X Y:Nat->Prop}{b:Nat}{s:ByteArray}{dv:Value}{w wa:World}{r:Rx}{D q:Nat}{u:Value}{c:Cs}(hb:b<w.heap.size)(hq:0<q)(hR:RxAt wa b s dv {r with at_:=q})(hr:RangesIn Y wa u c.ranges)(hY:∀i,Y i->w.heap.size<=i)(hk:Keep w.heap.size b w wa):Hid (Calls prog 205 #[agg #[u,bool c.others]] wa fun e w'=>∃p,e=returned (pointer (some ⟨p,0,none⟩))∧TreeIn (fun i=>X i∨w.heap.size<=i) w' (D+4*q) p (zGV c)∧RxAt w' b s dv {r with at_:=q}∧Keep w.heap.size b w w'):=by
 have hz:=hk.size;refine(zFK wa _ _ c hr).mono ?_;rintro e w4 ⟨p,rfl,ht,hk4⟩;refine⟨p,rfl,?_,RxAt.of_block hR (hk4.block b (by omega) (by omega)),hk.trans (hk4.lower (by omega) (by omega))⟩;have:=ht (D+4*q-1);rw[show D+4*q-1+1=D+4*q by omega] at this;exact this.mono fun i _ hx=>by
  rcases hx with hx|hx
  ·exact .inr (hY i hx.1)
  ·exact .inr (by omega)
theorem zOg (X:Nat->Prop)(b:Nat)(s:ByteArray)(dv:Value)(hs:s.size<=1048576)(D:Nat)(w:World)(r:Rx)(h:RxAt w b s dv r)(ha:r.at_<=s.size)(n1:byt s r.at_≠40)(n2:byt s r.at_≠123)(hm:jA s r.at_=none):
  Calls prog 196 #[pointer (some ⟨b,0,none⟩)] w (TrAns w X b s dv r D none):=by
 have HP0:=vl <| qE w b s dv r h hs (by omega) 0 (by omega);have HST:Hid (Ca 203 #[pointer (some ⟨b,0,none⟩)] w (zAn w b s dv r none)):=by have:=zDp w b s dv r h hs ha;rw[hm] at this;exact this
 have HLB:=vl h.lt;generalize byt s r.at_=c0 at *;have e1:((c0:Int)==40)=false:=by rw[hJ];omega
 have e2:((c0:Int)==123)=false:=by rw[hJ];omega
 go_in;go_wp2_with (first|(go_at_call 200;refine HP0.out.mono ?_;rintro e w9 ⟨rfl,hw9⟩;have hw8:=hw9.symm;subst hw8)|(go_at_call 203;refine HST.out.mono ?_;rintro e w2 ⟨hk2,v,n,cc,o,q,rfl,hR2⟩))
 refine bodyPost_ret (results_tmp2 rfl _ _ _) rfl ?_;have hb:=HLB.out;have hz:=hk2.size;refine⟨hk2.trans (kZ _ _ hz),none,q,rfl,RxAt.of_block hR2 (lG _ _ _ (by omega))⟩
theorem zOf (X:Nat->Prop)(b:Nat)(s:ByteArray)(dv:Value)(hs:s.size<=1048576)(D:Nat)(w:World)(r:Rx)(h:RxAt w b s dv r)(ha:r.at_<=s.size)(n1:byt s r.at_≠40)(n2:byt s r.at_≠123)(c:Cs)(q:Nat)(hm:jA s r.at_=some (c,q))(hbo:r.both=false):
  Calls prog 196 #[pointer (some ⟨b,0,none⟩)] w (TrAns w X b s dv r D (some (zGV c,q))):=by
 have HP0:=vl <| qE w b s dv r h hs (by omega) 0 (by omega);have HST:Hid (Ca 203 #[pointer (some ⟨b,0,none⟩)] w (zAn w b s dv r (some (c,q)))):=by have:=zDp w b s dv r h hs ha;rw[hm] at this;exact this
 have HLB:Hid (b<w.heap.size∧0<q∧c.ranges.length<=3000000):=⟨h.lt,by have:=(zCS s hs _ _ _ hm).1;omega,(zCS s hs _ _ _ hm).2.2.1⟩
 generalize byt s r.at_=c0 at *;have e1:((c0:Int)==40)=false:=by rw[hJ];omega
 have e2:((c0:Int)==123)=false:=by rw[hJ];omega
 have HBO:=vl hbo;go_in;apply wp_cut;intro K0 J;go_wp2;apply J.out;apply wp_cut;intro K0 J;go_wp2_with (first|(go_at_call 200;refine HP0.out.mono ?_;rintro e w9 ⟨rfl,hw9⟩;have hw8:=hw9.symm;subst hw8))
 apply J.out;apply wp_cut;intro K0 J;go_wp2_with (first|(go_at_call 203;refine HST.out.mono ?_;rintro e w2 ⟨hk2,u,rfl,hu,hR2⟩;obtain⟨ao,cap,hv,-⟩:=hu.at;subst hv))
 apply J.out;obtain⟨wa,hwa,z0,z1,c4,HA⟩:∃wa,wa=w2.alloc (.cells #[slice ao c.ranges.length cap,bool c.others] 161)∧wa.cell? ⟨w2.heap.size,0,none⟩=some (slice ao c.ranges.length cap)∧wa.cell? ⟨w2.heap.size,1,none⟩=some (bool c.others)∧wa.cell? ⟨b,4,none⟩=some (bool false)∧Hid (RxAt wa b s dv {r with at_:=q}∧RangesIn (fun i=>w.heap.size<=i∧i≠w2.heap.size) wa (slice ao c.ranges.length cap) c.ranges∧Keep w.heap.size b w wa∧wa.heap.size=w2.heap.size+1∧w.heap.size<=w2.heap.size∧wa.heap[w2.heap.size]? =some (.cells #[slice ao c.ranges.length cap,bool c.others] 161)):=by
  have hb:=HLB.out.1;have hz:=hk2.size;have hn:=gU w2 (.cells #[slice ao c.ranges.length cap,bool c.others] 161);have hR:RxAt (w2.alloc (.cells #[slice ao c.ranges.length cap,bool c.others] 161)) b s dv {r with at_:=q}:=RxAt.of_block hR2 (lG _ _ _ (by omega));refine⟨_,rfl,?_,?_,?_,hR,fun w3 a=>hu w3 ⟨a.os,a.output,lY (by simp) a.size,fun i hi hx=>(a.block i (by simp;omega) ⟨hx,by omega⟩).trans (lG _ _ _ hi)⟩,hk2.trans (kZ _ _ hz),by simp,hz,hn⟩
  ·unfold cell?;rw[hn];rfl
  ·unfold cell?;rw[hn];rfl
  ·have:=hR.cells.2.2.2.2.1
   rw[<-HBO.out];exact this
 rw[<-hwa];clear hwa hk2 hu hR2;obtain⟨B,hB⟩:∃B,B=w2.heap.size:=⟨_,rfl⟩
 rw[<-hB] at z0 z1 HA ⊢;clear hB;apply wp_cut;intro K0 J;go_wp2;apply J.out;clear J;have HOT:=zID (X:=X) (D:=D) HLB.out.1 HLB.out.2.1 HA.out.1 HA.out.2.1 (fun i h=>h.1) HA.out.2.2.1;clear HA;go_wp2_with (first|(go_at_call 205;refine HOT.out.mono ?_;rintro e w4 ⟨p,rfl,ht4,hR4,hk4⟩))
 refine bodyPost_ret (results_tmp2 rfl _ _ _) rfl ?_;exact⟨hk4,p,rfl,ht4,hR4⟩
theorem zOh (X:Nat->Prop)(b:Nat)(s:ByteArray)(dv:Value)(hs:s.size<=1048576)(D:Nat)(w:World)(r:Rx)(h:RxAt w b s dv r)(ha:r.at_<=s.size)(n1:byt s r.at_≠40)(n2:byt s r.at_≠123)(c:Cs)(q:Nat)(hm:jA s r.at_=some (c,q))(hbo:r.both=true):
  Calls prog 196 #[pointer (some ⟨b,0,none⟩)] w (TrAns w X b s dv r D (some (zGV ⟨qB c.ranges,c.others⟩,q))):=by
 have HP0:=vl <| qE w b s dv r h hs (by omega) 0 (by omega);have HST:Hid (Ca 203 #[pointer (some ⟨b,0,none⟩)] w (zAn w b s dv r (some (c,q)))):=by have:=zDp w b s dv r h hs ha;rw[hm] at this;exact this
 have HLB:Hid (b<w.heap.size∧0<q∧c.ranges.length<=3000000):=⟨h.lt,by have:=(zCS s hs _ _ _ hm).1;omega,(zCS s hs _ _ _ hm).2.2.1⟩
 generalize byt s r.at_=c0 at *;have e1:((c0:Int)==40)=false:=by rw[hJ];omega
 have e2:((c0:Int)==123)=false:=by rw[hJ];omega
 have HBO:=vl hbo;go_in;apply wp_cut;intro K0 J;go_wp2;apply J.out;apply wp_cut;intro K0 J;go_wp2_with (first|(go_at_call 200;refine HP0.out.mono ?_;rintro e w9 ⟨rfl,hw9⟩;have hw8:=hw9.symm;subst hw8))
 apply J.out;clear J;apply wp_cut;intro K0 J;go_wp2_with (first|(go_at_call 203;refine HST.out.mono ?_;rintro e w2 ⟨hk2,u,rfl,hu,hR2⟩;obtain⟨ao,cap,hv,-⟩:=hu.at;subst hv))
 apply J.out;clear J;obtain⟨wa,hwa,z0,z1,c4,HA⟩:∃wa,wa=w2.alloc (.cells #[slice ao c.ranges.length cap,bool c.others] 161)∧wa.cell? ⟨w2.heap.size,0,none⟩=some (slice ao c.ranges.length cap)∧wa.cell? ⟨w2.heap.size,1,none⟩=some (bool c.others)∧wa.cell? ⟨b,4,none⟩=some (bool true)∧Hid (RxAt wa b s dv {r with at_:=q}∧RangesIn (fun i=>w.heap.size<=i∧i≠w2.heap.size) wa (slice ao c.ranges.length cap) c.ranges∧Keep w.heap.size b w wa∧wa.heap.size=w2.heap.size+1∧w.heap.size<=w2.heap.size∧wa.heap[w2.heap.size]? =some (.cells #[slice ao c.ranges.length cap,bool c.others] 161)):=by
  have hb:=HLB.out.1;have hz:=hk2.size;have hn:=gU w2 (.cells #[slice ao c.ranges.length cap,bool c.others] 161);have hR:RxAt (w2.alloc (.cells #[slice ao c.ranges.length cap,bool c.others] 161)) b s dv {r with at_:=q}:=RxAt.of_block hR2 (lG _ _ _ (by omega));refine⟨_,rfl,?_,?_,?_,hR,fun w3 a=>hu w3 ⟨a.os,a.output,lY (by simp) a.size,fun i hi hx=>(a.block i (by simp;omega) ⟨hx,by omega⟩).trans (lG _ _ _ hi)⟩,hk2.trans (kZ _ _ hz),by simp,hz,hn⟩
  ·unfold cell?;rw[hn];rfl
  ·unfold cell?;rw[hn];rfl
  ·have:=hR.cells.2.2.2.2.1
   rw[<-HBO.out];exact this
 rw[<-hwa];clear hwa hk2 hu hR2;obtain⟨B,hB⟩:∃B,B=w2.heap.size:=⟨_,rfl⟩
 rw[<-hB] at z0 z1 HA ⊢;clear hB;apply wp_cut;intro K0 J;go_wp2;apply J.out;clear J;have HBC:=vl <| zEi wa _ c.ranges c.others HA.out.2.1.at (by have:=HLB.out.2.2;omega)
 apply wp_cut;intro K0 J;go_wp2_with (first|(go_at_call 204;refine HBC.out.mono ?_;rintro e w5 ⟨u5,rfl,hu5,hk5⟩;obtain⟨ao5,cap5,hv5,-⟩:=hu5.at;subst hv5;have hB5:=(hk5.block B (by have:=HA.out.2.2.2.1;omega) (by have:=HA.out.2.2.2.1;omega)).trans HA.out.2.2.2.2.2;have q0:w5.cell? ⟨B,0,none⟩=some (slice ao c.ranges.length cap):=(by unfold cell?;rw[hB5];rfl);have q1:w5.cell? ⟨B,1,none⟩=some (bool c.others):=(by unfold cell?;rw[hB5];rfl);have g0:w5.frozen? ⟨B,0,none⟩=false:=(by unfold frozen?;rw[hB5];rfl);have g1:w5.frozen? ⟨B,1,none⟩=false:=(by unfold frozen?;rw[hB5];rfl);have HB5:=vl hB5;clear hB5))
 apply J.out;clear J;obtain⟨w6,hw6,y0,y1,H6⟩:∃w6,w6=(w5.setCell ⟨B,0,none⟩ (slice ao5 (qB c.ranges).length cap5)).setCell ⟨B,1,none⟩ (bool c.others)∧w6.cell? ⟨B,0,none⟩=some (slice ao5 (qB c.ranges).length cap5)∧w6.cell? ⟨B,1,none⟩=some (bool c.others)∧Hid (RxAt w6 b s dv {r with at_:=q}∧RangesIn (fun i=>w.heap.size<=i) w6 (slice ao5 (qB c.ranges).length cap5) (qB c.ranges)∧Keep w.heap.size b w w6∧w.heap.size<=w6.heap.size):=by
  obtain⟨hR,hr,hk,hsz,hw2,hBB⟩:=HA.out;have hb:=HLB.out.1;have h2:((w5.setCell ⟨B,0,none⟩ (slice ao5 (qB c.ranges).length cap5)).setCell ⟨B,1,none⟩ (bool c.others)).heap[B]? =some (.cells #[slice ao5 (qB c.ranges).length cap5,bool c.others] 161):=by
   simp[setCell,lU,HB5.out]
  have hne:∀i,i≠B->((w5.setCell ⟨B,0,none⟩ (slice ao5 (qB c.ranges).length cap5)).setCell ⟨B,1,none⟩ (bool c.others)).heap[i]? =w5.heap[i]? :=fun i hi2=>by
   simp[setCell,lU,Ne.symm hi2]
  have hs5:=hk5.size;have hs6:((w5.setCell ⟨B,0,none⟩ (slice ao5 (qB c.ranges).length cap5)).setCell ⟨B,1,none⟩ (bool c.others)).heap.size=w5.heap.size:=by simp[World.setCell]
  refine⟨_,rfl,?_,?_,RxAt.of_block hR ((hne b (by omega)).trans (hk5.block b (by omega) (by omega))),RangesIn.mono (X:=fun i=>wa.heap.size<=i) (hu5.go ⟨rfl,rfl,by rw[hs6];omega,fun i _ hx=>hne i (by omega)⟩) (fun i _ hx=>by omega),(hk.trans (hk5.lower (by omega) (by omega))).trans ⟨rfl,rfl,by rw[hs6];omega,fun k h1 _=>hne k (by omega)⟩,by rw[hs6];omega⟩
  ·unfold cell?;rw[h2];rfl
  ·unfold cell?;rw[h2];rfl
 rw[<-hw6];clear hw6 hu5 hk5 q0 q1 g0 g1 z0 z1;have HOT:=zID (X:=X) (D:=D) (c:=⟨qB c.ranges,c.others⟩) HLB.out.1 HLB.out.2.1 H6.out.1 H6.out.2.1 (fun i h=>h) H6.out.2.2.1;clear HA H6 HBC HB5;generalize qB c.ranges=L at *;go_wp2_with (first|(go_at_call 205;refine HOT.out.mono ?_;rintro e w4 ⟨p,rfl,ht4,hR4,hk4⟩))
 refine bodyPost_ret (results_tmp2 rfl _ _ _) rfl ?_;exact⟨hk4,p,rfl,ht4,hR4⟩
theorem TrAns.any {w w':World}{X:Nat->Prop}{b:Nat}{s:ByteArray}{dv:Value}{r:Rx}{D:Nat}{a:Option (Tr×Nat)}{e:Ending}(h:TrAns w X b s dv r D a e w'):∃(v:Option Addr) (q:Nat) (k:Bool),e=returned (tuple #[pointer v,bool k])∧RxAt w' b s dv {r with at_:=q}∧Hid (Keep w.heap.size b w w'∧(k=false∧a=none∨k=true∧∃p t,v=some ⟨p,0,none⟩∧a=some (t,q)∧TreeIn (fun i=>X i∨w.heap.size<=i) w' (D+4*q) p t)):=by
 cases a with
 |none=>
  obtain⟨hk,v,q,rfl,hR⟩:=h;exact⟨v,q,false,rfl,hR,hk,.inl ⟨rfl,rfl⟩⟩
 |some g=>
  obtain⟨t,q⟩:=g;obtain⟨hk,p,rfl,ht,hR⟩:=h;exact⟨_,q,true,rfl,hR,hk,.inr ⟨rfl,p,t,rfl,rfl,ht⟩⟩
theorem zNz (X:Nat->Prop)(b:Nat)(s:ByteArray)(dv:Value)(hs:s.size<=1048576)(D:Nat)(w:World)(r:Rx)(h:RxAt w b s dv r)(ha:r.at_<=s.size)(hc:byt s r.at_=40)(a:Option (Tr×Nat))(hB:Calls prog 201 #[pointer (some ⟨b,0,none⟩)] w (TrAns w X b s dv r D a)):
  Calls prog 196 #[pointer (some ⟨b,0,none⟩)] w (TrAns w X b s dv r D a):=by
 have HP1:=vl ((zGS hs (by omega)).out w h);rw[hc] at HP1;have HBR:=vl hB;go_in;go_wp2_with (first|(go_at_call 200;refine HP1.out.mono ?_;rintro e w9 ⟨rfl,hw9⟩;have hw8:=hw9.symm;subst hw8)|(go_at_call 201;refine HBR.out.mono ?_;rintro e w2 hx;obtain⟨v,q,k,rfl,-,-⟩:=TrAns.any hx))
 refine bodyPost_ret (results_tmp2 rfl _ _ _) rfl ?_;exact hx
theorem zNy (X:Nat->Prop)(b:Nat)(s:ByteArray)(dv:Value)(hs:s.size<=1048576)(D:Nat)(w:World)(r:Rx)(h:RxAt w b s dv r)(ha:r.at_<=s.size)(hc:byt s r.at_=123)(a:Option (Tr×Nat))(hB:Calls prog 202 #[pointer (some ⟨b,0,none⟩)] w (TrAns w X b s dv r D a)):
  Calls prog 196 #[pointer (some ⟨b,0,none⟩)] w (TrAns w X b s dv r D a):=by
 have HP1:=vl ((zGS hs (by omega)).out w h);rw[hc] at HP1;have HBR:=vl hB;go_in;go_wp2_with (first|(go_at_call 200;refine HP1.out.mono ?_;rintro e w9 ⟨rfl,hw9⟩;have hw8:=hw9.symm;subst hw8)|(go_at_call 202;refine HBR.out.mono ?_;rintro e w2 hx;obtain⟨v,q,k,rfl,-,-⟩:=TrAns.any hx))
 refine bodyPost_ret (results_tmp2 rfl _ _ _) rfl ?_;exact hx
theorem zFu (X:Nat->Prop)(b:Nat)(s:ByteArray)(dv:Value)(hs:s.size<=1048576)(hH:∀i,X i->i<b)(D:Nat)(defs:List (ByteArray×Tr))(hlen:defs.length<=1000000)(k:Nat)(sub:Reads)(hbr:∀w r,RxAt w b s dv r->DefsIn b X w D dv defs->r.depth+k=8->r.at_<=s.size->byt s r.at_=40->Calls prog 201 #[pointer (some ⟨b,0,none⟩)] w (TrAns w X b s dv r D (brM s k sub r.at_ r.both))):
  zAs 196 X b s dv D defs D k (zDg s defs k sub):=fun w r h hD hk ha=>by
 unfold zDg;by_cases h1:byt s r.at_=40
 ·rw[if_pos h1]
  exact zNz X b s dv hs D w r h ha h1 _ (hbr w r h hD hk ha h1)
 rw[if_neg h1];by_cases h2:byt s r.at_=123
 ·rw[if_pos h2]
  exact zNy X b s dv hs D w r h ha h2 _ (zJh w X b s dv r h hs ha D defs hD hH hlen)
 rw[if_neg h2];cases hm:jA s r.at_ with
 |none=>exact zOg X b s dv hs D w r h ha h1 h2 hm
 |some g=>
  obtain⟨c,q⟩:=g;cases hb:r.both with
  |false=>exact zOf X b s dv hs D w r h ha h1 h2 c q hm hb
  |true=>exact zOh X b s dv hs D w r h ha h1 h2 c q hm hb
section
section
variable {w:World} {b:Nat} {s:ByteArray} {dv:Value} {r:Rx}
theorem RxAt.setDepth (h:RxAt w b s dv r)(n:Nat):RxAt (w.setCell ⟨b,3,none⟩ (int i64 (n:Int))) b s dv {r with depth:=n}:=by
 unfold RxAt at *;simp[setCell,lU,h]
theorem RxAt.setBoth (h:RxAt w b s dv r)(x:Bool):RxAt (w.setCell ⟨b,4,none⟩ (bool x)) b s dv {r with both:=x}:=by
 unfold RxAt at *;simp[setCell,lU,h]
end
theorem zNx (X:Nat->Prop)(b:Nat)(s:ByteArray)(dv:Value)(D:Nat)(w:World)(r:Rx)(h:RxAt w b s dv r)(hdp:r.depth=8):Calls prog 201 #[pointer (some ⟨b,0,none⟩)] w (TrAns w X b s dv r D (none)):=by
 obtain⟨-,-,-,c3,-,-⟩:=h.cells;rw[hdp] at c3;have c3b:=c3;have HR:=vl h;go_in;go_wp2;refine bodyPost_ret (results_tmp2 rfl _ _ _) rfl ?_;exact⟨Keep.refl _ _ _,none,r.at_,rfl,HR.out⟩
theorem zMA (X:Nat->Prop)(b:Nat)(s:ByteArray)(dv:Value)(hs:s.size<=1048576)(D:Nat)(w:World)(r:Rx)(h:RxAt w b s dv r)(hdp:r.depth<=7)(ha:r.at_<=s.size)(h0:zJ s r.at_ ⟨#[40,41]⟩=true):Calls prog 201 #[pointer (some ⟨b,0,none⟩)] w (TrAns w X b s dv r D (some (Tr.none,r.at_+2))):=by
 obtain⟨-,-,-,c3,-,-⟩:=h.cells;have HLB:=vl h.lt;have i8:(r.depth:Int)<8:=by omega
 have HT0:=vl (jV (r:=r) (x:=r.at_) (y:=r.at_+2) ⟨#[40,41]⟩ hs (by omega) (by decide) h0 rfl h);go_in;go_wp2_with (first|(go_at_call 189;refine HT0.out.mono ?_;rintro e w1 ⟨rfl,hR1,hk1⟩))
 refine bodyPost_ret (results_tmp2 rfl _ _ _) rfl ?_;have hb:=HLB.out;have hz:=(hk1 0).size;refine⟨(hk1 _).trans (kZ _ _ hz),_,rfl,?_,RxAt.of_block hR1 (lG _ _ _ (by omega))⟩;rw[show D+4*(r.at_+2)=D+4*r.at_+7+1 by omega];exact zIm (gU _ _) (.inr hz)
def zNI (s:ByteArray):Option (Tr×Nat)->Option (Tr×Nat)
 |none=>none
 |some (t,q)=>if zJ s q ⟨#[41]⟩ then some (t,q+1) else none
theorem zOC (X:Nat->Prop)(b:Nat)(s:ByteArray)(dv:Value)(hs:s.size<=1048576)(hH:∀i,X i->i<b)(D:Nat)(w:World)(r:Rx)(h:RxAt w b s dv r)(hdp:r.depth<=7)(ha:r.at_<s.size)(h0:zJ s r.at_ ⟨#[40,41]⟩=false)(h1:zJ s r.at_ ⟨#[40,105,58]⟩=true)(m:Option (Tr×Nat))(hsub:∀w4,RxAt w4 b s dv ⟨r.at_+3,r.depth+1,true⟩->Keep w.heap.size b w w4->Calls prog 182 #[pointer (some ⟨b,0,none⟩)] w4 (TrAns w4 X b s dv ⟨r.at_+3,r.depth+1,true⟩ (D+2) m))(hq:∀t q,m=some (t,q)->q<=s.size):Calls prog 201 #[pointer (some ⟨b,0,none⟩)] w (TrAns w X b s dv r D (zNI s m)):=by
 obtain⟨-,-,-,c3,c4,-⟩:=h.cells;have HLB:=vl h.lt;have i8:(r.depth:Int)<8:=by omega
 have HT0:=vl (jV (r:=r) (x:=r.at_) (y:=r.at_) ⟨#[40,41]⟩ hs (by omega) (by decide) h0 rfl h);have HT1:=zIW (b:=b) (dv:=dv) (r:=r) (y:=r.at_+3) h1 hs (by omega) (by decide) rfl;have HSB:=vl hsub;have HQ:=vl hq;go_in;apply wp_cut;intro K0 J;go_wp2;apply J.out;apply wp_cut;intro K0 J;go_wp2;apply J.out;apply wp_cut;intro K0 J;go_wp2_with (first|(go_at_call 189;refine HT0.out.mono ?_;rintro e w1 ⟨rfl,hR1,hk1⟩))
 apply J.out;have d4:w1.cell? ⟨b,4,none⟩=some (bool r.both):=hR1.cells.2.2.2.2.1;clear c3 c4;apply wp_cut;intro K0 J;go_wp2;apply J.out;clear J;clear d4;apply wp_cut;intro K0 J;go_wp2_with (first|(go_at_call 189;refine(HT1.out w1 hR1).mono ?_;rintro e w2 ⟨rfl,hR2,hk2⟩;have d4:w2.cell? ⟨b,4,none⟩=some (bool r.both):=hR2.cells.2.2.2.2.1;have f4:=hR2.cells.2.2.2.2.2 4))
 apply J.out;clear J;obtain⟨w3,hw3,hR3,hk3⟩:∃w3,w3=w2.setCell ⟨b,4,none⟩ (bool true)∧RxAt w3 b s dv ⟨r.at_+3,r.depth,true⟩∧Hid (Keep w.heap.size b w w3):=⟨_,rfl,hR2.setBoth true,((hk1 _).trans (hk2 _)).trans (Keep.set _ _ _)⟩
 rw[<-hw3];clear hw3 hR1 hR2 hk1 hk2 d4 f4;have d3:w3.cell? ⟨b,3,none⟩=some (int i64 (r.depth:Int)):=hR3.cells.2.2.2.1;have f3:=hR3.cells.2.2.2.2.2 3;apply wp_cut;intro K0 J;go_wp2;apply J.out;clear J;obtain⟨w4,hw4,hR4,hk4⟩:∃w4,w4=w3.setCell ⟨b,3,none⟩ (int i64 ((r.depth:Int)+1))∧RxAt w4 b s dv ⟨r.at_+3,r.depth+1,true⟩∧Hid (Keep w.heap.size b w w4):=⟨_,rfl,hR3.setDepth (r.depth+1),hk3.out.trans (Keep.set _ _ _)⟩
 rw[<-hw4];clear hw4 hR3 hk3 d3 f3;have HEJ:=vl (HSB.out w4 hR4 hk4.out);clear HSB;apply wp_cut;intro K0 J;go_wp2_with (first|(go_at_call 182;refine HEJ.out.mono ?_;rintro e w5 ha5;obtain⟨v,q,kk,rfl,hR5,HH⟩:=TrAns.any ha5;clear ha5))
 apply J.out;clear J;have d3:w5.cell? ⟨b,3,none⟩=some (int i64 ((r.depth:Int)+1)):=hR5.cells.2.2.2.1;have f3:=hR5.cells.2.2.2.2.2 3;apply wp_cut;intro K0 J;go_wp2;apply J.out;clear J;obtain⟨w6,hw6,hR6,HK6⟩:∃w6,w6=w5.setCell ⟨b,3,none⟩ (int i64 (r.depth:Int))∧RxAt w6 b s dv ⟨q,r.depth,true⟩∧Hid (∀H,Keep H b w5 w6):=⟨_,rfl,hR5.setDepth r.depth,fun H=>Keep.set _ _ _⟩
 rw[<-hw6];clear hw6 d3 f3 hR5;have d4:w6.cell? ⟨b,4,none⟩=some (bool true):=hR6.cells.2.2.2.2.1;have f4:=hR6.cells.2.2.2.2.2 4;apply wp_cut;intro K0 J;go_wp2;apply J.out;clear J;obtain⟨w7,hw7,hR7,HK7⟩:∃w7,w7=w6.setCell ⟨b,4,none⟩ (bool r.both)∧RxAt w7 b s dv {r with at_:=q}∧Hid (∀H,Keep H b w5 w7):=⟨_,rfl,hR6.setBoth r.both,fun H=>(HK6.out H).trans (Keep.set _ _ _)⟩
 rw[<-hw7];clear hw7 d4 f4 hR6 HK6;obtain⟨hk5,hkk⟩:=HH.out;have HKA:Hid (Keep w.heap.size b w w7):=by
  have h1:=hk4.out.size;exact(hk4.out.trans ⟨hk5.os,hk5.output,hk5.size,fun k h1 h2=>hk5.block k (by omega) h2⟩).trans (HK7.out _)
 rcases hkk with⟨rfl,rfl⟩|⟨rfl,p,t,rfl,rfl,ht5⟩
 ·clear hk5 HK7 hk4 hR4 HH
  go_wp2;refine bodyPost_ret (results_tmp2 rfl _ _ _) rfl ?_;exact⟨HKA.out,none,q,rfl,hR7⟩
 have HTR:Hid (∀w8,(∀H,Keep H b w7 w8)->TreeIn (fun i=>X i∨w.heap.size<=i) w8 (D+4*(q+1)) p t):=fun w8 hk8=>by
  have hb:=HLB.out;have h1:=hk4.out.size;refine(((ht5.go ((HK7.out w5.heap.size).agree fun i hi hx=>⟨hi,by rcases hx with hx|hx;exact kJ (hH i hx);omega⟩)).go ((hk8 w7.heap.size).agree fun i hi hx=>⟨hi,by rcases hx with hx|hx;exact kJ (hH i hx);omega⟩)).mono fun i _ hx=>?_).deep (by omega);rcases hx with hx|hx
  ·exact .inl hx
  ·exact .inr (by omega)
 have hq:=HQ.out t q rfl;clear ht5 hk5 HK7 hk4 hR4 HH;show Code.wp _ _ (bodyPost _ _ (TrAns w X b s dv r D (if zJ s q ⟨#[41]⟩ then some (t,q+1) else none))) _ _;cases h2:zJ s q ⟨#[41]⟩ with
 |true=>
  go_wp2_with (first|(go_at_call 189;refine(jV (r:=r) (x:=q) (y:=q+1) ⟨#[41]⟩ hs (by omega) (by decide) h2 rfl hR7).mono ?_;rintro e w8 ⟨rfl,hR8,hk8⟩))
  refine bodyPost_ret (results_tmp2 rfl _ _ _) rfl ?_;exact⟨HKA.out.trans (hk8 _),p,rfl,HTR.out w8 hk8,hR8⟩
 |false=>
  go_wp2_with (first|(go_at_call 189;refine(jV (r:=r) (x:=q) (y:=q) ⟨#[41]⟩ hs (by omega) (by decide) h2 rfl hR7).mono ?_;rintro e w8 ⟨rfl,hR8,hk8⟩))
  refine bodyPost_ret (results_tmp2 rfl _ _ _) rfl ?_;exact⟨HKA.out.trans (hk8 _),none,q,rfl,hR8⟩
theorem zOB (X:Nat->Prop)(b:Nat)(s:ByteArray)(dv:Value)(hs:s.size<=1048576)(hH:∀i,X i->i<b)(D:Nat)(w:World)(r:Rx)(h:RxAt w b s dv r)(hdp:r.depth<=7)(ha:r.at_<s.size)(h0:zJ s r.at_ ⟨#[40,41]⟩=false)(h1:zJ s r.at_ ⟨#[40,105,58]⟩=false)(m:Option (Tr×Nat))(hsub:∀w4,RxAt w4 b s dv ⟨r.at_+1,r.depth+1,r.both⟩->Keep w.heap.size b w w4->Calls prog 182 #[pointer (some ⟨b,0,none⟩)] w4 (TrAns w4 X b s dv ⟨r.at_+1,r.depth+1,r.both⟩ (D+2) m))(hq:∀t q,m=some (t,q)->q<=s.size):Calls prog 201 #[pointer (some ⟨b,0,none⟩)] w (TrAns w X b s dv r D (zNI s m)):=by
 obtain⟨-,-,-,c3,c4,-⟩:=h.cells;have HLB:=vl h.lt;have i8:(r.depth:Int)<8:=by omega
 have HT0:=vl (jV (r:=r) (x:=r.at_) (y:=r.at_) ⟨#[40,41]⟩ hs (by omega) (by decide) h0 rfl h);have HT1:=zIW (b:=b) (dv:=dv) (r:=r) (y:=r.at_) h1 hs (by omega) (by decide) rfl;have HSB:=vl hsub;have HQ:=vl hq;go_in;apply wp_cut;intro K0 J;go_wp2;apply J.out;apply wp_cut;intro K0 J;go_wp2;apply J.out;apply wp_cut;intro K0 J;go_wp2_with (first|(go_at_call 189;refine HT0.out.mono ?_;rintro e w1 ⟨rfl,hR1,hk1⟩))
 apply J.out;have d4:w1.cell? ⟨b,4,none⟩=some (bool r.both):=hR1.cells.2.2.2.2.1;clear c3 c4;apply wp_cut;intro K0 J;go_wp2;apply J.out;clear J;clear d4;apply wp_cut;intro K0 J;go_wp2_with (first|(go_at_call 189;refine(HT1.out w1 hR1).mono ?_;rintro e w2 ⟨rfl,hR2,hk2⟩;have d2:w2.cell? ⟨b,2,none⟩=some (int i64 (r.at_:Int)):=hR2.cells.2.2.1;have f2:=hR2.cells.2.2.2.2.2 2))
 apply J.out;clear J;obtain⟨w3,hw3,hR3,hk3⟩:∃w3,w3=w2.setCell ⟨b,2,none⟩ (int i64 ((r.at_:Int)+1))∧RxAt w3 b s dv ⟨r.at_+1,r.depth,r.both⟩∧Hid (Keep w.heap.size b w w3):=⟨_,rfl,hR2.setAt (r.at_+1),((hk1 _).trans (hk2 _)).trans (Keep.set _ _ _)⟩
 rw[<-hw3];clear hw3 hR1 hR2 hk1 hk2 d2 f2;have d3:w3.cell? ⟨b,3,none⟩=some (int i64 (r.depth:Int)):=hR3.cells.2.2.2.1;have f3:=hR3.cells.2.2.2.2.2 3;apply wp_cut;intro K0 J;go_wp2;apply J.out;clear J;obtain⟨w4,hw4,hR4,hk4⟩:∃w4,w4=w3.setCell ⟨b,3,none⟩ (int i64 ((r.depth:Int)+1))∧RxAt w4 b s dv ⟨r.at_+1,r.depth+1,r.both⟩∧Hid (Keep w.heap.size b w w4):=⟨_,rfl,hR3.setDepth (r.depth+1),hk3.out.trans (Keep.set _ _ _)⟩
 rw[<-hw4];clear hw4 hR3 hk3 d3 f3;have HEJ:=vl (HSB.out w4 hR4 hk4.out);clear HSB;apply wp_cut;intro K0 J;go_wp2_with (first|(go_at_call 182;refine HEJ.out.mono ?_;rintro e w5 ha5;obtain⟨v,q,kk,rfl,hR5,HH⟩:=TrAns.any ha5;clear ha5))
 apply J.out;clear J;have d3:w5.cell? ⟨b,3,none⟩=some (int i64 ((r.depth:Int)+1)):=hR5.cells.2.2.2.1;have f3:=hR5.cells.2.2.2.2.2 3;apply wp_cut;intro K0 J;go_wp2;apply J.out;clear J;obtain⟨w6,hw6,hR6,HK6⟩:∃w6,w6=w5.setCell ⟨b,3,none⟩ (int i64 (r.depth:Int))∧RxAt w6 b s dv ⟨q,r.depth,r.both⟩∧Hid (∀H,Keep H b w5 w6):=⟨_,rfl,hR5.setDepth r.depth,fun H=>Keep.set _ _ _⟩
 rw[<-hw6];clear hw6 d3 f3 hR5;have d4:w6.cell? ⟨b,4,none⟩=some (bool r.both):=hR6.cells.2.2.2.2.1;have f4:=hR6.cells.2.2.2.2.2 4;apply wp_cut;intro K0 J;go_wp2;apply J.out;clear J;obtain⟨w7,hw7,hR7,HK7⟩:∃w7,w7=w6.setCell ⟨b,4,none⟩ (bool r.both)∧RxAt w7 b s dv {r with at_:=q}∧Hid (∀H,Keep H b w5 w7):=⟨_,rfl,hR6.setBoth r.both,fun H=>(HK6.out H).trans (Keep.set _ _ _)⟩
 rw[<-hw7];clear hw7 d4 f4 hR6 HK6;obtain⟨hk5,hkk⟩:=HH.out;have HKA:Hid (Keep w.heap.size b w w7):=by
  have h1:=hk4.out.size;exact(hk4.out.trans ⟨hk5.os,hk5.output,hk5.size,fun k h1 h2=>hk5.block k (by omega) h2⟩).trans (HK7.out _)
 rcases hkk with⟨rfl,rfl⟩|⟨rfl,p,t,rfl,rfl,ht5⟩
 ·clear hk5 HK7 hk4 hR4 HH
  go_wp2;refine bodyPost_ret (results_tmp2 rfl _ _ _) rfl ?_;exact⟨HKA.out,none,q,rfl,hR7⟩
 have HTR:Hid (∀w8,(∀H,Keep H b w7 w8)->TreeIn (fun i=>X i∨w.heap.size<=i) w8 (D+4*(q+1)) p t):=fun w8 hk8=>by
  have hb:=HLB.out;have h1:=hk4.out.size;refine(((ht5.go ((HK7.out w5.heap.size).agree fun i hi hx=>⟨hi,by rcases hx with hx|hx;exact kJ (hH i hx);omega⟩)).go ((hk8 w7.heap.size).agree fun i hi hx=>⟨hi,by rcases hx with hx|hx;exact kJ (hH i hx);omega⟩)).mono fun i _ hx=>?_).deep (by omega);rcases hx with hx|hx
  ·exact .inl hx
  ·exact .inr (by omega)
 have hq:=HQ.out t q rfl;clear ht5 hk5 HK7 hk4 hR4 HH;show Code.wp _ _ (bodyPost _ _ (TrAns w X b s dv r D (if zJ s q ⟨#[41]⟩ then some (t,q+1) else none))) _ _;cases h2:zJ s q ⟨#[41]⟩ with
 |true=>
  go_wp2_with (first|(go_at_call 189;refine(jV (r:=r) (x:=q) (y:=q+1) ⟨#[41]⟩ hs (by omega) (by decide) h2 rfl hR7).mono ?_;rintro e w8 ⟨rfl,hR8,hk8⟩))
  refine bodyPost_ret (results_tmp2 rfl _ _ _) rfl ?_;exact⟨HKA.out.trans (hk8 _),p,rfl,HTR.out w8 hk8,hR8⟩
 |false=>
  go_wp2_with (first|(go_at_call 189;refine(jV (r:=r) (x:=q) (y:=q) ⟨#[41]⟩ hs (by omega) (by decide) h2 rfl hR7).mono ?_;rintro e w8 ⟨rfl,hR8,hk8⟩))
  refine bodyPost_ret (results_tmp2 rfl _ _ _) rfl ?_;exact⟨HKA.out.trans (hk8 _),none,q,rfl,hR8⟩
theorem zFV (X:Nat->Prop)(b:Nat)(s:ByteArray)(dv:Value)(hs:s.size<=1048576)(hH:∀i,X i->i<b)(D:Nat)(defs:List (ByteArray×Tr))(k:Nat)(sub:Reads)(hq:∀both,zBZ s (D+2) fun p=>sub p both)(hsub:zAs 182 X b s dv D defs (D+2) k sub)(w:World)(r:Rx)(h:RxAt w b s dv r)(hD:DefsIn b X w D dv defs)(hk:r.depth+(k+1)=8)(ha:byt s r.at_=40):
  Calls prog 201 #[pointer (some ⟨b,0,none⟩)] w (TrAns w X b s dv r D (brM s (k+1) sub r.at_ r.both)):=by
 have hin:r.at_<s.size:=zBU (by omega);have hlb:=h.lt;have hdf:∀w4,Keep w.heap.size b w w4->DefsIn b X w4 D dv defs:=fun w4 hk4=>hD.go hH (hk4.agree fun i hi hx=>⟨hi,kJ hx⟩);unfold brM;rw[if_neg (by omega)];cases h0:zJ s r.at_ ⟨#[40,41]⟩ with
 |true=>exact zMA X b s dv hs D w r h (by omega) (by omega) h0
 |false=>
 rw[if_neg (by decide)];cases h1:zJ s r.at_ ⟨#[40,105,58]⟩ with
 |true=>exact zOC X b s dv hs hH D w r h (by omega) hin h0 h1 _ (fun w4 h4 k4=>hsub w4 _ h4 (hdf w4 k4) (by show r.depth+1+k=8;omega) (vB h1:r.at_+3<=s.size)) fun t q hm=>(hq _ _ _ _ hm).2.1
 |false=>exact zOB X b s dv hs hH D w r h (by omega) hin h0 h1 _ (fun w4 h4 k4=>hsub w4 _ h4 (hdf w4 k4) (by show r.depth+1+k=8;omega) (by show r.at_+1<=_;omega)) fun t q hm=>(hq _ _ _ _ hm).2.1
end
def ThW (w:World)(X:Nat->Prop)(b:Nat)(s:ByteArray)(dv:Value)(r:Rx)(D:Nat)(G:Option (Tr×Nat))(n:Nat)(v4 v5:Value)(wr:World):Prop:=
 (∃f pos t p,n=f∧v4=pointer (some ⟨p,0,none⟩)∧v5=bool true∧pos<=s.size∧s.size+1-pos<=f∧zBc s f pos t=G∧TreeIn (fun i=>X i∨w.heap.size<=i) wr (D+4*pos) p t∧TrOk (D+4*pos) t∧RxAt wr b s dv {r with at_:=pos}∧Keep w.heap.size b w wr)∨
 (∃x pos,v4=pointer x∧v5=bool false∧G=none∧n=0∧RxAt wr b s dv {r with at_:=pos}∧Keep w.heap.size b w wr)
theorem zKt (w:World)(x y:Value)(z:Bool):∃wa,wa=w.alloc (.cells #[x,y,bool z] 163)∧wa.cell? ⟨w.heap.size,0,none⟩=some x∧wa.cell? ⟨w.heap.size,1,none⟩=some y∧wa.cell? ⟨w.heap.size,2,none⟩=some (bool z)∧Hid (∀H b,H<=w.heap.size->Keep H b w wa):=by
 have hn:=gU w (.cells #[x,y,bool z] 163);refine⟨_,rfl,?_,?_,?_,fun H b hH=>kZ _ _ hH⟩
 all_goals (unfold cell?;rw[hn];rfl)
def zND (s:ByteArray):Option (Tr×Nat)->Option (Tr×Nat)
 |none=>none
 |some (t,q)=>zBc s (s.size+1) q t
theorem zNj {w:World}{b:Nat}{s:ByteArray}{dv:Value}{r:Rx}(h:RxAt w b s dv r)(hs:s.size<=1048576)(ha:r.at_<=s.size):Hid (Calls prog 198 #[pointer (some ⟨b,0,none⟩)] w fun e w'=>∃(o:Tm) (q:Nat) (k:Bool),e=returned (tuple #[agg #[int i64 (o.least:Int),int i64 (o.most:Int),bool o.endless],bool k])∧Hid (o.least<=300∧o.most<=300∧RxAt w' b s dv {r with at_:=q}∧Keep w.heap.size b w w'∧(k=true∧zDE s r.at_=some (o,q)∨k=false∧zDE s r.at_=none))):=by
 refine(zFe w b s dv r h hs ha).mono ?_;rintro e w' ⟨hk,ha⟩;cases hm:zDE s r.at_ with
 |none=>
  rw[hm] at ha;obtain⟨q,rfl,hR⟩:=ha;exact⟨⟨0,0,false⟩,q,false,rfl,lX,lX,hR,hk,.inr ⟨rfl,rfl⟩⟩
 |some g=>
  obtain⟨o,q⟩:=g;rw[hm] at ha;obtain⟨rfl,hR⟩:=ha;have:=zG5 s r.at_ o q hm;exact⟨o,q,true,rfl,this.2.2.1,this.2.2.2,hR,hk,.inl ⟨rfl,rfl⟩⟩
theorem zMR (X:Nat->Prop)(b:Nat)(s:ByteArray)(dv:Value)(hs:s.size<=1048576)(hH:∀i,X i->i<b)(D:Nat)(w:World)(r:Rx)(h:RxAt w b s dv r)(a:Option (Tr×Nat))(hok:∀t q,a=some (t,q)->q<=s.size∧TrOk (D+4*q) t)(hB:Calls prog 196 #[pointer (some ⟨b,0,none⟩)] w (TrAns w X b s dv r D a)):
  Calls prog 193 #[pointer (some ⟨b,0,none⟩)] w (TrAns w X b s dv r D (zND s a)):=by
 have HLB:=vl h.lt;have HBR:=vl hB;obtain⟨G,hG⟩:∃G,G=zND s a:=⟨_,rfl⟩
 have HST:Hid (∀e w2,TrAns w X b s dv r D a e w2->∃v4 v5 M,e=returned (tuple #[v4,v5])∧ThW w X b s dv r D G M v4 v5 w2):=fun e w2 hans=>by
  cases a with
  |none=>
   obtain⟨hk2,v,q,rfl,hR2⟩:=hans;exact⟨_,_,0,rfl,.inr ⟨v,q,rfl,rfl,hG,rfl,hR2,hk2⟩⟩
  |some g=>
   obtain⟨t0,q0⟩:=g;obtain⟨hk2,p,rfl,ht2,hR2⟩:=hans;obtain⟨hq0,ht0⟩:=hok t0 q0 rfl;exact⟨_,_,s.size+1,rfl,.inl ⟨s.size+1,q0,t0,p,rfl,rfl,rfl,hq0,by omega,hG.symm,ht2,ht0,hR2,hk2⟩⟩
 rw[<-hG];go_in;apply wp_cut;intro K0 J;go_wp2;apply J.out;apply wp_cut;intro K0 J;go_wp2_with (first|(go_at_call 196;refine HBR.out.mono ?_;rintro e w2 ha;obtain⟨v4,v5,M,rfl,hb⟩:=HST.out e w2 ha;have HTW:=vl hb;clear ha hb))
 apply J.out;apply wp_cut;intro KL HKL;refine wp_block ?_;go_loopg [4,5] M (fun n v4 v5 wr=>ThW w X b s dv r D G n v4 v5 wr)
 case atStart=>exact HTW.out
 case round=>
  rcases hrel with⟨f,pos,t,p1,hgk,rfl,rfl,hpos,hf,hGo,hT,hOk,hR,hk⟩|⟨x,pos,rfl,rfl,hGn,-,hR,hk⟩
  ·cases f with
   |zero=>omega
   |succ f=>
   have HA:Hid (TreeIn (fun i=>X i∨w.heap.size<=i) wr (D+4*pos) p1 t∧TrOk (D+4*pos) t∧RxAt wr b s dv {r with at_:=pos}∧Keep w.heap.size b w wr∧gk=f+1∧w.heap.size<=wr.heap.size):=⟨hT,hOk,hR,hk,hgk,hk.size⟩
   have hGo2:(if zAN s pos then(match zDE s pos with|none=>none|some (o,q)=>zBc s f q (zBs t o)) else some (t,pos))=G:=hGo;have HIR:=vl <| zDA wr b s dv {r with at_:=pos} hR hs (by show pos<=_;omega);cases hrep:zAN s pos with
   |false=>
    rw[hrep] at hGo2 HIR;have HG2:=vl hGo2.symm;go_wp2_with (first|(go_at_call 197;refine HIR.out.mono ?_;rintro e w9 ⟨rfl,hw9⟩;have hw8:=hw9.symm;subst hw8))
    apply HKL.out;go_wp2;rw[HG2.out];refine bodyPost_ret (results_tmp2 rfl _ _ _) rfl ?_;exact⟨HA.out.2.2.2.1,p1,rfl,HA.out.1,HA.out.2.2.1⟩
   |true=>
    rw[hrep] at hGo2 HIR;rw[if_pos rfl] at hGo2;have HG2:=vl hGo2;have HHO:=zNj HA.out.2.2.1 hs hpos;have HW:=vl fun o q h=>zG5 s pos o q h;clear hGo2 hrep;apply wp_cut;intro K1 HK1;go_wp2_with (first|(go_at_call 197;refine HIR.out.mono ?_;rintro e w9 ⟨rfl,hw9⟩;have hw8:=hw9.symm;subst hw8))
    apply HK1.out;clear HK1;refine wp_block ?_;apply wp_cut;intro K1 HK1;go_wp2_with (first|(go_at_call 198;refine HHO.out.mono ?_;rintro e wh ⟨o,q1,k,rfl,HH⟩))
    apply HK1.out;clear HK1 HHO;obtain⟨wa,hwa,z0,z1,z2,HKa⟩:=zKt wh (int i64 (o.least:Int)) (int i64 (o.most:Int)) o.endless;have HB:Hid (RxAt wa b s dv {r with at_:=q1}∧TreeIn (fun i=>X i∨w.heap.size<=i) wa (D+4*pos) p1 t∧Keep w.heap.size b w wa):=by
     obtain⟨-,-,hRh,hkh,-⟩:=HH.out;have hb:=HLB.out;have hz:=hkh.size;have hz2:=HA.out.2.2.2.2.2;have hka:Keep wr.heap.size b wr wa:=hkh.trans (HKa.out _ _ hz);refine⟨RxAt.of_block hRh ((HKa.out wh.heap.size wh.heap.size lQ).block b (by omega) (by omega)),HA.out.1.go (hka.agree fun i hi hx=>⟨hi,by rcases hx with hx|hx;exact kJ (hH i hx);omega⟩),HA.out.2.2.2.1.trans ⟨hka.os,hka.output,hka.size,fun k h1 h2=>hka.block k (by omega) h2⟩⟩
    have HAG:Hid (Ca 199 #[pointer (some ⟨p1,0,none⟩),agg #[int i64 (o.least:Int),int i64 (o.most:Int),bool o.endless]] wa fun e w'=>∃p',e=returned (pointer (some ⟨p',0,none⟩))∧TreeIn (fun i=>X i∨w.heap.size<=i) w' (D+4*pos+1) p' (zBs t o)∧RxAt w' b s dv {r with at_:=q1}∧Keep w.heap.size b w w'):=by
     have hb:=HLB.out;have hz2:=HB.out.2.2.size;refine(zIK wa _ _ p1 t HB.out.2.1 HA.out.2.1.few o ⟨HH.out.1,HH.out.2.1⟩).mono ?_;rintro e w4 ⟨p',rfl,ht,hk4⟩;refine⟨p',rfl,ht.mono fun i _ hx=>?_,RxAt.of_block HB.out.1 (hk4.block b (by omega) (by omega)),HB.out.2.2.trans (hk4.lower hz2 hz2)⟩;rcases hx with hx|hx
     ·exact hx.1
     ·exact .inr (by omega)
    rw[<-hwa];clear hwa HKa;go_wp2_with (first|(go_at_call 199;refine HAG.out.mono ?_;rintro e w4 ⟨p4,rfl,ht4,hR4,hk4⟩))
    go_roundg (if k then f else 0)
    case measure=>rw[HA.out.2.2.2.2.1];split <;> omega
    case rel=>
     rcases HH.out.2.2.2.2 with⟨rfl,hm⟩|⟨rfl,hm⟩
     ·have hg:=HG2.out
      rw[show zDE s pos=some (o,q1) from hm] at hg;have hw:=HW.out o q1 hm;exact .inl ⟨f,q1,_,p4,rfl,rfl,rfl,hw.2.1,by omega,hg,ht4.deep (by omega),(zIJ o HA.out.2.1).deep (by omega),hR4,hk4⟩
     ·have hg:=HG2.out
      rw[show zDE s pos=none from hm] at hg;exact .inr ⟨_,q1,rfl,rfl,hg.symm,rfl,hR4,hk4⟩
  ·have HA:Hid (RxAt wr b s dv {r with at_:=pos}∧Keep w.heap.size b w wr∧G=none):=⟨hR,hk,hGn⟩
   clear hR hk hGn;go_wp2;apply HKL.out;clear HKL;go_wp2;rw[HA.out.2.2];refine bodyPost_ret (results_tmp2 rfl _ _ _) rfl ?_;exact⟨HA.out.2.1,x,pos,rfl,HA.out.1⟩
theorem zDO (X:Nat->Prop)(b:Nat)(s:ByteArray)(dv:Value)(hs:s.size<=1048576)(hH:∀i,X i->i<b)(D:Nat)(defs:List (ByteArray×Tr))(k:Nat)(sub:Reads)(hok:∀both,zBZ s D fun p=>zDg s defs k sub p both)(hat:zAs 196 X b s dv D defs D k (zDg s defs k sub)):
  zAs 193 X b s dv D defs D k (zDm s defs k sub):=fun w r h hD hk ha=>by
 have:=hat w r h hD hk ha;unfold zDm;exact zMR X b s dv hs hH D w r h _ (fun t q hm=>(hok r.both r.at_ t q hm).2) this
theorem zJU {X:Nat->Prop}{b:Nat}{s:ByteArray}{dv:Value}{w:World}{r:Rx}(h:RxAt w b s dv r)(D kind:Nat)(ki:Int)(hki:ki=kind):∃w1,w1=w.alloc (.cells #[int i64 ki,slice none 0 0,bool false,slice none 0 0,int i64 0,int i64 0,bool false,int i64 0] 165)∧Hid (Tw w1 (fun i=>X i∨w.heap.size<=i) (w.heap.size+1) w.heap.size (D+4*r.at_) (slice none 0 0) [] (zC0 kind)∧RxAt w1 b s dv {r with at_:=r.at_}∧Keep w.heap.size b w w1):=by
 have hb:=h.lt;subst hki;refine⟨_,rfl,⟨gU _ _,rfl,ownsRow_nil _ _ _ _,rfl,fun i hi=>absurd hi (Nat.not_lt_zero _),by omega,by simp,⟨by show 0<=_;omega,by show 0<=_;omega,by show 0<=_;omega,by show 0<=_;omega⟩⟩,RxAt.of_block h (lG _ _ _ hb),kZ _ _ lQ⟩
theorem zJV {X:Nat->Prop}{b:Nat}{s:ByteArray}{dv:Value}{w wr w2:World}{r:Rx}{D pos q p2:Nat}{sv:Value}{ps:List Nat}{t u:Tr}(hb:b<w.heap.size)(hH:∀i,X i->i<b)(hT:Tw wr (fun i=>X i∨w.heap.size<=i) (w.heap.size+1) w.heap.size (D+4*pos) sv ps t)(hk:Keep w.heap.size b w wr)(hk2:Keep wr.heap.size b wr w2)(ht2:TreeIn (fun i=>X i∨wr.heap.size<=i) w2 (D+4*q) p2 u)(hR2:RxAt w2 b s dv {r with at_:=q})(hq1:pos<q)(hu:TrOk (D+4*q) u)(hl:t.parts.length<=2000000):
  Hid (Ca 188 #[pointer (some ⟨w.heap.size,0,none⟩),pointer (some ⟨p2,0,none⟩)] w2 fun e w'=>e=returned (tuple #[])∧RxAt w' b s dv {r with at_:=q}∧Keep w.heap.size b w w'∧∃sv' ps',Tw w' (fun i=>X i∨w.heap.size<=i) (w.heap.size+1) w.heap.size (D+4*q) sv' ps' (t.add u)):=by
 have hz:=hk.size;have hl2:=hT.lt;have ho:∀g,some g=sv.ownBlock->w.heap.size+1<=g∧g<wr.heap.size:=fun g hg=>hT.own.lt g hg.symm;have h1:=(hT.keep hk2 (.inl (by omega)) (by omega) (fun _ hx=>by rcases hx with hx|hx;exact Nat.lt_irrefl _ (hH b hx);omega)).deep (show D+4*pos<=D+4*q by omega);have h2:TreeIn (fun j=>(X j∨w.heap.size<=j)∧j≠w.heap.size∧some j≠sv.ownBlock) w2 (D+4*q) p2 u:=ht2.mono fun i _ hx=>by
  rcases hx with hx|hx
  ·have hxb:=hH i hx
   exact⟨.inl hx,by omega,fun e=>by have:=(ho i e).1;omega⟩
  ·exact⟨.inr (by omega),by omega,fun e=>by have:=(ho i e).2;omega⟩
 refine(zFX w2 _ _ _ _ sv ps t h1 p2 u h2 hu.few (by omega)).mono ?_;rintro e w3 ⟨rfl,sv',ps',hT3,hk3⟩;have hk4:=hk3.keep h1.own h1.lt;exact⟨rfl,RxAt.of_block hR2 (hk4.block b (by omega) (by omega)),(hk.trans ⟨hk2.os,hk2.output,hk2.size,fun k h1 h2=>hk2.block k (by omega) h2⟩).trans ⟨hk4.os,hk4.output,hk4.size,fun k h1 h2=>hk4.block k (by omega) (by omega)⟩,sv',ps',hT3⟩
theorem zF6 {X:Nat->Prop}{b:Nat}{s:ByteArray}{dv:Value}{w w3:World}{r:Rx}{D q:Nat}{sv:Value}{ps:List Nat}{t:Tr}(hb:b<w.heap.size)(hH:∀i,X i->i<b)(hT:Tw w3 (fun i=>X i∨w.heap.size<=i) (w.heap.size+1) w.heap.size (D+4*q) sv ps t)(hk:Keep w.heap.size b w w3):
  Hid (∀w4,RxAt w4 b s dv {r with at_:=q}->(∀H,Keep H b w3 w4)->Ca 190 #[pointer (some ⟨w.heap.size,0,none⟩)] w4 fun e w'=>∃p',e=returned (pointer (some ⟨p',0,none⟩))∧TreeIn (fun i=>X i∨w.heap.size<=i) w' (D+1+4*q) p' t.plain∧RxAt w' b s dv {r with at_:=q}∧Keep w.heap.size b w w'):=fun w4 hR4 hk4=>by
 have hl:=hT.lt;have hz:=(hk4 0).size;have hT4:=hT.keep (hk4 _) (.inl (by omega)) (by omega) (fun _ hx=>by rcases hx with hx|hx;exact Nat.lt_irrefl _ (hH b hx);omega);refine(zDW w4 _ (D+4*q+1) w.heap.size _ (hT4.in (.inr lQ) fun j hj=>.inr (by omega))).mono ?_;rintro e w5 ⟨p',rfl,ht,hk5⟩;refine⟨p',rfl,?_,RxAt.of_block hR4 (hk5.block b (by omega) (by omega)),(hk.trans (hk4 _)).trans (hk5.lower (by omega) (by omega))⟩;rw[show D+1+4*q=D+4*q+1 by omega];exact ht.mono fun i _ hx=>by
  rcases hx with hx|hx
  ·exact hx.1
  ·exact .inr (by omega)
theorem zDS (X:Nat->Prop)(b:Nat)(s:ByteArray)(dv:Value)(hs:s.size<=1048576)(hH:∀i,X i->i<b)(D0 D:Nat)(defs:List (ByteArray×Tr))(k:Nat)(M:Reads)(hok:∀both,zBZ s D fun p=>M p both)(hth:zAs 193 X b s dv D0 defs D k M):
  zAs 187 X b s dv D0 defs (D+1) k (fun p both=>zBv s (fun q=>M q both) (s.size+1) p (zC0 2)):=fun w r h hD hdp ha=>by
 show Calls prog 187 #[pointer (some ⟨b,0,none⟩)] w (TrAns w X b s dv r (D+1) (zBv s (fun q=>M q r.both) (s.size+1) r.at_ (zC0 2)));have HLB:=vl h.lt;have HTH:Hid (∀wr pos,RxAt wr b s dv {r with at_:=pos}->Keep w.heap.size b w wr->pos<=s.size->Ca 193 #[pointer (some ⟨b,0,none⟩)] wr (TrAns wr X b s dv {r with at_:=pos} D (M pos r.both))):=fun wr pos hR hk hp=>hth wr {r with at_:=pos} hR (hD.go hH (hk.agree fun i hi hx=>⟨hi,kJ hx⟩)) hdp hp;have HOK:=vl (hok r.both);obtain⟨G,hG⟩:∃G,G=zBv s (fun q=>M q r.both) (s.size+1) r.at_ (zC0 2):=⟨_,rfl⟩
 have HG:=vl hG.symm;rw[<-hG];obtain⟨w1,hw1,H1⟩:=zJU (X:=X) h D 2 2 rfl;go_in;apply wp_cut;intro K1 HK1;go_wp2;apply HK1.out;apply wp_cut;intro K1 HK1;go_wp2;apply HK1.out;rw[<-hw1];refine wp_block ?_;go_loopg [6] (s.size+1) (fun n v wr=>∃f pos t sv ps,n=f∧pos<=s.size∧s.size+1-pos<=f∧zBv s (fun q=>M q r.both) f pos t=G∧Tw wr (fun i=>X i∨w.heap.size<=i) (w.heap.size+1) w.heap.size (D+4*pos) sv ps t∧TrOk (D+1+4*pos) t∧(t.kind=2∨t.kind=3)∧t.parts.length<=pos∧RxAt wr b s dv {r with at_:=pos}∧Keep w.heap.size b w wr)
 case atStart=>exact⟨s.size+1,r.at_,zC0 2,_,_,rfl,ha,by omega,HG.out,H1.out.1,by rw[show D+1+4*r.at_=D+4*r.at_+1 by omega];exact zGW _ 2 (.inl rfl),.inl rfl,lX,H1.out.2.1,H1.out.2.2⟩
 case round=>
  obtain⟨f,pos,t,sv,ps,hgk,hpos,hf,hGo,hTw,hTok,hkd,hpl,hR,hk⟩:=hrel;cases f with
  |zero=>omega
  |succ f=>
  have HT0:=HTH.out wr pos hR hk hpos;have HA:Hid (Tw wr (fun i=>X i∨w.heap.size<=i) (w.heap.size+1) w.heap.size (D+4*pos) sv ps t∧TrOk (D+1+4*pos) t∧(t.kind=2∨t.kind=3)∧RxAt wr b s dv {r with at_:=pos}∧Keep w.heap.size b w wr∧gk=f+1):=⟨hTw,hTok,hkd,hR,hk,hgk⟩
  cases hm:M pos r.both with
  |none=>
   rw[hm] at HT0;have HT:=vl HT0;have HG2:Hid (G=none):=by
    show _=_;rw[<-hGo];unfold zBv;rw[hm]
   refine wp_block ?_;go_wp2_with (first|(go_at_call 193;refine HT.out.mono ?_;rintro e w2 ⟨hk2,v2,q2,rfl,hR2⟩))
   rw[HG2.out];refine bodyPost_ret (results_tmp2 rfl _ _ _) rfl ?_;have hz:=HA.out.2.2.2.2.1.size;exact⟨HA.out.2.2.2.2.1.trans ⟨hk2.os,hk2.output,hk2.size,fun k h1 h2=>hk2.block k (by omega) h2⟩,none,q2,rfl,hR2⟩
  |some g=>
   obtain⟨u,q⟩:=g;rw[hm] at HT0;have HT:=vl HT0;have HU:=vl <| HOK.out pos u q hm;have HGo:Hid ((if zBA s q then some ((t.add u).plain,q) else zBv s (fun q=>M q r.both) f q (t.add u))=G):=by
    show _=_;rw[<-hGo]
    conv=>rhs;unfold zBv
    rw[hm]
   refine wp_block ?_;apply wp_cut;intro K1 HK1;go_wp2_with (first|(go_at_call 193;refine HT.out.mono ?_;rintro e w2 ⟨hk2,p2,rfl,ht2,hR2⟩))
   apply HK1.out;apply wp_cut;intro K1 HK1;go_wp2;apply HK1.out;have hq1:=HU.out.1;have hq2:=HU.out.2.1;have HAD:=zJV HLB.out hH HA.out.1 HA.out.2.2.2.2.1 hk2 ht2 hR2 hq1 HU.out.2.2 (by omega);apply wp_cut;intro K1 HK1;go_wp2_with (first|(go_at_call 188;refine HAD.out.mono ?_;rintro e w3 ⟨rfl,hR3,hk3,sv3,ps3,hT3⟩))
   apply HK1.out;have HC:Hid (Tw w3 (fun i=>X i∨w.heap.size<=i) (w.heap.size+1) w.heap.size (D+4*q) sv3 ps3 (t.add u)∧RxAt w3 b s dv {r with at_:=q}∧Keep w.heap.size b w w3∧TrOk (D+1+4*q) (t.add u)):=⟨hT3,hR3,hk3,by
    rw[show D+1+4*q=D+4*q+1 by omega];exact zHi (HA.out.2.1.deep (by omega)) HA.out.2.2.1 HU.out.2.2⟩
   have HRE:Hid (Ca 194 #[pointer (some ⟨b,0,none⟩)] w3 fun e w'=>e=returned (bool (zBA s q))∧RxAt w' b s dv {r with at_:=q}∧∀H,Keep H b w3 w'):=by
    refine(zFH w3 b s dv {r with at_:=q} HC.out.2.1 hs (by show q<=_;omega)).mono ?_;rintro e w4 ⟨rfl,hk4⟩;exact⟨rfl,RxAt.of_block HC.out.2.1 ((hk4 (b+1) (b+1)).block b (by omega) (by omega)),fun H=>hk4 H b⟩
   cases he:zBA s q with
   |true=>
    rw[he] at HRE HGo;have HRE2:=HRE;have HG2:=vl HGo.out.symm;have HPL:=zF6 (s:=s) (dv:=dv) (r:=r) HLB.out hH HC.out.1 HC.out.2.2.1;go_wp2_with (first|(go_at_call 194;refine HRE2.out.mono ?_;rintro e w4 ⟨rfl,hR4,hk4⟩)|(go_at_call 190;refine(HPL.out w4 hR4 hk4).mono ?_;rintro e w5 ⟨p5,rfl,ht5,hR5,hk5⟩))
    rw[HG2.out];refine bodyPost_ret (results_tmp2 rfl _ _ _) rfl ?_;exact⟨hk5,p5,rfl,ht5,hR5⟩
   |false=>
    rw[he] at HRE HGo;have HRE2:=HRE;have HG2:=vl HGo.out;go_wp2_with (first|(go_at_call 194;refine HRE2.out.mono ?_;rintro e w4 ⟨rfl,hR4,hk4⟩))
    have hb:=HLB.out;go_roundg f
    case measure=>rw[HA.out.2.2.2.2.2];omega
    case rel=>exact⟨f,q,t.add u,sv3,ps3,rfl,hq2,by omega,HG2.out,HC.out.1.keep (hk4 _) (.inl (by omega)) (by omega) (fun _ hx=>by rcases hx with hx|hx;exact Nat.lt_irrefl _ (hH b hx);omega),HC.out.2.2.2,zDi HA.out.2.2.1,by show(t.parts++[u]).length<=q;rw[kX];show t.parts.length+1<=q;omega,hR4,HC.out.2.2.1.trans (hk4 _)⟩
theorem zBH (X:Nat->Prop)(b:Nat)(s:ByteArray)(dv:Value)(hs:s.size<=1048576)(hH:∀i,X i->i<b)(D0 D:Nat)(defs:List (ByteArray×Tr))(k:Nat)(M:Reads)(hok:∀both,zBZ s D fun p=>M p both)(hth:zAs 187 X b s dv D0 defs D k M):
  zAs 182 X b s dv D0 defs (D+1) k (fun p both=>zAl s (fun q=>M q both) (s.size+1) p (zC0 3)):=fun w r h hD hdp ha=>by
 show Calls prog 182 #[pointer (some ⟨b,0,none⟩)] w (TrAns w X b s dv r (D+1) (zAl s (fun q=>M q r.both) (s.size+1) r.at_ (zC0 3)));have HLB:=vl h.lt;have HTH:Hid (∀wr pos,RxAt wr b s dv {r with at_:=pos}->Keep w.heap.size b w wr->pos<=s.size->Ca 187 #[pointer (some ⟨b,0,none⟩)] wr (TrAns wr X b s dv {r with at_:=pos} D (M pos r.both))):=fun wr pos hR hk hp=>hth wr {r with at_:=pos} hR (hD.go hH (hk.agree fun i hi hx=>⟨hi,kJ hx⟩)) hdp hp;have HOK:=vl (hok r.both);obtain⟨G,hG⟩:∃G,G=zAl s (fun q=>M q r.both) (s.size+1) r.at_ (zC0 3):=⟨_,rfl⟩
 have HG:=vl hG.symm;rw[<-hG];obtain⟨w1,hw1,H1⟩:=zJU (X:=X) h D 3 3 rfl;go_in;apply wp_cut;intro K1 HK1;go_wp2;apply HK1.out;apply wp_cut;intro K1 HK1;go_wp2;apply HK1.out;rw[<-hw1];refine wp_block ?_;go_loopg [6] (s.size+1) (fun n v wr=>∃f pos t sv ps,n=f∧pos<=s.size∧s.size+1-pos<=f∧zAl s (fun q=>M q r.both) f pos t=G∧Tw wr (fun i=>X i∨w.heap.size<=i) (w.heap.size+1) w.heap.size (D+4*pos) sv ps t∧TrOk (D+1+4*pos) t∧(t.kind=2∨t.kind=3)∧t.parts.length<=pos∧RxAt wr b s dv {r with at_:=pos}∧Keep w.heap.size b w wr)
 case atStart=>exact⟨s.size+1,r.at_,zC0 3,_,_,rfl,ha,by omega,HG.out,H1.out.1,by rw[show D+1+4*r.at_=D+4*r.at_+1 by omega];exact zGW _ 3 (.inr rfl),.inr rfl,lX,H1.out.2.1,H1.out.2.2⟩
 case round=>
  obtain⟨f,pos,t,sv,ps,hgk,hpos,hf,hGo,hTw,hTok,hkd,hpl,hR,hk⟩:=hrel;cases f with
  |zero=>omega
  |succ f=>
  have HT0:=HTH.out wr pos hR hk hpos;have HA:Hid (Tw wr (fun i=>X i∨w.heap.size<=i) (w.heap.size+1) w.heap.size (D+4*pos) sv ps t∧TrOk (D+1+4*pos) t∧(t.kind=2∨t.kind=3)∧RxAt wr b s dv {r with at_:=pos}∧Keep w.heap.size b w wr∧gk=f+1):=⟨hTw,hTok,hkd,hR,hk,hgk⟩
  cases hm:M pos r.both with
  |none=>
   rw[hm] at HT0;have HT:=vl HT0;have HG2:Hid (G=none):=by
    show _=_;rw[<-hGo];unfold zAl;rw[hm]
   refine wp_block ?_;go_wp2_with (first|(go_at_call 187;refine HT.out.mono ?_;rintro e w2 ⟨hk2,v2,q2,rfl,hR2⟩))
   rw[HG2.out];refine bodyPost_ret (results_tmp2 rfl _ _ _) rfl ?_;have hz:=HA.out.2.2.2.2.1.size;exact⟨HA.out.2.2.2.2.1.trans ⟨hk2.os,hk2.output,hk2.size,fun k h1 h2=>hk2.block k (by omega) h2⟩,none,q2,rfl,hR2⟩
  |some g=>
   obtain⟨u,q⟩:=g;rw[hm] at HT0;have HT:=vl HT0;have HU:=vl <| HOK.out pos u q hm;have HGo:Hid ((if zJ s q ⟨#[124]⟩ then zAl s (fun q=>M q r.both) f (q+1) (t.add u) else some ((t.add u).plain,q))=G):=by
    show _=_;rw[<-hGo]
    conv=>rhs;unfold zAl
    rw[hm]
   refine wp_block ?_;apply wp_cut;intro K1 HK1;go_wp2_with (first|(go_at_call 187;refine HT.out.mono ?_;rintro e w2 ⟨hk2,p2,rfl,ht2,hR2⟩))
   apply HK1.out;apply wp_cut;intro K1 HK1;go_wp2;apply HK1.out;have hq1:=HU.out.1;have hq2:=HU.out.2.1;have HAD:=zJV HLB.out hH HA.out.1 HA.out.2.2.2.2.1 hk2 ht2 hR2 hq1 HU.out.2.2 (by omega);apply wp_cut;intro K1 HK1;go_wp2_with (first|(go_at_call 188;refine HAD.out.mono ?_;rintro e w3 ⟨rfl,hR3,hk3,sv3,ps3,hT3⟩))
   apply HK1.out;have HC:Hid (Tw w3 (fun i=>X i∨w.heap.size<=i) (w.heap.size+1) w.heap.size (D+4*q) sv3 ps3 (t.add u)∧RxAt w3 b s dv {r with at_:=q}∧Keep w.heap.size b w w3∧TrOk (D+1+4*q) (t.add u)):=⟨hT3,hR3,hk3,by
    rw[show D+1+4*q=D+4*q+1 by omega];exact zHi (HA.out.2.1.deep (by omega)) HA.out.2.2.1 HU.out.2.2⟩
   cases he:zJ s q ⟨#[124]⟩ with
   |false=>
    have HTK:=vl (jV (r:=r) (x:=q) (y:=q) ⟨#[124]⟩ hs (by omega) (by decide) he rfl HC.out.2.1);rw[he] at HGo;have HG2:=vl HGo.out.symm;have HPL:=zF6 (s:=s) (dv:=dv) (r:=r) HLB.out hH HC.out.1 HC.out.2.2.1;go_wp2_with (first|(go_at_call 189;refine HTK.out.mono ?_;rintro e w4 ⟨rfl,hR4,hk4⟩)|(go_at_call 190;refine(HPL.out w4 hR4 hk4).mono ?_;rintro e w5 ⟨p5,rfl,ht5,hR5,hk5⟩))
    rw[HG2.out];refine bodyPost_ret (results_tmp2 rfl _ _ _) rfl ?_;exact⟨hk5,p5,rfl,ht5,hR5⟩
   |true=>
    have HTK:=vl (jV (r:=r) (x:=q) (y:=q+1) ⟨#[124]⟩ hs (by omega) (by decide) he rfl HC.out.2.1);have hq3:=vB he;rw[he] at HGo;have HG2:=vl HGo.out;go_wp2_with (first|(go_at_call 189;refine HTK.out.mono ?_;rintro e w4 ⟨rfl,hR4,hk4⟩))
    have hb:=HLB.out;go_roundg f
    case measure=>rw[HA.out.2.2.2.2.2];omega
    case rel=>exact⟨f,q+1,t.add u,sv3,ps3,rfl,hq3,by omega,HG2.out,(HC.out.1.keep (hk4 _) (.inl (by omega)) (by omega) (fun _ hx=>by rcases hx with hx|hx;exact Nat.lt_irrefl _ (hH b hx);omega)).deep (by omega),HC.out.2.2.2.deep (by omega),zDi HA.out.2.2.1,by show(t.parts++[u]).length<=q+1;rw[kX];show t.parts.length+1<=q+1;omega,hR4,HC.out.2.2.1.trans (hk4 _)⟩
theorem zDb (X:Nat->Prop)(b:Nat)(s:ByteArray)(dv:Value)(hs:s.size<=1048576)(hH:∀i,X i->i<b)(D:Nat)(defs:List (ByteArray×Tr))(hlen:defs.length<=1000000)(hdo:zAZ D defs):∀k,zAs 182 X b s dv D defs (D+2) k (zBo s defs k)
 |0=>zBH X b s dv hs hH D (D+1) defs 0 _ (zGK hs hdo (fun _ p t q h=>by cases h)) (zDS X b s dv hs hH D D defs 0 _ (zDl hs hdo (fun _ p t q h=>by cases h)) (zDO X b s dv hs hH D defs 0 _ (zFv hs hdo (fun _ p t q h=>by cases h)) (zFu X b s dv hs hH D defs hlen 0 _ fun w r h _ hk _ _=>zNx X b s dv D w r h hk)))
 |k+1=>zBH X b s dv hs hH D (D+1) defs (k+1) _ (zGK hs hdo (jT hs hdo k)) (zDS X b s dv hs hH D D defs (k+1) _ (zDl hs hdo (jT hs hdo k)) (zDO X b s dv hs hH D defs (k+1) _ (zFv hs hdo (jT hs hdo k)) (zFu X b s dv hs hH D defs hlen (k+1) _ fun w r h hD hk _ hc=>zFV X b s dv hs hH D defs k _ (jT hs hdo k) (zDb X b s dv hs hH D defs hlen hdo k) w r h hD hk hc)))
theorem DefsIn.step {b c:Nat}{X Y:Nat->Prop}{w w2:World}{D:Nat}{v:Value}{l:List (ByteArray×Tr)}(h:DefsIn b X w D v l)(a:Grew w w2)(hb:b<=c)(hx:∀i,i<w.heap.size->X i->Y i):DefsIn c Y w2 D v l:=by
 obtain⟨ao,cap,hv,h1,h2,h3⟩:=h;refine⟨ao,cap,hv,h1,h2,fun i hi=>?_⟩;obtain⟨g,o,p,ha,hg,hxg,c0,c1,ht,hs⟩:=h3 i hi;have hg2:=hg;have e:=a.block g hg (kJ hg2);exact⟨g,o,p,ha,lZ hg2 a.size,by omega,(cell?_of_block e).trans c0,(cell?_of_block e).trans c1,ht.step (a.agree fun i hi _=>⟨hi,kJ hi⟩) hx,hs⟩
def zHm (w:World)(X:Nat->Prop)(D:Nat)(a:Option Tr)(e:Ending)(w':World):Prop:=
 Grew w w'∧match a with
 |none=>e=returned (tuple #[pointer none,bool false])
 |some t=>∃p,e=returned (tuple #[pointer (some ⟨p,0,none⟩),bool true])∧TreeIn (fun i=>(X i∧i<w.heap.size)∨w.heap.size<=i) w' D p t
theorem jJ (w:World)(X:Nat->Prop)(s:ByteArray)(dv:Value)(hs:s.size<=1048576)(D:Nat)(defs:List (ByteArray×Tr))(hD:DefsIn w.heap.size X w D dv defs)(hlen:defs.length<=1000000)(hdo:zAZ D defs):
  Calls prog 162 #[string s,dv] w (zHm w X (D+2+4*s.size) (vK s defs)):=by
 obtain⟨w1,hw1,H1⟩:∃w1,w1=w.alloc (.cells #[string s,dv,int i64 0,int i64 0,bool false] 252)∧Hid (Ca 182 #[pointer (some ⟨w.heap.size,0,none⟩)] w1 (TrAns w1 (fun i=>X i∧i<w.heap.size) w.heap.size s dv ⟨0,0,false⟩ (D+2) (zBo s defs 8 0 false))∧w1.heap.size=w.heap.size+1∧Grew w w1):=by
  refine⟨_,rfl,?_,by simp,kZ _ _ lQ⟩;exact zDb (fun i=>X i∧i<w.heap.size) w.heap.size s dv hs (fun i hi=>hi.2) D defs hlen hdo 8 _ ⟨0,0,false⟩ (gU _ _) (hD.step (kZ _ _ lQ) lQ fun i hi hx=>⟨hx,hi⟩) rfl lX
 obtain⟨ao,cap,rfl,-⟩:=hD;have HE:Hid (∀w2,Keep w1.heap.size w.heap.size w1 w2->Grew w w2):=fun w2 hk=>H1.out.2.2.trans ⟨hk.os,hk.output,hk.size,fun k h1 h2=>hk.block k (by have:=H1.out.2.1;omega) h2⟩;have HM:Hid (vK s defs=match zBo s defs 8 0 false with|none=>none|some (t,q)=>if q=s.size then some t else none):=rfl;have HQ:Hid (∀t q,zBo s defs 8 0 false=some (t,q)->q<=s.size):=fun t q e=>(jT hs hdo 8 false 0 t q e).2.1;cases hm:zBo s defs 8 0 false with
 |none=>
  have HC:Hid (Ca 182 #[pointer (some ⟨w.heap.size,0,none⟩)] w1 (TrAns w1 (fun i=>X i∧i<w.heap.size) w.heap.size s (slice ao defs.length cap) ⟨0,0,false⟩ (D+2) none)):=by have:=H1.out.1;rw[hm] at this;exact this
  have HA:Hid (vK s defs=none):=by show _=_;rw[HM.out,hm]
  rw[HA.out];go_in;apply wp_cut;intro K0 J;go_wp2;apply J.out;apply wp_cut;intro K0 J;go_wp2;apply J.out;clear J;rw[<-hw1];clear hw1;go_wp2_with (first|(go_at_call 182;refine HC.out.mono ?_;rintro e w2 ⟨hk2,v,q,rfl,hR2⟩))
  refine bodyPost_ret (results_tmp2 rfl _ _ _) rfl ?_;exact⟨HE.out w2 hk2,rfl⟩
 |some g=>
  obtain⟨t,q⟩:=g;have HC:Hid (Ca 182 #[pointer (some ⟨w.heap.size,0,none⟩)] w1 (TrAns w1 (fun i=>X i∧i<w.heap.size) w.heap.size s (slice ao defs.length cap) ⟨0,0,false⟩ (D+2) (some (t,q)))):=by have:=H1.out.1;rw[hm] at this;exact this
  have hql:=HQ.out t q hm;have hsz:=H1.out.2.1;by_cases hq:q=s.size
  ·have HA:Hid (vK s defs=some t):=by show _=_;rw[HM.out,hm];exact if_pos hq
   rw[HA.out];clear hm HA HM H1 HQ;have eq1:((q:Int) != (s.size:Int))=false:=by rw[hq];simp
   have HSZ:Hid (w1.heap.size=w.heap.size+1∧q=s.size):=⟨hsz,hq⟩
   clear hsz hq;go_in;apply wp_cut;intro K0 J;go_wp2;apply J.out;clear J;apply wp_cut;intro K0 J;go_wp2;apply J.out;clear J;rw[<-hw1];clear hw1;go_wp2_with (first|(go_at_call 182;refine HC.out.mono ?_;rintro e w2 ⟨hk2,p,rfl,ht2,hR2⟩;have d2:w2.cell? ⟨w.heap.size,2,none⟩=some (int i64 (q:Int)):=hR2.cells.2.2.1))
   refine bodyPost_ret (results_tmp2 rfl _ _ _) rfl ?_;refine⟨HE.out w2 hk2,p,rfl,?_⟩;rw[<-HSZ.out.2];exact ht2.mono fun i _ hx=>by
    rcases hx with hx|hx
    ·exact .inl hx
    ·exact .inr (by have:=HSZ.out.1;omega)
  ·have HA:Hid (vK s defs=none):=by show _=_;rw[HM.out,hm];exact if_neg hq
   rw[HA.out];clear hm HA HM H1 HQ hsz;have eq1:((q:Int) != (s.size:Int))=true:=by simp;omega
   clear hq;go_in;apply wp_cut;intro K0 J;go_wp2;apply J.out;clear J;apply wp_cut;intro K0 J;go_wp2;apply J.out;clear J;rw[<-hw1];clear hw1;go_wp2_with (first|(go_at_call 182;refine HC.out.mono ?_;rintro e w2 ⟨hk2,p,rfl,ht2,hR2⟩;have d2:w2.cell? ⟨w.heap.size,2,none⟩=some (int i64 (q:Int)):=hR2.cells.2.2.1))
   refine bodyPost_ret (results_tmp2 rfl _ _ _) rfl ?_;exact⟨HE.out w2 hk2,rfl⟩
section
def zAP (f g:Nat->Value)(n:Nat):List Value:=(List.range n).flatMap fun i=>[f i,g i]
theorem vC (f g:Nat->Value)(n:Nat):zAP f g (n+1)=zAP f g n++[f n,g n]:=by
 unfold zAP;rw[List.range_succ,List.flatMap_append];rfl
theorem zF8 (f g:Nat->Value)(n:Nat):(zAP f g n).length=n*2:=by
 induction n with
 |zero=>rfl
 |succ n ih=>rw[vC,kX,ih];show n*2+2=_;omega
theorem zA1 (f g:Nat->Value)(n i:Nat)(hi:i<n):(zAP f g n)[i*2]? =some (f i)∧(zAP f g n)[i*2+1]? =some (g i):=by
 induction n with
 |zero=>omega
 |succ n ih=>
  rw[vC];have hl:=zF8 f g n;by_cases h:i<n
  ·rw[kW (by omega),kW (by omega)]
   exact ih h
  ·have e:i=n:=by omega
   subst e;rw[gQ (by omega),gQ (by omega),hl,Nat.sub_self,show i*2+1-i*2=1 by omega];exact⟨rfl,rfl⟩
theorem zAO (f g f' g':Nat->Value)(n:Nat)(h:∀i,i<n->f i=f' i∧g i=g' i):zAP f g n=zAP f' g' n:=by
 induction n with
 |zero=>rfl
 |succ n ih=>rw[vC,vC,ih fun i hi=>h i (by omega),(h n (by omega)).1,(h n (by omega)).2]
theorem zKP (f g:Nat->Value)(n k:Nat)(v:Value)(hk:k<n):(zAP f g n).set (k*2+1) v=zAP f (fun i=>if i=k then v else g i) n:=by
 induction n with
 |zero=>omega
 |succ n ih=>
  have hl:=zF8 f g n;rw[vC,vC];by_cases h:k<n
  ·rw[List.set_append_left _ _ (by omega),ih h,if_neg (by omega)]
  ·have e:k=n:=by omega
   subst e;rw[List.set_append_right _ _ (by omega),hl,show k*2+1-k*2=1 by omega,if_pos rfl];rw[zAO f (fun i=>if i=k then v else g i) f g k fun i hi=>⟨rfl,if_neg (by omega)⟩];rfl
structure Sh where
 modes:List (ByteArray×List Tr)
 defs:List (ByteArray×Tr)
 acts:List Nat
 pushed:List ByteArray
def Sh.mode (s:Sh)(i:Nat):ByteArray×List Tr:=s.modes.getD i (⟨#[]⟩,[])
def Sh.defn (s:Sh)(i:Nat):ByteArray×Tr:=s.defs.getD i (⟨#[]⟩,Tr.none)
def Sh.none:Sh:=⟨[],[],[],[]⟩
structure Sw (w:World)(X:Nat->Prop)(S D:Nat)(sh:Sh)(mv dv av pv:Value)(rv:Nat->Value)(ps:Nat->List Nat)(dp:Nat->Nat):Prop where
 blk:w.heap[S]? =some (.cells #[mv,dv,av,pv] 114)
 mOwn:w.ownsRow (S+1) 120 2 mv sh.modes.length (zAP (fun i=>string (sh.mode i).1) rv sh.modes.length)
 dOwn:w.ownsRow (S+1) 233 2 dv sh.defs.length (zAP (fun i=>string (sh.defn i).1) (fun i=>pointer (some ⟨dp i,0,none⟩)) sh.defs.length)
 aOwn:w.ownsRow (S+1) 3 1 av sh.acts.length (sh.acts.map fun x:Nat=>int i64 (x:Int))
 pOwn:w.ownsRow (S+1) 9 1 pv sh.pushed.length (sh.pushed.map fun x=>string x)
 rOwn:∀i,i<sh.modes.length->w.ownsRow (S+1) 158 1 (rv i) (sh.mode i).2.length (xT (ps i))
 rApart:∀i j g,i<sh.modes.length->j<sh.modes.length->i≠j->(rv i).ownBlock=some g->some g≠(rv j).ownBlock
 rTree:∀i,i<sh.modes.length->∀k,k<(sh.mode i).2.length->TreeIn X w D ((ps i).getD k 0) ((sh.mode i).2.getD k Tr.none)
 dTree:∀i,i<sh.defs.length->TreeIn X w D (dp i) (sh.defn i).2
 xlt:∀g,X g->S<g∧g<w.heap.size
 xm:∀g,X g->some g≠mv.ownBlock∧some g≠dv.ownBlock∧some g≠av.ownBlock∧some g≠pv.ownBlock
 xr:∀g i,X g->i<sh.modes.length->some g≠(rv i).ownBlock
 lt:S<w.heap.size
def SwIs (w:World)(S D:Nat)(sh:Sh):Prop:=∃X mv dv av pv rv ps dp,Sw w X S D sh mv dv av pv rv ps dp
section
variable {w w2:World} {X:Nat->Prop} {S D E:Nat} {sh:Sh} {mv dv av pv:Value} {rv:Nat->Value} {ps:Nat->List Nat} {dp:Nat->Nat}
theorem zZ {H e z n e' z' n':Nat}{v v':Value}{xs xs':List Value}(h:w.ownsRow H e z v n xs)(h':w.ownsRow H e' z' v' n' xs')(he:e≠e')(g:Nat)(hg:v.ownBlock=some g):some g≠v'.ownBlock:=by
 rcases h.2 with⟨hv,-⟩|⟨g2,cap,cur,hv,hH,hh,-⟩
 ·rw[hv] at hg;cases hg
 ·rw[hv] at hg
  have e2:g2=g:=by simpa[Value.ownBlock] using hg
  rw[e2] at hh;exact zM h' hh (Ne.symm he)
theorem Sw.cells (h:Sw w X S D sh mv dv av pv rv ps dp):w.cell? ⟨S,0,none⟩=some mv∧w.cell? ⟨S,1,none⟩=some dv∧w.cell? ⟨S,2,none⟩=some av∧w.cell? ⟨S,3,none⟩=some pv∧∀i,w.frozen? ⟨S,i,none⟩=false:=by
 refine⟨?_,?_,?_,?_,fun i=>?_⟩
 all_goals first|(unfold cell?;rw[h.blk];rfl)|(unfold frozen?;rw[h.blk];simp)
theorem Sw.grown (h:Sw w X S D sh mv dv av pv rv ps dp)(hk:Grew w w2):Sw w2 X S D sh mv dv av pv rv ps dp:=by
 have hb:∀{H e z n v xs},w.ownsRow H e z v n xs->w2.ownsRow H e z v n xs:=fun ho=>zD ho fun g _ hg _=>hk.block g hg (kJ hg);have ha:Agree X w w2:=hk.agree fun i hi _=>⟨hi,kJ hi⟩
 exact⟨(hk.block S h.lt (kJ h.lt)).trans h.blk,hb h.mOwn,hb h.dOwn,hb h.aOwn,hb h.pOwn,fun i hi=>hb (h.rOwn i hi),h.rApart,fun i hi k hk2=>(h.rTree i hi k hk2).go ha,fun i hi=>(h.dTree i hi).go ha,fun g hg=>⟨(h.xlt g hg).1,lZ (h.xlt g hg).2 hk.size⟩,h.xm,h.xr,lZ h.lt hk.size⟩
theorem Sw.deep (h:Sw w X S D sh mv dv av pv rv ps dp)(he:D<=E):Sw w X S E sh mv dv av pv rv ps dp:=⟨h.blk,h.mOwn,h.dOwn,h.aOwn,h.pOwn,h.rOwn,h.rApart,fun i hi k hk=>(h.rTree i hi k hk).deep he,fun i hi=>(h.dTree i hi).deep he,h.xlt,h.xm,h.xr,h.lt⟩
theorem Sw.more (h:Sw w X S D sh mv dv av pv rv ps dp)(hk:Grew w w2):Sw w2 (fun i=>X i∨(w.heap.size<=i∧i<w2.heap.size)) S D sh mv dv av pv rv ps dp:=by
 have h2:=h.grown hk;have hl:=h.lt;have ho:∀{e z n v xs},w.ownsRow (S+1) e z v n xs->∀g,w.heap.size<=g->some g≠v.ownBlock:=fun hw g hg e=>by have:=(hw.lt g e.symm).2;omega
 refine⟨h2.blk,h2.mOwn,h2.dOwn,h2.aOwn,h2.pOwn,h2.rOwn,h2.rApart,fun i hi k hk2=>(h2.rTree i hi k hk2).mono fun _ _ hx=>.inl hx,fun i hi=>(h2.dTree i hi).mono fun _ _ hx=>.inl hx,fun g hg=>?_,fun g hg=>?_,fun g i hg hi=>?_,h2.lt⟩
 ·rcases hg with hg|hg
  ·exact h2.xlt g hg
  ·exact⟨by omega,hg.2⟩
 ·rcases hg with hg|hg
  ·exact h2.xm g hg
  ·exact⟨ho h.mOwn g hg.1,ho h.dOwn g hg.1,ho h.aOwn g hg.1,ho h.pOwn g hg.1⟩
 ·rcases hg with hg|hg
  ·exact h2.xr g i hg hi
  ·exact ho (h.rOwn i hi) g hg.1
theorem xW {p H e z n:Nat}{u u' v:Value}{xs:List Value}(hk:KeepO p u u' w w2)(ho:w.ownsRow H e z v n xs)(hp:p<H)(hne:∀g,v.ownBlock=some g->some g≠u.ownBlock):w2.ownsRow H e z v n xs∧∀g,v.ownBlock=some g->some g≠u'.ownBlock:=by
 refine⟨zD ho fun g hH hg hv=>(hk.block g hg (by omega) (hne g hv)).1,fun g hv=>?_⟩;have hl:=ho.lt g hv;exact(hk.block g hl.2 (by omega) (hne g hv)).2
theorem vT {p d b:Nat}{u u':Value}{t:Tr}(hk:KeepO p u u' w w2)(ht:TreeIn X w d b t)(hx:∀g,X g->g≠p∧some g≠u.ownBlock):TreeIn X w2 d b t:=ht.go ⟨hk.os,hk.output,hk.size,fun i hi hxi=>(hk.block i hi (hx i hxi).1 (hx i hxi).2).1⟩
theorem zEm {o:Obj}{H e z n g cap m i:Nat}{v:Value}{xs ys:List Value}(ho:w.ownsRow H e z v n xs)(hS:S<H)(hl:H<=w.heap.size)(hown:w2.ownsRow H e z (slice (some ⟨g,0,none⟩) m cap) m ys)(hg:(w.alloc o).grownBy w2 v.ownBlock)(hat:v.ownBlock=some g∨w.heap.size<=g):
  (w2.setCell ⟨S,i,none⟩ (slice (some ⟨g,0,none⟩) m cap)).ownsRow H e z (slice (some ⟨g,0,none⟩) m cap) m ys∧KeepO S v (slice (some ⟨g,0,none⟩) m cap) w (w2.setCell ⟨S,i,none⟩ (slice (some ⟨g,0,none⟩) m cap))∧w2.heap[S]? =w.heap[S]? :=by
 have hbl:∀j,j<H->w2.heap[j]? =w.heap[j]? :=fun j hj=>(hg.block j (by simp;omega) fun e=>by have:=(ho.lt j e.symm).1;omega).trans (lG _ _ _ (by omega));have hsz:w.heap.size<=w2.heap.size:=lY (by simp) hg.size;refine⟨zX hown hS,⟨hg.os,hg.output,by rw[zC];exact hsz,fun k h1 h2 h3=>⟨(lJ _ _ _ _ h2).trans ((hg.block k (by simp;omega) h3).trans (lG _ _ _ h1)),fun e=>by
  have e2:k=g:=by simpa[Value.ownBlock] using e
  rcases hat with ha|ha
  ·exact h3 (by rw[ha,e2])
  ·omega⟩⟩,hbl S hS⟩
end
end
section
section
variable {w w2:World} {X:Nat->Prop} {S D:Nat} {sh:Sh} {mv dv av pv:Value} {rv:Nat->Value} {ps:Nat->List Nat} {dp:Nat->Nat} {o:Obj} {g cap:Nat}
theorem zB7 {p H e z n:Nat}{u u' v:Value}{xs:List Value}(hk:KeepO p u u' w w2)(ho:w.ownsRow H e z v n xs)(hp:∀g,v.ownBlock=some g->g≠p)(hne:∀g,v.ownBlock=some g->some g≠u.ownBlock):w2.ownsRow H e z v n xs∧∀g,v.ownBlock=some g->some g≠u'.ownBlock:=by
 refine⟨zD ho fun g hH hg hv=>(hk.block g hg (hp g hv) (hne g hv)).1,fun g hv=>?_⟩;have hl:=ho.lt g hv;exact(hk.block g hl.2 (hp g hv) (hne g hv)).2
def Sh.addMode (sh:Sh)(nm:ByteArray):Sh:={sh with modes:=sh.modes++[(nm,[])]}
def Sh.addDef (sh:Sh)(nm:ByteArray)(t:Tr):Sh:={sh with defs:=sh.defs++[(nm,t)]}
def Sh.addAct (sh:Sh)(a:Nat):Sh:={sh with acts:=sh.acts++[a]}
def Sh.addPush (sh:Sh)(nm:ByteArray):Sh:={sh with pushed:=sh.pushed++[nm]}
theorem zAh (sh:Sh)(nm:ByteArray)(i:Nat)(hi:i<sh.modes.length):(sh.addMode nm).mode i=sh.mode i:=by
 unfold Sh.mode Sh.addMode;rw[lW,lW];show((sh.modes++[(nm,[])])[i]?).getD _=_;rw[kW hi]
theorem zAi (sh:Sh)(nm:ByteArray):(sh.addMode nm).mode sh.modes.length=(nm,[]):=by
 unfold Sh.mode Sh.addMode;simp
theorem vZ (sh:Sh)(nm:ByteArray):(sh.addMode nm).modes.length=sh.modes.length+1:=by unfold Sh.addMode;simp
theorem zCI (sh:Sh)(nm:ByteArray)(t:Tr)(i:Nat)(hi:i<sh.defs.length):(sh.addDef nm t).defn i=sh.defn i:=by
 unfold Sh.defn Sh.addDef;rw[lW,lW];show((sh.defs++[(nm,t)])[i]?).getD _=_;rw[kW hi]
theorem zCJ (sh:Sh)(nm:ByteArray)(t:Tr):(sh.addDef nm t).defn sh.defs.length=(nm,t):=by
 unfold Sh.defn Sh.addDef;simp
theorem zCK (sh:Sh)(nm:ByteArray)(t:Tr):(sh.addDef nm t).defs.length=sh.defs.length+1:=by unfold Sh.addDef;simp
theorem Sw.appAct (h:Sw w X S D sh mv dv av pv rv ps dp){x:Nat}(hown:w2.ownsRow (S+1) 3 1 (slice (some ⟨g,0,none⟩) (sh.acts.length+1) cap) (sh.acts.length+1) ((sh.acts.map fun x:Nat=>int i64 (x:Int))++[int i64 (x:Int)]))(hg:(w.alloc o).grownBy w2 av.ownBlock)(hat:av.ownBlock=some g∨w.heap.size<=g):
  Sw (w2.setCell ⟨S,2,none⟩ (slice (some ⟨g,0,none⟩) (sh.acts.length+1) cap)) X S D (sh.addAct x) mv dv (slice (some ⟨g,0,none⟩) (sh.acts.length+1) cap) pv rv ps dp∧KeepO S av (slice (some ⟨g,0,none⟩) (sh.acts.length+1) cap) w (w2.setCell ⟨S,2,none⟩ (slice (some ⟨g,0,none⟩) (sh.acts.length+1) cap)):=by
 obtain⟨a1,a2,a3⟩:=zEm (i:=2) h.aOwn (Nat.lt_succ_self S) h.lt hown hg hat
 have km:=xW a2 h.mOwn (Nat.lt_succ_self S) (zZ h.mOwn h.aOwn (by decide));have kd:=xW a2 h.dOwn (Nat.lt_succ_self S) (zZ h.dOwn h.aOwn (by decide));have kp:=xW a2 h.pOwn (Nat.lt_succ_self S) (zZ h.pOwn h.aOwn (by decide));have kr:=fun i (hi:i<sh.modes.length)=>xW a2 (h.rOwn i hi) (Nat.lt_succ_self S) (zZ (h.rOwn i hi) h.aOwn (by decide));have hX:∀q,X q->q≠S∧some q≠av.ownBlock:=fun q hq=>⟨Nat.ne_of_gt (h.xlt q hq).1,(h.xm q hq).2.2.1⟩
 have tk:∀d b t,TreeIn X w d b t->TreeIn X (w2.setCell ⟨S,2,none⟩ (slice (some ⟨g,0,none⟩) (sh.acts.length+1) cap)) d b t:=fun d b t ht=>vT a2 ht hX;have hxn:∀q,X q->some q≠(Value.slice (some ⟨g,0,none⟩) (sh.acts.length+1) cap).ownBlock:=fun q hq=>(a2.block q (h.xlt q hq).2 (hX q hq).1 (hX q hq).2).2;have hb:(w2.setCell ⟨S,2,none⟩ (slice (some ⟨g,0,none⟩) (sh.acts.length+1) cap)).heap[S]? =some (.cells #[mv,dv,(slice (some ⟨g,0,none⟩) (sh.acts.length+1) cap),pv] 114):=by
  have:=a3.trans h.blk;simp[setCell,lU,this]
 have xl:∀q,X q->S<q∧q<(w2.setCell ⟨S,2,none⟩ (slice (some ⟨g,0,none⟩) (sh.acts.length+1) cap)).heap.size:=fun q hq=>⟨(h.xlt q hq).1,lZ (h.xlt q hq).2 a2.size⟩
 refine⟨⟨hb,km.1,kd.1,(by show(setCell _ _ _).ownsRow _ _ _ _ (sh.acts++[x]).length ((sh.acts++[x]).map _);rw[kX,List.map_append];exact a1),kp.1,fun i hi=>(kr i hi).1,h.rApart,fun i hi k hk=>tk _ _ _ (h.rTree i hi k hk),fun i hi=>tk _ _ _ (h.dTree i hi),xl,fun q hq=>⟨(h.xm q hq).1,(h.xm q hq).2.1,hxn q hq,(h.xm q hq).2.2.2⟩,h.xr,lZ h.lt a2.size⟩,a2⟩
theorem Sw.appPush (h:Sw w X S D sh mv dv av pv rv ps dp){x:ByteArray}(hown:w2.ownsRow (S+1) 9 1 (slice (some ⟨g,0,none⟩) (sh.pushed.length+1) cap) (sh.pushed.length+1) ((sh.pushed.map fun x=>string x)++[string x]))(hg:(w.alloc o).grownBy w2 pv.ownBlock)(hat:pv.ownBlock=some g∨w.heap.size<=g):
  Sw (w2.setCell ⟨S,3,none⟩ (slice (some ⟨g,0,none⟩) (sh.pushed.length+1) cap)) X S D (sh.addPush x) mv dv av (slice (some ⟨g,0,none⟩) (sh.pushed.length+1) cap) rv ps dp∧KeepO S pv (slice (some ⟨g,0,none⟩) (sh.pushed.length+1) cap) w (w2.setCell ⟨S,3,none⟩ (slice (some ⟨g,0,none⟩) (sh.pushed.length+1) cap)):=by
 obtain⟨a1,a2,a3⟩:=zEm (i:=3) h.pOwn (Nat.lt_succ_self S) h.lt hown hg hat
 have km:=xW a2 h.mOwn (Nat.lt_succ_self S) (zZ h.mOwn h.pOwn (by decide));have kd:=xW a2 h.dOwn (Nat.lt_succ_self S) (zZ h.dOwn h.pOwn (by decide));have ka:=xW a2 h.aOwn (Nat.lt_succ_self S) (zZ h.aOwn h.pOwn (by decide));have kr:=fun i (hi:i<sh.modes.length)=>xW a2 (h.rOwn i hi) (Nat.lt_succ_self S) (zZ (h.rOwn i hi) h.pOwn (by decide));have hX:∀q,X q->q≠S∧some q≠pv.ownBlock:=fun q hq=>⟨Nat.ne_of_gt (h.xlt q hq).1,(h.xm q hq).2.2.2⟩
 have tk:∀d b t,TreeIn X w d b t->TreeIn X (w2.setCell ⟨S,3,none⟩ (slice (some ⟨g,0,none⟩) (sh.pushed.length+1) cap)) d b t:=fun d b t ht=>vT a2 ht hX;have hxn:∀q,X q->some q≠(Value.slice (some ⟨g,0,none⟩) (sh.pushed.length+1) cap).ownBlock:=fun q hq=>(a2.block q (h.xlt q hq).2 (hX q hq).1 (hX q hq).2).2;have hb:(w2.setCell ⟨S,3,none⟩ (slice (some ⟨g,0,none⟩) (sh.pushed.length+1) cap)).heap[S]? =some (.cells #[mv,dv,av,(slice (some ⟨g,0,none⟩) (sh.pushed.length+1) cap)] 114):=by
  have:=a3.trans h.blk;simp[setCell,lU,this]
 have xl:∀q,X q->S<q∧q<(w2.setCell ⟨S,3,none⟩ (slice (some ⟨g,0,none⟩) (sh.pushed.length+1) cap)).heap.size:=fun q hq=>⟨(h.xlt q hq).1,lZ (h.xlt q hq).2 a2.size⟩
 refine⟨⟨hb,km.1,kd.1,ka.1,(by show(setCell _ _ _).ownsRow _ _ _ _ (sh.pushed++[x]).length ((sh.pushed++[x]).map _);rw[kX,List.map_append];exact a1),fun i hi=>(kr i hi).1,h.rApart,fun i hi k hk=>tk _ _ _ (h.rTree i hi k hk),fun i hi=>tk _ _ _ (h.dTree i hi),xl,fun q hq=>⟨(h.xm q hq).1,(h.xm q hq).2.1,(h.xm q hq).2.2.1,hxn q hq⟩,h.xr,lZ h.lt a2.size⟩,a2⟩
theorem Sw.appDef (h:Sw w X S D sh mv dv av pv rv ps dp){nm:ByteArray}{t:Tr}{q0:Nat}(ht:TreeIn X w D q0 t)(hown:w2.ownsRow (S+1) 233 2 (slice (some ⟨g,0,none⟩) (sh.defs.length+1) cap) (sh.defs.length+1) (zAP (fun i=>string (sh.defn i).1) (fun i=>pointer (some ⟨dp i,0,none⟩)) sh.defs.length++[string nm,pointer (some ⟨q0,0,none⟩)]))(hg:(w.alloc o).grownBy w2 dv.ownBlock)(hat:dv.ownBlock=some g∨w.heap.size<=g):
  Sw (w2.setCell ⟨S,1,none⟩ (slice (some ⟨g,0,none⟩) (sh.defs.length+1) cap)) X S D (sh.addDef nm t) mv (slice (some ⟨g,0,none⟩) (sh.defs.length+1) cap) av pv rv ps (fun i=>if i=sh.defs.length then q0 else dp i)∧KeepO S dv (slice (some ⟨g,0,none⟩) (sh.defs.length+1) cap) w (w2.setCell ⟨S,1,none⟩ (slice (some ⟨g,0,none⟩) (sh.defs.length+1) cap)):=by
 obtain⟨a1,a2,a3⟩:=zEm (i:=1) h.dOwn (Nat.lt_succ_self S) h.lt hown hg hat
 have km:=xW a2 h.mOwn (Nat.lt_succ_self S) (zZ h.mOwn h.dOwn (by decide));have ka:=xW a2 h.aOwn (Nat.lt_succ_self S) (zZ h.aOwn h.dOwn (by decide));have kp:=xW a2 h.pOwn (Nat.lt_succ_self S) (zZ h.pOwn h.dOwn (by decide));have kr:=fun i (hi:i<sh.modes.length)=>xW a2 (h.rOwn i hi) (Nat.lt_succ_self S) (zZ (h.rOwn i hi) h.dOwn (by decide));have hX:∀q,X q->q≠S∧some q≠dv.ownBlock:=fun q hq=>⟨Nat.ne_of_gt (h.xlt q hq).1,(h.xm q hq).2.1⟩
 have tk:∀d b t,TreeIn X w d b t->TreeIn X (w2.setCell ⟨S,1,none⟩ (slice (some ⟨g,0,none⟩) (sh.defs.length+1) cap)) d b t:=fun d b t ht=>vT a2 ht hX;have hxn:∀q,X q->some q≠(Value.slice (some ⟨g,0,none⟩) (sh.defs.length+1) cap).ownBlock:=fun q hq=>(a2.block q (h.xlt q hq).2 (hX q hq).1 (hX q hq).2).2;have hb:(w2.setCell ⟨S,1,none⟩ (slice (some ⟨g,0,none⟩) (sh.defs.length+1) cap)).heap[S]? =some (.cells #[mv,(slice (some ⟨g,0,none⟩) (sh.defs.length+1) cap),av,pv] 114):=by
  have:=a3.trans h.blk;simp[setCell,lU,this]
 have xl:∀q,X q->S<q∧q<(w2.setCell ⟨S,1,none⟩ (slice (some ⟨g,0,none⟩) (sh.defs.length+1) cap)).heap.size:=fun q hq=>⟨(h.xlt q hq).1,lZ (h.xlt q hq).2 a2.size⟩
 refine⟨⟨hb,km.1,(by rw[zCK,vC,zCJ,if_pos rfl,zAO (fun i=>string ((sh.addDef nm t).defn i).1) (fun i=>pointer (some ⟨if i=sh.defs.length then q0 else dp i,0,none⟩)) (fun i=>string (sh.defn i).1) (fun i=>pointer (some ⟨dp i,0,none⟩)) _ fun i hi=>⟨by rw[zCI sh nm t i hi],by rw[if_neg (by omega)]⟩];exact a1),ka.1,kp.1,fun i hi=>(kr i hi).1,h.rApart,fun i hi k hk=>tk _ _ _ (h.rTree i hi k hk),fun i hi=>(by
  rw[zCK] at hi;by_cases e:i=sh.defs.length
  ·subst e;rw[zCJ];simp only[if_pos];exact tk _ _ _ ht
  ·rw[zCI sh nm t i (by omega)];simp only[if_neg e];exact tk _ _ _ (h.dTree i (by omega))),xl,fun q hq=>⟨(h.xm q hq).1,hxn q hq,(h.xm q hq).2.2.1,(h.xm q hq).2.2.2⟩,h.xr,lZ h.lt a2.size⟩,a2⟩
theorem Sw.appMode (h:Sw w X S D sh mv dv av pv rv ps dp){nm:ByteArray}(hown:w2.ownsRow (S+1) 120 2 (slice (some ⟨g,0,none⟩) (sh.modes.length+1) cap) (sh.modes.length+1) (zAP (fun i=>string (sh.mode i).1) rv sh.modes.length++[string nm,slice none 0 0]))(hg:(w.alloc o).grownBy w2 mv.ownBlock)(hat:mv.ownBlock=some g∨w.heap.size<=g):
  Sw (w2.setCell ⟨S,0,none⟩ (slice (some ⟨g,0,none⟩) (sh.modes.length+1) cap)) X S D (sh.addMode nm) (slice (some ⟨g,0,none⟩) (sh.modes.length+1) cap) dv av pv (fun i=>if i=sh.modes.length then slice none 0 0 else rv i) (fun i=>if i=sh.modes.length then[] else ps i) dp∧KeepO S mv (slice (some ⟨g,0,none⟩) (sh.modes.length+1) cap) w (w2.setCell ⟨S,0,none⟩ (slice (some ⟨g,0,none⟩) (sh.modes.length+1) cap)):=by
 obtain⟨a1,a2,a3⟩:=zEm (i:=0) h.mOwn (Nat.lt_succ_self S) h.lt hown hg hat
 have kd:=xW a2 h.dOwn (Nat.lt_succ_self S) (zZ h.dOwn h.mOwn (by decide));have ka:=xW a2 h.aOwn (Nat.lt_succ_self S) (zZ h.aOwn h.mOwn (by decide));have kp:=xW a2 h.pOwn (Nat.lt_succ_self S) (zZ h.pOwn h.mOwn (by decide));have kr:=fun i (hi:i<sh.modes.length)=>xW a2 (h.rOwn i hi) (Nat.lt_succ_self S) (zZ (h.rOwn i hi) h.mOwn (by decide));have hX:∀q,X q->q≠S∧some q≠mv.ownBlock:=fun q hq=>⟨Nat.ne_of_gt (h.xlt q hq).1,(h.xm q hq).1⟩
 have tk:∀d b t,TreeIn X w d b t->TreeIn X (w2.setCell ⟨S,0,none⟩ (slice (some ⟨g,0,none⟩) (sh.modes.length+1) cap)) d b t:=fun d b t ht=>vT a2 ht hX;have hxn:∀q,X q->some q≠(Value.slice (some ⟨g,0,none⟩) (sh.modes.length+1) cap).ownBlock:=fun q hq=>(a2.block q (h.xlt q hq).2 (hX q hq).1 (hX q hq).2).2;have hb:(w2.setCell ⟨S,0,none⟩ (slice (some ⟨g,0,none⟩) (sh.modes.length+1) cap)).heap[S]? =some (.cells #[(slice (some ⟨g,0,none⟩) (sh.modes.length+1) cap),dv,av,pv] 114):=by
  have:=a3.trans h.blk;simp[setCell,lU,this]
 have xl:∀q,X q->S<q∧q<(w2.setCell ⟨S,0,none⟩ (slice (some ⟨g,0,none⟩) (sh.modes.length+1) cap)).heap.size:=fun q hq=>⟨(h.xlt q hq).1,lZ (h.xlt q hq).2 a2.size⟩
 refine⟨⟨hb,(by rw[vZ,vC,zAi,if_pos rfl,zAO (fun i=>string ((sh.addMode nm).mode i).1) (fun i=>if i=sh.modes.length then slice none 0 0 else rv i) (fun i=>string (sh.mode i).1) rv _ fun i hi=>⟨by rw[zAh sh nm i hi],by rw[if_neg (by omega)]⟩];exact a1),kd.1,ka.1,kp.1,fun i hi=>(by
  rw[vZ] at hi;by_cases e:i=sh.modes.length
  ·subst e;rw[zAi];simp only[if_pos];exact ownsRow_nil _ _ _ _
  ·rw[zAh sh nm i (by omega)];simp only[if_neg e];exact(kr i (by omega)).1),fun i j q hi hj hij hq=>(by
  rw[vZ] at hi hj;by_cases e:i=sh.modes.length
  ·simp only[if_pos e] at hq;cases hq
  ·simp only[if_neg e] at hq
   by_cases e2:j=sh.modes.length
   ·simp only[if_pos e2];intro e3;cases e3
   ·simp only[if_neg e2];exact h.rApart i j q (by omega) (by omega) hij hq),fun i hi k hk=>(by
  rw[vZ] at hi;by_cases e:i=sh.modes.length
  ·subst e;rw[zAi] at hk;exact absurd hk (Nat.not_lt_zero _)
  ·rw[zAh sh nm i (by omega)] at hk ⊢;simp only[if_neg e];exact tk _ _ _ (h.rTree i (by omega) k hk)),fun i hi=>tk _ _ _ (h.dTree i hi),xl,fun q hq=>⟨hxn q hq,(h.xm q hq).2.1,(h.xm q hq).2.2.1,(h.xm q hq).2.2.2⟩,fun q i hq hi=>(by
  rw[vZ] at hi;by_cases e:i=sh.modes.length
  ·simp only[if_pos e];intro e3;cases e3
  ·simp only[if_neg e];exact h.xr q i hq (by omega)),lZ h.lt a2.size⟩,a2⟩
end
end
end Go.Proofs.YtbjcfkdnjaiclaaGreat
