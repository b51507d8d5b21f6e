import Derived.Test.YtbjcfkdnjaiclaaGreatB0
import Derived.Test.YtbjcfkdnjaiclaaGreatB18
/- Parts of the proof. -/
set_option linter.unusedVariables false
set_option linter.unusedSimpArgs false
set_option maxHeartbeats 4000000
set_option maxRecDepth 100000
namespace Go.Proofs.YtbjcfkdnjaiclaaGreat
open Go.RowKit Go.Proofs.Tryz Go.World
def zAO (s:ByteArray)(i:Nat):Nat->Nat
 |0=>0
 |j+1=>zAO s i j*16+(vW (byt s (i+j))).toNat
def yF (s:ByteArray)(i most:Nat):Nat:=(List.range most).findIdx fun j=>decide (vW (byt s (i+j))<0)
theorem zJV (c:Nat):vW c<16∧-1<=vW c:=by
 unfold vW;by_cases h:xF c=true
 ·have hr:48<=c∧c<=57:=by unfold xF at h;simpa using h
  rw[if_pos h];omega
 ·rw[if_neg h]
  split <;> omega
theorem zJT (s:ByteArray)(i j:Nat):zAO s i j<16^j:=by
 induction j with
 |zero=>exact Nat.one_pos
 |succ j ih=>
  have:=(zJV (byt s (i+j))).1;show zAO s i j*16+(vW (byt s (i+j))).toNat<16^(j+1);rw[Nat.pow_succ];omega
theorem zMI (s:ByteArray)(i most j:Nat)(hj:j<most)(h:vW (byt s (i+j))<0)(hn:∀k,k<j->0<=vW (byt s (i+k))):yF s i most=j:=
 zDk _ _ j (by rw[List.length_range];exact hj) (by rw[qL _ _ hj];exact decide_eq_true h) fun k hk=>by rw[qL _ _ (by omega)];exact decide_eq_false (by have:=hn k hk;omega)
theorem zLL (s:ByteArray)(i most:Nat)(hn:∀k,k<most->0<=vW (byt s (i+k))):yF s i most=most:=by
 have h:=zBb (List.range most) (fun j=>decide (vW (byt s (i+j))<0)) fun k hk=>by
  rw[List.length_range] at hk;rw[qL _ _ hk];exact decide_eq_false (by have:=hn k hk;omega)
 rw[List.length_range] at h;exact h
theorem zKG (w:World)(b:Nat)(s:ByteArray)(dv:Value)(r:Rx)(h:RxAt w b s dv r)(hs:s.size<=1048576)(ha:r.at_<=1900000)(most:Nat)(hm:most<=6):
  Calls prog 216 #[.pointer (some ⟨b,0,none⟩),.int .i64 (most:Int)] w fun e w'=>e=.returned (.tuple #[.int .i64 (zAO s r.at_ (yF s r.at_ most):Nat),.int .i64 (yF s r.at_ most:Nat)])∧RxAt w' b s dv {r with at_:=r.at_+yF s r.at_ most}∧∀H,Keep H b w w':=by
 have HR0:=vl h;have HB1:Hid (∀j,j<=most->zAO s r.at_ j<=16777216):=fun j hj=>Nat.le_of_lt (lZ (zJT s r.at_ j) (kG (by omega) (by omega:j<=6)));have H1:Hid (∀j,j<most->vW (byt s (r.at_+j))<0->(∀k,k<j->0<=vW (byt s (r.at_+k)))->yF s r.at_ most=j):=fun j=>zMI s r.at_ most j;have H2:=vl <| zLL s r.at_ most;have HNS:Hid (∀j,zAO s r.at_ (j+1)=zAO s r.at_ j*16+(vW (byt s (r.at_+j))).toNat):=fun j=>rfl;have HN0:Hid (zAO s r.at_ 0=0):=rfl;generalize hHN:zAO s r.at_=HN at *;go_in;go_wp2;go_loopg [6,7] most (fun q n i wr=>∃j:Nat,q=most-j∧j<=most∧n=.int .i64 (HN j:Int)∧i=.int .i64 (j:Int)∧(∀k,k<j->0<=vW (byt s (r.at_+k)))∧RxAt wr b s dv {r with at_:=r.at_+j}∧∀H,Keep H b w wr)
 case atStart=>exact⟨0,rfl,lX,by rw[HN0.out];rfl,rfl,fun k hk=>by omega,HR0.out,fun H=>Keep.refl _ _ _⟩
 case round=>
  obtain⟨j,hgk,hj,rfl,rfl,hno,hR,hkp⟩:=hrel;have HB:Hid (gk=most-j∧(∀k,k<j->0<=vW (byt s (r.at_+k)))∧RxAt wr b s dv {r with at_:=r.at_+j}∧∀H,Keep H b w wr):=⟨hgk,hno,hR,hkp⟩
  by_cases hj2:j<most
  ·have i1:(j:Int)<(most:Int):=by omega
   have HPK0:=qD wr b s dv {r with at_:=r.at_+j} hR hs (by show r.at_+j<=2000000;omega) 0 (by omega);have HPK:=vl HPK0;have HHX:Hid (∀w2,Calls prog 220 #[.int .u8 (byt s (r.at_+j):Nat)] w2 fun e w'=>e=.returned (.int .i64 (vW (byt s (r.at_+j))))∧w'=w2):=fun w2=>zFm w2 _ (zAl s _);obtain⟨-,-,c2,-,-,cf⟩:=hR.cells;have c2':=c2;have cf2:=cf 2;have hrange:=zJV (byt s (r.at_+j));have HS3:Hid (vW (byt s (r.at_+j))<0->yF s r.at_ most=j):=fun h=>H1.out j hj2 h HB.out.2.1;have HN3:Hid (0<=vW (byt s (r.at_+j))->∀k,k<j+1->0<=vW (byt s (r.at_+k))):=fun h k hk=>by
    by_cases e:k=j
    ·rw[e];exact h
    ·exact HB.out.2.1 k (by omega)
   have HNX:=vl <| HNS.out j;have hnl:=HB1.out j (by omega);have HSA:=vl <| hR.setAt (r.at_+(j+1));generalize vW (byt s (r.at_+j))=d at *;generalize byt s (r.at_+j)=c at *;by_cases hd:d<0
   ·have HC:=vl <| HS3.out hd
    go_wp2_with (first|(go_at_call 200;refine HPK.out.mono ?_;rintro e w9 ⟨rfl,hw9⟩;have hw8:=hw9.symm;subst hw8)|(go_at_call 220;refine(HHX.out _).mono ?_;rintro e w9 ⟨rfl,hw9⟩;have hw8:=hw9.symm;subst hw8))
    refine bodyPost_ret (results_tmp2 rfl _ _ _) rfl ?_;exact⟨by rw[HC.out];rfl,by rw[HC.out];exact HB.out.2.2.1,HB.out.2.2.2⟩
   ·have HNO:=vl <| HN3.out (by omega)
    have i2:0<=d:=by omega
    have HEQ:Hid ((HN (j+1):Int)=(HN j:Int)*16+d):=by show _=_;rw[HNX.out];omega
    have c3:wr.cell? ⟨b,2,none⟩=some (.int .i64 ((r.at_:Int)+(j:Int))):=by rw[c2'];congr 2
    have HE2:Hid (((r.at_+(j+1):Nat):Int)=(r.at_:Int)+(j:Int)+1):=by show _=_;omega
    rw[HE2.out] at HSA;generalize HN j=nn at *;go_wp2_with (first|(go_at_call 200;refine HPK.out.mono ?_;rintro e w9 ⟨rfl,hw9⟩;have hw8:=hw9.symm;subst hw8)|(go_at_call 220;refine(HHX.out _).mono ?_;rintro e w9 ⟨rfl,hw9⟩;have hw8:=hw9.symm;subst hw8))
    go_roundg (most-(j+1))
    case measure=>rw[HB.out.1];omega
    case rel=>exact⟨j+1,rfl,by omega,by rw[HEQ.out],by go_num,HNO.out,HSA.out,fun H=>(HB.out.2.2.2 H).trans (Keep.set _ _ _)⟩
  ·have i1:(most:Int)<=(j:Int):=by omega
   have e:j=most:=by omega
   have HC:=vl <| H2.out fun k hk=>hno k (by omega);subst e;go_wp2;refine bodyPost_ret (results_tmp2 rfl _ _ _) rfl ?_;exact⟨by rw[HC.out];rfl,by rw[HC.out];exact HB.out.2.2.1,HB.out.2.2.2⟩
def zAU (s:ByteArray)(i:Nat):Bool:=byt s i==42||byt s i==43||byt s i==63||(byt s i==123&&xF (byt s (i+1)))
theorem zDP (w:World)(b:Nat)(s:ByteArray)(dv:Value)(r:Rx)(h:RxAt w b s dv r)(hs:s.size<=1048576)(ha:r.at_<=2000000):
  Calls prog 197 #[.pointer (some ⟨b,0,none⟩)] w fun e w'=>e=.returned (.bool (zAU s r.at_))∧w'=w:=by
 have HP0:=vl <| qD w b s dv r h hs ha 0 (by omega);have HP1:=vl <| qD w b s dv r h hs ha 1 (by omega);have HD:Hid (∀w2,Calls prog 206 #[.int .u8 (byt s (r.at_+1):Nat)] w2 fun e w'=>e=.returned (.bool (xF (byt s (r.at_+1))))∧w'=w2):=fun w2=>zAa w2 _;have HV:Hid (zAU s r.at_=(byt s r.at_==42||byt s r.at_==43||byt s r.at_==63||(byt s r.at_==123&&xF (byt s (r.at_+1))))):=rfl;generalize xF (byt s (r.at_+1))=dg at *;generalize byt s (r.at_+1)=c1 at *;generalize byt s r.at_=c at *;by_cases h1:c=42
 ·subst h1
  go_in;go_wp2_with (first|(go_at_call 200;refine HP0.out.mono ?_;rintro e w9 ⟨rfl,hw9⟩;have hw8:=hw9.symm;subst hw8))
  go_ret;exact⟨by rw[HV.out];rfl,rfl⟩
 by_cases h2:c=43
 ·subst h2
  go_in;go_wp2_with (first|(go_at_call 200;refine HP0.out.mono ?_;rintro e w9 ⟨rfl,hw9⟩;have hw8:=hw9.symm;subst hw8))
  go_ret;exact⟨by rw[HV.out];rfl,rfl⟩
 by_cases h3:c=63
 ·subst h3
  go_in;go_wp2_with (first|(go_at_call 200;refine HP0.out.mono ?_;rintro e w9 ⟨rfl,hw9⟩;have hw8:=hw9.symm;subst hw8))
  go_ret;exact⟨by rw[HV.out];rfl,rfl⟩
 by_cases h4:c=123
 ·subst h4
  have HV2:Hid (zAU s r.at_=dg):=by show _=_;rw[HV.out];rfl
  go_in;go_wp2_with (first|(go_at_call 200;first|(have m2:=mark1;refine HP1.out.mono ?_;rintro e w9 ⟨rfl,hw9⟩;have hw8:=hw9.symm;subst hw8)|(refine HP0.out.mono ?_;rintro e w9 ⟨rfl,hw9⟩;have hw8:=hw9.symm;subst hw8;have mark1:=trivial))|(go_at_call 206;refine(HD.out _).mono ?_;rintro e w9 ⟨rfl,hw9⟩;have hw8:=hw9.symm;subst hw8))
  go_ret;exact⟨by rw[HV2.out];rfl,rfl⟩
 ·have HV2:Hid (zAU s r.at_=false):=by
   show _=_;rw[HV.out,show(c==42)=false by rw[gQ];exact h1,show(c==43)=false by rw[gQ];exact h2,show(c==63)=false by rw[gQ];exact h3,show(c==123)=false by rw[gQ];exact h4];rfl
  have e1:((c:Int)==42)=false:=by rw[gQ];omega
  have e2:((c:Int)==43)=false:=by rw[gQ];omega
  have e3:((c:Int)==63)=false:=by rw[gQ];omega
  have e4:((c:Int)==123)=false:=by rw[gQ];omega
  go_in;go_wp2_with (first|(go_at_call 200;refine HP0.out.mono ?_;rintro e w9 ⟨rfl,hw9⟩;have hw8:=hw9.symm;subst hw8))
  go_ret;exact⟨by rw[HV2.out];rfl,rfl⟩
def zH3 (c:Int):Cs:=⟨[(c,c)],false⟩
def zNr:Cs:=⟨[(10,10)],true⟩
theorem zKw (w:World)(c:Int)(b:Nat)(h:w.heap[b]? =some (.cells #[.int .i64 c,.int .i64 c] 255)):RangesAt w (.slice (some ⟨b,0,none⟩) 1 1) [(c,c)]:=by
 have hl:=(kQ.1 h).1;refine⟨_,1,rfl,lQ,by unfold maxLen;omega,fun i hi=>?_⟩;have e:i=0:=by simp at hi;omega
 subst e;refine⟨b,0,rfl,hl,?_,?_⟩
 ·unfold cell?;rw[h];rfl
 ·unfold cell?;rw[h];rfl
theorem zDH (w:World)(c:Int):
  Calls prog 210 #[.int .i64 c] w fun e w'=>∃u,e=.returned (.agg #[u,.bool false])∧(∃g,w.heap.size<=g∧u=.slice (some ⟨g,0,none⟩) 1 1∧w'.heap[g]? =some (.cells #[.int .i64 c,.int .i64 c] 255))∧Grew w w':=by
 obtain⟨w2,hw2,z0,z1,HB,HK⟩:∃w2,w2=(w.alloc (Obj.cells #[.slice (some ⟨w.heap.size+1,0,none⟩) 1 1,.bool false] 161)).alloc (Obj.cells #[.int .i64 c,.int .i64 c] 255)∧w2.cell? ⟨w.heap.size,0,none⟩=some (.slice (some ⟨w.heap.size+1,0,none⟩) 1 1)∧w2.cell? ⟨w.heap.size,1,none⟩=some (.bool false)∧Hid (w2.heap[w.heap.size+1]? =some (.cells #[.int .i64 c,.int .i64 c] 255))∧Hid (Grew w w2):=by
  have s1:(w.alloc (Obj.cells #[.slice (some ⟨w.heap.size+1,0,none⟩) 1 1,.bool false] 161)).heap.size=w.heap.size+1:=by simp
  have h1:((w.alloc (Obj.cells #[.slice (some ⟨w.heap.size+1,0,none⟩) 1 1,.bool false] 161)).alloc (Obj.cells #[.int .i64 c,.int .i64 c] 255)).heap[w.heap.size]? =some (Obj.cells #[.slice (some ⟨w.heap.size+1,0,none⟩) 1 1,.bool false] 161):=(lG _ _ _ (by rw[s1];omega)).trans (gG _ _);have h2:=gG (w.alloc (Obj.cells #[.slice (some ⟨w.heap.size+1,0,none⟩) 1 1,.bool false] 161)) (Obj.cells #[.int .i64 c,.int .i64 c] 255);rw[s1] at h2;refine⟨_,rfl,?_,?_,h2,(kZ _ _ lQ).trans (kZ _ _ (by rw[s1];omega))⟩
  ·unfold cell?;rw[h1];rfl
  ·unfold cell?;rw[h1];rfl
 go_in;go_wp2;rw[<-hw2];refine bodyPost_ret (v:=.agg #[.slice (some ⟨w.heap.size+1,0,none⟩) 1 1,.bool false]) (by simp[results,results210,go_sem,z0,z1]) rfl ?_;exact⟨_,rfl,⟨_,by omega,rfl,HB.out⟩,HK.out⟩
theorem zKX (w:World):
  Calls prog 211 #[] w fun e w'=>∃u,e=.returned (.agg #[u,.bool true])∧(∃g,w.heap.size<=g∧u=.slice (some ⟨g,0,none⟩) 1 1∧w'.heap[g]? =some (.cells #[.int .i64 10,.int .i64 10] 255))∧Grew w w':=by
 obtain⟨w2,hw2,z0,z1,HB,HK⟩:∃w2,w2=(w.alloc (Obj.cells #[.slice (some ⟨w.heap.size+1,0,none⟩) 1 1,.bool true] 161)).alloc (Obj.cells #[.int .i64 10,.int .i64 10] 255)∧w2.cell? ⟨w.heap.size,0,none⟩=some (.slice (some ⟨w.heap.size+1,0,none⟩) 1 1)∧w2.cell? ⟨w.heap.size,1,none⟩=some (.bool true)∧Hid (w2.heap[w.heap.size+1]? =some (.cells #[.int .i64 10,.int .i64 10] 255))∧Hid (Grew w w2):=by
  have s1:(w.alloc (Obj.cells #[.slice (some ⟨w.heap.size+1,0,none⟩) 1 1,.bool true] 161)).heap.size=w.heap.size+1:=by simp
  have h1:((w.alloc (Obj.cells #[.slice (some ⟨w.heap.size+1,0,none⟩) 1 1,.bool true] 161)).alloc (Obj.cells #[.int .i64 10,.int .i64 10] 255)).heap[w.heap.size]? =some (Obj.cells #[.slice (some ⟨w.heap.size+1,0,none⟩) 1 1,.bool true] 161):=(lG _ _ _ (by rw[s1];omega)).trans (gG _ _);have h2:=gG (w.alloc (Obj.cells #[.slice (some ⟨w.heap.size+1,0,none⟩) 1 1,.bool true] 161)) (Obj.cells #[.int .i64 10,.int .i64 10] 255);rw[s1] at h2;refine⟨_,rfl,?_,?_,h2,(kZ _ _ lQ).trans (kZ _ _ (by rw[s1];omega))⟩
  ·unfold cell?;rw[h1];rfl
  ·unfold cell?;rw[h1];rfl
 go_in;go_wp2;rw[<-hw2];refine bodyPost_ret (v:=.agg #[.slice (some ⟨w.heap.size+1,0,none⟩) 1 1,.bool true]) (by simp[results,results211,go_sem,z0,z1]) rfl ?_;exact⟨_,rfl,⟨_,by omega,rfl,HB.out⟩,HK.out⟩
def xJ (n:Nat):Nat:=if 24<n then 25 else n
theorem zCB (w:World)(n:Nat):Calls prog 195 #[.int .i64 (n:Int)] w fun e w'=>e=.returned (.int .i64 (xJ n:Int))∧w'=w:=by
 by_cases h:24<n
 ·have HV:Hid (xJ n=25):=by show _=_;unfold xJ;rw[if_pos h]
  have i1:(n:Int)>24:=by omega
  go_in;go_wp2;go_ret;exact⟨by rw[HV.out];rfl,rfl⟩
 ·have HV:Hid (xJ n=n):=by show _=_;unfold xJ;rw[if_neg h]
  have i1:(n:Int)<=24:=by omega
  go_in;go_wp2;go_ret;exact⟨by rw[HV.out];rfl,rfl⟩
theorem zHw {s t:ByteArray}{r:Rx}(h:zI s r.at_ t=true):r.take s t={r with at_:=r.at_+t.size}:=by unfold Rx.take;rw[if_pos h]
theorem zJC {s t:ByteArray}{r:Rx}(h:zI s r.at_ t=false):r.take s t=r:=by unfold Rx.take;rw[if_neg (by rw[h];decide)]
theorem zM6 {w0 w:World}{b:Nat}{s t:ByteArray}{dv:Value}{r:Rx}(hv:zI s r.at_ t=true)(h:RxAt w b s dv r)(hk:∀H,Keep H b w0 w)(hs:s.size<=1048576)(ha:r.at_<=2000000)(ht:t.size<=1000000):
  Calls prog 189 #[.pointer (some ⟨b,0,none⟩),.string t] w fun e w'=>e=.returned (.bool true)∧RxAt w' b s dv {r with at_:=r.at_+t.size}∧∀H,Keep H b w0 w':=by
 refine(jF w b s dv r h hs ha t ht).mono ?_;rintro e w' ⟨rfl,h1,h2⟩;rw[zHw hv] at h1;exact⟨by rw[hv],h1,fun H=>(hk H).trans (h2 H)⟩
theorem zM7 {w0 w:World}{b:Nat}{s t:ByteArray}{dv:Value}{r:Rx}(hv:zI s r.at_ t=false)(h:RxAt w b s dv r)(hk:∀H,Keep H b w0 w)(hs:s.size<=1048576)(ha:r.at_<=2000000)(ht:t.size<=1000000):
  Calls prog 189 #[.pointer (some ⟨b,0,none⟩),.string t] w fun e w'=>e=.returned (.bool false)∧RxAt w' b s dv r∧∀H,Keep H b w0 w':=by
 refine(jF w b s dv r h hs ha t ht).mono ?_;rintro e w' ⟨rfl,h1,h2⟩;rw[zJC hv] at h1;exact⟨by rw[hv],h1,fun H=>(hk H).trans (h2 H)⟩
theorem zIM {b:Nat}{s:ByteArray}{dv:Value}{r:Rx}{x y:Nat}{v:Bool}{t:ByteArray}(hv:zI s x t=v)(hs:s.size<=1048576)(hx:x<=2000000)(ht:t.size<=1000000)(hy:y=if v then x+t.size else x):Hid (∀w,RxAt w b s dv {r with at_:=x}->Calls prog 189 #[.pointer (some ⟨b,0,none⟩),.string t] w fun e w'=>e=.returned (.bool v)∧RxAt w' b s dv {r with at_:=y}∧∀H,Keep H b w w'):=fun w h=>by
 subst hy;cases v with
 |true=>exact zM6 (r:={r with at_:=x}) hv h (fun H=>Keep.refl _ _ _) hs hx ht
 |false=>exact zM7 (r:={r with at_:=x}) hv h (fun H=>Keep.refl _ _ _) hs hx ht
theorem jX {w:World}{b:Nat}{s:ByteArray}{dv:Value}{r:Rx}{x y:Nat}{v:Bool}(t:ByteArray)(hs:s.size<=1048576)(hx:x<=2000000)(ht:t.size<=1000000)(hv:zI s x t=v)(hy:y=if v then x+t.size else x)(h:RxAt w b s dv {r with at_:=x}):
  Calls prog 189 #[.pointer (some ⟨b,0,none⟩),.string t] w fun e w'=>e=.returned (.bool v)∧RxAt w' b s dv {r with at_:=y}∧∀H,Keep H b w w':=(zIM hv hs hx ht hy).out w h
theorem zM4 {w0 w:World}{b x:Nat}{s:ByteArray}{c:UInt8}{dv:Value}{r:Rx}(hv:zI s x ⟨#[c]⟩=true)(h:RxAt w b s dv {r with at_:=x})(hk:∀H,Keep H b w0 w)(hs:s.size<=1048576)(ha:x<=2000000):
  Calls prog 189 #[.pointer (some ⟨b,0,none⟩),.string ⟨#[c]⟩] w fun e w'=>e=.returned (.bool true)∧RxAt w' b s dv {r with at_:=x+1}∧∀H,Keep H b w0 w':=zM6 (r:={r with at_:=x}) hv h hk hs ha (by show 1<=1000000;decide)
theorem zM5 {w0 w:World}{b x:Nat}{s:ByteArray}{c:UInt8}{dv:Value}{r:Rx}(hv:zI s x ⟨#[c]⟩=false)(h:RxAt w b s dv {r with at_:=x})(hk:∀H,Keep H b w0 w)(hs:s.size<=1048576)(ha:x<=2000000):
  Calls prog 189 #[.pointer (some ⟨b,0,none⟩),.string ⟨#[c]⟩] w fun e w'=>e=.returned (.bool false)∧RxAt w' b s dv {r with at_:=x}∧∀H,Keep H b w0 w':=zM7 (r:={r with at_:=x}) hv h hk hs ha (by show 1<=1000000;decide)
theorem zEB (s:ByteArray)(p m:Nat):yF s p m<=m:=by
 have h:(List.range m).findIdx (fun j=>decide (vW (byt s (p+j))<0))<=(List.range m).length:=List.findIdx_le_length;rw[List.length_range] at h;exact h
theorem zMY {b:Nat}{s:ByteArray}{dv:Value}{r:Rx}(x m:Nat)(hs:s.size<=1048576)(hx:x<=1900000)(hm:m<=6):Hid (∀w,RxAt w b s dv {r with at_:=x}->Calls prog 216 #[.pointer (some ⟨b,0,none⟩),.int .i64 (m:Int)] w fun e w'=>e=.returned (.tuple #[.int .i64 (zAO s x (yF s x m):Nat),.int .i64 (yF s x m:Nat)])∧RxAt w' b s dv {r with at_:=x+yF s x m}∧∀H,Keep H b w w'):=fun w h=>zKG w b s dv _ h hs hx m hm
theorem zGQ {b:Nat}{s:ByteArray}{dv:Value}{r:Rx}(hs:s.size<=1048576)(ha:r.at_<=2000000):Hid (∀w,RxAt w b s dv r->Calls prog 200 #[.pointer (some ⟨b,0,none⟩),.int .i64 0] w fun e w'=>e=.returned (.int .u8 (byt s r.at_:Nat))∧w'=w):=fun w h=>qD w b s dv r h hs ha 0 (by omega)
theorem zM9 {b:Nat}{s:ByteArray}{dv:Value}{r:Rx}:Hid (∀w,RxAt w b s dv r->RxAt (w.setCell ⟨b,2,none⟩ (.int .i64 ((r.at_:Int)+1))) b s dv {r with at_:=r.at_+1}):=fun w h=>h.setAt (r.at_+1)
theorem zL2 {w:World}{b:Nat}{s:ByteArray}{dv:Value}{r:Rx}(h:RxAt w b s dv r):∃r1 w0,r1.at_=r.at_+1∧w0=w.setCell ⟨b,2,none⟩ (.int .i64 ((r.at_:Int)+1))∧RxAt w0 b s dv r1∧(∀H,Keep H b w w0)∧Hid (∀q:Nat,({r1 with at_:=q}:Rx)={r with at_:=q})∧w.cell? ⟨b,2,none⟩=some (.int .i64 (r.at_:Int))∧w.frozen? ⟨b,2,none⟩=false:=by
 have h2:=h.setAt (r.at_+1);rw[show ((r.at_+1:Nat):Int)=(r.at_:Int)+1 by omega] at h2;exact⟨_,_,rfl,rfl,h2,fun H=>Keep.set _ _ _,fun q=>rfl,h.cells.2.2.1,h.cells.2.2.2.2.2 2⟩
structure Sg where
 num:Int
 ok:Bool
 at_:Nat
def zG5 (s:ByteArray)(p:Nat):Sg:=⟨(zAO s p (yF s p 2):Nat),yF s p 2==2,p+yF s p 2⟩
def zGw (s:ByteArray)(p:Nat):Sg:=⟨(zAO s p (yF s p 6):Nat),zI s (p+yF s p 6) ⟨#[125]⟩&&decide (0<yF s p 6)&&zDQ (zAO s p (yF s p 6):Nat),if zI s (p+yF s p 6) ⟨#[125]⟩ then p+yF s p 6+1 else p+yF s p 6⟩
def zJ1 (c:Nat):Bool:=decide (c<33)||decide (126<c)||xF c||zCi c
def zAM (s:ByteArray)(p:Nat):Sg:=if zI s p ⟨#[110]⟩ then⟨10,true,p+1⟩ else if zI s p ⟨#[116]⟩ then⟨9,true,p+1⟩ else if zI s p ⟨#[120]⟩ then zG5 s (p+1) else if zI s p ⟨#[117,123]⟩ then zGw s (p+2) else if zJ1 (byt s p) then⟨0,false,p⟩ else⟨(byt s p:Nat),true,p+1⟩
theorem zBu (w:World)(b:Nat)(s:ByteArray)(dv:Value)(r:Rx)(h:RxAt w b s dv r)(hs:s.size<=1048576)(ha:r.at_<=1800000):
  Calls prog 209 #[.pointer (some ⟨b,0,none⟩)] w fun e w'=>e=.returned (.tuple #[.int .i64 (zAM s (r.at_+1)).num,.bool (zAM s (r.at_+1)).ok])∧RxAt w' b s dv {r with at_:=(zAM s (r.at_+1)).at_}∧∀H,Keep H b w w':=by
 obtain⟨r1,w0,hat1,hw0,hR,hk,HFR,c2,cf2⟩:=zL2 h;have ha1:r1.at_<=2000000:=by omega
 have ha2:r1.at_+8<=2000000:=by omega
 obtain⟨es,hes⟩:∃es,es=zAM s (r.at_+1):=⟨_,rfl⟩
 rw[<-hes];rw[<-hat1] at hes;unfold zAM zG5 zGw zJ1 at hes;have HV:=vl hes;have HX2:=zMY (b:=b) (dv:=dv) (r:=r1) (r1.at_+1) 2 hs (by omega) (by omega);have HX6:=zMY (b:=b) (dv:=dv) (r:=r1) (r1.at_+2) 6 hs (by omega) (by omega);have hk6:=zEB s (r1.at_+2) 6;have HIS:=vl fun w=>zFg w ((zAO s (r1.at_+2) (yF s (r1.at_+2) 6):Nat):Int);have HP:=zGQ (b:=b) (dv:=dv) (r:=r1) hs ha1;have HS:=zM9 (b:=b) (s:=s) (dv:=dv) (r:=r1);have hcl:=zAl s r1.at_;have HDG:=vl fun w=>zAa w (byt s r1.at_);have HLT:=vl fun w=>zFi w (byt s r1.at_);clear h hes hat1;generalize zDQ ((zAO s (r1.at_+2) (yF s (r1.at_+2) 6):Nat):Int)=ic at *;generalize zAO s (r1.at_+2) (yF s (r1.at_+2) 6)=n6 at *;generalize yF s (r1.at_+2) 6=k6 at *;generalize zAO s (r1.at_+1) (yF s (r1.at_+1) 2)=n2 at *;generalize yF s (r1.at_+1) 2=k2 at *;generalize byt s r1.at_=c at *;have HB:Hid (((k2:Int)==2)=(k2==2)):=by
  show _=_;by_cases e:k2=2
  ·rw[e];rfl
  ·rw[show (k2==2)=false by rw[gQ];exact e,gQ];omega
 go_in;apply wp_cut;intro K0 J;go_wp2;apply J.out;clear J;apply wp_cut;intro K0 J;go_wp2;apply J.out;clear J;rw[<-hw0];clear hw0 c2 cf2;rcases hn:zI s r1.at_ ⟨#[110]⟩ with _|_;rcases ht:zI s r1.at_ ⟨#[116]⟩ with _|_;rcases hx:zI s r1.at_ ⟨#[120]⟩ with _|_;rcases hu:zI s r1.at_ ⟨#[117,123]⟩ with _|_;rcases Nat.lt_or_ge c 33 with q1|q1;rotate_left;rcases Nat.lt_or_ge 126 c with q2|q2;rotate_left;rcases hdg:xF c with _|_;rcases hlt:zCi c with _|_;rotate_left 3;rcases hc:zI s (r1.at_+2+k6) ⟨#[125]⟩ with _|_;rotate_left;rcases Nat.lt_or_ge 0 k6 with q6|q6
 all_goals
  try rw[hn] at HV
  try rw[ht] at HV
  try rw[hx] at HV
  try rw[hu] at HV
  try rw[hc] at HV
  try rw[decide_eq_true q6] at HV
  try rw[decide_eq_false (Nat.not_lt.2 q6)] at HV
  try rw[decide_eq_true q1] at HV
  try rw[decide_eq_false (Nat.not_lt.2 q1)] at HV
  try rw[decide_eq_true q2] at HV
  try rw[decide_eq_false (Nat.not_lt.2 q2)] at HV
  try rw[hdg] at HV HDG
  try rw[hlt] at HV HLT
  try clear hdg
  try clear hlt
  try have i6:(k6:Int)>0:=by omega
  try have i6:(k6:Int)<=0:=by omega
  try have i1:(c:Int)<33:=by omega
  try have i1:33<=(c:Int):=by omega
  try have i2:126<(c:Int):=by omega
  try have i2:(c:Int)<=126:=by omega
  go_wp2_with (first|(go_at_call 189;(first|refine(zM7 (by assumption) hR hk hs (by first|exact ha1|(show r1.at_+2+k6<=2000000;omega)) (by decide)).mono ?_|refine(zM6 (by assumption) hR hk hs (by first|exact ha1|(show r1.at_+2+k6<=2000000;omega)) (by decide)).mono ?_);rintro e v ⟨rfl,hR,hk⟩)|(go_at_call 216;(first|refine(HX2.out v hR).mono ?_|refine(HX6.out v hR).mono ?_);rintro e v ⟨rfl,hR,hk2⟩;replace hk:=fun H=>(hk H).trans (hk2 H))|(go_at_call 200;refine(HP.out v hR).mono ?_;rintro e w9 ⟨rfl,hw9⟩;have hw8:=hw9.symm;subst hw8;obtain⟨-,-,c2,-,-,cf⟩:=hR.cells;have cf2:=cf 2;clear cf)|(go_at_call 191;refine(HIS.out _).mono ?_;rintro e w9 ⟨rfl,hw9⟩;have hw8:=hw9.symm;subst hw8)|(go_at_call 206;refine(HDG.out _).mono ?_;rintro e w9 ⟨rfl,hw9⟩;have hw8:=hw9.symm;subst hw8)|(go_at_call 217;refine(HLT.out _).mono ?_;rintro e w9 ⟨rfl,hw9⟩;have hw8:=hw9.symm;subst hw8))
  refine bodyPost_ret (results_tmp2 rfl _ _ _) rfl ?_
  first
  |exact⟨by rw[HV.out];rfl,by rw[HV.out,<-HFR.out];exact hR,fun H=>hk H⟩
  |exact⟨by rw[HV.out,HB.out];rfl,by rw[HV.out,<-HFR.out];exact hR,fun H=>hk H⟩
  |exact⟨by rw[HV.out];first|rfl|(simp;done),by rw[HV.out,<-HFR.out];exact HS.out _ hR,fun H=>(hk H).trans (Keep.set _ _ _)⟩
def zEz (c:Nat):Bool:=c==91||c==93||c==94||c==45|| !isPrintedB c
def xE (s:ByteArray)(p:Nat):Sg:=if byt s p=92 then zAM s (p+1) else if zEz (byt s p) then⟨0,false,p⟩ else⟨(byt s p:Nat),true,p+1⟩
theorem zC4 (w:World)(b:Nat)(s:ByteArray)(dv:Value)(r:Rx)(h:RxAt w b s dv r)(hs:s.size<=1048576)(ha:r.at_<=1800000):
  Calls prog 219 #[.pointer (some ⟨b,0,none⟩)] w fun e w'=>e=.returned (.tuple #[.int .i64 (xE s r.at_).num,.bool (xE s r.at_).ok])∧RxAt w' b s dv {r with at_:=(xE s r.at_).at_}∧∀H,Keep H b w w':=by
 obtain⟨-,-,c2,-,-,cf⟩:=h.cells;have cf2:=cf 2;have HR:=vl h;have HP0:=vl <| qD w b s dv r h hs (by omega) 0 (by omega);have HES:=vl <| zBu w b s dv r h hs ha;have HV:Hid (xE s r.at_=if byt s r.at_=92 then zAM s (r.at_+1) else if zEz (byt s r.at_) then⟨0,false,r.at_⟩ else⟨(byt s r.at_:Nat),true,r.at_+1⟩):=rfl;have hlt:=zAl s r.at_;generalize byt s r.at_=c at *;generalize zAM s (r.at_+1)=es at *;generalize xE s r.at_=si at *;by_cases h1:c=92
 ·subst h1
  have HV2:Hid (si=es):=by show _=_;rw[HV.out,if_pos rfl]
  go_in;go_wp2_with (first|(go_at_call 200;refine HP0.out.mono ?_;rintro e w9 ⟨rfl,hw9⟩;have hw8:=hw9.symm;subst hw8)|(go_at_call 209;refine HES.out.mono ?_;rintro e w2 ⟨rfl,hR2,hk2⟩))
  refine bodyPost_ret (results_tmp2 rfl _ _ _) rfl ?_;exact⟨by rw[HV2.out];rfl,by rw[HV2.out];exact hR2,hk2⟩
 by_cases hq:c=91∨c=93∨c=94∨c=45
 ·rcases hq with rfl|rfl|rfl|rfl
  all_goals
   have HV2:Hid (si=⟨0,false,r.at_⟩):=by show _=_;rw[HV.out,if_neg (by decide),if_pos (by decide)]
   go_in;go_wp2_with (first|(go_at_call 200;refine HP0.out.mono ?_;rintro e w9 ⟨rfl,hw9⟩;have hw8:=hw9.symm;subst hw8))
   refine bodyPost_ret (results_tmp2 rfl _ _ _) rfl ?_;exact⟨by rw[HV2.out];rfl,by rw[HV2.out];exact HR.out,fun H=>Keep.refl _ _ _⟩
 have h91:c≠91:=by omega
 have h93:c≠93:=by omega
 have h94:c≠94:=by omega
 have h45:c≠45:=by omega
 have HPR0:Hid (∀w,Calls prog 218 #[.int .u8 (c:Int)] w fun e w'=>e=.returned (.bool (isPrintedB c))∧w'=w):=fun w=>zBE w c;have HB:Hid (zEz c= !isPrintedB c):=by
  show _=_;unfold zEz;rw[show (c==91)=false by rw[gQ];exact h91,show(c==93)=false by rw[gQ];exact h93,show(c==94)=false by rw[gQ];exact h94,show(c==45)=false by rw[gQ];exact h45];rfl
 have e1:((c:Int)==92)=false:=by rw[gQ];omega
 have e2:((c:Int)==91)=false:=by rw[gQ];omega
 have e3:((c:Int)==93)=false:=by rw[gQ];omega
 have e4:((c:Int)==94)=false:=by rw[gQ];omega
 have e5:((c:Int)==45)=false:=by rw[gQ];omega
 cases hp:isPrintedB c with
 |false=>
  have HV2:Hid (si=⟨0,false,r.at_⟩):=by show _=_;rw[HV.out,if_neg h1,if_pos (by rw[HB.out,hp];rfl)]
  rw[hp] at HPR0;have HPR:=vl HPR0.out;go_in;go_wp2_with (first|(go_at_call 200;refine HP0.out.mono ?_;rintro e w9 ⟨rfl,hw9⟩;have hw8:=hw9.symm;subst hw8)|(go_at_call 218;refine(HPR.out _).mono ?_;rintro e w9 ⟨rfl,hw9⟩;have hw8:=hw9.symm;subst hw8))
  refine bodyPost_ret (results_tmp2 rfl _ _ _) rfl ?_;exact⟨by rw[HV2.out];rfl,by rw[HV2.out];exact HR.out,fun H=>Keep.refl _ _ _⟩
 |true=>
  have HV2:Hid (si=⟨(c:Nat),true,r.at_+1⟩):=by show _=_;rw[HV.out,if_neg h1,if_neg (by rw[HB.out,hp];decide)]
  rw[hp] at HPR0;have HPR:=vl HPR0.out;have HS:Hid (RxAt (w.setCell ⟨b,2,none⟩ (.int .i64 ((r.at_:Int)+1))) b s dv {r with at_:=r.at_+1}):=by
   have h5:=HR.out.setAt (r.at_+1);rw[show ((r.at_+1:Nat):Int)=(r.at_:Int)+1 by omega] at h5;exact h5
  go_in;go_wp2_with (first|(go_at_call 200;refine HP0.out.mono ?_;rintro e w9 ⟨rfl,hw9⟩;have hw8:=hw9.symm;subst hw8)|(go_at_call 218;refine(HPR.out _).mono ?_;rintro e w9 ⟨rfl,hw9⟩;have hw8:=hw9.symm;subst hw8))
  refine bodyPost_ret (results_tmp2 rfl _ _ _) rfl ?_;exact⟨by rw[HV2.out];first|rfl|(simp;done),by rw[HV2.out];exact HS.out,fun H=>Keep.set _ _ _⟩
structure Mb where
 low:Int
 high:Int
 ok:Bool
 at_:Nat
def toM (a e:Sg):Mb:=⟨a.num,e.num,e.ok&&decide (a.num<=e.num),e.at_⟩
def yE (s:ByteArray)(p:Nat):Mb:=if(xE s p).ok&&zI s (xE s p).at_ ⟨#[45]⟩ then toM (xE s p) (xE s ((xE s p).at_+1)) else⟨(xE s p).num,(xE s p).num,(xE s p).ok,(xE s p).at_⟩
theorem zHR (w0 w:World)(b q:Nat)(s:ByteArray)(dv:Value)(r:Rx)(lo hi:Int)(hq:w0.heap.size=q)(h:RxAt w b s dv r)(hb:b≠q)(hB:∃x y,w.heap[q]? =some (.cells #[x,y] 255))(hk:Keep w0.heap.size b w0 w):
  ∃w2,w2=(w.setCell ⟨q,0,none⟩ (.int .i64 lo)).setCell ⟨q,1,none⟩ (.int .i64 hi)∧w2.cell? ⟨q,0,none⟩=some (.int .i64 lo)∧w2.cell? ⟨q,1,none⟩=some (.int .i64 hi)∧Hid (RxAt w2 b s dv r∧Keep w0.heap.size b w0 w2):=by
 obtain⟨x,y,hB⟩:=hB;have h2:((w.setCell ⟨q,0,none⟩ (.int .i64 lo)).setCell ⟨q,1,none⟩ (.int .i64 hi)).heap[q]? =some (.cells #[.int .i64 lo,.int .i64 hi] 255):=by
  simp[setCell,lU,hB]
 have hne:∀i,i≠q->((w.setCell ⟨q,0,none⟩ (.int .i64 lo)).setCell ⟨q,1,none⟩ (.int .i64 hi)).heap[i]? =w.heap[i]? :=fun i hi2=>by
  simp[setCell,lU,Ne.symm hi2]
 refine⟨_,rfl,?_,?_,RxAt.of_block h (hne b hb),hk.trans ⟨rfl,rfl,by simp[World.setCell],fun k h1 _=>hne k (by omega)⟩⟩
 ·unfold cell?;rw[h2];rfl
 ·unfold cell?;rw[h2];rfl
theorem zFA {w:World}{q:Nat}(h:∃x y,w.heap[q]? =some (.cells #[x,y] 255)):(∀i,w.frozen? ⟨q,i,none⟩=false)∧∃x y,w.cell? ⟨q,0,none⟩=some x∧w.cell? ⟨q,1,none⟩=some y:=by
 obtain⟨x,y,h⟩:=h;refine⟨fun i=>?_,x,y,?_,?_⟩
 all_goals first|(unfold cell?;rw[h];rfl)|(unfold frozen?;rw[h];simp)
theorem zGX (w:World)(b:Nat)(s:ByteArray)(dv:Value)(r:Rx)(h:RxAt w b s dv r)(hs:s.size<=1048576)(ha:r.at_<=1700000)(hp1:(xE s r.at_).at_<=1700000):
  Calls prog 215 #[.pointer (some ⟨b,0,none⟩)] w fun e w'=>e=.returned (.tuple #[.agg #[.int .i64 (yE s r.at_).low,.int .i64 (yE s r.at_).high],.bool (yE s r.at_).ok])∧RxAt w' b s dv {r with at_:=(yE s r.at_).at_}∧Keep w.heap.size b w w':=by
 obtain⟨w0,hw0,hR0,hB0,J⟩:∃w0,w0=w.alloc (.cells #[.int .i64 0,.int .i64 0] 255)∧RxAt w0 b s dv r∧w0.heap[w.heap.size]? =some (.cells #[.int .i64 0,.int .i64 0] 255)∧Hid (Keep w.heap.size b w w0):=⟨_,rfl,RxAt.of_block h (lG _ _ _ h.lt),gG _ _,kZ _ _ lQ⟩
 have hbq:b≠w.heap.size:=kJ h.lt;have hq0:w.heap.size<w0.heap.size:=(kQ.1 hB0).1;have HBB:Hid (∀w9,(∀H,Keep H b w0 w9)->∃x y,w9.heap[w.heap.size]? =some (.cells #[x,y] 255)):=fun w9 hk=>⟨_,_,((hk w0.heap.size).block _ hq0 (Ne.symm hbq)).trans hB0⟩
 have HS1:=vl <| zC4 w0 b s dv r hR0 hs (by omega);have HS2:=vl fun(w2:World) (h9:RxAt w2 b s dv {r with at_:=(xE s r.at_).at_+1})=>zC4 w2 b s dv {r with at_:=(xE s r.at_).at_+1} h9 hs (by show(xE s r.at_).at_+1<=1800000;omega);have HV:Hid (yE s r.at_=if(xE s r.at_).ok&&zI s (xE s r.at_).at_ ⟨#[45]⟩ then toM (xE s r.at_) (xE s ((xE s r.at_).at_+1)) else⟨(xE s r.at_).num,(xE s r.at_).num,(xE s r.at_).ok,(xE s r.at_).at_⟩):=rfl;have HST:=vl fun(w9:World) (r9:Rx) (lo hi:Int) (h9:RxAt w9 b s dv r9) (hk9:∀H,Keep H b w0 w9)=>zHR w w9 b w.heap.size s dv r9 lo hi rfl h9 hbq (HBB.out w9 hk9) (J.out.trans (hk9 _));go_in;apply wp_cut;intro K0 HK9;go_wp2;apply HK9.out;rw[<-hw0];clear hw0;generalize yE s r.at_=mm at *;generalize xE s ((xE s r.at_).at_+1)=s2 at *;generalize xE s r.at_=s1 at *;rcases h1:s1.ok with _|_;rotate_left;rcases h2:zI s s1.at_ ⟨#[45]⟩ with _|_;rotate_left;rcases h3:s2.ok with _|_;rotate_left;rcases h4:decide (s1.num<=s2.num) with _|_
 all_goals
  rw[h1] at HS1 HV;clear h1
  try rw[h2] at HV
  try unfold toM at HV
  try rw[h3] at HS2 HV
  try clear h3
  try have h44:=of_decide_eq_true h4
  try have h44:s2.num<s1.num:=by have:=of_decide_eq_false h4;omega
  try rw[h4] at HV
  try clear h4
  go_wp2_with (((first|(go_at_call 219;first|(have m2:=mark1;refine(HS2.out v hR).mono ?_;rintro e v ⟨rfl,hR,hk2⟩;replace hk:=fun H=>(hk H).trans (hk2 H))|(refine HS1.out.mono ?_;rintro e v ⟨rfl,hR,hk⟩;have mark1:=trivial))|(go_at_call 189;(first|refine(zM5 (by assumption) hR hk hs (by omega)).mono ?_|refine(zM4 (by assumption) hR hk hs (by omega)).mono ?_);rintro e v ⟨rfl,hR,hk⟩)));obtain⟨hf,x0,x1,y0,y1⟩:=zFA (HBB.out v hk);have hf0:=hf 0;have hf1:=hf 1;clear hf)
  first
  |(obtain ⟨w9,hw9,z0,z1,HZ⟩:=HST.out v _ s1.num s1.num hR hk;rw[<-hw9];refine bodyPost_ret (v:=.tuple #[.agg #[.int .i64 s1.num,.int .i64 s1.num],.bool false]) (by simp[results,results215,go_sem,z0,z1];done) rfl ?_;exact⟨by rw[HV.out];rfl,by rw[HV.out];exact HZ.out.1,HZ.out.2⟩)
  |(obtain ⟨w9,hw9,z0,z1,HZ⟩:=HST.out v _ s1.num s1.num hR hk;rw[<-hw9];refine bodyPost_ret (v:=.tuple #[.agg #[.int .i64 s1.num,.int .i64 s1.num],.bool true]) (by simp[results,results215,go_sem,z0,z1];done) rfl ?_;exact⟨by rw[HV.out];rfl,by rw[HV.out];exact HZ.out.1,HZ.out.2⟩)
  |(obtain ⟨w9,hw9,z0,z1,HZ⟩:=HST.out v _ s1.num s2.num hR hk;rw[<-hw9];refine bodyPost_ret (v:=.tuple #[.agg #[.int .i64 s1.num,.int .i64 s2.num],.bool false]) (by first|(simp [results,results215,go_sem,z0,z1];done)|(simp [results,results215,go_sem,z0,z1];omega)) rfl ?_;exact⟨by rw[HV.out];rfl,by rw[HV.out];exact HZ.out.1,HZ.out.2⟩)
  |(obtain ⟨w9,hw9,z0,z1,HZ⟩:=HST.out v _ s1.num s2.num hR hk;rw[<-hw9];refine bodyPost_ret (v:=.tuple #[.agg #[.int .i64 s1.num,.int .i64 s2.num],.bool true]) (by first|(simp [results,results215,go_sem,z0,z1];done)|(simp [results,results215,go_sem,z0,z1];omega)) rfl ?_;exact⟨by rw[HV.out];rfl,by rw[HV.out];exact HZ.out.1,HZ.out.2⟩)
end Go.Proofs.YtbjcfkdnjaiclaaGreat
