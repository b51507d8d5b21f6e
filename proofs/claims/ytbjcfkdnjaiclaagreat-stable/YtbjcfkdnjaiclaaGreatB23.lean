import Derived.Deep.DrawnRows
import Derived.Deep.RegionLaw
import Derived.Test.YtbjcfkdnjaiclaaGreatB0
import Derived.Test.YtbjcfkdnjaiclaaGreatB22
/- Parts of the proof, in order. -/
set_option linter.unusedVariables false
set_option linter.unusedSimpArgs false
set_option maxHeartbeats 4000000
set_option maxRecDepth 100000
namespace Go.Proofs.YtbjcfkdnjaiclaaGreat
open Go.RowKit Go.Proofs.Tryz Go.World
theorem zHh {s t:ByteArray}{r:Rx}(h:zI s r.at_ t=true):r.take s t={r with at_:=r.at_+t.size}:=by unfold Rx.take;rw[if_pos h]
theorem zJj {s t:ByteArray}{r:Rx}(h:zI s r.at_ t=false):r.take s t=r:=by unfold Rx.take;rw[if_neg (by rw[h];decide)]
theorem zMD {w0 w:World}{b:Nat}{s t:ByteArray}{dv:Value}{r:Rx}(hv:zI s r.at_ t=true)(h:RxAt w b s dv r)(hk:∀H,Keep H b w0 w)(hs:s.size<=1048576)(ha:r.at_<=2000000)(ht:t.size<=1000000):
  Calls prog 189 #[.pointer (some ⟨b,0,none⟩),.string t] w fun e w'=>e=.returned (.bool true)∧RxAt w' b s dv {r with at_:=r.at_+t.size}∧∀H,Keep H b w0 w':=by
 refine(jB w b s dv r h hs ha t ht).mono ?_;rintro e w' ⟨rfl,h1,h2⟩;rw[zHh hv] at h1;exact⟨by rw[hv],h1,fun H=>(hk H).trans (h2 H)⟩
theorem zME {w0 w:World}{b:Nat}{s t:ByteArray}{dv:Value}{r:Rx}(hv:zI s r.at_ t=false)(h:RxAt w b s dv r)(hk:∀H,Keep H b w0 w)(hs:s.size<=1048576)(ha:r.at_<=2000000)(ht:t.size<=1000000):
  Calls prog 189 #[.pointer (some ⟨b,0,none⟩),.string t] w fun e w'=>e=.returned (.bool false)∧RxAt w' b s dv r∧∀H,Keep H b w0 w':=by
 refine(jB w b s dv r h hs ha t ht).mono ?_;rintro e w' ⟨rfl,h1,h2⟩;rw[zJj hv] at h1;exact⟨by rw[hv],h1,fun H=>(hk H).trans (h2 H)⟩
theorem zIs {b:Nat}{s:ByteArray}{dv:Value}{r:Rx}{x y:Nat}{v:Bool}{t:ByteArray}(hv:zI s x t=v)(hs:s.size<=1048576)(hx:x<=2000000)(ht:t.size<=1000000)(hy:y=if v then x+t.size else x):Hid (∀w,RxAt w b s dv {r with at_:=x}->Calls prog 189 #[.pointer (some ⟨b,0,none⟩),.string t] w fun e w'=>e=.returned (.bool v)∧RxAt w' b s dv {r with at_:=y}∧∀H,Keep H b w w'):=fun w h=>by
 subst hy;cases v with
 |true=>exact zMD (r:={r with at_:=x}) hv h (fun H=>Keep.refl _ _ _) hs hx ht
 |false=>exact zME (r:={r with at_:=x}) hv h (fun H=>Keep.refl _ _ _) hs hx ht
theorem jT {w:World}{b:Nat}{s:ByteArray}{dv:Value}{r:Rx}{x y:Nat}{v:Bool}(t:ByteArray)(hs:s.size<=1048576)(hx:x<=2000000)(ht:t.size<=1000000)(hv:zI s x t=v)(hy:y=if v then x+t.size else x)(h:RxAt w b s dv {r with at_:=x}):
  Calls prog 189 #[.pointer (some ⟨b,0,none⟩),.string t] w fun e w'=>e=.returned (.bool v)∧RxAt w' b s dv {r with at_:=y}∧∀H,Keep H b w w':=(zIs hv hs hx ht hy).out w h
theorem zMB {w0 w:World}{b x:Nat}{s:ByteArray}{c:UInt8}{dv:Value}{r:Rx}(hv:zI s x ⟨#[c]⟩=true)(h:RxAt w b s dv {r with at_:=x})(hk:∀H,Keep H b w0 w)(hs:s.size<=1048576)(ha:x<=2000000):
  Calls prog 189 #[.pointer (some ⟨b,0,none⟩),.string ⟨#[c]⟩] w fun e w'=>e=.returned (.bool true)∧RxAt w' b s dv {r with at_:=x+1}∧∀H,Keep H b w0 w':=zMD (r:={r with at_:=x}) hv h hk hs ha (by show 1<=1000000;decide)
theorem zMC {w0 w:World}{b x:Nat}{s:ByteArray}{c:UInt8}{dv:Value}{r:Rx}(hv:zI s x ⟨#[c]⟩=false)(h:RxAt w b s dv {r with at_:=x})(hk:∀H,Keep H b w0 w)(hs:s.size<=1048576)(ha:x<=2000000):
  Calls prog 189 #[.pointer (some ⟨b,0,none⟩),.string ⟨#[c]⟩] w fun e w'=>e=.returned (.bool false)∧RxAt w' b s dv {r with at_:=x}∧∀H,Keep H b w0 w':=zME (r:={r with at_:=x}) hv h hk hs ha (by show 1<=1000000;decide)
theorem zEr (s:ByteArray)(p m:Nat):yF s p m<=m:=by
 have h:(List.range m).findIdx (fun j=>decide (vT (byt s (p+j))<0))<=(List.range m).length:=List.findIdx_le_length;rw[List.length_range] at h;exact h
theorem zMv {b:Nat}{s:ByteArray}{dv:Value}{r:Rx}(x m:Nat)(hs:s.size<=1048576)(hx:x<=1900000)(hm:m<=6):Hid (∀w,RxAt w b s dv {r with at_:=x}->Calls prog 216 #[.pointer (some ⟨b,0,none⟩),.int .i64 (m:Int)] w fun e w'=>e=.returned (.tuple #[.int .i64 (zAK s x (yF s x m):Nat),.int .i64 (yF s x m:Nat)])∧RxAt w' b s dv {r with at_:=x+yF s x m}∧∀H,Keep H b w w'):=fun w h=>zKo w b s dv _ h hs hx m hm
theorem zGD {b:Nat}{s:ByteArray}{dv:Value}{r:Rx}(hs:s.size<=1048576)(ha:r.at_<=2000000):Hid (∀w,RxAt w b s dv r->Calls prog 200 #[.pointer (some ⟨b,0,none⟩),.int .i64 0] w fun e w'=>e=.returned (.int .u8 (byt s r.at_:Nat))∧w'=w):=fun w h=>qC w b s dv r h hs ha 0 (by omega)
theorem zMG {b:Nat}{s:ByteArray}{dv:Value}{r:Rx}:Hid (∀w,RxAt w b s dv r->RxAt (w.setCell ⟨b,2,none⟩ (.int .i64 ((r.at_:Int)+1))) b s dv {r with at_:=r.at_+1}):=fun w h=>h.setAt (r.at_+1)
theorem zLD {w:World}{b:Nat}{s:ByteArray}{dv:Value}{r:Rx}(h:RxAt w b s dv r):∃r1 w0,r1.at_=r.at_+1∧w0=w.setCell ⟨b,2,none⟩ (.int .i64 ((r.at_:Int)+1))∧RxAt w0 b s dv r1∧(∀H,Keep H b w w0)∧Hid (∀q:Nat,({r1 with at_:=q}:Rx)={r with at_:=q})∧w.cell? ⟨b,2,none⟩=some (.int .i64 (r.at_:Int))∧w.frozen? ⟨b,2,none⟩=false:=by
 have h2:=h.setAt (r.at_+1);rw[show ((r.at_+1:Nat):Int)=(r.at_:Int)+1 by omega] at h2;exact⟨_,_,rfl,rfl,h2,fun H=>Keep.set _ _ _,fun q=>rfl,h.cells.2.2.1,h.cells.2.2.2.2.2 2⟩
structure Sg where
 num:Int
 ok:Bool
 at_:Nat
def zGR (s:ByteArray)(p:Nat):Sg:=⟨(zAK s p (yF s p 2):Nat),yF s p 2==2,p+yF s p 2⟩
def zGk (s:ByteArray)(p:Nat):Sg:=⟨(zAK s p (yF s p 6):Nat),zI s (p+yF s p 6) ⟨#[125]⟩&&decide (0<yF s p 6)&&zDG (zAK s p (yF s p 6):Nat),if zI s (p+yF s p 6) ⟨#[125]⟩ then p+yF s p 6+1 else p+yF s p 6⟩
def zJK (c:Nat):Bool:=decide (c<33)||decide (126<c)||xF c||zCb c
def zAJ (s:ByteArray)(p:Nat):Sg:=if zI s p ⟨#[110]⟩ then⟨10,true,p+1⟩ else if zI s p ⟨#[116]⟩ then⟨9,true,p+1⟩ else if zI s p ⟨#[120]⟩ then zGR s (p+1) else if zI s p ⟨#[117,123]⟩ then zGk s (p+2) else if zJK (byt s p) then⟨0,false,p⟩ else⟨(byt s p:Nat),true,p+1⟩
theorem zBo (w:World)(b:Nat)(s:ByteArray)(dv:Value)(r:Rx)(h:RxAt w b s dv r)(hs:s.size<=1048576)(ha:r.at_<=1800000):
  Calls prog 209 #[.pointer (some ⟨b,0,none⟩)] w fun e w'=>e=.returned (.tuple #[.int .i64 (zAJ s (r.at_+1)).num,.bool (zAJ s (r.at_+1)).ok])∧RxAt w' b s dv {r with at_:=(zAJ s (r.at_+1)).at_}∧∀H,Keep H b w w':=by
 obtain⟨r1,w0,hat1,hw0,hR,hk,HFR,c2,cf2⟩:=zLD h;have ha1:r1.at_<=2000000:=by omega
 have ha2:r1.at_+8<=2000000:=by omega
 obtain⟨es,hes⟩:∃es,es=zAJ s (r.at_+1):=⟨_,rfl⟩
 rw[<-hes];rw[<-hat1] at hes;unfold zAJ zGR zGk zJK at hes;have HV:=vl hes;have HX2:=zMv (b:=b) (dv:=dv) (r:=r1) (r1.at_+1) 2 hs (by omega) (by omega);have HX6:=zMv (b:=b) (dv:=dv) (r:=r1) (r1.at_+2) 6 hs (by omega) (by omega);have hk6:=zEr s (r1.at_+2) 6;have HIS:=vl fun w=>zE5 w ((zAK s (r1.at_+2) (yF s (r1.at_+2) 6):Nat):Int);have HP:=zGD (b:=b) (dv:=dv) (r:=r1) hs ha1;have HS:=zMG (b:=b) (s:=s) (dv:=dv) (r:=r1);have hcl:=zAi s r1.at_;have HDG:=vl fun w=>jW w (byt s r1.at_);have HLT:=vl fun w=>zE7 w (byt s r1.at_);clear h hes hat1;generalize zDG ((zAK s (r1.at_+2) (yF s (r1.at_+2) 6):Nat):Int)=ic at *;generalize zAK s (r1.at_+2) (yF s (r1.at_+2) 6)=n6 at *;generalize yF s (r1.at_+2) 6=k6 at *;generalize zAK s (r1.at_+1) (yF s (r1.at_+1) 2)=n2 at *;generalize yF s (r1.at_+1) 2=k2 at *;generalize byt s r1.at_=c at *;have HB:Hid (((k2:Int)==2)=(k2==2)):=by
  show _=_;by_cases e:k2=2
  ·rw[e];rfl
  ·rw[show (k2==2)=false by rw[beq_eq_false_iff_ne];exact e,beq_eq_false_iff_ne];omega
 go_in;refine wp_cut ?_;intro K0 HK0;go_wp2;refine HK0.out _ _ ?_;clear HK0;refine wp_cut ?_;intro K0 HK0;go_wp2;refine HK0.out _ _ ?_;clear HK0;rw[<-hw0];clear hw0 c2 cf2;rcases hn:zI s r1.at_ ⟨#[110]⟩ with _|_;rcases ht:zI s r1.at_ ⟨#[116]⟩ with _|_;rcases hx:zI s r1.at_ ⟨#[120]⟩ with _|_;rcases hu:zI s r1.at_ ⟨#[117,123]⟩ with _|_;rcases Nat.lt_or_ge c 33 with q1|q1;rotate_left;rcases Nat.lt_or_ge 126 c with q2|q2;rotate_left;rcases hdg:xF c with _|_;rcases hlt:zCb c with _|_;rotate_left 3;rcases hc:zI s (r1.at_+2+k6) ⟨#[125]⟩ with _|_;rotate_left;rcases Nat.lt_or_ge 0 k6 with q6|q6
 all_goals
  try rw[hn] at HV
  try rw[ht] at HV
  try rw[hx] at HV
  try rw[hu] at HV
  try rw[hc] at HV
  try rw[decide_eq_true q6] at HV
  try rw[decide_eq_false (Nat.not_lt.2 q6)] at HV
  try rw[decide_eq_true q1] at HV
  try rw[decide_eq_false (Nat.not_lt.2 q1)] at HV
  try rw[decide_eq_true q2] at HV
  try rw[decide_eq_false (Nat.not_lt.2 q2)] at HV
  try rw[hdg] at HV HDG
  try rw[hlt] at HV HLT
  try clear hdg
  try clear hlt
  try have i6:(k6:Int)>0:=by omega
  try have i6:(k6:Int)<=0:=by omega
  try have i1:(c:Int)<33:=by omega
  try have i1:33<=(c:Int):=by omega
  try have i2:126<(c:Int):=by omega
  try have i2:(c:Int)<=126:=by omega
  go_wp2_with (first|(go_at_call 189;(first|refine(zME (by assumption) hR hk hs (by first|exact ha1|(show r1.at_+2+k6<=2000000;omega)) (by decide)).mono ?_|refine(zMD (by assumption) hR hk hs (by first|exact ha1|(show r1.at_+2+k6<=2000000;omega)) (by decide)).mono ?_);rintro e v ⟨rfl,hR,hk⟩)|(go_at_call 216;(first|refine(HX2.out v hR).mono ?_|refine(HX6.out v hR).mono ?_);rintro e v ⟨rfl,hR,hk2⟩;replace hk:=fun H=>(hk H).trans (hk2 H))|(go_at_call 200;refine(HP.out v hR).mono ?_;rintro e w9 ⟨rfl,hw9⟩;have hw8:=hw9.symm;subst hw8;obtain⟨-,-,c2,-,-,cf⟩:=hR.cells;have cf2:=cf 2;clear cf)|(go_at_call 191;refine(HIS.out _).mono ?_;rintro e w9 ⟨rfl,hw9⟩;have hw8:=hw9.symm;subst hw8)|(go_at_call 206;refine(HDG.out _).mono ?_;rintro e w9 ⟨rfl,hw9⟩;have hw8:=hw9.symm;subst hw8)|(go_at_call 217;refine(HLT.out _).mono ?_;rintro e w9 ⟨rfl,hw9⟩;have hw8:=hw9.symm;subst hw8))
  refine bodyPost_ret (results_tmp2 rfl _ _ _) rfl ?_
  first
  |exact⟨by rw[HV.out];rfl,by rw[HV.out,<-HFR.out];exact hR,fun H=>hk H⟩
  |exact⟨by rw[HV.out,HB.out];rfl,by rw[HV.out,<-HFR.out];exact hR,fun H=>hk H⟩
  |exact⟨by rw[HV.out];first|rfl|(simp;done),by rw[HV.out,<-HFR.out];exact HS.out _ hR,fun H=>(hk H).trans (Keep.set _ _ _)⟩
def zEp (c:Nat):Bool:=c==91||c==93||c==94||c==45|| !isPrintedB c
def xE (s:ByteArray)(p:Nat):Sg:=if byt s p=92 then zAJ s (p+1) else if zEp (byt s p) then⟨0,false,p⟩ else⟨(byt s p:Nat),true,p+1⟩
theorem zCX (w:World)(b:Nat)(s:ByteArray)(dv:Value)(r:Rx)(h:RxAt w b s dv r)(hs:s.size<=1048576)(ha:r.at_<=1800000):
  Calls prog 219 #[.pointer (some ⟨b,0,none⟩)] w fun e w'=>e=.returned (.tuple #[.int .i64 (xE s r.at_).num,.bool (xE s r.at_).ok])∧RxAt w' b s dv {r with at_:=(xE s r.at_).at_}∧∀H,Keep H b w w':=by
 obtain⟨-,-,c2,-,-,cf⟩:=h.cells;have cf2:=cf 2;have HR:=vl h;have HP0:=vl <| qC w b s dv r h hs (by omega) 0 (by omega);have HES:=vl <| zBo w b s dv r h hs ha;have HV:Hid (xE s r.at_=if byt s r.at_=92 then zAJ s (r.at_+1) else if zEp (byt s r.at_) then⟨0,false,r.at_⟩ else⟨(byt s r.at_:Nat),true,r.at_+1⟩):=rfl;have hlt:=zAi s r.at_;generalize byt s r.at_=c at *;generalize zAJ s (r.at_+1)=es at *;generalize xE s r.at_=si at *;by_cases h1:c=92
 ·subst h1
  have HV2:Hid (si=es):=by show _=_;rw[HV.out,if_pos rfl]
  go_in;go_wp2_with (first|(go_at_call 200;refine HP0.out.mono ?_;rintro e w9 ⟨rfl,hw9⟩;have hw8:=hw9.symm;subst hw8)|(go_at_call 209;refine HES.out.mono ?_;rintro e w2 ⟨rfl,hR2,hk2⟩))
  refine bodyPost_ret (results_tmp2 rfl _ _ _) rfl ?_;exact⟨by rw[HV2.out];rfl,by rw[HV2.out];exact hR2,hk2⟩
 by_cases hq:c=91∨c=93∨c=94∨c=45
 ·rcases hq with rfl|rfl|rfl|rfl
  all_goals
   have HV2:Hid (si=⟨0,false,r.at_⟩):=by show _=_;rw[HV.out,if_neg (by decide),if_pos (by decide)]
   go_in;go_wp2_with (first|(go_at_call 200;refine HP0.out.mono ?_;rintro e w9 ⟨rfl,hw9⟩;have hw8:=hw9.symm;subst hw8))
   refine bodyPost_ret (results_tmp2 rfl _ _ _) rfl ?_;exact⟨by rw[HV2.out];rfl,by rw[HV2.out];exact HR.out,fun H=>Keep.refl _ _ _⟩
 have h91:c≠91:=by omega
 have h93:c≠93:=by omega
 have h94:c≠94:=by omega
 have h45:c≠45:=by omega
 have HPR0:Hid (∀w,Calls prog 218 #[.int .u8 (c:Int)] w fun e w'=>e=.returned (.bool (isPrintedB c))∧w'=w):=fun w=>zBx w c;have HB:Hid (zEp c= !isPrintedB c):=by
  show _=_;unfold zEp;rw[show (c==91)=false by rw[beq_eq_false_iff_ne];exact h91,show(c==93)=false by rw[beq_eq_false_iff_ne];exact h93,show(c==94)=false by rw[beq_eq_false_iff_ne];exact h94,show(c==45)=false by rw[beq_eq_false_iff_ne];exact h45];rfl
 have e1:((c:Int)==92)=false:=by rw[beq_eq_false_iff_ne];omega
 have e2:((c:Int)==91)=false:=by rw[beq_eq_false_iff_ne];omega
 have e3:((c:Int)==93)=false:=by rw[beq_eq_false_iff_ne];omega
 have e4:((c:Int)==94)=false:=by rw[beq_eq_false_iff_ne];omega
 have e5:((c:Int)==45)=false:=by rw[beq_eq_false_iff_ne];omega
 cases hp:isPrintedB c with
 |false=>
  have HV2:Hid (si=⟨0,false,r.at_⟩):=by show _=_;rw[HV.out,if_neg h1,if_pos (by rw[HB.out,hp];rfl)]
  rw[hp] at HPR0;have HPR:=vl HPR0.out;go_in;go_wp2_with (first|(go_at_call 200;refine HP0.out.mono ?_;rintro e w9 ⟨rfl,hw9⟩;have hw8:=hw9.symm;subst hw8)|(go_at_call 218;refine(HPR.out _).mono ?_;rintro e w9 ⟨rfl,hw9⟩;have hw8:=hw9.symm;subst hw8))
  refine bodyPost_ret (results_tmp2 rfl _ _ _) rfl ?_;exact⟨by rw[HV2.out];rfl,by rw[HV2.out];exact HR.out,fun H=>Keep.refl _ _ _⟩
 |true=>
  have HV2:Hid (si=⟨(c:Nat),true,r.at_+1⟩):=by show _=_;rw[HV.out,if_neg h1,if_neg (by rw[HB.out,hp];decide)]
  rw[hp] at HPR0;have HPR:=vl HPR0.out;have HS:Hid (RxAt (w.setCell ⟨b,2,none⟩ (.int .i64 ((r.at_:Int)+1))) b s dv {r with at_:=r.at_+1}):=by
   have h5:=HR.out.setAt (r.at_+1);rw[show ((r.at_+1:Nat):Int)=(r.at_:Int)+1 by omega] at h5;exact h5
  go_in;go_wp2_with (first|(go_at_call 200;refine HP0.out.mono ?_;rintro e w9 ⟨rfl,hw9⟩;have hw8:=hw9.symm;subst hw8)|(go_at_call 218;refine(HPR.out _).mono ?_;rintro e w9 ⟨rfl,hw9⟩;have hw8:=hw9.symm;subst hw8))
  refine bodyPost_ret (results_tmp2 rfl _ _ _) rfl ?_;exact⟨by rw[HV2.out];first|rfl|(simp;done),by rw[HV2.out];exact HS.out,fun H=>Keep.set _ _ _⟩
structure Mb where
 low:Int
 high:Int
 ok:Bool
 at_:Nat
def toM (a e:Sg):Mb:=⟨a.num,e.num,e.ok&&decide (a.num<=e.num),e.at_⟩
def yE (s:ByteArray)(p:Nat):Mb:=if(xE s p).ok&&zI s (xE s p).at_ ⟨#[45]⟩ then toM (xE s p) (xE s ((xE s p).at_+1)) else⟨(xE s p).num,(xE s p).num,(xE s p).ok,(xE s p).at_⟩
theorem zHD (w0 w:World)(b q:Nat)(s:ByteArray)(dv:Value)(r:Rx)(lo hi:Int)(hq:w0.heap.size=q)(h:RxAt w b s dv r)(hb:b≠q)(hB:∃x y,w.heap[q]? =some (.cells #[x,y] 255))(hk:Keep w0.heap.size b w0 w):
  ∃w2,w2=(w.setCell ⟨q,0,none⟩ (.int .i64 lo)).setCell ⟨q,1,none⟩ (.int .i64 hi)∧w2.cell? ⟨q,0,none⟩=some (.int .i64 lo)∧w2.cell? ⟨q,1,none⟩=some (.int .i64 hi)∧Hid (RxAt w2 b s dv r∧Keep w0.heap.size b w0 w2):=by
 obtain⟨x,y,hB⟩:=hB;have h2:((w.setCell ⟨q,0,none⟩ (.int .i64 lo)).setCell ⟨q,1,none⟩ (.int .i64 hi)).heap[q]? =some (.cells #[.int .i64 lo,.int .i64 hi] 255):=by
  simp[setCell,Array.getElem?_modify,hB]
 have hne:∀i,i≠q->((w.setCell ⟨q,0,none⟩ (.int .i64 lo)).setCell ⟨q,1,none⟩ (.int .i64 hi)).heap[i]? =w.heap[i]? :=fun i hi2=>by
  simp[setCell,Array.getElem?_modify,Ne.symm hi2]
 refine⟨_,rfl,?_,?_,RxAt.of_block h (hne b hb),hk.trans ⟨rfl,rfl,by simp[World.setCell],fun k h1 _=>hne k (by omega)⟩⟩
 ·unfold cell?;rw[h2];rfl
 ·unfold cell?;rw[h2];rfl
theorem zFm {w:World}{q:Nat}(h:∃x y,w.heap[q]? =some (.cells #[x,y] 255)):(∀i,w.frozen? ⟨q,i,none⟩=false)∧∃x y,w.cell? ⟨q,0,none⟩=some x∧w.cell? ⟨q,1,none⟩=some y:=by
 obtain⟨x,y,h⟩:=h;refine⟨fun i=>?_,x,y,?_,?_⟩
 all_goals first|(unfold cell?;rw[h];rfl)|(unfold frozen?;rw[h];simp)
theorem zGJ (w:World)(b:Nat)(s:ByteArray)(dv:Value)(r:Rx)(h:RxAt w b s dv r)(hs:s.size<=1048576)(ha:r.at_<=1700000)(hp1:(xE s r.at_).at_<=1700000):
  Calls prog 215 #[.pointer (some ⟨b,0,none⟩)] w fun e w'=>e=.returned (.tuple #[.agg #[.int .i64 (yE s r.at_).low,.int .i64 (yE s r.at_).high],.bool (yE s r.at_).ok])∧RxAt w' b s dv {r with at_:=(yE s r.at_).at_}∧Keep w.heap.size b w w':=by
 obtain⟨w0,hw0,hR0,hB0,HK0⟩:∃w0,w0=w.alloc (.cells #[.int .i64 0,.int .i64 0] 255)∧RxAt w0 b s dv r∧w0.heap[w.heap.size]? =some (.cells #[.int .i64 0,.int .i64 0] 255)∧Hid (Keep w.heap.size b w w0):=⟨_,rfl,RxAt.of_block h (Below.heap_alloc _ _ _ h.lt),heap_alloc_new _ _,Keep.alloc _ _ (Nat.le_refl _)⟩
 have hbq:b≠w.heap.size:=Nat.ne_of_lt h.lt;have hq0:w.heap.size<w0.heap.size:=(Array.getElem?_eq_some_iff.1 hB0).1;have HBB:Hid (∀w9,(∀H,Keep H b w0 w9)->∃x y,w9.heap[w.heap.size]? =some (.cells #[x,y] 255)):=fun w9 hk=>⟨_,_,((hk w0.heap.size).block _ hq0 (Ne.symm hbq)).trans hB0⟩
 have HS1:=vl <| zCX w0 b s dv r hR0 hs (by omega);have HS2:=vl fun(w2:World) (h9:RxAt w2 b s dv {r with at_:=(xE s r.at_).at_+1})=>zCX w2 b s dv {r with at_:=(xE s r.at_).at_+1} h9 hs (by show(xE s r.at_).at_+1<=1800000;omega);have HV:Hid (yE s r.at_=if(xE s r.at_).ok&&zI s (xE s r.at_).at_ ⟨#[45]⟩ then toM (xE s r.at_) (xE s ((xE s r.at_).at_+1)) else⟨(xE s r.at_).num,(xE s r.at_).num,(xE s r.at_).ok,(xE s r.at_).at_⟩):=rfl;have HST:=vl fun(w9:World) (r9:Rx) (lo hi:Int) (h9:RxAt w9 b s dv r9) (hk9:∀H,Keep H b w0 w9)=>zHD w w9 b w.heap.size s dv r9 lo hi rfl h9 hbq (HBB.out w9 hk9) (HK0.out.trans (hk9 _));go_in;refine wp_cut ?_;intro K0 HK9;go_wp2;refine HK9.out _ _ ?_;rw[<-hw0];clear hw0;generalize yE s r.at_=mm at *;generalize xE s ((xE s r.at_).at_+1)=s2 at *;generalize xE s r.at_=s1 at *;rcases h1:s1.ok with _|_;rotate_left;rcases h2:zI s s1.at_ ⟨#[45]⟩ with _|_;rotate_left;rcases h3:s2.ok with _|_;rotate_left;rcases h4:decide (s1.num<=s2.num) with _|_
 all_goals
  rw[h1] at HS1 HV;clear h1
  try rw[h2] at HV
  try unfold toM at HV
  try rw[h3] at HS2 HV
  try clear h3
  try have h44:=of_decide_eq_true h4
  try have h44:s2.num<s1.num:=by have:=of_decide_eq_false h4;omega
  try rw[h4] at HV
  try clear h4
  go_wp2_with (((first|(go_at_call 219;first|(have m2:=mark1;refine(HS2.out v hR).mono ?_;rintro e v ⟨rfl,hR,hk2⟩;replace hk:=fun H=>(hk H).trans (hk2 H))|(refine HS1.out.mono ?_;rintro e v ⟨rfl,hR,hk⟩;have mark1:=trivial))|(go_at_call 189;(first|refine(zMC (by assumption) hR hk hs (by omega)).mono ?_|refine(zMB (by assumption) hR hk hs (by omega)).mono ?_);rintro e v ⟨rfl,hR,hk⟩)));obtain⟨hf,x0,x1,y0,y1⟩:=zFm (HBB.out v hk);have hf0:=hf 0;have hf1:=hf 1;clear hf)
  first
  |(obtain ⟨w9,hw9,z0,z1,HZ⟩:=HST.out v _ s1.num s1.num hR hk;rw[<-hw9];refine bodyPost_ret (v:=.tuple #[.agg #[.int .i64 s1.num,.int .i64 s1.num],.bool false]) (by simp[results,results215,go_sem,z0,z1];done) rfl ?_;exact⟨by rw[HV.out];rfl,by rw[HV.out];exact HZ.out.1,HZ.out.2⟩)
  |(obtain ⟨w9,hw9,z0,z1,HZ⟩:=HST.out v _ s1.num s1.num hR hk;rw[<-hw9];refine bodyPost_ret (v:=.tuple #[.agg #[.int .i64 s1.num,.int .i64 s1.num],.bool true]) (by simp[results,results215,go_sem,z0,z1];done) rfl ?_;exact⟨by rw[HV.out];rfl,by rw[HV.out];exact HZ.out.1,HZ.out.2⟩)
  |(obtain ⟨w9,hw9,z0,z1,HZ⟩:=HST.out v _ s1.num s2.num hR hk;rw[<-hw9];refine bodyPost_ret (v:=.tuple #[.agg #[.int .i64 s1.num,.int .i64 s2.num],.bool false]) (by first|(simp [results,results215,go_sem,z0,z1];done)|(simp [results,results215,go_sem,z0,z1];omega)) rfl ?_;exact⟨by rw[HV.out];rfl,by rw[HV.out];exact HZ.out.1,HZ.out.2⟩)
  |(obtain ⟨w9,hw9,z0,z1,HZ⟩:=HST.out v _ s1.num s2.num hR hk;rw[<-hw9];refine bodyPost_ret (v:=.tuple #[.agg #[.int .i64 s1.num,.int .i64 s2.num],.bool true]) (by first|(simp [results,results215,go_sem,z0,z1];done)|(simp [results,results215,go_sem,z0,z1];omega)) rfl ?_;exact⟨by rw[HV.out];rfl,by rw[HV.out];exact HZ.out.1,HZ.out.2⟩)
section
attribute [local go_sem ↓] Go.wp_at_zero Go.wp_at_succ
structure Agree (X:Nat->Prop)(w w2:World):Prop where
 os:w2.os=w.os
 output:w2.output=w.output
 size:w.heap.size<=w2.heap.size
 block:∀i,i<w.heap.size->X i->w2.heap[i]? =w.heap[i]?
theorem Agree.refl (X:Nat->Prop)(w:World):Agree X w w:=⟨rfl,rfl,Nat.le_refl _,fun _ _ _=>rfl⟩
theorem Agree.trans {X:Nat->Prop}{w w2 w3:World}(h:Agree X w w2)(k:Agree X w2 w3):Agree X w w3:=⟨k.os.trans h.os,k.output.trans h.output,Nat.le_trans h.size k.size,fun i hi hx=>(k.block i (Nat.lt_of_lt_of_le hi h.size) hx).trans (h.block i hi hx)⟩
theorem Agree.mono {X Y:Nat->Prop}{w w2:World}(h:Agree X w w2)(hx:∀i,i<w.heap.size->Y i->X i):Agree Y w w2:=⟨h.os,h.output,h.size,fun i hi hy=>h.block i hi (hx i hi hy)⟩
theorem Keep.agree {H b:Nat}{X:Nat->Prop}{w w2:World}(h:Keep H b w w2)(hx:∀i,i<w.heap.size->X i->i<H∧i≠b):Agree X w w2:=⟨h.os,h.output,h.size,fun i hi hxi=>h.block i (hx i hi hxi).1 (hx i hi hxi).2⟩
def RangesIn (X:Nat->Prop)(w:World)(v:Value)(l:List (Int×Int)):Prop:=∀w2,Agree X w w2->RangesAt w2 v l
theorem RangesIn.at {X:Nat->Prop}{w:World}{v:Value}{l:List (Int×Int)}(h:RangesIn X w v l):RangesAt w v l:=h w (Agree.refl X w)
theorem RangesIn.go {X:Nat->Prop}{w w2:World}{v:Value}{l:List (Int×Int)}(h:RangesIn X w v l)(a:Agree X w w2):RangesIn X w2 v l:=fun w3 h3=>h w3 (a.trans h3)
theorem RangesIn.mono {X Y:Nat->Prop}{w:World}{v:Value}{l:List (Int×Int)}(h:RangesIn X w v l)(hx:∀i,i<w.heap.size->X i->Y i):RangesIn Y w v l:=fun w3 h3=>h w3 (h3.mono hx)
theorem zGF {X:Nat->Prop}{w:World}{c:Int}{b:Nat}(h:w.heap[b]? =some (.cells #[.int .i64 c,.int .i64 c] 255))(hx:X b):RangesIn X w (.slice (some ⟨b,0,none⟩) 1 1) [(c,c)]:=fun w2 a=>zKe w2 c b ((a.block b (Array.getElem?_eq_some_iff.1 h).1 hx).trans h)
theorem zIL (X:Nat->Prop)(w:World):RangesIn X w (.slice none 0 0) []:=fun w2 _=>⟨none,0,rfl,Nat.le_refl _,by unfold maxLen;omega,fun i hi=>absurd hi (Nat.not_lt_zero _)⟩
def yT (ps:List (Int×Int)):List Value:=ps.flatMap fun p=>[.int .i64 p.1,.int .i64 p.2]
theorem zES (ps:List (Int×Int))(x y:Int):yT (ps++[(x,y)])=yT ps++[.int .i64 x,.int .i64 y]:=by simp[yT]
theorem zCk (ps:List (Int×Int))(i:Nat)(hi:i<ps.length):(yT ps)[i*2]? =some (.int .i64 (ps.getD i (0,0)).1)∧(yT ps)[i*2+1]? =some (.int .i64 (ps.getD i (0,0)).2):=by
 induction ps generalizing i with
 |nil=>simp at hi
 |cons p ps ih=>
  cases i with
  |zero=>exact⟨rfl,rfl⟩
  |succ i=>
   have:=ih i (by simpa using hi);have e:yT (p::ps)=.int .i64 p.1:: .int .i64 p.2::yT ps:=rfl;rw[e,show(i+1)*2=i*2+1+1 by omega];exact this
structure Rw (w:World)(H p:Nat)(sv:Value)(l:List (Int×Int))(o:Bool):Prop where
 blk:w.heap[p]? =some (.cells #[sv,.bool o] 161)
 own:w.ownsRow H 255 2 sv l.length (yT l)
 pH:p<H
 lt:H<=w.heap.size
def zM4 (w:World)(H p:Nat)(l:List (Int×Int))(o:Bool):Prop:=∃sv,Rw w H p sv l o
structure KeepO (p:Nat)(sv sv':Value)(w w':World):Prop where
 os:w'.os=w.os
 output:w'.output=w.output
 size:w.heap.size<=w'.heap.size
 block:∀k,k<w.heap.size->k≠p->some k≠sv.ownBlock->w'.heap[k]? =w.heap[k]?∧some k≠sv'.ownBlock
theorem KeepO.trans {p:Nat}{sv sv2 sv3:Value}{w w2 w3:World}(h:KeepO p sv sv2 w w2)(k:KeepO p sv2 sv3 w2 w3):KeepO p sv sv3 w w3:=⟨k.os.trans h.os,k.output.trans h.output,Nat.le_trans h.size k.size,fun i h1 h2 h3=>by
 obtain⟨a1,a2⟩:=h.block i h1 h2 h3;obtain⟨b1,b2⟩:=k.block i (Nat.lt_of_lt_of_le h1 h.size) h2 a2;exact⟨b1.trans a1,b2⟩⟩
theorem KeepO.of_keep {p:Nat}{sv:Value}{w w2:World}(h:Grew w w2):KeepO p sv sv w w2:=⟨h.os,h.output,h.size,fun k h1 _ h3=>⟨h.block k h1 (Nat.ne_of_lt h1),h3⟩⟩
theorem KeepO.keep {p H e z n:Nat}{sv sv':Value}{xs:List Value}{w w2:World}(h:KeepO p sv sv' w w2)(ho:w.ownsRow H e z sv n xs)(hH:H<=w.heap.size):Keep H p w w2:=⟨h.os,h.output,h.size,fun k h1 h2=>(h.block k (Nat.lt_of_lt_of_le h1 hH) h2 fun e=>absurd (ho.lt k e.symm).1 (Nat.not_le_of_lt h1)).1⟩
theorem zDI:(prog.info? 255).map (fun i=>(i.zero,i.size,i.bytes))=some (some (.agg #[.int .i64 0,.int .i64 0]),2,16):=by kernel_rfl
section
variable {w w2:World} {H p b:Nat} {sv:Value} {l:List (Int×Int)} {o:Bool}
theorem Rw.cells (h:Rw w H p sv l o):w.cell? ⟨p,0,none⟩=some sv∧w.cell? ⟨p,1,none⟩=some (.bool o)∧∀i,w.frozen? ⟨p,i,none⟩=false:=by
 refine⟨?_,?_,fun i=>?_⟩
 all_goals first|(unfold cell?;rw[h.blk];rfl)|(unfold frozen?;rw[h.blk];simp)
theorem Rw.keep (h:Rw w H p sv l o)(hk:Keep w.heap.size b w w2)(hb:b<H∨b=w.heap.size)(hbp:b≠p):Rw w2 H p sv l o:=by
 have h1:=h.pH;have h2:=h.lt;refine⟨(hk.block p (by omega) (Ne.symm hbp)).trans h.blk,zD h.own fun g hg hgl _=>hk.block g hgl (by omega),h1,Nat.le_trans h2 hk.size⟩
theorem Rw.in (h:Rw w H p sv l o):RangesIn (fun i=>H<=i) w sv l:=fun w3 a=>by
 rcases h.own.2 with⟨hv,h0⟩|⟨g,cap,cur,hv,hH,hh,h1,h2,h3,h4⟩
 ·exact⟨none,0,by rw[hv,h0],by omega,by unfold maxLen;omega,fun i hi=>by omega⟩
 ·have hg2:=h.own.lt g (by rw[hv];rfl)
  have hbb:=a.block g hg2.2 hg2.1;refine⟨some ⟨g,0,none⟩,cap,hv,h1,h2,fun i hi=>⟨g,0,rfl,Nat.lt_of_lt_of_le hg2.2 a.size,?_,?_⟩⟩
  ·have:=h.own.cells (g:=g) (by rw[hv];rfl) (i*2) _ (zCk l i hi).1
   rw[Addr.add_lit] at this;rw[Nat.zero_add] at this ⊢;exact(cell?_of_block hbb).trans this
  ·have:=h.own.cells (g:=g) (by rw[hv];rfl) (i*2+1) _ (zCk l i hi).2
   rw[Addr.add_lit] at this;rw[Nat.zero_add] at this ⊢;exact(cell?_of_block hbb).trans this
theorem Rw.app {ob:Obj}{g cap m:Nat}{x y:Int}(h:Rw w H p sv l o)(hm:m=l.length)(hown:w2.ownsRow H 255 2 (.slice (some ⟨g,0,none⟩) (m+1) cap) (m+1) (yT l++[.int .i64 x,.int .i64 y]))(hg:(w.alloc ob).grownBy w2 sv.ownBlock)(hat:sv.ownBlock=some g∨w.heap.size<=g):
  Rw (w2.setCell ⟨p,0,none⟩ (.slice (some ⟨g,0,none⟩) (m+1) cap)) H p (.slice (some ⟨g,0,none⟩) (m+1) cap) (l++[(x,y)]) o∧KeepO p sv (.slice (some ⟨g,0,none⟩) (m+1) cap) w (w2.setCell ⟨p,0,none⟩ (.slice (some ⟨g,0,none⟩) (m+1) cap)):=by
 subst hm;have hpH:=h.pH;have hlt:=h.lt;have hbl:∀j,j<H->w2.heap[j]? =w.heap[j]? :=fun j hj=>(hg.block j (by simp;omega) fun e=>by have:=(h.own.lt j e.symm).1;omega).trans (Below.heap_alloc _ _ _ (by omega));have hb:=(hbl p hpH).trans h.blk;have hsz:w.heap.size<=w2.heap.size:=Nat.le_trans (by simp) hg.size;refine⟨⟨?_,?_,hpH,by rw[zC];omega⟩,⟨hg.os,hg.output,by rw[zC];exact hsz,fun k h1 h2 h3=>⟨(Below.heap_setCell _ _ _ _ h2).trans ((hg.block k (by simp;omega) h3).trans (Below.heap_alloc _ _ _ h1)),fun e=>by
  have e2:k=g:=by simpa[Value.ownBlock] using e
  rcases hat with ha|ha
  ·exact h3 (by rw[ha,e2])
  ·omega⟩⟩⟩
 ·simp[setCell,Array.getElem?_modify,hb]
 ·rw[zES,show(l++[(x,y)]).length=l.length+1 by simp]
  exact zW hown hpH
end
def yS (r:Int×Int)(first last far:Int):List (Int×Int):=if(if first<r.1 then r.1 else first)<=(if r.2<last then r.2 else last) then[((if first<r.1 then r.1 else first)+far,(if r.2<last then r.2 else last)+far)] else[]
theorem zB2 (w:World)(H p:Nat)(sv:Value)(l:List (Int×Int))(o:Bool)(h:Rw w H p sv l o)(hl:l.length<=1000000000)(lo hi first last far:Int)(hf:0<=first∧first<=1000)(hla:0<=last∧last<=1000)(hfar:-100<=far∧far<=100):
  Calls prog 213 #[.pointer (some ⟨p,0,none⟩),.agg #[.int .i64 lo,.int .i64 hi],.int .i64 first,.int .i64 last,.int .i64 far] w fun e w'=>e=.returned (.tuple #[])∧∃sv',Rw w' H p sv' (l++yS (lo,hi) first last far) o∧KeepO p sv sv' w w':=by
 obtain⟨i0,hi0,hz0,hz1,hz2⟩:=info_parts zDI;obtain⟨w1,hw1,HN1,y0,y1,HK1⟩:∃w1,w1=w.alloc (.cells #[.int .i64 lo,.int .i64 hi] 255)∧Hid (Rw w1 H p sv l o)∧w1.cell? ⟨w.heap.size,0,none⟩=some (.int .i64 lo)∧w1.cell? ⟨w.heap.size,1,none⟩=some (.int .i64 hi)∧Hid (KeepO p sv sv w w1):=by
  have hb:=heap_alloc_new w (.cells #[.int .i64 lo,.int .i64 hi] 255);have hlt:=h.lt;have hpH:=h.pH;refine⟨_,rfl,h.keep (Keep.alloc (b:=w.heap.size) _ _ (Nat.le_refl _)) (.inr rfl) (by omega),?_,?_,KeepO.of_keep (Keep.alloc _ _ (Nat.le_refl _))⟩
  ·unfold cell?;rw[hb];rfl
  ·unfold cell?;rw[hb];rfl
 clear h;obtain⟨ff,hff⟩:∃ff,ff=(if first<lo then lo else first):=⟨_,rfl⟩
 obtain⟨ll,hll⟩:∃ll,ll=(if hi<last then hi else last):=⟨_,rfl⟩
 have HM:Hid (yS (lo,hi) first last far=if ff<=ll then[(ff+far,ll+far)] else[]):=by show _=_;unfold yS;rw[hff,hll]
 have hf2:first<=ff:=by rw[hff];split <;> omega
 have hl2:ll<=last:=by rw[hll];split <;> omega
 obtain⟨x0,-,xf⟩:=HN1.out.cells;have xf0:=xf 0;obtain⟨asv,csv,hsv⟩:=zE HN1.out.own;subst hsv;have OW:w1.ownsRow H 255 2 (.slice asv l.length csv) l.length (yT l):=HN1.out.own;have hlt1:p<w1.heap.size:=Nat.lt_of_lt_of_le HN1.out.pH HN1.out.lt;have hH1:H<=w1.heap.size:=HN1.out.lt;have HNP:=vl <| zL HN1.out.own HN1.out.blk (by decide);clear xf;rcases Int.lt_or_le first lo with a1|a1 <;> rcases Int.lt_or_le hi last with a2|a2
 ·
  have e1:lo=ff:=by rw[hff];exact(if_pos a1).symm
  have e2:hi=ll:=by rw[hll];exact(if_pos a2).symm
  clear hff hll;subst e1 e2;by_cases a3:lo<=hi
  ·have HM2:Hid (yS (lo,hi) first last far=[(lo+far,hi+far)]):=by show _=_;rw[HM.out,if_pos a3]
   clear HM;go_in;refine wp_cut ?_;intro K0 HK0;go_wp2;refine HK0.out _ _ ?_;clear HK0;rw[<-hw1];clear hw1;go_wp2_with (first|(at_builtin;refine wpList_append_lies _ rfl _ _ 159 rfl (H) 255 i0 (.agg #[.int .i64 0,.int .i64 0]) 2 16 underlying159 hi0 hz0 hz1 hz2 rfl (by decide) _ _ _ rfl (OW.alloc _) ⟨w1.heap.size,0,none⟩ 1 1 [.int .i64 (lo+far),.int .i64 (hi+far)] rfl rfl (news_of_block (cs:=#[.int .i64 (lo+far),.int .i64 (hi+far)]) (t:=255) (fr:=(0,0)) (heap_alloc_new w1 _)) (by simp[Value.oneCell']) (by decide) (by unfold maxLen;omega) (by omega) (by simp;omega) _ rfl ?_;intro gg cap w2 hown hgrow hat hlt;have hPB:=hgrow.block p (by simp;omega) HNP.out;have x0b:w2.cell? ⟨p,0,none⟩=some (.slice asv l.length csv):=(cell?_of_block hPB).trans ((cell?_alloc_past _ _ _ hlt1).trans x0);have xf0b:w2.frozen? ⟨p,0,none⟩=false:=(frozen?_of_block hPB).trans ((frozen?_alloc_past _ _ _ hlt1).trans xf0)))
   obtain⟨w9,hw9,HN4⟩:∃w9,w9=w2.setCell ⟨p,0,none⟩ (.slice (some ⟨gg,0,none⟩) (l.length+1) cap)∧Hid (∃sv',Rw w9 H p sv' (l++yS (lo,hi) first last far) o∧KeepO p (.slice asv l.length csv) sv' w w9):=⟨_,rfl,_,by rw[HM2.out];exact(HN1.out.app rfl hown hgrow (by rcases hat with ha|ha;exact .inl ha;right;rw[ha];simp)).1,HK1.out.trans (HN1.out.app rfl hown hgrow (by rcases hat with ha|ha;exact .inl ha;right;rw[ha];simp)).2⟩
   rw[<-hw9];go_end0;exact⟨rfl,HN4.out⟩
  ·have a4:hi<lo:=by omega
   have HM2:Hid (yS (lo,hi) first last far=[]):=by show _=_;rw[HM.out,if_neg a3]
   clear HM;go_in;refine wp_cut ?_;intro K0 HK0;go_wp2;refine HK0.out _ _ ?_;clear HK0;rw[<-hw1];clear hw1;go_wp2;go_end0;exact⟨rfl,_,by rw[HM2.out,List.append_nil];exact HN1.out,HK1.out⟩
 ·
  have e1:lo=ff:=by rw[hff];exact(if_pos a1).symm
  have e2:last=ll:=by rw[hll];exact(if_neg (by omega)).symm
  clear hff hll;subst e1 e2;by_cases a3:lo<=last
  ·have HM2:Hid (yS (lo,hi) first last far=[(lo+far,last+far)]):=by show _=_;rw[HM.out,if_pos a3]
   clear HM;go_in;refine wp_cut ?_;intro K0 HK0;go_wp2;refine HK0.out _ _ ?_;clear HK0;rw[<-hw1];clear hw1;go_wp2_with (first|(at_builtin;refine wpList_append_lies _ rfl _ _ 159 rfl (H) 255 i0 (.agg #[.int .i64 0,.int .i64 0]) 2 16 underlying159 hi0 hz0 hz1 hz2 rfl (by decide) _ _ _ rfl (OW.alloc _) ⟨w1.heap.size,0,none⟩ 1 1 [.int .i64 (lo+far),.int .i64 (last+far)] rfl rfl (news_of_block (cs:=#[.int .i64 (lo+far),.int .i64 (last+far)]) (t:=255) (fr:=(0,0)) (heap_alloc_new w1 _)) (by simp[Value.oneCell']) (by decide) (by unfold maxLen;omega) (by omega) (by simp;omega) _ rfl ?_;intro gg cap w2 hown hgrow hat hlt;have hPB:=hgrow.block p (by simp;omega) HNP.out;have x0b:w2.cell? ⟨p,0,none⟩=some (.slice asv l.length csv):=(cell?_of_block hPB).trans ((cell?_alloc_past _ _ _ hlt1).trans x0);have xf0b:w2.frozen? ⟨p,0,none⟩=false:=(frozen?_of_block hPB).trans ((frozen?_alloc_past _ _ _ hlt1).trans xf0)))
   obtain⟨w9,hw9,HN4⟩:∃w9,w9=w2.setCell ⟨p,0,none⟩ (.slice (some ⟨gg,0,none⟩) (l.length+1) cap)∧Hid (∃sv',Rw w9 H p sv' (l++yS (lo,hi) first last far) o∧KeepO p (.slice asv l.length csv) sv' w w9):=⟨_,rfl,_,by rw[HM2.out];exact(HN1.out.app rfl hown hgrow (by rcases hat with ha|ha;exact .inl ha;right;rw[ha];simp)).1,HK1.out.trans (HN1.out.app rfl hown hgrow (by rcases hat with ha|ha;exact .inl ha;right;rw[ha];simp)).2⟩
   rw[<-hw9];go_end0;exact⟨rfl,HN4.out⟩
  ·have a4:last<lo:=by omega
   have HM2:Hid (yS (lo,hi) first last far=[]):=by show _=_;rw[HM.out,if_neg a3]
   clear HM;go_in;refine wp_cut ?_;intro K0 HK0;go_wp2;refine HK0.out _ _ ?_;clear HK0;rw[<-hw1];clear hw1;go_wp2;go_end0;exact⟨rfl,_,by rw[HM2.out,List.append_nil];exact HN1.out,HK1.out⟩
 ·
  have e1:first=ff:=by rw[hff];exact(if_neg (by omega)).symm
  have e2:hi=ll:=by rw[hll];exact(if_pos a2).symm
  clear hff hll;subst e1 e2;by_cases a3:first<=hi
  ·have HM2:Hid (yS (lo,hi) first last far=[(first+far,hi+far)]):=by show _=_;rw[HM.out,if_pos a3]
   clear HM;go_in;refine wp_cut ?_;intro K0 HK0;go_wp2;refine HK0.out _ _ ?_;clear HK0;rw[<-hw1];clear hw1;go_wp2_with (first|(at_builtin;refine wpList_append_lies _ rfl _ _ 159 rfl (H) 255 i0 (.agg #[.int .i64 0,.int .i64 0]) 2 16 underlying159 hi0 hz0 hz1 hz2 rfl (by decide) _ _ _ rfl (OW.alloc _) ⟨w1.heap.size,0,none⟩ 1 1 [.int .i64 (first+far),.int .i64 (hi+far)] rfl rfl (news_of_block (cs:=#[.int .i64 (first+far),.int .i64 (hi+far)]) (t:=255) (fr:=(0,0)) (heap_alloc_new w1 _)) (by simp[Value.oneCell']) (by decide) (by unfold maxLen;omega) (by omega) (by simp;omega) _ rfl ?_;intro gg cap w2 hown hgrow hat hlt;have hPB:=hgrow.block p (by simp;omega) HNP.out;have x0b:w2.cell? ⟨p,0,none⟩=some (.slice asv l.length csv):=(cell?_of_block hPB).trans ((cell?_alloc_past _ _ _ hlt1).trans x0);have xf0b:w2.frozen? ⟨p,0,none⟩=false:=(frozen?_of_block hPB).trans ((frozen?_alloc_past _ _ _ hlt1).trans xf0)))
   obtain⟨w9,hw9,HN4⟩:∃w9,w9=w2.setCell ⟨p,0,none⟩ (.slice (some ⟨gg,0,none⟩) (l.length+1) cap)∧Hid (∃sv',Rw w9 H p sv' (l++yS (lo,hi) first last far) o∧KeepO p (.slice asv l.length csv) sv' w w9):=⟨_,rfl,_,by rw[HM2.out];exact(HN1.out.app rfl hown hgrow (by rcases hat with ha|ha;exact .inl ha;right;rw[ha];simp)).1,HK1.out.trans (HN1.out.app rfl hown hgrow (by rcases hat with ha|ha;exact .inl ha;right;rw[ha];simp)).2⟩
   rw[<-hw9];go_end0;exact⟨rfl,HN4.out⟩
  ·have a4:hi<first:=by omega
   have HM2:Hid (yS (lo,hi) first last far=[]):=by show _=_;rw[HM.out,if_neg a3]
   clear HM;go_in;refine wp_cut ?_;intro K0 HK0;go_wp2;refine HK0.out _ _ ?_;clear HK0;rw[<-hw1];clear hw1;go_wp2;go_end0;exact⟨rfl,_,by rw[HM2.out,List.append_nil];exact HN1.out,HK1.out⟩
 ·
  have e1:first=ff:=by rw[hff];exact(if_neg (by omega)).symm
  have e2:last=ll:=by rw[hll];exact(if_neg (by omega)).symm
  clear hff hll;subst e1 e2;by_cases a3:first<=last
  ·have HM2:Hid (yS (lo,hi) first last far=[(first+far,last+far)]):=by show _=_;rw[HM.out,if_pos a3]
   clear HM;go_in;refine wp_cut ?_;intro K0 HK0;go_wp2;refine HK0.out _ _ ?_;clear HK0;rw[<-hw1];clear hw1;go_wp2_with (first|(at_builtin;refine wpList_append_lies _ rfl _ _ 159 rfl (H) 255 i0 (.agg #[.int .i64 0,.int .i64 0]) 2 16 underlying159 hi0 hz0 hz1 hz2 rfl (by decide) _ _ _ rfl (OW.alloc _) ⟨w1.heap.size,0,none⟩ 1 1 [.int .i64 (first+far),.int .i64 (last+far)] rfl rfl (news_of_block (cs:=#[.int .i64 (first+far),.int .i64 (last+far)]) (t:=255) (fr:=(0,0)) (heap_alloc_new w1 _)) (by simp[Value.oneCell']) (by decide) (by unfold maxLen;omega) (by omega) (by simp;omega) _ rfl ?_;intro gg cap w2 hown hgrow hat hlt;have hPB:=hgrow.block p (by simp;omega) HNP.out;have x0b:w2.cell? ⟨p,0,none⟩=some (.slice asv l.length csv):=(cell?_of_block hPB).trans ((cell?_alloc_past _ _ _ hlt1).trans x0);have xf0b:w2.frozen? ⟨p,0,none⟩=false:=(frozen?_of_block hPB).trans ((frozen?_alloc_past _ _ _ hlt1).trans xf0)))
   obtain⟨w9,hw9,HN4⟩:∃w9,w9=w2.setCell ⟨p,0,none⟩ (.slice (some ⟨gg,0,none⟩) (l.length+1) cap)∧Hid (∃sv',Rw w9 H p sv' (l++yS (lo,hi) first last far) o∧KeepO p (.slice asv l.length csv) sv' w w9):=⟨_,rfl,_,by rw[HM2.out];exact(HN1.out.app rfl hown hgrow (by rcases hat with ha|ha;exact .inl ha;right;rw[ha];simp)).1,HK1.out.trans (HN1.out.app rfl hown hgrow (by rcases hat with ha|ha;exact .inl ha;right;rw[ha];simp)).2⟩
   rw[<-hw9];go_end0;exact⟨rfl,HN4.out⟩
  ·have a4:last<first:=by omega
   have HM2:Hid (yS (lo,hi) first last far=[]):=by show _=_;rw[HM.out,if_neg a3]
   clear HM;go_in;refine wp_cut ?_;intro K0 HK0;go_wp2;refine HK0.out _ _ ?_;clear HK0;rw[<-hw1];clear hw1;go_wp2;go_end0;exact⟨rfl,_,by rw[HM2.out,List.append_nil];exact HN1.out,HK1.out⟩
end
end Go.Proofs.YtbjcfkdnjaiclaaGreat
