import Derived.Deep.DrawnRows
import Derived.Deep.RegionLaw
import Derived.Test.YtbjcfkdnjaiclaaGreatK0
import Derived.Test.YtbjcfkdnjaiclaaGreatK16
/- Parts of the proof. -/
set_option linter.unusedVariables false
set_option linter.unusedSimpArgs false
set_option maxHeartbeats 4000000
set_option maxRecDepth 100000
namespace Go.Proofs.YtbjcfkdnjaiclaaGreat
open Go.RowKit Go.Proofs.Tryz Go.World
open Go.Value (int slice bool pointer string agg tuple)
open Go.IntKind (i64)
open Go.Ending (returned)
def zAS (s:ByteArray)(i:Nat):Bool:=byt s i==42||byt s i==43||byt s i==63||(byt s i==123&&xH (byt s (i+1)))
theorem zDI (w:World)(b:Nat)(s:ByteArray)(dv:Value)(r:Rx)(k:RxAt w b s dv r)(l:s.size<=1048576)(m:r.at_<=2000000):
  Calls prog 197 #[pX b] w λe w'=>e=returned (bool (zAS s r.at_))/\w'=w:=by
 have g:=vl <| qH w b s dv r k l m 0 (by omega);have u:=vl <| qH w b s dv r k l m 1 (by omega);have v:Hid (∀w2,Ca 206 #[int .u8 (byt s (r.at_+1):Nat)] w2 λe w'=>e=returned (bool (xH (byt s (r.at_+1))))/\w'=w2):=λw2=>zAg w2 _;have i:Hid (zAS s r.at_=(byt s r.at_==42||byt s r.at_==43||byt s r.at_==63||(byt s r.at_==123&&xH (byt s (r.at_+1))))):=rfl;generalize xH (byt s (r.at_+1))=x at *;generalize byt s (r.at_+1)=c1 at *;generalize byt s r.at_=c at *;by_cases o:c=42
 ·subst o
  go_in;go_wp2_with (first|(go_at_call 200;refine g.mono ?_;rintro e f ⟨rfl,a⟩;have d:=a.symm;subst d))
  go_ret;exact⟨by rw[i.out];rfl,rfl⟩
 by_cases p:c=43
 ·subst p
  go_in;go_wp2_with (first|(go_at_call 200;refine g.mono ?_;rintro e f ⟨rfl,a⟩;have d:=a.symm;subst d))
  go_ret;exact⟨by rw[i.out];rfl,rfl⟩
 by_cases q:c=63
 ·subst q
  go_in;go_wp2_with (first|(go_at_call 200;refine g.mono ?_;rintro e f ⟨rfl,a⟩;have d:=a.symm;subst d))
  go_ret;exact⟨by rw[i.out];rfl,rfl⟩
 by_cases t:c=123
 ·subst t
  have j:Hid (zAS s r.at_=x):=by show _=_;rw[i.out];rfl
  go_in;go_wp2_with (first|(go_at_call 200;first|(have m2:=y;refine u.mono ?_;rintro e f ⟨rfl,a⟩;have d:=a.symm;subst d)|(refine g.mono ?_;rintro e f ⟨rfl,a⟩;have d:=a.symm;subst d;have y:=trivial))|(go_at_call 206;refine(v _).mono ?_;rintro e f ⟨rfl,a⟩;have d:=a.symm;subst d))
  go_ret;exact⟨by rw[j.out];rfl,rfl⟩
 ·have j:Hid (zAS s r.at_=false):=by
   show _=_;rw[i.out,show(c==42)=false by rw[hZ];exact o,show(c==43)=false by rw[hZ];exact p,show(c==63)=false by rw[hZ];exact q,show(c==123)=false by rw[hZ];exact t];rfl
  have z:((c:Int)==42)=false:=by rw[hZ];omega
  have A:((c:Int)==43)=false:=by rw[hZ];omega
  have B:((c:Int)==63)=false:=by rw[hZ];omega
  have C:((c:Int)==123)=false:=by rw[hZ];omega
  go_in;go_wp2_with (first|(go_at_call 200;refine g.mono ?_;rintro e f ⟨rfl,a⟩;have d:=a.symm;subst d))
  go_ret;exact⟨by rw[j.out];rfl,rfl⟩
def zIc (c:Int):Cs:=⟨[(c,c)],false⟩
def zOi:Cs:=⟨[(10,10)],true⟩
theorem zKW (w:World)(c:Int)(b:Nat)(a:w.heap[b]? =some (.cells #[iX c,iX c] 255)):RangesAt w (slice (qX b) 1 1) [(c,c)]:=by
 have d:=(kQ.1 a).1;refine⟨_,1,rfl,lQ,by unfold maxLen;omega,λi f=>?_⟩;have e:i=0:=by simp at f;omega
 subst e;refine⟨b,0,rfl,d,?_,?_⟩
 ·unfold cell?;rw[a];rfl
 ·unfold cell?;rw[a];rfl
theorem zDA (w:World)(c:Int):
  Calls prog 210 #[iX c] w λe w'=>∃u,e=returned (agg #[u,bool false])/\(∃g,w.heap.size<=g/\u=slice (qX g) 1 1/\w'.heap[g]? =some (.cells #[iX c,iX c] 255))/\Grew w w':=by
 obtain⟨w2,d,f,h,i,j⟩:∃w2,w2=(w.alloc (Obj.cells #[slice (some ⟨w.heap.size+1,0,none⟩) 1 1,bool false] 161)).alloc (Obj.cells #[iX c,iX c] 255)/\w2.cell? ⟨w.heap.size,0,none⟩=some (slice (some ⟨w.heap.size+1,0,none⟩) 1 1)/\w2.cell? ⟨w.heap.size,1,none⟩=some (bool false)/\Hid (w2.heap[w.heap.size+1]? =some (.cells #[iX c,iX c] 255))/\Hid (Grew w w2):=by
  have s1:(w.alloc (Obj.cells #[slice (some ⟨w.heap.size+1,0,none⟩) 1 1,bool false] 161)).heap.size=w.heap.size+1:=by simp
  have a:((w.alloc (Obj.cells #[slice (some ⟨w.heap.size+1,0,none⟩) 1 1,bool false] 161)).alloc (Obj.cells #[iX c,iX c] 255)).heap[w.heap.size]? =some (Obj.cells #[slice (some ⟨w.heap.size+1,0,none⟩) 1 1,bool false] 161):=(lG _ _ _ (by rw[s1];omega)).trans (gY _ _);have b:=gY (w.alloc (Obj.cells #[slice (some ⟨w.heap.size+1,0,none⟩) 1 1,bool false] 161)) (Obj.cells #[iX c,iX c] 255);rw[s1] at b;refine⟨_,rfl,?_,?_,b,(kZ _ _ lQ).trans (kZ _ _ (by rw[s1];omega))⟩
  ·unfold cell?;rw[a];rfl
  ·unfold cell?;rw[a];rfl
 go_in;go_wp2;rw[<-d];refine gJ (v:=agg #[slice (some ⟨w.heap.size+1,0,none⟩) 1 1,bool false]) (by simp[results,results210,go_sem,f,h]) rfl ?_;exact⟨_,rfl,⟨_,by omega,rfl,i⟩,j⟩
theorem zLm (w:World):
  Calls prog 211 #[] w λe w'=>∃u,e=returned (agg #[u,bool true])/\(∃g,w.heap.size<=g/\u=slice (qX g) 1 1/\w'.heap[g]? =some (.cells #[iX 10,iX 10] 255))/\Grew w w':=by
 obtain⟨w2,c,d,f,h,i⟩:∃w2,w2=(w.alloc (Obj.cells #[slice (some ⟨w.heap.size+1,0,none⟩) 1 1,bool true] 161)).alloc (Obj.cells #[iX 10,iX 10] 255)/\w2.cell? ⟨w.heap.size,0,none⟩=some (slice (some ⟨w.heap.size+1,0,none⟩) 1 1)/\w2.cell? ⟨w.heap.size,1,none⟩=some (bool true)/\Hid (w2.heap[w.heap.size+1]? =some (.cells #[iX 10,iX 10] 255))/\Hid (Grew w w2):=by
  have s1:(w.alloc (Obj.cells #[slice (some ⟨w.heap.size+1,0,none⟩) 1 1,bool true] 161)).heap.size=w.heap.size+1:=by simp
  have a:((w.alloc (Obj.cells #[slice (some ⟨w.heap.size+1,0,none⟩) 1 1,bool true] 161)).alloc (Obj.cells #[iX 10,iX 10] 255)).heap[w.heap.size]? =some (Obj.cells #[slice (some ⟨w.heap.size+1,0,none⟩) 1 1,bool true] 161):=(lG _ _ _ (by rw[s1];omega)).trans (gY _ _);have b:=gY (w.alloc (Obj.cells #[slice (some ⟨w.heap.size+1,0,none⟩) 1 1,bool true] 161)) (Obj.cells #[iX 10,iX 10] 255);rw[s1] at b;refine⟨_,rfl,?_,?_,b,(kZ _ _ lQ).trans (kZ _ _ (by rw[s1];omega))⟩
  ·unfold cell?;rw[a];rfl
  ·unfold cell?;rw[a];rfl
 go_in;go_wp2;rw[<-c];refine gJ (v:=agg #[slice (some ⟨w.heap.size+1,0,none⟩) 1 1,bool true]) (by simp[results,results211,go_sem,d,f]) rfl ?_;exact⟨_,rfl,⟨_,by omega,rfl,h⟩,i⟩
def xL (n:Nat):Nat:=if 24<n then 25 else n
theorem zCB (w:World)(n:Nat):Calls prog 195 #[iX (n:Int)] w λe w'=>e=returned (iX (xL n:Int))/\w'=w:=by
 by_cases b:24<n
 ·have a:Hid (xL n=25):=by show _=_;unfold xL;rw[if_pos b]
  have c:(n:Int)>24:=by omega
  go_in;go_wp2;go_ret;exact⟨by rw[a.out];rfl,rfl⟩
 ·have a:Hid (xL n=n):=by show _=_;unfold xL;rw[if_neg b]
  have c:(n:Int)<=24:=by omega
  go_in;go_wp2;go_ret;exact⟨by rw[a.out];rfl,rfl⟩
theorem zHD {s t:ByteArray}{r:Rx}(a:zK s r.at_ t=true):r.take s t={r with at_:=r.at_+t.size}:=by unfold Rx.take;rw[if_pos a]
theorem zJX {s t:ByteArray}{r:Rx}(a:zK s r.at_ t=false):r.take s t=r:=by unfold Rx.take;rw[if_neg (by rw[a];decide)]
theorem zNR {a w:World}{b:Nat}{s t:ByteArray}{dv:Value}{r:Rx}(c:zK s r.at_ t=true)(f:RxAt w b s dv r)(g:∀H,Keep H b a w)(i:s.size<=1048576)(j:r.at_<=2000000)(k:t.size<=1000000):
  Calls prog 189 #[pX b,string t] w λe w'=>e=returned (bool true)/\RxAt w' b s dv {r with at_:=r.at_+t.size}/\∀H,Keep H b a w':=by
 refine(jI w b s dv r f i j t k).mono ?_;rintro e w' ⟨rfl,d,l⟩;rw[zHD c] at d;exact⟨by rw[c],d,λH=>(g H).trans (l H)⟩
theorem zNS {a w:World}{b:Nat}{s t:ByteArray}{dv:Value}{r:Rx}(c:zK s r.at_ t=false)(f:RxAt w b s dv r)(g:∀H,Keep H b a w)(i:s.size<=1048576)(j:r.at_<=2000000)(k:t.size<=1000000):
  Calls prog 189 #[pX b,string t] w λe w'=>e=returned (bool false)/\RxAt w' b s dv r/\∀H,Keep H b a w':=by
 refine(jI w b s dv r f i j t k).mono ?_;rintro e w' ⟨rfl,d,l⟩;rw[zJX c] at d;exact⟨by rw[c],d,λH=>(g H).trans (l H)⟩
theorem zIZ {b:Nat}{s:ByteArray}{dv:Value}{r:Rx}{x y:Nat}{v:Bool}{t:ByteArray}(a:zK s x t=v)(c:s.size<=1048576)(d:x<=2000000)(f:t.size<=1000000)(i:y=if v then x+t.size else x):Hid (∀w,RxAt w b s dv {r with at_:=x}->Calls prog 189 #[pX b,string t] w λe w'=>e=returned (bool v)/\RxAt w' b s dv {r with at_:=y}/\∀H,Keep H b w w'):=λw g=>by
 subst i;cases v with
 |true=>exact zNR (r:={r with at_:=x}) a g (λH=>Keep.refl _ _ _) c d f
 |false=>exact zNS (r:={r with at_:=x}) a g (λH=>Keep.refl _ _ _) c d f
theorem zAd {w:World}{b:Nat}{s:ByteArray}{dv:Value}{r:Rx}{x y:Nat}{v:Bool}(t:ByteArray)(a:s.size<=1048576)(c:x<=2000000)(d:t.size<=1000000)(f:zK s x t=v)(g:y=if v then x+t.size else x)(i:RxAt w b s dv {r with at_:=x}):
  Calls prog 189 #[pX b,string t] w λe w'=>e=returned (bool v)/\RxAt w' b s dv {r with at_:=y}/\∀H,Keep H b w w':=(zIZ f a c d g) w i
theorem zNP {a w:World}{b x:Nat}{s:ByteArray}{c:UInt8}{dv:Value}{r:Rx}(d:zK s x ⟨#[c]⟩=true)(f:RxAt w b s dv {r with at_:=x})(g:∀H,Keep H b a w)(i:s.size<=1048576)(j:x<=2000000):
  Calls prog 189 #[pX b,string ⟨#[c]⟩] w λe w'=>e=returned (bool true)/\RxAt w' b s dv {r with at_:=x+1}/\∀H,Keep H b a w':=zNR (r:={r with at_:=x}) d f g i j (by show 1<=1000000;decide)
theorem zNQ {a w:World}{b x:Nat}{s:ByteArray}{c:UInt8}{dv:Value}{r:Rx}(d:zK s x ⟨#[c]⟩=false)(f:RxAt w b s dv {r with at_:=x})(g:∀H,Keep H b a w)(i:s.size<=1048576)(j:x<=2000000):
  Calls prog 189 #[pX b,string ⟨#[c]⟩] w λe w'=>e=returned (bool false)/\RxAt w' b s dv {r with at_:=x}/\∀H,Keep H b a w':=zNS (r:={r with at_:=x}) d f g i j (by show 1<=1000000;decide)
theorem zEv (s:ByteArray)(p m:Nat):yJ s p m<=m:=by
 have a:(List.range m).findIdx (λj=>decide (jA (byt s (p+j))<0))<=(List.range m).length:=List.findIdx_le_length;rw[List.length_range] at a;exact a
theorem zNJ {b:Nat}{s:ByteArray}{dv:Value}{r:Rx}(x m:Nat)(a:s.size<=1048576)(c:x<=1900000)(d:m<=6):Hid (∀w,RxAt w b s dv {r with at_:=x}->Calls prog 216 #[pX b,iX (m:Int)] w λe w'=>e=returned (tuple #[iX (zAO s x (yJ s x m):Nat),iX (yJ s x m:Nat)])/\RxAt w' b s dv {r with at_:=x+yJ s x m}/\∀H,Keep H b w w'):=λw f=>zK8 w b s dv _ f a c m d
theorem zGX {b:Nat}{s:ByteArray}{dv:Value}{r:Rx}(a:s.size<=1048576)(c:r.at_<=2000000):Hid (∀w,RxAt w b s dv r->Calls prog 200 #[pX b,iX 0] w λe w'=>e=returned (int .u8 (byt s r.at_:Nat))/\w'=w):=λw d=>qH w b s dv r d a c 0 (by omega)
theorem zNU {b:Nat}{s:ByteArray}{dv:Value}{r:Rx}:Hid (∀w,RxAt w b s dv r->RxAt (w.setCell ⟨b,2,none⟩ (iX ((r.at_:Int)+1))) b s dv {r with at_:=r.at_+1}):=λw a=>a.setAt (r.at_+1)
theorem zME {w:World}{b:Nat}{s:ByteArray}{dv:Value}{r:Rx}(a:RxAt w b s dv r):∃c d,c.at_=r.at_+1/\d=w.setCell ⟨b,2,none⟩ (iX ((r.at_:Int)+1))/\RxAt d b s dv c/\(∀H,Keep H b w d)/\Hid (∀q:Nat,({c with at_:=q}:Rx)={r with at_:=q})/\w.cell? ⟨b,2,none⟩=some (iX (r.at_:Int))/\w.frozen? ⟨b,2,none⟩=false:=by
 have e:=a.setAt (r.at_+1);rw[show ((r.at_+1:Nat):Int)=(r.at_:Int)+1 by omega] at e;exact⟨_,_,rfl,rfl,e,λH=>Keep.set _ _ _,λq=>rfl,a.cells.2.2.1,a.cells.2.2.2.2.2 2⟩
structure Sg where
 num:Int
 ok:Bool
 at_:Nat
def zHd (s:ByteArray)(p:Nat):Sg:=⟨(zAO s p (yJ s p 2):Nat),yJ s p 2==2,p+yJ s p 2⟩
def zGE (s:ByteArray)(p:Nat):Sg:=⟨(zAO s p (yJ s p 6):Nat),zK s (p+yJ s p 6) ⟨#[125]⟩&&decide (0<yJ s p 6)&&zDJ (zAO s p (yJ s p 6):Nat),if zK s (p+yJ s p 6) ⟨#[125]⟩ then p+yJ s p 6+1 else p+yJ s p 6⟩
def zKq (c:Nat):Bool:=decide (c<33)||decide (126<c)||xH c||zCh c
def zAM (s:ByteArray)(p:Nat):Sg:=if zK s p ⟨#[110]⟩ then⟨10,true,p+1⟩ else if zK s p ⟨#[116]⟩ then⟨9,true,p+1⟩ else if zK s p ⟨#[120]⟩ then zHd s (p+1) else if zK s p ⟨#[117,123]⟩ then zGE s (p+2) else if zKq (byt s p) then⟨0,false,p⟩ else⟨(byt s p:Nat),true,p+1⟩
theorem zBt (w:World)(b:Nat)(s:ByteArray)(dv:Value)(r:Rx)(h:RxAt w b s dv r)(hs:s.size<=1048576)(ha:r.at_<=1800000):
  Calls prog 209 #[pX b] w λe w'=>e=returned (tuple #[iX (zAM s (r.at_+1)).num,bool (zAM s (r.at_+1)).ok])/\RxAt w' b s dv {r with at_:=(zAM s (r.at_+1)).at_}/\∀H,Keep H b w w':=by
 obtain⟨r1,w0,hat1,hw0,hR,hk,HFR,c2,cf2⟩:=zME h;have ha1:r1.at_<=2000000:=by omega
 have ha2:r1.at_+8<=2000000:=by omega
 obtain⟨es,hes⟩:∃es,es=zAM s (r.at_+1):=⟨_,rfl⟩
 rw[<-hes];rw[<-hat1] at hes;unfold zAM zHd zGE zKq at hes;have HV:=vl hes;have HX2:=zNJ (b:=b) (dv:=dv) (r:=r1) (r1.at_+1) 2 hs (by omega) (by omega);have HX6:=zNJ (b:=b) (dv:=dv) (r:=r1) (r1.at_+2) 6 hs (by omega) (by omega);have hk6:=zEv s (r1.at_+2) 6;have HIS:=vl λw=>zFc w ((zAO s (r1.at_+2) (yJ s (r1.at_+2) 6):Nat):Int);have HP:=zGX (b:=b) (dv:=dv) (r:=r1) hs ha1;have HS:=zNU (b:=b) (s:=s) (dv:=dv) (r:=r1);have hcl:=zAs s r1.at_;have HDG:=vl λw=>zAg w (byt s r1.at_);have HLT:=vl λw=>zFe w (byt s r1.at_);clear h hes hat1;generalize zDJ ((zAO s (r1.at_+2) (yJ s (r1.at_+2) 6):Nat):Int)=ic at *;generalize zAO s (r1.at_+2) (yJ s (r1.at_+2) 6)=n6 at *;generalize yJ s (r1.at_+2) 6=k6 at *;generalize zAO s (r1.at_+1) (yJ s (r1.at_+1) 2)=n2 at *;generalize yJ s (r1.at_+1) 2=k2 at *;generalize byt s r1.at_=c at *;have HB:Hid (((k2:Int)==2)=(k2==2)):=by
  show _=_;by_cases e:k2=2
  ·rw[e];rfl
  ·rw[show (k2==2)=false by rw[hZ];exact e,hZ];omega
 go_in;apply wp_cut;intro K0 HK0;go_wp2;apply HK0.out;clear HK0;apply wp_cut;intro K0 HK0;go_wp2;apply HK0.out;clear HK0;rw[<-hw0];clear hw0 c2 cf2;rcases hn:zK s r1.at_ ⟨#[110]⟩ with _|_;rcases ht:zK s r1.at_ ⟨#[116]⟩ with _|_;rcases hx:zK s r1.at_ ⟨#[120]⟩ with _|_;rcases hu:zK s r1.at_ ⟨#[117,123]⟩ with _|_;rcases Nat.lt_or_ge c 33 with q1|q1;rotate_left;rcases Nat.lt_or_ge 126 c with q2|q2;rotate_left;rcases hdg:xH c with _|_;rcases hlt:zCh c with _|_;rotate_left 3;rcases hc:zK s (r1.at_+2+k6) ⟨#[125]⟩ with _|_;rotate_left;rcases Nat.lt_or_ge 0 k6 with q6|q6
 all_goals
  try rw[hn] at HV
  try rw[ht] at HV
  try rw[hx] at HV
  try rw[hu] at HV
  try rw[hc] at HV
  try rw[dQ q6] at HV
  try rw[gG (Nat.not_lt.2 q6)] at HV
  try rw[dQ q1] at HV
  try rw[gG (Nat.not_lt.2 q1)] at HV
  try rw[dQ q2] at HV
  try rw[gG (Nat.not_lt.2 q2)] at HV
  try rw[hdg] at HV HDG
  try rw[hlt] at HV HLT
  try clear hdg
  try clear hlt
  try have i6:(k6:Int)>0:=by omega
  try have i6:(k6:Int)<=0:=by omega
  try have i1:(c:Int)<33:=by omega
  try have i1:33<=(c:Int):=by omega
  try have i2:126<(c:Int):=by omega
  try have i2:(c:Int)<=126:=by omega
  go_wp2_with (first|(go_at_call 189;(first|refine(zNS (by assumption) hR hk hs (by first|exact ha1|(show r1.at_+2+k6<=2000000;omega)) (by decide)).mono ?_|refine(zNR (by assumption) hR hk hs (by first|exact ha1|(show r1.at_+2+k6<=2000000;omega)) (by decide)).mono ?_);rintro e v ⟨rfl,hR,hk⟩)|(go_at_call 216;(first|refine(HX2 v hR).mono ?_|refine(HX6 v hR).mono ?_);rintro e v ⟨rfl,hR,hk2⟩;replace hk:=λH=>(hk H).trans (hk2 H))|(go_at_call 200;refine(HP v hR).mono ?_;rintro e w9 ⟨rfl,hw9⟩;have hw8:=hw9.symm;subst hw8;obtain⟨-,-,c2,-,-,cf⟩:=hR.cells;have cf2:=cf 2;clear cf)|(go_at_call 191;refine(HIS _).mono ?_;rintro e w9 ⟨rfl,hw9⟩;have hw8:=hw9.symm;subst hw8)|(go_at_call 206;refine(HDG _).mono ?_;rintro e w9 ⟨rfl,hw9⟩;have hw8:=hw9.symm;subst hw8)|(go_at_call 217;refine(HLT _).mono ?_;rintro e w9 ⟨rfl,hw9⟩;have hw8:=hw9.symm;subst hw8))
  refine gJ (results_tmp2 rfl _ _ _) rfl ?_
  first
  |exact⟨by rw[HV.out];rfl,by rw[HV.out,<-HFR.out];exact hR,λH=>hk H⟩
  |exact⟨by rw[HV.out,HB.out];rfl,by rw[HV.out,<-HFR.out];exact hR,λH=>hk H⟩
  |exact⟨by rw[HV.out];first|rfl|(simp;done),by rw[HV.out,<-HFR.out];exact HS _ hR,λH=>(hk H).trans (Keep.set _ _ _)⟩
def zEs (c:Nat):Bool:=c==91||c==93||c==94||c==45|| !isPrintedB c
def xG (s:ByteArray)(p:Nat):Sg:=if byt s p=92 then zAM s (p+1) else if zEs (byt s p) then⟨0,false,p⟩ else⟨(byt s p:Nat),true,p+1⟩
theorem zC0 (w:World)(b:Nat)(s:ByteArray)(dv:Value)(r:Rx)(i:RxAt w b s dv r)(u:s.size<=1048576)(y:r.at_<=1800000):
  Calls prog 219 #[pX b] w λe w'=>e=returned (tuple #[iX (xG s r.at_).num,bool (xG s r.at_).ok])/\RxAt w' b s dv {r with at_:=(xG s r.at_).at_}/\∀H,Keep H b w w':=by
 obtain⟨-,-,c2,-,-,z⟩:=i.cells;have L:=z 2;have p:=vl i;have j:=vl <| qH w b s dv r i u (by omega) 0 (by omega);have A:=vl <| zBt w b s dv r i u y;have k:Hid (xG s r.at_=if byt s r.at_=92 then zAM s (r.at_+1) else if zEs (byt s r.at_) then⟨0,false,r.at_⟩ else⟨(byt s r.at_:Nat),true,r.at_+1⟩):=rfl;have M:=zAs s r.at_;generalize byt s r.at_=c at *;generalize zAM s (r.at_+1)=B at *;generalize xG s r.at_=l at *;by_cases q:c=92
 ·subst q
  have a:Hid (l=B):=by show _=_;rw[k.out,if_pos rfl]
  go_in;go_wp2_with (first|(go_at_call 200;refine j.mono ?_;rintro e g ⟨rfl,d⟩;have f:=d.symm;subst f)|(go_at_call 209;refine A.mono ?_;rintro e w2 ⟨rfl,C,D⟩))
  refine gJ (results_tmp2 rfl _ _ _) rfl ?_;exact⟨by rw[a.out];rfl,by rw[a.out];exact C,D⟩
 by_cases E:c=91\/c=93\/c=94\/c=45
 ·rcases E with rfl|rfl|rfl|rfl
  all_goals
   have a:Hid (l=⟨0,false,r.at_⟩):=by show _=_;rw[k.out,if_neg (by decide),if_pos (by decide)]
   go_in;go_wp2_with (first|(go_at_call 200;refine j.mono ?_;rintro e g ⟨rfl,d⟩;have f:=d.symm;subst f))
   refine gJ (results_tmp2 rfl _ _ _) rfl ?_;exact⟨by rw[a.out];rfl,by rw[a.out];exact p,λH=>Keep.refl _ _ _⟩
 have F:c≠91:=by omega
 have G:c≠93:=by omega
 have I:c≠94:=by omega
 have J:c≠45:=by omega
 have m:Hid (∀w,Ca 218 #[int .u8 (c:Int)] w λe w'=>e=returned (bool (isPrintedB c))/\w'=w):=λw=>zBF w c;have v:Hid (zEs c= !isPrintedB c):=by
  show _=_;unfold zEs;rw[show (c==91)=false by rw[hZ];exact F,show(c==93)=false by rw[hZ];exact G,show(c==94)=false by rw[hZ];exact I,show(c==45)=false by rw[hZ];exact J];rfl
 have N:((c:Int)==92)=false:=by rw[hZ];omega
 have O:((c:Int)==91)=false:=by rw[hZ];omega
 have P:((c:Int)==93)=false:=by rw[hZ];omega
 have Q:((c:Int)==94)=false:=by rw[hZ];omega
 have R:((c:Int)==45)=false:=by rw[hZ];omega
 cases o:isPrintedB c with
 |false=>
  have a:Hid (l=⟨0,false,r.at_⟩):=by show _=_;rw[k.out,if_neg q,if_pos (by rw[v.out,o];rfl)]
  rw[o] at m;have t:=vl m;go_in;go_wp2_with (first|(go_at_call 200;refine j.mono ?_;rintro e g ⟨rfl,d⟩;have f:=d.symm;subst f)|(go_at_call 218;refine(t _).mono ?_;rintro e g ⟨rfl,d⟩;have f:=d.symm;subst f))
  refine gJ (results_tmp2 rfl _ _ _) rfl ?_;exact⟨by rw[a.out];rfl,by rw[a.out];exact p,λH=>Keep.refl _ _ _⟩
 |true=>
  have a:Hid (l=⟨(c:Nat),true,r.at_+1⟩):=by show _=_;rw[k.out,if_neg q,if_neg (by rw[v.out,o];decide)]
  rw[o] at m;have t:=vl m;have K:Hid (RxAt (w.setCell ⟨b,2,none⟩ (iX ((r.at_:Int)+1))) b s dv {r with at_:=r.at_+1}):=by
   have x:=p.setAt (r.at_+1);rw[show ((r.at_+1:Nat):Int)=(r.at_:Int)+1 by omega] at x;exact x
  go_in;go_wp2_with (first|(go_at_call 200;refine j.mono ?_;rintro e g ⟨rfl,d⟩;have f:=d.symm;subst f)|(go_at_call 218;refine(t _).mono ?_;rintro e g ⟨rfl,d⟩;have f:=d.symm;subst f))
  refine gJ (results_tmp2 rfl _ _ _) rfl ?_;exact⟨by rw[a.out];first|rfl|(simp;done),by rw[a.out];exact K,λH=>Keep.set _ _ _⟩
structure Mb where
 low:Int
 high:Int
 ok:Bool
 at_:Nat
def toM (a e:Sg):Mb:=⟨a.num,e.num,e.ok&&decide (a.num<=e.num),e.at_⟩
def yH (s:ByteArray)(p:Nat):Mb:=if(xG s p).ok&&zK s (xG s p).at_ ⟨#[45]⟩ then toM (xG s p) (xG s ((xG s p).at_+1)) else⟨(xG s p).num,(xG s p).num,(xG s p).ok,(xG s p).at_⟩
theorem zH2 (a w:World)(b q:Nat)(s:ByteArray)(dv:Value)(r:Rx)(c d:Int)(p:a.heap.size=q)(j:RxAt w b s dv r)(l:b≠q)(e:∃x y,w.heap[q]? =some (.cells #[x,y] 255))(m:Keep a.heap.size b a w):
  ∃w2,w2=(w.setCell ⟨q,0,none⟩ (iX c)).setCell ⟨q,1,none⟩ (iX d)/\w2.cell? ⟨q,0,none⟩=some (iX c)/\w2.cell? ⟨q,1,none⟩=some (iX d)/\Hid (RxAt w2 b s dv r/\Keep a.heap.size b a w2):=by
 obtain⟨x,y,e⟩:=e;have f:((w.setCell ⟨q,0,none⟩ (iX c)).setCell ⟨q,1,none⟩ (iX d)).heap[q]? =some (.cells #[iX c,iX d] 255):=by
  simp[setCell,lU,e]
 have g:∀i,i≠q->((w.setCell ⟨q,0,none⟩ (iX c)).setCell ⟨q,1,none⟩ (iX d)).heap[i]? =w.heap[i]? :=λi o=>by
  simp[setCell,lU,Ne.symm o]
 refine⟨_,rfl,?_,?_,RxAt.of_block j (g b l),m.trans ⟨rfl,rfl,by simp[World.setCell],λk t _=>g k (by omega)⟩⟩
 ·unfold cell?;rw[f];rfl
 ·unfold cell?;rw[f];rfl
theorem zFx {w:World}{q:Nat}(a:∃x y,w.heap[q]? =some (.cells #[x,y] 255)):(∀i,w.frozen? ⟨q,i,none⟩=false)/\∃x y,w.cell? ⟨q,0,none⟩=some x/\w.cell? ⟨q,1,none⟩=some y:=by
 obtain⟨x,y,a⟩:=a;refine⟨λi=>?_,x,y,?_,?_⟩
 all_goals first|(unfold cell?;rw[a];rfl)|(unfold frozen?;rw[a];simp)
theorem zG2 (w:World)(b:Nat)(s:ByteArray)(dv:Value)(r:Rx)(q:RxAt w b s dv r)(m:s.size<=1048576)(P:r.at_<=1700000)(Q:(xG s r.at_).at_<=1700000):
  Calls prog 215 #[pX b] w λe w'=>e=returned (tuple #[agg #[iX (yH s r.at_).low,iX (yH s r.at_).high],bool (yH s r.at_).ok])/\RxAt w' b s dv {r with at_:=(yH s r.at_).at_}/\Keep w.heap.size b w w':=by
 obtain⟨g,u,G,z,I⟩:∃g,g=w.alloc (.cells #[iX 0,iX 0] 255)/\RxAt g b s dv r/\g.heap[w.heap.size]? =some (.cells #[iX 0,iX 0] 255)/\Hid (Keep w.heap.size b w g):=⟨_,rfl,RxAt.of_block q (lG _ _ _ q.lt),gY _ _,kZ _ _ lQ⟩
 have A:b≠w.heap.size:=kJ q.lt;have J:w.heap.size<g.heap.size:=(kQ.1 z).1;have B:Hid (∀c,(∀H,Keep H b g c)->∃x y,c.heap[w.heap.size]? =some (.cells #[x,y] 255)):=λc d=>⟨_,_,((d g.heap.size).block _ J (Ne.symm A)).trans z⟩
 have C:=vl <| zC0 g b s dv r G m (by omega);have D:=vl λ(w2:World) (h9:RxAt w2 b s dv {r with at_:=(xG s r.at_).at_+1})=>zC0 w2 b s dv {r with at_:=(xG s r.at_).at_+1} h9 m (by show(xG s r.at_).at_+1<=1800000;omega);have a:Hid (yH s r.at_=if(xG s r.at_).ok&&zK s (xG s r.at_).at_ ⟨#[45]⟩ then toM (xG s r.at_) (xG s ((xG s r.at_).at_+1)) else⟨(xG s r.at_).num,(xG s r.at_).num,(xG s r.at_).ok,(xG s r.at_).at_⟩):=rfl;have o:=vl λ(c:World) (r9:Rx) (lo hi:Int) (h9:RxAt c b s dv r9) (hk9:∀H,Keep H b g c)=>zH2 w c b w.heap.size s dv r9 lo hi rfl h9 A (B c hk9) (I.trans (hk9 _));go_in;apply wp_cut;intro R K;go_wp2;apply K.out;rw[<-u];clear u;generalize yH s r.at_=S at *;generalize xG s ((xG s r.at_).at_+1)=s2 at *;generalize xG s r.at_=s1 at *;rcases E:s1.ok with _|_;rotate_left;rcases L:zK s s1.at_ ⟨#[45]⟩ with _|_;rotate_left;rcases F:s2.ok with _|_;rotate_left;rcases p:decide (s1.num<=s2.num) with _|_
 all_goals
  rw[E] at C a;clear E
  try rw[L] at a
  try unfold toM at a
  try rw[F] at D a
  try clear F
  try have M:=of_decide_eq_true p
  try have M:s2.num<s1.num:=by have:=of_decide_eq_false p;omega
  try rw[p] at a
  try clear p
  go_wp2_with (((first|(go_at_call 219;first|(have m2:=N;refine(D v i).mono ?_;rintro e v ⟨rfl,i,O⟩;replace d:=λH=>(d H).trans (O H))|(refine C.mono ?_;rintro e v ⟨rfl,i,d⟩;have N:=trivial))|(go_at_call 189;(first|refine(zNQ (by assumption) i d m (by omega)).mono ?_|refine(zNP (by assumption) i d m (by omega)).mono ?_);rintro e v ⟨rfl,i,d⟩)));obtain⟨t,T,U,V,W⟩:=zFx (B v d);have X:=t 0;have Y:=t 1;clear t)
  first
  |(obtain ⟨c,l,j,k,f⟩:=o v _ s1.num s1.num i d;rw[<-l];refine gJ (v:=tuple #[agg #[iX s1.num,iX s1.num],bool false]) (by simp[results,results215,go_sem,j,k];done) rfl ?_;exact⟨by rw[a.out];rfl,by rw[a.out];exact f.1,f.2⟩)
  |(obtain ⟨c,l,j,k,f⟩:=o v _ s1.num s1.num i d;rw[<-l];refine gJ (v:=tuple #[agg #[iX s1.num,iX s1.num],bool true]) (by simp[results,results215,go_sem,j,k];done) rfl ?_;exact⟨by rw[a.out];rfl,by rw[a.out];exact f.1,f.2⟩)
  |(obtain ⟨c,l,j,k,f⟩:=o v _ s1.num s2.num i d;rw[<-l];refine gJ (v:=tuple #[agg #[iX s1.num,iX s2.num],bool false]) (by first|(simp [results,results215,go_sem,j,k];done)|(simp [results,results215,go_sem,j,k];omega)) rfl ?_;exact⟨by rw[a.out];rfl,by rw[a.out];exact f.1,f.2⟩)
  |(obtain ⟨c,l,j,k,f⟩:=o v _ s1.num s2.num i d;rw[<-l];refine gJ (v:=tuple #[agg #[iX s1.num,iX s2.num],bool true]) (by first|(simp [results,results215,go_sem,j,k];done)|(simp [results,results215,go_sem,j,k];omega)) rfl ?_;exact⟨by rw[a.out];rfl,by rw[a.out];exact f.1,f.2⟩)
section
attribute [local go_sem ↓] Go.wp_at_zero Go.wp_at_succ
structure Agree (X:Nat->Prop)(w w2:World):Prop where
 os:w2.os=w.os
 output:w2.output=w.output
 size:w.heap.size<=w2.heap.size
 block:∀i,i<w.heap.size->X i->w2.heap[i]? =w.heap[i]?
theorem Agree.refl (X:Nat->Prop)(w:World):Agree X w w:=⟨rfl,rfl,lQ,λ_ _ _=>rfl⟩
theorem Agree.trans {X:Nat->Prop}{w w2 c:World}(a:Agree X w w2)(k:Agree X w2 c):Agree X w c:=⟨k.os.trans a.os,k.output.trans a.output,lY a.size k.size,λi d e=>(k.block i (lZ d a.size) e).trans (a.block i d e)⟩
theorem Agree.mono {X c:Nat->Prop}{w w2:World}(a:Agree X w w2)(e:∀i,i<w.heap.size->c i->X i):Agree c w w2:=⟨a.os,a.output,a.size,λi d f=>a.block i d (e i d f)⟩
theorem Keep.agree {H b:Nat}{X:Nat->Prop}{w w2:World}(a:Keep H b w w2)(c:∀i,i<w.heap.size->X i->i<H/\i≠b):Agree X w w2:=⟨a.os,a.output,a.size,λi d e=>a.block i (c i d e).1 (c i d e).2⟩
def RangesIn (X:Nat->Prop)(w:World)(v:Value)(l:List (Int×Int)):Prop:=∀w2,Agree X w w2->RangesAt w2 v l
theorem RangesIn.at {X:Nat->Prop}{w:World}{v:Value}{l:List (Int×Int)}(a:RangesIn X w v l):RangesAt w v l:=a w (Agree.refl X w)
theorem RangesIn.go {X:Nat->Prop}{w w2:World}{v:Value}{l:List (Int×Int)}(c:RangesIn X w v l)(a:Agree X w w2):RangesIn X w2 v l:=λd e=>c d (a.trans e)
theorem RangesIn.mono {X a:Nat->Prop}{w:World}{v:Value}{l:List (Int×Int)}(c:RangesIn X w v l)(d:∀i,i<w.heap.size->X i->a i):RangesIn a w v l:=λe f=>c e (f.mono d)
theorem zGZ {X:Nat->Prop}{w:World}{c:Int}{b:Nat}(d:w.heap[b]? =some (.cells #[iX c,iX c] 255))(e:X b):RangesIn X w (slice (qX b) 1 1) [(c,c)]:=λw2 a=>zKW w2 c b ((a.block b (kQ.1 d).1 e).trans d)
theorem zJi (X:Nat->Prop)(w:World):RangesIn X w (slice none 0 0) []:=λw2 _=>⟨none,0,rfl,lQ,by unfold maxLen;omega,λi a=>absurd a (Nat.not_lt_zero _)⟩
def yZ (ps:List (Int×Int)):List Value:=ps.flatMap λp=>[int i64 p.1,int i64 p.2]
theorem zEZ (a:List (Int×Int))(x y:Int):yZ (a++[(x,y)])=yZ a++[iX x,iX y]:=by simp[yZ]
theorem zCq (a:List (Int×Int))(i:Nat)(c:i<a.length):(yZ a)[i*2]? =some (iX (a.getD i (0,0)).1)/\(yZ a)[i*2+1]? =some (iX (a.getD i (0,0)).2):=by
 induction a generalizing i with
 |nil=>simp at c
 |cons p a d=>
  cases i with
  |zero=>exact⟨rfl,rfl⟩
  |succ i=>
   have:=d i (by simpa using c);have e:yZ (p::a)=iX p.1::iX p.2::yZ a:=rfl;rw[e,show(i+1)*2=i*2+1+1 by omega];exact this
structure Rw (w:World)(H p:Nat)(sv:Value)(l:List (Int×Int))(o:Bool):Prop where
 blk:w.heap[p]? =some (.cells #[sv,bool o] 161)
 own:w.ownsRow H 255 2 sv l.length (yZ l)
 pH:p<H
 lt:H<=w.heap.size
def zOp (w:World)(H p:Nat)(l:List (Int×Int))(o:Bool):Prop:=∃sv,Rw w H p sv l o
structure KeepO (p:Nat)(sv sv':Value)(w w':World):Prop where
 os:w'.os=w.os
 output:w'.output=w.output
 size:w.heap.size<=w'.heap.size
 block:∀k,k<w.heap.size->k≠p->some k≠sv.ownBlock->w'.heap[k]? =w.heap[k]? /\some k≠sv'.ownBlock
theorem KeepO.trans {p:Nat}{sv c d:Value}{w w2 e:World}(a:KeepO p sv c w w2)(k:KeepO p c d w2 e):KeepO p sv d w e:=⟨k.os.trans a.os,k.output.trans a.output,lY a.size k.size,λi f g j=>by
 obtain⟨m,q⟩:=a.block i f g j;obtain⟨r,b2⟩:=k.block i (lZ f a.size) g q;exact⟨r.trans m,b2⟩⟩
theorem KeepO.of_keep {p:Nat}{sv:Value}{w w2:World}(a:Grew w w2):KeepO p sv sv w w2:=⟨a.os,a.output,a.size,λk c _ d=>⟨a.block k c (kJ c),d⟩⟩
theorem KeepO.keep {p H e d n:Nat}{sv f:Value}{xs:List Value}{w w2:World}(a:KeepO p sv f w w2)(g:w.ownsRow H e d sv n xs)(i:H<=w.heap.size):Keep H p w w2:=⟨a.os,a.output,a.size,λk c j=>(a.block k (lZ c i) j λe=>absurd (g.lt k e.symm).1 (Nat.not_le_of_lt c)).1⟩
theorem zDL:(prog.info? 255).map (λi=>(i.zero,i.size,i.bytes))=some (some (agg #[iX 0,iX 0]),2,16):=by kernel_rfl
section
variable {w w2:World} {H p b:Nat} {sv:Value} {l:List (Int×Int)} {o:Bool}
theorem Rw.cells (a:Rw w H p sv l o):w.cell? ⟨p,0,none⟩=some sv/\w.cell? ⟨p,1,none⟩=some (bool o)/\∀i,w.frozen? ⟨p,i,none⟩=false:=by
 refine⟨?_,?_,λi=>?_⟩
 all_goals first|(unfold cell?;rw[a.blk];rfl)|(unfold frozen?;rw[a.blk];simp)
theorem Rw.keep (a:Rw w H p sv l o)(c:Keep w.heap.size b w w2)(j:b<H\/b=w.heap.size)(d:b≠p):Rw w2 H p sv l o:=by
 have e:=a.pH;have f:=a.lt;refine⟨(c.block p (by omega) (Ne.symm d)).trans a.blk,zF a.own λg k i _=>c.block g i (by omega),e,lY f c.size⟩
theorem Rw.in (d:Rw w H p sv l o):RangesIn (λi=>H<=i) w sv l:=λr a=>by
 rcases d.own.2 with⟨c,k⟩|⟨g,cap,s,c,t,u,m,q,v,x⟩
 ·exact⟨none,0,by rw[c,k],by omega,by unfold maxLen;omega,λi e=>by omega⟩
 ·have f:=d.own.lt g (by rw[c];rfl)
  have j:=a.block g f.2 f.1;refine⟨some ⟨g,0,none⟩,cap,c,m,q,λi e=>⟨g,0,rfl,lZ f.2 a.size,?_,?_⟩⟩
  ·have:=d.own.cells (g:=g) (by rw[c];rfl) (i*2) _ (zCq l i e).1
   rw[Addr.add_lit] at this;rw[Nat.zero_add] at this ⊢;exact(gW j).trans this
  ·have:=d.own.cells (g:=g) (by rw[c];rfl) (i*2+1) _ (zCq l i e).2
   rw[Addr.add_lit] at this;rw[Nat.zero_add] at this ⊢;exact(gW j).trans this
theorem Rw.app {q:Obj}{g cap m:Nat}{x y:Int}(c:Rw w H p sv l o)(r:m=l.length)(s:w2.ownsRow H 255 2 (slice (qX g) (m+1) cap) (m+1) (yZ l++[iX x,iX y]))(a:(w.alloc q).grownBy w2 sv.ownBlock)(t:sv.ownBlock=some g\/w.heap.size<=g):
  Rw (w2.setCell ⟨p,0,none⟩ (slice (qX g) (m+1) cap)) H p (slice (qX g) (m+1) cap) (l++[(x,y)]) o/\KeepO p sv (slice (qX g) (m+1) cap) w (w2.setCell ⟨p,0,none⟩ (slice (qX g) (m+1) cap)):=by
 subst r;have d:=c.pH;have D:=c.lt;have u:∀j,j<H->w2.heap[j]? =w.heap[j]? :=λj E=>(a.block j (by simp;omega) λe=>by have:=(c.own.lt j e.symm).1;omega).trans (lG _ _ _ (by omega));have v:=(u p d).trans c.blk;have z:w.heap.size<=w2.heap.size:=lY (by simp) a.size;refine⟨⟨?_,?_,d,by rw[zC];omega⟩,⟨a.os,a.output,by rw[zC];exact z,λk A B f=>⟨(lJ _ _ _ _ B).trans ((a.block k (by simp;omega) f).trans (lG _ _ _ A)),λe=>by
  have C:k=g:=by simpa[Value.ownBlock] using e
  rcases t with i|i
  ·exact f (by rw[i,C])
  ·omega⟩⟩⟩
 ·simp[setCell,lU,v]
 ·rw[zEZ,show(l++[(x,y)]).length=l.length+1 by simp]
  exact zY s d
end
def yW (r:Int×Int)(first last far:Int):List (Int×Int):=if(if first<r.1 then r.1 else first)<=(if r.2<last then r.2 else last) then[((if first<r.1 then r.1 else first)+far,(if r.2<last then r.2 else last)+far)] else[]
theorem zB3 (w:World)(H p:Nat)(sv:Value)(l:List (Int×Int))(o:Bool)(O:Rw w H p sv l o)(ai:l.length<=1000000000)(c d first last a:Int)(aj:0<=first/\first<=1000)(ak:0<=last/\last<=1000)(al:-100<=a/\a<=100):
  Calls prog 213 #[pX p,agg #[iX c,iX d],iX first,iX last,iX a] w λe w'=>e=returned (tuple #[])/\∃s,Rw w' H p s (l++yW (c,d) first last a) o/\KeepO p sv s w w':=by
 obtain⟨P,Q,R,S,T⟩:=info_parts zDL;obtain⟨w1,k,i,am,an,F⟩:∃w1,w1=w.alloc (.cells #[iX c,iX d] 255)/\Hid (Rw w1 H p sv l o)/\w1.cell? ⟨w.heap.size,0,none⟩=some (iX c)/\w1.cell? ⟨w.heap.size,1,none⟩=some (iX d)/\Hid (KeepO p sv sv w w1):=by
  have af:=gY w (.cells #[iX c,iX d] 255);have U:=O.lt;have ao:=O.pH;refine⟨_,rfl,O.keep (kZ (b:=w.heap.size) _ _ lQ) (.inr rfl) (by omega),?_,?_,KeepO.of_keep (kZ _ _ lQ)⟩
  ·unfold cell?;rw[af];rfl
  ·unfold cell?;rw[af];rfl
 clear O;obtain⟨B,z⟩:∃B,B=(if first<c then c else first):=⟨_,rfl⟩
 obtain⟨C,A⟩:∃C,C=(if d<last then d else last):=⟨_,rfl⟩
 have m:Hid (yW (c,d) first last a=if B<=C then[(B+a,C+a)] else[]):=by show _=_;unfold yW;rw[z,A]
 have ap:first<=B:=by rw[z];split <;> omega
 have aq:C<=last:=by rw[A];split <;> omega
 obtain⟨V,-,ag⟩:=i.cells;have W:=ag 0;obtain⟨D,E,ah⟩:=zI i.own;subst ah;have X:w1.ownsRow H 255 2 (slice D l.length E) l.length (yZ l):=i.own;have G:p<w1.heap.size:=lZ i.pH i.lt;have ar:H<=w1.heap.size:=i.lt;have Y:=vl <| zN i.own i.blk (by decide);clear ag;rcases Int.lt_or_le first c with aa|aa <;> rcases Int.lt_or_le d last with ab|ab
 ·
  have I:c=B:=by rw[z];exact(if_pos aa).symm
  have J:d=C:=by rw[A];exact(if_pos ab).symm
  clear z A;subst I J;by_cases u:c<=d
  ·have q:Hid (yW (c,d) first last a=[(c+a,d+a)]):=by show _=_;rw[m.out,if_pos u]
   clear m;go_in;apply wp_cut;intro K g;go_wp2;apply g.out;clear g;rw[<-k];clear k;go_wp2_with (first|(at_builtin;refine wpList_append_lies _ rfl _ _ 159 rfl (H) 255 P (agg #[iX 0,iX 0]) 2 16 underlying159 Q R S T rfl (by decide) _ _ _ rfl (X.alloc _) ⟨w1.heap.size,0,none⟩ 1 1 [iX (c+a),iX (d+a)] rfl rfl (news_of_block (cs:=#[iX (c+a),iX (d+a)]) (t:=255) (fr:=(0,0)) (gY w1 _)) (by simp[Value.oneCell']) (by decide) (by unfold maxLen;omega) (by omega) (by simp;omega) _ rfl ?_;intro L cap w2 v r x U;have y:=r.block p (by simp;omega) Y;have ac:w2.cell? ⟨p,0,none⟩=some (slice D l.length E):=(gW y).trans ((gU _ _ _ G).trans V);have ad:w2.frozen? ⟨p,0,none⟩=false:=(gV y).trans ((frozen?_alloc_past _ _ _ G).trans W)))
   obtain⟨j,M,N⟩:∃j,j=w2.setCell ⟨p,0,none⟩ (slice (qX L) (l.length+1) cap)/\Hid (∃s,Rw j H p s (l++yW (c,d) first last a) o/\KeepO p (slice D l.length E) s w j):=⟨_,rfl,_,by rw[q.out];exact(i.app rfl v r (by rcases x with f|f;exact .inl f;right;rw[f];simp)).1,F.trans (i.app rfl v r (by rcases x with f|f;exact .inl f;right;rw[f];simp)).2⟩
   rw[<-M];go_end0;exact⟨rfl,N⟩
  ·have ae:d<c:=by omega
   have q:Hid (yW (c,d) first last a=[]):=by show _=_;rw[m.out,if_neg u]
   clear m;go_in;apply wp_cut;intro K g;go_wp2;apply g.out;clear g;rw[<-k];clear k;go_wp2;go_end0;exact⟨rfl,_,by rw[q.out,dX];exact i,F⟩
 ·
  have I:c=B:=by rw[z];exact(if_pos aa).symm
  have J:last=C:=by rw[A];exact(if_neg (by omega)).symm
  clear z A;subst I J;by_cases u:c<=last
  ·have q:Hid (yW (c,d) first last a=[(c+a,last+a)]):=by show _=_;rw[m.out,if_pos u]
   clear m;go_in;apply wp_cut;intro K g;go_wp2;apply g.out;clear g;rw[<-k];clear k;go_wp2_with (first|(at_builtin;refine wpList_append_lies _ rfl _ _ 159 rfl (H) 255 P (agg #[iX 0,iX 0]) 2 16 underlying159 Q R S T rfl (by decide) _ _ _ rfl (X.alloc _) ⟨w1.heap.size,0,none⟩ 1 1 [iX (c+a),iX (last+a)] rfl rfl (news_of_block (cs:=#[iX (c+a),iX (last+a)]) (t:=255) (fr:=(0,0)) (gY w1 _)) (by simp[Value.oneCell']) (by decide) (by unfold maxLen;omega) (by omega) (by simp;omega) _ rfl ?_;intro L cap w2 v r x U;have y:=r.block p (by simp;omega) Y;have ac:w2.cell? ⟨p,0,none⟩=some (slice D l.length E):=(gW y).trans ((gU _ _ _ G).trans V);have ad:w2.frozen? ⟨p,0,none⟩=false:=(gV y).trans ((frozen?_alloc_past _ _ _ G).trans W)))
   obtain⟨j,M,N⟩:∃j,j=w2.setCell ⟨p,0,none⟩ (slice (qX L) (l.length+1) cap)/\Hid (∃s,Rw j H p s (l++yW (c,d) first last a) o/\KeepO p (slice D l.length E) s w j):=⟨_,rfl,_,by rw[q.out];exact(i.app rfl v r (by rcases x with f|f;exact .inl f;right;rw[f];simp)).1,F.trans (i.app rfl v r (by rcases x with f|f;exact .inl f;right;rw[f];simp)).2⟩
   rw[<-M];go_end0;exact⟨rfl,N⟩
  ·have ae:last<c:=by omega
   have q:Hid (yW (c,d) first last a=[]):=by show _=_;rw[m.out,if_neg u]
   clear m;go_in;apply wp_cut;intro K g;go_wp2;apply g.out;clear g;rw[<-k];clear k;go_wp2;go_end0;exact⟨rfl,_,by rw[q.out,dX];exact i,F⟩
 ·
  have I:first=B:=by rw[z];exact(if_neg (by omega)).symm
  have J:d=C:=by rw[A];exact(if_pos ab).symm
  clear z A;subst I J;by_cases u:first<=d
  ·have q:Hid (yW (c,d) first last a=[(first+a,d+a)]):=by show _=_;rw[m.out,if_pos u]
   clear m;go_in;apply wp_cut;intro K g;go_wp2;apply g.out;clear g;rw[<-k];clear k;go_wp2_with (first|(at_builtin;refine wpList_append_lies _ rfl _ _ 159 rfl (H) 255 P (agg #[iX 0,iX 0]) 2 16 underlying159 Q R S T rfl (by decide) _ _ _ rfl (X.alloc _) ⟨w1.heap.size,0,none⟩ 1 1 [iX (first+a),iX (d+a)] rfl rfl (news_of_block (cs:=#[iX (first+a),iX (d+a)]) (t:=255) (fr:=(0,0)) (gY w1 _)) (by simp[Value.oneCell']) (by decide) (by unfold maxLen;omega) (by omega) (by simp;omega) _ rfl ?_;intro L cap w2 v r x U;have y:=r.block p (by simp;omega) Y;have ac:w2.cell? ⟨p,0,none⟩=some (slice D l.length E):=(gW y).trans ((gU _ _ _ G).trans V);have ad:w2.frozen? ⟨p,0,none⟩=false:=(gV y).trans ((frozen?_alloc_past _ _ _ G).trans W)))
   obtain⟨j,M,N⟩:∃j,j=w2.setCell ⟨p,0,none⟩ (slice (qX L) (l.length+1) cap)/\Hid (∃s,Rw j H p s (l++yW (c,d) first last a) o/\KeepO p (slice D l.length E) s w j):=⟨_,rfl,_,by rw[q.out];exact(i.app rfl v r (by rcases x with f|f;exact .inl f;right;rw[f];simp)).1,F.trans (i.app rfl v r (by rcases x with f|f;exact .inl f;right;rw[f];simp)).2⟩
   rw[<-M];go_end0;exact⟨rfl,N⟩
  ·have ae:d<first:=by omega
   have q:Hid (yW (c,d) first last a=[]):=by show _=_;rw[m.out,if_neg u]
   clear m;go_in;apply wp_cut;intro K g;go_wp2;apply g.out;clear g;rw[<-k];clear k;go_wp2;go_end0;exact⟨rfl,_,by rw[q.out,dX];exact i,F⟩
 ·
  have I:first=B:=by rw[z];exact(if_neg (by omega)).symm
  have J:last=C:=by rw[A];exact(if_neg (by omega)).symm
  clear z A;subst I J;by_cases u:first<=last
  ·have q:Hid (yW (c,d) first last a=[(first+a,last+a)]):=by show _=_;rw[m.out,if_pos u]
   clear m;go_in;apply wp_cut;intro K g;go_wp2;apply g.out;clear g;rw[<-k];clear k;go_wp2_with (first|(at_builtin;refine wpList_append_lies _ rfl _ _ 159 rfl (H) 255 P (agg #[iX 0,iX 0]) 2 16 underlying159 Q R S T rfl (by decide) _ _ _ rfl (X.alloc _) ⟨w1.heap.size,0,none⟩ 1 1 [iX (first+a),iX (last+a)] rfl rfl (news_of_block (cs:=#[iX (first+a),iX (last+a)]) (t:=255) (fr:=(0,0)) (gY w1 _)) (by simp[Value.oneCell']) (by decide) (by unfold maxLen;omega) (by omega) (by simp;omega) _ rfl ?_;intro L cap w2 v r x U;have y:=r.block p (by simp;omega) Y;have ac:w2.cell? ⟨p,0,none⟩=some (slice D l.length E):=(gW y).trans ((gU _ _ _ G).trans V);have ad:w2.frozen? ⟨p,0,none⟩=false:=(gV y).trans ((frozen?_alloc_past _ _ _ G).trans W)))
   obtain⟨j,M,N⟩:∃j,j=w2.setCell ⟨p,0,none⟩ (slice (qX L) (l.length+1) cap)/\Hid (∃s,Rw j H p s (l++yW (c,d) first last a) o/\KeepO p (slice D l.length E) s w j):=⟨_,rfl,_,by rw[q.out];exact(i.app rfl v r (by rcases x with f|f;exact .inl f;right;rw[f];simp)).1,F.trans (i.app rfl v r (by rcases x with f|f;exact .inl f;right;rw[f];simp)).2⟩
   rw[<-M];go_end0;exact⟨rfl,N⟩
  ·have ae:last<first:=by omega
   have q:Hid (yW (c,d) first last a=[]):=by show _=_;rw[m.out,if_neg u]
   clear m;go_in;apply wp_cut;intro K g;go_wp2;apply g.out;clear g;rw[<-k];clear k;go_wp2;go_end0;exact⟨rfl,_,by rw[q.out,dX];exact i,F⟩
end
end Go.Proofs.YtbjcfkdnjaiclaaGreat
