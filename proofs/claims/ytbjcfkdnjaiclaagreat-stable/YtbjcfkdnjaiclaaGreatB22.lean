import Derived.Test.YtbjcfkdnjaiclaaGreatB0
import Derived.Test.YtbjcfkdnjaiclaaGreatB21
/- Parts of the proof, in order. -/
set_option linter.unusedVariables false
set_option linter.unusedSimpArgs false
set_option maxHeartbeats 4000000
set_option maxRecDepth 100000
namespace Go.Proofs.YtbjcfkdnjaiclaaGreat
open Go.RowKit Go.Proofs.Tryz Go.World
def yX (c:Nat):Bool:=decide (97<=c)&&decide (c<=122)
theorem zCo (w:World)(c:Nat):Calls prog 181 #[.int .u8 (c:Int)] w fun e w'=>e=.returned (.bool (yX c))∧w'=w:=by
 by_cases h1:97<=c
 ·by_cases h2:c<=122
  ·have HV:Hid (yX c=true):=by show _=_;unfold yX;rw[decide_eq_true h1,decide_eq_true h2];rfl
   have i1:(c:Int)>=97:=by omega
   have i2:(c:Int)<=122:=by omega
   go_in;go_wp2;go_ret;exact⟨by rw[HV.out];first|rfl|(simp;done)|(simp;omega),rfl⟩
  ·have HV:Hid (yX c=false):=by show _=_;unfold yX;rw[decide_eq_true h1,decide_eq_false h2];rfl
   have i1:(c:Int)>=97:=by omega
   have i2:122<(c:Int):=by omega
   go_in;go_wp2;go_ret;exact⟨by rw[HV.out];first|rfl|(simp;done)|(simp;omega),rfl⟩
 ·have HV:Hid (yX c=false):=by show _=_;unfold yX;rw[decide_eq_false h1];rfl
  have i1:(c:Int)<97:=by omega
  go_in;go_wp2;go_ret;exact⟨by rw[HV.out];first|rfl|(simp;done)|(simp;omega),rfl⟩
def zGX (s:ByteArray)(c:Nat):Nat:=(List.range s.size).findIdx fun i=>byt s i==c
theorem zMl (s:ByteArray)(c j:Nat)(hj:j<s.size)(h:byt s j=c)(hn:∀i,i<j->byt s i≠c):zGX s c=j:=
 zDd _ _ j (by rw[List.length_range];exact hj) (by rw[qK _ _ hj];exact beq_iff_eq.2 h) fun k hk=>by rw[qK _ _ (by omega)];exact beq_eq_false_iff_ne.2 (hn k hk)
theorem zKG (s:ByteArray)(c:Nat)(hn:∀i,i<s.size->byt s i≠c):zGX s c=s.size:=by
 have h:=zA6 (List.range s.size) (fun i=>byt s i==c) fun k hk=>by
  rw[List.length_range] at hk;rw[qK _ _ hk];exact beq_eq_false_iff_ne.2 (hn k hk)
 rw[List.length_range] at h;exact h
def jS (s:ByteArray)(c:Nat):Bool:=decide (zGX s c<s.size)
def yM (s:ByteArray)(c:Nat):ByteArray:=if jS s c then s.extract 0 (zGX s c) else s
def qE (s:ByteArray)(c:Nat):ByteArray:=if jS s c then s.extract (zGX s c+1) s.size else⟨#[]⟩
theorem zCe (w:World)(s:ByteArray)(hs:s.size<=1048576)(c:Nat):
  Calls prog 86 #[.string s,.int .u8 (c:Int)] w fun e w'=>e=.returned (.tuple #[.string (yM s c),.string (qE s c),.bool (jS s c)])∧Grew w w':=by
 have H1:Hid (∀j,j<s.size->byt s j=c->(∀i,i<j->byt s i≠c)->zGX s c=j):=fun j=>zMl s c j;have H2:=vl <| zKG s c;have HV:Hid (∀j,zGX s c=j->j<s.size->(jS s c=true∧yM s c=s.extract 0 j∧qE s c=s.extract (j+1) s.size)):=fun j e hj=>by
  have h1:jS s c=true:=by unfold jS;rw[e];exact decide_eq_true hj
  exact⟨h1,by unfold yM;rw[if_pos h1,e],by unfold qE;rw[if_pos h1,e]⟩
 have HN:Hid (zGX s c=s.size->(jS s c=false∧yM s c=s∧qE s c=⟨#[]⟩)):=fun e=>by
  have h1:jS s c=false:=by unfold jS;rw[e];exact decide_eq_false (by omega)
  exact⟨h1,by unfold yM;rw[if_neg (by rw[h1];decide)],by unfold qE;rw[if_neg (by rw[h1];decide)]⟩
 generalize jS s c=K at *;generalize yM s c=A at *;generalize qE s c=B at *;go_in;go_wp2;go_loopg [7] s.size (fun q i wr=>∃j:Nat,q=s.size-j∧j<=s.size∧i=.int .i64 (j:Int)∧(∀k,k<j->byt s k≠c)∧wr=w)
 case atStart=>exact⟨0,rfl,Nat.zero_le _,rfl,fun k hk=>by omega,rfl⟩
 case round=>
  obtain⟨j,hgk,hj,rfl,hno,rfl⟩:=hrel;have HA:Hid (gk=s.size-j∧(∀k,k<j->byt s k≠c)):=⟨hgk,hno⟩
  by_cases hj2:j<s.size
  ·have i1:(j:Int)<(s.size:Int):=by omega
   have i0:¬(j:Int)<0:=by omega
   have hbe:=zFn s j hj2;clear hgk hno;by_cases hc:byt s j=c
   ·have HC:=vl <| HV.out j (H1.out j hj2 hc HA.out.2) hj2
    have ec:((byt s j:Int)==(c:Int))=true:=by rw[hc];exact beq_self_eq_true _
    have i3:(0:Int)<=(j:Int):=by omega
    have i4:(j:Int)<=(s.size:Int):=by omega
    have i5:(0:Int)<=(j:Int)+1:=by omega
    have i6:(j:Int)+1<=(s.size:Int):=by omega
    have HTN:Hid (((j:Int)+1).toNat=j+1):=by show _=_;omega
    generalize byt s j=x at *;go_wp2;go_quiet (fail);go_wp2;refine bodyPost_ret (v:=.tuple #[.string (s.extract 0 j),.string (s.extract (j+1) s.size),.bool true]) (by simp[results,results86,go_sem]) rfl ?_;exact⟨by rw[HC.out.1,HC.out.2.1,HC.out.2.2],Keep.alike (w':=wr.drewN nq) ⟨rfl,rfl,rfl⟩⟩
   ·have ec:((byt s j:Int)==(c:Int))=false:=by rw[beq_eq_false_iff_ne];omega
    have HNO:Hid (∀k,k<j+1->byt s k≠c):=fun k hk=>by
     by_cases e:k=j
     ·rw[e];exact hc
     ·exact HA.out.2 k (by omega)
    clear hc;generalize byt s j=x at *;go_wp2;go_roundg (s.size-(j+1))
    case measure=>rw[HA.out.1];omega
    case rel=>exact⟨j+1,rfl,by omega,by go_num,HNO.out,rfl⟩
  ·have i1:(s.size:Int)<=(j:Int):=by omega
   have HC:=vl <| HN.out (H2.out fun k hk=>hno k (by omega));clear hgk hno;go_wp2;refine bodyPost_ret (v:=.tuple #[.string s,.string ⟨#[]⟩,.bool false]) (by simp[results,results86,go_sem]) rfl ?_;exact⟨by rw[HC.out.1,HC.out.2.1,HC.out.2.2],Keep.refl _ _ _⟩
theorem zAm (s:ByteArray):s.toList.isEmpty=decide (s.size=0):=by
 rw[ByteArray.toList_eq];have e:s.size=s.data.toList.length:=rfl;cases h:s.data.toList with
 |nil=>rw[e,h];rfl
 |cons a l=>rw[e,h];rfl
def vR (c:Nat):Bool:=yX c||xF c
def xG (s:ByteArray):Bool:=decide (0<s.size)&&(decide (s.size<=6)&&(yX (byt s 0)&&decide (∀i,i<s.size->i=0∨vR (byt s i)=true)))
theorem vE (w:World)(s:ByteArray)(hs:s.size<=1048576):Calls prog 160 #[.string s] w fun e w'=>e=.returned (.bool (xG s))∧w'=w:=by
 have hE:=zAm s;by_cases h0:s.size=0
 ·have HV:Hid (xG s=false):=by show _=_;unfold xG;rw[decide_eq_false (show¬0<s.size by omega),Bool.false_and]
  rw[decide_eq_true h0] at hE;go_in;go_wp2;go_ret;exact⟨by rw[HV.out];rfl,rfl⟩
 rw[decide_eq_false h0] at hE;by_cases h6:6<s.size
 ·have HV:Hid (xG s=false):=by show _=_;unfold xG;rw[decide_eq_false (show¬s.size<=6 by omega),Bool.false_and,Bool.and_false]
  have i6:6<(s.size:Int):=by omega
  go_in;go_wp2;go_ret;exact⟨by rw[HV.out];rfl,rfl⟩
 have i6:(s.size:Int)<=6:=by omega
 have hz:0<s.size:=by omega
 have i0:(0:Int)<(s.size:Int):=by omega
 have hb0:=zFn s 0 hz;have HV0:Hid (xG s=(yX (byt s 0)&&decide (∀i,i<s.size->i=0∨vR (byt s i)=true))):=by show _=_;unfold xG;rw[decide_eq_true hz,decide_eq_true (show s.size<=6 by omega),Bool.true_and,Bool.true_and]
 have HS0:Hid (∀w,Calls prog 181 #[.int .u8 (byt s 0:Nat)] w fun e w'=>e=.returned (.bool (yX (byt s 0)))∧w'=w):=fun w=>zCo w (byt s 0);cases hsm:yX (byt s 0) with
 |false=>
  have HV:Hid (xG s=false):=by show _=_;rw[HV0.out,hsm,Bool.false_and]
  rw[hsm] at HS0;have HS1:=vl HS0;generalize byt s 0=c0 at *;go_in;go_wp2_with (first|(go_at_call 181;refine(HS1.out _).mono ?_;rintro e w9 ⟨rfl,hw9⟩;have hw8:=hw9.symm;subst hw8))
  go_ret;exact⟨by rw[HV.out];rfl,rfl⟩
 |true=>
  have HV:Hid (xG s=decide (∀i,i<s.size->i=0∨vR (byt s i)=true)):=by show _=_;rw[HV0.out,hsm,Bool.true_and]
  rw[hsm] at HS0;have HS1:=vl HS0;generalize xG s=V at *;go_in;refine wp_cut ?_;intro K0 HK0;go_wp2;refine HK0.out _ _ ?_;generalize byt s 0=c0 at hb0 HS1;refine wp_cut ?_;intro K0 HK0;go_wp2_with (first|(go_at_call 181;refine(HS1.out _).mono ?_;rintro e w9 ⟨rfl,hw9⟩;have hw8:=hw9.symm;subst hw8))
  refine HK0.out _ _ ?_;go_wp2;go_loopg [3] (s.size-1) (fun q i wr=>∃j:Nat,q=s.size-j∧1<=j∧j<=s.size∧i=.int .i64 (j:Int)∧(∀k,k<j->k=0∨vR (byt s k)=true)∧wr=w)
  case atStart=>exact⟨1,rfl,Nat.le_refl _,hz,rfl,fun k hk=>.inl (by omega),rfl⟩
  case round=>
   obtain⟨j,hgk,hj1,hj,rfl,hno,rfl⟩:=hrel;have HA:Hid (gk=s.size-j∧(∀k,k<j->k=0∨vR (byt s k)=true)):=⟨hgk,hno⟩
   by_cases hj2:j<s.size
   ·have i1:(j:Int)<(s.size:Int):=by omega
    have i2:¬(j:Int)<0:=by omega
    have hbe:=zFn s j hj2;have HSJ:Hid (∀w,Calls prog 181 #[.int .u8 (byt s j:Nat)] w fun e w'=>e=.returned (.bool (yX (byt s j)))∧w'=w):=fun w=>zCo w (byt s j);have HNO:Hid (vR (byt s j)=true->∀k,k<j+1->k=0∨vR (byt s k)=true):=fun h k hk=>by
     by_cases e:k=j
     ·rw[e];exact .inr h
     ·exact HA.out.2 k (by omega)
    have HNV:Hid (vR (byt s j)=false->V=false):=fun h=>by
     rw[HV.out];exact decide_eq_false fun hh=>by
      rcases hh j hj2 with h1|h1
      ·omega
      ·rw[h] at h1;cases h1
    generalize byt s j=c at *;cases hsj:yX c with
    |true=>
     rw[hsj] at HSJ;have HSK:=vl HSJ;have HN2:=HNO.out (by unfold vR;rw[hsj];rfl);go_wp2_with (first|(go_at_call 181;refine(HSK.out _).mono ?_;rintro e w9 ⟨rfl,hw9⟩;have hw8:=hw9.symm;subst hw8))
     go_roundg (s.size-(j+1))
     case measure=>rw[HA.out.1];omega
     case rel=>exact⟨j+1,rfl,by omega,by omega,by go_num,HN2,rfl⟩
    |false=>
     rw[hsj] at HSJ;have HSK:=vl HSJ;by_cases c1:c<48
     ·have d1:(c:Int)<48:=by omega
      have HN2:=vl <| HNV.out (by unfold vR xF;rw[hsj,decide_eq_false (show¬48<=c by omega)];rfl);go_wp2_with (first|(go_at_call 181;refine(HSK.out _).mono ?_;rintro e w9 ⟨rfl,hw9⟩;have hw8:=hw9.symm;subst hw8))
      go_ret;exact⟨by rw[HN2.out];rfl,rfl⟩
     by_cases c2:57<c
     ·have d1:¬(c:Int)<48:=by omega
      have d2:57<(c:Int):=by omega
      have HN2:=vl <| HNV.out (by unfold vR xF;rw[hsj,decide_eq_false (show¬c<=57 by omega),Bool.and_false];rfl);go_wp2_with (first|(go_at_call 181;refine(HSK.out _).mono ?_;rintro e w9 ⟨rfl,hw9⟩;have hw8:=hw9.symm;subst hw8))
      go_ret;exact⟨by rw[HN2.out];rfl,rfl⟩
     ·have d1:¬(c:Int)<48:=by omega
      have d2:¬57<(c:Int):=by omega
      have HN2:=HNO.out (by unfold vR xF;rw[hsj,decide_eq_true (show 48<=c by omega),decide_eq_true (show c<=57 by omega)];rfl);go_wp2_with (first|(go_at_call 181;refine(HSK.out _).mono ?_;rintro e w9 ⟨rfl,hw9⟩;have hw8:=hw9.symm;subst hw8))
      go_roundg (s.size-(j+1))
      case measure=>rw[HA.out.1];omega
      case rel=>exact⟨j+1,rfl,by omega,by omega,by go_num,HN2,rfl⟩
   ·have i1:(s.size:Int)<=(j:Int):=by omega
    have HN2:Hid (V=true):=by
     show _=_;rw[HV.out];exact decide_eq_true fun i hi=>hno i (by omega)
    go_wp2;go_ret;exact⟨by rw[HN2.out];rfl,rfl⟩
structure Ac where
 act:Nat
 name:ByteArray
 ok:Bool
def eqS (a b:ByteArray):Bool:=a.toList==b.toList
def zHH (s:ByteArray):Ac:=if byt s 0=62&&xG (s.extract 1 s.size) then⟨2,s.extract 1 s.size,true⟩ else⟨0,⟨#[]⟩,false⟩
def zAZ (s:ByteArray):Ac:=if s.size=0 then⟨0,⟨#[]⟩,false⟩ else if eqS s ⟨#[46]⟩ then⟨0,⟨#[]⟩,true⟩ else if eqS s ⟨#[45]⟩ then⟨1,⟨#[]⟩,true⟩ else if eqS s ⟨#[60]⟩ then⟨3,⟨#[]⟩,true⟩ else zHH s
theorem zCi (w:World)(s:ByteArray)(hs:s.size<=1048576):Calls prog 163 #[.string s] w fun e w'=>e=.returned (.tuple #[.int .i64 ((zAZ s).act:Int),.string (zAZ s).name,.bool (zAZ s).ok])∧Grew w w':=by
 have hE:=zAm s;have h46:(⟨#[46]⟩:ByteArray).toList=[46]:=by rw[ByteArray.toList_eq]
 have h45:(⟨#[45]⟩:ByteArray).toList=[45]:=by rw[ByteArray.toList_eq]
 have h60:(⟨#[60]⟩:ByteArray).toList=[60]:=by rw[ByteArray.toList_eq]
 by_cases h0:s.size=0
 ·have HV:Hid (zAZ s=⟨0,⟨#[]⟩,false⟩):=by show _=_;unfold zAZ;rw[if_pos h0]
  rw[decide_eq_true h0] at hE;rw[HV.out];go_in;go_wp2;refine bodyPost_ret (v:=.tuple #[.int .i64 0,.string ⟨#[]⟩,.bool false]) (by simp[results,results163,go_sem]) rfl ?_;exact⟨rfl,Keep.refl _ _ _⟩
 rw[decide_eq_false h0] at hE;have HV0:Hid (zAZ s=if eqS s ⟨#[46]⟩ then⟨0,⟨#[]⟩,true⟩ else if eqS s ⟨#[45]⟩ then⟨1,⟨#[]⟩,true⟩ else if eqS s ⟨#[60]⟩ then⟨3,⟨#[]⟩,true⟩ else zHH s):=by show _=_;unfold zAZ;rw[if_neg h0]
 cases e1:eqS s ⟨#[46]⟩ with
 |true=>
  have HV:Hid (zAZ s=⟨0,⟨#[]⟩,true⟩):=by show _=_;rw[HV0.out,e1];rfl
  have e2:(s.toList==[46])=true:=by rw[<-h46];exact e1
  rw[HV.out];go_in;go_wp2;refine bodyPost_ret (v:=.tuple #[.int .i64 0,.string ⟨#[]⟩,.bool true]) (by simp[results,results163,go_sem]) rfl ?_;exact⟨rfl,Keep.refl _ _ _⟩
 |false=>
 have f1:(s.toList==[46])=false:=by rw[<-h46];exact e1
 rw[e1] at HV0;cases e2:eqS s ⟨#[45]⟩ with
 |true=>
  have HV:Hid (zAZ s=⟨1,⟨#[]⟩,true⟩):=by show _=_;rw[HV0.out,e2];rfl
  have g2:(s.toList==[45])=true:=by rw[<-h45];exact e2
  rw[HV.out];go_in;go_wp2;refine bodyPost_ret (v:=.tuple #[.int .i64 1,.string ⟨#[]⟩,.bool true]) (by simp[results,results163,go_sem]) rfl ?_;exact⟨rfl,Keep.refl _ _ _⟩
 |false=>
 have f2:(s.toList==[45])=false:=by rw[<-h45];exact e2
 rw[e2] at HV0;cases e3:eqS s ⟨#[60]⟩ with
 |true=>
  have HV:Hid (zAZ s=⟨3,⟨#[]⟩,true⟩):=by show _=_;rw[HV0.out,e3];rfl
  have g3:(s.toList==[60])=true:=by rw[<-h60];exact e3
  rw[HV.out];go_in;go_wp2;refine bodyPost_ret (v:=.tuple #[.int .i64 3,.string ⟨#[]⟩,.bool true]) (by simp[results,results163,go_sem]) rfl ?_;exact⟨rfl,Keep.refl _ _ _⟩
 |false=>
 have f3:(s.toList==[60])=false:=by rw[<-h60];exact e3
 rw[e3] at HV0;have HV1:=vl HV0.out;have hz:0<s.size:=by omega
 have i0:(0:Int)<(s.size:Int):=by omega
 have i1:(1:Int)<=(s.size:Int):=by omega
 have hb0:=zFn s 0 hz;have HVP:Hid (zHH s=if byt s 0=62&&xG (s.extract 1 s.size) then⟨2,s.extract 1 s.size,true⟩ else⟨0,⟨#[]⟩,false⟩):=rfl;have HNM:Hid (∀w,Calls prog 160 #[.string (s.extract 1 s.size)] w fun e w'=>e=.returned (.bool (xG (s.extract 1 s.size)))∧w'=w):=fun w=>vE w _ (by rw[ByteArray.size_extract];omega);rw[HV1.out];generalize xG (s.extract 1 s.size)=nb at *;generalize zHH s=pa at *;generalize byt s 0=c at *;by_cases hc:c=62
 ·subst hc
  cases nb with
  |true=>
   have HV:=vl HVP.out;rw[HV.out];go_in;go_wp2_with (first|(go_at_call 160;refine(HNM.out _).mono ?_;rintro e w9 ⟨rfl,hw9⟩;have hw8:=hw9.symm;subst hw8))
   go_quiet (fail);go_wp2;refine bodyPost_ret (v:=.tuple #[.int .i64 2,.string (s.extract 1 s.size),.bool true]) (by simp[results,results163,go_sem]) rfl ?_;exact⟨rfl,Keep.alike (w':=w.drewN nq) ⟨rfl,rfl,rfl⟩⟩
  |false=>
   have HV:=vl HVP.out;rw[HV.out];go_in;go_wp2_with (first|(go_at_call 160;refine(HNM.out _).mono ?_;rintro e w9 ⟨rfl,hw9⟩;have hw8:=hw9.symm;subst hw8))
   refine bodyPost_ret (v:=.tuple #[.int .i64 0,.string ⟨#[]⟩,.bool false]) (by simp[results,results163,go_sem]) rfl ?_;exact⟨rfl,Keep.refl _ _ _⟩
 ·have HV:Hid (pa=⟨0,⟨#[]⟩,false⟩):=by show _=_;rw[HVP.out,decide_eq_false hc];rfl
  have ec:((c:Int) != 62)=true:=by simp;omega
  rw[HV.out];go_in;go_wp2;refine bodyPost_ret (v:=.tuple #[.int .i64 0,.string ⟨#[]⟩,.bool false]) (by simp[results,results163,go_sem]) rfl ?_;exact⟨rfl,Keep.refl _ _ _⟩
section
structure Rx where
 at_:Nat
 depth:Nat
 both:Bool
def RxAt (w:World)(b:Nat)(s:ByteArray)(dv:Value)(r:Rx):Prop:=w.heap[b]? =some (.cells #[.string s,dv,.int .i64 (r.at_:Int),.int .i64 (r.depth:Int),.bool r.both] 252)
namespace RxAt
variable {w w':World} {b:Nat} {s:ByteArray} {dv:Value} {r:Rx}
theorem lt (h:RxAt w b s dv r):b<w.heap.size:=(Array.getElem?_eq_some_iff.1 h).1
theorem cells (h:RxAt w b s dv r):w.cell? ⟨b,0,none⟩=some (.string s)∧w.cell? ⟨b,1,none⟩=some dv∧w.cell? ⟨b,2,none⟩=some (.int .i64 (r.at_:Int))∧w.cell? ⟨b,3,none⟩=some (.int .i64 (r.depth:Int))∧w.cell? ⟨b,4,none⟩=some (.bool r.both)∧∀i,w.frozen? ⟨b,i,none⟩=false:=by
 unfold RxAt at h;refine⟨?_,?_,?_,?_,?_,fun i=>?_⟩
 all_goals first|(unfold cell?;rw[h];rfl)|(unfold frozen?;rw[h];simp)
theorem of_block (h:RxAt w b s dv r)(e:w'.heap[b]? =w.heap[b]?):RxAt w' b s dv r:=e.trans h
theorem setAt (h:RxAt w b s dv r)(q:Nat):RxAt (w.setCell ⟨b,2,none⟩ (.int .i64 (q:Int))) b s dv {r with at_:=q}:=by
 unfold RxAt at *;simp[setCell,Array.getElem?_modify,h]
end RxAt
theorem qC (w:World)(b:Nat)(s:ByteArray)(dv:Value)(r:Rx)(h:RxAt w b s dv r)(hs:s.size<=1048576)(ha:r.at_<=2000000)(k:Nat)(hk:k<=1):
  Calls prog 200 #[.pointer (some ⟨b,0,none⟩),.int .i64 (k:Int)] w fun e w'=>e=.returned (.int .u8 (byt s (r.at_+k):Nat))∧w'=w:=by
 obtain⟨c0,-,c2,-,-,-⟩:=h.cells;by_cases hi:r.at_+k<s.size
 ·have HV:Hid (byt s (r.at_+k)=byt s (r.at_+k)):=rfl
  have i0:¬((r.at_:Int)+(k:Int)<0):=by omega
  have i1:(r.at_:Int)+(k:Int)<(s.size:Int):=by omega
  go_in;go_wp2;go_ret;exact⟨by rw[<-zFn s _ hi];rfl,rfl⟩
 ·have HV:Hid (byt s (r.at_+k)=0):=zJH s _ (by omega)
  have i0:¬((r.at_:Int)+(k:Int)<0):=by omega
  have i1:(s.size:Int)<=(r.at_:Int)+(k:Int):=by omega
  go_in;go_wp2;go_ret;exact⟨by rw[HV.out];rfl,rfl⟩
def zI (s:ByteArray)(i:Nat)(t:ByteArray):Bool:=decide (i+t.size<=s.size)&&((s.extract i (i+t.size)).toList==t.toList)
def Rx.take (r:Rx)(s t:ByteArray):Rx:=if zI s r.at_ t then{r with at_:=r.at_+t.size} else r
theorem jB (w:World)(b:Nat)(s:ByteArray)(dv:Value)(r:Rx)(h:RxAt w b s dv r)(hs:s.size<=1048576)(ha:r.at_<=2000000)(t:ByteArray)(ht:t.size<=1000000):
  Calls prog 189 #[.pointer (some ⟨b,0,none⟩),.string t] w fun e w'=>e=.returned (.bool (zI s r.at_ t))∧RxAt w' b s dv (r.take s t)∧∀H,Keep H b w w':=by
 obtain⟨c0,-,c2,-,-,cf⟩:=h.cells;have cf2:=cf 2;have HR:=vl h;have htn:((r.at_:Int)+(t.size:Int)).toNat=r.at_+t.size:=by omega
 by_cases hi:r.at_+t.size<=s.size
 ·have i0:¬((s.size:Int)<(r.at_:Int)+(t.size:Int)):=by omega
  have i1:(r.at_:Int)+(t.size:Int)<=(s.size:Int):=by omega
  have i2:(0:Int)<=(r.at_:Int):=by omega
  have i3:(r.at_:Int)<=(r.at_:Int)+(t.size:Int):=by omega
  cases hc:((s.extract r.at_ (r.at_+t.size)).toList==t.toList) with
  |true=>
   have htb:zI s r.at_ t=true:=by unfold zI;rw[decide_eq_true hi,hc];rfl
   have HV:Hid (zI s r.at_ t=true∧r.take s t={r with at_:=r.at_+t.size}):=⟨htb,by unfold Rx.take;rw[if_pos htb]⟩
   have hce:((s.extract r.at_ ((r.at_:Int)+(t.size:Int)).toNat).toList==t.toList)=true:=by rw[htn];exact hc
   go_in;go_wp2;go_quiet (fail);go_wp2;go_ret;refine⟨by rw[HV.out.1];rfl,?_,fun H=>Keep.drewSet w _ _ _⟩;rw[HV.out.2];have h2:=(RxAt.of_block (w':=w.drewN nq) HR.out rfl).setAt (r.at_+t.size);rw[show ((r.at_+t.size:Nat):Int)=(r.at_:Int)+(t.size:Int) by omega] at h2;exact h2
  |false=>
   have htb:zI s r.at_ t=false:=by unfold zI;rw[decide_eq_true hi,hc];rfl
   have HV:Hid (zI s r.at_ t=false∧r.take s t=r):=⟨htb,by unfold Rx.take;rw[if_neg (by rw[htb];decide)]⟩
   have hce:((s.extract r.at_ ((r.at_:Int)+(t.size:Int)).toNat).toList==t.toList)=false:=by rw[htn];exact hc
   go_in;go_wp2;go_quiet (fail);go_wp2;go_ret;exact⟨by rw[HV.out.1];rfl,by rw[HV.out.2];exact RxAt.of_block HR.out rfl,fun H=>Keep.alike (w':=w.drewN nq) ⟨rfl,rfl,rfl⟩⟩
 ·have htb:zI s r.at_ t=false:=by unfold zI;rw[decide_eq_false hi];rfl
  have HV:Hid (zI s r.at_ t=false∧r.take s t=r):=⟨htb,by unfold Rx.take;rw[if_neg (by rw[htb];decide)]⟩
  have i1:(s.size:Int)<(r.at_:Int)+(t.size:Int):=by omega
  go_in;go_wp2;go_quiet (fail);go_wp2;go_ret;exact⟨by rw[HV.out.1];rfl,by rw[HV.out.2];exact RxAt.of_block HR.out rfl,fun H=>Keep.alike (w':=w.drewN nq) ⟨rfl,rfl,rfl⟩⟩
end
def xX (c:Nat):Bool:=xF c&&decide (c<=52)
def zAY (c:Nat):Int:=if xX c then(c:Int)-48 else -1
def Rx.on (r:Rx)(k:Bool):Rx:=if k then{r with at_:=r.at_+1} else r
theorem zD8 (w:World)(b:Nat)(s:ByteArray)(dv:Value)(r:Rx)(h:RxAt w b s dv r)(hs:s.size<=1048576)(ha:r.at_<=2000000):
  Calls prog 214 #[.pointer (some ⟨b,0,none⟩)] w fun e w'=>e=.returned (.int .i64 (zAY (byt s r.at_)))∧RxAt w' b s dv (r.on (xX (byt s r.at_)))∧∀H,Keep H b w w':=by
 obtain⟨-,-,c2,-,-,cf⟩:=h.cells;have cf2:=cf 2;have HR:=vl h;have HPK:=vl <| qC w b s dv r h hs ha 0 (by omega);have hlt:=zAi s r.at_;generalize byt s r.at_=c at *;have HDG0:Hid (∀w,Calls prog 206 #[.int .u8 (c:Int)] w fun e w'=>e=.returned (.bool (xF c))∧w'=w):=fun w=>jW w c;cases hd:xF c with
 |false=>
  have hk:xX c=false:=by unfold xX;rw[hd];rfl
  have HV:Hid (zAY c=-1∧r.on (xX c)=r):=⟨by unfold zAY;rw[if_neg (by rw[hk];decide)],by unfold Rx.on;rw[if_neg (by rw[hk];decide)]⟩
  rw[hd] at HDG0;have HDG:=vl HDG0.out;go_in;go_wp2_with (first|(go_at_call 200;refine HPK.out.mono ?_;rintro e w9 ⟨rfl,hw9⟩;have hw8:=hw9.symm;subst hw8)|(go_at_call 206;refine(HDG.out _).mono ?_;rintro e w9 ⟨rfl,hw9⟩;have hw8:=hw9.symm;subst hw8))
  go_ret;exact⟨by rw[HV.out.1];rfl,by rw[HV.out.2];exact HR.out,fun H=>Keep.refl _ _ _⟩
 |true=>
  have hr:48<=c∧c<=57:=by unfold xF at hd;simpa using hd
  rw[hd] at HDG0;have HDG:=vl HDG0.out;have hw:IntKind.u8.wrap ((c:Int)-48)=(c:Int)-48:=by rw[IntKind.wrap_u8];omega
  by_cases h4:c<=52
  ·have hk:xX c=true:=by unfold xX;rw[hd,decide_eq_true h4];rfl
   have HV:Hid (zAY c=(c:Int)-48∧r.on (xX c)={r with at_:=r.at_+1}):=⟨by unfold zAY;rw[if_pos hk],by unfold Rx.on;rw[if_pos hk]⟩
   have i1:(c:Int)-48<=4:=by omega
   go_in;go_wp2_with (first|(go_at_call 200;refine HPK.out.mono ?_;rintro e w9 ⟨rfl,hw9⟩;have hw8:=hw9.symm;subst hw8)|(go_at_call 206;refine(HDG.out _).mono ?_;rintro e w9 ⟨rfl,hw9⟩;have hw8:=hw9.symm;subst hw8))
   go_ret;refine⟨by rw[HV.out.1];first|rfl|(simp [hw];done)|(simp;omega),?_,fun H=>Keep.set _ _ _⟩;rw[HV.out.2];have h2:=HR.out.setAt (r.at_+1);rw[show ((r.at_+1:Nat):Int)=(r.at_:Int)+1 by omega] at h2;exact h2
  ·have hk:xX c=false:=by unfold xX;rw[hd,decide_eq_false h4];rfl
   have HV:Hid (zAY c=-1∧r.on (xX c)=r):=⟨by unfold zAY;rw[if_neg (by rw[hk];decide)],by unfold Rx.on;rw[if_neg (by rw[hk];decide)]⟩
   have i1:4<(c:Int)-48:=by omega
   go_in;go_wp2_with (first|(go_at_call 200;refine HPK.out.mono ?_;rintro e w9 ⟨rfl,hw9⟩;have hw8:=hw9.symm;subst hw8)|(go_at_call 206;refine(HDG.out _).mono ?_;rintro e w9 ⟨rfl,hw9⟩;have hw8:=hw9.symm;subst hw8))
   go_ret;exact⟨by rw[HV.out.1];rfl,by rw[HV.out.2];exact HR.out,fun H=>Keep.refl _ _ _⟩
def zBz (s:ByteArray)(i:Nat):Bool:=decide (s.size<=i)||(byt s i==124||byt s i==41)
theorem zFD (w:World)(b:Nat)(s:ByteArray)(dv:Value)(r:Rx)(h:RxAt w b s dv r)(hs:s.size<=1048576)(ha:r.at_<=2000000):
  Calls prog 194 #[.pointer (some ⟨b,0,none⟩)] w fun e w'=>e=.returned (.bool (zBz s r.at_))∧∀H c,Keep H c w w':=by
 obtain⟨c0,-,c2,-,-,-⟩:=h.cells;by_cases hi:s.size<=r.at_
 ·have HV:Hid (zBz s r.at_=true):=by show _=_;unfold zBz;rw[decide_eq_true hi];rfl
  have i1:(r.at_:Int)>=(s.size:Int):=by omega
  go_in;go_wp2;go_quiet (fail);go_wp2;go_ret;exact⟨by rw[HV.out];rfl,fun H c=>Keep.alike (w':=w.drewN nq) ⟨rfl,rfl,rfl⟩⟩
 ·have HV:Hid (zBz s r.at_=(byt s r.at_==124||byt s r.at_==41)):=by show _=_;unfold zBz;rw[decide_eq_false hi];rfl
  have i1:(r.at_:Int)<(s.size:Int):=by omega
  have HPK:Hid (∀nq,Calls prog 200 #[.pointer (some ⟨b,0,none⟩),.int .i64 0] (w.drewN nq) fun e w'=>e=.returned (.int .u8 (byt s r.at_:Nat))∧w'=w.drewN nq):=fun nq=>qC (w.drewN nq) b s dv r (RxAt.of_block h rfl) hs ha 0 (by omega);generalize byt s r.at_=c at *;by_cases h1:c=124
  ·subst h1
   go_in;go_wp2;go_quiet (fail);go_wp2_with (first|(go_at_call 200;refine(HPK.out _).mono ?_;rintro e w9 ⟨rfl,hw9⟩))
   go_ret;exact⟨by rw[HV.out];rfl,fun H c=>Keep.alike (w':=w.drewN nq) ⟨rfl,rfl,rfl⟩⟩
  ·have d1:((c:Int)==124)=false:=by rw[beq_eq_false_iff_ne];omega
   have e1:(c==124)=false:=by rw[beq_eq_false_iff_ne];exact h1
   have HV2:Hid (zBz s r.at_=((c:Int)==41)):=by
    show _=_;rw[HV.out,e1,Bool.false_or];by_cases h2:c=41
    ·rw[h2];rfl
    ·rw[show (c==41)=false by rw[beq_eq_false_iff_ne];exact h2,show((c:Int)==41)=false by rw[beq_eq_false_iff_ne];omega]
   go_in;go_wp2;go_quiet (fail);go_wp2_with (first|(go_at_call 200;refine(HPK.out _).mono ?_;rintro e w9 ⟨rfl,hw9⟩))
   go_ret;exact⟨by rw[HV2.out];rfl,fun H c=>Keep.alike (w':=w.drewN nq) ⟨rfl,rfl,rfl⟩⟩
def zAK (s:ByteArray)(i:Nat):Nat->Nat
 |0=>0
 |j+1=>zAK s i j*16+(vT (byt s (i+j))).toNat
def yF (s:ByteArray)(i most:Nat):Nat:=(List.range most).findIdx fun j=>decide (vT (byt s (i+j))<0)
theorem zJE (c:Nat):vT c<16∧-1<=vT c:=by
 unfold vT;by_cases h:xF c=true
 ·have hr:48<=c∧c<=57:=by unfold xF at h;simpa using h
  rw[if_pos h];omega
 ·rw[if_neg h]
  split <;> omega
theorem zJC (s:ByteArray)(i j:Nat):zAK s i j<16^j:=by
 induction j with
 |zero=>exact Nat.one_pos
 |succ j ih=>
  have:=(zJE (byt s (i+j))).1;show zAK s i j*16+(vT (byt s (i+j))).toNat<16^(j+1);rw[Nat.pow_succ];omega
theorem zMf (s:ByteArray)(i most j:Nat)(hj:j<most)(h:vT (byt s (i+j))<0)(hn:∀k,k<j->0<=vT (byt s (i+k))):yF s i most=j:=
 zDd _ _ j (by rw[List.length_range];exact hj) (by rw[qK _ _ hj];exact decide_eq_true h) fun k hk=>by rw[qK _ _ (by omega)];exact decide_eq_false (by have:=hn k hk;omega)
theorem zLo (s:ByteArray)(i most:Nat)(hn:∀k,k<most->0<=vT (byt s (i+k))):yF s i most=most:=by
 have h:=zA6 (List.range most) (fun j=>decide (vT (byt s (i+j))<0)) fun k hk=>by
  rw[List.length_range] at hk;rw[qK _ _ hk];exact decide_eq_false (by have:=hn k hk;omega)
 rw[List.length_range] at h;exact h
theorem zKo (w:World)(b:Nat)(s:ByteArray)(dv:Value)(r:Rx)(h:RxAt w b s dv r)(hs:s.size<=1048576)(ha:r.at_<=1900000)(most:Nat)(hm:most<=6):
  Calls prog 216 #[.pointer (some ⟨b,0,none⟩),.int .i64 (most:Int)] w fun e w'=>e=.returned (.tuple #[.int .i64 (zAK s r.at_ (yF s r.at_ most):Nat),.int .i64 (yF s r.at_ most:Nat)])∧RxAt w' b s dv {r with at_:=r.at_+yF s r.at_ most}∧∀H,Keep H b w w':=by
 have HR0:=vl h;have HB1:Hid (∀j,j<=most->zAK s r.at_ j<=16777216):=fun j hj=>Nat.le_of_lt (Nat.lt_of_lt_of_le (zJC s r.at_ j) (Nat.pow_le_pow_right (by omega) (by omega:j<=6)));have H1:Hid (∀j,j<most->vT (byt s (r.at_+j))<0->(∀k,k<j->0<=vT (byt s (r.at_+k)))->yF s r.at_ most=j):=fun j=>zMf s r.at_ most j;have H2:=vl <| zLo s r.at_ most;have HNS:Hid (∀j,zAK s r.at_ (j+1)=zAK s r.at_ j*16+(vT (byt s (r.at_+j))).toNat):=fun j=>rfl;have HN0:Hid (zAK s r.at_ 0=0):=rfl;generalize hHN:zAK s r.at_=HN at *;go_in;go_wp2;go_loopg [6,7] most (fun q n i wr=>∃j:Nat,q=most-j∧j<=most∧n=.int .i64 (HN j:Int)∧i=.int .i64 (j:Int)∧(∀k,k<j->0<=vT (byt s (r.at_+k)))∧RxAt wr b s dv {r with at_:=r.at_+j}∧∀H,Keep H b w wr)
 case atStart=>exact⟨0,rfl,Nat.zero_le _,by rw[HN0.out];rfl,rfl,fun k hk=>by omega,HR0.out,fun H=>Keep.refl _ _ _⟩
 case round=>
  obtain⟨j,hgk,hj,rfl,rfl,hno,hR,hkp⟩:=hrel;have HB:Hid (gk=most-j∧(∀k,k<j->0<=vT (byt s (r.at_+k)))∧RxAt wr b s dv {r with at_:=r.at_+j}∧∀H,Keep H b w wr):=⟨hgk,hno,hR,hkp⟩
  by_cases hj2:j<most
  ·have i1:(j:Int)<(most:Int):=by omega
   have HPK0:=qC wr b s dv {r with at_:=r.at_+j} hR hs (by show r.at_+j<=2000000;omega) 0 (by omega);have HPK:=vl HPK0;have HHX:Hid (∀w2,Calls prog 220 #[.int .u8 (byt s (r.at_+j):Nat)] w2 fun e w'=>e=.returned (.int .i64 (vT (byt s (r.at_+j))))∧w'=w2):=fun w2=>zFb w2 _ (zAi s _);obtain⟨-,-,c2,-,-,cf⟩:=hR.cells;have c2':=c2;have cf2:=cf 2;have hrange:=zJE (byt s (r.at_+j));have HS3:Hid (vT (byt s (r.at_+j))<0->yF s r.at_ most=j):=fun h=>H1.out j hj2 h HB.out.2.1;have HN3:Hid (0<=vT (byt s (r.at_+j))->∀k,k<j+1->0<=vT (byt s (r.at_+k))):=fun h k hk=>by
    by_cases e:k=j
    ·rw[e];exact h
    ·exact HB.out.2.1 k (by omega)
   have HNX:=vl <| HNS.out j;have hnl:=HB1.out j (by omega);have HSA:=vl <| hR.setAt (r.at_+(j+1));generalize vT (byt s (r.at_+j))=d at *;generalize byt s (r.at_+j)=c at *;by_cases hd:d<0
   ·have HC:=vl <| HS3.out hd
    go_wp2_with (first|(go_at_call 200;refine HPK.out.mono ?_;rintro e w9 ⟨rfl,hw9⟩;have hw8:=hw9.symm;subst hw8)|(go_at_call 220;refine(HHX.out _).mono ?_;rintro e w9 ⟨rfl,hw9⟩;have hw8:=hw9.symm;subst hw8))
    refine bodyPost_ret (results_tmp2 rfl _ _ _) rfl ?_;exact⟨by rw[HC.out];rfl,by rw[HC.out];exact HB.out.2.2.1,HB.out.2.2.2⟩
   ·have HNO:=vl <| HN3.out (by omega)
    have i2:0<=d:=by omega
    have HEQ:Hid ((HN (j+1):Int)=(HN j:Int)*16+d):=by show _=_;rw[HNX.out];omega
    have c3:wr.cell? ⟨b,2,none⟩=some (.int .i64 ((r.at_:Int)+(j:Int))):=by rw[c2'];congr 2
    have HE2:Hid (((r.at_+(j+1):Nat):Int)=(r.at_:Int)+(j:Int)+1):=by show _=_;omega
    rw[HE2.out] at HSA;generalize HN j=nn at *;go_wp2_with (first|(go_at_call 200;refine HPK.out.mono ?_;rintro e w9 ⟨rfl,hw9⟩;have hw8:=hw9.symm;subst hw8)|(go_at_call 220;refine(HHX.out _).mono ?_;rintro e w9 ⟨rfl,hw9⟩;have hw8:=hw9.symm;subst hw8))
    go_roundg (most-(j+1))
    case measure=>rw[HB.out.1];omega
    case rel=>exact⟨j+1,rfl,by omega,by rw[HEQ.out],by go_num,HNO.out,HSA.out,fun H=>(HB.out.2.2.2 H).trans (Keep.set _ _ _)⟩
  ·have i1:(most:Int)<=(j:Int):=by omega
   have e:j=most:=by omega
   have HC:=vl <| H2.out fun k hk=>hno k (by omega);subst e;go_wp2;refine bodyPost_ret (results_tmp2 rfl _ _ _) rfl ?_;exact⟨by rw[HC.out];rfl,by rw[HC.out];exact HB.out.2.2.1,HB.out.2.2.2⟩
def zAP (s:ByteArray)(i:Nat):Bool:=byt s i==42||byt s i==43||byt s i==63||(byt s i==123&&xF (byt s (i+1)))
theorem zDF (w:World)(b:Nat)(s:ByteArray)(dv:Value)(r:Rx)(h:RxAt w b s dv r)(hs:s.size<=1048576)(ha:r.at_<=2000000):
  Calls prog 197 #[.pointer (some ⟨b,0,none⟩)] w fun e w'=>e=.returned (.bool (zAP s r.at_))∧w'=w:=by
 have HP0:=vl <| qC w b s dv r h hs ha 0 (by omega);have HP1:=vl <| qC w b s dv r h hs ha 1 (by omega);have HD:Hid (∀w2,Calls prog 206 #[.int .u8 (byt s (r.at_+1):Nat)] w2 fun e w'=>e=.returned (.bool (xF (byt s (r.at_+1))))∧w'=w2):=fun w2=>jW w2 _;have HV:Hid (zAP s r.at_=(byt s r.at_==42||byt s r.at_==43||byt s r.at_==63||(byt s r.at_==123&&xF (byt s (r.at_+1))))):=rfl;generalize xF (byt s (r.at_+1))=dg at *;generalize byt s (r.at_+1)=c1 at *;generalize byt s r.at_=c at *;by_cases h1:c=42
 ·subst h1
  go_in;go_wp2_with (first|(go_at_call 200;refine HP0.out.mono ?_;rintro e w9 ⟨rfl,hw9⟩;have hw8:=hw9.symm;subst hw8))
  go_ret;exact⟨by rw[HV.out];rfl,rfl⟩
 by_cases h2:c=43
 ·subst h2
  go_in;go_wp2_with (first|(go_at_call 200;refine HP0.out.mono ?_;rintro e w9 ⟨rfl,hw9⟩;have hw8:=hw9.symm;subst hw8))
  go_ret;exact⟨by rw[HV.out];rfl,rfl⟩
 by_cases h3:c=63
 ·subst h3
  go_in;go_wp2_with (first|(go_at_call 200;refine HP0.out.mono ?_;rintro e w9 ⟨rfl,hw9⟩;have hw8:=hw9.symm;subst hw8))
  go_ret;exact⟨by rw[HV.out];rfl,rfl⟩
 by_cases h4:c=123
 ·subst h4
  have HV2:Hid (zAP s r.at_=dg):=by show _=_;rw[HV.out];rfl
  go_in;go_wp2_with (first|(go_at_call 200;first|(have m2:=mark1;refine HP1.out.mono ?_;rintro e w9 ⟨rfl,hw9⟩;have hw8:=hw9.symm;subst hw8)|(refine HP0.out.mono ?_;rintro e w9 ⟨rfl,hw9⟩;have hw8:=hw9.symm;subst hw8;have mark1:=trivial))|(go_at_call 206;refine(HD.out _).mono ?_;rintro e w9 ⟨rfl,hw9⟩;have hw8:=hw9.symm;subst hw8))
  go_ret;exact⟨by rw[HV2.out];rfl,rfl⟩
 ·have HV2:Hid (zAP s r.at_=false):=by
   show _=_;rw[HV.out,show(c==42)=false by rw[beq_eq_false_iff_ne];exact h1,show(c==43)=false by rw[beq_eq_false_iff_ne];exact h2,show(c==63)=false by rw[beq_eq_false_iff_ne];exact h3,show(c==123)=false by rw[beq_eq_false_iff_ne];exact h4];rfl
  have e1:((c:Int)==42)=false:=by rw[beq_eq_false_iff_ne];omega
  have e2:((c:Int)==43)=false:=by rw[beq_eq_false_iff_ne];omega
  have e3:((c:Int)==63)=false:=by rw[beq_eq_false_iff_ne];omega
  have e4:((c:Int)==123)=false:=by rw[beq_eq_false_iff_ne];omega
  go_in;go_wp2_with (first|(go_at_call 200;refine HP0.out.mono ?_;rintro e w9 ⟨rfl,hw9⟩;have hw8:=hw9.symm;subst hw8))
  go_ret;exact⟨by rw[HV2.out];rfl,rfl⟩
def zHO (c:Int):Cs:=⟨[(c,c)],false⟩
def zMX:Cs:=⟨[(10,10)],true⟩
theorem zKe (w:World)(c:Int)(b:Nat)(h:w.heap[b]? =some (.cells #[.int .i64 c,.int .i64 c] 255)):RangesAt w (.slice (some ⟨b,0,none⟩) 1 1) [(c,c)]:=by
 have hl:=(Array.getElem?_eq_some_iff.1 h).1;refine⟨_,1,rfl,Nat.le_refl _,by unfold maxLen;omega,fun i hi=>?_⟩;have e:i=0:=by simp at hi;omega
 subst e;refine⟨b,0,rfl,hl,?_,?_⟩
 ·unfold cell?;rw[h];rfl
 ·unfold cell?;rw[h];rfl
theorem zDx (w:World)(c:Int):
  Calls prog 210 #[.int .i64 c] w fun e w'=>∃u,e=.returned (.agg #[u,.bool false])∧(∃g,w.heap.size<=g∧u=.slice (some ⟨g,0,none⟩) 1 1∧w'.heap[g]? =some (.cells #[.int .i64 c,.int .i64 c] 255))∧Grew w w':=by
 obtain⟨w2,hw2,z0,z1,HB,HK⟩:∃w2,w2=(w.alloc (Obj.cells #[.slice (some ⟨w.heap.size+1,0,none⟩) 1 1,.bool false] 161)).alloc (Obj.cells #[.int .i64 c,.int .i64 c] 255)∧w2.cell? ⟨w.heap.size,0,none⟩=some (.slice (some ⟨w.heap.size+1,0,none⟩) 1 1)∧w2.cell? ⟨w.heap.size,1,none⟩=some (.bool false)∧Hid (w2.heap[w.heap.size+1]? =some (.cells #[.int .i64 c,.int .i64 c] 255))∧Hid (Grew w w2):=by
  have s1:(w.alloc (Obj.cells #[.slice (some ⟨w.heap.size+1,0,none⟩) 1 1,.bool false] 161)).heap.size=w.heap.size+1:=by simp
  have h1:((w.alloc (Obj.cells #[.slice (some ⟨w.heap.size+1,0,none⟩) 1 1,.bool false] 161)).alloc (Obj.cells #[.int .i64 c,.int .i64 c] 255)).heap[w.heap.size]? =some (Obj.cells #[.slice (some ⟨w.heap.size+1,0,none⟩) 1 1,.bool false] 161):=(Below.heap_alloc _ _ _ (by rw[s1];omega)).trans (heap_alloc_new _ _);have h2:=heap_alloc_new (w.alloc (Obj.cells #[.slice (some ⟨w.heap.size+1,0,none⟩) 1 1,.bool false] 161)) (Obj.cells #[.int .i64 c,.int .i64 c] 255);rw[s1] at h2;refine⟨_,rfl,?_,?_,h2,(Keep.alloc _ _ (Nat.le_refl _)).trans (Keep.alloc _ _ (by rw[s1];omega))⟩
  ·unfold cell?;rw[h1];rfl
  ·unfold cell?;rw[h1];rfl
 go_in;go_wp2;rw[<-hw2];refine bodyPost_ret (v:=.agg #[.slice (some ⟨w.heap.size+1,0,none⟩) 1 1,.bool false]) (by simp[results,results210,go_sem,z0,z1]) rfl ?_;exact⟨_,rfl,⟨_,by omega,rfl,HB.out⟩,HK.out⟩
theorem zKD (w:World):
  Calls prog 211 #[] w fun e w'=>∃u,e=.returned (.agg #[u,.bool true])∧(∃g,w.heap.size<=g∧u=.slice (some ⟨g,0,none⟩) 1 1∧w'.heap[g]? =some (.cells #[.int .i64 10,.int .i64 10] 255))∧Grew w w':=by
 obtain⟨w2,hw2,z0,z1,HB,HK⟩:∃w2,w2=(w.alloc (Obj.cells #[.slice (some ⟨w.heap.size+1,0,none⟩) 1 1,.bool true] 161)).alloc (Obj.cells #[.int .i64 10,.int .i64 10] 255)∧w2.cell? ⟨w.heap.size,0,none⟩=some (.slice (some ⟨w.heap.size+1,0,none⟩) 1 1)∧w2.cell? ⟨w.heap.size,1,none⟩=some (.bool true)∧Hid (w2.heap[w.heap.size+1]? =some (.cells #[.int .i64 10,.int .i64 10] 255))∧Hid (Grew w w2):=by
  have s1:(w.alloc (Obj.cells #[.slice (some ⟨w.heap.size+1,0,none⟩) 1 1,.bool true] 161)).heap.size=w.heap.size+1:=by simp
  have h1:((w.alloc (Obj.cells #[.slice (some ⟨w.heap.size+1,0,none⟩) 1 1,.bool true] 161)).alloc (Obj.cells #[.int .i64 10,.int .i64 10] 255)).heap[w.heap.size]? =some (Obj.cells #[.slice (some ⟨w.heap.size+1,0,none⟩) 1 1,.bool true] 161):=(Below.heap_alloc _ _ _ (by rw[s1];omega)).trans (heap_alloc_new _ _);have h2:=heap_alloc_new (w.alloc (Obj.cells #[.slice (some ⟨w.heap.size+1,0,none⟩) 1 1,.bool true] 161)) (Obj.cells #[.int .i64 10,.int .i64 10] 255);rw[s1] at h2;refine⟨_,rfl,?_,?_,h2,(Keep.alloc _ _ (Nat.le_refl _)).trans (Keep.alloc _ _ (by rw[s1];omega))⟩
  ·unfold cell?;rw[h1];rfl
  ·unfold cell?;rw[h1];rfl
 go_in;go_wp2;rw[<-hw2];refine bodyPost_ret (v:=.agg #[.slice (some ⟨w.heap.size+1,0,none⟩) 1 1,.bool true]) (by simp[results,results211,go_sem,z0,z1]) rfl ?_;exact⟨_,rfl,⟨_,by omega,rfl,HB.out⟩,HK.out⟩
def xJ (n:Nat):Nat:=if 24<n then 25 else n
theorem zCu (w:World)(n:Nat):Calls prog 195 #[.int .i64 (n:Int)] w fun e w'=>e=.returned (.int .i64 (xJ n:Int))∧w'=w:=by
 by_cases h:24<n
 ·have HV:Hid (xJ n=25):=by show _=_;unfold xJ;rw[if_pos h]
  have i1:(n:Int)>24:=by omega
  go_in;go_wp2;go_ret;exact⟨by rw[HV.out];rfl,rfl⟩
 ·have HV:Hid (xJ n=n):=by show _=_;unfold xJ;rw[if_neg h]
  have i1:(n:Int)<=24:=by omega
  go_in;go_wp2;go_ret;exact⟨by rw[HV.out];rfl,rfl⟩
end Go.Proofs.YtbjcfkdnjaiclaaGreat
