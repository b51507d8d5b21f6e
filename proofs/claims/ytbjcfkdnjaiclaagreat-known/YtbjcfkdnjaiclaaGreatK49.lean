import Derived.Test.YtbjcfkdnjaiclaaGreatK0
import Derived.Test.YtbjcfkdnjaiclaaGreatK29
import Derived.Test.YtbjcfkdnjaiclaaGreatK30
import Derived.Test.YtbjcfkdnjaiclaaGreatK31
import Derived.Test.YtbjcfkdnjaiclaaGreatK32
import Derived.Test.YtbjcfkdnjaiclaaGreatK33
import Derived.Test.YtbjcfkdnjaiclaaGreatK34
import Derived.Test.YtbjcfkdnjaiclaaGreatK35
import Derived.Test.YtbjcfkdnjaiclaaGreatK36
import Derived.Test.YtbjcfkdnjaiclaaGreatK37
import Derived.Test.YtbjcfkdnjaiclaaGreatK38
import Derived.Test.YtbjcfkdnjaiclaaGreatK39
import Derived.Test.YtbjcfkdnjaiclaaGreatK40
import Derived.Test.YtbjcfkdnjaiclaaGreatK41
import Derived.Test.YtbjcfkdnjaiclaaGreatK42
import Derived.Test.YtbjcfkdnjaiclaaGreatK43
import Derived.Test.YtbjcfkdnjaiclaaGreatK44
import Derived.Test.YtbjcfkdnjaiclaaGreatK45
import Derived.Test.YtbjcfkdnjaiclaaGreatK46
import Derived.Test.YtbjcfkdnjaiclaaGreatK47
import Derived.Test.YtbjcfkdnjaiclaaGreatK48
/- Known: of eighteen specifications that are known (one of them is none) Generate tells how far each looks ahead and whether it never goes back, and Scan tells the events of a text, as they are written there; whatever the number k. -/
set_option linter.unusedVariables false
set_option linter.unusedSimpArgs false
set_option maxHeartbeats 4000000
set_option maxRecDepth 100000
namespace Go.Proofs.YtbjcfkdnjaiclaaGreat
open Go.RowKit Go.Proofs.Tryz Go.World
open Go.Value (int slice bool pointer string agg tuple)
open Go.IntKind (i64)
open Go.Ending (returned)
theorem zKl (x:ByteArray×Int×Bool×ByteArray×List Int)(y:List Sm×Sh)(a:y=(zAN x.1).getD ([],Sh.none))(b:(zAN x.1).isSome=true)(d:x.2.2.2.2≠[])(e:aheadTo y.1 y.1.length=x.2.1)(f:vJ y false=x.2.2.1)(g:evM y (x.2.2.2.1.size+1) [0] 0 (nats x.2.2.2.1)=x.2.2.2.2):Good x:=by
 unfold Good;cases c:zAN x.1 with
 |none=>rw[c] at b;cases b
 |some h=>
  rw[c] at a;have:y=h:=a;subst this;exact⟨d,e,f,g⟩
theorem zOd:Good (lot 3):=by
 have a:=zOI;simp only[Bool.and_eq_true,decide_eq_true_eq] at a;obtain⟨c,d,f⟩:=a;have g:=zKP _ f;have b:aheadTo y3.1 y3.1.length=-1:=by
  rw[d];show yI 0 (xV (y3.1.getD 0 ⟨[],[],0,[]⟩))=-1;rw[g];rfl
 refine zKl (lot 3) y3 rfl c (λe=>by cases e) b ?_ zOH;unfold vJ;rw[b];rfl
theorem zOc:Good (lot 5):=by
 refine zKl (lot 5) y5 rfl zOG (λe=>by cases e) zNI ?_ zOE;unfold vJ;rw[zNI];show(true&&xE 4 (zB y5.1 256).2)=false;rw[zOF];rfl
theorem zFl (i:Nat)(a:i<18):Good (lot i):=by
 match i,a with
 |0,_=>exact qM _ zO3
 |1,_=>exact qM _ zO2
 |2,_=>exact qM _ zO1
 |3,_=>exact zOd
 |4,_=>exact qM _ zO0
 |5,_=>exact zOc
 |6,_=>exact qM _ zOZ
 |7,_=>exact qM _ zOY
 |8,_=>exact qM _ zOX
 |9,_=>exact qM _ zOW
 |10,_=>exact qM _ zOQ
 |11,_=>exact qM _ zOP
 |12,_=>exact qM _ zOO
 |13,_=>exact qM _ zON
 |14,_=>exact qM _ zOM
 |15,_=>exact qM _ zOL
 |16,_=>exact qM _ zOK
 |17,_=>exact qM _ zOJ
 |i+18,b=>exact absurd b (by omega)
section
open Go.ChangeShapes Go.WideShapes Go.ChangeAt Go.RowKit
theorem zK6 (w:World)(k:Int)(hc1:-9223372036854775808<=k)(hc2:k<=9223372036854775807):Calls prog 3 #[.int .i64 k] w fun e w'=>e=.returned (.bool true)∧Grew w w':=by
 have HK:=vl (zIl zFl w k hc1 hc2);go_in;go_wp2_with (first|(go_at_call 13;refine HK.out.mono ?_;rintro e w1 ⟨rfl,hk1⟩))
 refine gJ (results_tmp rfl _ _ _) rfl ?_;exact⟨rfl,hk1⟩
theorem zG7 (os:Os)(started:os.Started)(H:Type)(enc:TypeId×Value->H):
  ReturnsInHanded {} checked os 3 .any (Rows.knownSpec.pre6 enc prog f3 Rows.knownRow.domain false) (Rows.knownSpec.post enc prog f3 false true false false):=by
 refine returnsInHanded_of_change (C:=checked) own started (by kernel_rfl) func3
  (ChangeSpec.witness6 (enc:=enc) (C:=checked) false ⟨#[],#[.int .i64 0],[]⟩ 8 (by kernel_rfl) (by kernel_rfl) (by kernel_rfl) (by kernel_rfl)) ?_
 intro W base args ds gs before hval0 hW _ _;have hval:=hval0;have hW':=hW;obtain⟨p,q,hA0,hV,rfl,hfz,hnd⟩:=hW;have hA:=hA0;rw[params3] at hA hval;obtain⟨v0,vs0,d0,ds0,p0,q0,hargs,rfl,rfl,h0,r0⟩:=trodAll_cons hA;obtain⟨rfl,rfl,rfl⟩:=trodAll_nil r0;have hargs2:args=#[v0]:=by cases args;simp_all
 subst hargs2;obtain⟨rfl,rfl⟩:=trodVars_none hV;obtain⟨a0,rfl,rfl,rfl,w0⟩:=open_int underlying3 (hval 0 3 v0 rfl rfl) h0;obtain⟨l0,u0⟩:=zN8 w0;simp only[dX] at hW';refine(zK6 W a0 l0 u0).mono fun e W' ⟨he,hk⟩=>?_;subst he;exact⟨_,rfl,zJb hW' (fun _ _ _=>trodAll_mk1 (shut_bool underlying4 _)) (fun sp=>zMU (shut_int underlying3 w0) (trodAll_mk0)) (fun _=>rfl)
  (hk.frame _) (ok_one (by kernel_rfl) rfl (okWide_bool_mk underlying4 _))⟩
theorem known_holds:Rows.KnownSaid:=
 OpenClaim.holds_of_wide 3 f3 rfl rfl rfl rfl rfl rfl rfl ⟨rfl,rfl,rfl,rfl,rfl⟩ rfl rfl rfl rfl rfl (by kernel_rfl) func3 (by kernel_rfl)
  (of_decide_eq_true (by kernel_rfl)) (by unfold Func.isWrapper;first|(rw [if_pos (by decide +kernel)];kernel_rfl)|(rw [if_neg (by decide +kernel)];exact⟨rfl,rfl⟩))
  (fun os started H enc _=>zG7 os started H enc)
end
end Go.Proofs.YtbjcfkdnjaiclaaGreat
