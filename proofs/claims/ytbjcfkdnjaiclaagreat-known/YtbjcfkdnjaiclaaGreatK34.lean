import Derived.Test.YtbjcfkdnjaiclaaGreatK0
import Derived.Test.YtbjcfkdnjaiclaaGreatK30
/- Parts of the proof. -/
set_option linter.unusedVariables false
set_option linter.unusedSimpArgs false
set_option maxHeartbeats 4000000
set_option maxRecDepth 100000
namespace Go.Proofs.YtbjcfkdnjaiclaaGreat
open Go.RowKit Go.Proofs.Tryz Go.World
open Go.Value (int slice bool pointer string agg tuple)
open Go.IntKind (i64)
open Go.Ending (returned)
def y3:List Sm×Sh:=(zAN (lot 3).1).getD ([],Sh.none)
def zLX (m:Sm):Bool:=(fun a=>(fun q=>decide (a<m.next.length)&&(decide (q<m.next.length)&&(decide (q≠0)&&(tokF m a&&(!tokF m q&&(decide ((m.next.getD a []).length=256)&&(decide ((m.next.getD q []).length=256)&&(decide ((m.next.getD a []).getD 42 0=(q:Int))&&decide ((m.next.getD q []).getD 97 0=(q:Int)))))))))) (goM m a 42)) (goM m m.start.toNat 47)
theorem zKP (m:Sm)(h:zLX m=true):xV m=-1:=by
 unfold zLX at h;simp only[Bool.and_eq_true,decide_eq_true_eq,Bool.not_eq_true'] at h;obtain⟨h1,h2,h3,h4,h5,h6,h7,h8,h9⟩:=h;refine zMx m 1 _ 97 h2 h3 ?_ h5 (by omega) h9;show(yR m (tokF m) _&& !tokF m _)=true;rw[zDx m _ _ 42 h1 h4 (by omega) _ h8 h3,h5];rfl
theorem zOI:((zAN (lot 3).1).isSome&&(decide (y3.1.length=1)&&zLX (y3.1.getD 0 ⟨[],[],0,[]⟩)))=true:=by kernel_rfl
theorem zOH:evM y3 ((lot 3).2.2.2.1.size+1) [0] 0 (nats (lot 3).2.2.2.1)=(lot 3).2.2.2.2:=by kernel_rfl
end Go.Proofs.YtbjcfkdnjaiclaaGreat
