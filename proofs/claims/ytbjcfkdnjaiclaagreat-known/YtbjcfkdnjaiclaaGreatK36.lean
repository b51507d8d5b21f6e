import Derived.Test.YtbjcfkdnjaiclaaGreatK0
import Derived.Test.YtbjcfkdnjaiclaaGreatK30
/- Parts of the proof. -/
set_option linter.unusedVariables false
set_option linter.unusedSimpArgs false
set_option maxHeartbeats 4000000
set_option maxRecDepth 100000
namespace Go.Proofs.YtbjcfkdnjaiclaaGreat
open Go.RowKit Go.Proofs.Tryz Go.World
open Go.Value (int slice bool pointer string agg tuple)
open Go.IntKind (i64)
open Go.Ending (returned)
def y5:List Sm×Sh:=(zAN (lot 5).1).getD ([],Sh.none)
theorem zOG:(zAN (lot 5).1).isSome=true:=by kernel_rfl
theorem zNI:aheadTo y5.1 y5.1.length=4:=by kernel_rfl
def zId (row:List Int)(n:Nat):Bool:=(row.take n).all fun x=>x != row.getD n 0
theorem jY (ms:List Sm)(m:Sm)(hm:m∈ms)(row:List Int)(hr:row∈m.next)(n:Nat)(hn:n<row.length)(h:zId row n=true):(zB ms (n+1)).2=(zB ms n).2+1:=by
 have hf:¬yX ms n<n:=by
  intro hf;have h1:=List.findIdx_getElem (xs:=List.range n) (p:=fun a=>zA7 ms a n) (w:=by rw[List.length_range];exact hf);rw[List.getElem_range] at h1;have h2:=List.all_eq_true.1 (List.all_eq_true.1 h1 m hm) row hr;have hl:yX ms n<(row.take n).length:=by rw[List.length_take];omega
  have h3:=List.all_eq_true.1 h _ (List.getElem_mem hl);rw[List.getElem_take] at h3;have h4:row.getD (yX ms n) 0=row.getD n 0:=eq_of_beq h2;rw[lW,lV (by omega),Option.getD_some] at h4;rw[h4] at h3;simp at h3
 rw[zB,if_neg hf]
theorem vZ (ms:List Sm)(a b:Nat)(h:a<=b):(zB ms a).2<=(zB ms b).2:=by
 induction b with
 |zero=>rw[show a=0 by omega];exact lQ
 |succ b ih=>
  by_cases e:a=b+1
  ·rw[e];exact lQ
  ·have:=ih (by omega)
   rw[zB];split
   ·exact this
   ·exact Nat.le_succ_of_le this
def seven (row:List Int):Bool:=decide (row.length=256)&&(zId row 0&&(zId row 39&&(zId row 194&&(zId row 224&&(zId row 225&&(zId row 237&&zId row 240))))))
theorem zHR (ms:List Sm)(m:Sm)(hm:m∈ms)(row:List Int)(hr:row∈m.next)(h:seven row=true):7<=(zB ms 256).2:=by
 unfold seven at h;simp only[Bool.and_eq_true,decide_eq_true_eq] at h;obtain⟨h0,h1,h2,h3,h4,h5,h6,h7⟩:=h;have k1:=jY ms m hm row hr 0 (by omega) h1;have k2:=jY ms m hm row hr 39 (by omega) h2;have k3:=jY ms m hm row hr 194 (by omega) h3;have k4:=jY ms m hm row hr 224 (by omega) h4;have k5:=jY ms m hm row hr 225 (by omega) h5;have k6:=jY ms m hm row hr 237 (by omega) h6;have k7:=jY ms m hm row hr 240 (by omega) h7;have j1:=vZ ms (0+1) 39 (by omega);have j2:=vZ ms (39+1) 194 (by omega);have j3:=vZ ms (194+1) 224 (by omega);have j4:=vZ ms (224+1) 225 (by omega);have j5:=vZ ms (225+1) 237 (by omega);have j6:=vZ ms (237+1) 240 (by omega);have j7:=vZ ms (240+1) 256 (by omega);omega
theorem zKw (k:Nat)(h:7<=k):xE 4 k=false:=by
 have h1:zG k 1=k+1:=by simp[zG]
 have step:∀j c:Nat,c<=3000->c<=zG k j->min (c*8) 3001<=zG k (j+1):=fun j c hc hw=>by
  rw[zG];split
  ·have:c*8<=zG k j*(k+1):=Nat.mul_le_mul hw (by omega)
   omega
  ·omega
 have s2:min (8*8) 3001<=zG k 2:=step 1 8 (by decide) (by omega);have s3:min (64*8) 3001<=zG k 3:=step 2 64 (by decide) (by omega);have s4:min (512*8) 3001<=zG k 4:=step 3 512 (by decide) (by omega);unfold xE;have h4:¬zG k (4:Int).toNat<=3000:=by show¬zG k 4<=3000;omega
 rw[gG h4,Bool.and_false]
theorem zOD:(decide (0<y5.1.length)&&(decide (0<(y5.1.getD 0 ⟨[],[],0,[]⟩).start.toNat∧(y5.1.getD 0 ⟨[],[],0,[]⟩).start.toNat<(y5.1.getD 0 ⟨[],[],0,[]⟩).next.length)&&seven ((y5.1.getD 0 ⟨[],[],0,[]⟩).next.getD (y5.1.getD 0 ⟨[],[],0,[]⟩).start.toNat [])))=true:=by kernel_rfl
theorem zOF:xE 4 (zB y5.1 256).2=false:=by
 have h:=zOD;simp only[Bool.and_eq_true,decide_eq_true_eq] at h;obtain⟨h1,⟨_,h2⟩,h3⟩:=h;have g1:y5.1.getD 0 ⟨[],[],0,[]⟩=y5.1[0]:=by rw[lW,lV h1,Option.getD_some]
 have g2:(y5.1.getD 0 ⟨[],[],0,[]⟩).next.getD (y5.1.getD 0 ⟨[],[],0,[]⟩).start.toNat []=(y5.1.getD 0 ⟨[],[],0,[]⟩).next[(y5.1.getD 0 ⟨[],[],0,[]⟩).start.toNat]:=by rw[lW,lV h2,Option.getD_some]
 refine zKw _ (zHR y5.1 (y5.1.getD 0 ⟨[],[],0,[]⟩) ?_ _ ?_ h3)
 ·rw[g1];exact List.getElem_mem h1
 ·rw[g2];exact List.getElem_mem h2
theorem zOE:evM y5 ((lot 5).2.2.2.1.size+1) [0] 0 (nats (lot 5).2.2.2.1)=(lot 5).2.2.2.2:=by kernel_rfl
end Go.Proofs.YtbjcfkdnjaiclaaGreat
