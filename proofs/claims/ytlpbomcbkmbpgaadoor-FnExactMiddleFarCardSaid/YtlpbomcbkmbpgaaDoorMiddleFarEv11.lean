/- The evaluation, part 11. -/
import Derived.Test.YtlpbomcbkmbpgaaDoorMiddleFarBad
import Derived.KernelRfl
namespace Go.AI.T
open Go Go.RowKit Go.AI
set_option linter.unusedVariables false
set_option linter.unusedSimpArgs false
set_option maxRecDepth 100000
noncomputable section
theorem evMiddleFar_c11 (j : Nat) : allR (ok_MiddleFar j) 5 5 9 (fun l => 40 :: 40 :: 41 :: 40 :: 41 :: 40 :: 41 :: 40 :: 41 :: 40 :: 40 :: 40 :: 40 :: l) = true := by kernel_rfl
theorem evMiddleFar_c26 (j : Nat) : allR (ok_MiddleFar j) 8 0 5 (fun l => 40 :: 40 :: 41 :: 40 :: 41 :: 40 :: 40 :: 41 :: 41 :: 41 :: l) = true := by kernel_rfl
theorem evMiddleFar_c32 (j : Nat) : allR (ok_MiddleFar j) 5 3 8 (fun l => 40 :: 40 :: 41 :: 40 :: 41 :: 40 :: 40 :: 41 :: 41 :: 40 :: 40 :: 40 :: 41 :: l) = true := by kernel_rfl
theorem evMiddleFar_c59 (j : Nat) : allR (ok_MiddleFar j) 5 3 8 (fun l => 40 :: 40 :: 41 :: 40 :: 41 :: 40 :: 40 :: 40 :: 41 :: 40 :: 40 :: 41 :: 41 :: l) = true := by kernel_rfl
theorem evMiddleFar_c90 (j : Nat) : allR (ok_MiddleFar j) 5 3 8 (fun l => 40 :: 40 :: 41 :: 40 :: 40 :: 41 :: 41 :: 40 :: 40 :: 40 :: 41 :: 41 :: 40 :: l) = true := by kernel_rfl
theorem evMiddleFar_c117 (j : Nat) : allR (ok_MiddleFar j) 6 6 9 (fun l => 40 :: 40 :: 41 :: 40 :: 40 :: 41 :: 40 :: 41 :: 40 :: 40 :: 40 :: 40 :: l) = true := by kernel_rfl
theorem evMiddleFar_c123 (j : Nat) : allR (ok_MiddleFar j) 5 3 8 (fun l => 40 :: 40 :: 41 :: 40 :: 40 :: 41 :: 40 :: 40 :: 41 :: 41 :: 40 :: 40 :: 41 :: l) = true := by kernel_rfl
theorem evMiddleFar_c152 (j : Nat) : allR (ok_MiddleFar j) 5 1 7 (fun l => 40 :: 40 :: 41 :: 40 :: 40 :: 40 :: 41 :: 41 :: 40 :: 41 :: 41 :: 40 :: 41 :: l) = true := by kernel_rfl
theorem evMiddleFar_c177 (j : Nat) : allR (ok_MiddleFar j) 5 5 9 (fun l => 40 :: 40 :: 41 :: 40 :: 40 :: 40 :: 41 :: 40 :: 41 :: 40 :: 40 :: 41 :: 40 :: l) = true := by kernel_rfl
theorem evMiddleFar_c185 (j : Nat) : allR (ok_MiddleFar j) 6 6 9 (fun l => 40 :: 40 :: 41 :: 40 :: 40 :: 40 :: 41 :: 40 :: 40 :: 41 :: 40 :: 40 :: l) = true := by kernel_rfl
theorem evMiddleFar_c192 (j : Nat) : allR (ok_MiddleFar j) 5 3 8 (fun l => 40 :: 40 :: 41 :: 40 :: 40 :: 40 :: 40 :: 41 :: 41 :: 41 :: 41 :: 40 :: 40 :: l) = true := by kernel_rfl
theorem evMiddleFar_c221 (j : Nat) : allR (ok_MiddleFar j) 6 6 9 (fun l => 40 :: 40 :: 41 :: 40 :: 40 :: 40 :: 40 :: 40 :: 41 :: 41 :: 40 :: 40 :: l) = true := by kernel_rfl
theorem evMiddleFar_c231 (j : Nat) : allR (ok_MiddleFar j) 12 0 3 (fun l => 40 :: 40 :: 40 :: 41 :: 41 :: 41 :: l) = true := by kernel_rfl
theorem evMiddleFar_c243 (j : Nat) : allR (ok_MiddleFar j) 5 3 8 (fun l => 40 :: 40 :: 40 :: 41 :: 41 :: 40 :: 41 :: 40 :: 40 :: 41 :: 41 :: 40 :: 40 :: l) = true := by kernel_rfl
theorem evMiddleFar_c269 (j : Nat) : allR (ok_MiddleFar j) 5 5 9 (fun l => 40 :: 40 :: 40 :: 41 :: 41 :: 40 :: 40 :: 41 :: 40 :: 41 :: 40 :: 40 :: 40 :: l) = true := by kernel_rfl
theorem evMiddleFar_c278 (j : Nat) : allR (ok_MiddleFar j) 5 1 7 (fun l => 40 :: 40 :: 40 :: 41 :: 41 :: 40 :: 40 :: 40 :: 41 :: 41 :: 41 :: 40 :: 41 :: l) = true := by kernel_rfl
theorem evMiddleFar_c304 (j : Nat) : allR (ok_MiddleFar j) 6 0 6 (fun l => 40 :: 40 :: 40 :: 41 :: 40 :: 41 :: 41 :: 40 :: 41 :: 40 :: 41 :: 41 :: l) = true := by kernel_rfl
theorem evMiddleFar_c315 (j : Nat) : allR (ok_MiddleFar j) 5 3 8 (fun l => 40 :: 40 :: 40 :: 41 :: 40 :: 41 :: 41 :: 40 :: 40 :: 41 :: 40 :: 41 :: 40 :: l) = true := by kernel_rfl
theorem evMiddleFar_c342 (j : Nat) : allR (ok_MiddleFar j) 5 3 8 (fun l => 40 :: 40 :: 40 :: 41 :: 40 :: 41 :: 40 :: 41 :: 40 :: 40 :: 41 :: 40 :: 41 :: l) = true := by kernel_rfl
theorem evMiddleFar_c369 (j : Nat) : allR (ok_MiddleFar j) 5 5 9 (fun l => 40 :: 40 :: 40 :: 41 :: 40 :: 41 :: 40 :: 40 :: 40 :: 40 :: 41 :: 41 :: 40 :: l) = true := by kernel_rfl
theorem evMiddleFar_c376 (j : Nat) : allR (ok_MiddleFar j) 5 1 7 (fun l => 40 :: 40 :: 40 :: 41 :: 40 :: 40 :: 41 :: 41 :: 41 :: 40 :: 40 :: 41 :: 41 :: l) = true := by kernel_rfl
theorem evMiddleFar_c403 (j : Nat) : allR (ok_MiddleFar j) 5 3 8 (fun l => 40 :: 40 :: 40 :: 41 :: 40 :: 40 :: 41 :: 40 :: 41 :: 40 :: 41 :: 40 :: 41 :: l) = true := by kernel_rfl
theorem evMiddleFar_c434 (j : Nat) : allR (ok_MiddleFar j) 5 3 8 (fun l => 40 :: 40 :: 40 :: 41 :: 40 :: 40 :: 40 :: 41 :: 40 :: 41 :: 41 :: 41 :: 40 :: l) = true := by kernel_rfl
theorem evMiddleFar_c468 (j : Nat) : allR (ok_MiddleFar j) 5 5 9 (fun l => 40 :: 40 :: 40 :: 40 :: 41 :: 41 :: 41 :: 40 :: 41 :: 40 :: 40 :: 40 :: 40 :: l) = true := by kernel_rfl
theorem evMiddleFar_c477 (j : Nat) : allR (ok_MiddleFar j) 5 3 8 (fun l => 40 :: 40 :: 40 :: 40 :: 41 :: 41 :: 41 :: 40 :: 40 :: 40 :: 41 :: 41 :: 40 :: l) = true := by kernel_rfl
theorem evMiddleFar_c504 (j : Nat) : allR (ok_MiddleFar j) 6 6 9 (fun l => 40 :: 40 :: 40 :: 40 :: 41 :: 41 :: 40 :: 41 :: 40 :: 40 :: 40 :: 40 :: l) = true := by kernel_rfl
theorem evMiddleFar_c510 (j : Nat) : allR (ok_MiddleFar j) 5 3 8 (fun l => 40 :: 40 :: 40 :: 40 :: 41 :: 41 :: 40 :: 40 :: 41 :: 41 :: 40 :: 40 :: 41 :: l) = true := by kernel_rfl
theorem evMiddleFar_c541 (j : Nat) : allR (ok_MiddleFar j) 5 1 7 (fun l => 40 :: 40 :: 40 :: 40 :: 41 :: 40 :: 41 :: 41 :: 40 :: 41 :: 40 :: 41 :: 41 :: l) = true := by kernel_rfl
theorem evMiddleFar_c567 (j : Nat) : allR (ok_MiddleFar j) 5 3 8 (fun l => 40 :: 40 :: 40 :: 40 :: 41 :: 40 :: 41 :: 40 :: 40 :: 41 :: 41 :: 41 :: 40 :: l) = true := by kernel_rfl
theorem evMiddleFar_c596 (j : Nat) : allR (ok_MiddleFar j) 5 5 9 (fun l => 40 :: 40 :: 40 :: 40 :: 41 :: 40 :: 40 :: 41 :: 40 :: 41 :: 40 :: 41 :: 40 :: l) = true := by kernel_rfl
theorem evMiddleFar_c603 (j : Nat) : allR (ok_MiddleFar j) 5 3 8 (fun l => 40 :: 40 :: 40 :: 40 :: 41 :: 40 :: 40 :: 40 :: 41 :: 41 :: 41 :: 41 :: 40 :: l) = true := by kernel_rfl
theorem evMiddleFar_c638 (j : Nat) : allR (ok_MiddleFar j) 5 5 9 (fun l => 40 :: 40 :: 40 :: 40 :: 40 :: 41 :: 41 :: 41 :: 40 :: 40 :: 40 :: 41 :: 40 :: l) = true := by kernel_rfl
theorem evMiddleFar_c643 (j : Nat) : allR (ok_MiddleFar j) 5 1 7 (fun l => 40 :: 40 :: 40 :: 40 :: 40 :: 41 :: 41 :: 40 :: 41 :: 41 :: 40 :: 41 :: 41 :: l) = true := by kernel_rfl
theorem evMiddleFar_c674 (j : Nat) : allR (ok_MiddleFar j) 5 3 8 (fun l => 40 :: 40 :: 40 :: 40 :: 40 :: 41 :: 40 :: 41 :: 41 :: 40 :: 41 :: 40 :: 41 :: l) = true := by kernel_rfl
theorem evMiddleFar_c704 (j : Nat) : allR (ok_MiddleFar j) 7 7 9 (fun l => 40 :: 40 :: 40 :: 40 :: 40 :: 41 :: 40 :: 40 :: 40 :: 41 :: 40 :: l) = true := by kernel_rfl
theorem evMiddleFar_c714 (j : Nat) : allR (ok_MiddleFar j) 5 3 8 (fun l => 40 :: 40 :: 40 :: 40 :: 40 :: 40 :: 41 :: 41 :: 41 :: 40 :: 41 :: 41 :: 40 :: l) = true := by kernel_rfl
theorem evMiddleFar_c743 (j : Nat) : allR (ok_MiddleFar j) 5 5 9 (fun l => 40 :: 40 :: 40 :: 40 :: 40 :: 40 :: 41 :: 40 :: 40 :: 41 :: 41 :: 41 :: 40 :: l) = true := by kernel_rfl
theorem evMiddleFar_c754 (j : Nat) : allR (ok_MiddleFar j) 5 3 8 (fun l => 40 :: 40 :: 40 :: 40 :: 40 :: 40 :: 40 :: 41 :: 41 :: 40 :: 41 :: 41 :: 41 :: l) = true := by kernel_rfl
end
end Go.AI.T
