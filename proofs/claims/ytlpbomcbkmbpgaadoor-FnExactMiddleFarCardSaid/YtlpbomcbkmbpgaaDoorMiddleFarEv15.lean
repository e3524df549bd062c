/- The evaluation, part 15. -/
import Derived.Test.YtlpbomcbkmbpgaaDoorMiddleFarBad
import Derived.KernelRfl
namespace Go.AI.T
open Go Go.RowKit Go.AI
set_option linter.unusedVariables false
set_option linter.unusedSimpArgs false
set_option maxRecDepth 100000
noncomputable section
theorem evMiddleFar_c15 (j : Nat) : allR (ok_MiddleFar j) 5 1 7 (fun l => 40 :: 40 :: 41 :: 40 :: 41 :: 40 :: 41 :: 40 :: 40 :: 41 :: 40 :: 41 :: 41 :: l) = true := by kernel_rfl
theorem evMiddleFar_c43 (j : Nat) : allR (ok_MiddleFar j) 5 3 8 (fun l => 40 :: 40 :: 41 :: 40 :: 41 :: 40 :: 40 :: 41 :: 40 :: 40 :: 41 :: 40 :: 41 :: l) = true := by kernel_rfl
theorem evMiddleFar_c71 (j : Nat) : allR (ok_MiddleFar j) 6 6 9 (fun l => 40 :: 40 :: 41 :: 40 :: 41 :: 40 :: 40 :: 40 :: 40 :: 40 :: 41 :: 40 :: l) = true := by kernel_rfl
theorem evMiddleFar_c79 (j : Nat) : allR (ok_MiddleFar j) 5 3 8 (fun l => 40 :: 40 :: 41 :: 40 :: 40 :: 41 :: 41 :: 40 :: 41 :: 40 :: 40 :: 41 :: 40 :: l) = true := by kernel_rfl
theorem evMiddleFar_c107 (j : Nat) : allR (ok_MiddleFar j) 5 1 7 (fun l => 40 :: 40 :: 41 :: 40 :: 40 :: 41 :: 40 :: 41 :: 40 :: 41 :: 40 :: 41 :: 41 :: l) = true := by kernel_rfl
theorem evMiddleFar_c133 (j : Nat) : allR (ok_MiddleFar j) 5 3 8 (fun l => 40 :: 40 :: 41 :: 40 :: 40 :: 41 :: 40 :: 40 :: 40 :: 41 :: 41 :: 41 :: 40 :: l) = true := by kernel_rfl
theorem evMiddleFar_c164 (j : Nat) : allR (ok_MiddleFar j) 6 6 9 (fun l => 40 :: 40 :: 41 :: 40 :: 40 :: 40 :: 41 :: 41 :: 40 :: 40 :: 40 :: 40 :: l) = true := by kernel_rfl
theorem evMiddleFar_c170 (j : Nat) : allR (ok_MiddleFar j) 5 3 8 (fun l => 40 :: 40 :: 41 :: 40 :: 40 :: 40 :: 41 :: 40 :: 41 :: 41 :: 40 :: 40 :: 41 :: l) = true := by kernel_rfl
theorem evMiddleFar_c201 (j : Nat) : allR (ok_MiddleFar j) 5 3 8 (fun l => 40 :: 40 :: 41 :: 40 :: 40 :: 40 :: 40 :: 41 :: 41 :: 40 :: 40 :: 41 :: 41 :: l) = true := by kernel_rfl
theorem evMiddleFar_c233 (j : Nat) : allR (ok_MiddleFar j) 8 0 5 (fun l => 40 :: 40 :: 40 :: 41 :: 41 :: 40 :: 41 :: 40 :: 41 :: 41 :: l) = true := by kernel_rfl
theorem evMiddleFar_c245 (j : Nat) : allR (ok_MiddleFar j) 5 3 8 (fun l => 40 :: 40 :: 40 :: 41 :: 41 :: 40 :: 41 :: 40 :: 40 :: 41 :: 40 :: 41 :: 40 :: l) = true := by kernel_rfl
theorem evMiddleFar_c272 (j : Nat) : allR (ok_MiddleFar j) 5 3 8 (fun l => 40 :: 40 :: 40 :: 41 :: 41 :: 40 :: 40 :: 41 :: 40 :: 40 :: 41 :: 40 :: 41 :: l) = true := by kernel_rfl
theorem evMiddleFar_c299 (j : Nat) : allR (ok_MiddleFar j) 5 5 9 (fun l => 40 :: 40 :: 40 :: 41 :: 41 :: 40 :: 40 :: 40 :: 40 :: 40 :: 41 :: 41 :: 40 :: l) = true := by kernel_rfl
theorem evMiddleFar_c306 (j : Nat) : allR (ok_MiddleFar j) 5 3 8 (fun l => 40 :: 40 :: 40 :: 41 :: 40 :: 41 :: 41 :: 40 :: 41 :: 40 :: 41 :: 40 :: 40 :: l) = true := by kernel_rfl
theorem evMiddleFar_c334 (j : Nat) : allR (ok_MiddleFar j) 5 1 7 (fun l => 40 :: 40 :: 40 :: 41 :: 40 :: 41 :: 40 :: 41 :: 40 :: 41 :: 41 :: 40 :: 41 :: l) = true := by kernel_rfl
theorem evMiddleFar_c360 (j : Nat) : allR (ok_MiddleFar j) 6 6 9 (fun l => 40 :: 40 :: 40 :: 41 :: 40 :: 41 :: 40 :: 40 :: 41 :: 40 :: 40 :: 40 :: l) = true := by kernel_rfl
theorem evMiddleFar_c371 (j : Nat) : allR (ok_MiddleFar j) 7 7 9 (fun l => 40 :: 40 :: 40 :: 41 :: 40 :: 41 :: 40 :: 40 :: 40 :: 40 :: 40 :: l) = true := by kernel_rfl
theorem evMiddleFar_c379 (j : Nat) : allR (ok_MiddleFar j) 5 5 9 (fun l => 40 :: 40 :: 40 :: 41 :: 40 :: 40 :: 41 :: 41 :: 41 :: 40 :: 40 :: 40 :: 40 :: l) = true := by kernel_rfl
theorem evMiddleFar_c387 (j : Nat) : allR (ok_MiddleFar j) 5 1 7 (fun l => 40 :: 40 :: 40 :: 41 :: 40 :: 40 :: 41 :: 41 :: 40 :: 40 :: 41 :: 41 :: 41 :: l) = true := by kernel_rfl
theorem evMiddleFar_c413 (j : Nat) : allR (ok_MiddleFar j) 5 5 9 (fun l => 40 :: 40 :: 40 :: 41 :: 40 :: 40 :: 41 :: 40 :: 40 :: 41 :: 40 :: 41 :: 40 :: l) = true := by kernel_rfl
theorem evMiddleFar_c420 (j : Nat) : allR (ok_MiddleFar j) 5 1 7 (fun l => 40 :: 40 :: 40 :: 41 :: 40 :: 40 :: 40 :: 41 :: 41 :: 41 :: 41 :: 40 :: 41 :: l) = true := by kernel_rfl
theorem evMiddleFar_c449 (j : Nat) : allR (ok_MiddleFar j) 5 5 9 (fun l => 40 :: 40 :: 40 :: 41 :: 40 :: 40 :: 40 :: 40 :: 41 :: 41 :: 40 :: 41 :: 40 :: l) = true := by kernel_rfl
theorem evMiddleFar_c459 (j : Nat) : allR (ok_MiddleFar j) 8 8 9 (fun l => 40 :: 40 :: 40 :: 41 :: 40 :: 40 :: 40 :: 40 :: 40 :: 40 :: l) = true := by kernel_rfl
theorem evMiddleFar_c471 (j : Nat) : allR (ok_MiddleFar j) 5 3 8 (fun l => 40 :: 40 :: 40 :: 40 :: 41 :: 41 :: 41 :: 40 :: 40 :: 41 :: 41 :: 40 :: 40 :: l) = true := by kernel_rfl
theorem evMiddleFar_c497 (j : Nat) : allR (ok_MiddleFar j) 5 5 9 (fun l => 40 :: 40 :: 40 :: 40 :: 41 :: 41 :: 40 :: 41 :: 40 :: 41 :: 40 :: 40 :: 40 :: l) = true := by kernel_rfl
theorem evMiddleFar_c506 (j : Nat) : allR (ok_MiddleFar j) 5 1 7 (fun l => 40 :: 40 :: 40 :: 40 :: 41 :: 41 :: 40 :: 40 :: 41 :: 41 :: 41 :: 40 :: 41 :: l) = true := by kernel_rfl
theorem evMiddleFar_c532 (j : Nat) : allR (ok_MiddleFar j) 5 1 7 (fun l => 40 :: 40 :: 40 :: 40 :: 41 :: 40 :: 41 :: 41 :: 41 :: 40 :: 41 :: 40 :: 41 :: l) = true := by kernel_rfl
theorem evMiddleFar_c559 (j : Nat) : allR (ok_MiddleFar j) 5 1 7 (fun l => 40 :: 40 :: 40 :: 40 :: 41 :: 40 :: 41 :: 40 :: 41 :: 40 :: 41 :: 41 :: 41 :: l) = true := by kernel_rfl
theorem evMiddleFar_c590 (j : Nat) : allR (ok_MiddleFar j) 6 6 9 (fun l => 40 :: 40 :: 40 :: 40 :: 41 :: 40 :: 40 :: 41 :: 41 :: 40 :: 40 :: 40 :: l) = true := by kernel_rfl
theorem evMiddleFar_c599 (j : Nat) : allR (ok_MiddleFar j) 5 5 9 (fun l => 40 :: 40 :: 40 :: 40 :: 41 :: 40 :: 40 :: 41 :: 40 :: 40 :: 41 :: 41 :: 40 :: l) = true := by kernel_rfl
theorem evMiddleFar_c605 (j : Nat) : allR (ok_MiddleFar j) 5 5 9 (fun l => 40 :: 40 :: 40 :: 40 :: 41 :: 40 :: 40 :: 40 :: 41 :: 41 :: 41 :: 40 :: 40 :: l) = true := by kernel_rfl
theorem evMiddleFar_c613 (j : Nat) : allR (ok_MiddleFar j) 5 3 8 (fun l => 40 :: 40 :: 40 :: 40 :: 41 :: 40 :: 40 :: 40 :: 40 :: 41 :: 41 :: 41 :: 41 :: l) = true := by kernel_rfl
theorem evMiddleFar_c645 (j : Nat) : allR (ok_MiddleFar j) 5 3 8 (fun l => 40 :: 40 :: 40 :: 40 :: 40 :: 41 :: 41 :: 40 :: 41 :: 41 :: 40 :: 40 :: 41 :: l) = true := by kernel_rfl
theorem evMiddleFar_c676 (j : Nat) : allR (ok_MiddleFar j) 5 3 8 (fun l => 40 :: 40 :: 40 :: 40 :: 40 :: 41 :: 40 :: 41 :: 41 :: 40 :: 40 :: 41 :: 41 :: l) = true := by kernel_rfl
theorem evMiddleFar_c705 (j : Nat) : allR (ok_MiddleFar j) 8 8 9 (fun l => 40 :: 40 :: 40 :: 40 :: 40 :: 41 :: 40 :: 40 :: 40 :: 40 :: l) = true := by kernel_rfl
theorem evMiddleFar_c717 (j : Nat) : allR (ok_MiddleFar j) 5 3 8 (fun l => 40 :: 40 :: 40 :: 40 :: 40 :: 40 :: 41 :: 41 :: 41 :: 40 :: 40 :: 41 :: 41 :: l) = true := by kernel_rfl
theorem evMiddleFar_c746 (j : Nat) : allR (ok_MiddleFar j) 8 8 9 (fun l => 40 :: 40 :: 40 :: 40 :: 40 :: 40 :: 41 :: 40 :: 40 :: 40 :: l) = true := by kernel_rfl
theorem evMiddleFar_c758 (j : Nat) : allR (ok_MiddleFar j) 5 3 8 (fun l => 40 :: 40 :: 40 :: 40 :: 40 :: 40 :: 40 :: 41 :: 40 :: 41 :: 41 :: 41 :: 41 :: l) = true := by kernel_rfl
end
end Go.AI.T
