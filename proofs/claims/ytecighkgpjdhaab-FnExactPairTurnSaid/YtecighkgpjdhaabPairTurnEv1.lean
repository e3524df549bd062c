/- The evaluation, part 1. -/
import Derived.Test.YtecighkgpjdhaabPairTurnBad
import Derived.KernelRfl
namespace Go.AI.T
open Go Go.RowKit Go.AI
set_option linter.unusedVariables false
set_option linter.unusedSimpArgs false
set_option maxRecDepth 100000
noncomputable section
theorem evPairTurn_c1 (j : Nat) : allR (ok_PairTurn j) 14 0 2 (fun l => 40 :: 40 :: 41 :: 41 :: l) = true := by kernel_rfl
theorem evPairTurn_c9 (j : Nat) : allR (ok_PairTurn j) 9 5 7 (fun l => 40 :: 40 :: 41 :: 40 :: 41 :: 40 :: 40 :: 40 :: 40 :: l) = true := by kernel_rfl
theorem evPairTurn_c16 (j : Nat) : allR (ok_PairTurn j) 9 5 7 (fun l => 40 :: 40 :: 41 :: 40 :: 40 :: 41 :: 40 :: 40 :: 40 :: l) = true := by kernel_rfl
theorem evPairTurn_c22 (j : Nat) : allR (ok_PairTurn j) 9 5 7 (fun l => 40 :: 40 :: 41 :: 40 :: 40 :: 40 :: 40 :: 41 :: 40 :: l) = true := by kernel_rfl
theorem evPairTurn_c29 (j : Nat) : allR (ok_PairTurn j) 9 3 6 (fun l => 40 :: 40 :: 40 :: 41 :: 41 :: 40 :: 40 :: 41 :: 40 :: l) = true := by kernel_rfl
theorem evPairTurn_c41 (j : Nat) : allR (ok_PairTurn j) 9 3 6 (fun l => 40 :: 40 :: 40 :: 41 :: 40 :: 40 :: 41 :: 40 :: 41 :: l) = true := by kernel_rfl
theorem evPairTurn_c52 (j : Nat) : allR (ok_PairTurn j) 9 5 7 (fun l => 40 :: 40 :: 40 :: 40 :: 41 :: 41 :: 40 :: 40 :: 40 :: l) = true := by kernel_rfl
theorem evPairTurn_c58 (j : Nat) : allR (ok_PairTurn j) 9 5 7 (fun l => 40 :: 40 :: 40 :: 40 :: 41 :: 40 :: 40 :: 41 :: 40 :: l) = true := by kernel_rfl
theorem evPairTurn_c65 (j : Nat) : allR (ok_PairTurn j) 9 5 7 (fun l => 40 :: 40 :: 40 :: 40 :: 40 :: 41 :: 40 :: 41 :: 40 :: l) = true := by kernel_rfl
theorem evPairTurn_c70 (j : Nat) : allR (ok_PairTurn j) 11 7 7 (fun l => 40 :: 40 :: 40 :: 40 :: 40 :: 40 :: 40 :: l) = true := by kernel_rfl
end
end Go.AI.T
