/- The evaluation, part 6. -/
import Derived.Test.YtecighkgpjdhaabPairTurnBad
import Derived.KernelRfl
namespace Go.AI.T
open Go Go.RowKit Go.AI
set_option linter.unusedVariables false
set_option linter.unusedSimpArgs false
set_option maxRecDepth 100000
noncomputable section
theorem evPairTurn_c6 (j : Nat) : allR (ok_PairTurn j) 9 1 5 (fun l => 40 :: 40 :: 41 :: 40 :: 41 :: 40 :: 40 :: 41 :: 41 :: l) = true := by kernel_rfl
theorem evPairTurn_c14 (j : Nat) : allR (ok_PairTurn j) 9 3 6 (fun l => 40 :: 40 :: 41 :: 40 :: 40 :: 41 :: 40 :: 41 :: 40 :: l) = true := by kernel_rfl
theorem evPairTurn_c24 (j : Nat) : allR (ok_PairTurn j) 12 0 3 (fun l => 40 :: 40 :: 40 :: 41 :: 41 :: 41 :: l) = true := by kernel_rfl
theorem evPairTurn_c26 (j : Nat) : allR (ok_PairTurn j) 9 1 5 (fun l => 40 :: 40 :: 40 :: 41 :: 41 :: 40 :: 41 :: 40 :: 41 :: l) = true := by kernel_rfl
theorem evPairTurn_c34 (j : Nat) : allR (ok_PairTurn j) 9 3 6 (fun l => 40 :: 40 :: 40 :: 41 :: 40 :: 41 :: 41 :: 40 :: 40 :: l) = true := by kernel_rfl
theorem evPairTurn_c43 (j : Nat) : allR (ok_PairTurn j) 9 3 6 (fun l => 40 :: 40 :: 40 :: 41 :: 40 :: 40 :: 40 :: 41 :: 41 :: l) = true := by kernel_rfl
theorem evPairTurn_c55 (j : Nat) : allR (ok_PairTurn j) 9 3 6 (fun l => 40 :: 40 :: 40 :: 40 :: 41 :: 40 :: 41 :: 40 :: 41 :: l) = true := by kernel_rfl
theorem evPairTurn_c64 (j : Nat) : allR (ok_PairTurn j) 9 3 6 (fun l => 40 :: 40 :: 40 :: 40 :: 40 :: 41 :: 40 :: 41 :: 41 :: l) = true := by kernel_rfl
end
end Go.AI.T
