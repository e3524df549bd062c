/- The evaluation, part 5. -/
import Derived.Test.YtecighkgpjdhaabPairTurnBad
import Derived.KernelRfl
namespace Go.AI.T
open Go Go.RowKit Go.AI
set_option linter.unusedVariables false
set_option linter.unusedSimpArgs false
set_option maxRecDepth 100000
noncomputable section
theorem evPairTurn_c5 (j : Nat) : allR (ok_PairTurn j) 9 3 6 (fun l => 40 :: 40 :: 41 :: 40 :: 41 :: 40 :: 41 :: 40 :: 40 :: l) = true := by kernel_rfl
theorem evPairTurn_c17 (j : Nat) : allR (ok_PairTurn j) 9 1 5 (fun l => 40 :: 40 :: 41 :: 40 :: 40 :: 40 :: 41 :: 41 :: 41 :: l) = true := by kernel_rfl
theorem evPairTurn_c23 (j : Nat) : allR (ok_PairTurn j) 10 6 7 (fun l => 40 :: 40 :: 41 :: 40 :: 40 :: 40 :: 40 :: 40 :: l) = true := by kernel_rfl
theorem evPairTurn_c36 (j : Nat) : allR (ok_PairTurn j) 9 3 6 (fun l => 40 :: 40 :: 40 :: 41 :: 40 :: 41 :: 40 :: 41 :: 40 :: l) = true := by kernel_rfl
theorem evPairTurn_c46 (j : Nat) : allR (ok_PairTurn j) 10 0 4 (fun l => 40 :: 40 :: 40 :: 40 :: 41 :: 41 :: 41 :: 41 :: l) = true := by kernel_rfl
theorem evPairTurn_c47 (j : Nat) : allR (ok_PairTurn j) 9 1 5 (fun l => 40 :: 40 :: 40 :: 40 :: 41 :: 41 :: 41 :: 40 :: 41 :: l) = true := by kernel_rfl
theorem evPairTurn_c53 (j : Nat) : allR (ok_PairTurn j) 9 1 5 (fun l => 40 :: 40 :: 40 :: 40 :: 41 :: 40 :: 41 :: 41 :: 41 :: l) = true := by kernel_rfl
theorem evPairTurn_c57 (j : Nat) : allR (ok_PairTurn j) 9 3 6 (fun l => 40 :: 40 :: 40 :: 40 :: 41 :: 40 :: 40 :: 41 :: 41 :: l) = true := by kernel_rfl
theorem evPairTurn_c68 (j : Nat) : allR (ok_PairTurn j) 9 5 7 (fun l => 40 :: 40 :: 40 :: 40 :: 40 :: 40 :: 41 :: 41 :: 40 :: l) = true := by kernel_rfl
end
end Go.AI.T
