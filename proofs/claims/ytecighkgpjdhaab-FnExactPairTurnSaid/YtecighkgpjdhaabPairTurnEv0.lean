/- The evaluation, part 0. -/
import Derived.Test.YtecighkgpjdhaabPairTurnBad
import Derived.KernelRfl
namespace Go.AI.T
open Go Go.RowKit Go.AI
set_option linter.unusedVariables false
set_option linter.unusedSimpArgs false
set_option maxRecDepth 100000
noncomputable section
theorem evPairTurn_c0 (j : Nat) : allR (ok_PairTurn j) 16 0 1 (fun l => 40 :: 41 :: l) = true := by kernel_rfl
theorem evPairTurn_c8 (j : Nat) : allR (ok_PairTurn j) 9 3 6 (fun l => 40 :: 40 :: 41 :: 40 :: 41 :: 40 :: 40 :: 40 :: 41 :: l) = true := by kernel_rfl
theorem evPairTurn_c19 (j : Nat) : allR (ok_PairTurn j) 9 3 6 (fun l => 40 :: 40 :: 41 :: 40 :: 40 :: 40 :: 41 :: 40 :: 41 :: l) = true := by kernel_rfl
theorem evPairTurn_c31 (j : Nat) : allR (ok_PairTurn j) 9 5 7 (fun l => 40 :: 40 :: 40 :: 41 :: 41 :: 40 :: 40 :: 40 :: 40 :: l) = true := by kernel_rfl
theorem evPairTurn_c38 (j : Nat) : allR (ok_PairTurn j) 9 5 7 (fun l => 40 :: 40 :: 40 :: 41 :: 40 :: 41 :: 40 :: 40 :: 40 :: l) = true := by kernel_rfl
theorem evPairTurn_c45 (j : Nat) : allR (ok_PairTurn j) 10 6 7 (fun l => 40 :: 40 :: 40 :: 41 :: 40 :: 40 :: 40 :: 40 :: l) = true := by kernel_rfl
theorem evPairTurn_c54 (j : Nat) : allR (ok_PairTurn j) 9 3 6 (fun l => 40 :: 40 :: 40 :: 40 :: 41 :: 40 :: 41 :: 41 :: 40 :: l) = true := by kernel_rfl
theorem evPairTurn_c63 (j : Nat) : allR (ok_PairTurn j) 9 5 7 (fun l => 40 :: 40 :: 40 :: 40 :: 40 :: 41 :: 41 :: 40 :: 40 :: l) = true := by kernel_rfl
theorem evPairTurn_c69 (j : Nat) : allR (ok_PairTurn j) 10 6 7 (fun l => 40 :: 40 :: 40 :: 40 :: 40 :: 40 :: 41 :: 40 :: l) = true := by kernel_rfl
end
end Go.AI.T
