/- The evaluation, part 4. -/
import Derived.Test.YtjdhiljnablogabPairBelowBad
import Derived.KernelRfl
namespace Go.AI.T
open Go Go.RowKit Go.AI
set_option linter.unusedVariables false
set_option linter.unusedSimpArgs false
set_option maxRecDepth 100000
noncomputable section
theorem evPairBelow_13_0 : okA_PairBelow [40, 40, 41, 40, 40, 40, 40, 41, 40, 41, 41, 40, 41, 41, 40, 41, 41, 41] CH0 = true := by kernel_rfl
theorem evPairBelow_13_1 : okA_PairBelow [40, 40, 41, 40, 40, 40, 40, 41, 40, 41, 41, 40, 41, 41, 40, 41, 41, 41] CH1 = true := by kernel_rfl
theorem evPairBelow_13_2 : okA_PairBelow [40, 40, 41, 40, 40, 40, 40, 41, 40, 41, 41, 40, 41, 41, 40, 41, 41, 41] CH2 = true := by kernel_rfl
theorem evPairBelow_13_3 : okA_PairBelow [40, 40, 41, 40, 40, 40, 40, 41, 40, 41, 41, 40, 41, 41, 40, 41, 41, 41] CH3 = true := by kernel_rfl
theorem evPairBelow_13_4 : okA_PairBelow [40, 40, 41, 40, 40, 40, 40, 41, 40, 41, 41, 40, 41, 41, 40, 41, 41, 41] CH4 = true := by kernel_rfl
theorem evPairBelow_13_5 : okA_PairBelow [40, 40, 41, 40, 40, 40, 40, 41, 40, 41, 41, 40, 41, 41, 40, 41, 41, 41] CH5 = true := by kernel_rfl
theorem evPairBelow_13_6 : okA_PairBelow [40, 40, 41, 40, 40, 40, 40, 41, 40, 41, 41, 40, 41, 41, 40, 41, 41, 41] CH6 = true := by kernel_rfl
theorem evPairBelow_13_7 : okA_PairBelow [40, 40, 41, 40, 40, 40, 40, 41, 40, 41, 41, 40, 41, 41, 40, 41, 41, 41] CH7 = true := by kernel_rfl
theorem evPairBelow_13 : okA_PairBelow [40, 40, 41, 40, 40, 40, 40, 41, 40, 41, 41, 40, 41, 41, 40, 41, 41, 41] PL = true := by rw [pl_eq]; exact okA_app evPairBelow_13_0 (okA_app evPairBelow_13_1 (okA_app evPairBelow_13_2 (okA_app evPairBelow_13_3 (okA_app evPairBelow_13_4 (okA_app evPairBelow_13_5 (okA_app evPairBelow_13_6 (evPairBelow_13_7)))))))
theorem evPairBelow_19_0 : okA_PairBelow [40, 40, 40, 41, 40, 40, 40, 41, 40, 41, 41, 40, 41, 41, 41, 40, 41, 41] CH0 = true := by kernel_rfl
theorem evPairBelow_19_1 : okA_PairBelow [40, 40, 40, 41, 40, 40, 40, 41, 40, 41, 41, 40, 41, 41, 41, 40, 41, 41] CH1 = true := by kernel_rfl
theorem evPairBelow_19_2 : okA_PairBelow [40, 40, 40, 41, 40, 40, 40, 41, 40, 41, 41, 40, 41, 41, 41, 40, 41, 41] CH2 = true := by kernel_rfl
theorem evPairBelow_19_3 : okA_PairBelow [40, 40, 40, 41, 40, 40, 40, 41, 40, 41, 41, 40, 41, 41, 41, 40, 41, 41] CH3 = true := by kernel_rfl
theorem evPairBelow_19_4 : okA_PairBelow [40, 40, 40, 41, 40, 40, 40, 41, 40, 41, 41, 40, 41, 41, 41, 40, 41, 41] CH4 = true := by kernel_rfl
theorem evPairBelow_19_5 : okA_PairBelow [40, 40, 40, 41, 40, 40, 40, 41, 40, 41, 41, 40, 41, 41, 41, 40, 41, 41] CH5 = true := by kernel_rfl
theorem evPairBelow_19_6 : okA_PairBelow [40, 40, 40, 41, 40, 40, 40, 41, 40, 41, 41, 40, 41, 41, 41, 40, 41, 41] CH6 = true := by kernel_rfl
theorem evPairBelow_19_7 : okA_PairBelow [40, 40, 40, 41, 40, 40, 40, 41, 40, 41, 41, 40, 41, 41, 41, 40, 41, 41] CH7 = true := by kernel_rfl
theorem evPairBelow_19 : okA_PairBelow [40, 40, 40, 41, 40, 40, 40, 41, 40, 41, 41, 40, 41, 41, 41, 40, 41, 41] PL = true := by rw [pl_eq]; exact okA_app evPairBelow_19_0 (okA_app evPairBelow_19_1 (okA_app evPairBelow_19_2 (okA_app evPairBelow_19_3 (okA_app evPairBelow_19_4 (okA_app evPairBelow_19_5 (okA_app evPairBelow_19_6 (evPairBelow_19_7)))))))
theorem evPairBelow_6_0 : okA_PairBelow [40, 40, 40, 41, 40, 41, 41, 40, 40, 41, 40, 41, 41, 41] CH0 = true := by kernel_rfl
theorem evPairBelow_6_1 : okA_PairBelow [40, 40, 40, 41, 40, 41, 41, 40, 40, 41, 40, 41, 41, 41] CH1 = true := by kernel_rfl
theorem evPairBelow_6_2 : okA_PairBelow [40, 40, 40, 41, 40, 41, 41, 40, 40, 41, 40, 41, 41, 41] CH2 = true := by kernel_rfl
theorem evPairBelow_6_3 : okA_PairBelow [40, 40, 40, 41, 40, 41, 41, 40, 40, 41, 40, 41, 41, 41] CH3 = true := by kernel_rfl
theorem evPairBelow_6_4 : okA_PairBelow [40, 40, 40, 41, 40, 41, 41, 40, 40, 41, 40, 41, 41, 41] CH4 = true := by kernel_rfl
theorem evPairBelow_6_5 : okA_PairBelow [40, 40, 40, 41, 40, 41, 41, 40, 40, 41, 40, 41, 41, 41] CH5 = true := by kernel_rfl
theorem evPairBelow_6_6 : okA_PairBelow [40, 40, 40, 41, 40, 41, 41, 40, 40, 41, 40, 41, 41, 41] CH6 = true := by kernel_rfl
theorem evPairBelow_6_7 : okA_PairBelow [40, 40, 40, 41, 40, 41, 41, 40, 40, 41, 40, 41, 41, 41] CH7 = true := by kernel_rfl
theorem evPairBelow_6 : okA_PairBelow [40, 40, 40, 41, 40, 41, 41, 40, 40, 41, 40, 41, 41, 41] PL = true := by rw [pl_eq]; exact okA_app evPairBelow_6_0 (okA_app evPairBelow_6_1 (okA_app evPairBelow_6_2 (okA_app evPairBelow_6_3 (okA_app evPairBelow_6_4 (okA_app evPairBelow_6_5 (okA_app evPairBelow_6_6 (evPairBelow_6_7)))))))
theorem evPairBelow_0_0 : okA_PairBelow [40, 41] CH0 = true := by kernel_rfl
theorem evPairBelow_0_1 : okA_PairBelow [40, 41] CH1 = true := by kernel_rfl
theorem evPairBelow_0_2 : okA_PairBelow [40, 41] CH2 = true := by kernel_rfl
theorem evPairBelow_0_3 : okA_PairBelow [40, 41] CH3 = true := by kernel_rfl
theorem evPairBelow_0_4 : okA_PairBelow [40, 41] CH4 = true := by kernel_rfl
theorem evPairBelow_0_5 : okA_PairBelow [40, 41] CH5 = true := by kernel_rfl
theorem evPairBelow_0_6 : okA_PairBelow [40, 41] CH6 = true := by kernel_rfl
theorem evPairBelow_0_7 : okA_PairBelow [40, 41] CH7 = true := by kernel_rfl
theorem evPairBelow_0 : okA_PairBelow [40, 41] PL = true := by rw [pl_eq]; exact okA_app evPairBelow_0_0 (okA_app evPairBelow_0_1 (okA_app evPairBelow_0_2 (okA_app evPairBelow_0_3 (okA_app evPairBelow_0_4 (okA_app evPairBelow_0_5 (okA_app evPairBelow_0_6 (evPairBelow_0_7)))))))
end
end Go.AI.T
