/- The evaluation, part 3. -/
import Derived.Test.YtjdhiljnablogabPairBelowBad
import Derived.KernelRfl
namespace Go.AI.T
open Go Go.RowKit Go.AI
set_option linter.unusedVariables false
set_option linter.unusedSimpArgs false
set_option maxRecDepth 100000
noncomputable section
theorem evPairBelow_12_0 : okA_PairBelow [40, 40, 41, 40, 40, 40, 41, 40, 40, 41, 40, 41, 41, 41, 40, 41, 41, 41] CH0 = true := by kernel_rfl
theorem evPairBelow_12_1 : okA_PairBelow [40, 40, 41, 40, 40, 40, 41, 40, 40, 41, 40, 41, 41, 41, 40, 41, 41, 41] CH1 = true := by kernel_rfl
theorem evPairBelow_12_2 : okA_PairBelow [40, 40, 41, 40, 40, 40, 41, 40, 40, 41, 40, 41, 41, 41, 40, 41, 41, 41] CH2 = true := by kernel_rfl
theorem evPairBelow_12_3 : okA_PairBelow [40, 40, 41, 40, 40, 40, 41, 40, 40, 41, 40, 41, 41, 41, 40, 41, 41, 41] CH3 = true := by kernel_rfl
theorem evPairBelow_12_4 : okA_PairBelow [40, 40, 41, 40, 40, 40, 41, 40, 40, 41, 40, 41, 41, 41, 40, 41, 41, 41] CH4 = true := by kernel_rfl
theorem evPairBelow_12_5 : okA_PairBelow [40, 40, 41, 40, 40, 40, 41, 40, 40, 41, 40, 41, 41, 41, 40, 41, 41, 41] CH5 = true := by kernel_rfl
theorem evPairBelow_12_6 : okA_PairBelow [40, 40, 41, 40, 40, 40, 41, 40, 40, 41, 40, 41, 41, 41, 40, 41, 41, 41] CH6 = true := by kernel_rfl
theorem evPairBelow_12_7 : okA_PairBelow [40, 40, 41, 40, 40, 40, 41, 40, 40, 41, 40, 41, 41, 41, 40, 41, 41, 41] CH7 = true := by kernel_rfl
theorem evPairBelow_12 : okA_PairBelow [40, 40, 41, 40, 40, 40, 41, 40, 40, 41, 40, 41, 41, 41, 40, 41, 41, 41] PL = true := by rw [pl_eq]; exact okA_app evPairBelow_12_0 (okA_app evPairBelow_12_1 (okA_app evPairBelow_12_2 (okA_app evPairBelow_12_3 (okA_app evPairBelow_12_4 (okA_app evPairBelow_12_5 (okA_app evPairBelow_12_6 (evPairBelow_12_7)))))))
theorem evPairBelow_18_0 : okA_PairBelow [40, 40, 40, 41, 40, 40, 41, 40, 40, 41, 40, 41, 41, 41, 41, 40, 41, 41] CH0 = true := by kernel_rfl
theorem evPairBelow_18_1 : okA_PairBelow [40, 40, 40, 41, 40, 40, 41, 40, 40, 41, 40, 41, 41, 41, 41, 40, 41, 41] CH1 = true := by kernel_rfl
theorem evPairBelow_18_2 : okA_PairBelow [40, 40, 40, 41, 40, 40, 41, 40, 40, 41, 40, 41, 41, 41, 41, 40, 41, 41] CH2 = true := by kernel_rfl
theorem evPairBelow_18_3 : okA_PairBelow [40, 40, 40, 41, 40, 40, 41, 40, 40, 41, 40, 41, 41, 41, 41, 40, 41, 41] CH3 = true := by kernel_rfl
theorem evPairBelow_18_4 : okA_PairBelow [40, 40, 40, 41, 40, 40, 41, 40, 40, 41, 40, 41, 41, 41, 41, 40, 41, 41] CH4 = true := by kernel_rfl
theorem evPairBelow_18_5 : okA_PairBelow [40, 40, 40, 41, 40, 40, 41, 40, 40, 41, 40, 41, 41, 41, 41, 40, 41, 41] CH5 = true := by kernel_rfl
theorem evPairBelow_18_6 : okA_PairBelow [40, 40, 40, 41, 40, 40, 41, 40, 40, 41, 40, 41, 41, 41, 41, 40, 41, 41] CH6 = true := by kernel_rfl
theorem evPairBelow_18_7 : okA_PairBelow [40, 40, 40, 41, 40, 40, 41, 40, 40, 41, 40, 41, 41, 41, 41, 40, 41, 41] CH7 = true := by kernel_rfl
theorem evPairBelow_18 : okA_PairBelow [40, 40, 40, 41, 40, 40, 41, 40, 40, 41, 40, 41, 41, 41, 41, 40, 41, 41] PL = true := by rw [pl_eq]; exact okA_app evPairBelow_18_0 (okA_app evPairBelow_18_1 (okA_app evPairBelow_18_2 (okA_app evPairBelow_18_3 (okA_app evPairBelow_18_4 (okA_app evPairBelow_18_5 (okA_app evPairBelow_18_6 (evPairBelow_18_7)))))))
theorem evPairBelow_5_0 : okA_PairBelow [40, 40, 41, 40, 40, 40, 41, 40, 41, 41, 40, 41, 41, 41] CH0 = true := by kernel_rfl
theorem evPairBelow_5_1 : okA_PairBelow [40, 40, 41, 40, 40, 40, 41, 40, 41, 41, 40, 41, 41, 41] CH1 = true := by kernel_rfl
theorem evPairBelow_5_2 : okA_PairBelow [40, 40, 41, 40, 40, 40, 41, 40, 41, 41, 40, 41, 41, 41] CH2 = true := by kernel_rfl
theorem evPairBelow_5_3 : okA_PairBelow [40, 40, 41, 40, 40, 40, 41, 40, 41, 41, 40, 41, 41, 41] CH3 = true := by kernel_rfl
theorem evPairBelow_5_4 : okA_PairBelow [40, 40, 41, 40, 40, 40, 41, 40, 41, 41, 40, 41, 41, 41] CH4 = true := by kernel_rfl
theorem evPairBelow_5_5 : okA_PairBelow [40, 40, 41, 40, 40, 40, 41, 40, 41, 41, 40, 41, 41, 41] CH5 = true := by kernel_rfl
theorem evPairBelow_5_6 : okA_PairBelow [40, 40, 41, 40, 40, 40, 41, 40, 41, 41, 40, 41, 41, 41] CH6 = true := by kernel_rfl
theorem evPairBelow_5_7 : okA_PairBelow [40, 40, 41, 40, 40, 40, 41, 40, 41, 41, 40, 41, 41, 41] CH7 = true := by kernel_rfl
theorem evPairBelow_5 : okA_PairBelow [40, 40, 41, 40, 40, 40, 41, 40, 41, 41, 40, 41, 41, 41] PL = true := by rw [pl_eq]; exact okA_app evPairBelow_5_0 (okA_app evPairBelow_5_1 (okA_app evPairBelow_5_2 (okA_app evPairBelow_5_3 (okA_app evPairBelow_5_4 (okA_app evPairBelow_5_5 (okA_app evPairBelow_5_6 (evPairBelow_5_7)))))))
theorem evPairBelow_1_0 : okA_PairBelow [40, 40, 41, 40, 41, 41] CH0 = true := by kernel_rfl
theorem evPairBelow_1_1 : okA_PairBelow [40, 40, 41, 40, 41, 41] CH1 = true := by kernel_rfl
theorem evPairBelow_1_2 : okA_PairBelow [40, 40, 41, 40, 41, 41] CH2 = true := by kernel_rfl
theorem evPairBelow_1_3 : okA_PairBelow [40, 40, 41, 40, 41, 41] CH3 = true := by kernel_rfl
theorem evPairBelow_1_4 : okA_PairBelow [40, 40, 41, 40, 41, 41] CH4 = true := by kernel_rfl
theorem evPairBelow_1_5 : okA_PairBelow [40, 40, 41, 40, 41, 41] CH5 = true := by kernel_rfl
theorem evPairBelow_1_6 : okA_PairBelow [40, 40, 41, 40, 41, 41] CH6 = true := by kernel_rfl
theorem evPairBelow_1_7 : okA_PairBelow [40, 40, 41, 40, 41, 41] CH7 = true := by kernel_rfl
theorem evPairBelow_1 : okA_PairBelow [40, 40, 41, 40, 41, 41] PL = true := by rw [pl_eq]; exact okA_app evPairBelow_1_0 (okA_app evPairBelow_1_1 (okA_app evPairBelow_1_2 (okA_app evPairBelow_1_3 (okA_app evPairBelow_1_4 (okA_app evPairBelow_1_5 (okA_app evPairBelow_1_6 (evPairBelow_1_7)))))))
end
end Go.AI.T
