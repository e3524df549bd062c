/- The evaluation, part 1. -/
import Derived.Test.YtjdhiljnablogabPairBelowBad
import Derived.KernelRfl
namespace Go.AI.T
open Go Go.RowKit Go.AI
set_option linter.unusedVariables false
set_option linter.unusedSimpArgs false
set_option maxRecDepth 100000
noncomputable section
theorem evPairBelow_10_0 : okA_PairBelow [40, 40, 41, 40, 40, 41, 40, 40, 40, 41, 40, 41, 41, 40, 41, 41, 41, 41] CH0 = true := by kernel_rfl
theorem evPairBelow_10_1 : okA_PairBelow [40, 40, 41, 40, 40, 41, 40, 40, 40, 41, 40, 41, 41, 40, 41, 41, 41, 41] CH1 = true := by kernel_rfl
theorem evPairBelow_10_2 : okA_PairBelow [40, 40, 41, 40, 40, 41, 40, 40, 40, 41, 40, 41, 41, 40, 41, 41, 41, 41] CH2 = true := by kernel_rfl
theorem evPairBelow_10_3 : okA_PairBelow [40, 40, 41, 40, 40, 41, 40, 40, 40, 41, 40, 41, 41, 40, 41, 41, 41, 41] CH3 = true := by kernel_rfl
theorem evPairBelow_10_4 : okA_PairBelow [40, 40, 41, 40, 40, 41, 40, 40, 40, 41, 40, 41, 41, 40, 41, 41, 41, 41] CH4 = true := by kernel_rfl
theorem evPairBelow_10_5 : okA_PairBelow [40, 40, 41, 40, 40, 41, 40, 40, 40, 41, 40, 41, 41, 40, 41, 41, 41, 41] CH5 = true := by kernel_rfl
theorem evPairBelow_10_6 : okA_PairBelow [40, 40, 41, 40, 40, 41, 40, 40, 40, 41, 40, 41, 41, 40, 41, 41, 41, 41] CH6 = true := by kernel_rfl
theorem evPairBelow_10_7 : okA_PairBelow [40, 40, 41, 40, 40, 41, 40, 40, 40, 41, 40, 41, 41, 40, 41, 41, 41, 41] CH7 = true := by kernel_rfl
theorem evPairBelow_10 : okA_PairBelow [40, 40, 41, 40, 40, 41, 40, 40, 40, 41, 40, 41, 41, 40, 41, 41, 41, 41] PL = true := by rw [pl_eq]; exact okA_app evPairBelow_10_0 (okA_app evPairBelow_10_1 (okA_app evPairBelow_10_2 (okA_app evPairBelow_10_3 (okA_app evPairBelow_10_4 (okA_app evPairBelow_10_5 (okA_app evPairBelow_10_6 (evPairBelow_10_7)))))))
theorem evPairBelow_16_0 : okA_PairBelow [40, 40, 40, 41, 40, 40, 41, 40, 41, 41, 41, 40, 40, 41, 40, 41, 41, 41] CH0 = true := by kernel_rfl
theorem evPairBelow_16_1 : okA_PairBelow [40, 40, 40, 41, 40, 40, 41, 40, 41, 41, 41, 40, 40, 41, 40, 41, 41, 41] CH1 = true := by kernel_rfl
theorem evPairBelow_16_2 : okA_PairBelow [40, 40, 40, 41, 40, 40, 41, 40, 41, 41, 41, 40, 40, 41, 40, 41, 41, 41] CH2 = true := by kernel_rfl
theorem evPairBelow_16_3 : okA_PairBelow [40, 40, 40, 41, 40, 40, 41, 40, 41, 41, 41, 40, 40, 41, 40, 41, 41, 41] CH3 = true := by kernel_rfl
theorem evPairBelow_16_4 : okA_PairBelow [40, 40, 40, 41, 40, 40, 41, 40, 41, 41, 41, 40, 40, 41, 40, 41, 41, 41] CH4 = true := by kernel_rfl
theorem evPairBelow_16_5 : okA_PairBelow [40, 40, 40, 41, 40, 40, 41, 40, 41, 41, 41, 40, 40, 41, 40, 41, 41, 41] CH5 = true := by kernel_rfl
theorem evPairBelow_16_6 : okA_PairBelow [40, 40, 40, 41, 40, 40, 41, 40, 41, 41, 41, 40, 40, 41, 40, 41, 41, 41] CH6 = true := by kernel_rfl
theorem evPairBelow_16_7 : okA_PairBelow [40, 40, 40, 41, 40, 40, 41, 40, 41, 41, 41, 40, 40, 41, 40, 41, 41, 41] CH7 = true := by kernel_rfl
theorem evPairBelow_16 : okA_PairBelow [40, 40, 40, 41, 40, 40, 41, 40, 41, 41, 41, 40, 40, 41, 40, 41, 41, 41] PL = true := by rw [pl_eq]; exact okA_app evPairBelow_16_0 (okA_app evPairBelow_16_1 (okA_app evPairBelow_16_2 (okA_app evPairBelow_16_3 (okA_app evPairBelow_16_4 (okA_app evPairBelow_16_5 (okA_app evPairBelow_16_6 (evPairBelow_16_7)))))))
theorem evPairBelow_22_0 : okA_PairBelow [40, 40, 40, 40, 40, 41, 40, 41, 41, 40, 41, 41, 40, 41, 41, 40, 41, 41] CH0 = true := by kernel_rfl
theorem evPairBelow_22_1 : okA_PairBelow [40, 40, 40, 40, 40, 41, 40, 41, 41, 40, 41, 41, 40, 41, 41, 40, 41, 41] CH1 = true := by kernel_rfl
theorem evPairBelow_22_2 : okA_PairBelow [40, 40, 40, 40, 40, 41, 40, 41, 41, 40, 41, 41, 40, 41, 41, 40, 41, 41] CH2 = true := by kernel_rfl
theorem evPairBelow_22_3 : okA_PairBelow [40, 40, 40, 40, 40, 41, 40, 41, 41, 40, 41, 41, 40, 41, 41, 40, 41, 41] CH3 = true := by kernel_rfl
theorem evPairBelow_22_4 : okA_PairBelow [40, 40, 40, 40, 40, 41, 40, 41, 41, 40, 41, 41, 40, 41, 41, 40, 41, 41] CH4 = true := by kernel_rfl
theorem evPairBelow_22_5 : okA_PairBelow [40, 40, 40, 40, 40, 41, 40, 41, 41, 40, 41, 41, 40, 41, 41, 40, 41, 41] CH5 = true := by kernel_rfl
theorem evPairBelow_22_6 : okA_PairBelow [40, 40, 40, 40, 40, 41, 40, 41, 41, 40, 41, 41, 40, 41, 41, 40, 41, 41] CH6 = true := by kernel_rfl
theorem evPairBelow_22_7 : okA_PairBelow [40, 40, 40, 40, 40, 41, 40, 41, 41, 40, 41, 41, 40, 41, 41, 40, 41, 41] CH7 = true := by kernel_rfl
theorem evPairBelow_22 : okA_PairBelow [40, 40, 40, 40, 40, 41, 40, 41, 41, 40, 41, 41, 40, 41, 41, 40, 41, 41] PL = true := by rw [pl_eq]; exact okA_app evPairBelow_22_0 (okA_app evPairBelow_22_1 (okA_app evPairBelow_22_2 (okA_app evPairBelow_22_3 (okA_app evPairBelow_22_4 (okA_app evPairBelow_22_5 (okA_app evPairBelow_22_6 (evPairBelow_22_7)))))))
theorem evPairBelow_2_0 : okA_PairBelow [40, 40, 41, 40, 40, 41, 40, 41, 41, 41] CH0 = true := by kernel_rfl
theorem evPairBelow_2_1 : okA_PairBelow [40, 40, 41, 40, 40, 41, 40, 41, 41, 41] CH1 = true := by kernel_rfl
theorem evPairBelow_2_2 : okA_PairBelow [40, 40, 41, 40, 40, 41, 40, 41, 41, 41] CH2 = true := by kernel_rfl
theorem evPairBelow_2_3 : okA_PairBelow [40, 40, 41, 40, 40, 41, 40, 41, 41, 41] CH3 = true := by kernel_rfl
theorem evPairBelow_2_4 : okA_PairBelow [40, 40, 41, 40, 40, 41, 40, 41, 41, 41] CH4 = true := by kernel_rfl
theorem evPairBelow_2_5 : okA_PairBelow [40, 40, 41, 40, 40, 41, 40, 41, 41, 41] CH5 = true := by kernel_rfl
theorem evPairBelow_2_6 : okA_PairBelow [40, 40, 41, 40, 40, 41, 40, 41, 41, 41] CH6 = true := by kernel_rfl
theorem evPairBelow_2_7 : okA_PairBelow [40, 40, 41, 40, 40, 41, 40, 41, 41, 41] CH7 = true := by kernel_rfl
theorem evPairBelow_2 : okA_PairBelow [40, 40, 41, 40, 40, 41, 40, 41, 41, 41] PL = true := by rw [pl_eq]; exact okA_app evPairBelow_2_0 (okA_app evPairBelow_2_1 (okA_app evPairBelow_2_2 (okA_app evPairBelow_2_3 (okA_app evPairBelow_2_4 (okA_app evPairBelow_2_5 (okA_app evPairBelow_2_6 (evPairBelow_2_7)))))))
end
end Go.AI.T
