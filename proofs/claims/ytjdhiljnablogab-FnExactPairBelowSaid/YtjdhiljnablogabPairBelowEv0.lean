/- The evaluation, part 0. -/
import Derived.Test.YtjdhiljnablogabPairBelowBad
import Derived.KernelRfl
namespace Go.AI.T
open Go Go.RowKit Go.AI
set_option linter.unusedVariables false
set_option linter.unusedSimpArgs false
set_option maxRecDepth 100000
noncomputable section
theorem evPairBelow_9_0 : okA_PairBelow [40, 40, 41, 40, 40, 41, 40, 40, 41, 40, 40, 41, 40, 41, 41, 41, 41, 41] CH0 = true := by kernel_rfl
theorem evPairBelow_9_1 : okA_PairBelow [40, 40, 41, 40, 40, 41, 40, 40, 41, 40, 40, 41, 40, 41, 41, 41, 41, 41] CH1 = true := by kernel_rfl
theorem evPairBelow_9_2 : okA_PairBelow [40, 40, 41, 40, 40, 41, 40, 40, 41, 40, 40, 41, 40, 41, 41, 41, 41, 41] CH2 = true := by kernel_rfl
theorem evPairBelow_9_3 : okA_PairBelow [40, 40, 41, 40, 40, 41, 40, 40, 41, 40, 40, 41, 40, 41, 41, 41, 41, 41] CH3 = true := by kernel_rfl
theorem evPairBelow_9_4 : okA_PairBelow [40, 40, 41, 40, 40, 41, 40, 40, 41, 40, 40, 41, 40, 41, 41, 41, 41, 41] CH4 = true := by kernel_rfl
theorem evPairBelow_9_5 : okA_PairBelow [40, 40, 41, 40, 40, 41, 40, 40, 41, 40, 40, 41, 40, 41, 41, 41, 41, 41] CH5 = true := by kernel_rfl
theorem evPairBelow_9_6 : okA_PairBelow [40, 40, 41, 40, 40, 41, 40, 40, 41, 40, 40, 41, 40, 41, 41, 41, 41, 41] CH6 = true := by kernel_rfl
theorem evPairBelow_9_7 : okA_PairBelow [40, 40, 41, 40, 40, 41, 40, 40, 41, 40, 40, 41, 40, 41, 41, 41, 41, 41] CH7 = true := by kernel_rfl
theorem evPairBelow_9 : okA_PairBelow [40, 40, 41, 40, 40, 41, 40, 40, 41, 40, 40, 41, 40, 41, 41, 41, 41, 41] PL = true := by rw [pl_eq]; exact okA_app evPairBelow_9_0 (okA_app evPairBelow_9_1 (okA_app evPairBelow_9_2 (okA_app evPairBelow_9_3 (okA_app evPairBelow_9_4 (okA_app evPairBelow_9_5 (okA_app evPairBelow_9_6 (evPairBelow_9_7)))))))
theorem evPairBelow_15_0 : okA_PairBelow [40, 40, 40, 41, 40, 41, 41, 40, 40, 40, 41, 40, 41, 41, 40, 41, 41, 41] CH0 = true := by kernel_rfl
theorem evPairBelow_15_1 : okA_PairBelow [40, 40, 40, 41, 40, 41, 41, 40, 40, 40, 41, 40, 41, 41, 40, 41, 41, 41] CH1 = true := by kernel_rfl
theorem evPairBelow_15_2 : okA_PairBelow [40, 40, 40, 41, 40, 41, 41, 40, 40, 40, 41, 40, 41, 41, 40, 41, 41, 41] CH2 = true := by kernel_rfl
theorem evPairBelow_15_3 : okA_PairBelow [40, 40, 40, 41, 40, 41, 41, 40, 40, 40, 41, 40, 41, 41, 40, 41, 41, 41] CH3 = true := by kernel_rfl
theorem evPairBelow_15_4 : okA_PairBelow [40, 40, 40, 41, 40, 41, 41, 40, 40, 40, 41, 40, 41, 41, 40, 41, 41, 41] CH4 = true := by kernel_rfl
theorem evPairBelow_15_5 : okA_PairBelow [40, 40, 40, 41, 40, 41, 41, 40, 40, 40, 41, 40, 41, 41, 40, 41, 41, 41] CH5 = true := by kernel_rfl
theorem evPairBelow_15_6 : okA_PairBelow [40, 40, 40, 41, 40, 41, 41, 40, 40, 40, 41, 40, 41, 41, 40, 41, 41, 41] CH6 = true := by kernel_rfl
theorem evPairBelow_15_7 : okA_PairBelow [40, 40, 40, 41, 40, 41, 41, 40, 40, 40, 41, 40, 41, 41, 40, 41, 41, 41] CH7 = true := by kernel_rfl
theorem evPairBelow_15 : okA_PairBelow [40, 40, 40, 41, 40, 41, 41, 40, 40, 40, 41, 40, 41, 41, 40, 41, 41, 41] PL = true := by rw [pl_eq]; exact okA_app evPairBelow_15_0 (okA_app evPairBelow_15_1 (okA_app evPairBelow_15_2 (okA_app evPairBelow_15_3 (okA_app evPairBelow_15_4 (okA_app evPairBelow_15_5 (okA_app evPairBelow_15_6 (evPairBelow_15_7)))))))
theorem evPairBelow_21_0 : okA_PairBelow [40, 40, 40, 40, 41, 40, 40, 41, 40, 41, 41, 41, 40, 41, 41, 40, 41, 41] CH0 = true := by kernel_rfl
theorem evPairBelow_21_1 : okA_PairBelow [40, 40, 40, 40, 41, 40, 40, 41, 40, 41, 41, 41, 40, 41, 41, 40, 41, 41] CH1 = true := by kernel_rfl
theorem evPairBelow_21_2 : okA_PairBelow [40, 40, 40, 40, 41, 40, 40, 41, 40, 41, 41, 41, 40, 41, 41, 40, 41, 41] CH2 = true := by kernel_rfl
theorem evPairBelow_21_3 : okA_PairBelow [40, 40, 40, 40, 41, 40, 40, 41, 40, 41, 41, 41, 40, 41, 41, 40, 41, 41] CH3 = true := by kernel_rfl
theorem evPairBelow_21_4 : okA_PairBelow [40, 40, 40, 40, 41, 40, 40, 41, 40, 41, 41, 41, 40, 41, 41, 40, 41, 41] CH4 = true := by kernel_rfl
theorem evPairBelow_21_5 : okA_PairBelow [40, 40, 40, 40, 41, 40, 40, 41, 40, 41, 41, 41, 40, 41, 41, 40, 41, 41] CH5 = true := by kernel_rfl
theorem evPairBelow_21_6 : okA_PairBelow [40, 40, 40, 40, 41, 40, 40, 41, 40, 41, 41, 41, 40, 41, 41, 40, 41, 41] CH6 = true := by kernel_rfl
theorem evPairBelow_21_7 : okA_PairBelow [40, 40, 40, 40, 41, 40, 40, 41, 40, 41, 41, 41, 40, 41, 41, 40, 41, 41] CH7 = true := by kernel_rfl
theorem evPairBelow_21 : okA_PairBelow [40, 40, 40, 40, 41, 40, 40, 41, 40, 41, 41, 41, 40, 41, 41, 40, 41, 41] PL = true := by rw [pl_eq]; exact okA_app evPairBelow_21_0 (okA_app evPairBelow_21_1 (okA_app evPairBelow_21_2 (okA_app evPairBelow_21_3 (okA_app evPairBelow_21_4 (okA_app evPairBelow_21_5 (okA_app evPairBelow_21_6 (evPairBelow_21_7)))))))
theorem evPairBelow_8_0 : okA_PairBelow [40, 40, 40, 40, 41, 40, 41, 41, 40, 41, 41, 40, 41, 41] CH0 = true := by kernel_rfl
theorem evPairBelow_8_1 : okA_PairBelow [40, 40, 40, 40, 41, 40, 41, 41, 40, 41, 41, 40, 41, 41] CH1 = true := by kernel_rfl
theorem evPairBelow_8_2 : okA_PairBelow [40, 40, 40, 40, 41, 40, 41, 41, 40, 41, 41, 40, 41, 41] CH2 = true := by kernel_rfl
theorem evPairBelow_8_3 : okA_PairBelow [40, 40, 40, 40, 41, 40, 41, 41, 40, 41, 41, 40, 41, 41] CH3 = true := by kernel_rfl
theorem evPairBelow_8_4 : okA_PairBelow [40, 40, 40, 40, 41, 40, 41, 41, 40, 41, 41, 40, 41, 41] CH4 = true := by kernel_rfl
theorem evPairBelow_8_5 : okA_PairBelow [40, 40, 40, 40, 41, 40, 41, 41, 40, 41, 41, 40, 41, 41] CH5 = true := by kernel_rfl
theorem evPairBelow_8_6 : okA_PairBelow [40, 40, 40, 40, 41, 40, 41, 41, 40, 41, 41, 40, 41, 41] CH6 = true := by kernel_rfl
theorem evPairBelow_8_7 : okA_PairBelow [40, 40, 40, 40, 41, 40, 41, 41, 40, 41, 41, 40, 41, 41] CH7 = true := by kernel_rfl
theorem evPairBelow_8 : okA_PairBelow [40, 40, 40, 40, 41, 40, 41, 41, 40, 41, 41, 40, 41, 41] PL = true := by rw [pl_eq]; exact okA_app evPairBelow_8_0 (okA_app evPairBelow_8_1 (okA_app evPairBelow_8_2 (okA_app evPairBelow_8_3 (okA_app evPairBelow_8_4 (okA_app evPairBelow_8_5 (okA_app evPairBelow_8_6 (evPairBelow_8_7)))))))
end
end Go.AI.T
