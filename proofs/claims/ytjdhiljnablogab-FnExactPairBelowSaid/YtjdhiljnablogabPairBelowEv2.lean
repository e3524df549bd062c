/- The evaluation, part 2. -/
import Derived.Test.YtjdhiljnablogabPairBelowBad
import Derived.KernelRfl
namespace Go.AI.T
open Go Go.RowKit Go.AI
set_option linter.unusedVariables false
set_option linter.unusedSimpArgs false
set_option maxRecDepth 100000
noncomputable section
theorem evPairBelow_11_0 : okA_PairBelow [40, 40, 41, 40, 40, 40, 41, 40, 41, 41, 40, 40, 41, 40, 41, 41, 41, 41] CH0 = true := by kernel_rfl
theorem evPairBelow_11_1 : okA_PairBelow [40, 40, 41, 40, 40, 40, 41, 40, 41, 41, 40, 40, 41, 40, 41, 41, 41, 41] CH1 = true := by kernel_rfl
theorem evPairBelow_11_2 : okA_PairBelow [40, 40, 41, 40, 40, 40, 41, 40, 41, 41, 40, 40, 41, 40, 41, 41, 41, 41] CH2 = true := by kernel_rfl
theorem evPairBelow_11_3 : okA_PairBelow [40, 40, 41, 40, 40, 40, 41, 40, 41, 41, 40, 40, 41, 40, 41, 41, 41, 41] CH3 = true := by kernel_rfl
theorem evPairBelow_11_4 : okA_PairBelow [40, 40, 41, 40, 40, 40, 41, 40, 41, 41, 40, 40, 41, 40, 41, 41, 41, 41] CH4 = true := by kernel_rfl
theorem evPairBelow_11_5 : okA_PairBelow [40, 40, 41, 40, 40, 40, 41, 40, 41, 41, 40, 40, 41, 40, 41, 41, 41, 41] CH5 = true := by kernel_rfl
theorem evPairBelow_11_6 : okA_PairBelow [40, 40, 41, 40, 40, 40, 41, 40, 41, 41, 40, 40, 41, 40, 41, 41, 41, 41] CH6 = true := by kernel_rfl
theorem evPairBelow_11_7 : okA_PairBelow [40, 40, 41, 40, 40, 40, 41, 40, 41, 41, 40, 40, 41, 40, 41, 41, 41, 41] CH7 = true := by kernel_rfl
theorem evPairBelow_11 : okA_PairBelow [40, 40, 41, 40, 40, 40, 41, 40, 41, 41, 40, 40, 41, 40, 41, 41, 41, 41] PL = true := by rw [pl_eq]; exact okA_app evPairBelow_11_0 (okA_app evPairBelow_11_1 (okA_app evPairBelow_11_2 (okA_app evPairBelow_11_3 (okA_app evPairBelow_11_4 (okA_app evPairBelow_11_5 (okA_app evPairBelow_11_6 (evPairBelow_11_7)))))))
theorem evPairBelow_17_0 : okA_PairBelow [40, 40, 40, 40, 41, 40, 41, 41, 40, 41, 41, 40, 40, 41, 40, 41, 41, 41] CH0 = true := by kernel_rfl
theorem evPairBelow_17_1 : okA_PairBelow [40, 40, 40, 40, 41, 40, 41, 41, 40, 41, 41, 40, 40, 41, 40, 41, 41, 41] CH1 = true := by kernel_rfl
theorem evPairBelow_17_2 : okA_PairBelow [40, 40, 40, 40, 41, 40, 41, 41, 40, 41, 41, 40, 40, 41, 40, 41, 41, 41] CH2 = true := by kernel_rfl
theorem evPairBelow_17_3 : okA_PairBelow [40, 40, 40, 40, 41, 40, 41, 41, 40, 41, 41, 40, 40, 41, 40, 41, 41, 41] CH3 = true := by kernel_rfl
theorem evPairBelow_17_4 : okA_PairBelow [40, 40, 40, 40, 41, 40, 41, 41, 40, 41, 41, 40, 40, 41, 40, 41, 41, 41] CH4 = true := by kernel_rfl
theorem evPairBelow_17_5 : okA_PairBelow [40, 40, 40, 40, 41, 40, 41, 41, 40, 41, 41, 40, 40, 41, 40, 41, 41, 41] CH5 = true := by kernel_rfl
theorem evPairBelow_17_6 : okA_PairBelow [40, 40, 40, 40, 41, 40, 41, 41, 40, 41, 41, 40, 40, 41, 40, 41, 41, 41] CH6 = true := by kernel_rfl
theorem evPairBelow_17_7 : okA_PairBelow [40, 40, 40, 40, 41, 40, 41, 41, 40, 41, 41, 40, 40, 41, 40, 41, 41, 41] CH7 = true := by kernel_rfl
theorem evPairBelow_17 : okA_PairBelow [40, 40, 40, 40, 41, 40, 41, 41, 40, 41, 41, 40, 40, 41, 40, 41, 41, 41] PL = true := by rw [pl_eq]; exact okA_app evPairBelow_17_0 (okA_app evPairBelow_17_1 (okA_app evPairBelow_17_2 (okA_app evPairBelow_17_3 (okA_app evPairBelow_17_4 (okA_app evPairBelow_17_5 (okA_app evPairBelow_17_6 (evPairBelow_17_7)))))))
theorem evPairBelow_4_0 : okA_PairBelow [40, 40, 41, 40, 40, 41, 40, 40, 41, 40, 41, 41, 41, 41] CH0 = true := by kernel_rfl
theorem evPairBelow_4_1 : okA_PairBelow [40, 40, 41, 40, 40, 41, 40, 40, 41, 40, 41, 41, 41, 41] CH1 = true := by kernel_rfl
theorem evPairBelow_4_2 : okA_PairBelow [40, 40, 41, 40, 40, 41, 40, 40, 41, 40, 41, 41, 41, 41] CH2 = true := by kernel_rfl
theorem evPairBelow_4_3 : okA_PairBelow [40, 40, 41, 40, 40, 41, 40, 40, 41, 40, 41, 41, 41, 41] CH3 = true := by kernel_rfl
theorem evPairBelow_4_4 : okA_PairBelow [40, 40, 41, 40, 40, 41, 40, 40, 41, 40, 41, 41, 41, 41] CH4 = true := by kernel_rfl
theorem evPairBelow_4_5 : okA_PairBelow [40, 40, 41, 40, 40, 41, 40, 40, 41, 40, 41, 41, 41, 41] CH5 = true := by kernel_rfl
theorem evPairBelow_4_6 : okA_PairBelow [40, 40, 41, 40, 40, 41, 40, 40, 41, 40, 41, 41, 41, 41] CH6 = true := by kernel_rfl
theorem evPairBelow_4_7 : okA_PairBelow [40, 40, 41, 40, 40, 41, 40, 40, 41, 40, 41, 41, 41, 41] CH7 = true := by kernel_rfl
theorem evPairBelow_4 : okA_PairBelow [40, 40, 41, 40, 40, 41, 40, 40, 41, 40, 41, 41, 41, 41] PL = true := by rw [pl_eq]; exact okA_app evPairBelow_4_0 (okA_app evPairBelow_4_1 (okA_app evPairBelow_4_2 (okA_app evPairBelow_4_3 (okA_app evPairBelow_4_4 (okA_app evPairBelow_4_5 (okA_app evPairBelow_4_6 (evPairBelow_4_7)))))))
theorem evPairBelow_3_0 : okA_PairBelow [40, 40, 40, 41, 40, 41, 41, 40, 41, 41] CH0 = true := by kernel_rfl
theorem evPairBelow_3_1 : okA_PairBelow [40, 40, 40, 41, 40, 41, 41, 40, 41, 41] CH1 = true := by kernel_rfl
theorem evPairBelow_3_2 : okA_PairBelow [40, 40, 40, 41, 40, 41, 41, 40, 41, 41] CH2 = true := by kernel_rfl
theorem evPairBelow_3_3 : okA_PairBelow [40, 40, 40, 41, 40, 41, 41, 40, 41, 41] CH3 = true := by kernel_rfl
theorem evPairBelow_3_4 : okA_PairBelow [40, 40, 40, 41, 40, 41, 41, 40, 41, 41] CH4 = true := by kernel_rfl
theorem evPairBelow_3_5 : okA_PairBelow [40, 40, 40, 41, 40, 41, 41, 40, 41, 41] CH5 = true := by kernel_rfl
theorem evPairBelow_3_6 : okA_PairBelow [40, 40, 40, 41, 40, 41, 41, 40, 41, 41] CH6 = true := by kernel_rfl
theorem evPairBelow_3_7 : okA_PairBelow [40, 40, 40, 41, 40, 41, 41, 40, 41, 41] CH7 = true := by kernel_rfl
theorem evPairBelow_3 : okA_PairBelow [40, 40, 40, 41, 40, 41, 41, 40, 41, 41] PL = true := by rw [pl_eq]; exact okA_app evPairBelow_3_0 (okA_app evPairBelow_3_1 (okA_app evPairBelow_3_2 (okA_app evPairBelow_3_3 (okA_app evPairBelow_3_4 (okA_app evPairBelow_3_5 (okA_app evPairBelow_3_6 (evPairBelow_3_7)))))))
end
end Go.AI.T
