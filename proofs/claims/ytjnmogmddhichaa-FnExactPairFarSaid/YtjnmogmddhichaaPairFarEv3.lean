/- The evaluation, part 3. -/
import Derived.Test.YtjnmogmddhichaaPairFarBad
import Derived.KernelRfl
namespace Go.AI.T
open Go Go.RowKit Go.AI
set_option linter.unusedVariables false
set_option linter.unusedSimpArgs false
set_option maxRecDepth 100000
noncomputable section
theorem evPairFar_12_0 : okA_PairFar [40, 40, 41, 40, 40, 40, 41, 40, 40, 41, 40, 41, 41, 41, 40, 41, 41, 41] CH0 = true := by kernel_rfl
theorem evPairFar_12_1 : okA_PairFar [40, 40, 41, 40, 40, 40, 41, 40, 40, 41, 40, 41, 41, 41, 40, 41, 41, 41] CH1 = true := by kernel_rfl
theorem evPairFar_12_2 : okA_PairFar [40, 40, 41, 40, 40, 40, 41, 40, 40, 41, 40, 41, 41, 41, 40, 41, 41, 41] CH2 = true := by kernel_rfl
theorem evPairFar_12_3 : okA_PairFar [40, 40, 41, 40, 40, 40, 41, 40, 40, 41, 40, 41, 41, 41, 40, 41, 41, 41] CH3 = true := by kernel_rfl
theorem evPairFar_12_4 : okA_PairFar [40, 40, 41, 40, 40, 40, 41, 40, 40, 41, 40, 41, 41, 41, 40, 41, 41, 41] CH4 = true := by kernel_rfl
theorem evPairFar_12_5 : okA_PairFar [40, 40, 41, 40, 40, 40, 41, 40, 40, 41, 40, 41, 41, 41, 40, 41, 41, 41] CH5 = true := by kernel_rfl
theorem evPairFar_12_6 : okA_PairFar [40, 40, 41, 40, 40, 40, 41, 40, 40, 41, 40, 41, 41, 41, 40, 41, 41, 41] CH6 = true := by kernel_rfl
theorem evPairFar_12_7 : okA_PairFar [40, 40, 41, 40, 40, 40, 41, 40, 40, 41, 40, 41, 41, 41, 40, 41, 41, 41] CH7 = true := by kernel_rfl
theorem evPairFar_12 : okA_PairFar [40, 40, 41, 40, 40, 40, 41, 40, 40, 41, 40, 41, 41, 41, 40, 41, 41, 41] PL = true := by rw [pl_eq]; exact okA_app evPairFar_12_0 (okA_app evPairFar_12_1 (okA_app evPairFar_12_2 (okA_app evPairFar_12_3 (okA_app evPairFar_12_4 (okA_app evPairFar_12_5 (okA_app evPairFar_12_6 (evPairFar_12_7)))))))
theorem evPairFar_18_0 : okA_PairFar [40, 40, 40, 41, 40, 40, 41, 40, 40, 41, 40, 41, 41, 41, 41, 40, 41, 41] CH0 = true := by kernel_rfl
theorem evPairFar_18_1 : okA_PairFar [40, 40, 40, 41, 40, 40, 41, 40, 40, 41, 40, 41, 41, 41, 41, 40, 41, 41] CH1 = true := by kernel_rfl
theorem evPairFar_18_2 : okA_PairFar [40, 40, 40, 41, 40, 40, 41, 40, 40, 41, 40, 41, 41, 41, 41, 40, 41, 41] CH2 = true := by kernel_rfl
theorem evPairFar_18_3 : okA_PairFar [40, 40, 40, 41, 40, 40, 41, 40, 40, 41, 40, 41, 41, 41, 41, 40, 41, 41] CH3 = true := by kernel_rfl
theorem evPairFar_18_4 : okA_PairFar [40, 40, 40, 41, 40, 40, 41, 40, 40, 41, 40, 41, 41, 41, 41, 40, 41, 41] CH4 = true := by kernel_rfl
theorem evPairFar_18_5 : okA_PairFar [40, 40, 40, 41, 40, 40, 41, 40, 40, 41, 40, 41, 41, 41, 41, 40, 41, 41] CH5 = true := by kernel_rfl
theorem evPairFar_18_6 : okA_PairFar [40, 40, 40, 41, 40, 40, 41, 40, 40, 41, 40, 41, 41, 41, 41, 40, 41, 41] CH6 = true := by kernel_rfl
theorem evPairFar_18_7 : okA_PairFar [40, 40, 40, 41, 40, 40, 41, 40, 40, 41, 40, 41, 41, 41, 41, 40, 41, 41] CH7 = true := by kernel_rfl
theorem evPairFar_18 : okA_PairFar [40, 40, 40, 41, 40, 40, 41, 40, 40, 41, 40, 41, 41, 41, 41, 40, 41, 41] PL = true := by rw [pl_eq]; exact okA_app evPairFar_18_0 (okA_app evPairFar_18_1 (okA_app evPairFar_18_2 (okA_app evPairFar_18_3 (okA_app evPairFar_18_4 (okA_app evPairFar_18_5 (okA_app evPairFar_18_6 (evPairFar_18_7)))))))
theorem evPairFar_5_0 : okA_PairFar [40, 40, 41, 40, 40, 40, 41, 40, 41, 41, 40, 41, 41, 41] CH0 = true := by kernel_rfl
theorem evPairFar_5_1 : okA_PairFar [40, 40, 41, 40, 40, 40, 41, 40, 41, 41, 40, 41, 41, 41] CH1 = true := by kernel_rfl
theorem evPairFar_5_2 : okA_PairFar [40, 40, 41, 40, 40, 40, 41, 40, 41, 41, 40, 41, 41, 41] CH2 = true := by kernel_rfl
theorem evPairFar_5_3 : okA_PairFar [40, 40, 41, 40, 40, 40, 41, 40, 41, 41, 40, 41, 41, 41] CH3 = true := by kernel_rfl
theorem evPairFar_5_4 : okA_PairFar [40, 40, 41, 40, 40, 40, 41, 40, 41, 41, 40, 41, 41, 41] CH4 = true := by kernel_rfl
theorem evPairFar_5_5 : okA_PairFar [40, 40, 41, 40, 40, 40, 41, 40, 41, 41, 40, 41, 41, 41] CH5 = true := by kernel_rfl
theorem evPairFar_5_6 : okA_PairFar [40, 40, 41, 40, 40, 40, 41, 40, 41, 41, 40, 41, 41, 41] CH6 = true := by kernel_rfl
theorem evPairFar_5_7 : okA_PairFar [40, 40, 41, 40, 40, 40, 41, 40, 41, 41, 40, 41, 41, 41] CH7 = true := by kernel_rfl
theorem evPairFar_5 : okA_PairFar [40, 40, 41, 40, 40, 40, 41, 40, 41, 41, 40, 41, 41, 41] PL = true := by rw [pl_eq]; exact okA_app evPairFar_5_0 (okA_app evPairFar_5_1 (okA_app evPairFar_5_2 (okA_app evPairFar_5_3 (okA_app evPairFar_5_4 (okA_app evPairFar_5_5 (okA_app evPairFar_5_6 (evPairFar_5_7)))))))
theorem evPairFar_1_0 : okA_PairFar [40, 40, 41, 40, 41, 41] CH0 = true := by kernel_rfl
theorem evPairFar_1_1 : okA_PairFar [40, 40, 41, 40, 41, 41] CH1 = true := by kernel_rfl
theorem evPairFar_1_2 : okA_PairFar [40, 40, 41, 40, 41, 41] CH2 = true := by kernel_rfl
theorem evPairFar_1_3 : okA_PairFar [40, 40, 41, 40, 41, 41] CH3 = true := by kernel_rfl
theorem evPairFar_1_4 : okA_PairFar [40, 40, 41, 40, 41, 41] CH4 = true := by kernel_rfl
theorem evPairFar_1_5 : okA_PairFar [40, 40, 41, 40, 41, 41] CH5 = true := by kernel_rfl
theorem evPairFar_1_6 : okA_PairFar [40, 40, 41, 40, 41, 41] CH6 = true := by kernel_rfl
theorem evPairFar_1_7 : okA_PairFar [40, 40, 41, 40, 41, 41] CH7 = true := by kernel_rfl
theorem evPairFar_1 : okA_PairFar [40, 40, 41, 40, 41, 41] PL = true := by rw [pl_eq]; exact okA_app evPairFar_1_0 (okA_app evPairFar_1_1 (okA_app evPairFar_1_2 (okA_app evPairFar_1_3 (okA_app evPairFar_1_4 (okA_app evPairFar_1_5 (okA_app evPairFar_1_6 (evPairFar_1_7)))))))
end
end Go.AI.T
