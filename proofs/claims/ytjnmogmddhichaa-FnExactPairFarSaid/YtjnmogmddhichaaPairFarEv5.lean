/- The evaluation, part 5. -/
import Derived.Test.YtjnmogmddhichaaPairFarBad
import Derived.KernelRfl
namespace Go.AI.T
open Go Go.RowKit Go.AI
set_option linter.unusedVariables false
set_option linter.unusedSimpArgs false
set_option maxRecDepth 100000
noncomputable section
theorem evPairFar_14_0 : okA_PairFar [40, 40, 40, 41, 40, 41, 41, 40, 40, 41, 40, 40, 41, 40, 41, 41, 41, 41] CH0 = true := by kernel_rfl
theorem evPairFar_14_1 : okA_PairFar [40, 40, 40, 41, 40, 41, 41, 40, 40, 41, 40, 40, 41, 40, 41, 41, 41, 41] CH1 = true := by kernel_rfl
theorem evPairFar_14_2 : okA_PairFar [40, 40, 40, 41, 40, 41, 41, 40, 40, 41, 40, 40, 41, 40, 41, 41, 41, 41] CH2 = true := by kernel_rfl
theorem evPairFar_14_3 : okA_PairFar [40, 40, 40, 41, 40, 41, 41, 40, 40, 41, 40, 40, 41, 40, 41, 41, 41, 41] CH3 = true := by kernel_rfl
theorem evPairFar_14_4 : okA_PairFar [40, 40, 40, 41, 40, 41, 41, 40, 40, 41, 40, 40, 41, 40, 41, 41, 41, 41] CH4 = true := by kernel_rfl
theorem evPairFar_14_5 : okA_PairFar [40, 40, 40, 41, 40, 41, 41, 40, 40, 41, 40, 40, 41, 40, 41, 41, 41, 41] CH5 = true := by kernel_rfl
theorem evPairFar_14_6 : okA_PairFar [40, 40, 40, 41, 40, 41, 41, 40, 40, 41, 40, 40, 41, 40, 41, 41, 41, 41] CH6 = true := by kernel_rfl
theorem evPairFar_14_7 : okA_PairFar [40, 40, 40, 41, 40, 41, 41, 40, 40, 41, 40, 40, 41, 40, 41, 41, 41, 41] CH7 = true := by kernel_rfl
theorem evPairFar_14 : okA_PairFar [40, 40, 40, 41, 40, 41, 41, 40, 40, 41, 40, 40, 41, 40, 41, 41, 41, 41] PL = true := by rw [pl_eq]; exact okA_app evPairFar_14_0 (okA_app evPairFar_14_1 (okA_app evPairFar_14_2 (okA_app evPairFar_14_3 (okA_app evPairFar_14_4 (okA_app evPairFar_14_5 (okA_app evPairFar_14_6 (evPairFar_14_7)))))))
theorem evPairFar_20_0 : okA_PairFar [40, 40, 40, 40, 41, 40, 41, 41, 40, 40, 41, 40, 41, 41, 41, 40, 41, 41] CH0 = true := by kernel_rfl
theorem evPairFar_20_1 : okA_PairFar [40, 40, 40, 40, 41, 40, 41, 41, 40, 40, 41, 40, 41, 41, 41, 40, 41, 41] CH1 = true := by kernel_rfl
theorem evPairFar_20_2 : okA_PairFar [40, 40, 40, 40, 41, 40, 41, 41, 40, 40, 41, 40, 41, 41, 41, 40, 41, 41] CH2 = true := by kernel_rfl
theorem evPairFar_20_3 : okA_PairFar [40, 40, 40, 40, 41, 40, 41, 41, 40, 40, 41, 40, 41, 41, 41, 40, 41, 41] CH3 = true := by kernel_rfl
theorem evPairFar_20_4 : okA_PairFar [40, 40, 40, 40, 41, 40, 41, 41, 40, 40, 41, 40, 41, 41, 41, 40, 41, 41] CH4 = true := by kernel_rfl
theorem evPairFar_20_5 : okA_PairFar [40, 40, 40, 40, 41, 40, 41, 41, 40, 40, 41, 40, 41, 41, 41, 40, 41, 41] CH5 = true := by kernel_rfl
theorem evPairFar_20_6 : okA_PairFar [40, 40, 40, 40, 41, 40, 41, 41, 40, 40, 41, 40, 41, 41, 41, 40, 41, 41] CH6 = true := by kernel_rfl
theorem evPairFar_20_7 : okA_PairFar [40, 40, 40, 40, 41, 40, 41, 41, 40, 40, 41, 40, 41, 41, 41, 40, 41, 41] CH7 = true := by kernel_rfl
theorem evPairFar_20 : okA_PairFar [40, 40, 40, 40, 41, 40, 41, 41, 40, 40, 41, 40, 41, 41, 41, 40, 41, 41] PL = true := by rw [pl_eq]; exact okA_app evPairFar_20_0 (okA_app evPairFar_20_1 (okA_app evPairFar_20_2 (okA_app evPairFar_20_3 (okA_app evPairFar_20_4 (okA_app evPairFar_20_5 (okA_app evPairFar_20_6 (evPairFar_20_7)))))))
theorem evPairFar_7_0 : okA_PairFar [40, 40, 40, 41, 40, 40, 41, 40, 41, 41, 41, 40, 41, 41] CH0 = true := by kernel_rfl
theorem evPairFar_7_1 : okA_PairFar [40, 40, 40, 41, 40, 40, 41, 40, 41, 41, 41, 40, 41, 41] CH1 = true := by kernel_rfl
theorem evPairFar_7_2 : okA_PairFar [40, 40, 40, 41, 40, 40, 41, 40, 41, 41, 41, 40, 41, 41] CH2 = true := by kernel_rfl
theorem evPairFar_7_3 : okA_PairFar [40, 40, 40, 41, 40, 40, 41, 40, 41, 41, 41, 40, 41, 41] CH3 = true := by kernel_rfl
theorem evPairFar_7_4 : okA_PairFar [40, 40, 40, 41, 40, 40, 41, 40, 41, 41, 41, 40, 41, 41] CH4 = true := by kernel_rfl
theorem evPairFar_7_5 : okA_PairFar [40, 40, 40, 41, 40, 40, 41, 40, 41, 41, 41, 40, 41, 41] CH5 = true := by kernel_rfl
theorem evPairFar_7_6 : okA_PairFar [40, 40, 40, 41, 40, 40, 41, 40, 41, 41, 41, 40, 41, 41] CH6 = true := by kernel_rfl
theorem evPairFar_7_7 : okA_PairFar [40, 40, 40, 41, 40, 40, 41, 40, 41, 41, 41, 40, 41, 41] CH7 = true := by kernel_rfl
theorem evPairFar_7 : okA_PairFar [40, 40, 40, 41, 40, 40, 41, 40, 41, 41, 41, 40, 41, 41] PL = true := by rw [pl_eq]; exact okA_app evPairFar_7_0 (okA_app evPairFar_7_1 (okA_app evPairFar_7_2 (okA_app evPairFar_7_3 (okA_app evPairFar_7_4 (okA_app evPairFar_7_5 (okA_app evPairFar_7_6 (evPairFar_7_7)))))))
end
end Go.AI.T
