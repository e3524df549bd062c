/- The evaluation, part 2. -/
import Derived.Test.YtjnmogmddhichaaPairFarBad
import Derived.KernelRfl
namespace Go.AI.T
open Go Go.RowKit Go.AI
set_option linter.unusedVariables false
set_option linter.unusedSimpArgs false
set_option maxRecDepth 100000
noncomputable section
theorem evPairFar_11_0 : okA_PairFar [40, 40, 41, 40, 40, 40, 41, 40, 41, 41, 40, 40, 41, 40, 41, 41, 41, 41] CH0 = true := by kernel_rfl
theorem evPairFar_11_1 : okA_PairFar [40, 40, 41, 40, 40, 40, 41, 40, 41, 41, 40, 40, 41, 40, 41, 41, 41, 41] CH1 = true := by kernel_rfl
theorem evPairFar_11_2 : okA_PairFar [40, 40, 41, 40, 40, 40, 41, 40, 41, 41, 40, 40, 41, 40, 41, 41, 41, 41] CH2 = true := by kernel_rfl
theorem evPairFar_11_3 : okA_PairFar [40, 40, 41, 40, 40, 40, 41, 40, 41, 41, 40, 40, 41, 40, 41, 41, 41, 41] CH3 = true := by kernel_rfl
theorem evPairFar_11_4 : okA_PairFar [40, 40, 41, 40, 40, 40, 41, 40, 41, 41, 40, 40, 41, 40, 41, 41, 41, 41] CH4 = true := by kernel_rfl
theorem evPairFar_11_5 : okA_PairFar [40, 40, 41, 40, 40, 40, 41, 40, 41, 41, 40, 40, 41, 40, 41, 41, 41, 41] CH5 = true := by kernel_rfl
theorem evPairFar_11_6 : okA_PairFar [40, 40, 41, 40, 40, 40, 41, 40, 41, 41, 40, 40, 41, 40, 41, 41, 41, 41] CH6 = true := by kernel_rfl
theorem evPairFar_11_7 : okA_PairFar [40, 40, 41, 40, 40, 40, 41, 40, 41, 41, 40, 40, 41, 40, 41, 41, 41, 41] CH7 = true := by kernel_rfl
theorem evPairFar_11 : okA_PairFar [40, 40, 41, 40, 40, 40, 41, 40, 41, 41, 40, 40, 41, 40, 41, 41, 41, 41] PL = true := by rw [pl_eq]; exact okA_app evPairFar_11_0 (okA_app evPairFar_11_1 (okA_app evPairFar_11_2 (okA_app evPairFar_11_3 (okA_app evPairFar_11_4 (okA_app evPairFar_11_5 (okA_app evPairFar_11_6 (evPairFar_11_7)))))))
theorem evPairFar_17_0 : okA_PairFar [40, 40, 40, 40, 41, 40, 41, 41, 40, 41, 41, 40, 40, 41, 40, 41, 41, 41] CH0 = true := by kernel_rfl
theorem evPairFar_17_1 : okA_PairFar [40, 40, 40, 40, 41, 40, 41, 41, 40, 41, 41, 40, 40, 41, 40, 41, 41, 41] CH1 = true := by kernel_rfl
theorem evPairFar_17_2 : okA_PairFar [40, 40, 40, 40, 41, 40, 41, 41, 40, 41, 41, 40, 40, 41, 40, 41, 41, 41] CH2 = true := by kernel_rfl
theorem evPairFar_17_3 : okA_PairFar [40, 40, 40, 40, 41, 40, 41, 41, 40, 41, 41, 40, 40, 41, 40, 41, 41, 41] CH3 = true := by kernel_rfl
theorem evPairFar_17_4 : okA_PairFar [40, 40, 40, 40, 41, 40, 41, 41, 40, 41, 41, 40, 40, 41, 40, 41, 41, 41] CH4 = true := by kernel_rfl
theorem evPairFar_17_5 : okA_PairFar [40, 40, 40, 40, 41, 40, 41, 41, 40, 41, 41, 40, 40, 41, 40, 41, 41, 41] CH5 = true := by kernel_rfl
theorem evPairFar_17_6 : okA_PairFar [40, 40, 40, 40, 41, 40, 41, 41, 40, 41, 41, 40, 40, 41, 40, 41, 41, 41] CH6 = true := by kernel_rfl
theorem evPairFar_17_7 : okA_PairFar [40, 40, 40, 40, 41, 40, 41, 41, 40, 41, 41, 40, 40, 41, 40, 41, 41, 41] CH7 = true := by kernel_rfl
theorem evPairFar_17 : okA_PairFar [40, 40, 40, 40, 41, 40, 41, 41, 40, 41, 41, 40, 40, 41, 40, 41, 41, 41] PL = true := by rw [pl_eq]; exact okA_app evPairFar_17_0 (okA_app evPairFar_17_1 (okA_app evPairFar_17_2 (okA_app evPairFar_17_3 (okA_app evPairFar_17_4 (okA_app evPairFar_17_5 (okA_app evPairFar_17_6 (evPairFar_17_7)))))))
theorem evPairFar_4_0 : okA_PairFar [40, 40, 41, 40, 40, 41, 40, 40, 41, 40, 41, 41, 41, 41] CH0 = true := by kernel_rfl
theorem evPairFar_4_1 : okA_PairFar [40, 40, 41, 40, 40, 41, 40, 40, 41, 40, 41, 41, 41, 41] CH1 = true := by kernel_rfl
theorem evPairFar_4_2 : okA_PairFar [40, 40, 41, 40, 40, 41, 40, 40, 41, 40, 41, 41, 41, 41] CH2 = true := by kernel_rfl
theorem evPairFar_4_3 : okA_PairFar [40, 40, 41, 40, 40, 41, 40, 40, 41, 40, 41, 41, 41, 41] CH3 = true := by kernel_rfl
theorem evPairFar_4_4 : okA_PairFar [40, 40, 41, 40, 40, 41, 40, 40, 41, 40, 41, 41, 41, 41] CH4 = true := by kernel_rfl
theorem evPairFar_4_5 : okA_PairFar [40, 40, 41, 40, 40, 41, 40, 40, 41, 40, 41, 41, 41, 41] CH5 = true := by kernel_rfl
theorem evPairFar_4_6 : okA_PairFar [40, 40, 41, 40, 40, 41, 40, 40, 41, 40, 41, 41, 41, 41] CH6 = true := by kernel_rfl
theorem evPairFar_4_7 : okA_PairFar [40, 40, 41, 40, 40, 41, 40, 40, 41, 40, 41, 41, 41, 41] CH7 = true := by kernel_rfl
theorem evPairFar_4 : okA_PairFar [40, 40, 41, 40, 40, 41, 40, 40, 41, 40, 41, 41, 41, 41] PL = true := by rw [pl_eq]; exact okA_app evPairFar_4_0 (okA_app evPairFar_4_1 (okA_app evPairFar_4_2 (okA_app evPairFar_4_3 (okA_app evPairFar_4_4 (okA_app evPairFar_4_5 (okA_app evPairFar_4_6 (evPairFar_4_7)))))))
theorem evPairFar_3_0 : okA_PairFar [40, 40, 40, 41, 40, 41, 41, 40, 41, 41] CH0 = true := by kernel_rfl
theorem evPairFar_3_1 : okA_PairFar [40, 40, 40, 41, 40, 41, 41, 40, 41, 41] CH1 = true := by kernel_rfl
theorem evPairFar_3_2 : okA_PairFar [40, 40, 40, 41, 40, 41, 41, 40, 41, 41] CH2 = true := by kernel_rfl
theorem evPairFar_3_3 : okA_PairFar [40, 40, 40, 41, 40, 41, 41, 40, 41, 41] CH3 = true := by kernel_rfl
theorem evPairFar_3_4 : okA_PairFar [40, 40, 40, 41, 40, 41, 41, 40, 41, 41] CH4 = true := by kernel_rfl
theorem evPairFar_3_5 : okA_PairFar [40, 40, 40, 41, 40, 41, 41, 40, 41, 41] CH5 = true := by kernel_rfl
theorem evPairFar_3_6 : okA_PairFar [40, 40, 40, 41, 40, 41, 41, 40, 41, 41] CH6 = true := by kernel_rfl
theorem evPairFar_3_7 : okA_PairFar [40, 40, 40, 41, 40, 41, 41, 40, 41, 41] CH7 = true := by kernel_rfl
theorem evPairFar_3 : okA_PairFar [40, 40, 40, 41, 40, 41, 41, 40, 41, 41] PL = true := by rw [pl_eq]; exact okA_app evPairFar_3_0 (okA_app evPairFar_3_1 (okA_app evPairFar_3_2 (okA_app evPairFar_3_3 (okA_app evPairFar_3_4 (okA_app evPairFar_3_5 (okA_app evPairFar_3_6 (evPairFar_3_7)))))))
end
end Go.AI.T
