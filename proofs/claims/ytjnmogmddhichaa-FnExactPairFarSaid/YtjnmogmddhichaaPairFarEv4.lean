/- The evaluation, part 4. -/
import Derived.Test.YtjnmogmddhichaaPairFarBad
import Derived.KernelRfl
namespace Go.AI.T
open Go Go.RowKit Go.AI
set_option linter.unusedVariables false
set_option linter.unusedSimpArgs false
set_option maxRecDepth 100000
noncomputable section
theorem evPairFar_13_0 : okA_PairFar [40, 40, 41, 40, 40, 40, 40, 41, 40, 41, 41, 40, 41, 41, 40, 41, 41, 41] CH0 = true := by kernel_rfl
theorem evPairFar_13_1 : okA_PairFar [40, 40, 41, 40, 40, 40, 40, 41, 40, 41, 41, 40, 41, 41, 40, 41, 41, 41] CH1 = true := by kernel_rfl
theorem evPairFar_13_2 : okA_PairFar [40, 40, 41, 40, 40, 40, 40, 41, 40, 41, 41, 40, 41, 41, 40, 41, 41, 41] CH2 = true := by kernel_rfl
theorem evPairFar_13_3 : okA_PairFar [40, 40, 41, 40, 40, 40, 40, 41, 40, 41, 41, 40, 41, 41, 40, 41, 41, 41] CH3 = true := by kernel_rfl
theorem evPairFar_13_4 : okA_PairFar [40, 40, 41, 40, 40, 40, 40, 41, 40, 41, 41, 40, 41, 41, 40, 41, 41, 41] CH4 = true := by kernel_rfl
theorem evPairFar_13_5 : okA_PairFar [40, 40, 41, 40, 40, 40, 40, 41, 40, 41, 41, 40, 41, 41, 40, 41, 41, 41] CH5 = true := by kernel_rfl
theorem evPairFar_13_6 : okA_PairFar [40, 40, 41, 40, 40, 40, 40, 41, 40, 41, 41, 40, 41, 41, 40, 41, 41, 41] CH6 = true := by kernel_rfl
theorem evPairFar_13_7 : okA_PairFar [40, 40, 41, 40, 40, 40, 40, 41, 40, 41, 41, 40, 41, 41, 40, 41, 41, 41] CH7 = true := by kernel_rfl
theorem evPairFar_13 : okA_PairFar [40, 40, 41, 40, 40, 40, 40, 41, 40, 41, 41, 40, 41, 41, 40, 41, 41, 41] PL = true := by rw [pl_eq]; exact okA_app evPairFar_13_0 (okA_app evPairFar_13_1 (okA_app evPairFar_13_2 (okA_app evPairFar_13_3 (okA_app evPairFar_13_4 (okA_app evPairFar_13_5 (okA_app evPairFar_13_6 (evPairFar_13_7)))))))
theorem evPairFar_19_0 : okA_PairFar [40, 40, 40, 41, 40, 40, 40, 41, 40, 41, 41, 40, 41, 41, 41, 40, 41, 41] CH0 = true := by kernel_rfl
theorem evPairFar_19_1 : okA_PairFar [40, 40, 40, 41, 40, 40, 40, 41, 40, 41, 41, 40, 41, 41, 41, 40, 41, 41] CH1 = true := by kernel_rfl
theorem evPairFar_19_2 : okA_PairFar [40, 40, 40, 41, 40, 40, 40, 41, 40, 41, 41, 40, 41, 41, 41, 40, 41, 41] CH2 = true := by kernel_rfl
theorem evPairFar_19_3 : okA_PairFar [40, 40, 40, 41, 40, 40, 40, 41, 40, 41, 41, 40, 41, 41, 41, 40, 41, 41] CH3 = true := by kernel_rfl
theorem evPairFar_19_4 : okA_PairFar [40, 40, 40, 41, 40, 40, 40, 41, 40, 41, 41, 40, 41, 41, 41, 40, 41, 41] CH4 = true := by kernel_rfl
theorem evPairFar_19_5 : okA_PairFar [40, 40, 40, 41, 40, 40, 40, 41, 40, 41, 41, 40, 41, 41, 41, 40, 41, 41] CH5 = true := by kernel_rfl
theorem evPairFar_19_6 : okA_PairFar [40, 40, 40, 41, 40, 40, 40, 41, 40, 41, 41, 40, 41, 41, 41, 40, 41, 41] CH6 = true := by kernel_rfl
theorem evPairFar_19_7 : okA_PairFar [40, 40, 40, 41, 40, 40, 40, 41, 40, 41, 41, 40, 41, 41, 41, 40, 41, 41] CH7 = true := by kernel_rfl
theorem evPairFar_19 : okA_PairFar [40, 40, 40, 41, 40, 40, 40, 41, 40, 41, 41, 40, 41, 41, 41, 40, 41, 41] PL = true := by rw [pl_eq]; exact okA_app evPairFar_19_0 (okA_app evPairFar_19_1 (okA_app evPairFar_19_2 (okA_app evPairFar_19_3 (okA_app evPairFar_19_4 (okA_app evPairFar_19_5 (okA_app evPairFar_19_6 (evPairFar_19_7)))))))
theorem evPairFar_6_0 : okA_PairFar [40, 40, 40, 41, 40, 41, 41, 40, 40, 41, 40, 41, 41, 41] CH0 = true := by kernel_rfl
theorem evPairFar_6_1 : okA_PairFar [40, 40, 40, 41, 40, 41, 41, 40, 40, 41, 40, 41, 41, 41] CH1 = true := by kernel_rfl
theorem evPairFar_6_2 : okA_PairFar [40, 40, 40, 41, 40, 41, 41, 40, 40, 41, 40, 41, 41, 41] CH2 = true := by kernel_rfl
theorem evPairFar_6_3 : okA_PairFar [40, 40, 40, 41, 40, 41, 41, 40, 40, 41, 40, 41, 41, 41] CH3 = true := by kernel_rfl
theorem evPairFar_6_4 : okA_PairFar [40, 40, 40, 41, 40, 41, 41, 40, 40, 41, 40, 41, 41, 41] CH4 = true := by kernel_rfl
theorem evPairFar_6_5 : okA_PairFar [40, 40, 40, 41, 40, 41, 41, 40, 40, 41, 40, 41, 41, 41] CH5 = true := by kernel_rfl
theorem evPairFar_6_6 : okA_PairFar [40, 40, 40, 41, 40, 41, 41, 40, 40, 41, 40, 41, 41, 41] CH6 = true := by kernel_rfl
theorem evPairFar_6_7 : okA_PairFar [40, 40, 40, 41, 40, 41, 41, 40, 40, 41, 40, 41, 41, 41] CH7 = true := by kernel_rfl
theorem evPairFar_6 : okA_PairFar [40, 40, 40, 41, 40, 41, 41, 40, 40, 41, 40, 41, 41, 41] PL = true := by rw [pl_eq]; exact okA_app evPairFar_6_0 (okA_app evPairFar_6_1 (okA_app evPairFar_6_2 (okA_app evPairFar_6_3 (okA_app evPairFar_6_4 (okA_app evPairFar_6_5 (okA_app evPairFar_6_6 (evPairFar_6_7)))))))
theorem evPairFar_0_0 : okA_PairFar [40, 41] CH0 = true := by kernel_rfl
theorem evPairFar_0_1 : okA_PairFar [40, 41] CH1 = true := by kernel_rfl
theorem evPairFar_0_2 : okA_PairFar [40, 41] CH2 = true := by kernel_rfl
theorem evPairFar_0_3 : okA_PairFar [40, 41] CH3 = true := by kernel_rfl
theorem evPairFar_0_4 : okA_PairFar [40, 41] CH4 = true := by kernel_rfl
theorem evPairFar_0_5 : okA_PairFar [40, 41] CH5 = true := by kernel_rfl
theorem evPairFar_0_6 : okA_PairFar [40, 41] CH6 = true := by kernel_rfl
theorem evPairFar_0_7 : okA_PairFar [40, 41] CH7 = true := by kernel_rfl
theorem evPairFar_0 : okA_PairFar [40, 41] PL = true := by rw [pl_eq]; exact okA_app evPairFar_0_0 (okA_app evPairFar_0_1 (okA_app evPairFar_0_2 (okA_app evPairFar_0_3 (okA_app evPairFar_0_4 (okA_app evPairFar_0_5 (okA_app evPairFar_0_6 (evPairFar_0_7)))))))
end
end Go.AI.T
