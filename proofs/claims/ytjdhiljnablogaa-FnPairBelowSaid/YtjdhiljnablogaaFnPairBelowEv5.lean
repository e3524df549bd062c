/- The evaluation, part 5. -/
import Derived.Test.YtjdhiljnablogaaFnPairBelowBad
import Derived.KernelRfl
namespace Go.AI.T
open Go Go.RowKit Go.AI
set_option linter.unusedVariables false
set_option linter.unusedSimpArgs false
set_option maxRecDepth 100000
noncomputable section
theorem evFnPairBelow_15_0 (B : Blk) : okA_FnPairBelow B [40, 40, 40, 41, 40, 41, 41, 40, 40, 41, 40, 40, 41, 40, 41, 41, 41, 41] CH0 = true := by kernel_rfl
theorem evFnPairBelow_15_1 (B : Blk) : okA_FnPairBelow B [40, 40, 40, 41, 40, 41, 41, 40, 40, 41, 40, 40, 41, 40, 41, 41, 41, 41] CH1 = true := by kernel_rfl
theorem evFnPairBelow_15_2 (B : Blk) : okA_FnPairBelow B [40, 40, 40, 41, 40, 41, 41, 40, 40, 41, 40, 40, 41, 40, 41, 41, 41, 41] CH2 = true := by kernel_rfl
theorem evFnPairBelow_15_3 (B : Blk) : okA_FnPairBelow B [40, 40, 40, 41, 40, 41, 41, 40, 40, 41, 40, 40, 41, 40, 41, 41, 41, 41] CH3 = true := by kernel_rfl
theorem evFnPairBelow_15_4 (B : Blk) : okA_FnPairBelow B [40, 40, 40, 41, 40, 41, 41, 40, 40, 41, 40, 40, 41, 40, 41, 41, 41, 41] CH4 = true := by kernel_rfl
theorem evFnPairBelow_15_5 (B : Blk) : okA_FnPairBelow B [40, 40, 40, 41, 40, 41, 41, 40, 40, 41, 40, 40, 41, 40, 41, 41, 41, 41] CH5 = true := by kernel_rfl
theorem evFnPairBelow_15_6 (B : Blk) : okA_FnPairBelow B [40, 40, 40, 41, 40, 41, 41, 40, 40, 41, 40, 40, 41, 40, 41, 41, 41, 41] CH6 = true := by kernel_rfl
theorem evFnPairBelow_15_7 (B : Blk) : okA_FnPairBelow B [40, 40, 40, 41, 40, 41, 41, 40, 40, 41, 40, 40, 41, 40, 41, 41, 41, 41] CH7 = true := by kernel_rfl
theorem evFnPairBelow_15 (B : Blk) : okA_FnPairBelow B [40, 40, 40, 41, 40, 41, 41, 40, 40, 41, 40, 40, 41, 40, 41, 41, 41, 41] Go.AI.Q.PLx = true := by rw [pl_eq]; exact okA_app (evFnPairBelow_15_0 B) (okA_app (evFnPairBelow_15_1 B) (okA_app (evFnPairBelow_15_2 B) (okA_app (evFnPairBelow_15_3 B) (okA_app (evFnPairBelow_15_4 B) (okA_app (evFnPairBelow_15_5 B) (okA_app (evFnPairBelow_15_6 B) (evFnPairBelow_15_7 B)))))))
theorem evFnPairBelow_23_0 (B : Blk) : okA_FnPairBelow B [40, 40, 40, 40, 40, 41, 40, 41, 41, 40, 41, 41, 40, 41, 41, 40, 41, 41] CH0 = true := by kernel_rfl
theorem evFnPairBelow_23_1 (B : Blk) : okA_FnPairBelow B [40, 40, 40, 40, 40, 41, 40, 41, 41, 40, 41, 41, 40, 41, 41, 40, 41, 41] CH1 = true := by kernel_rfl
theorem evFnPairBelow_23_2 (B : Blk) : okA_FnPairBelow B [40, 40, 40, 40, 40, 41, 40, 41, 41, 40, 41, 41, 40, 41, 41, 40, 41, 41] CH2 = true := by kernel_rfl
theorem evFnPairBelow_23_3 (B : Blk) : okA_FnPairBelow B [40, 40, 40, 40, 40, 41, 40, 41, 41, 40, 41, 41, 40, 41, 41, 40, 41, 41] CH3 = true := by kernel_rfl
theorem evFnPairBelow_23_4 (B : Blk) : okA_FnPairBelow B [40, 40, 40, 40, 40, 41, 40, 41, 41, 40, 41, 41, 40, 41, 41, 40, 41, 41] CH4 = true := by kernel_rfl
theorem evFnPairBelow_23_5 (B : Blk) : okA_FnPairBelow B [40, 40, 40, 40, 40, 41, 40, 41, 41, 40, 41, 41, 40, 41, 41, 40, 41, 41] CH5 = true := by kernel_rfl
theorem evFnPairBelow_23_6 (B : Blk) : okA_FnPairBelow B [40, 40, 40, 40, 40, 41, 40, 41, 41, 40, 41, 41, 40, 41, 41, 40, 41, 41] CH6 = true := by kernel_rfl
theorem evFnPairBelow_23_7 (B : Blk) : okA_FnPairBelow B [40, 40, 40, 40, 40, 41, 40, 41, 41, 40, 41, 41, 40, 41, 41, 40, 41, 41] CH7 = true := by kernel_rfl
theorem evFnPairBelow_23 (B : Blk) : okA_FnPairBelow B [40, 40, 40, 40, 40, 41, 40, 41, 41, 40, 41, 41, 40, 41, 41, 40, 41, 41] Go.AI.Q.PLx = true := by rw [pl_eq]; exact okA_app (evFnPairBelow_23_0 B) (okA_app (evFnPairBelow_23_1 B) (okA_app (evFnPairBelow_23_2 B) (okA_app (evFnPairBelow_23_3 B) (okA_app (evFnPairBelow_23_4 B) (okA_app (evFnPairBelow_23_5 B) (okA_app (evFnPairBelow_23_6 B) (evFnPairBelow_23_7 B)))))))
theorem evFnPairBelow_2_0 (B : Blk) : okA_FnPairBelow B [40, 40, 41, 40, 41, 41] CH0 = true := by kernel_rfl
theorem evFnPairBelow_2_1 (B : Blk) : okA_FnPairBelow B [40, 40, 41, 40, 41, 41] CH1 = true := by kernel_rfl
theorem evFnPairBelow_2_2 (B : Blk) : okA_FnPairBelow B [40, 40, 41, 40, 41, 41] CH2 = true := by kernel_rfl
theorem evFnPairBelow_2_3 (B : Blk) : okA_FnPairBelow B [40, 40, 41, 40, 41, 41] CH3 = true := by kernel_rfl
theorem evFnPairBelow_2_4 (B : Blk) : okA_FnPairBelow B [40, 40, 41, 40, 41, 41] CH4 = true := by kernel_rfl
theorem evFnPairBelow_2_5 (B : Blk) : okA_FnPairBelow B [40, 40, 41, 40, 41, 41] CH5 = true := by kernel_rfl
theorem evFnPairBelow_2_6 (B : Blk) : okA_FnPairBelow B [40, 40, 41, 40, 41, 41] CH6 = true := by kernel_rfl
theorem evFnPairBelow_2_7 (B : Blk) : okA_FnPairBelow B [40, 40, 41, 40, 41, 41] CH7 = true := by kernel_rfl
theorem evFnPairBelow_2 (B : Blk) : okA_FnPairBelow B [40, 40, 41, 40, 41, 41] Go.AI.Q.PLx = true := by rw [pl_eq]; exact okA_app (evFnPairBelow_2_0 B) (okA_app (evFnPairBelow_2_1 B) (okA_app (evFnPairBelow_2_2 B) (okA_app (evFnPairBelow_2_3 B) (okA_app (evFnPairBelow_2_4 B) (okA_app (evFnPairBelow_2_5 B) (okA_app (evFnPairBelow_2_6 B) (evFnPairBelow_2_7 B)))))))
end
end Go.AI.T
