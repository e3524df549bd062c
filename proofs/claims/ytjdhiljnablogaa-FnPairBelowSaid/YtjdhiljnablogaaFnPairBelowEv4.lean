/- The evaluation, part 4. -/
import Derived.Test.YtjdhiljnablogaaFnPairBelowBad
import Derived.KernelRfl
namespace Go.AI.T
open Go Go.RowKit Go.AI
set_option linter.unusedVariables false
set_option linter.unusedSimpArgs false
set_option maxRecDepth 100000
noncomputable section
theorem evFnPairBelow_14_0 (B : Blk) : okA_FnPairBelow B [40, 40, 41, 40, 40, 40, 40, 41, 40, 41, 41, 40, 41, 41, 40, 41, 41, 41] CH0 = true := by kernel_rfl
theorem evFnPairBelow_14_1 (B : Blk) : okA_FnPairBelow B [40, 40, 41, 40, 40, 40, 40, 41, 40, 41, 41, 40, 41, 41, 40, 41, 41, 41] CH1 = true := by kernel_rfl
theorem evFnPairBelow_14_2 (B : Blk) : okA_FnPairBelow B [40, 40, 41, 40, 40, 40, 40, 41, 40, 41, 41, 40, 41, 41, 40, 41, 41, 41] CH2 = true := by kernel_rfl
theorem evFnPairBelow_14_3 (B : Blk) : okA_FnPairBelow B [40, 40, 41, 40, 40, 40, 40, 41, 40, 41, 41, 40, 41, 41, 40, 41, 41, 41] CH3 = true := by kernel_rfl
theorem evFnPairBelow_14_4 (B : Blk) : okA_FnPairBelow B [40, 40, 41, 40, 40, 40, 40, 41, 40, 41, 41, 40, 41, 41, 40, 41, 41, 41] CH4 = true := by kernel_rfl
theorem evFnPairBelow_14_5 (B : Blk) : okA_FnPairBelow B [40, 40, 41, 40, 40, 40, 40, 41, 40, 41, 41, 40, 41, 41, 40, 41, 41, 41] CH5 = true := by kernel_rfl
theorem evFnPairBelow_14_6 (B : Blk) : okA_FnPairBelow B [40, 40, 41, 40, 40, 40, 40, 41, 40, 41, 41, 40, 41, 41, 40, 41, 41, 41] CH6 = true := by kernel_rfl
theorem evFnPairBelow_14_7 (B : Blk) : okA_FnPairBelow B [40, 40, 41, 40, 40, 40, 40, 41, 40, 41, 41, 40, 41, 41, 40, 41, 41, 41] CH7 = true := by kernel_rfl
theorem evFnPairBelow_14 (B : Blk) : okA_FnPairBelow B [40, 40, 41, 40, 40, 40, 40, 41, 40, 41, 41, 40, 41, 41, 40, 41, 41, 41] Go.AI.Q.PLx = true := by rw [pl_eq]; exact okA_app (evFnPairBelow_14_0 B) (okA_app (evFnPairBelow_14_1 B) (okA_app (evFnPairBelow_14_2 B) (okA_app (evFnPairBelow_14_3 B) (okA_app (evFnPairBelow_14_4 B) (okA_app (evFnPairBelow_14_5 B) (okA_app (evFnPairBelow_14_6 B) (evFnPairBelow_14_7 B)))))))
theorem evFnPairBelow_22_0 (B : Blk) : okA_FnPairBelow B [40, 40, 40, 40, 41, 40, 40, 41, 40, 41, 41, 41, 40, 41, 41, 40, 41, 41] CH0 = true := by kernel_rfl
theorem evFnPairBelow_22_1 (B : Blk) : okA_FnPairBelow B [40, 40, 40, 40, 41, 40, 40, 41, 40, 41, 41, 41, 40, 41, 41, 40, 41, 41] CH1 = true := by kernel_rfl
theorem evFnPairBelow_22_2 (B : Blk) : okA_FnPairBelow B [40, 40, 40, 40, 41, 40, 40, 41, 40, 41, 41, 41, 40, 41, 41, 40, 41, 41] CH2 = true := by kernel_rfl
theorem evFnPairBelow_22_3 (B : Blk) : okA_FnPairBelow B [40, 40, 40, 40, 41, 40, 40, 41, 40, 41, 41, 41, 40, 41, 41, 40, 41, 41] CH3 = true := by kernel_rfl
theorem evFnPairBelow_22_4 (B : Blk) : okA_FnPairBelow B [40, 40, 40, 40, 41, 40, 40, 41, 40, 41, 41, 41, 40, 41, 41, 40, 41, 41] CH4 = true := by kernel_rfl
theorem evFnPairBelow_22_5 (B : Blk) : okA_FnPairBelow B [40, 40, 40, 40, 41, 40, 40, 41, 40, 41, 41, 41, 40, 41, 41, 40, 41, 41] CH5 = true := by kernel_rfl
theorem evFnPairBelow_22_6 (B : Blk) : okA_FnPairBelow B [40, 40, 40, 40, 41, 40, 40, 41, 40, 41, 41, 41, 40, 41, 41, 40, 41, 41] CH6 = true := by kernel_rfl
theorem evFnPairBelow_22_7 (B : Blk) : okA_FnPairBelow B [40, 40, 40, 40, 41, 40, 40, 41, 40, 41, 41, 41, 40, 41, 41, 40, 41, 41] CH7 = true := by kernel_rfl
theorem evFnPairBelow_22 (B : Blk) : okA_FnPairBelow B [40, 40, 40, 40, 41, 40, 40, 41, 40, 41, 41, 41, 40, 41, 41, 40, 41, 41] Go.AI.Q.PLx = true := by rw [pl_eq]; exact okA_app (evFnPairBelow_22_0 B) (okA_app (evFnPairBelow_22_1 B) (okA_app (evFnPairBelow_22_2 B) (okA_app (evFnPairBelow_22_3 B) (okA_app (evFnPairBelow_22_4 B) (okA_app (evFnPairBelow_22_5 B) (okA_app (evFnPairBelow_22_6 B) (evFnPairBelow_22_7 B)))))))
theorem evFnPairBelow_4_0 (B : Blk) : okA_FnPairBelow B [40, 40, 40, 41, 40, 41, 41, 40, 41, 41] CH0 = true := by kernel_rfl
theorem evFnPairBelow_4_1 (B : Blk) : okA_FnPairBelow B [40, 40, 40, 41, 40, 41, 41, 40, 41, 41] CH1 = true := by kernel_rfl
theorem evFnPairBelow_4_2 (B : Blk) : okA_FnPairBelow B [40, 40, 40, 41, 40, 41, 41, 40, 41, 41] CH2 = true := by kernel_rfl
theorem evFnPairBelow_4_3 (B : Blk) : okA_FnPairBelow B [40, 40, 40, 41, 40, 41, 41, 40, 41, 41] CH3 = true := by kernel_rfl
theorem evFnPairBelow_4_4 (B : Blk) : okA_FnPairBelow B [40, 40, 40, 41, 40, 41, 41, 40, 41, 41] CH4 = true := by kernel_rfl
theorem evFnPairBelow_4_5 (B : Blk) : okA_FnPairBelow B [40, 40, 40, 41, 40, 41, 41, 40, 41, 41] CH5 = true := by kernel_rfl
theorem evFnPairBelow_4_6 (B : Blk) : okA_FnPairBelow B [40, 40, 40, 41, 40, 41, 41, 40, 41, 41] CH6 = true := by kernel_rfl
theorem evFnPairBelow_4_7 (B : Blk) : okA_FnPairBelow B [40, 40, 40, 41, 40, 41, 41, 40, 41, 41] CH7 = true := by kernel_rfl
theorem evFnPairBelow_4 (B : Blk) : okA_FnPairBelow B [40, 40, 40, 41, 40, 41, 41, 40, 41, 41] Go.AI.Q.PLx = true := by rw [pl_eq]; exact okA_app (evFnPairBelow_4_0 B) (okA_app (evFnPairBelow_4_1 B) (okA_app (evFnPairBelow_4_2 B) (okA_app (evFnPairBelow_4_3 B) (okA_app (evFnPairBelow_4_4 B) (okA_app (evFnPairBelow_4_5 B) (okA_app (evFnPairBelow_4_6 B) (evFnPairBelow_4_7 B)))))))
end
end Go.AI.T
