/- The evaluation, part 0. -/
import Derived.Test.YtjdhiljnablogaaFnPairBelowBad
import Derived.KernelRfl
namespace Go.AI.T
open Go Go.RowKit Go.AI
set_option linter.unusedVariables false
set_option linter.unusedSimpArgs false
set_option maxRecDepth 100000
noncomputable section
theorem evFnPairBelow_10_0 (B : Blk) : okA_FnPairBelow B [40, 40, 41, 40, 40, 41, 40, 40, 41, 40, 40, 41, 40, 41, 41, 41, 41, 41] CH0 = true := by kernel_rfl
theorem evFnPairBelow_10_1 (B : Blk) : okA_FnPairBelow B [40, 40, 41, 40, 40, 41, 40, 40, 41, 40, 40, 41, 40, 41, 41, 41, 41, 41] CH1 = true := by kernel_rfl
theorem evFnPairBelow_10_2 (B : Blk) : okA_FnPairBelow B [40, 40, 41, 40, 40, 41, 40, 40, 41, 40, 40, 41, 40, 41, 41, 41, 41, 41] CH2 = true := by kernel_rfl
theorem evFnPairBelow_10_3 (B : Blk) : okA_FnPairBelow B [40, 40, 41, 40, 40, 41, 40, 40, 41, 40, 40, 41, 40, 41, 41, 41, 41, 41] CH3 = true := by kernel_rfl
theorem evFnPairBelow_10_4 (B : Blk) : okA_FnPairBelow B [40, 40, 41, 40, 40, 41, 40, 40, 41, 40, 40, 41, 40, 41, 41, 41, 41, 41] CH4 = true := by kernel_rfl
theorem evFnPairBelow_10_5 (B : Blk) : okA_FnPairBelow B [40, 40, 41, 40, 40, 41, 40, 40, 41, 40, 40, 41, 40, 41, 41, 41, 41, 41] CH5 = true := by kernel_rfl
theorem evFnPairBelow_10_6 (B : Blk) : okA_FnPairBelow B [40, 40, 41, 40, 40, 41, 40, 40, 41, 40, 40, 41, 40, 41, 41, 41, 41, 41] CH6 = true := by kernel_rfl
theorem evFnPairBelow_10_7 (B : Blk) : okA_FnPairBelow B [40, 40, 41, 40, 40, 41, 40, 40, 41, 40, 40, 41, 40, 41, 41, 41, 41, 41] CH7 = true := by kernel_rfl
theorem evFnPairBelow_10 (B : Blk) : okA_FnPairBelow B [40, 40, 41, 40, 40, 41, 40, 40, 41, 40, 40, 41, 40, 41, 41, 41, 41, 41] Go.AI.Q.PLx = true := by rw [pl_eq]; exact okA_app (evFnPairBelow_10_0 B) (okA_app (evFnPairBelow_10_1 B) (okA_app (evFnPairBelow_10_2 B) (okA_app (evFnPairBelow_10_3 B) (okA_app (evFnPairBelow_10_4 B) (okA_app (evFnPairBelow_10_5 B) (okA_app (evFnPairBelow_10_6 B) (evFnPairBelow_10_7 B)))))))
theorem evFnPairBelow_18_0 (B : Blk) : okA_FnPairBelow B [40, 40, 40, 40, 41, 40, 41, 41, 40, 41, 41, 40, 40, 41, 40, 41, 41, 41] CH0 = true := by kernel_rfl
theorem evFnPairBelow_18_1 (B : Blk) : okA_FnPairBelow B [40, 40, 40, 40, 41, 40, 41, 41, 40, 41, 41, 40, 40, 41, 40, 41, 41, 41] CH1 = true := by kernel_rfl
theorem evFnPairBelow_18_2 (B : Blk) : okA_FnPairBelow B [40, 40, 40, 40, 41, 40, 41, 41, 40, 41, 41, 40, 40, 41, 40, 41, 41, 41] CH2 = true := by kernel_rfl
theorem evFnPairBelow_18_3 (B : Blk) : okA_FnPairBelow B [40, 40, 40, 40, 41, 40, 41, 41, 40, 41, 41, 40, 40, 41, 40, 41, 41, 41] CH3 = true := by kernel_rfl
theorem evFnPairBelow_18_4 (B : Blk) : okA_FnPairBelow B [40, 40, 40, 40, 41, 40, 41, 41, 40, 41, 41, 40, 40, 41, 40, 41, 41, 41] CH4 = true := by kernel_rfl
theorem evFnPairBelow_18_5 (B : Blk) : okA_FnPairBelow B [40, 40, 40, 40, 41, 40, 41, 41, 40, 41, 41, 40, 40, 41, 40, 41, 41, 41] CH5 = true := by kernel_rfl
theorem evFnPairBelow_18_6 (B : Blk) : okA_FnPairBelow B [40, 40, 40, 40, 41, 40, 41, 41, 40, 41, 41, 40, 40, 41, 40, 41, 41, 41] CH6 = true := by kernel_rfl
theorem evFnPairBelow_18_7 (B : Blk) : okA_FnPairBelow B [40, 40, 40, 40, 41, 40, 41, 41, 40, 41, 41, 40, 40, 41, 40, 41, 41, 41] CH7 = true := by kernel_rfl
theorem evFnPairBelow_18 (B : Blk) : okA_FnPairBelow B [40, 40, 40, 40, 41, 40, 41, 41, 40, 41, 41, 40, 40, 41, 40, 41, 41, 41] Go.AI.Q.PLx = true := by rw [pl_eq]; exact okA_app (evFnPairBelow_18_0 B) (okA_app (evFnPairBelow_18_1 B) (okA_app (evFnPairBelow_18_2 B) (okA_app (evFnPairBelow_18_3 B) (okA_app (evFnPairBelow_18_4 B) (okA_app (evFnPairBelow_18_5 B) (okA_app (evFnPairBelow_18_6 B) (evFnPairBelow_18_7 B)))))))
theorem evFnPairBelow_7_0 (B : Blk) : okA_FnPairBelow B [40, 40, 40, 41, 40, 41, 41, 40, 40, 41, 40, 41, 41, 41] CH0 = true := by kernel_rfl
theorem evFnPairBelow_7_1 (B : Blk) : okA_FnPairBelow B [40, 40, 40, 41, 40, 41, 41, 40, 40, 41, 40, 41, 41, 41] CH1 = true := by kernel_rfl
theorem evFnPairBelow_7_2 (B : Blk) : okA_FnPairBelow B [40, 40, 40, 41, 40, 41, 41, 40, 40, 41, 40, 41, 41, 41] CH2 = true := by kernel_rfl
theorem evFnPairBelow_7_3 (B : Blk) : okA_FnPairBelow B [40, 40, 40, 41, 40, 41, 41, 40, 40, 41, 40, 41, 41, 41] CH3 = true := by kernel_rfl
theorem evFnPairBelow_7_4 (B : Blk) : okA_FnPairBelow B [40, 40, 40, 41, 40, 41, 41, 40, 40, 41, 40, 41, 41, 41] CH4 = true := by kernel_rfl
theorem evFnPairBelow_7_5 (B : Blk) : okA_FnPairBelow B [40, 40, 40, 41, 40, 41, 41, 40, 40, 41, 40, 41, 41, 41] CH5 = true := by kernel_rfl
theorem evFnPairBelow_7_6 (B : Blk) : okA_FnPairBelow B [40, 40, 40, 41, 40, 41, 41, 40, 40, 41, 40, 41, 41, 41] CH6 = true := by kernel_rfl
theorem evFnPairBelow_7_7 (B : Blk) : okA_FnPairBelow B [40, 40, 40, 41, 40, 41, 41, 40, 40, 41, 40, 41, 41, 41] CH7 = true := by kernel_rfl
theorem evFnPairBelow_7 (B : Blk) : okA_FnPairBelow B [40, 40, 40, 41, 40, 41, 41, 40, 40, 41, 40, 41, 41, 41] Go.AI.Q.PLx = true := by rw [pl_eq]; exact okA_app (evFnPairBelow_7_0 B) (okA_app (evFnPairBelow_7_1 B) (okA_app (evFnPairBelow_7_2 B) (okA_app (evFnPairBelow_7_3 B) (okA_app (evFnPairBelow_7_4 B) (okA_app (evFnPairBelow_7_5 B) (okA_app (evFnPairBelow_7_6 B) (evFnPairBelow_7_7 B)))))))
end
end Go.AI.T
