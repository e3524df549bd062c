/- The evaluation, part 3. -/
import Derived.Test.YtjdhiljnablogaaFnPairBelowBad
import Derived.KernelRfl
namespace Go.AI.T
open Go Go.RowKit Go.AI
set_option linter.unusedVariables false
set_option linter.unusedSimpArgs false
set_option maxRecDepth 100000
noncomputable section
theorem evFnPairBelow_13_0 (B : Blk) : okA_FnPairBelow B [40, 40, 41, 40, 40, 40, 41, 40, 40, 41, 40, 41, 41, 41, 40, 41, 41, 41] CH0 = true := by kernel_rfl
theorem evFnPairBelow_13_1 (B : Blk) : okA_FnPairBelow B [40, 40, 41, 40, 40, 40, 41, 40, 40, 41, 40, 41, 41, 41, 40, 41, 41, 41] CH1 = true := by kernel_rfl
theorem evFnPairBelow_13_2 (B : Blk) : okA_FnPairBelow B [40, 40, 41, 40, 40, 40, 41, 40, 40, 41, 40, 41, 41, 41, 40, 41, 41, 41] CH2 = true := by kernel_rfl
theorem evFnPairBelow_13_3 (B : Blk) : okA_FnPairBelow B [40, 40, 41, 40, 40, 40, 41, 40, 40, 41, 40, 41, 41, 41, 40, 41, 41, 41] CH3 = true := by kernel_rfl
theorem evFnPairBelow_13_4 (B : Blk) : okA_FnPairBelow B [40, 40, 41, 40, 40, 40, 41, 40, 40, 41, 40, 41, 41, 41, 40, 41, 41, 41] CH4 = true := by kernel_rfl
theorem evFnPairBelow_13_5 (B : Blk) : okA_FnPairBelow B [40, 40, 41, 40, 40, 40, 41, 40, 40, 41, 40, 41, 41, 41, 40, 41, 41, 41] CH5 = true := by kernel_rfl
theorem evFnPairBelow_13_6 (B : Blk) : okA_FnPairBelow B [40, 40, 41, 40, 40, 40, 41, 40, 40, 41, 40, 41, 41, 41, 40, 41, 41, 41] CH6 = true := by kernel_rfl
theorem evFnPairBelow_13_7 (B : Blk) : okA_FnPairBelow B [40, 40, 41, 40, 40, 40, 41, 40, 40, 41, 40, 41, 41, 41, 40, 41, 41, 41] CH7 = true := by kernel_rfl
theorem evFnPairBelow_13 (B : Blk) : okA_FnPairBelow B [40, 40, 41, 40, 40, 40, 41, 40, 40, 41, 40, 41, 41, 41, 40, 41, 41, 41] Go.AI.Q.PLx = true := by rw [pl_eq]; exact okA_app (evFnPairBelow_13_0 B) (okA_app (evFnPairBelow_13_1 B) (okA_app (evFnPairBelow_13_2 B) (okA_app (evFnPairBelow_13_3 B) (okA_app (evFnPairBelow_13_4 B) (okA_app (evFnPairBelow_13_5 B) (okA_app (evFnPairBelow_13_6 B) (evFnPairBelow_13_7 B)))))))
theorem evFnPairBelow_21_0 (B : Blk) : okA_FnPairBelow B [40, 40, 40, 40, 41, 40, 41, 41, 40, 40, 41, 40, 41, 41, 41, 40, 41, 41] CH0 = true := by kernel_rfl
theorem evFnPairBelow_21_1 (B : Blk) : okA_FnPairBelow B [40, 40, 40, 40, 41, 40, 41, 41, 40, 40, 41, 40, 41, 41, 41, 40, 41, 41] CH1 = true := by kernel_rfl
theorem evFnPairBelow_21_2 (B : Blk) : okA_FnPairBelow B [40, 40, 40, 40, 41, 40, 41, 41, 40, 40, 41, 40, 41, 41, 41, 40, 41, 41] CH2 = true := by kernel_rfl
theorem evFnPairBelow_21_3 (B : Blk) : okA_FnPairBelow B [40, 40, 40, 40, 41, 40, 41, 41, 40, 40, 41, 40, 41, 41, 41, 40, 41, 41] CH3 = true := by kernel_rfl
theorem evFnPairBelow_21_4 (B : Blk) : okA_FnPairBelow B [40, 40, 40, 40, 41, 40, 41, 41, 40, 40, 41, 40, 41, 41, 41, 40, 41, 41] CH4 = true := by kernel_rfl
theorem evFnPairBelow_21_5 (B : Blk) : okA_FnPairBelow B [40, 40, 40, 40, 41, 40, 41, 41, 40, 40, 41, 40, 41, 41, 41, 40, 41, 41] CH5 = true := by kernel_rfl
theorem evFnPairBelow_21_6 (B : Blk) : okA_FnPairBelow B [40, 40, 40, 40, 41, 40, 41, 41, 40, 40, 41, 40, 41, 41, 41, 40, 41, 41] CH6 = true := by kernel_rfl
theorem evFnPairBelow_21_7 (B : Blk) : okA_FnPairBelow B [40, 40, 40, 40, 41, 40, 41, 41, 40, 40, 41, 40, 41, 41, 41, 40, 41, 41] CH7 = true := by kernel_rfl
theorem evFnPairBelow_21 (B : Blk) : okA_FnPairBelow B [40, 40, 40, 40, 41, 40, 41, 41, 40, 40, 41, 40, 41, 41, 41, 40, 41, 41] Go.AI.Q.PLx = true := by rw [pl_eq]; exact okA_app (evFnPairBelow_21_0 B) (okA_app (evFnPairBelow_21_1 B) (okA_app (evFnPairBelow_21_2 B) (okA_app (evFnPairBelow_21_3 B) (okA_app (evFnPairBelow_21_4 B) (okA_app (evFnPairBelow_21_5 B) (okA_app (evFnPairBelow_21_6 B) (evFnPairBelow_21_7 B)))))))
theorem evFnPairBelow_3_0 (B : Blk) : okA_FnPairBelow B [40, 40, 41, 40, 40, 41, 40, 41, 41, 41] CH0 = true := by kernel_rfl
theorem evFnPairBelow_3_1 (B : Blk) : okA_FnPairBelow B [40, 40, 41, 40, 40, 41, 40, 41, 41, 41] CH1 = true := by kernel_rfl
theorem evFnPairBelow_3_2 (B : Blk) : okA_FnPairBelow B [40, 40, 41, 40, 40, 41, 40, 41, 41, 41] CH2 = true := by kernel_rfl
theorem evFnPairBelow_3_3 (B : Blk) : okA_FnPairBelow B [40, 40, 41, 40, 40, 41, 40, 41, 41, 41] CH3 = true := by kernel_rfl
theorem evFnPairBelow_3_4 (B : Blk) : okA_FnPairBelow B [40, 40, 41, 40, 40, 41, 40, 41, 41, 41] CH4 = true := by kernel_rfl
theorem evFnPairBelow_3_5 (B : Blk) : okA_FnPairBelow B [40, 40, 41, 40, 40, 41, 40, 41, 41, 41] CH5 = true := by kernel_rfl
theorem evFnPairBelow_3_6 (B : Blk) : okA_FnPairBelow B [40, 40, 41, 40, 40, 41, 40, 41, 41, 41] CH6 = true := by kernel_rfl
theorem evFnPairBelow_3_7 (B : Blk) : okA_FnPairBelow B [40, 40, 41, 40, 40, 41, 40, 41, 41, 41] CH7 = true := by kernel_rfl
theorem evFnPairBelow_3 (B : Blk) : okA_FnPairBelow B [40, 40, 41, 40, 40, 41, 40, 41, 41, 41] Go.AI.Q.PLx = true := by rw [pl_eq]; exact okA_app (evFnPairBelow_3_0 B) (okA_app (evFnPairBelow_3_1 B) (okA_app (evFnPairBelow_3_2 B) (okA_app (evFnPairBelow_3_3 B) (okA_app (evFnPairBelow_3_4 B) (okA_app (evFnPairBelow_3_5 B) (okA_app (evFnPairBelow_3_6 B) (evFnPairBelow_3_7 B)))))))
end
end Go.AI.T
