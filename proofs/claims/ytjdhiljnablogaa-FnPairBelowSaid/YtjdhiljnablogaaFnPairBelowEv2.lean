/- The evaluation, part 2. -/
import Derived.Test.YtjdhiljnablogaaFnPairBelowBad
import Derived.KernelRfl
namespace Go.AI.T
open Go Go.RowKit Go.AI
set_option linter.unusedVariables false
set_option linter.unusedSimpArgs false
set_option maxRecDepth 100000
noncomputable section
theorem evFnPairBelow_12_0 (B : Blk) : okA_FnPairBelow B [40, 40, 41, 40, 40, 40, 41, 40, 41, 41, 40, 40, 41, 40, 41, 41, 41, 41] CH0 = true := by kernel_rfl
theorem evFnPairBelow_12_1 (B : Blk) : okA_FnPairBelow B [40, 40, 41, 40, 40, 40, 41, 40, 41, 41, 40, 40, 41, 40, 41, 41, 41, 41] CH1 = true := by kernel_rfl
theorem evFnPairBelow_12_2 (B : Blk) : okA_FnPairBelow B [40, 40, 41, 40, 40, 40, 41, 40, 41, 41, 40, 40, 41, 40, 41, 41, 41, 41] CH2 = true := by kernel_rfl
theorem evFnPairBelow_12_3 (B : Blk) : okA_FnPairBelow B [40, 40, 41, 40, 40, 40, 41, 40, 41, 41, 40, 40, 41, 40, 41, 41, 41, 41] CH3 = true := by kernel_rfl
theorem evFnPairBelow_12_4 (B : Blk) : okA_FnPairBelow B [40, 40, 41, 40, 40, 40, 41, 40, 41, 41, 40, 40, 41, 40, 41, 41, 41, 41] CH4 = true := by kernel_rfl
theorem evFnPairBelow_12_5 (B : Blk) : okA_FnPairBelow B [40, 40, 41, 40, 40, 40, 41, 40, 41, 41, 40, 40, 41, 40, 41, 41, 41, 41] CH5 = true := by kernel_rfl
theorem evFnPairBelow_12_6 (B : Blk) : okA_FnPairBelow B [40, 40, 41, 40, 40, 40, 41, 40, 41, 41, 40, 40, 41, 40, 41, 41, 41, 41] CH6 = true := by kernel_rfl
theorem evFnPairBelow_12_7 (B : Blk) : okA_FnPairBelow B [40, 40, 41, 40, 40, 40, 41, 40, 41, 41, 40, 40, 41, 40, 41, 41, 41, 41] CH7 = true := by kernel_rfl
theorem evFnPairBelow_12 (B : Blk) : okA_FnPairBelow B [40, 40, 41, 40, 40, 40, 41, 40, 41, 41, 40, 40, 41, 40, 41, 41, 41, 41] Go.AI.Q.PLx = true := by rw [pl_eq]; exact okA_app (evFnPairBelow_12_0 B) (okA_app (evFnPairBelow_12_1 B) (okA_app (evFnPairBelow_12_2 B) (okA_app (evFnPairBelow_12_3 B) (okA_app (evFnPairBelow_12_4 B) (okA_app (evFnPairBelow_12_5 B) (okA_app (evFnPairBelow_12_6 B) (evFnPairBelow_12_7 B)))))))
theorem evFnPairBelow_20_0 (B : Blk) : okA_FnPairBelow B [40, 40, 40, 41, 40, 40, 40, 41, 40, 41, 41, 40, 41, 41, 41, 40, 41, 41] CH0 = true := by kernel_rfl
theorem evFnPairBelow_20_1 (B : Blk) : okA_FnPairBelow B [40, 40, 40, 41, 40, 40, 40, 41, 40, 41, 41, 40, 41, 41, 41, 40, 41, 41] CH1 = true := by kernel_rfl
theorem evFnPairBelow_20_2 (B : Blk) : okA_FnPairBelow B [40, 40, 40, 41, 40, 40, 40, 41, 40, 41, 41, 40, 41, 41, 41, 40, 41, 41] CH2 = true := by kernel_rfl
theorem evFnPairBelow_20_3 (B : Blk) : okA_FnPairBelow B [40, 40, 40, 41, 40, 40, 40, 41, 40, 41, 41, 40, 41, 41, 41, 40, 41, 41] CH3 = true := by kernel_rfl
theorem evFnPairBelow_20_4 (B : Blk) : okA_FnPairBelow B [40, 40, 40, 41, 40, 40, 40, 41, 40, 41, 41, 40, 41, 41, 41, 40, 41, 41] CH4 = true := by kernel_rfl
theorem evFnPairBelow_20_5 (B : Blk) : okA_FnPairBelow B [40, 40, 40, 41, 40, 40, 40, 41, 40, 41, 41, 40, 41, 41, 41, 40, 41, 41] CH5 = true := by kernel_rfl
theorem evFnPairBelow_20_6 (B : Blk) : okA_FnPairBelow B [40, 40, 40, 41, 40, 40, 40, 41, 40, 41, 41, 40, 41, 41, 41, 40, 41, 41] CH6 = true := by kernel_rfl
theorem evFnPairBelow_20_7 (B : Blk) : okA_FnPairBelow B [40, 40, 40, 41, 40, 40, 40, 41, 40, 41, 41, 40, 41, 41, 41, 40, 41, 41] CH7 = true := by kernel_rfl
theorem evFnPairBelow_20 (B : Blk) : okA_FnPairBelow B [40, 40, 40, 41, 40, 40, 40, 41, 40, 41, 41, 40, 41, 41, 41, 40, 41, 41] Go.AI.Q.PLx = true := by rw [pl_eq]; exact okA_app (evFnPairBelow_20_0 B) (okA_app (evFnPairBelow_20_1 B) (okA_app (evFnPairBelow_20_2 B) (okA_app (evFnPairBelow_20_3 B) (okA_app (evFnPairBelow_20_4 B) (okA_app (evFnPairBelow_20_5 B) (okA_app (evFnPairBelow_20_6 B) (evFnPairBelow_20_7 B)))))))
theorem evFnPairBelow_9_0 (B : Blk) : okA_FnPairBelow B [40, 40, 40, 40, 41, 40, 41, 41, 40, 41, 41, 40, 41, 41] CH0 = true := by kernel_rfl
theorem evFnPairBelow_9_1 (B : Blk) : okA_FnPairBelow B [40, 40, 40, 40, 41, 40, 41, 41, 40, 41, 41, 40, 41, 41] CH1 = true := by kernel_rfl
theorem evFnPairBelow_9_2 (B : Blk) : okA_FnPairBelow B [40, 40, 40, 40, 41, 40, 41, 41, 40, 41, 41, 40, 41, 41] CH2 = true := by kernel_rfl
theorem evFnPairBelow_9_3 (B : Blk) : okA_FnPairBelow B [40, 40, 40, 40, 41, 40, 41, 41, 40, 41, 41, 40, 41, 41] CH3 = true := by kernel_rfl
theorem evFnPairBelow_9_4 (B : Blk) : okA_FnPairBelow B [40, 40, 40, 40, 41, 40, 41, 41, 40, 41, 41, 40, 41, 41] CH4 = true := by kernel_rfl
theorem evFnPairBelow_9_5 (B : Blk) : okA_FnPairBelow B [40, 40, 40, 40, 41, 40, 41, 41, 40, 41, 41, 40, 41, 41] CH5 = true := by kernel_rfl
theorem evFnPairBelow_9_6 (B : Blk) : okA_FnPairBelow B [40, 40, 40, 40, 41, 40, 41, 41, 40, 41, 41, 40, 41, 41] CH6 = true := by kernel_rfl
theorem evFnPairBelow_9_7 (B : Blk) : okA_FnPairBelow B [40, 40, 40, 40, 41, 40, 41, 41, 40, 41, 41, 40, 41, 41] CH7 = true := by kernel_rfl
theorem evFnPairBelow_9 (B : Blk) : okA_FnPairBelow B [40, 40, 40, 40, 41, 40, 41, 41, 40, 41, 41, 40, 41, 41] Go.AI.Q.PLx = true := by rw [pl_eq]; exact okA_app (evFnPairBelow_9_0 B) (okA_app (evFnPairBelow_9_1 B) (okA_app (evFnPairBelow_9_2 B) (okA_app (evFnPairBelow_9_3 B) (okA_app (evFnPairBelow_9_4 B) (okA_app (evFnPairBelow_9_5 B) (okA_app (evFnPairBelow_9_6 B) (evFnPairBelow_9_7 B)))))))
end
end Go.AI.T
