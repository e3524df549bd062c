/- The evaluation, part 7. -/
import Derived.Test.YtjdhiljnablogaaFnPairBelowBad
import Derived.KernelRfl
namespace Go.AI.T
open Go Go.RowKit Go.AI
set_option linter.unusedVariables false
set_option linter.unusedSimpArgs false
set_option maxRecDepth 100000
noncomputable section
theorem evFnPairBelow_17_0 (B : Blk) : okA_FnPairBelow B [40, 40, 40, 41, 40, 40, 41, 40, 41, 41, 41, 40, 40, 41, 40, 41, 41, 41] CH0 = true := by kernel_rfl
theorem evFnPairBelow_17_1 (B : Blk) : okA_FnPairBelow B [40, 40, 40, 41, 40, 40, 41, 40, 41, 41, 41, 40, 40, 41, 40, 41, 41, 41] CH1 = true := by kernel_rfl
theorem evFnPairBelow_17_2 (B : Blk) : okA_FnPairBelow B [40, 40, 40, 41, 40, 40, 41, 40, 41, 41, 41, 40, 40, 41, 40, 41, 41, 41] CH2 = true := by kernel_rfl
theorem evFnPairBelow_17_3 (B : Blk) : okA_FnPairBelow B [40, 40, 40, 41, 40, 40, 41, 40, 41, 41, 41, 40, 40, 41, 40, 41, 41, 41] CH3 = true := by kernel_rfl
theorem evFnPairBelow_17_4 (B : Blk) : okA_FnPairBelow B [40, 40, 40, 41, 40, 40, 41, 40, 41, 41, 41, 40, 40, 41, 40, 41, 41, 41] CH4 = true := by kernel_rfl
theorem evFnPairBelow_17_5 (B : Blk) : okA_FnPairBelow B [40, 40, 40, 41, 40, 40, 41, 40, 41, 41, 41, 40, 40, 41, 40, 41, 41, 41] CH5 = true := by kernel_rfl
theorem evFnPairBelow_17_6 (B : Blk) : okA_FnPairBelow B [40, 40, 40, 41, 40, 40, 41, 40, 41, 41, 41, 40, 40, 41, 40, 41, 41, 41] CH6 = true := by kernel_rfl
theorem evFnPairBelow_17_7 (B : Blk) : okA_FnPairBelow B [40, 40, 40, 41, 40, 40, 41, 40, 41, 41, 41, 40, 40, 41, 40, 41, 41, 41] CH7 = true := by kernel_rfl
theorem evFnPairBelow_17 (B : Blk) : okA_FnPairBelow B [40, 40, 40, 41, 40, 40, 41, 40, 41, 41, 41, 40, 40, 41, 40, 41, 41, 41] Go.AI.Q.PLx = true := by rw [pl_eq]; exact okA_app (evFnPairBelow_17_0 B) (okA_app (evFnPairBelow_17_1 B) (okA_app (evFnPairBelow_17_2 B) (okA_app (evFnPairBelow_17_3 B) (okA_app (evFnPairBelow_17_4 B) (okA_app (evFnPairBelow_17_5 B) (okA_app (evFnPairBelow_17_6 B) (evFnPairBelow_17_7 B)))))))
theorem evFnPairBelow_6_0 (B : Blk) : okA_FnPairBelow B [40, 40, 41, 40, 40, 40, 41, 40, 41, 41, 40, 41, 41, 41] CH0 = true := by kernel_rfl
theorem evFnPairBelow_6_1 (B : Blk) : okA_FnPairBelow B [40, 40, 41, 40, 40, 40, 41, 40, 41, 41, 40, 41, 41, 41] CH1 = true := by kernel_rfl
theorem evFnPairBelow_6_2 (B : Blk) : okA_FnPairBelow B [40, 40, 41, 40, 40, 40, 41, 40, 41, 41, 40, 41, 41, 41] CH2 = true := by kernel_rfl
theorem evFnPairBelow_6_3 (B : Blk) : okA_FnPairBelow B [40, 40, 41, 40, 40, 40, 41, 40, 41, 41, 40, 41, 41, 41] CH3 = true := by kernel_rfl
theorem evFnPairBelow_6_4 (B : Blk) : okA_FnPairBelow B [40, 40, 41, 40, 40, 40, 41, 40, 41, 41, 40, 41, 41, 41] CH4 = true := by kernel_rfl
theorem evFnPairBelow_6_5 (B : Blk) : okA_FnPairBelow B [40, 40, 41, 40, 40, 40, 41, 40, 41, 41, 40, 41, 41, 41] CH5 = true := by kernel_rfl
theorem evFnPairBelow_6_6 (B : Blk) : okA_FnPairBelow B [40, 40, 41, 40, 40, 40, 41, 40, 41, 41, 40, 41, 41, 41] CH6 = true := by kernel_rfl
theorem evFnPairBelow_6_7 (B : Blk) : okA_FnPairBelow B [40, 40, 41, 40, 40, 40, 41, 40, 41, 41, 40, 41, 41, 41] CH7 = true := by kernel_rfl
theorem evFnPairBelow_6 (B : Blk) : okA_FnPairBelow B [40, 40, 41, 40, 40, 40, 41, 40, 41, 41, 40, 41, 41, 41] Go.AI.Q.PLx = true := by rw [pl_eq]; exact okA_app (evFnPairBelow_6_0 B) (okA_app (evFnPairBelow_6_1 B) (okA_app (evFnPairBelow_6_2 B) (okA_app (evFnPairBelow_6_3 B) (okA_app (evFnPairBelow_6_4 B) (okA_app (evFnPairBelow_6_5 B) (okA_app (evFnPairBelow_6_6 B) (evFnPairBelow_6_7 B)))))))
theorem evFnPairBelow_0_0 (B : Blk) : okA_FnPairBelow B [] CH0 = true := by kernel_rfl
theorem evFnPairBelow_0_1 (B : Blk) : okA_FnPairBelow B [] CH1 = true := by kernel_rfl
theorem evFnPairBelow_0_2 (B : Blk) : okA_FnPairBelow B [] CH2 = true := by kernel_rfl
theorem evFnPairBelow_0_3 (B : Blk) : okA_FnPairBelow B [] CH3 = true := by kernel_rfl
theorem evFnPairBelow_0_4 (B : Blk) : okA_FnPairBelow B [] CH4 = true := by kernel_rfl
theorem evFnPairBelow_0_5 (B : Blk) : okA_FnPairBelow B [] CH5 = true := by kernel_rfl
theorem evFnPairBelow_0_6 (B : Blk) : okA_FnPairBelow B [] CH6 = true := by kernel_rfl
theorem evFnPairBelow_0_7 (B : Blk) : okA_FnPairBelow B [] CH7 = true := by kernel_rfl
theorem evFnPairBelow_0 (B : Blk) : okA_FnPairBelow B [] Go.AI.Q.PLx = true := by rw [pl_eq]; exact okA_app (evFnPairBelow_0_0 B) (okA_app (evFnPairBelow_0_1 B) (okA_app (evFnPairBelow_0_2 B) (okA_app (evFnPairBelow_0_3 B) (okA_app (evFnPairBelow_0_4 B) (okA_app (evFnPairBelow_0_5 B) (okA_app (evFnPairBelow_0_6 B) (evFnPairBelow_0_7 B)))))))
end
end Go.AI.T
