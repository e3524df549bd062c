/- The evaluation, part 4. -/
import Derived.Test.YthoidonmlfibfaaCtFn
import Derived.KernelRfl
namespace Go.AI.V
open Go Go.RowKit Go.AI
set_option linter.unusedVariables false
set_option linter.unusedSimpArgs false
set_option maxRecDepth 100000
noncomputable section
theorem evCt_c4 (es : List (AV × AV × Nat)) (c : Nat) : allR (okC es c) 9 1 5 (fun l => 40 :: 40 :: 41 :: 40 :: 41 :: 40 :: 41 :: 40 :: 41 :: l) = true := by kernel_rfl
theorem evCt_c13 (es : List (AV × AV × Nat)) (c : Nat) : allR (okC es c) 9 1 5 (fun l => 40 :: 40 :: 41 :: 40 :: 40 :: 41 :: 40 :: 41 :: 41 :: l) = true := by kernel_rfl
theorem evCt_c21 (es : List (AV × AV × Nat)) (c : Nat) : allR (okC es c) 9 3 6 (fun l => 40 :: 40 :: 41 :: 40 :: 40 :: 40 :: 40 :: 41 :: 41 :: l) = true := by kernel_rfl
theorem evCt_c32 (es : List (AV × AV × Nat)) (c : Nat) : allR (okC es c) 10 0 4 (fun l => 40 :: 40 :: 40 :: 41 :: 40 :: 41 :: 41 :: 41 :: l) = true := by kernel_rfl
theorem evCt_c33 (es : List (AV × AV × Nat)) (c : Nat) : allR (okC es c) 9 1 5 (fun l => 40 :: 40 :: 40 :: 41 :: 40 :: 41 :: 41 :: 40 :: 41 :: l) = true := by kernel_rfl
theorem evCt_c39 (es : List (AV × AV × Nat)) (c : Nat) : allR (okC es c) 9 1 5 (fun l => 40 :: 40 :: 40 :: 41 :: 40 :: 40 :: 41 :: 41 :: 41 :: l) = true := by kernel_rfl
theorem evCt_c44 (es : List (AV × AV × Nat)) (c : Nat) : allR (okC es c) 9 5 7 (fun l => 40 :: 40 :: 40 :: 41 :: 40 :: 40 :: 40 :: 41 :: 40 :: l) = true := by kernel_rfl
theorem evCt_c51 (es : List (AV × AV × Nat)) (c : Nat) : allR (okC es c) 9 3 6 (fun l => 40 :: 40 :: 40 :: 40 :: 41 :: 41 :: 40 :: 40 :: 41 :: l) = true := by kernel_rfl
theorem evCt_c62 (es : List (AV × AV × Nat)) (c : Nat) : allR (okC es c) 9 3 6 (fun l => 40 :: 40 :: 40 :: 40 :: 40 :: 41 :: 41 :: 40 :: 41 :: l) = true := by kernel_rfl
end
end Go.AI.V
