/- The evaluation, part 1. -/
import Derived.Test.YthoidonmlfibfaaCtFn
import Derived.KernelRfl
namespace Go.AI.V
open Go Go.RowKit Go.AI
set_option linter.unusedVariables false
set_option linter.unusedSimpArgs false
set_option maxRecDepth 100000
noncomputable section
theorem evCt_c1 (es : List (AV × AV × Nat)) (c : Nat) : allR (okC es c) 14 0 2 (fun l => 40 :: 40 :: 41 :: 41 :: l) = true := by kernel_rfl
theorem evCt_c9 (es : List (AV × AV × Nat)) (c : Nat) : allR (okC es c) 9 5 7 (fun l => 40 :: 40 :: 41 :: 40 :: 41 :: 40 :: 40 :: 40 :: 40 :: l) = true := by kernel_rfl
theorem evCt_c16 (es : List (AV × AV × Nat)) (c : Nat) : allR (okC es c) 9 5 7 (fun l => 40 :: 40 :: 41 :: 40 :: 40 :: 41 :: 40 :: 40 :: 40 :: l) = true := by kernel_rfl
theorem evCt_c22 (es : List (AV × AV × Nat)) (c : Nat) : allR (okC es c) 9 5 7 (fun l => 40 :: 40 :: 41 :: 40 :: 40 :: 40 :: 40 :: 41 :: 40 :: l) = true := by kernel_rfl
theorem evCt_c29 (es : List (AV × AV × Nat)) (c : Nat) : allR (okC es c) 9 3 6 (fun l => 40 :: 40 :: 40 :: 41 :: 41 :: 40 :: 40 :: 41 :: 40 :: l) = true := by kernel_rfl
theorem evCt_c41 (es : List (AV × AV × Nat)) (c : Nat) : allR (okC es c) 9 3 6 (fun l => 40 :: 40 :: 40 :: 41 :: 40 :: 40 :: 41 :: 40 :: 41 :: l) = true := by kernel_rfl
theorem evCt_c52 (es : List (AV × AV × Nat)) (c : Nat) : allR (okC es c) 9 5 7 (fun l => 40 :: 40 :: 40 :: 40 :: 41 :: 41 :: 40 :: 40 :: 40 :: l) = true := by kernel_rfl
theorem evCt_c58 (es : List (AV × AV × Nat)) (c : Nat) : allR (okC es c) 9 5 7 (fun l => 40 :: 40 :: 40 :: 40 :: 41 :: 40 :: 40 :: 41 :: 40 :: l) = true := by kernel_rfl
theorem evCt_c65 (es : List (AV × AV × Nat)) (c : Nat) : allR (okC es c) 9 5 7 (fun l => 40 :: 40 :: 40 :: 40 :: 40 :: 41 :: 40 :: 41 :: 40 :: l) = true := by kernel_rfl
theorem evCt_c70 (es : List (AV × AV × Nat)) (c : Nat) : allR (okC es c) 11 7 7 (fun l => 40 :: 40 :: 40 :: 40 :: 40 :: 40 :: 40 :: l) = true := by kernel_rfl
end
end Go.AI.V
