/- The evaluation, part 3. -/
import Derived.Test.YthoidonmlfibfaaCtFn
import Derived.KernelRfl
namespace Go.AI.V
open Go Go.RowKit Go.AI
set_option linter.unusedVariables false
set_option linter.unusedSimpArgs false
set_option maxRecDepth 100000
noncomputable section
theorem evCt_c3 (es : List (AV × AV × Nat)) (c : Nat) : allR (okC es c) 10 0 4 (fun l => 40 :: 40 :: 41 :: 40 :: 41 :: 40 :: 41 :: 41 :: l) = true := by kernel_rfl
theorem evCt_c11 (es : List (AV × AV × Nat)) (c : Nat) : allR (okC es c) 9 1 5 (fun l => 40 :: 40 :: 41 :: 40 :: 40 :: 41 :: 41 :: 40 :: 41 :: l) = true := by kernel_rfl
theorem evCt_c15 (es : List (AV × AV × Nat)) (c : Nat) : allR (okC es c) 9 3 6 (fun l => 40 :: 40 :: 41 :: 40 :: 40 :: 41 :: 40 :: 40 :: 41 :: l) = true := by kernel_rfl
theorem evCt_c25 (es : List (AV × AV × Nat)) (c : Nat) : allR (okC es c) 10 0 4 (fun l => 40 :: 40 :: 40 :: 41 :: 41 :: 40 :: 41 :: 41 :: l) = true := by kernel_rfl
theorem evCt_c27 (es : List (AV × AV × Nat)) (c : Nat) : allR (okC es c) 9 3 6 (fun l => 40 :: 40 :: 40 :: 41 :: 41 :: 40 :: 41 :: 40 :: 40 :: l) = true := by kernel_rfl
theorem evCt_c37 (es : List (AV × AV × Nat)) (c : Nat) : allR (okC es c) 9 3 6 (fun l => 40 :: 40 :: 40 :: 41 :: 40 :: 41 :: 40 :: 40 :: 41 :: l) = true := by kernel_rfl
theorem evCt_c48 (es : List (AV × AV × Nat)) (c : Nat) : allR (okC es c) 9 3 6 (fun l => 40 :: 40 :: 40 :: 40 :: 41 :: 41 :: 41 :: 40 :: 40 :: l) = true := by kernel_rfl
theorem evCt_c59 (es : List (AV × AV × Nat)) (c : Nat) : allR (okC es c) 10 6 7 (fun l => 40 :: 40 :: 40 :: 40 :: 41 :: 40 :: 40 :: 40 :: l) = true := by kernel_rfl
theorem evCt_c67 (es : List (AV × AV × Nat)) (c : Nat) : allR (okC es c) 9 3 6 (fun l => 40 :: 40 :: 40 :: 40 :: 40 :: 40 :: 41 :: 41 :: 41 :: l) = true := by kernel_rfl
end
end Go.AI.V
