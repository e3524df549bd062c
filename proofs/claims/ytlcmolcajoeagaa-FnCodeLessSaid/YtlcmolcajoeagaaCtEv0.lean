/- The evaluation, part 0. -/
import Derived.Test.YtlcmolcajoeagaaCtFn
import Derived.KernelRfl
namespace Go.AI.V
open Go Go.RowKit Go.AI
set_option linter.unusedVariables false
set_option linter.unusedSimpArgs false
set_option maxRecDepth 100000
noncomputable section
theorem evCt_c0 (es : List (AV × AV × Nat)) (c : Nat) : allR (okC es c) 16 0 1 (fun l => 40 :: 41 :: l) = true := by kernel_rfl
theorem evCt_c4 (es : List (AV × AV × Nat)) (c : Nat) : allR (okC es c) 9 1 5 (fun l => 40 :: 40 :: 41 :: 40 :: 41 :: 40 :: 41 :: 40 :: 41 :: l) = true := by kernel_rfl
theorem evCt_c10 (es : List (AV × AV × Nat)) (c : Nat) : allR (okC es c) 8 2 6 (fun l => 40 :: 40 :: 41 :: 40 :: 41 :: 40 :: 40 :: 40 :: 41 :: 41 :: l) = true := by kernel_rfl
theorem evCt_c16 (es : List (AV × AV × Nat)) (c : Nat) : allR (okC es c) 8 4 7 (fun l => 40 :: 40 :: 41 :: 40 :: 40 :: 41 :: 41 :: 40 :: 40 :: 40 :: l) = true := by kernel_rfl
theorem evCt_c17 (es : List (AV × AV × Nat)) (c : Nat) : allR (okC es c) 9 1 5 (fun l => 40 :: 40 :: 41 :: 40 :: 40 :: 41 :: 40 :: 41 :: 41 :: l) = true := by kernel_rfl
theorem evCt_c23 (es : List (AV × AV × Nat)) (c : Nat) : allR (okC es c) 9 1 5 (fun l => 40 :: 40 :: 41 :: 40 :: 40 :: 40 :: 41 :: 41 :: 41 :: l) = true := by kernel_rfl
theorem evCt_c26 (es : List (AV × AV × Nat)) (c : Nat) : allR (okC es c) 8 2 6 (fun l => 40 :: 40 :: 41 :: 40 :: 40 :: 40 :: 41 :: 40 :: 41 :: 41 :: l) = true := by kernel_rfl
theorem evCt_c31 (es : List (AV × AV × Nat)) (c : Nat) : allR (okC es c) 9 5 7 (fun l => 40 :: 40 :: 41 :: 40 :: 40 :: 40 :: 40 :: 41 :: 40 :: l) = true := by kernel_rfl
theorem evCt_c38 (es : List (AV × AV × Nat)) (c : Nat) : allR (okC es c) 8 4 7 (fun l => 40 :: 40 :: 40 :: 41 :: 41 :: 40 :: 41 :: 40 :: 40 :: 40 :: l) = true := by kernel_rfl
theorem evCt_c42 (es : List (AV × AV × Nat)) (c : Nat) : allR (okC es c) 8 2 6 (fun l => 40 :: 40 :: 40 :: 41 :: 41 :: 40 :: 40 :: 40 :: 41 :: 41 :: l) = true := by kernel_rfl
theorem evCt_c47 (es : List (AV × AV × Nat)) (c : Nat) : allR (okC es c) 8 2 6 (fun l => 40 :: 40 :: 40 :: 41 :: 40 :: 41 :: 41 :: 40 :: 40 :: 41 :: l) = true := by kernel_rfl
theorem evCt_c51 (es : List (AV × AV × Nat)) (c : Nat) : allR (okC es c) 8 4 7 (fun l => 40 :: 40 :: 40 :: 41 :: 40 :: 41 :: 40 :: 41 :: 40 :: 40 :: l) = true := by kernel_rfl
theorem evCt_c53 (es : List (AV × AV × Nat)) (c : Nat) : allR (okC es c) 8 4 7 (fun l => 40 :: 40 :: 40 :: 41 :: 40 :: 41 :: 40 :: 40 :: 41 :: 40 :: l) = true := by kernel_rfl
theorem evCt_c57 (es : List (AV × AV × Nat)) (c : Nat) : allR (okC es c) 8 4 7 (fun l => 40 :: 40 :: 40 :: 41 :: 40 :: 40 :: 41 :: 41 :: 40 :: 40 :: l) = true := by kernel_rfl
theorem evCt_c61 (es : List (AV × AV × Nat)) (c : Nat) : allR (okC es c) 8 2 6 (fun l => 40 :: 40 :: 40 :: 41 :: 40 :: 40 :: 40 :: 41 :: 41 :: 41 :: l) = true := by kernel_rfl
theorem evCt_c65 (es : List (AV × AV × Nat)) (c : Nat) : allR (okC es c) 9 7 8 (fun l => 40 :: 40 :: 40 :: 41 :: 40 :: 40 :: 40 :: 40 :: 40 :: l) = true := by kernel_rfl
theorem evCt_c68 (es : List (AV × AV × Nat)) (c : Nat) : allR (okC es c) 8 2 6 (fun l => 40 :: 40 :: 40 :: 40 :: 41 :: 41 :: 41 :: 40 :: 40 :: 41 :: l) = true := by kernel_rfl
theorem evCt_c71 (es : List (AV × AV × Nat)) (c : Nat) : allR (okC es c) 8 2 6 (fun l => 40 :: 40 :: 40 :: 40 :: 41 :: 41 :: 40 :: 41 :: 40 :: 41 :: l) = true := by kernel_rfl
theorem evCt_c76 (es : List (AV × AV × Nat)) (c : Nat) : allR (okC es c) 9 1 5 (fun l => 40 :: 40 :: 40 :: 40 :: 41 :: 40 :: 41 :: 41 :: 41 :: l) = true := by kernel_rfl
theorem evCt_c79 (es : List (AV × AV × Nat)) (c : Nat) : allR (okC es c) 8 2 6 (fun l => 40 :: 40 :: 40 :: 40 :: 41 :: 40 :: 41 :: 40 :: 41 :: 41 :: l) = true := by kernel_rfl
theorem evCt_c84 (es : List (AV × AV × Nat)) (c : Nat) : allR (okC es c) 9 5 7 (fun l => 40 :: 40 :: 40 :: 40 :: 41 :: 40 :: 40 :: 41 :: 40 :: l) = true := by kernel_rfl
theorem evCt_c89 (es : List (AV × AV × Nat)) (c : Nat) : allR (okC es c) 8 4 7 (fun l => 40 :: 40 :: 40 :: 40 :: 40 :: 41 :: 41 :: 41 :: 40 :: 40 :: l) = true := by kernel_rfl
theorem evCt_c93 (es : List (AV × AV × Nat)) (c : Nat) : allR (okC es c) 8 2 6 (fun l => 40 :: 40 :: 40 :: 40 :: 40 :: 41 :: 40 :: 41 :: 41 :: 41 :: l) = true := by kernel_rfl
theorem evCt_c97 (es : List (AV × AV × Nat)) (c : Nat) : allR (okC es c) 9 7 8 (fun l => 40 :: 40 :: 40 :: 40 :: 40 :: 41 :: 40 :: 40 :: 40 :: l) = true := by kernel_rfl
theorem evCt_c99 (es : List (AV × AV × Nat)) (c : Nat) : allR (okC es c) 8 4 7 (fun l => 40 :: 40 :: 40 :: 40 :: 40 :: 40 :: 41 :: 41 :: 41 :: 40 :: l) = true := by kernel_rfl
theorem evCt_c102 (es : List (AV × AV × Nat)) (c : Nat) : allR (okC es c) 9 7 8 (fun l => 40 :: 40 :: 40 :: 40 :: 40 :: 40 :: 41 :: 40 :: 40 :: l) = true := by kernel_rfl
theorem evCt_c104 (es : List (AV × AV × Nat)) (c : Nat) : allR (okC es c) 9 7 8 (fun l => 40 :: 40 :: 40 :: 40 :: 40 :: 40 :: 40 :: 41 :: 40 :: l) = true := by kernel_rfl
end
end Go.AI.V
