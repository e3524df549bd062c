/- The evaluation, part 3. -/
import Derived.Test.YtlcmolcajoeagaaCtFn
import Derived.KernelRfl
namespace Go.AI.V
open Go Go.RowKit Go.AI
set_option linter.unusedVariables false
set_option linter.unusedSimpArgs false
set_option maxRecDepth 100000
noncomputable section
theorem evCt_c3 (es : List (AV × AV × Nat)) (c : Nat) : allR (okC es c) 10 0 4 (fun l => 40 :: 40 :: 41 :: 40 :: 41 :: 40 :: 41 :: 41 :: l) = true := by kernel_rfl
theorem evCt_c7 (es : List (AV × AV × Nat)) (c : Nat) : allR (okC es c) 9 1 5 (fun l => 40 :: 40 :: 41 :: 40 :: 41 :: 40 :: 40 :: 41 :: 41 :: l) = true := by kernel_rfl
theorem evCt_c11 (es : List (AV × AV × Nat)) (c : Nat) : allR (okC es c) 8 4 7 (fun l => 40 :: 40 :: 41 :: 40 :: 41 :: 40 :: 40 :: 40 :: 41 :: 40 :: l) = true := by kernel_rfl
theorem evCt_c15 (es : List (AV × AV × Nat)) (c : Nat) : allR (okC es c) 8 2 6 (fun l => 40 :: 40 :: 41 :: 40 :: 40 :: 41 :: 41 :: 40 :: 40 :: 41 :: l) = true := by kernel_rfl
theorem evCt_c18 (es : List (AV × AV × Nat)) (c : Nat) : allR (okC es c) 8 2 6 (fun l => 40 :: 40 :: 41 :: 40 :: 40 :: 41 :: 40 :: 41 :: 40 :: 41 :: l) = true := by kernel_rfl
theorem evCt_c22 (es : List (AV × AV × Nat)) (c : Nat) : allR (okC es c) 9 5 7 (fun l => 40 :: 40 :: 41 :: 40 :: 40 :: 41 :: 40 :: 40 :: 40 :: l) = true := by kernel_rfl
theorem evCt_c28 (es : List (AV × AV × Nat)) (c : Nat) : allR (okC es c) 9 5 7 (fun l => 40 :: 40 :: 41 :: 40 :: 40 :: 40 :: 41 :: 40 :: 40 :: l) = true := by kernel_rfl
theorem evCt_c32 (es : List (AV × AV × Nat)) (c : Nat) : allR (okC es c) 9 5 7 (fun l => 40 :: 40 :: 41 :: 40 :: 40 :: 40 :: 40 :: 40 :: 41 :: l) = true := by kernel_rfl
theorem evCt_c39 (es : List (AV × AV × Nat)) (c : Nat) : allR (okC es c) 9 1 5 (fun l => 40 :: 40 :: 40 :: 41 :: 41 :: 40 :: 40 :: 41 :: 41 :: l) = true := by kernel_rfl
theorem evCt_c43 (es : List (AV × AV × Nat)) (c : Nat) : allR (okC es c) 8 4 7 (fun l => 40 :: 40 :: 40 :: 41 :: 41 :: 40 :: 40 :: 40 :: 41 :: 40 :: l) = true := by kernel_rfl
theorem evCt_c48 (es : List (AV × AV × Nat)) (c : Nat) : allR (okC es c) 8 4 7 (fun l => 40 :: 40 :: 40 :: 41 :: 40 :: 41 :: 41 :: 40 :: 40 :: 40 :: l) = true := by kernel_rfl
theorem evCt_c52 (es : List (AV × AV × Nat)) (c : Nat) : allR (okC es c) 8 2 6 (fun l => 40 :: 40 :: 40 :: 41 :: 40 :: 41 :: 40 :: 40 :: 41 :: 41 :: l) = true := by kernel_rfl
theorem evCt_c56 (es : List (AV × AV × Nat)) (c : Nat) : allR (okC es c) 8 2 6 (fun l => 40 :: 40 :: 40 :: 41 :: 40 :: 40 :: 41 :: 41 :: 40 :: 41 :: l) = true := by kernel_rfl
theorem evCt_c60 (es : List (AV × AV × Nat)) (c : Nat) : allR (okC es c) 9 5 7 (fun l => 40 :: 40 :: 40 :: 41 :: 40 :: 40 :: 41 :: 40 :: 40 :: l) = true := by kernel_rfl
theorem evCt_c64 (es : List (AV × AV × Nat)) (c : Nat) : allR (okC es c) 9 5 7 (fun l => 40 :: 40 :: 40 :: 41 :: 40 :: 40 :: 40 :: 40 :: 41 :: l) = true := by kernel_rfl
theorem evCt_c70 (es : List (AV × AV × Nat)) (c : Nat) : allR (okC es c) 9 1 5 (fun l => 40 :: 40 :: 40 :: 40 :: 41 :: 41 :: 40 :: 41 :: 41 :: l) = true := by kernel_rfl
theorem evCt_c74 (es : List (AV × AV × Nat)) (c : Nat) : allR (okC es c) 8 4 7 (fun l => 40 :: 40 :: 40 :: 40 :: 41 :: 41 :: 40 :: 40 :: 41 :: 40 :: l) = true := by kernel_rfl
theorem evCt_c78 (es : List (AV × AV × Nat)) (c : Nat) : allR (okC es c) 8 4 7 (fun l => 40 :: 40 :: 40 :: 40 :: 41 :: 40 :: 41 :: 41 :: 40 :: 40 :: l) = true := by kernel_rfl
theorem evCt_c82 (es : List (AV × AV × Nat)) (c : Nat) : allR (okC es c) 8 2 6 (fun l => 40 :: 40 :: 40 :: 40 :: 41 :: 40 :: 40 :: 41 :: 41 :: 41 :: l) = true := by kernel_rfl
theorem evCt_c86 (es : List (AV × AV × Nat)) (c : Nat) : allR (okC es c) 9 7 8 (fun l => 40 :: 40 :: 40 :: 40 :: 41 :: 40 :: 40 :: 40 :: 40 :: l) = true := by kernel_rfl
theorem evCt_c87 (es : List (AV × AV × Nat)) (c : Nat) : allR (okC es c) 9 1 5 (fun l => 40 :: 40 :: 40 :: 40 :: 40 :: 41 :: 41 :: 41 :: 41 :: l) = true := by kernel_rfl
theorem evCt_c92 (es : List (AV × AV × Nat)) (c : Nat) : allR (okC es c) 9 5 7 (fun l => 40 :: 40 :: 40 :: 40 :: 40 :: 41 :: 41 :: 40 :: 40 :: l) = true := by kernel_rfl
theorem evCt_c96 (es : List (AV × AV × Nat)) (c : Nat) : allR (okC es c) 9 5 7 (fun l => 40 :: 40 :: 40 :: 40 :: 40 :: 41 :: 40 :: 40 :: 41 :: l) = true := by kernel_rfl
theorem evCt_c101 (es : List (AV × AV × Nat)) (c : Nat) : allR (okC es c) 9 5 7 (fun l => 40 :: 40 :: 40 :: 40 :: 40 :: 40 :: 41 :: 40 :: 41 :: l) = true := by kernel_rfl
end
end Go.AI.V
