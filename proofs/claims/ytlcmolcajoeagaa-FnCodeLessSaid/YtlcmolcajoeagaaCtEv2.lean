/- The evaluation, part 2. -/
import Derived.Test.YtlcmolcajoeagaaCtFn
import Derived.KernelRfl
namespace Go.AI.V
open Go Go.RowKit Go.AI
set_option linter.unusedVariables false
set_option linter.unusedSimpArgs false
set_option maxRecDepth 100000
noncomputable section
theorem evCt_c2 (es : List (AV × AV × Nat)) (c : Nat) : allR (okC es c) 12 0 3 (fun l => 40 :: 40 :: 41 :: 40 :: 41 :: 41 :: l) = true := by kernel_rfl
theorem evCt_c6 (es : List (AV × AV × Nat)) (c : Nat) : allR (okC es c) 8 4 7 (fun l => 40 :: 40 :: 41 :: 40 :: 41 :: 40 :: 41 :: 40 :: 40 :: 40 :: l) = true := by kernel_rfl
theorem evCt_c8 (es : List (AV × AV × Nat)) (c : Nat) : allR (okC es c) 8 2 6 (fun l => 40 :: 40 :: 41 :: 40 :: 41 :: 40 :: 40 :: 41 :: 40 :: 41 :: l) = true := by kernel_rfl
theorem evCt_c13 (es : List (AV × AV × Nat)) (c : Nat) : allR (okC es c) 10 0 4 (fun l => 40 :: 40 :: 41 :: 40 :: 40 :: 41 :: 41 :: 41 :: l) = true := by kernel_rfl
theorem evCt_c14 (es : List (AV × AV × Nat)) (c : Nat) : allR (okC es c) 9 1 5 (fun l => 40 :: 40 :: 41 :: 40 :: 40 :: 41 :: 41 :: 40 :: 41 :: l) = true := by kernel_rfl
theorem evCt_c19 (es : List (AV × AV × Nat)) (c : Nat) : allR (okC es c) 8 4 7 (fun l => 40 :: 40 :: 41 :: 40 :: 40 :: 41 :: 40 :: 41 :: 40 :: 40 :: l) = true := by kernel_rfl
theorem evCt_c21 (es : List (AV × AV × Nat)) (c : Nat) : allR (okC es c) 8 4 7 (fun l => 40 :: 40 :: 41 :: 40 :: 40 :: 41 :: 40 :: 40 :: 41 :: 40 :: l) = true := by kernel_rfl
theorem evCt_c25 (es : List (AV × AV × Nat)) (c : Nat) : allR (okC es c) 8 4 7 (fun l => 40 :: 40 :: 41 :: 40 :: 40 :: 40 :: 41 :: 41 :: 40 :: 40 :: l) = true := by kernel_rfl
theorem evCt_c29 (es : List (AV × AV × Nat)) (c : Nat) : allR (okC es c) 8 2 6 (fun l => 40 :: 40 :: 41 :: 40 :: 40 :: 40 :: 40 :: 41 :: 41 :: 41 :: l) = true := by kernel_rfl
theorem evCt_c33 (es : List (AV × AV × Nat)) (c : Nat) : allR (okC es c) 9 7 8 (fun l => 40 :: 40 :: 41 :: 40 :: 40 :: 40 :: 40 :: 40 :: 40 :: l) = true := by kernel_rfl
theorem evCt_c37 (es : List (AV × AV × Nat)) (c : Nat) : allR (okC es c) 8 2 6 (fun l => 40 :: 40 :: 40 :: 41 :: 41 :: 40 :: 41 :: 40 :: 40 :: 41 :: l) = true := by kernel_rfl
theorem evCt_c41 (es : List (AV × AV × Nat)) (c : Nat) : allR (okC es c) 8 4 7 (fun l => 40 :: 40 :: 40 :: 41 :: 41 :: 40 :: 40 :: 41 :: 40 :: 40 :: l) = true := by kernel_rfl
theorem evCt_c44 (es : List (AV × AV × Nat)) (c : Nat) : allR (okC es c) 9 5 7 (fun l => 40 :: 40 :: 40 :: 41 :: 41 :: 40 :: 40 :: 40 :: 40 :: l) = true := by kernel_rfl
theorem evCt_c49 (es : List (AV × AV × Nat)) (c : Nat) : allR (okC es c) 9 1 5 (fun l => 40 :: 40 :: 40 :: 41 :: 40 :: 41 :: 40 :: 41 :: 41 :: l) = true := by kernel_rfl
theorem evCt_c55 (es : List (AV × AV × Nat)) (c : Nat) : allR (okC es c) 9 1 5 (fun l => 40 :: 40 :: 40 :: 41 :: 40 :: 40 :: 41 :: 41 :: 41 :: l) = true := by kernel_rfl
theorem evCt_c58 (es : List (AV × AV × Nat)) (c : Nat) : allR (okC es c) 8 2 6 (fun l => 40 :: 40 :: 40 :: 41 :: 40 :: 40 :: 41 :: 40 :: 41 :: 41 :: l) = true := by kernel_rfl
theorem evCt_c63 (es : List (AV × AV × Nat)) (c : Nat) : allR (okC es c) 9 5 7 (fun l => 40 :: 40 :: 40 :: 41 :: 40 :: 40 :: 40 :: 41 :: 40 :: l) = true := by kernel_rfl
theorem evCt_c69 (es : List (AV × AV × Nat)) (c : Nat) : allR (okC es c) 8 4 7 (fun l => 40 :: 40 :: 40 :: 40 :: 41 :: 41 :: 41 :: 40 :: 40 :: 40 :: l) = true := by kernel_rfl
theorem evCt_c73 (es : List (AV × AV × Nat)) (c : Nat) : allR (okC es c) 8 2 6 (fun l => 40 :: 40 :: 40 :: 40 :: 41 :: 41 :: 40 :: 40 :: 41 :: 41 :: l) = true := by kernel_rfl
theorem evCt_c77 (es : List (AV × AV × Nat)) (c : Nat) : allR (okC es c) 8 2 6 (fun l => 40 :: 40 :: 40 :: 40 :: 41 :: 40 :: 41 :: 41 :: 40 :: 41 :: l) = true := by kernel_rfl
theorem evCt_c81 (es : List (AV × AV × Nat)) (c : Nat) : allR (okC es c) 9 5 7 (fun l => 40 :: 40 :: 40 :: 40 :: 41 :: 40 :: 41 :: 40 :: 40 :: l) = true := by kernel_rfl
theorem evCt_c85 (es : List (AV × AV × Nat)) (c : Nat) : allR (okC es c) 9 5 7 (fun l => 40 :: 40 :: 40 :: 40 :: 41 :: 40 :: 40 :: 40 :: 41 :: l) = true := by kernel_rfl
theorem evCt_c90 (es : List (AV × AV × Nat)) (c : Nat) : allR (okC es c) 8 2 6 (fun l => 40 :: 40 :: 40 :: 40 :: 40 :: 41 :: 41 :: 40 :: 41 :: 41 :: l) = true := by kernel_rfl
theorem evCt_c94 (es : List (AV × AV × Nat)) (c : Nat) : allR (okC es c) 8 4 7 (fun l => 40 :: 40 :: 40 :: 40 :: 40 :: 41 :: 40 :: 41 :: 41 :: 40 :: l) = true := by kernel_rfl
theorem evCt_c98 (es : List (AV × AV × Nat)) (c : Nat) : allR (okC es c) 8 2 6 (fun l => 40 :: 40 :: 40 :: 40 :: 40 :: 40 :: 41 :: 41 :: 41 :: 41 :: l) = true := by kernel_rfl
theorem evCt_c103 (es : List (AV × AV × Nat)) (c : Nat) : allR (okC es c) 9 5 7 (fun l => 40 :: 40 :: 40 :: 40 :: 40 :: 40 :: 40 :: 41 :: 41 :: l) = true := by kernel_rfl
end
end Go.AI.V
