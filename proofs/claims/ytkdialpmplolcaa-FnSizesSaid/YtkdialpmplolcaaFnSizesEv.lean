/- The parts of the evaluation together. -/
import Derived.Test.YtkdialpmplolcaaFnSizesEv0
import Derived.Test.YtkdialpmplolcaaFnSizesEv1
import Derived.Test.YtkdialpmplolcaaFnSizesEv2
import Derived.Test.YtkdialpmplolcaaFnSizesEv3
namespace Go.AI.T
open Go Go.RowKit Go.AI
set_option linter.unusedVariables false
set_option linter.unusedSimpArgs false
set_option maxRecDepth 100000
noncomputable section
theorem evFnSizes_join (t : List Nat → Bool) (f d m : Nat) (p : List Nat → List Nat) (hm : m + 1 ≤ 9) (h1 : allR t f d m (fun l => p (41 :: l)) = true) (h2 : allR t f (d + 2) (m + 1) (fun l => p (40 :: l)) = true) : allR t (f + 1) (d + 1) m p = true := by
  show bc (allR t f d m (fun l => p (41 :: l))) (bc (Nat.ble (m + 1) 9) (allR t f (d + 2) (m + 1) (fun l => p (40 :: l))) true) false = true
  rw [h1, h2, Nat.ble_eq_true_of_le hm]; rfl
theorem evFnSizes_join9 (t : List Nat → Bool) (f d : Nat) (p : List Nat → List Nat) (h1 : allR t f d 9 (fun l => p (41 :: l)) = true) : allR t (f + 1) (d + 1) 9 p = true := by
  show bc (allR t f d 9 (fun l => p (41 :: l))) (bc (Nat.ble (9 + 1) 9) (allR t f (d + 2) (9 + 1) (fun l => p (40 :: l))) true) false = true
  rw [h1]; rfl
theorem evFnSizes_n1 (B : Blk) : allR (ok_FnSizes B) 11 3 5 (fun l => 40 :: 40 :: 41 :: 40 :: 41 :: 40 :: 40 :: l) = true := evFnSizes_join (ok_FnSizes B) 10 2 5 (fun l => 40 :: 40 :: 41 :: 40 :: 41 :: 40 :: 40 :: l) (by decide) (evFnSizes_c4 B) (evFnSizes_c5 B)
theorem evFnSizes_n2 (B : Blk) : allR (ok_FnSizes B) 12 2 4 (fun l => 40 :: 40 :: 41 :: 40 :: 41 :: 40 :: l) = true := evFnSizes_join (ok_FnSizes B) 11 1 4 (fun l => 40 :: 40 :: 41 :: 40 :: 41 :: 40 :: l) (by decide) (evFnSizes_c3 B) (evFnSizes_n1 B)
theorem evFnSizes_n3 (B : Blk) : allR (ok_FnSizes B) 13 1 3 (fun l => 40 :: 40 :: 41 :: 40 :: 41 :: l) = true := evFnSizes_join (ok_FnSizes B) 12 0 3 (fun l => 40 :: 40 :: 41 :: 40 :: 41 :: l) (by decide) (evFnSizes_c2 B) (evFnSizes_n2 B)
theorem evFnSizes_n4 (B : Blk) : allR (ok_FnSizes B) 11 3 5 (fun l => 40 :: 40 :: 41 :: 40 :: 40 :: 41 :: 40 :: l) = true := evFnSizes_join (ok_FnSizes B) 10 2 5 (fun l => 40 :: 40 :: 41 :: 40 :: 40 :: 41 :: 40 :: l) (by decide) (evFnSizes_c7 B) (evFnSizes_c8 B)
theorem evFnSizes_n5 (B : Blk) : allR (ok_FnSizes B) 12 2 4 (fun l => 40 :: 40 :: 41 :: 40 :: 40 :: 41 :: l) = true := evFnSizes_join (ok_FnSizes B) 11 1 4 (fun l => 40 :: 40 :: 41 :: 40 :: 40 :: 41 :: l) (by decide) (evFnSizes_c6 B) (evFnSizes_n4 B)
theorem evFnSizes_n6 (B : Blk) : allR (ok_FnSizes B) 11 3 5 (fun l => 40 :: 40 :: 41 :: 40 :: 40 :: 40 :: 41 :: l) = true := evFnSizes_join (ok_FnSizes B) 10 2 5 (fun l => 40 :: 40 :: 41 :: 40 :: 40 :: 40 :: 41 :: l) (by decide) (evFnSizes_c9 B) (evFnSizes_c10 B)
theorem evFnSizes_n7 (B : Blk) : allR (ok_FnSizes B) 12 4 5 (fun l => 40 :: 40 :: 41 :: 40 :: 40 :: 40 :: l) = true := evFnSizes_join (ok_FnSizes B) 11 3 5 (fun l => 40 :: 40 :: 41 :: 40 :: 40 :: 40 :: l) (by decide) (evFnSizes_n6 B) (evFnSizes_c11 B)
theorem evFnSizes_n8 (B : Blk) : allR (ok_FnSizes B) 13 3 4 (fun l => 40 :: 40 :: 41 :: 40 :: 40 :: l) = true := evFnSizes_join (ok_FnSizes B) 12 2 4 (fun l => 40 :: 40 :: 41 :: 40 :: 40 :: l) (by decide) (evFnSizes_n5 B) (evFnSizes_n7 B)
theorem evFnSizes_n9 (B : Blk) : allR (ok_FnSizes B) 14 2 3 (fun l => 40 :: 40 :: 41 :: 40 :: l) = true := evFnSizes_join (ok_FnSizes B) 13 1 3 (fun l => 40 :: 40 :: 41 :: 40 :: l) (by decide) (evFnSizes_n3 B) (evFnSizes_n8 B)
theorem evFnSizes_n10 (B : Blk) : allR (ok_FnSizes B) 15 1 2 (fun l => 40 :: 40 :: 41 :: l) = true := evFnSizes_join (ok_FnSizes B) 14 0 2 (fun l => 40 :: 40 :: 41 :: l) (by decide) (evFnSizes_c1 B) (evFnSizes_n9 B)
theorem evFnSizes_n11 (B : Blk) : allR (ok_FnSizes B) 11 3 5 (fun l => 40 :: 40 :: 40 :: 41 :: 41 :: 40 :: 40 :: l) = true := evFnSizes_join (ok_FnSizes B) 10 2 5 (fun l => 40 :: 40 :: 40 :: 41 :: 41 :: 40 :: 40 :: l) (by decide) (evFnSizes_c14 B) (evFnSizes_c15 B)
theorem evFnSizes_n12 (B : Blk) : allR (ok_FnSizes B) 12 2 4 (fun l => 40 :: 40 :: 40 :: 41 :: 41 :: 40 :: l) = true := evFnSizes_join (ok_FnSizes B) 11 1 4 (fun l => 40 :: 40 :: 40 :: 41 :: 41 :: 40 :: l) (by decide) (evFnSizes_c13 B) (evFnSizes_n11 B)
theorem evFnSizes_n13 (B : Blk) : allR (ok_FnSizes B) 13 1 3 (fun l => 40 :: 40 :: 40 :: 41 :: 41 :: l) = true := evFnSizes_join (ok_FnSizes B) 12 0 3 (fun l => 40 :: 40 :: 40 :: 41 :: 41 :: l) (by decide) (evFnSizes_c12 B) (evFnSizes_n12 B)
theorem evFnSizes_n14 (B : Blk) : allR (ok_FnSizes B) 11 3 5 (fun l => 40 :: 40 :: 40 :: 41 :: 40 :: 41 :: 40 :: l) = true := evFnSizes_join (ok_FnSizes B) 10 2 5 (fun l => 40 :: 40 :: 40 :: 41 :: 40 :: 41 :: 40 :: l) (by decide) (evFnSizes_c17 B) (evFnSizes_c18 B)
theorem evFnSizes_n15 (B : Blk) : allR (ok_FnSizes B) 12 2 4 (fun l => 40 :: 40 :: 40 :: 41 :: 40 :: 41 :: l) = true := evFnSizes_join (ok_FnSizes B) 11 1 4 (fun l => 40 :: 40 :: 40 :: 41 :: 40 :: 41 :: l) (by decide) (evFnSizes_c16 B) (evFnSizes_n14 B)
theorem evFnSizes_n16 (B : Blk) : allR (ok_FnSizes B) 11 3 5 (fun l => 40 :: 40 :: 40 :: 41 :: 40 :: 40 :: 41 :: l) = true := evFnSizes_join (ok_FnSizes B) 10 2 5 (fun l => 40 :: 40 :: 40 :: 41 :: 40 :: 40 :: 41 :: l) (by decide) (evFnSizes_c19 B) (evFnSizes_c20 B)
theorem evFnSizes_n17 (B : Blk) : allR (ok_FnSizes B) 12 4 5 (fun l => 40 :: 40 :: 40 :: 41 :: 40 :: 40 :: l) = true := evFnSizes_join (ok_FnSizes B) 11 3 5 (fun l => 40 :: 40 :: 40 :: 41 :: 40 :: 40 :: l) (by decide) (evFnSizes_n16 B) (evFnSizes_c21 B)
theorem evFnSizes_n18 (B : Blk) : allR (ok_FnSizes B) 13 3 4 (fun l => 40 :: 40 :: 40 :: 41 :: 40 :: l) = true := evFnSizes_join (ok_FnSizes B) 12 2 4 (fun l => 40 :: 40 :: 40 :: 41 :: 40 :: l) (by decide) (evFnSizes_n15 B) (evFnSizes_n17 B)
theorem evFnSizes_n19 (B : Blk) : allR (ok_FnSizes B) 14 2 3 (fun l => 40 :: 40 :: 40 :: 41 :: l) = true := evFnSizes_join (ok_FnSizes B) 13 1 3 (fun l => 40 :: 40 :: 40 :: 41 :: l) (by decide) (evFnSizes_n13 B) (evFnSizes_n18 B)
theorem evFnSizes_n20 (B : Blk) : allR (ok_FnSizes B) 11 3 5 (fun l => 40 :: 40 :: 40 :: 40 :: 41 :: 41 :: 40 :: l) = true := evFnSizes_join (ok_FnSizes B) 10 2 5 (fun l => 40 :: 40 :: 40 :: 40 :: 41 :: 41 :: 40 :: l) (by decide) (evFnSizes_c23 B) (evFnSizes_c24 B)
theorem evFnSizes_n21 (B : Blk) : allR (ok_FnSizes B) 12 2 4 (fun l => 40 :: 40 :: 40 :: 40 :: 41 :: 41 :: l) = true := evFnSizes_join (ok_FnSizes B) 11 1 4 (fun l => 40 :: 40 :: 40 :: 40 :: 41 :: 41 :: l) (by decide) (evFnSizes_c22 B) (evFnSizes_n20 B)
theorem evFnSizes_n22 (B : Blk) : allR (ok_FnSizes B) 11 3 5 (fun l => 40 :: 40 :: 40 :: 40 :: 41 :: 40 :: 41 :: l) = true := evFnSizes_join (ok_FnSizes B) 10 2 5 (fun l => 40 :: 40 :: 40 :: 40 :: 41 :: 40 :: 41 :: l) (by decide) (evFnSizes_c25 B) (evFnSizes_c26 B)
theorem evFnSizes_n23 (B : Blk) : allR (ok_FnSizes B) 12 4 5 (fun l => 40 :: 40 :: 40 :: 40 :: 41 :: 40 :: l) = true := evFnSizes_join (ok_FnSizes B) 11 3 5 (fun l => 40 :: 40 :: 40 :: 40 :: 41 :: 40 :: l) (by decide) (evFnSizes_n22 B) (evFnSizes_c27 B)
theorem evFnSizes_n24 (B : Blk) : allR (ok_FnSizes B) 13 3 4 (fun l => 40 :: 40 :: 40 :: 40 :: 41 :: l) = true := evFnSizes_join (ok_FnSizes B) 12 2 4 (fun l => 40 :: 40 :: 40 :: 40 :: 41 :: l) (by decide) (evFnSizes_n21 B) (evFnSizes_n23 B)
theorem evFnSizes_n25 (B : Blk) : allR (ok_FnSizes B) 11 3 5 (fun l => 40 :: 40 :: 40 :: 40 :: 40 :: 41 :: 41 :: l) = true := evFnSizes_join (ok_FnSizes B) 10 2 5 (fun l => 40 :: 40 :: 40 :: 40 :: 40 :: 41 :: 41 :: l) (by decide) (evFnSizes_c28 B) (evFnSizes_c29 B)
theorem evFnSizes_n26 (B : Blk) : allR (ok_FnSizes B) 12 4 5 (fun l => 40 :: 40 :: 40 :: 40 :: 40 :: 41 :: l) = true := evFnSizes_join (ok_FnSizes B) 11 3 5 (fun l => 40 :: 40 :: 40 :: 40 :: 40 :: 41 :: l) (by decide) (evFnSizes_n25 B) (evFnSizes_c30 B)
theorem evFnSizes_n27 (B : Blk) : allR (ok_FnSizes B) 12 6 6 (fun l => 40 :: 40 :: 40 :: 40 :: 40 :: 40 :: l) = true := evFnSizes_join (ok_FnSizes B) 11 5 6 (fun l => 40 :: 40 :: 40 :: 40 :: 40 :: 40 :: l) (by decide) (evFnSizes_c31 B) (evFnSizes_c32 B)
theorem evFnSizes_n28 (B : Blk) : allR (ok_FnSizes B) 13 5 5 (fun l => 40 :: 40 :: 40 :: 40 :: 40 :: l) = true := evFnSizes_join (ok_FnSizes B) 12 4 5 (fun l => 40 :: 40 :: 40 :: 40 :: 40 :: l) (by decide) (evFnSizes_n26 B) (evFnSizes_n27 B)
theorem evFnSizes_n29 (B : Blk) : allR (ok_FnSizes B) 14 4 4 (fun l => 40 :: 40 :: 40 :: 40 :: l) = true := evFnSizes_join (ok_FnSizes B) 13 3 4 (fun l => 40 :: 40 :: 40 :: 40 :: l) (by decide) (evFnSizes_n24 B) (evFnSizes_n28 B)
theorem evFnSizes_n30 (B : Blk) : allR (ok_FnSizes B) 15 3 3 (fun l => 40 :: 40 :: 40 :: l) = true := evFnSizes_join (ok_FnSizes B) 14 2 3 (fun l => 40 :: 40 :: 40 :: l) (by decide) (evFnSizes_n19 B) (evFnSizes_n29 B)
theorem evFnSizes_n31 (B : Blk) : allR (ok_FnSizes B) 16 2 2 (fun l => 40 :: 40 :: l) = true := evFnSizes_join (ok_FnSizes B) 15 1 2 (fun l => 40 :: 40 :: l) (by decide) (evFnSizes_n10 B) (evFnSizes_n30 B)
theorem evFnSizes_n32 (B : Blk) : allR (ok_FnSizes B) 17 1 1 (fun l => 40 :: l) = true := evFnSizes_join (ok_FnSizes B) 16 0 1 (fun l => 40 :: l) (by decide) (evFnSizes_c0 B) (evFnSizes_n31 B)
theorem evFnSizes_all (B : Blk) : allR (ok_FnSizes B) 17 1 1 (fun l => 40 :: l) = true := (evFnSizes_n32 B)
end
end Go.AI.T
