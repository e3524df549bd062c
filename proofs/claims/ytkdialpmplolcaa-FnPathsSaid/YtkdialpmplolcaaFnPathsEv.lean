/- The parts of the evaluation together. -/
import Derived.Test.YtkdialpmplolcaaFnPathsEv0
import Derived.Test.YtkdialpmplolcaaFnPathsEv1
import Derived.Test.YtkdialpmplolcaaFnPathsEv2
import Derived.Test.YtkdialpmplolcaaFnPathsEv3
namespace Go.AI.T
open Go Go.RowKit Go.AI
set_option linter.unusedVariables false
set_option linter.unusedSimpArgs false
set_option maxRecDepth 100000
noncomputable section
theorem evFnPaths_join (t : List Nat → Bool) (f d m : Nat) (p : List Nat → List Nat) (hm : m + 1 ≤ 9) (h1 : allR t f d m (fun l => p (41 :: l)) = true) (h2 : allR t f (d + 2) (m + 1) (fun l => p (40 :: l)) = true) : allR t (f + 1) (d + 1) m p = true := by
  show bc (allR t f d m (fun l => p (41 :: l))) (bc (Nat.ble (m + 1) 9) (allR t f (d + 2) (m + 1) (fun l => p (40 :: l))) true) false = true
  rw [h1, h2, Nat.ble_eq_true_of_le hm]; rfl
theorem evFnPaths_join9 (t : List Nat → Bool) (f d : Nat) (p : List Nat → List Nat) (h1 : allR t f d 9 (fun l => p (41 :: l)) = true) : allR t (f + 1) (d + 1) 9 p = true := by
  show bc (allR t f d 9 (fun l => p (41 :: l))) (bc (Nat.ble (9 + 1) 9) (allR t f (d + 2) (9 + 1) (fun l => p (40 :: l))) true) false = true
  rw [h1]; rfl
theorem evFnPaths_n1 (B : Blk) : allR (ok_FnPaths B) 11 3 5 (fun l => 40 :: 40 :: 41 :: 40 :: 41 :: 40 :: 40 :: l) = true := evFnPaths_join (ok_FnPaths B) 10 2 5 (fun l => 40 :: 40 :: 41 :: 40 :: 41 :: 40 :: 40 :: l) (by decide) (evFnPaths_c4 B) (evFnPaths_c5 B)
theorem evFnPaths_n2 (B : Blk) : allR (ok_FnPaths B) 12 2 4 (fun l => 40 :: 40 :: 41 :: 40 :: 41 :: 40 :: l) = true := evFnPaths_join (ok_FnPaths B) 11 1 4 (fun l => 40 :: 40 :: 41 :: 40 :: 41 :: 40 :: l) (by decide) (evFnPaths_c3 B) (evFnPaths_n1 B)
theorem evFnPaths_n3 (B : Blk) : allR (ok_FnPaths B) 13 1 3 (fun l => 40 :: 40 :: 41 :: 40 :: 41 :: l) = true := evFnPaths_join (ok_FnPaths B) 12 0 3 (fun l => 40 :: 40 :: 41 :: 40 :: 41 :: l) (by decide) (evFnPaths_c2 B) (evFnPaths_n2 B)
theorem evFnPaths_n4 (B : Blk) : allR (ok_FnPaths B) 11 3 5 (fun l => 40 :: 40 :: 41 :: 40 :: 40 :: 41 :: 40 :: l) = true := evFnPaths_join (ok_FnPaths B) 10 2 5 (fun l => 40 :: 40 :: 41 :: 40 :: 40 :: 41 :: 40 :: l) (by decide) (evFnPaths_c7 B) (evFnPaths_c8 B)
theorem evFnPaths_n5 (B : Blk) : allR (ok_FnPaths B) 12 2 4 (fun l => 40 :: 40 :: 41 :: 40 :: 40 :: 41 :: l) = true := evFnPaths_join (ok_FnPaths B) 11 1 4 (fun l => 40 :: 40 :: 41 :: 40 :: 40 :: 41 :: l) (by decide) (evFnPaths_c6 B) (evFnPaths_n4 B)
theorem evFnPaths_n6 (B : Blk) : allR (ok_FnPaths B) 11 3 5 (fun l => 40 :: 40 :: 41 :: 40 :: 40 :: 40 :: 41 :: l) = true := evFnPaths_join (ok_FnPaths B) 10 2 5 (fun l => 40 :: 40 :: 41 :: 40 :: 40 :: 40 :: 41 :: l) (by decide) (evFnPaths_c9 B) (evFnPaths_c10 B)
theorem evFnPaths_n7 (B : Blk) : allR (ok_FnPaths B) 12 4 5 (fun l => 40 :: 40 :: 41 :: 40 :: 40 :: 40 :: l) = true := evFnPaths_join (ok_FnPaths B) 11 3 5 (fun l => 40 :: 40 :: 41 :: 40 :: 40 :: 40 :: l) (by decide) (evFnPaths_n6 B) (evFnPaths_c11 B)
theorem evFnPaths_n8 (B : Blk) : allR (ok_FnPaths B) 13 3 4 (fun l => 40 :: 40 :: 41 :: 40 :: 40 :: l) = true := evFnPaths_join (ok_FnPaths B) 12 2 4 (fun l => 40 :: 40 :: 41 :: 40 :: 40 :: l) (by decide) (evFnPaths_n5 B) (evFnPaths_n7 B)
theorem evFnPaths_n9 (B : Blk) : allR (ok_FnPaths B) 14 2 3 (fun l => 40 :: 40 :: 41 :: 40 :: l) = true := evFnPaths_join (ok_FnPaths B) 13 1 3 (fun l => 40 :: 40 :: 41 :: 40 :: l) (by decide) (evFnPaths_n3 B) (evFnPaths_n8 B)
theorem evFnPaths_n10 (B : Blk) : allR (ok_FnPaths B) 15 1 2 (fun l => 40 :: 40 :: 41 :: l) = true := evFnPaths_join (ok_FnPaths B) 14 0 2 (fun l => 40 :: 40 :: 41 :: l) (by decide) (evFnPaths_c1 B) (evFnPaths_n9 B)
theorem evFnPaths_n11 (B : Blk) : allR (ok_FnPaths B) 11 3 5 (fun l => 40 :: 40 :: 40 :: 41 :: 41 :: 40 :: 40 :: l) = true := evFnPaths_join (ok_FnPaths B) 10 2 5 (fun l => 40 :: 40 :: 40 :: 41 :: 41 :: 40 :: 40 :: l) (by decide) (evFnPaths_c14 B) (evFnPaths_c15 B)
theorem evFnPaths_n12 (B : Blk) : allR (ok_FnPaths B) 12 2 4 (fun l => 40 :: 40 :: 40 :: 41 :: 41 :: 40 :: l) = true := evFnPaths_join (ok_FnPaths B) 11 1 4 (fun l => 40 :: 40 :: 40 :: 41 :: 41 :: 40 :: l) (by decide) (evFnPaths_c13 B) (evFnPaths_n11 B)
theorem evFnPaths_n13 (B : Blk) : allR (ok_FnPaths B) 13 1 3 (fun l => 40 :: 40 :: 40 :: 41 :: 41 :: l) = true := evFnPaths_join (ok_FnPaths B) 12 0 3 (fun l => 40 :: 40 :: 40 :: 41 :: 41 :: l) (by decide) (evFnPaths_c12 B) (evFnPaths_n12 B)
theorem evFnPaths_n14 (B : Blk) : allR (ok_FnPaths B) 11 3 5 (fun l => 40 :: 40 :: 40 :: 41 :: 40 :: 41 :: 40 :: l) = true := evFnPaths_join (ok_FnPaths B) 10 2 5 (fun l => 40 :: 40 :: 40 :: 41 :: 40 :: 41 :: 40 :: l) (by decide) (evFnPaths_c17 B) (evFnPaths_c18 B)
theorem evFnPaths_n15 (B : Blk) : allR (ok_FnPaths B) 12 2 4 (fun l => 40 :: 40 :: 40 :: 41 :: 40 :: 41 :: l) = true := evFnPaths_join (ok_FnPaths B) 11 1 4 (fun l => 40 :: 40 :: 40 :: 41 :: 40 :: 41 :: l) (by decide) (evFnPaths_c16 B) (evFnPaths_n14 B)
theorem evFnPaths_n16 (B : Blk) : allR (ok_FnPaths B) 11 3 5 (fun l => 40 :: 40 :: 40 :: 41 :: 40 :: 40 :: 41 :: l) = true := evFnPaths_join (ok_FnPaths B) 10 2 5 (fun l => 40 :: 40 :: 40 :: 41 :: 40 :: 40 :: 41 :: l) (by decide) (evFnPaths_c19 B) (evFnPaths_c20 B)
theorem evFnPaths_n17 (B : Blk) : allR (ok_FnPaths B) 12 4 5 (fun l => 40 :: 40 :: 40 :: 41 :: 40 :: 40 :: l) = true := evFnPaths_join (ok_FnPaths B) 11 3 5 (fun l => 40 :: 40 :: 40 :: 41 :: 40 :: 40 :: l) (by decide) (evFnPaths_n16 B) (evFnPaths_c21 B)
theorem evFnPaths_n18 (B : Blk) : allR (ok_FnPaths B) 13 3 4 (fun l => 40 :: 40 :: 40 :: 41 :: 40 :: l) = true := evFnPaths_join (ok_FnPaths B) 12 2 4 (fun l => 40 :: 40 :: 40 :: 41 :: 40 :: l) (by decide) (evFnPaths_n15 B) (evFnPaths_n17 B)
theorem evFnPaths_n19 (B : Blk) : allR (ok_FnPaths B) 14 2 3 (fun l => 40 :: 40 :: 40 :: 41 :: l) = true := evFnPaths_join (ok_FnPaths B) 13 1 3 (fun l => 40 :: 40 :: 40 :: 41 :: l) (by decide) (evFnPaths_n13 B) (evFnPaths_n18 B)
theorem evFnPaths_n20 (B : Blk) : allR (ok_FnPaths B) 11 3 5 (fun l => 40 :: 40 :: 40 :: 40 :: 41 :: 41 :: 40 :: l) = true := evFnPaths_join (ok_FnPaths B) 10 2 5 (fun l => 40 :: 40 :: 40 :: 40 :: 41 :: 41 :: 40 :: l) (by decide) (evFnPaths_c23 B) (evFnPaths_c24 B)
theorem evFnPaths_n21 (B : Blk) : allR (ok_FnPaths B) 12 2 4 (fun l => 40 :: 40 :: 40 :: 40 :: 41 :: 41 :: l) = true := evFnPaths_join (ok_FnPaths B) 11 1 4 (fun l => 40 :: 40 :: 40 :: 40 :: 41 :: 41 :: l) (by decide) (evFnPaths_c22 B) (evFnPaths_n20 B)
theorem evFnPaths_n22 (B : Blk) : allR (ok_FnPaths B) 11 3 5 (fun l => 40 :: 40 :: 40 :: 40 :: 41 :: 40 :: 41 :: l) = true := evFnPaths_join (ok_FnPaths B) 10 2 5 (fun l => 40 :: 40 :: 40 :: 40 :: 41 :: 40 :: 41 :: l) (by decide) (evFnPaths_c25 B) (evFnPaths_c26 B)
theorem evFnPaths_n23 (B : Blk) : allR (ok_FnPaths B) 12 4 5 (fun l => 40 :: 40 :: 40 :: 40 :: 41 :: 40 :: l) = true := evFnPaths_join (ok_FnPaths B) 11 3 5 (fun l => 40 :: 40 :: 40 :: 40 :: 41 :: 40 :: l) (by decide) (evFnPaths_n22 B) (evFnPaths_c27 B)
theorem evFnPaths_n24 (B : Blk) : allR (ok_FnPaths B) 13 3 4 (fun l => 40 :: 40 :: 40 :: 40 :: 41 :: l) = true := evFnPaths_join (ok_FnPaths B) 12 2 4 (fun l => 40 :: 40 :: 40 :: 40 :: 41 :: l) (by decide) (evFnPaths_n21 B) (evFnPaths_n23 B)
theorem evFnPaths_n25 (B : Blk) : allR (ok_FnPaths B) 11 3 5 (fun l => 40 :: 40 :: 40 :: 40 :: 40 :: 41 :: 41 :: l) = true := evFnPaths_join (ok_FnPaths B) 10 2 5 (fun l => 40 :: 40 :: 40 :: 40 :: 40 :: 41 :: 41 :: l) (by decide) (evFnPaths_c28 B) (evFnPaths_c29 B)
theorem evFnPaths_n26 (B : Blk) : allR (ok_FnPaths B) 12 4 5 (fun l => 40 :: 40 :: 40 :: 40 :: 40 :: 41 :: l) = true := evFnPaths_join (ok_FnPaths B) 11 3 5 (fun l => 40 :: 40 :: 40 :: 40 :: 40 :: 41 :: l) (by decide) (evFnPaths_n25 B) (evFnPaths_c30 B)
theorem evFnPaths_n27 (B : Blk) : allR (ok_FnPaths B) 12 6 6 (fun l => 40 :: 40 :: 40 :: 40 :: 40 :: 40 :: l) = true := evFnPaths_join (ok_FnPaths B) 11 5 6 (fun l => 40 :: 40 :: 40 :: 40 :: 40 :: 40 :: l) (by decide) (evFnPaths_c31 B) (evFnPaths_c32 B)
theorem evFnPaths_n28 (B : Blk) : allR (ok_FnPaths B) 13 5 5 (fun l => 40 :: 40 :: 40 :: 40 :: 40 :: l) = true := evFnPaths_join (ok_FnPaths B) 12 4 5 (fun l => 40 :: 40 :: 40 :: 40 :: 40 :: l) (by decide) (evFnPaths_n26 B) (evFnPaths_n27 B)
theorem evFnPaths_n29 (B : Blk) : allR (ok_FnPaths B) 14 4 4 (fun l => 40 :: 40 :: 40 :: 40 :: l) = true := evFnPaths_join (ok_FnPaths B) 13 3 4 (fun l => 40 :: 40 :: 40 :: 40 :: l) (by decide) (evFnPaths_n24 B) (evFnPaths_n28 B)
theorem evFnPaths_n30 (B : Blk) : allR (ok_FnPaths B) 15 3 3 (fun l => 40 :: 40 :: 40 :: l) = true := evFnPaths_join (ok_FnPaths B) 14 2 3 (fun l => 40 :: 40 :: 40 :: l) (by decide) (evFnPaths_n19 B) (evFnPaths_n29 B)
theorem evFnPaths_n31 (B : Blk) : allR (ok_FnPaths B) 16 2 2 (fun l => 40 :: 40 :: l) = true := evFnPaths_join (ok_FnPaths B) 15 1 2 (fun l => 40 :: 40 :: l) (by decide) (evFnPaths_n10 B) (evFnPaths_n30 B)
theorem evFnPaths_n32 (B : Blk) : allR (ok_FnPaths B) 17 1 1 (fun l => 40 :: l) = true := evFnPaths_join (ok_FnPaths B) 16 0 1 (fun l => 40 :: l) (by decide) (evFnPaths_c0 B) (evFnPaths_n31 B)
theorem evFnPaths_all (B : Blk) : allR (ok_FnPaths B) 17 1 1 (fun l => 40 :: l) = true := (evFnPaths_n32 B)
end
end Go.AI.T
