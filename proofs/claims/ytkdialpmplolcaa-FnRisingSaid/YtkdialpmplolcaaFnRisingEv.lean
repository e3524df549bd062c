/- The parts of the evaluation together. -/
import Derived.Test.YtkdialpmplolcaaFnRisingEv0
import Derived.Test.YtkdialpmplolcaaFnRisingEv1
import Derived.Test.YtkdialpmplolcaaFnRisingEv2
import Derived.Test.YtkdialpmplolcaaFnRisingEv3
namespace Go.AI.T
open Go Go.RowKit Go.AI
set_option linter.unusedVariables false
set_option linter.unusedSimpArgs false
set_option maxRecDepth 100000
noncomputable section
theorem evFnRising_join (t : List Nat → Bool) (f d m : Nat) (p : List Nat → List Nat) (hm : m + 1 ≤ 9) (h1 : allR t f d m (fun l => p (41 :: l)) = true) (h2 : allR t f (d + 2) (m + 1) (fun l => p (40 :: l)) = true) : allR t (f + 1) (d + 1) m p = true := by
  show bc (allR t f d m (fun l => p (41 :: l))) (bc (Nat.ble (m + 1) 9) (allR t f (d + 2) (m + 1) (fun l => p (40 :: l))) true) false = true
  rw [h1, h2, Nat.ble_eq_true_of_le hm]; rfl
theorem evFnRising_join9 (t : List Nat → Bool) (f d : Nat) (p : List Nat → List Nat) (h1 : allR t f d 9 (fun l => p (41 :: l)) = true) : allR t (f + 1) (d + 1) 9 p = true := by
  show bc (allR t f d 9 (fun l => p (41 :: l))) (bc (Nat.ble (9 + 1) 9) (allR t f (d + 2) (9 + 1) (fun l => p (40 :: l))) true) false = true
  rw [h1]; rfl
theorem evFnRising_n1 (B : Blk) : allR (ok_FnRising B) 11 3 5 (fun l => 40 :: 40 :: 41 :: 40 :: 41 :: 40 :: 40 :: l) = true := evFnRising_join (ok_FnRising B) 10 2 5 (fun l => 40 :: 40 :: 41 :: 40 :: 41 :: 40 :: 40 :: l) (by decide) (evFnRising_c4 B) (evFnRising_c5 B)
theorem evFnRising_n2 (B : Blk) : allR (ok_FnRising B) 12 2 4 (fun l => 40 :: 40 :: 41 :: 40 :: 41 :: 40 :: l) = true := evFnRising_join (ok_FnRising B) 11 1 4 (fun l => 40 :: 40 :: 41 :: 40 :: 41 :: 40 :: l) (by decide) (evFnRising_c3 B) (evFnRising_n1 B)
theorem evFnRising_n3 (B : Blk) : allR (ok_FnRising B) 13 1 3 (fun l => 40 :: 40 :: 41 :: 40 :: 41 :: l) = true := evFnRising_join (ok_FnRising B) 12 0 3 (fun l => 40 :: 40 :: 41 :: 40 :: 41 :: l) (by decide) (evFnRising_c2 B) (evFnRising_n2 B)
theorem evFnRising_n4 (B : Blk) : allR (ok_FnRising B) 11 3 5 (fun l => 40 :: 40 :: 41 :: 40 :: 40 :: 41 :: 40 :: l) = true := evFnRising_join (ok_FnRising B) 10 2 5 (fun l => 40 :: 40 :: 41 :: 40 :: 40 :: 41 :: 40 :: l) (by decide) (evFnRising_c7 B) (evFnRising_c8 B)
theorem evFnRising_n5 (B : Blk) : allR (ok_FnRising B) 12 2 4 (fun l => 40 :: 40 :: 41 :: 40 :: 40 :: 41 :: l) = true := evFnRising_join (ok_FnRising B) 11 1 4 (fun l => 40 :: 40 :: 41 :: 40 :: 40 :: 41 :: l) (by decide) (evFnRising_c6 B) (evFnRising_n4 B)
theorem evFnRising_n6 (B : Blk) : allR (ok_FnRising B) 11 3 5 (fun l => 40 :: 40 :: 41 :: 40 :: 40 :: 40 :: 41 :: l) = true := evFnRising_join (ok_FnRising B) 10 2 5 (fun l => 40 :: 40 :: 41 :: 40 :: 40 :: 40 :: 41 :: l) (by decide) (evFnRising_c9 B) (evFnRising_c10 B)
theorem evFnRising_n7 (B : Blk) : allR (ok_FnRising B) 12 4 5 (fun l => 40 :: 40 :: 41 :: 40 :: 40 :: 40 :: l) = true := evFnRising_join (ok_FnRising B) 11 3 5 (fun l => 40 :: 40 :: 41 :: 40 :: 40 :: 40 :: l) (by decide) (evFnRising_n6 B) (evFnRising_c11 B)
theorem evFnRising_n8 (B : Blk) : allR (ok_FnRising B) 13 3 4 (fun l => 40 :: 40 :: 41 :: 40 :: 40 :: l) = true := evFnRising_join (ok_FnRising B) 12 2 4 (fun l => 40 :: 40 :: 41 :: 40 :: 40 :: l) (by decide) (evFnRising_n5 B) (evFnRising_n7 B)
theorem evFnRising_n9 (B : Blk) : allR (ok_FnRising B) 14 2 3 (fun l => 40 :: 40 :: 41 :: 40 :: l) = true := evFnRising_join (ok_FnRising B) 13 1 3 (fun l => 40 :: 40 :: 41 :: 40 :: l) (by decide) (evFnRising_n3 B) (evFnRising_n8 B)
theorem evFnRising_n10 (B : Blk) : allR (ok_FnRising B) 15 1 2 (fun l => 40 :: 40 :: 41 :: l) = true := evFnRising_join (ok_FnRising B) 14 0 2 (fun l => 40 :: 40 :: 41 :: l) (by decide) (evFnRising_c1 B) (evFnRising_n9 B)
theorem evFnRising_n11 (B : Blk) : allR (ok_FnRising B) 11 3 5 (fun l => 40 :: 40 :: 40 :: 41 :: 41 :: 40 :: 40 :: l) = true := evFnRising_join (ok_FnRising B) 10 2 5 (fun l => 40 :: 40 :: 40 :: 41 :: 41 :: 40 :: 40 :: l) (by decide) (evFnRising_c14 B) (evFnRising_c15 B)
theorem evFnRising_n12 (B : Blk) : allR (ok_FnRising B) 12 2 4 (fun l => 40 :: 40 :: 40 :: 41 :: 41 :: 40 :: l) = true := evFnRising_join (ok_FnRising B) 11 1 4 (fun l => 40 :: 40 :: 40 :: 41 :: 41 :: 40 :: l) (by decide) (evFnRising_c13 B) (evFnRising_n11 B)
theorem evFnRising_n13 (B : Blk) : allR (ok_FnRising B) 13 1 3 (fun l => 40 :: 40 :: 40 :: 41 :: 41 :: l) = true := evFnRising_join (ok_FnRising B) 12 0 3 (fun l => 40 :: 40 :: 40 :: 41 :: 41 :: l) (by decide) (evFnRising_c12 B) (evFnRising_n12 B)
theorem evFnRising_n14 (B : Blk) : allR (ok_FnRising B) 11 3 5 (fun l => 40 :: 40 :: 40 :: 41 :: 40 :: 41 :: 40 :: l) = true := evFnRising_join (ok_FnRising B) 10 2 5 (fun l => 40 :: 40 :: 40 :: 41 :: 40 :: 41 :: 40 :: l) (by decide) (evFnRising_c17 B) (evFnRising_c18 B)
theorem evFnRising_n15 (B : Blk) : allR (ok_FnRising B) 12 2 4 (fun l => 40 :: 40 :: 40 :: 41 :: 40 :: 41 :: l) = true := evFnRising_join (ok_FnRising B) 11 1 4 (fun l => 40 :: 40 :: 40 :: 41 :: 40 :: 41 :: l) (by decide) (evFnRising_c16 B) (evFnRising_n14 B)
theorem evFnRising_n16 (B : Blk) : allR (ok_FnRising B) 11 3 5 (fun l => 40 :: 40 :: 40 :: 41 :: 40 :: 40 :: 41 :: l) = true := evFnRising_join (ok_FnRising B) 10 2 5 (fun l => 40 :: 40 :: 40 :: 41 :: 40 :: 40 :: 41 :: l) (by decide) (evFnRising_c19 B) (evFnRising_c20 B)
theorem evFnRising_n17 (B : Blk) : allR (ok_FnRising B) 12 4 5 (fun l => 40 :: 40 :: 40 :: 41 :: 40 :: 40 :: l) = true := evFnRising_join (ok_FnRising B) 11 3 5 (fun l => 40 :: 40 :: 40 :: 41 :: 40 :: 40 :: l) (by decide) (evFnRising_n16 B) (evFnRising_c21 B)
theorem evFnRising_n18 (B : Blk) : allR (ok_FnRising B) 13 3 4 (fun l => 40 :: 40 :: 40 :: 41 :: 40 :: l) = true := evFnRising_join (ok_FnRising B) 12 2 4 (fun l => 40 :: 40 :: 40 :: 41 :: 40 :: l) (by decide) (evFnRising_n15 B) (evFnRising_n17 B)
theorem evFnRising_n19 (B : Blk) : allR (ok_FnRising B) 14 2 3 (fun l => 40 :: 40 :: 40 :: 41 :: l) = true := evFnRising_join (ok_FnRising B) 13 1 3 (fun l => 40 :: 40 :: 40 :: 41 :: l) (by decide) (evFnRising_n13 B) (evFnRising_n18 B)
theorem evFnRising_n20 (B : Blk) : allR (ok_FnRising B) 11 3 5 (fun l => 40 :: 40 :: 40 :: 40 :: 41 :: 41 :: 40 :: l) = true := evFnRising_join (ok_FnRising B) 10 2 5 (fun l => 40 :: 40 :: 40 :: 40 :: 41 :: 41 :: 40 :: l) (by decide) (evFnRising_c23 B) (evFnRising_c24 B)
theorem evFnRising_n21 (B : Blk) : allR (ok_FnRising B) 12 2 4 (fun l => 40 :: 40 :: 40 :: 40 :: 41 :: 41 :: l) = true := evFnRising_join (ok_FnRising B) 11 1 4 (fun l => 40 :: 40 :: 40 :: 40 :: 41 :: 41 :: l) (by decide) (evFnRising_c22 B) (evFnRising_n20 B)
theorem evFnRising_n22 (B : Blk) : allR (ok_FnRising B) 11 3 5 (fun l => 40 :: 40 :: 40 :: 40 :: 41 :: 40 :: 41 :: l) = true := evFnRising_join (ok_FnRising B) 10 2 5 (fun l => 40 :: 40 :: 40 :: 40 :: 41 :: 40 :: 41 :: l) (by decide) (evFnRising_c25 B) (evFnRising_c26 B)
theorem evFnRising_n23 (B : Blk) : allR (ok_FnRising B) 12 4 5 (fun l => 40 :: 40 :: 40 :: 40 :: 41 :: 40 :: l) = true := evFnRising_join (ok_FnRising B) 11 3 5 (fun l => 40 :: 40 :: 40 :: 40 :: 41 :: 40 :: l) (by decide) (evFnRising_n22 B) (evFnRising_c27 B)
theorem evFnRising_n24 (B : Blk) : allR (ok_FnRising B) 13 3 4 (fun l => 40 :: 40 :: 40 :: 40 :: 41 :: l) = true := evFnRising_join (ok_FnRising B) 12 2 4 (fun l => 40 :: 40 :: 40 :: 40 :: 41 :: l) (by decide) (evFnRising_n21 B) (evFnRising_n23 B)
theorem evFnRising_n25 (B : Blk) : allR (ok_FnRising B) 11 3 5 (fun l => 40 :: 40 :: 40 :: 40 :: 40 :: 41 :: 41 :: l) = true := evFnRising_join (ok_FnRising B) 10 2 5 (fun l => 40 :: 40 :: 40 :: 40 :: 40 :: 41 :: 41 :: l) (by decide) (evFnRising_c28 B) (evFnRising_c29 B)
theorem evFnRising_n26 (B : Blk) : allR (ok_FnRising B) 12 4 5 (fun l => 40 :: 40 :: 40 :: 40 :: 40 :: 41 :: l) = true := evFnRising_join (ok_FnRising B) 11 3 5 (fun l => 40 :: 40 :: 40 :: 40 :: 40 :: 41 :: l) (by decide) (evFnRising_n25 B) (evFnRising_c30 B)
theorem evFnRising_n27 (B : Blk) : allR (ok_FnRising B) 12 6 6 (fun l => 40 :: 40 :: 40 :: 40 :: 40 :: 40 :: l) = true := evFnRising_join (ok_FnRising B) 11 5 6 (fun l => 40 :: 40 :: 40 :: 40 :: 40 :: 40 :: l) (by decide) (evFnRising_c31 B) (evFnRising_c32 B)
theorem evFnRising_n28 (B : Blk) : allR (ok_FnRising B) 13 5 5 (fun l => 40 :: 40 :: 40 :: 40 :: 40 :: l) = true := evFnRising_join (ok_FnRising B) 12 4 5 (fun l => 40 :: 40 :: 40 :: 40 :: 40 :: l) (by decide) (evFnRising_n26 B) (evFnRising_n27 B)
theorem evFnRising_n29 (B : Blk) : allR (ok_FnRising B) 14 4 4 (fun l => 40 :: 40 :: 40 :: 40 :: l) = true := evFnRising_join (ok_FnRising B) 13 3 4 (fun l => 40 :: 40 :: 40 :: 40 :: l) (by decide) (evFnRising_n24 B) (evFnRising_n28 B)
theorem evFnRising_n30 (B : Blk) : allR (ok_FnRising B) 15 3 3 (fun l => 40 :: 40 :: 40 :: l) = true := evFnRising_join (ok_FnRising B) 14 2 3 (fun l => 40 :: 40 :: 40 :: l) (by decide) (evFnRising_n19 B) (evFnRising_n29 B)
theorem evFnRising_n31 (B : Blk) : allR (ok_FnRising B) 16 2 2 (fun l => 40 :: 40 :: l) = true := evFnRising_join (ok_FnRising B) 15 1 2 (fun l => 40 :: 40 :: l) (by decide) (evFnRising_n10 B) (evFnRising_n30 B)
theorem evFnRising_n32 (B : Blk) : allR (ok_FnRising B) 17 1 1 (fun l => 40 :: l) = true := evFnRising_join (ok_FnRising B) 16 0 1 (fun l => 40 :: l) (by decide) (evFnRising_c0 B) (evFnRising_n31 B)
theorem evFnRising_all (B : Blk) : allR (ok_FnRising B) 17 1 1 (fun l => 40 :: l) = true := (evFnRising_n32 B)
end
end Go.AI.T
