/- The parts of the evaluation together. -/
import Derived.Test.YtkdialpmplolcaaFnRegistersEv0
import Derived.Test.YtkdialpmplolcaaFnRegistersEv1
import Derived.Test.YtkdialpmplolcaaFnRegistersEv2
import Derived.Test.YtkdialpmplolcaaFnRegistersEv3
namespace Go.AI.T
open Go Go.RowKit Go.AI
set_option linter.unusedVariables false
set_option linter.unusedSimpArgs false
set_option maxRecDepth 100000
noncomputable section
theorem evFnRegisters_join (t : List Nat → Bool) (f d m : Nat) (p : List Nat → List Nat) (hm : m + 1 ≤ 9) (h1 : allR t f d m (fun l => p (41 :: l)) = true) (h2 : allR t f (d + 2) (m + 1) (fun l => p (40 :: l)) = true) : allR t (f + 1) (d + 1) m p = true := by
  show bc (allR t f d m (fun l => p (41 :: l))) (bc (Nat.ble (m + 1) 9) (allR t f (d + 2) (m + 1) (fun l => p (40 :: l))) true) false = true
  rw [h1, h2, Nat.ble_eq_true_of_le hm]; rfl
theorem evFnRegisters_join9 (t : List Nat → Bool) (f d : Nat) (p : List Nat → List Nat) (h1 : allR t f d 9 (fun l => p (41 :: l)) = true) : allR t (f + 1) (d + 1) 9 p = true := by
  show bc (allR t f d 9 (fun l => p (41 :: l))) (bc (Nat.ble (9 + 1) 9) (allR t f (d + 2) (9 + 1) (fun l => p (40 :: l))) true) false = true
  rw [h1]; rfl
theorem evFnRegisters_n1 (B : Blk) : allR (ok_FnRegisters B) 11 3 5 (fun l => 40 :: 40 :: 41 :: 40 :: 41 :: 40 :: 40 :: l) = true := evFnRegisters_join (ok_FnRegisters B) 10 2 5 (fun l => 40 :: 40 :: 41 :: 40 :: 41 :: 40 :: 40 :: l) (by decide) (evFnRegisters_c4 B) (evFnRegisters_c5 B)
theorem evFnRegisters_n2 (B : Blk) : allR (ok_FnRegisters B) 12 2 4 (fun l => 40 :: 40 :: 41 :: 40 :: 41 :: 40 :: l) = true := evFnRegisters_join (ok_FnRegisters B) 11 1 4 (fun l => 40 :: 40 :: 41 :: 40 :: 41 :: 40 :: l) (by decide) (evFnRegisters_c3 B) (evFnRegisters_n1 B)
theorem evFnRegisters_n3 (B : Blk) : allR (ok_FnRegisters B) 13 1 3 (fun l => 40 :: 40 :: 41 :: 40 :: 41 :: l) = true := evFnRegisters_join (ok_FnRegisters B) 12 0 3 (fun l => 40 :: 40 :: 41 :: 40 :: 41 :: l) (by decide) (evFnRegisters_c2 B) (evFnRegisters_n2 B)
theorem evFnRegisters_n4 (B : Blk) : allR (ok_FnRegisters B) 11 3 5 (fun l => 40 :: 40 :: 41 :: 40 :: 40 :: 41 :: 40 :: l) = true := evFnRegisters_join (ok_FnRegisters B) 10 2 5 (fun l => 40 :: 40 :: 41 :: 40 :: 40 :: 41 :: 40 :: l) (by decide) (evFnRegisters_c7 B) (evFnRegisters_c8 B)
theorem evFnRegisters_n5 (B : Blk) : allR (ok_FnRegisters B) 12 2 4 (fun l => 40 :: 40 :: 41 :: 40 :: 40 :: 41 :: l) = true := evFnRegisters_join (ok_FnRegisters B) 11 1 4 (fun l => 40 :: 40 :: 41 :: 40 :: 40 :: 41 :: l) (by decide) (evFnRegisters_c6 B) (evFnRegisters_n4 B)
theorem evFnRegisters_n6 (B : Blk) : allR (ok_FnRegisters B) 11 3 5 (fun l => 40 :: 40 :: 41 :: 40 :: 40 :: 40 :: 41 :: l) = true := evFnRegisters_join (ok_FnRegisters B) 10 2 5 (fun l => 40 :: 40 :: 41 :: 40 :: 40 :: 40 :: 41 :: l) (by decide) (evFnRegisters_c9 B) (evFnRegisters_c10 B)
theorem evFnRegisters_n7 (B : Blk) : allR (ok_FnRegisters B) 12 4 5 (fun l => 40 :: 40 :: 41 :: 40 :: 40 :: 40 :: l) = true := evFnRegisters_join (ok_FnRegisters B) 11 3 5 (fun l => 40 :: 40 :: 41 :: 40 :: 40 :: 40 :: l) (by decide) (evFnRegisters_n6 B) (evFnRegisters_c11 B)
theorem evFnRegisters_n8 (B : Blk) : allR (ok_FnRegisters B) 13 3 4 (fun l => 40 :: 40 :: 41 :: 40 :: 40 :: l) = true := evFnRegisters_join (ok_FnRegisters B) 12 2 4 (fun l => 40 :: 40 :: 41 :: 40 :: 40 :: l) (by decide) (evFnRegisters_n5 B) (evFnRegisters_n7 B)
theorem evFnRegisters_n9 (B : Blk) : allR (ok_FnRegisters B) 14 2 3 (fun l => 40 :: 40 :: 41 :: 40 :: l) = true := evFnRegisters_join (ok_FnRegisters B) 13 1 3 (fun l => 40 :: 40 :: 41 :: 40 :: l) (by decide) (evFnRegisters_n3 B) (evFnRegisters_n8 B)
theorem evFnRegisters_n10 (B : Blk) : allR (ok_FnRegisters B) 15 1 2 (fun l => 40 :: 40 :: 41 :: l) = true := evFnRegisters_join (ok_FnRegisters B) 14 0 2 (fun l => 40 :: 40 :: 41 :: l) (by decide) (evFnRegisters_c1 B) (evFnRegisters_n9 B)
theorem evFnRegisters_n11 (B : Blk) : allR (ok_FnRegisters B) 11 3 5 (fun l => 40 :: 40 :: 40 :: 41 :: 41 :: 40 :: 40 :: l) = true := evFnRegisters_join (ok_FnRegisters B) 10 2 5 (fun l => 40 :: 40 :: 40 :: 41 :: 41 :: 40 :: 40 :: l) (by decide) (evFnRegisters_c14 B) (evFnRegisters_c15 B)
theorem evFnRegisters_n12 (B : Blk) : allR (ok_FnRegisters B) 12 2 4 (fun l => 40 :: 40 :: 40 :: 41 :: 41 :: 40 :: l) = true := evFnRegisters_join (ok_FnRegisters B) 11 1 4 (fun l => 40 :: 40 :: 40 :: 41 :: 41 :: 40 :: l) (by decide) (evFnRegisters_c13 B) (evFnRegisters_n11 B)
theorem evFnRegisters_n13 (B : Blk) : allR (ok_FnRegisters B) 13 1 3 (fun l => 40 :: 40 :: 40 :: 41 :: 41 :: l) = true := evFnRegisters_join (ok_FnRegisters B) 12 0 3 (fun l => 40 :: 40 :: 40 :: 41 :: 41 :: l) (by decide) (evFnRegisters_c12 B) (evFnRegisters_n12 B)
theorem evFnRegisters_n14 (B : Blk) : allR (ok_FnRegisters B) 11 3 5 (fun l => 40 :: 40 :: 40 :: 41 :: 40 :: 41 :: 40 :: l) = true := evFnRegisters_join (ok_FnRegisters B) 10 2 5 (fun l => 40 :: 40 :: 40 :: 41 :: 40 :: 41 :: 40 :: l) (by decide) (evFnRegisters_c17 B) (evFnRegisters_c18 B)
theorem evFnRegisters_n15 (B : Blk) : allR (ok_FnRegisters B) 12 2 4 (fun l => 40 :: 40 :: 40 :: 41 :: 40 :: 41 :: l) = true := evFnRegisters_join (ok_FnRegisters B) 11 1 4 (fun l => 40 :: 40 :: 40 :: 41 :: 40 :: 41 :: l) (by decide) (evFnRegisters_c16 B) (evFnRegisters_n14 B)
theorem evFnRegisters_n16 (B : Blk) : allR (ok_FnRegisters B) 11 3 5 (fun l => 40 :: 40 :: 40 :: 41 :: 40 :: 40 :: 41 :: l) = true := evFnRegisters_join (ok_FnRegisters B) 10 2 5 (fun l => 40 :: 40 :: 40 :: 41 :: 40 :: 40 :: 41 :: l) (by decide) (evFnRegisters_c19 B) (evFnRegisters_c20 B)
theorem evFnRegisters_n17 (B : Blk) : allR (ok_FnRegisters B) 12 4 5 (fun l => 40 :: 40 :: 40 :: 41 :: 40 :: 40 :: l) = true := evFnRegisters_join (ok_FnRegisters B) 11 3 5 (fun l => 40 :: 40 :: 40 :: 41 :: 40 :: 40 :: l) (by decide) (evFnRegisters_n16 B) (evFnRegisters_c21 B)
theorem evFnRegisters_n18 (B : Blk) : allR (ok_FnRegisters B) 13 3 4 (fun l => 40 :: 40 :: 40 :: 41 :: 40 :: l) = true := evFnRegisters_join (ok_FnRegisters B) 12 2 4 (fun l => 40 :: 40 :: 40 :: 41 :: 40 :: l) (by decide) (evFnRegisters_n15 B) (evFnRegisters_n17 B)
theorem evFnRegisters_n19 (B : Blk) : allR (ok_FnRegisters B) 14 2 3 (fun l => 40 :: 40 :: 40 :: 41 :: l) = true := evFnRegisters_join (ok_FnRegisters B) 13 1 3 (fun l => 40 :: 40 :: 40 :: 41 :: l) (by decide) (evFnRegisters_n13 B) (evFnRegisters_n18 B)
theorem evFnRegisters_n20 (B : Blk) : allR (ok_FnRegisters B) 11 3 5 (fun l => 40 :: 40 :: 40 :: 40 :: 41 :: 41 :: 40 :: l) = true := evFnRegisters_join (ok_FnRegisters B) 10 2 5 (fun l => 40 :: 40 :: 40 :: 40 :: 41 :: 41 :: 40 :: l) (by decide) (evFnRegisters_c23 B) (evFnRegisters_c24 B)
theorem evFnRegisters_n21 (B : Blk) : allR (ok_FnRegisters B) 12 2 4 (fun l => 40 :: 40 :: 40 :: 40 :: 41 :: 41 :: l) = true := evFnRegisters_join (ok_FnRegisters B) 11 1 4 (fun l => 40 :: 40 :: 40 :: 40 :: 41 :: 41 :: l) (by decide) (evFnRegisters_c22 B) (evFnRegisters_n20 B)
theorem evFnRegisters_n22 (B : Blk) : allR (ok_FnRegisters B) 11 3 5 (fun l => 40 :: 40 :: 40 :: 40 :: 41 :: 40 :: 41 :: l) = true := evFnRegisters_join (ok_FnRegisters B) 10 2 5 (fun l => 40 :: 40 :: 40 :: 40 :: 41 :: 40 :: 41 :: l) (by decide) (evFnRegisters_c25 B) (evFnRegisters_c26 B)
theorem evFnRegisters_n23 (B : Blk) : allR (ok_FnRegisters B) 12 4 5 (fun l => 40 :: 40 :: 40 :: 40 :: 41 :: 40 :: l) = true := evFnRegisters_join (ok_FnRegisters B) 11 3 5 (fun l => 40 :: 40 :: 40 :: 40 :: 41 :: 40 :: l) (by decide) (evFnRegisters_n22 B) (evFnRegisters_c27 B)
theorem evFnRegisters_n24 (B : Blk) : allR (ok_FnRegisters B) 13 3 4 (fun l => 40 :: 40 :: 40 :: 40 :: 41 :: l) = true := evFnRegisters_join (ok_FnRegisters B) 12 2 4 (fun l => 40 :: 40 :: 40 :: 40 :: 41 :: l) (by decide) (evFnRegisters_n21 B) (evFnRegisters_n23 B)
theorem evFnRegisters_n25 (B : Blk) : allR (ok_FnRegisters B) 11 3 5 (fun l => 40 :: 40 :: 40 :: 40 :: 40 :: 41 :: 41 :: l) = true := evFnRegisters_join (ok_FnRegisters B) 10 2 5 (fun l => 40 :: 40 :: 40 :: 40 :: 40 :: 41 :: 41 :: l) (by decide) (evFnRegisters_c28 B) (evFnRegisters_c29 B)
theorem evFnRegisters_n26 (B : Blk) : allR (ok_FnRegisters B) 12 4 5 (fun l => 40 :: 40 :: 40 :: 40 :: 40 :: 41 :: l) = true := evFnRegisters_join (ok_FnRegisters B) 11 3 5 (fun l => 40 :: 40 :: 40 :: 40 :: 40 :: 41 :: l) (by decide) (evFnRegisters_n25 B) (evFnRegisters_c30 B)
theorem evFnRegisters_n27 (B : Blk) : allR (ok_FnRegisters B) 12 6 6 (fun l => 40 :: 40 :: 40 :: 40 :: 40 :: 40 :: l) = true := evFnRegisters_join (ok_FnRegisters B) 11 5 6 (fun l => 40 :: 40 :: 40 :: 40 :: 40 :: 40 :: l) (by decide) (evFnRegisters_c31 B) (evFnRegisters_c32 B)
theorem evFnRegisters_n28 (B : Blk) : allR (ok_FnRegisters B) 13 5 5 (fun l => 40 :: 40 :: 40 :: 40 :: 40 :: l) = true := evFnRegisters_join (ok_FnRegisters B) 12 4 5 (fun l => 40 :: 40 :: 40 :: 40 :: 40 :: l) (by decide) (evFnRegisters_n26 B) (evFnRegisters_n27 B)
theorem evFnRegisters_n29 (B : Blk) : allR (ok_FnRegisters B) 14 4 4 (fun l => 40 :: 40 :: 40 :: 40 :: l) = true := evFnRegisters_join (ok_FnRegisters B) 13 3 4 (fun l => 40 :: 40 :: 40 :: 40 :: l) (by decide) (evFnRegisters_n24 B) (evFnRegisters_n28 B)
theorem evFnRegisters_n30 (B : Blk) : allR (ok_FnRegisters B) 15 3 3 (fun l => 40 :: 40 :: 40 :: l) = true := evFnRegisters_join (ok_FnRegisters B) 14 2 3 (fun l => 40 :: 40 :: 40 :: l) (by decide) (evFnRegisters_n19 B) (evFnRegisters_n29 B)
theorem evFnRegisters_n31 (B : Blk) : allR (ok_FnRegisters B) 16 2 2 (fun l => 40 :: 40 :: l) = true := evFnRegisters_join (ok_FnRegisters B) 15 1 2 (fun l => 40 :: 40 :: l) (by decide) (evFnRegisters_n10 B) (evFnRegisters_n30 B)
theorem evFnRegisters_n32 (B : Blk) : allR (ok_FnRegisters B) 17 1 1 (fun l => 40 :: l) = true := evFnRegisters_join (ok_FnRegisters B) 16 0 1 (fun l => 40 :: l) (by decide) (evFnRegisters_c0 B) (evFnRegisters_n31 B)
theorem evFnRegisters_all (B : Blk) : allR (ok_FnRegisters B) 17 1 1 (fun l => 40 :: l) = true := (evFnRegisters_n32 B)
end
end Go.AI.T
