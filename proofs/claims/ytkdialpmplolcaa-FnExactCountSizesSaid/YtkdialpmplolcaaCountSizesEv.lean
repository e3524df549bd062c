/- The parts of the evaluation together. -/
import Derived.Test.YtkdialpmplolcaaCountSizesEv0
import Derived.Test.YtkdialpmplolcaaCountSizesEv1
import Derived.Test.YtkdialpmplolcaaCountSizesEv2
import Derived.Test.YtkdialpmplolcaaCountSizesEv3
import Derived.Test.YtkdialpmplolcaaCountSizesEv4
import Derived.Test.YtkdialpmplolcaaCountSizesEv5
namespace Go.AI.T
open Go Go.RowKit Go.AI
set_option linter.unusedVariables false
set_option linter.unusedSimpArgs false
set_option maxRecDepth 100000
noncomputable section
theorem evCountSizes_join (t : List Nat → Bool) (f d m : Nat) (p : List Nat → List Nat) (hm : m + 1 ≤ 9) (h1 : allR t f d m (fun l => p (41 :: l)) = true) (h2 : allR t f (d + 2) (m + 1) (fun l => p (40 :: l)) = true) : allR t (f + 1) (d + 1) m p = true := by
  show bc (allR t f d m (fun l => p (41 :: l))) (bc (Nat.ble (m + 1) 9) (allR t f (d + 2) (m + 1) (fun l => p (40 :: l))) true) false = true
  rw [h1, h2, Nat.ble_eq_true_of_le hm]; rfl
theorem evCountSizes_join9 (t : List Nat → Bool) (f d : Nat) (p : List Nat → List Nat) (h1 : allR t f d 9 (fun l => p (41 :: l)) = true) : allR t (f + 1) (d + 1) 9 p = true := by
  show bc (allR t f d 9 (fun l => p (41 :: l))) (bc (Nat.ble (9 + 1) 9) (allR t f (d + 2) (9 + 1) (fun l => p (40 :: l))) true) false = true
  rw [h1]; rfl
theorem evCountSizes_n1 : allR ok_CountSizes 11 3 5 (fun l => 40 :: 40 :: 41 :: 40 :: 41 :: 40 :: 40 :: l) = true := evCountSizes_join ok_CountSizes 10 2 5 (fun l => 40 :: 40 :: 41 :: 40 :: 41 :: 40 :: 40 :: l) (by decide) evCountSizes_c4 evCountSizes_c5
theorem evCountSizes_n2 : allR ok_CountSizes 12 2 4 (fun l => 40 :: 40 :: 41 :: 40 :: 41 :: 40 :: l) = true := evCountSizes_join ok_CountSizes 11 1 4 (fun l => 40 :: 40 :: 41 :: 40 :: 41 :: 40 :: l) (by decide) evCountSizes_c3 evCountSizes_n1
theorem evCountSizes_n3 : allR ok_CountSizes 13 1 3 (fun l => 40 :: 40 :: 41 :: 40 :: 41 :: l) = true := evCountSizes_join ok_CountSizes 12 0 3 (fun l => 40 :: 40 :: 41 :: 40 :: 41 :: l) (by decide) evCountSizes_c2 evCountSizes_n2
theorem evCountSizes_n4 : allR ok_CountSizes 11 3 5 (fun l => 40 :: 40 :: 41 :: 40 :: 40 :: 41 :: 40 :: l) = true := evCountSizes_join ok_CountSizes 10 2 5 (fun l => 40 :: 40 :: 41 :: 40 :: 40 :: 41 :: 40 :: l) (by decide) evCountSizes_c7 evCountSizes_c8
theorem evCountSizes_n5 : allR ok_CountSizes 12 2 4 (fun l => 40 :: 40 :: 41 :: 40 :: 40 :: 41 :: l) = true := evCountSizes_join ok_CountSizes 11 1 4 (fun l => 40 :: 40 :: 41 :: 40 :: 40 :: 41 :: l) (by decide) evCountSizes_c6 evCountSizes_n4
theorem evCountSizes_n6 : allR ok_CountSizes 11 3 5 (fun l => 40 :: 40 :: 41 :: 40 :: 40 :: 40 :: 41 :: l) = true := evCountSizes_join ok_CountSizes 10 2 5 (fun l => 40 :: 40 :: 41 :: 40 :: 40 :: 40 :: 41 :: l) (by decide) evCountSizes_c9 evCountSizes_c10
theorem evCountSizes_n7 : allR ok_CountSizes 12 4 5 (fun l => 40 :: 40 :: 41 :: 40 :: 40 :: 40 :: l) = true := evCountSizes_join ok_CountSizes 11 3 5 (fun l => 40 :: 40 :: 41 :: 40 :: 40 :: 40 :: l) (by decide) evCountSizes_n6 evCountSizes_c11
theorem evCountSizes_n8 : allR ok_CountSizes 13 3 4 (fun l => 40 :: 40 :: 41 :: 40 :: 40 :: l) = true := evCountSizes_join ok_CountSizes 12 2 4 (fun l => 40 :: 40 :: 41 :: 40 :: 40 :: l) (by decide) evCountSizes_n5 evCountSizes_n7
theorem evCountSizes_n9 : allR ok_CountSizes 14 2 3 (fun l => 40 :: 40 :: 41 :: 40 :: l) = true := evCountSizes_join ok_CountSizes 13 1 3 (fun l => 40 :: 40 :: 41 :: 40 :: l) (by decide) evCountSizes_n3 evCountSizes_n8
theorem evCountSizes_n10 : allR ok_CountSizes 15 1 2 (fun l => 40 :: 40 :: 41 :: l) = true := evCountSizes_join ok_CountSizes 14 0 2 (fun l => 40 :: 40 :: 41 :: l) (by decide) evCountSizes_c1 evCountSizes_n9
theorem evCountSizes_n11 : allR ok_CountSizes 11 3 5 (fun l => 40 :: 40 :: 40 :: 41 :: 41 :: 40 :: 40 :: l) = true := evCountSizes_join ok_CountSizes 10 2 5 (fun l => 40 :: 40 :: 40 :: 41 :: 41 :: 40 :: 40 :: l) (by decide) evCountSizes_c14 evCountSizes_c15
theorem evCountSizes_n12 : allR ok_CountSizes 12 2 4 (fun l => 40 :: 40 :: 40 :: 41 :: 41 :: 40 :: l) = true := evCountSizes_join ok_CountSizes 11 1 4 (fun l => 40 :: 40 :: 40 :: 41 :: 41 :: 40 :: l) (by decide) evCountSizes_c13 evCountSizes_n11
theorem evCountSizes_n13 : allR ok_CountSizes 13 1 3 (fun l => 40 :: 40 :: 40 :: 41 :: 41 :: l) = true := evCountSizes_join ok_CountSizes 12 0 3 (fun l => 40 :: 40 :: 40 :: 41 :: 41 :: l) (by decide) evCountSizes_c12 evCountSizes_n12
theorem evCountSizes_n14 : allR ok_CountSizes 11 3 5 (fun l => 40 :: 40 :: 40 :: 41 :: 40 :: 41 :: 40 :: l) = true := evCountSizes_join ok_CountSizes 10 2 5 (fun l => 40 :: 40 :: 40 :: 41 :: 40 :: 41 :: 40 :: l) (by decide) evCountSizes_c17 evCountSizes_c18
theorem evCountSizes_n15 : allR ok_CountSizes 12 2 4 (fun l => 40 :: 40 :: 40 :: 41 :: 40 :: 41 :: l) = true := evCountSizes_join ok_CountSizes 11 1 4 (fun l => 40 :: 40 :: 40 :: 41 :: 40 :: 41 :: l) (by decide) evCountSizes_c16 evCountSizes_n14
theorem evCountSizes_n16 : allR ok_CountSizes 11 3 5 (fun l => 40 :: 40 :: 40 :: 41 :: 40 :: 40 :: 41 :: l) = true := evCountSizes_join ok_CountSizes 10 2 5 (fun l => 40 :: 40 :: 40 :: 41 :: 40 :: 40 :: 41 :: l) (by decide) evCountSizes_c19 evCountSizes_c20
theorem evCountSizes_n17 : allR ok_CountSizes 12 4 5 (fun l => 40 :: 40 :: 40 :: 41 :: 40 :: 40 :: l) = true := evCountSizes_join ok_CountSizes 11 3 5 (fun l => 40 :: 40 :: 40 :: 41 :: 40 :: 40 :: l) (by decide) evCountSizes_n16 evCountSizes_c21
theorem evCountSizes_n18 : allR ok_CountSizes 13 3 4 (fun l => 40 :: 40 :: 40 :: 41 :: 40 :: l) = true := evCountSizes_join ok_CountSizes 12 2 4 (fun l => 40 :: 40 :: 40 :: 41 :: 40 :: l) (by decide) evCountSizes_n15 evCountSizes_n17
theorem evCountSizes_n19 : allR ok_CountSizes 14 2 3 (fun l => 40 :: 40 :: 40 :: 41 :: l) = true := evCountSizes_join ok_CountSizes 13 1 3 (fun l => 40 :: 40 :: 40 :: 41 :: l) (by decide) evCountSizes_n13 evCountSizes_n18
theorem evCountSizes_n20 : allR ok_CountSizes 11 3 5 (fun l => 40 :: 40 :: 40 :: 40 :: 41 :: 41 :: 40 :: l) = true := evCountSizes_join ok_CountSizes 10 2 5 (fun l => 40 :: 40 :: 40 :: 40 :: 41 :: 41 :: 40 :: l) (by decide) evCountSizes_c23 evCountSizes_c24
theorem evCountSizes_n21 : allR ok_CountSizes 12 2 4 (fun l => 40 :: 40 :: 40 :: 40 :: 41 :: 41 :: l) = true := evCountSizes_join ok_CountSizes 11 1 4 (fun l => 40 :: 40 :: 40 :: 40 :: 41 :: 41 :: l) (by decide) evCountSizes_c22 evCountSizes_n20
theorem evCountSizes_n22 : allR ok_CountSizes 11 3 5 (fun l => 40 :: 40 :: 40 :: 40 :: 41 :: 40 :: 41 :: l) = true := evCountSizes_join ok_CountSizes 10 2 5 (fun l => 40 :: 40 :: 40 :: 40 :: 41 :: 40 :: 41 :: l) (by decide) evCountSizes_c25 evCountSizes_c26
theorem evCountSizes_n23 : allR ok_CountSizes 12 4 5 (fun l => 40 :: 40 :: 40 :: 40 :: 41 :: 40 :: l) = true := evCountSizes_join ok_CountSizes 11 3 5 (fun l => 40 :: 40 :: 40 :: 40 :: 41 :: 40 :: l) (by decide) evCountSizes_n22 evCountSizes_c27
theorem evCountSizes_n24 : allR ok_CountSizes 13 3 4 (fun l => 40 :: 40 :: 40 :: 40 :: 41 :: l) = true := evCountSizes_join ok_CountSizes 12 2 4 (fun l => 40 :: 40 :: 40 :: 40 :: 41 :: l) (by decide) evCountSizes_n21 evCountSizes_n23
theorem evCountSizes_n25 : allR ok_CountSizes 11 3 5 (fun l => 40 :: 40 :: 40 :: 40 :: 40 :: 41 :: 41 :: l) = true := evCountSizes_join ok_CountSizes 10 2 5 (fun l => 40 :: 40 :: 40 :: 40 :: 40 :: 41 :: 41 :: l) (by decide) evCountSizes_c28 evCountSizes_c29
theorem evCountSizes_n26 : allR ok_CountSizes 12 4 5 (fun l => 40 :: 40 :: 40 :: 40 :: 40 :: 41 :: l) = true := evCountSizes_join ok_CountSizes 11 3 5 (fun l => 40 :: 40 :: 40 :: 40 :: 40 :: 41 :: l) (by decide) evCountSizes_n25 evCountSizes_c30
theorem evCountSizes_n27 : allR ok_CountSizes 12 6 6 (fun l => 40 :: 40 :: 40 :: 40 :: 40 :: 40 :: l) = true := evCountSizes_join ok_CountSizes 11 5 6 (fun l => 40 :: 40 :: 40 :: 40 :: 40 :: 40 :: l) (by decide) evCountSizes_c31 evCountSizes_c32
theorem evCountSizes_n28 : allR ok_CountSizes 13 5 5 (fun l => 40 :: 40 :: 40 :: 40 :: 40 :: l) = true := evCountSizes_join ok_CountSizes 12 4 5 (fun l => 40 :: 40 :: 40 :: 40 :: 40 :: l) (by decide) evCountSizes_n26 evCountSizes_n27
theorem evCountSizes_n29 : allR ok_CountSizes 14 4 4 (fun l => 40 :: 40 :: 40 :: 40 :: l) = true := evCountSizes_join ok_CountSizes 13 3 4 (fun l => 40 :: 40 :: 40 :: 40 :: l) (by decide) evCountSizes_n24 evCountSizes_n28
theorem evCountSizes_n30 : allR ok_CountSizes 15 3 3 (fun l => 40 :: 40 :: 40 :: l) = true := evCountSizes_join ok_CountSizes 14 2 3 (fun l => 40 :: 40 :: 40 :: l) (by decide) evCountSizes_n19 evCountSizes_n29
theorem evCountSizes_n31 : allR ok_CountSizes 16 2 2 (fun l => 40 :: 40 :: l) = true := evCountSizes_join ok_CountSizes 15 1 2 (fun l => 40 :: 40 :: l) (by decide) evCountSizes_n10 evCountSizes_n30
theorem evCountSizes_n32 : allR ok_CountSizes 17 1 1 (fun l => 40 :: l) = true := evCountSizes_join ok_CountSizes 16 0 1 (fun l => 40 :: l) (by decide) evCountSizes_c0 evCountSizes_n31
theorem evCountSizes_all : allR ok_CountSizes 17 1 1 (fun l => 40 :: l) = true := evCountSizes_n32
end
end Go.AI.T
