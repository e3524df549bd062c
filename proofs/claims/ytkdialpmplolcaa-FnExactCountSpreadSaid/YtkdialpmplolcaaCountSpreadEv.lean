/- The parts of the evaluation together. -/
import Derived.Test.YtkdialpmplolcaaCountSpreadEv0
import Derived.Test.YtkdialpmplolcaaCountSpreadEv1
import Derived.Test.YtkdialpmplolcaaCountSpreadEv2
import Derived.Test.YtkdialpmplolcaaCountSpreadEv3
import Derived.Test.YtkdialpmplolcaaCountSpreadEv4
import Derived.Test.YtkdialpmplolcaaCountSpreadEv5
namespace Go.AI.T
open Go Go.RowKit Go.AI
set_option linter.unusedVariables false
set_option linter.unusedSimpArgs false
set_option maxRecDepth 100000
noncomputable section
theorem evCountSpread_join (t : List Nat → Bool) (f d m : Nat) (p : List Nat → List Nat) (hm : m + 1 ≤ 9) (h1 : allR t f d m (fun l => p (41 :: l)) = true) (h2 : allR t f (d + 2) (m + 1) (fun l => p (40 :: l)) = true) : allR t (f + 1) (d + 1) m p = true := by
  show bc (allR t f d m (fun l => p (41 :: l))) (bc (Nat.ble (m + 1) 9) (allR t f (d + 2) (m + 1) (fun l => p (40 :: l))) true) false = true
  rw [h1, h2, Nat.ble_eq_true_of_le hm]; rfl
theorem evCountSpread_join9 (t : List Nat → Bool) (f d : Nat) (p : List Nat → List Nat) (h1 : allR t f d 9 (fun l => p (41 :: l)) = true) : allR t (f + 1) (d + 1) 9 p = true := by
  show bc (allR t f d 9 (fun l => p (41 :: l))) (bc (Nat.ble (9 + 1) 9) (allR t f (d + 2) (9 + 1) (fun l => p (40 :: l))) true) false = true
  rw [h1]; rfl
theorem evCountSpread_n1 : allR ok_CountSpread 11 3 5 (fun l => 40 :: 40 :: 41 :: 40 :: 41 :: 40 :: 40 :: l) = true := evCountSpread_join ok_CountSpread 10 2 5 (fun l => 40 :: 40 :: 41 :: 40 :: 41 :: 40 :: 40 :: l) (by decide) evCountSpread_c4 evCountSpread_c5
theorem evCountSpread_n2 : allR ok_CountSpread 12 2 4 (fun l => 40 :: 40 :: 41 :: 40 :: 41 :: 40 :: l) = true := evCountSpread_join ok_CountSpread 11 1 4 (fun l => 40 :: 40 :: 41 :: 40 :: 41 :: 40 :: l) (by decide) evCountSpread_c3 evCountSpread_n1
theorem evCountSpread_n3 : allR ok_CountSpread 13 1 3 (fun l => 40 :: 40 :: 41 :: 40 :: 41 :: l) = true := evCountSpread_join ok_CountSpread 12 0 3 (fun l => 40 :: 40 :: 41 :: 40 :: 41 :: l) (by decide) evCountSpread_c2 evCountSpread_n2
theorem evCountSpread_n4 : allR ok_CountSpread 11 3 5 (fun l => 40 :: 40 :: 41 :: 40 :: 40 :: 41 :: 40 :: l) = true := evCountSpread_join ok_CountSpread 10 2 5 (fun l => 40 :: 40 :: 41 :: 40 :: 40 :: 41 :: 40 :: l) (by decide) evCountSpread_c7 evCountSpread_c8
theorem evCountSpread_n5 : allR ok_CountSpread 12 2 4 (fun l => 40 :: 40 :: 41 :: 40 :: 40 :: 41 :: l) = true := evCountSpread_join ok_CountSpread 11 1 4 (fun l => 40 :: 40 :: 41 :: 40 :: 40 :: 41 :: l) (by decide) evCountSpread_c6 evCountSpread_n4
theorem evCountSpread_n6 : allR ok_CountSpread 11 3 5 (fun l => 40 :: 40 :: 41 :: 40 :: 40 :: 40 :: 41 :: l) = true := evCountSpread_join ok_CountSpread 10 2 5 (fun l => 40 :: 40 :: 41 :: 40 :: 40 :: 40 :: 41 :: l) (by decide) evCountSpread_c9 evCountSpread_c10
theorem evCountSpread_n7 : allR ok_CountSpread 12 4 5 (fun l => 40 :: 40 :: 41 :: 40 :: 40 :: 40 :: l) = true := evCountSpread_join ok_CountSpread 11 3 5 (fun l => 40 :: 40 :: 41 :: 40 :: 40 :: 40 :: l) (by decide) evCountSpread_n6 evCountSpread_c11
theorem evCountSpread_n8 : allR ok_CountSpread 13 3 4 (fun l => 40 :: 40 :: 41 :: 40 :: 40 :: l) = true := evCountSpread_join ok_CountSpread 12 2 4 (fun l => 40 :: 40 :: 41 :: 40 :: 40 :: l) (by decide) evCountSpread_n5 evCountSpread_n7
theorem evCountSpread_n9 : allR ok_CountSpread 14 2 3 (fun l => 40 :: 40 :: 41 :: 40 :: l) = true := evCountSpread_join ok_CountSpread 13 1 3 (fun l => 40 :: 40 :: 41 :: 40 :: l) (by decide) evCountSpread_n3 evCountSpread_n8
theorem evCountSpread_n10 : allR ok_CountSpread 15 1 2 (fun l => 40 :: 40 :: 41 :: l) = true := evCountSpread_join ok_CountSpread 14 0 2 (fun l => 40 :: 40 :: 41 :: l) (by decide) evCountSpread_c1 evCountSpread_n9
theorem evCountSpread_n11 : allR ok_CountSpread 11 3 5 (fun l => 40 :: 40 :: 40 :: 41 :: 41 :: 40 :: 40 :: l) = true := evCountSpread_join ok_CountSpread 10 2 5 (fun l => 40 :: 40 :: 40 :: 41 :: 41 :: 40 :: 40 :: l) (by decide) evCountSpread_c14 evCountSpread_c15
theorem evCountSpread_n12 : allR ok_CountSpread 12 2 4 (fun l => 40 :: 40 :: 40 :: 41 :: 41 :: 40 :: l) = true := evCountSpread_join ok_CountSpread 11 1 4 (fun l => 40 :: 40 :: 40 :: 41 :: 41 :: 40 :: l) (by decide) evCountSpread_c13 evCountSpread_n11
theorem evCountSpread_n13 : allR ok_CountSpread 13 1 3 (fun l => 40 :: 40 :: 40 :: 41 :: 41 :: l) = true := evCountSpread_join ok_CountSpread 12 0 3 (fun l => 40 :: 40 :: 40 :: 41 :: 41 :: l) (by decide) evCountSpread_c12 evCountSpread_n12
theorem evCountSpread_n14 : allR ok_CountSpread 11 3 5 (fun l => 40 :: 40 :: 40 :: 41 :: 40 :: 41 :: 40 :: l) = true := evCountSpread_join ok_CountSpread 10 2 5 (fun l => 40 :: 40 :: 40 :: 41 :: 40 :: 41 :: 40 :: l) (by decide) evCountSpread_c17 evCountSpread_c18
theorem evCountSpread_n15 : allR ok_CountSpread 12 2 4 (fun l => 40 :: 40 :: 40 :: 41 :: 40 :: 41 :: l) = true := evCountSpread_join ok_CountSpread 11 1 4 (fun l => 40 :: 40 :: 40 :: 41 :: 40 :: 41 :: l) (by decide) evCountSpread_c16 evCountSpread_n14
theorem evCountSpread_n16 : allR ok_CountSpread 11 3 5 (fun l => 40 :: 40 :: 40 :: 41 :: 40 :: 40 :: 41 :: l) = true := evCountSpread_join ok_CountSpread 10 2 5 (fun l => 40 :: 40 :: 40 :: 41 :: 40 :: 40 :: 41 :: l) (by decide) evCountSpread_c19 evCountSpread_c20
theorem evCountSpread_n17 : allR ok_CountSpread 12 4 5 (fun l => 40 :: 40 :: 40 :: 41 :: 40 :: 40 :: l) = true := evCountSpread_join ok_CountSpread 11 3 5 (fun l => 40 :: 40 :: 40 :: 41 :: 40 :: 40 :: l) (by decide) evCountSpread_n16 evCountSpread_c21
theorem evCountSpread_n18 : allR ok_CountSpread 13 3 4 (fun l => 40 :: 40 :: 40 :: 41 :: 40 :: l) = true := evCountSpread_join ok_CountSpread 12 2 4 (fun l => 40 :: 40 :: 40 :: 41 :: 40 :: l) (by decide) evCountSpread_n15 evCountSpread_n17
theorem evCountSpread_n19 : allR ok_CountSpread 14 2 3 (fun l => 40 :: 40 :: 40 :: 41 :: l) = true := evCountSpread_join ok_CountSpread 13 1 3 (fun l => 40 :: 40 :: 40 :: 41 :: l) (by decide) evCountSpread_n13 evCountSpread_n18
theorem evCountSpread_n20 : allR ok_CountSpread 11 3 5 (fun l => 40 :: 40 :: 40 :: 40 :: 41 :: 41 :: 40 :: l) = true := evCountSpread_join ok_CountSpread 10 2 5 (fun l => 40 :: 40 :: 40 :: 40 :: 41 :: 41 :: 40 :: l) (by decide) evCountSpread_c23 evCountSpread_c24
theorem evCountSpread_n21 : allR ok_CountSpread 12 2 4 (fun l => 40 :: 40 :: 40 :: 40 :: 41 :: 41 :: l) = true := evCountSpread_join ok_CountSpread 11 1 4 (fun l => 40 :: 40 :: 40 :: 40 :: 41 :: 41 :: l) (by decide) evCountSpread_c22 evCountSpread_n20
theorem evCountSpread_n22 : allR ok_CountSpread 11 3 5 (fun l => 40 :: 40 :: 40 :: 40 :: 41 :: 40 :: 41 :: l) = true := evCountSpread_join ok_CountSpread 10 2 5 (fun l => 40 :: 40 :: 40 :: 40 :: 41 :: 40 :: 41 :: l) (by decide) evCountSpread_c25 evCountSpread_c26
theorem evCountSpread_n23 : allR ok_CountSpread 12 4 5 (fun l => 40 :: 40 :: 40 :: 40 :: 41 :: 40 :: l) = true := evCountSpread_join ok_CountSpread 11 3 5 (fun l => 40 :: 40 :: 40 :: 40 :: 41 :: 40 :: l) (by decide) evCountSpread_n22 evCountSpread_c27
theorem evCountSpread_n24 : allR ok_CountSpread 13 3 4 (fun l => 40 :: 40 :: 40 :: 40 :: 41 :: l) = true := evCountSpread_join ok_CountSpread 12 2 4 (fun l => 40 :: 40 :: 40 :: 40 :: 41 :: l) (by decide) evCountSpread_n21 evCountSpread_n23
theorem evCountSpread_n25 : allR ok_CountSpread 11 3 5 (fun l => 40 :: 40 :: 40 :: 40 :: 40 :: 41 :: 41 :: l) = true := evCountSpread_join ok_CountSpread 10 2 5 (fun l => 40 :: 40 :: 40 :: 40 :: 40 :: 41 :: 41 :: l) (by decide) evCountSpread_c28 evCountSpread_c29
theorem evCountSpread_n26 : allR ok_CountSpread 12 4 5 (fun l => 40 :: 40 :: 40 :: 40 :: 40 :: 41 :: l) = true := evCountSpread_join ok_CountSpread 11 3 5 (fun l => 40 :: 40 :: 40 :: 40 :: 40 :: 41 :: l) (by decide) evCountSpread_n25 evCountSpread_c30
theorem evCountSpread_n27 : allR ok_CountSpread 12 6 6 (fun l => 40 :: 40 :: 40 :: 40 :: 40 :: 40 :: l) = true := evCountSpread_join ok_CountSpread 11 5 6 (fun l => 40 :: 40 :: 40 :: 40 :: 40 :: 40 :: l) (by decide) evCountSpread_c31 evCountSpread_c32
theorem evCountSpread_n28 : allR ok_CountSpread 13 5 5 (fun l => 40 :: 40 :: 40 :: 40 :: 40 :: l) = true := evCountSpread_join ok_CountSpread 12 4 5 (fun l => 40 :: 40 :: 40 :: 40 :: 40 :: l) (by decide) evCountSpread_n26 evCountSpread_n27
theorem evCountSpread_n29 : allR ok_CountSpread 14 4 4 (fun l => 40 :: 40 :: 40 :: 40 :: l) = true := evCountSpread_join ok_CountSpread 13 3 4 (fun l => 40 :: 40 :: 40 :: 40 :: l) (by decide) evCountSpread_n24 evCountSpread_n28
theorem evCountSpread_n30 : allR ok_CountSpread 15 3 3 (fun l => 40 :: 40 :: 40 :: l) = true := evCountSpread_join ok_CountSpread 14 2 3 (fun l => 40 :: 40 :: 40 :: l) (by decide) evCountSpread_n19 evCountSpread_n29
theorem evCountSpread_n31 : allR ok_CountSpread 16 2 2 (fun l => 40 :: 40 :: l) = true := evCountSpread_join ok_CountSpread 15 1 2 (fun l => 40 :: 40 :: l) (by decide) evCountSpread_n10 evCountSpread_n30
theorem evCountSpread_n32 : allR ok_CountSpread 17 1 1 (fun l => 40 :: l) = true := evCountSpread_join ok_CountSpread 16 0 1 (fun l => 40 :: l) (by decide) evCountSpread_c0 evCountSpread_n31
theorem evCountSpread_all : allR ok_CountSpread 17 1 1 (fun l => 40 :: l) = true := evCountSpread_n32
end
end Go.AI.T
