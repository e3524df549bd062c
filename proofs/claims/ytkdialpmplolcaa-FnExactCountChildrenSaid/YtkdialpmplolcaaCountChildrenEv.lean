/- The parts of the evaluation together. -/
import Derived.Test.YtkdialpmplolcaaCountChildrenEv0
import Derived.Test.YtkdialpmplolcaaCountChildrenEv1
import Derived.Test.YtkdialpmplolcaaCountChildrenEv2
import Derived.Test.YtkdialpmplolcaaCountChildrenEv3
import Derived.Test.YtkdialpmplolcaaCountChildrenEv4
import Derived.Test.YtkdialpmplolcaaCountChildrenEv5
namespace Go.AI.T
open Go Go.RowKit Go.AI
set_option linter.unusedVariables false
set_option linter.unusedSimpArgs false
set_option maxRecDepth 100000
noncomputable section
theorem evCountChildren_join (t : List Nat → Bool) (f d m : Nat) (p : List Nat → List Nat) (hm : m + 1 ≤ 9) (h1 : allR t f d m (fun l => p (41 :: l)) = true) (h2 : allR t f (d + 2) (m + 1) (fun l => p (40 :: l)) = true) : allR t (f + 1) (d + 1) m p = true := by
  show bc (allR t f d m (fun l => p (41 :: l))) (bc (Nat.ble (m + 1) 9) (allR t f (d + 2) (m + 1) (fun l => p (40 :: l))) true) false = true
  rw [h1, h2, Nat.ble_eq_true_of_le hm]; rfl
theorem evCountChildren_join9 (t : List Nat → Bool) (f d : Nat) (p : List Nat → List Nat) (h1 : allR t f d 9 (fun l => p (41 :: l)) = true) : allR t (f + 1) (d + 1) 9 p = true := by
  show bc (allR t f d 9 (fun l => p (41 :: l))) (bc (Nat.ble (9 + 1) 9) (allR t f (d + 2) (9 + 1) (fun l => p (40 :: l))) true) false = true
  rw [h1]; rfl
theorem evCountChildren_n1 : allR ok_CountChildren 11 3 5 (fun l => 40 :: 40 :: 41 :: 40 :: 41 :: 40 :: 40 :: l) = true := evCountChildren_join ok_CountChildren 10 2 5 (fun l => 40 :: 40 :: 41 :: 40 :: 41 :: 40 :: 40 :: l) (by decide) evCountChildren_c4 evCountChildren_c5
theorem evCountChildren_n2 : allR ok_CountChildren 12 2 4 (fun l => 40 :: 40 :: 41 :: 40 :: 41 :: 40 :: l) = true := evCountChildren_join ok_CountChildren 11 1 4 (fun l => 40 :: 40 :: 41 :: 40 :: 41 :: 40 :: l) (by decide) evCountChildren_c3 evCountChildren_n1
theorem evCountChildren_n3 : allR ok_CountChildren 13 1 3 (fun l => 40 :: 40 :: 41 :: 40 :: 41 :: l) = true := evCountChildren_join ok_CountChildren 12 0 3 (fun l => 40 :: 40 :: 41 :: 40 :: 41 :: l) (by decide) evCountChildren_c2 evCountChildren_n2
theorem evCountChildren_n4 : allR ok_CountChildren 11 3 5 (fun l => 40 :: 40 :: 41 :: 40 :: 40 :: 41 :: 40 :: l) = true := evCountChildren_join ok_CountChildren 10 2 5 (fun l => 40 :: 40 :: 41 :: 40 :: 40 :: 41 :: 40 :: l) (by decide) evCountChildren_c7 evCountChildren_c8
theorem evCountChildren_n5 : allR ok_CountChildren 12 2 4 (fun l => 40 :: 40 :: 41 :: 40 :: 40 :: 41 :: l) = true := evCountChildren_join ok_CountChildren 11 1 4 (fun l => 40 :: 40 :: 41 :: 40 :: 40 :: 41 :: l) (by decide) evCountChildren_c6 evCountChildren_n4
theorem evCountChildren_n6 : allR ok_CountChildren 11 3 5 (fun l => 40 :: 40 :: 41 :: 40 :: 40 :: 40 :: 41 :: l) = true := evCountChildren_join ok_CountChildren 10 2 5 (fun l => 40 :: 40 :: 41 :: 40 :: 40 :: 40 :: 41 :: l) (by decide) evCountChildren_c9 evCountChildren_c10
theorem evCountChildren_n7 : allR ok_CountChildren 12 4 5 (fun l => 40 :: 40 :: 41 :: 40 :: 40 :: 40 :: l) = true := evCountChildren_join ok_CountChildren 11 3 5 (fun l => 40 :: 40 :: 41 :: 40 :: 40 :: 40 :: l) (by decide) evCountChildren_n6 evCountChildren_c11
theorem evCountChildren_n8 : allR ok_CountChildren 13 3 4 (fun l => 40 :: 40 :: 41 :: 40 :: 40 :: l) = true := evCountChildren_join ok_CountChildren 12 2 4 (fun l => 40 :: 40 :: 41 :: 40 :: 40 :: l) (by decide) evCountChildren_n5 evCountChildren_n7
theorem evCountChildren_n9 : allR ok_CountChildren 14 2 3 (fun l => 40 :: 40 :: 41 :: 40 :: l) = true := evCountChildren_join ok_CountChildren 13 1 3 (fun l => 40 :: 40 :: 41 :: 40 :: l) (by decide) evCountChildren_n3 evCountChildren_n8
theorem evCountChildren_n10 : allR ok_CountChildren 15 1 2 (fun l => 40 :: 40 :: 41 :: l) = true := evCountChildren_join ok_CountChildren 14 0 2 (fun l => 40 :: 40 :: 41 :: l) (by decide) evCountChildren_c1 evCountChildren_n9
theorem evCountChildren_n11 : allR ok_CountChildren 11 3 5 (fun l => 40 :: 40 :: 40 :: 41 :: 41 :: 40 :: 40 :: l) = true := evCountChildren_join ok_CountChildren 10 2 5 (fun l => 40 :: 40 :: 40 :: 41 :: 41 :: 40 :: 40 :: l) (by decide) evCountChildren_c14 evCountChildren_c15
theorem evCountChildren_n12 : allR ok_CountChildren 12 2 4 (fun l => 40 :: 40 :: 40 :: 41 :: 41 :: 40 :: l) = true := evCountChildren_join ok_CountChildren 11 1 4 (fun l => 40 :: 40 :: 40 :: 41 :: 41 :: 40 :: l) (by decide) evCountChildren_c13 evCountChildren_n11
theorem evCountChildren_n13 : allR ok_CountChildren 13 1 3 (fun l => 40 :: 40 :: 40 :: 41 :: 41 :: l) = true := evCountChildren_join ok_CountChildren 12 0 3 (fun l => 40 :: 40 :: 40 :: 41 :: 41 :: l) (by decide) evCountChildren_c12 evCountChildren_n12
theorem evCountChildren_n14 : allR ok_CountChildren 11 3 5 (fun l => 40 :: 40 :: 40 :: 41 :: 40 :: 41 :: 40 :: l) = true := evCountChildren_join ok_CountChildren 10 2 5 (fun l => 40 :: 40 :: 40 :: 41 :: 40 :: 41 :: 40 :: l) (by decide) evCountChildren_c17 evCountChildren_c18
theorem evCountChildren_n15 : allR ok_CountChildren 12 2 4 (fun l => 40 :: 40 :: 40 :: 41 :: 40 :: 41 :: l) = true := evCountChildren_join ok_CountChildren 11 1 4 (fun l => 40 :: 40 :: 40 :: 41 :: 40 :: 41 :: l) (by decide) evCountChildren_c16 evCountChildren_n14
theorem evCountChildren_n16 : allR ok_CountChildren 11 3 5 (fun l => 40 :: 40 :: 40 :: 41 :: 40 :: 40 :: 41 :: l) = true := evCountChildren_join ok_CountChildren 10 2 5 (fun l => 40 :: 40 :: 40 :: 41 :: 40 :: 40 :: 41 :: l) (by decide) evCountChildren_c19 evCountChildren_c20
theorem evCountChildren_n17 : allR ok_CountChildren 12 4 5 (fun l => 40 :: 40 :: 40 :: 41 :: 40 :: 40 :: l) = true := evCountChildren_join ok_CountChildren 11 3 5 (fun l => 40 :: 40 :: 40 :: 41 :: 40 :: 40 :: l) (by decide) evCountChildren_n16 evCountChildren_c21
theorem evCountChildren_n18 : allR ok_CountChildren 13 3 4 (fun l => 40 :: 40 :: 40 :: 41 :: 40 :: l) = true := evCountChildren_join ok_CountChildren 12 2 4 (fun l => 40 :: 40 :: 40 :: 41 :: 40 :: l) (by decide) evCountChildren_n15 evCountChildren_n17
theorem evCountChildren_n19 : allR ok_CountChildren 14 2 3 (fun l => 40 :: 40 :: 40 :: 41 :: l) = true := evCountChildren_join ok_CountChildren 13 1 3 (fun l => 40 :: 40 :: 40 :: 41 :: l) (by decide) evCountChildren_n13 evCountChildren_n18
theorem evCountChildren_n20 : allR ok_CountChildren 11 3 5 (fun l => 40 :: 40 :: 40 :: 40 :: 41 :: 41 :: 40 :: l) = true := evCountChildren_join ok_CountChildren 10 2 5 (fun l => 40 :: 40 :: 40 :: 40 :: 41 :: 41 :: 40 :: l) (by decide) evCountChildren_c23 evCountChildren_c24
theorem evCountChildren_n21 : allR ok_CountChildren 12 2 4 (fun l => 40 :: 40 :: 40 :: 40 :: 41 :: 41 :: l) = true := evCountChildren_join ok_CountChildren 11 1 4 (fun l => 40 :: 40 :: 40 :: 40 :: 41 :: 41 :: l) (by decide) evCountChildren_c22 evCountChildren_n20
theorem evCountChildren_n22 : allR ok_CountChildren 11 3 5 (fun l => 40 :: 40 :: 40 :: 40 :: 41 :: 40 :: 41 :: l) = true := evCountChildren_join ok_CountChildren 10 2 5 (fun l => 40 :: 40 :: 40 :: 40 :: 41 :: 40 :: 41 :: l) (by decide) evCountChildren_c25 evCountChildren_c26
theorem evCountChildren_n23 : allR ok_CountChildren 12 4 5 (fun l => 40 :: 40 :: 40 :: 40 :: 41 :: 40 :: l) = true := evCountChildren_join ok_CountChildren 11 3 5 (fun l => 40 :: 40 :: 40 :: 40 :: 41 :: 40 :: l) (by decide) evCountChildren_n22 evCountChildren_c27
theorem evCountChildren_n24 : allR ok_CountChildren 13 3 4 (fun l => 40 :: 40 :: 40 :: 40 :: 41 :: l) = true := evCountChildren_join ok_CountChildren 12 2 4 (fun l => 40 :: 40 :: 40 :: 40 :: 41 :: l) (by decide) evCountChildren_n21 evCountChildren_n23
theorem evCountChildren_n25 : allR ok_CountChildren 11 3 5 (fun l => 40 :: 40 :: 40 :: 40 :: 40 :: 41 :: 41 :: l) = true := evCountChildren_join ok_CountChildren 10 2 5 (fun l => 40 :: 40 :: 40 :: 40 :: 40 :: 41 :: 41 :: l) (by decide) evCountChildren_c28 evCountChildren_c29
theorem evCountChildren_n26 : allR ok_CountChildren 12 4 5 (fun l => 40 :: 40 :: 40 :: 40 :: 40 :: 41 :: l) = true := evCountChildren_join ok_CountChildren 11 3 5 (fun l => 40 :: 40 :: 40 :: 40 :: 40 :: 41 :: l) (by decide) evCountChildren_n25 evCountChildren_c30
theorem evCountChildren_n27 : allR ok_CountChildren 12 6 6 (fun l => 40 :: 40 :: 40 :: 40 :: 40 :: 40 :: l) = true := evCountChildren_join ok_CountChildren 11 5 6 (fun l => 40 :: 40 :: 40 :: 40 :: 40 :: 40 :: l) (by decide) evCountChildren_c31 evCountChildren_c32
theorem evCountChildren_n28 : allR ok_CountChildren 13 5 5 (fun l => 40 :: 40 :: 40 :: 40 :: 40 :: l) = true := evCountChildren_join ok_CountChildren 12 4 5 (fun l => 40 :: 40 :: 40 :: 40 :: 40 :: l) (by decide) evCountChildren_n26 evCountChildren_n27
theorem evCountChildren_n29 : allR ok_CountChildren 14 4 4 (fun l => 40 :: 40 :: 40 :: 40 :: l) = true := evCountChildren_join ok_CountChildren 13 3 4 (fun l => 40 :: 40 :: 40 :: 40 :: l) (by decide) evCountChildren_n24 evCountChildren_n28
theorem evCountChildren_n30 : allR ok_CountChildren 15 3 3 (fun l => 40 :: 40 :: 40 :: l) = true := evCountChildren_join ok_CountChildren 14 2 3 (fun l => 40 :: 40 :: 40 :: l) (by decide) evCountChildren_n19 evCountChildren_n29
theorem evCountChildren_n31 : allR ok_CountChildren 16 2 2 (fun l => 40 :: 40 :: l) = true := evCountChildren_join ok_CountChildren 15 1 2 (fun l => 40 :: 40 :: l) (by decide) evCountChildren_n10 evCountChildren_n30
theorem evCountChildren_n32 : allR ok_CountChildren 17 1 1 (fun l => 40 :: l) = true := evCountChildren_join ok_CountChildren 16 0 1 (fun l => 40 :: l) (by decide) evCountChildren_c0 evCountChildren_n31
theorem evCountChildren_all : allR ok_CountChildren 17 1 1 (fun l => 40 :: l) = true := evCountChildren_n32
end
end Go.AI.T
