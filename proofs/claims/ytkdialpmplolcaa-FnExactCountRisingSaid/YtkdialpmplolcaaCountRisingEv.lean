/- The parts of the evaluation together. -/
import Derived.Test.YtkdialpmplolcaaCountRisingEv0
import Derived.Test.YtkdialpmplolcaaCountRisingEv1
import Derived.Test.YtkdialpmplolcaaCountRisingEv2
import Derived.Test.YtkdialpmplolcaaCountRisingEv3
import Derived.Test.YtkdialpmplolcaaCountRisingEv4
import Derived.Test.YtkdialpmplolcaaCountRisingEv5
namespace Go.AI.T
open Go Go.RowKit Go.AI
set_option linter.unusedVariables false
set_option linter.unusedSimpArgs false
set_option maxRecDepth 100000
noncomputable section
theorem evCountRising_join (t : List Nat → Bool) (f d m : Nat) (p : List Nat → List Nat) (hm : m + 1 ≤ 9) (h1 : allR t f d m (fun l => p (41 :: l)) = true) (h2 : allR t f (d + 2) (m + 1) (fun l => p (40 :: l)) = true) : allR t (f + 1) (d + 1) m p = true := by
  show bc (allR t f d m (fun l => p (41 :: l))) (bc (Nat.ble (m + 1) 9) (allR t f (d + 2) (m + 1) (fun l => p (40 :: l))) true) false = true
  rw [h1, h2, Nat.ble_eq_true_of_le hm]; rfl
theorem evCountRising_join9 (t : List Nat → Bool) (f d : Nat) (p : List Nat → List Nat) (h1 : allR t f d 9 (fun l => p (41 :: l)) = true) : allR t (f + 1) (d + 1) 9 p = true := by
  show bc (allR t f d 9 (fun l => p (41 :: l))) (bc (Nat.ble (9 + 1) 9) (allR t f (d + 2) (9 + 1) (fun l => p (40 :: l))) true) false = true
  rw [h1]; rfl
theorem evCountRising_n1 : allR ok_CountRising 11 3 5 (fun l => 40 :: 40 :: 41 :: 40 :: 41 :: 40 :: 40 :: l) = true := evCountRising_join ok_CountRising 10 2 5 (fun l => 40 :: 40 :: 41 :: 40 :: 41 :: 40 :: 40 :: l) (by decide) evCountRising_c4 evCountRising_c5
theorem evCountRising_n2 : allR ok_CountRising 12 2 4 (fun l => 40 :: 40 :: 41 :: 40 :: 41 :: 40 :: l) = true := evCountRising_join ok_CountRising 11 1 4 (fun l => 40 :: 40 :: 41 :: 40 :: 41 :: 40 :: l) (by decide) evCountRising_c3 evCountRising_n1
theorem evCountRising_n3 : allR ok_CountRising 13 1 3 (fun l => 40 :: 40 :: 41 :: 40 :: 41 :: l) = true := evCountRising_join ok_CountRising 12 0 3 (fun l => 40 :: 40 :: 41 :: 40 :: 41 :: l) (by decide) evCountRising_c2 evCountRising_n2
theorem evCountRising_n4 : allR ok_CountRising 11 3 5 (fun l => 40 :: 40 :: 41 :: 40 :: 40 :: 41 :: 40 :: l) = true := evCountRising_join ok_CountRising 10 2 5 (fun l => 40 :: 40 :: 41 :: 40 :: 40 :: 41 :: 40 :: l) (by decide) evCountRising_c7 evCountRising_c8
theorem evCountRising_n5 : allR ok_CountRising 12 2 4 (fun l => 40 :: 40 :: 41 :: 40 :: 40 :: 41 :: l) = true := evCountRising_join ok_CountRising 11 1 4 (fun l => 40 :: 40 :: 41 :: 40 :: 40 :: 41 :: l) (by decide) evCountRising_c6 evCountRising_n4
theorem evCountRising_n6 : allR ok_CountRising 11 3 5 (fun l => 40 :: 40 :: 41 :: 40 :: 40 :: 40 :: 41 :: l) = true := evCountRising_join ok_CountRising 10 2 5 (fun l => 40 :: 40 :: 41 :: 40 :: 40 :: 40 :: 41 :: l) (by decide) evCountRising_c9 evCountRising_c10
theorem evCountRising_n7 : allR ok_CountRising 12 4 5 (fun l => 40 :: 40 :: 41 :: 40 :: 40 :: 40 :: l) = true := evCountRising_join ok_CountRising 11 3 5 (fun l => 40 :: 40 :: 41 :: 40 :: 40 :: 40 :: l) (by decide) evCountRising_n6 evCountRising_c11
theorem evCountRising_n8 : allR ok_CountRising 13 3 4 (fun l => 40 :: 40 :: 41 :: 40 :: 40 :: l) = true := evCountRising_join ok_CountRising 12 2 4 (fun l => 40 :: 40 :: 41 :: 40 :: 40 :: l) (by decide) evCountRising_n5 evCountRising_n7
theorem evCountRising_n9 : allR ok_CountRising 14 2 3 (fun l => 40 :: 40 :: 41 :: 40 :: l) = true := evCountRising_join ok_CountRising 13 1 3 (fun l => 40 :: 40 :: 41 :: 40 :: l) (by decide) evCountRising_n3 evCountRising_n8
theorem evCountRising_n10 : allR ok_CountRising 15 1 2 (fun l => 40 :: 40 :: 41 :: l) = true := evCountRising_join ok_CountRising 14 0 2 (fun l => 40 :: 40 :: 41 :: l) (by decide) evCountRising_c1 evCountRising_n9
theorem evCountRising_n11 : allR ok_CountRising 11 3 5 (fun l => 40 :: 40 :: 40 :: 41 :: 41 :: 40 :: 40 :: l) = true := evCountRising_join ok_CountRising 10 2 5 (fun l => 40 :: 40 :: 40 :: 41 :: 41 :: 40 :: 40 :: l) (by decide) evCountRising_c14 evCountRising_c15
theorem evCountRising_n12 : allR ok_CountRising 12 2 4 (fun l => 40 :: 40 :: 40 :: 41 :: 41 :: 40 :: l) = true := evCountRising_join ok_CountRising 11 1 4 (fun l => 40 :: 40 :: 40 :: 41 :: 41 :: 40 :: l) (by decide) evCountRising_c13 evCountRising_n11
theorem evCountRising_n13 : allR ok_CountRising 13 1 3 (fun l => 40 :: 40 :: 40 :: 41 :: 41 :: l) = true := evCountRising_join ok_CountRising 12 0 3 (fun l => 40 :: 40 :: 40 :: 41 :: 41 :: l) (by decide) evCountRising_c12 evCountRising_n12
theorem evCountRising_n14 : allR ok_CountRising 11 3 5 (fun l => 40 :: 40 :: 40 :: 41 :: 40 :: 41 :: 40 :: l) = true := evCountRising_join ok_CountRising 10 2 5 (fun l => 40 :: 40 :: 40 :: 41 :: 40 :: 41 :: 40 :: l) (by decide) evCountRising_c17 evCountRising_c18
theorem evCountRising_n15 : allR ok_CountRising 12 2 4 (fun l => 40 :: 40 :: 40 :: 41 :: 40 :: 41 :: l) = true := evCountRising_join ok_CountRising 11 1 4 (fun l => 40 :: 40 :: 40 :: 41 :: 40 :: 41 :: l) (by decide) evCountRising_c16 evCountRising_n14
theorem evCountRising_n16 : allR ok_CountRising 11 3 5 (fun l => 40 :: 40 :: 40 :: 41 :: 40 :: 40 :: 41 :: l) = true := evCountRising_join ok_CountRising 10 2 5 (fun l => 40 :: 40 :: 40 :: 41 :: 40 :: 40 :: 41 :: l) (by decide) evCountRising_c19 evCountRising_c20
theorem evCountRising_n17 : allR ok_CountRising 12 4 5 (fun l => 40 :: 40 :: 40 :: 41 :: 40 :: 40 :: l) = true := evCountRising_join ok_CountRising 11 3 5 (fun l => 40 :: 40 :: 40 :: 41 :: 40 :: 40 :: l) (by decide) evCountRising_n16 evCountRising_c21
theorem evCountRising_n18 : allR ok_CountRising 13 3 4 (fun l => 40 :: 40 :: 40 :: 41 :: 40 :: l) = true := evCountRising_join ok_CountRising 12 2 4 (fun l => 40 :: 40 :: 40 :: 41 :: 40 :: l) (by decide) evCountRising_n15 evCountRising_n17
theorem evCountRising_n19 : allR ok_CountRising 14 2 3 (fun l => 40 :: 40 :: 40 :: 41 :: l) = true := evCountRising_join ok_CountRising 13 1 3 (fun l => 40 :: 40 :: 40 :: 41 :: l) (by decide) evCountRising_n13 evCountRising_n18
theorem evCountRising_n20 : allR ok_CountRising 11 3 5 (fun l => 40 :: 40 :: 40 :: 40 :: 41 :: 41 :: 40 :: l) = true := evCountRising_join ok_CountRising 10 2 5 (fun l => 40 :: 40 :: 40 :: 40 :: 41 :: 41 :: 40 :: l) (by decide) evCountRising_c23 evCountRising_c24
theorem evCountRising_n21 : allR ok_CountRising 12 2 4 (fun l => 40 :: 40 :: 40 :: 40 :: 41 :: 41 :: l) = true := evCountRising_join ok_CountRising 11 1 4 (fun l => 40 :: 40 :: 40 :: 40 :: 41 :: 41 :: l) (by decide) evCountRising_c22 evCountRising_n20
theorem evCountRising_n22 : allR ok_CountRising 11 3 5 (fun l => 40 :: 40 :: 40 :: 40 :: 41 :: 40 :: 41 :: l) = true := evCountRising_join ok_CountRising 10 2 5 (fun l => 40 :: 40 :: 40 :: 40 :: 41 :: 40 :: 41 :: l) (by decide) evCountRising_c25 evCountRising_c26
theorem evCountRising_n23 : allR ok_CountRising 12 4 5 (fun l => 40 :: 40 :: 40 :: 40 :: 41 :: 40 :: l) = true := evCountRising_join ok_CountRising 11 3 5 (fun l => 40 :: 40 :: 40 :: 40 :: 41 :: 40 :: l) (by decide) evCountRising_n22 evCountRising_c27
theorem evCountRising_n24 : allR ok_CountRising 13 3 4 (fun l => 40 :: 40 :: 40 :: 40 :: 41 :: l) = true := evCountRising_join ok_CountRising 12 2 4 (fun l => 40 :: 40 :: 40 :: 40 :: 41 :: l) (by decide) evCountRising_n21 evCountRising_n23
theorem evCountRising_n25 : allR ok_CountRising 11 3 5 (fun l => 40 :: 40 :: 40 :: 40 :: 40 :: 41 :: 41 :: l) = true := evCountRising_join ok_CountRising 10 2 5 (fun l => 40 :: 40 :: 40 :: 40 :: 40 :: 41 :: 41 :: l) (by decide) evCountRising_c28 evCountRising_c29
theorem evCountRising_n26 : allR ok_CountRising 12 4 5 (fun l => 40 :: 40 :: 40 :: 40 :: 40 :: 41 :: l) = true := evCountRising_join ok_CountRising 11 3 5 (fun l => 40 :: 40 :: 40 :: 40 :: 40 :: 41 :: l) (by decide) evCountRising_n25 evCountRising_c30
theorem evCountRising_n27 : allR ok_CountRising 12 6 6 (fun l => 40 :: 40 :: 40 :: 40 :: 40 :: 40 :: l) = true := evCountRising_join ok_CountRising 11 5 6 (fun l => 40 :: 40 :: 40 :: 40 :: 40 :: 40 :: l) (by decide) evCountRising_c31 evCountRising_c32
theorem evCountRising_n28 : allR ok_CountRising 13 5 5 (fun l => 40 :: 40 :: 40 :: 40 :: 40 :: l) = true := evCountRising_join ok_CountRising 12 4 5 (fun l => 40 :: 40 :: 40 :: 40 :: 40 :: l) (by decide) evCountRising_n26 evCountRising_n27
theorem evCountRising_n29 : allR ok_CountRising 14 4 4 (fun l => 40 :: 40 :: 40 :: 40 :: l) = true := evCountRising_join ok_CountRising 13 3 4 (fun l => 40 :: 40 :: 40 :: 40 :: l) (by decide) evCountRising_n24 evCountRising_n28
theorem evCountRising_n30 : allR ok_CountRising 15 3 3 (fun l => 40 :: 40 :: 40 :: l) = true := evCountRising_join ok_CountRising 14 2 3 (fun l => 40 :: 40 :: 40 :: l) (by decide) evCountRising_n19 evCountRising_n29
theorem evCountRising_n31 : allR ok_CountRising 16 2 2 (fun l => 40 :: 40 :: l) = true := evCountRising_join ok_CountRising 15 1 2 (fun l => 40 :: 40 :: l) (by decide) evCountRising_n10 evCountRising_n30
theorem evCountRising_n32 : allR ok_CountRising 17 1 1 (fun l => 40 :: l) = true := evCountRising_join ok_CountRising 16 0 1 (fun l => 40 :: l) (by decide) evCountRising_c0 evCountRising_n31
theorem evCountRising_all : allR ok_CountRising 17 1 1 (fun l => 40 :: l) = true := evCountRising_n32
end
end Go.AI.T
