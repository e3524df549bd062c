/- The parts of the evaluation together. -/
import Derived.Test.YtkdialpmplolcaaCountPathsEv0
import Derived.Test.YtkdialpmplolcaaCountPathsEv1
import Derived.Test.YtkdialpmplolcaaCountPathsEv2
import Derived.Test.YtkdialpmplolcaaCountPathsEv3
import Derived.Test.YtkdialpmplolcaaCountPathsEv4
import Derived.Test.YtkdialpmplolcaaCountPathsEv5
namespace Go.AI.T
open Go Go.RowKit Go.AI
set_option linter.unusedVariables false
set_option linter.unusedSimpArgs false
set_option maxRecDepth 100000
noncomputable section
theorem evCountPaths_join (t : List Nat → Bool) (f d m : Nat) (p : List Nat → List Nat) (hm : m + 1 ≤ 9) (h1 : allR t f d m (fun l => p (41 :: l)) = true) (h2 : allR t f (d + 2) (m + 1) (fun l => p (40 :: l)) = true) : allR t (f + 1) (d + 1) m p = true := by
  show bc (allR t f d m (fun l => p (41 :: l))) (bc (Nat.ble (m + 1) 9) (allR t f (d + 2) (m + 1) (fun l => p (40 :: l))) true) false = true
  rw [h1, h2, Nat.ble_eq_true_of_le hm]; rfl
theorem evCountPaths_join9 (t : List Nat → Bool) (f d : Nat) (p : List Nat → List Nat) (h1 : allR t f d 9 (fun l => p (41 :: l)) = true) : allR t (f + 1) (d + 1) 9 p = true := by
  show bc (allR t f d 9 (fun l => p (41 :: l))) (bc (Nat.ble (9 + 1) 9) (allR t f (d + 2) (9 + 1) (fun l => p (40 :: l))) true) false = true
  rw [h1]; rfl
theorem evCountPaths_n1 : allR ok_CountPaths 11 3 5 (fun l => 40 :: 40 :: 41 :: 40 :: 41 :: 40 :: 40 :: l) = true := evCountPaths_join ok_CountPaths 10 2 5 (fun l => 40 :: 40 :: 41 :: 40 :: 41 :: 40 :: 40 :: l) (by decide) evCountPaths_c4 evCountPaths_c5
theorem evCountPaths_n2 : allR ok_CountPaths 12 2 4 (fun l => 40 :: 40 :: 41 :: 40 :: 41 :: 40 :: l) = true := evCountPaths_join ok_CountPaths 11 1 4 (fun l => 40 :: 40 :: 41 :: 40 :: 41 :: 40 :: l) (by decide) evCountPaths_c3 evCountPaths_n1
theorem evCountPaths_n3 : allR ok_CountPaths 13 1 3 (fun l => 40 :: 40 :: 41 :: 40 :: 41 :: l) = true := evCountPaths_join ok_CountPaths 12 0 3 (fun l => 40 :: 40 :: 41 :: 40 :: 41 :: l) (by decide) evCountPaths_c2 evCountPaths_n2
theorem evCountPaths_n4 : allR ok_CountPaths 11 3 5 (fun l => 40 :: 40 :: 41 :: 40 :: 40 :: 41 :: 40 :: l) = true := evCountPaths_join ok_CountPaths 10 2 5 (fun l => 40 :: 40 :: 41 :: 40 :: 40 :: 41 :: 40 :: l) (by decide) evCountPaths_c7 evCountPaths_c8
theorem evCountPaths_n5 : allR ok_CountPaths 12 2 4 (fun l => 40 :: 40 :: 41 :: 40 :: 40 :: 41 :: l) = true := evCountPaths_join ok_CountPaths 11 1 4 (fun l => 40 :: 40 :: 41 :: 40 :: 40 :: 41 :: l) (by decide) evCountPaths_c6 evCountPaths_n4
theorem evCountPaths_n6 : allR ok_CountPaths 11 3 5 (fun l => 40 :: 40 :: 41 :: 40 :: 40 :: 40 :: 41 :: l) = true := evCountPaths_join ok_CountPaths 10 2 5 (fun l => 40 :: 40 :: 41 :: 40 :: 40 :: 40 :: 41 :: l) (by decide) evCountPaths_c9 evCountPaths_c10
theorem evCountPaths_n7 : allR ok_CountPaths 12 4 5 (fun l => 40 :: 40 :: 41 :: 40 :: 40 :: 40 :: l) = true := evCountPaths_join ok_CountPaths 11 3 5 (fun l => 40 :: 40 :: 41 :: 40 :: 40 :: 40 :: l) (by decide) evCountPaths_n6 evCountPaths_c11
theorem evCountPaths_n8 : allR ok_CountPaths 13 3 4 (fun l => 40 :: 40 :: 41 :: 40 :: 40 :: l) = true := evCountPaths_join ok_CountPaths 12 2 4 (fun l => 40 :: 40 :: 41 :: 40 :: 40 :: l) (by decide) evCountPaths_n5 evCountPaths_n7
theorem evCountPaths_n9 : allR ok_CountPaths 14 2 3 (fun l => 40 :: 40 :: 41 :: 40 :: l) = true := evCountPaths_join ok_CountPaths 13 1 3 (fun l => 40 :: 40 :: 41 :: 40 :: l) (by decide) evCountPaths_n3 evCountPaths_n8
theorem evCountPaths_n10 : allR ok_CountPaths 15 1 2 (fun l => 40 :: 40 :: 41 :: l) = true := evCountPaths_join ok_CountPaths 14 0 2 (fun l => 40 :: 40 :: 41 :: l) (by decide) evCountPaths_c1 evCountPaths_n9
theorem evCountPaths_n11 : allR ok_CountPaths 11 3 5 (fun l => 40 :: 40 :: 40 :: 41 :: 41 :: 40 :: 40 :: l) = true := evCountPaths_join ok_CountPaths 10 2 5 (fun l => 40 :: 40 :: 40 :: 41 :: 41 :: 40 :: 40 :: l) (by decide) evCountPaths_c14 evCountPaths_c15
theorem evCountPaths_n12 : allR ok_CountPaths 12 2 4 (fun l => 40 :: 40 :: 40 :: 41 :: 41 :: 40 :: l) = true := evCountPaths_join ok_CountPaths 11 1 4 (fun l => 40 :: 40 :: 40 :: 41 :: 41 :: 40 :: l) (by decide) evCountPaths_c13 evCountPaths_n11
theorem evCountPaths_n13 : allR ok_CountPaths 13 1 3 (fun l => 40 :: 40 :: 40 :: 41 :: 41 :: l) = true := evCountPaths_join ok_CountPaths 12 0 3 (fun l => 40 :: 40 :: 40 :: 41 :: 41 :: l) (by decide) evCountPaths_c12 evCountPaths_n12
theorem evCountPaths_n14 : allR ok_CountPaths 11 3 5 (fun l => 40 :: 40 :: 40 :: 41 :: 40 :: 41 :: 40 :: l) = true := evCountPaths_join ok_CountPaths 10 2 5 (fun l => 40 :: 40 :: 40 :: 41 :: 40 :: 41 :: 40 :: l) (by decide) evCountPaths_c17 evCountPaths_c18
theorem evCountPaths_n15 : allR ok_CountPaths 12 2 4 (fun l => 40 :: 40 :: 40 :: 41 :: 40 :: 41 :: l) = true := evCountPaths_join ok_CountPaths 11 1 4 (fun l => 40 :: 40 :: 40 :: 41 :: 40 :: 41 :: l) (by decide) evCountPaths_c16 evCountPaths_n14
theorem evCountPaths_n16 : allR ok_CountPaths 11 3 5 (fun l => 40 :: 40 :: 40 :: 41 :: 40 :: 40 :: 41 :: l) = true := evCountPaths_join ok_CountPaths 10 2 5 (fun l => 40 :: 40 :: 40 :: 41 :: 40 :: 40 :: 41 :: l) (by decide) evCountPaths_c19 evCountPaths_c20
theorem evCountPaths_n17 : allR ok_CountPaths 12 4 5 (fun l => 40 :: 40 :: 40 :: 41 :: 40 :: 40 :: l) = true := evCountPaths_join ok_CountPaths 11 3 5 (fun l => 40 :: 40 :: 40 :: 41 :: 40 :: 40 :: l) (by decide) evCountPaths_n16 evCountPaths_c21
theorem evCountPaths_n18 : allR ok_CountPaths 13 3 4 (fun l => 40 :: 40 :: 40 :: 41 :: 40 :: l) = true := evCountPaths_join ok_CountPaths 12 2 4 (fun l => 40 :: 40 :: 40 :: 41 :: 40 :: l) (by decide) evCountPaths_n15 evCountPaths_n17
theorem evCountPaths_n19 : allR ok_CountPaths 14 2 3 (fun l => 40 :: 40 :: 40 :: 41 :: l) = true := evCountPaths_join ok_CountPaths 13 1 3 (fun l => 40 :: 40 :: 40 :: 41 :: l) (by decide) evCountPaths_n13 evCountPaths_n18
theorem evCountPaths_n20 : allR ok_CountPaths 11 3 5 (fun l => 40 :: 40 :: 40 :: 40 :: 41 :: 41 :: 40 :: l) = true := evCountPaths_join ok_CountPaths 10 2 5 (fun l => 40 :: 40 :: 40 :: 40 :: 41 :: 41 :: 40 :: l) (by decide) evCountPaths_c23 evCountPaths_c24
theorem evCountPaths_n21 : allR ok_CountPaths 12 2 4 (fun l => 40 :: 40 :: 40 :: 40 :: 41 :: 41 :: l) = true := evCountPaths_join ok_CountPaths 11 1 4 (fun l => 40 :: 40 :: 40 :: 40 :: 41 :: 41 :: l) (by decide) evCountPaths_c22 evCountPaths_n20
theorem evCountPaths_n22 : allR ok_CountPaths 11 3 5 (fun l => 40 :: 40 :: 40 :: 40 :: 41 :: 40 :: 41 :: l) = true := evCountPaths_join ok_CountPaths 10 2 5 (fun l => 40 :: 40 :: 40 :: 40 :: 41 :: 40 :: 41 :: l) (by decide) evCountPaths_c25 evCountPaths_c26
theorem evCountPaths_n23 : allR ok_CountPaths 12 4 5 (fun l => 40 :: 40 :: 40 :: 40 :: 41 :: 40 :: l) = true := evCountPaths_join ok_CountPaths 11 3 5 (fun l => 40 :: 40 :: 40 :: 40 :: 41 :: 40 :: l) (by decide) evCountPaths_n22 evCountPaths_c27
theorem evCountPaths_n24 : allR ok_CountPaths 13 3 4 (fun l => 40 :: 40 :: 40 :: 40 :: 41 :: l) = true := evCountPaths_join ok_CountPaths 12 2 4 (fun l => 40 :: 40 :: 40 :: 40 :: 41 :: l) (by decide) evCountPaths_n21 evCountPaths_n23
theorem evCountPaths_n25 : allR ok_CountPaths 11 3 5 (fun l => 40 :: 40 :: 40 :: 40 :: 40 :: 41 :: 41 :: l) = true := evCountPaths_join ok_CountPaths 10 2 5 (fun l => 40 :: 40 :: 40 :: 40 :: 40 :: 41 :: 41 :: l) (by decide) evCountPaths_c28 evCountPaths_c29
theorem evCountPaths_n26 : allR ok_CountPaths 12 4 5 (fun l => 40 :: 40 :: 40 :: 40 :: 40 :: 41 :: l) = true := evCountPaths_join ok_CountPaths 11 3 5 (fun l => 40 :: 40 :: 40 :: 40 :: 40 :: 41 :: l) (by decide) evCountPaths_n25 evCountPaths_c30
theorem evCountPaths_n27 : allR ok_CountPaths 12 6 6 (fun l => 40 :: 40 :: 40 :: 40 :: 40 :: 40 :: l) = true := evCountPaths_join ok_CountPaths 11 5 6 (fun l => 40 :: 40 :: 40 :: 40 :: 40 :: 40 :: l) (by decide) evCountPaths_c31 evCountPaths_c32
theorem evCountPaths_n28 : allR ok_CountPaths 13 5 5 (fun l => 40 :: 40 :: 40 :: 40 :: 40 :: l) = true := evCountPaths_join ok_CountPaths 12 4 5 (fun l => 40 :: 40 :: 40 :: 40 :: 40 :: l) (by decide) evCountPaths_n26 evCountPaths_n27
theorem evCountPaths_n29 : allR ok_CountPaths 14 4 4 (fun l => 40 :: 40 :: 40 :: 40 :: l) = true := evCountPaths_join ok_CountPaths 13 3 4 (fun l => 40 :: 40 :: 40 :: 40 :: l) (by decide) evCountPaths_n24 evCountPaths_n28
theorem evCountPaths_n30 : allR ok_CountPaths 15 3 3 (fun l => 40 :: 40 :: 40 :: l) = true := evCountPaths_join ok_CountPaths 14 2 3 (fun l => 40 :: 40 :: 40 :: l) (by decide) evCountPaths_n19 evCountPaths_n29
theorem evCountPaths_n31 : allR ok_CountPaths 16 2 2 (fun l => 40 :: 40 :: l) = true := evCountPaths_join ok_CountPaths 15 1 2 (fun l => 40 :: 40 :: l) (by decide) evCountPaths_n10 evCountPaths_n30
theorem evCountPaths_n32 : allR ok_CountPaths 17 1 1 (fun l => 40 :: l) = true := evCountPaths_join ok_CountPaths 16 0 1 (fun l => 40 :: l) (by decide) evCountPaths_c0 evCountPaths_n31
theorem evCountPaths_all : allR ok_CountPaths 17 1 1 (fun l => 40 :: l) = true := evCountPaths_n32
end
end Go.AI.T
