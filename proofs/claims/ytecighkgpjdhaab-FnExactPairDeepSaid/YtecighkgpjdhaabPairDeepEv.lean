/- The parts of the evaluation together. -/
import Derived.Test.YtecighkgpjdhaabPairDeepEv0
import Derived.Test.YtecighkgpjdhaabPairDeepEv1
import Derived.Test.YtecighkgpjdhaabPairDeepEv2
import Derived.Test.YtecighkgpjdhaabPairDeepEv3
import Derived.Test.YtecighkgpjdhaabPairDeepEv4
import Derived.Test.YtecighkgpjdhaabPairDeepEv5
import Derived.Test.YtecighkgpjdhaabPairDeepEv6
import Derived.Test.YtecighkgpjdhaabPairDeepEv7
namespace Go.AI.T
open Go Go.RowKit Go.AI
set_option linter.unusedVariables false
set_option linter.unusedSimpArgs false
set_option maxRecDepth 100000
noncomputable section
theorem evPairDeep_join (t : List Nat → Bool) (f d m : Nat) (p : List Nat → List Nat) (hm : m + 1 ≤ 9) (h1 : allR t f d m (fun l => p (41 :: l)) = true) (h2 : allR t f (d + 2) (m + 1) (fun l => p (40 :: l)) = true) : allR t (f + 1) (d + 1) m p = true := by
  show bc (allR t f d m (fun l => p (41 :: l))) (bc (Nat.ble (m + 1) 9) (allR t f (d + 2) (m + 1) (fun l => p (40 :: l))) true) false = true
  rw [h1, h2, Nat.ble_eq_true_of_le hm]; rfl
theorem evPairDeep_join9 (t : List Nat → Bool) (f d : Nat) (p : List Nat → List Nat) (h1 : allR t f d 9 (fun l => p (41 :: l)) = true) : allR t (f + 1) (d + 1) 9 p = true := by
  show bc (allR t f d 9 (fun l => p (41 :: l))) (bc (Nat.ble (9 + 1) 9) (allR t f (d + 2) (9 + 1) (fun l => p (40 :: l))) true) false = true
  rw [h1]; rfl
theorem evPairDeep_n1 : allR ok_PairDeep 10 2 5 (fun l => 40 :: 40 :: 41 :: 40 :: 41 :: 40 :: 41 :: 40 :: l) = true := evPairDeep_join ok_PairDeep 9 1 5 (fun l => 40 :: 40 :: 41 :: 40 :: 41 :: 40 :: 41 :: 40 :: l) (by decide) evPairDeep_c4 evPairDeep_c5
theorem evPairDeep_n2 : allR ok_PairDeep 11 1 4 (fun l => 40 :: 40 :: 41 :: 40 :: 41 :: 40 :: 41 :: l) = true := evPairDeep_join ok_PairDeep 10 0 4 (fun l => 40 :: 40 :: 41 :: 40 :: 41 :: 40 :: 41 :: l) (by decide) evPairDeep_c3 evPairDeep_n1
theorem evPairDeep_n3 : allR ok_PairDeep 10 2 5 (fun l => 40 :: 40 :: 41 :: 40 :: 41 :: 40 :: 40 :: 41 :: l) = true := evPairDeep_join ok_PairDeep 9 1 5 (fun l => 40 :: 40 :: 41 :: 40 :: 41 :: 40 :: 40 :: 41 :: l) (by decide) evPairDeep_c6 evPairDeep_c7
theorem evPairDeep_n4 : allR ok_PairDeep 10 4 6 (fun l => 40 :: 40 :: 41 :: 40 :: 41 :: 40 :: 40 :: 40 :: l) = true := evPairDeep_join ok_PairDeep 9 3 6 (fun l => 40 :: 40 :: 41 :: 40 :: 41 :: 40 :: 40 :: 40 :: l) (by decide) evPairDeep_c8 evPairDeep_c9
theorem evPairDeep_n5 : allR ok_PairDeep 11 3 5 (fun l => 40 :: 40 :: 41 :: 40 :: 41 :: 40 :: 40 :: l) = true := evPairDeep_join ok_PairDeep 10 2 5 (fun l => 40 :: 40 :: 41 :: 40 :: 41 :: 40 :: 40 :: l) (by decide) evPairDeep_n3 evPairDeep_n4
theorem evPairDeep_n6 : allR ok_PairDeep 12 2 4 (fun l => 40 :: 40 :: 41 :: 40 :: 41 :: 40 :: l) = true := evPairDeep_join ok_PairDeep 11 1 4 (fun l => 40 :: 40 :: 41 :: 40 :: 41 :: 40 :: l) (by decide) evPairDeep_n2 evPairDeep_n5
theorem evPairDeep_n7 : allR ok_PairDeep 13 1 3 (fun l => 40 :: 40 :: 41 :: 40 :: 41 :: l) = true := evPairDeep_join ok_PairDeep 12 0 3 (fun l => 40 :: 40 :: 41 :: 40 :: 41 :: l) (by decide) evPairDeep_c2 evPairDeep_n6
theorem evPairDeep_n8 : allR ok_PairDeep 10 2 5 (fun l => 40 :: 40 :: 41 :: 40 :: 40 :: 41 :: 41 :: 40 :: l) = true := evPairDeep_join ok_PairDeep 9 1 5 (fun l => 40 :: 40 :: 41 :: 40 :: 40 :: 41 :: 41 :: 40 :: l) (by decide) evPairDeep_c11 evPairDeep_c12
theorem evPairDeep_n9 : allR ok_PairDeep 11 1 4 (fun l => 40 :: 40 :: 41 :: 40 :: 40 :: 41 :: 41 :: l) = true := evPairDeep_join ok_PairDeep 10 0 4 (fun l => 40 :: 40 :: 41 :: 40 :: 40 :: 41 :: 41 :: l) (by decide) evPairDeep_c10 evPairDeep_n8
theorem evPairDeep_n10 : allR ok_PairDeep 10 2 5 (fun l => 40 :: 40 :: 41 :: 40 :: 40 :: 41 :: 40 :: 41 :: l) = true := evPairDeep_join ok_PairDeep 9 1 5 (fun l => 40 :: 40 :: 41 :: 40 :: 40 :: 41 :: 40 :: 41 :: l) (by decide) evPairDeep_c13 evPairDeep_c14
theorem evPairDeep_n11 : allR ok_PairDeep 10 4 6 (fun l => 40 :: 40 :: 41 :: 40 :: 40 :: 41 :: 40 :: 40 :: l) = true := evPairDeep_join ok_PairDeep 9 3 6 (fun l => 40 :: 40 :: 41 :: 40 :: 40 :: 41 :: 40 :: 40 :: l) (by decide) evPairDeep_c15 evPairDeep_c16
theorem evPairDeep_n12 : allR ok_PairDeep 11 3 5 (fun l => 40 :: 40 :: 41 :: 40 :: 40 :: 41 :: 40 :: l) = true := evPairDeep_join ok_PairDeep 10 2 5 (fun l => 40 :: 40 :: 41 :: 40 :: 40 :: 41 :: 40 :: l) (by decide) evPairDeep_n10 evPairDeep_n11
theorem evPairDeep_n13 : allR ok_PairDeep 12 2 4 (fun l => 40 :: 40 :: 41 :: 40 :: 40 :: 41 :: l) = true := evPairDeep_join ok_PairDeep 11 1 4 (fun l => 40 :: 40 :: 41 :: 40 :: 40 :: 41 :: l) (by decide) evPairDeep_n9 evPairDeep_n12
theorem evPairDeep_n14 : allR ok_PairDeep 10 2 5 (fun l => 40 :: 40 :: 41 :: 40 :: 40 :: 40 :: 41 :: 41 :: l) = true := evPairDeep_join ok_PairDeep 9 1 5 (fun l => 40 :: 40 :: 41 :: 40 :: 40 :: 40 :: 41 :: 41 :: l) (by decide) evPairDeep_c17 evPairDeep_c18
theorem evPairDeep_n15 : allR ok_PairDeep 10 4 6 (fun l => 40 :: 40 :: 41 :: 40 :: 40 :: 40 :: 41 :: 40 :: l) = true := evPairDeep_join ok_PairDeep 9 3 6 (fun l => 40 :: 40 :: 41 :: 40 :: 40 :: 40 :: 41 :: 40 :: l) (by decide) evPairDeep_c19 evPairDeep_c20
theorem evPairDeep_n16 : allR ok_PairDeep 11 3 5 (fun l => 40 :: 40 :: 41 :: 40 :: 40 :: 40 :: 41 :: l) = true := evPairDeep_join ok_PairDeep 10 2 5 (fun l => 40 :: 40 :: 41 :: 40 :: 40 :: 40 :: 41 :: l) (by decide) evPairDeep_n14 evPairDeep_n15
theorem evPairDeep_n17 : allR ok_PairDeep 10 4 6 (fun l => 40 :: 40 :: 41 :: 40 :: 40 :: 40 :: 40 :: 41 :: l) = true := evPairDeep_join ok_PairDeep 9 3 6 (fun l => 40 :: 40 :: 41 :: 40 :: 40 :: 40 :: 40 :: 41 :: l) (by decide) evPairDeep_c21 evPairDeep_c22
theorem evPairDeep_n18 : allR ok_PairDeep 11 5 6 (fun l => 40 :: 40 :: 41 :: 40 :: 40 :: 40 :: 40 :: l) = true := evPairDeep_join ok_PairDeep 10 4 6 (fun l => 40 :: 40 :: 41 :: 40 :: 40 :: 40 :: 40 :: l) (by decide) evPairDeep_n17 evPairDeep_c23
theorem evPairDeep_n19 : allR ok_PairDeep 12 4 5 (fun l => 40 :: 40 :: 41 :: 40 :: 40 :: 40 :: l) = true := evPairDeep_join ok_PairDeep 11 3 5 (fun l => 40 :: 40 :: 41 :: 40 :: 40 :: 40 :: l) (by decide) evPairDeep_n16 evPairDeep_n18
theorem evPairDeep_n20 : allR ok_PairDeep 13 3 4 (fun l => 40 :: 40 :: 41 :: 40 :: 40 :: l) = true := evPairDeep_join ok_PairDeep 12 2 4 (fun l => 40 :: 40 :: 41 :: 40 :: 40 :: l) (by decide) evPairDeep_n13 evPairDeep_n19
theorem evPairDeep_n21 : allR ok_PairDeep 14 2 3 (fun l => 40 :: 40 :: 41 :: 40 :: l) = true := evPairDeep_join ok_PairDeep 13 1 3 (fun l => 40 :: 40 :: 41 :: 40 :: l) (by decide) evPairDeep_n7 evPairDeep_n20
theorem evPairDeep_n22 : allR ok_PairDeep 15 1 2 (fun l => 40 :: 40 :: 41 :: l) = true := evPairDeep_join ok_PairDeep 14 0 2 (fun l => 40 :: 40 :: 41 :: l) (by decide) evPairDeep_c1 evPairDeep_n21
theorem evPairDeep_n23 : allR ok_PairDeep 10 2 5 (fun l => 40 :: 40 :: 40 :: 41 :: 41 :: 40 :: 41 :: 40 :: l) = true := evPairDeep_join ok_PairDeep 9 1 5 (fun l => 40 :: 40 :: 40 :: 41 :: 41 :: 40 :: 41 :: 40 :: l) (by decide) evPairDeep_c26 evPairDeep_c27
theorem evPairDeep_n24 : allR ok_PairDeep 11 1 4 (fun l => 40 :: 40 :: 40 :: 41 :: 41 :: 40 :: 41 :: l) = true := evPairDeep_join ok_PairDeep 10 0 4 (fun l => 40 :: 40 :: 40 :: 41 :: 41 :: 40 :: 41 :: l) (by decide) evPairDeep_c25 evPairDeep_n23
theorem evPairDeep_n25 : allR ok_PairDeep 10 2 5 (fun l => 40 :: 40 :: 40 :: 41 :: 41 :: 40 :: 40 :: 41 :: l) = true := evPairDeep_join ok_PairDeep 9 1 5 (fun l => 40 :: 40 :: 40 :: 41 :: 41 :: 40 :: 40 :: 41 :: l) (by decide) evPairDeep_c28 evPairDeep_c29
theorem evPairDeep_n26 : allR ok_PairDeep 10 4 6 (fun l => 40 :: 40 :: 40 :: 41 :: 41 :: 40 :: 40 :: 40 :: l) = true := evPairDeep_join ok_PairDeep 9 3 6 (fun l => 40 :: 40 :: 40 :: 41 :: 41 :: 40 :: 40 :: 40 :: l) (by decide) evPairDeep_c30 evPairDeep_c31
theorem evPairDeep_n27 : allR ok_PairDeep 11 3 5 (fun l => 40 :: 40 :: 40 :: 41 :: 41 :: 40 :: 40 :: l) = true := evPairDeep_join ok_PairDeep 10 2 5 (fun l => 40 :: 40 :: 40 :: 41 :: 41 :: 40 :: 40 :: l) (by decide) evPairDeep_n25 evPairDeep_n26
theorem evPairDeep_n28 : allR ok_PairDeep 12 2 4 (fun l => 40 :: 40 :: 40 :: 41 :: 41 :: 40 :: l) = true := evPairDeep_join ok_PairDeep 11 1 4 (fun l => 40 :: 40 :: 40 :: 41 :: 41 :: 40 :: l) (by decide) evPairDeep_n24 evPairDeep_n27
theorem evPairDeep_n29 : allR ok_PairDeep 13 1 3 (fun l => 40 :: 40 :: 40 :: 41 :: 41 :: l) = true := evPairDeep_join ok_PairDeep 12 0 3 (fun l => 40 :: 40 :: 40 :: 41 :: 41 :: l) (by decide) evPairDeep_c24 evPairDeep_n28
theorem evPairDeep_n30 : allR ok_PairDeep 10 2 5 (fun l => 40 :: 40 :: 40 :: 41 :: 40 :: 41 :: 41 :: 40 :: l) = true := evPairDeep_join ok_PairDeep 9 1 5 (fun l => 40 :: 40 :: 40 :: 41 :: 40 :: 41 :: 41 :: 40 :: l) (by decide) evPairDeep_c33 evPairDeep_c34
theorem evPairDeep_n31 : allR ok_PairDeep 11 1 4 (fun l => 40 :: 40 :: 40 :: 41 :: 40 :: 41 :: 41 :: l) = true := evPairDeep_join ok_PairDeep 10 0 4 (fun l => 40 :: 40 :: 40 :: 41 :: 40 :: 41 :: 41 :: l) (by decide) evPairDeep_c32 evPairDeep_n30
theorem evPairDeep_n32 : allR ok_PairDeep 10 2 5 (fun l => 40 :: 40 :: 40 :: 41 :: 40 :: 41 :: 40 :: 41 :: l) = true := evPairDeep_join ok_PairDeep 9 1 5 (fun l => 40 :: 40 :: 40 :: 41 :: 40 :: 41 :: 40 :: 41 :: l) (by decide) evPairDeep_c35 evPairDeep_c36
theorem evPairDeep_n33 : allR ok_PairDeep 10 4 6 (fun l => 40 :: 40 :: 40 :: 41 :: 40 :: 41 :: 40 :: 40 :: l) = true := evPairDeep_join ok_PairDeep 9 3 6 (fun l => 40 :: 40 :: 40 :: 41 :: 40 :: 41 :: 40 :: 40 :: l) (by decide) evPairDeep_c37 evPairDeep_c38
theorem evPairDeep_n34 : allR ok_PairDeep 11 3 5 (fun l => 40 :: 40 :: 40 :: 41 :: 40 :: 41 :: 40 :: l) = true := evPairDeep_join ok_PairDeep 10 2 5 (fun l => 40 :: 40 :: 40 :: 41 :: 40 :: 41 :: 40 :: l) (by decide) evPairDeep_n32 evPairDeep_n33
theorem evPairDeep_n35 : allR ok_PairDeep 12 2 4 (fun l => 40 :: 40 :: 40 :: 41 :: 40 :: 41 :: l) = true := evPairDeep_join ok_PairDeep 11 1 4 (fun l => 40 :: 40 :: 40 :: 41 :: 40 :: 41 :: l) (by decide) evPairDeep_n31 evPairDeep_n34
theorem evPairDeep_n36 : allR ok_PairDeep 10 2 5 (fun l => 40 :: 40 :: 40 :: 41 :: 40 :: 40 :: 41 :: 41 :: l) = true := evPairDeep_join ok_PairDeep 9 1 5 (fun l => 40 :: 40 :: 40 :: 41 :: 40 :: 40 :: 41 :: 41 :: l) (by decide) evPairDeep_c39 evPairDeep_c40
theorem evPairDeep_n37 : allR ok_PairDeep 10 4 6 (fun l => 40 :: 40 :: 40 :: 41 :: 40 :: 40 :: 41 :: 40 :: l) = true := evPairDeep_join ok_PairDeep 9 3 6 (fun l => 40 :: 40 :: 40 :: 41 :: 40 :: 40 :: 41 :: 40 :: l) (by decide) evPairDeep_c41 evPairDeep_c42
theorem evPairDeep_n38 : allR ok_PairDeep 11 3 5 (fun l => 40 :: 40 :: 40 :: 41 :: 40 :: 40 :: 41 :: l) = true := evPairDeep_join ok_PairDeep 10 2 5 (fun l => 40 :: 40 :: 40 :: 41 :: 40 :: 40 :: 41 :: l) (by decide) evPairDeep_n36 evPairDeep_n37
theorem evPairDeep_n39 : allR ok_PairDeep 10 4 6 (fun l => 40 :: 40 :: 40 :: 41 :: 40 :: 40 :: 40 :: 41 :: l) = true := evPairDeep_join ok_PairDeep 9 3 6 (fun l => 40 :: 40 :: 40 :: 41 :: 40 :: 40 :: 40 :: 41 :: l) (by decide) evPairDeep_c43 evPairDeep_c44
theorem evPairDeep_n40 : allR ok_PairDeep 11 5 6 (fun l => 40 :: 40 :: 40 :: 41 :: 40 :: 40 :: 40 :: l) = true := evPairDeep_join ok_PairDeep 10 4 6 (fun l => 40 :: 40 :: 40 :: 41 :: 40 :: 40 :: 40 :: l) (by decide) evPairDeep_n39 evPairDeep_c45
theorem evPairDeep_n41 : allR ok_PairDeep 12 4 5 (fun l => 40 :: 40 :: 40 :: 41 :: 40 :: 40 :: l) = true := evPairDeep_join ok_PairDeep 11 3 5 (fun l => 40 :: 40 :: 40 :: 41 :: 40 :: 40 :: l) (by decide) evPairDeep_n38 evPairDeep_n40
theorem evPairDeep_n42 : allR ok_PairDeep 13 3 4 (fun l => 40 :: 40 :: 40 :: 41 :: 40 :: l) = true := evPairDeep_join ok_PairDeep 12 2 4 (fun l => 40 :: 40 :: 40 :: 41 :: 40 :: l) (by decide) evPairDeep_n35 evPairDeep_n41
theorem evPairDeep_n43 : allR ok_PairDeep 14 2 3 (fun l => 40 :: 40 :: 40 :: 41 :: l) = true := evPairDeep_join ok_PairDeep 13 1 3 (fun l => 40 :: 40 :: 40 :: 41 :: l) (by decide) evPairDeep_n29 evPairDeep_n42
theorem evPairDeep_n44 : allR ok_PairDeep 10 2 5 (fun l => 40 :: 40 :: 40 :: 40 :: 41 :: 41 :: 41 :: 40 :: l) = true := evPairDeep_join ok_PairDeep 9 1 5 (fun l => 40 :: 40 :: 40 :: 40 :: 41 :: 41 :: 41 :: 40 :: l) (by decide) evPairDeep_c47 evPairDeep_c48
theorem evPairDeep_n45 : allR ok_PairDeep 11 1 4 (fun l => 40 :: 40 :: 40 :: 40 :: 41 :: 41 :: 41 :: l) = true := evPairDeep_join ok_PairDeep 10 0 4 (fun l => 40 :: 40 :: 40 :: 40 :: 41 :: 41 :: 41 :: l) (by decide) evPairDeep_c46 evPairDeep_n44
theorem evPairDeep_n46 : allR ok_PairDeep 10 2 5 (fun l => 40 :: 40 :: 40 :: 40 :: 41 :: 41 :: 40 :: 41 :: l) = true := evPairDeep_join ok_PairDeep 9 1 5 (fun l => 40 :: 40 :: 40 :: 40 :: 41 :: 41 :: 40 :: 41 :: l) (by decide) evPairDeep_c49 evPairDeep_c50
theorem evPairDeep_n47 : allR ok_PairDeep 10 4 6 (fun l => 40 :: 40 :: 40 :: 40 :: 41 :: 41 :: 40 :: 40 :: l) = true := evPairDeep_join ok_PairDeep 9 3 6 (fun l => 40 :: 40 :: 40 :: 40 :: 41 :: 41 :: 40 :: 40 :: l) (by decide) evPairDeep_c51 evPairDeep_c52
theorem evPairDeep_n48 : allR ok_PairDeep 11 3 5 (fun l => 40 :: 40 :: 40 :: 40 :: 41 :: 41 :: 40 :: l) = true := evPairDeep_join ok_PairDeep 10 2 5 (fun l => 40 :: 40 :: 40 :: 40 :: 41 :: 41 :: 40 :: l) (by decide) evPairDeep_n46 evPairDeep_n47
theorem evPairDeep_n49 : allR ok_PairDeep 12 2 4 (fun l => 40 :: 40 :: 40 :: 40 :: 41 :: 41 :: l) = true := evPairDeep_join ok_PairDeep 11 1 4 (fun l => 40 :: 40 :: 40 :: 40 :: 41 :: 41 :: l) (by decide) evPairDeep_n45 evPairDeep_n48
theorem evPairDeep_n50 : allR ok_PairDeep 10 2 5 (fun l => 40 :: 40 :: 40 :: 40 :: 41 :: 40 :: 41 :: 41 :: l) = true := evPairDeep_join ok_PairDeep 9 1 5 (fun l => 40 :: 40 :: 40 :: 40 :: 41 :: 40 :: 41 :: 41 :: l) (by decide) evPairDeep_c53 evPairDeep_c54
theorem evPairDeep_n51 : allR ok_PairDeep 10 4 6 (fun l => 40 :: 40 :: 40 :: 40 :: 41 :: 40 :: 41 :: 40 :: l) = true := evPairDeep_join ok_PairDeep 9 3 6 (fun l => 40 :: 40 :: 40 :: 40 :: 41 :: 40 :: 41 :: 40 :: l) (by decide) evPairDeep_c55 evPairDeep_c56
theorem evPairDeep_n52 : allR ok_PairDeep 11 3 5 (fun l => 40 :: 40 :: 40 :: 40 :: 41 :: 40 :: 41 :: l) = true := evPairDeep_join ok_PairDeep 10 2 5 (fun l => 40 :: 40 :: 40 :: 40 :: 41 :: 40 :: 41 :: l) (by decide) evPairDeep_n50 evPairDeep_n51
theorem evPairDeep_n53 : allR ok_PairDeep 10 4 6 (fun l => 40 :: 40 :: 40 :: 40 :: 41 :: 40 :: 40 :: 41 :: l) = true := evPairDeep_join ok_PairDeep 9 3 6 (fun l => 40 :: 40 :: 40 :: 40 :: 41 :: 40 :: 40 :: 41 :: l) (by decide) evPairDeep_c57 evPairDeep_c58
theorem evPairDeep_n54 : allR ok_PairDeep 11 5 6 (fun l => 40 :: 40 :: 40 :: 40 :: 41 :: 40 :: 40 :: l) = true := evPairDeep_join ok_PairDeep 10 4 6 (fun l => 40 :: 40 :: 40 :: 40 :: 41 :: 40 :: 40 :: l) (by decide) evPairDeep_n53 evPairDeep_c59
theorem evPairDeep_n55 : allR ok_PairDeep 12 4 5 (fun l => 40 :: 40 :: 40 :: 40 :: 41 :: 40 :: l) = true := evPairDeep_join ok_PairDeep 11 3 5 (fun l => 40 :: 40 :: 40 :: 40 :: 41 :: 40 :: l) (by decide) evPairDeep_n52 evPairDeep_n54
theorem evPairDeep_n56 : allR ok_PairDeep 13 3 4 (fun l => 40 :: 40 :: 40 :: 40 :: 41 :: l) = true := evPairDeep_join ok_PairDeep 12 2 4 (fun l => 40 :: 40 :: 40 :: 40 :: 41 :: l) (by decide) evPairDeep_n49 evPairDeep_n55
theorem evPairDeep_n57 : allR ok_PairDeep 10 2 5 (fun l => 40 :: 40 :: 40 :: 40 :: 40 :: 41 :: 41 :: 41 :: l) = true := evPairDeep_join ok_PairDeep 9 1 5 (fun l => 40 :: 40 :: 40 :: 40 :: 40 :: 41 :: 41 :: 41 :: l) (by decide) evPairDeep_c60 evPairDeep_c61
theorem evPairDeep_n58 : allR ok_PairDeep 10 4 6 (fun l => 40 :: 40 :: 40 :: 40 :: 40 :: 41 :: 41 :: 40 :: l) = true := evPairDeep_join ok_PairDeep 9 3 6 (fun l => 40 :: 40 :: 40 :: 40 :: 40 :: 41 :: 41 :: 40 :: l) (by decide) evPairDeep_c62 evPairDeep_c63
theorem evPairDeep_n59 : allR ok_PairDeep 11 3 5 (fun l => 40 :: 40 :: 40 :: 40 :: 40 :: 41 :: 41 :: l) = true := evPairDeep_join ok_PairDeep 10 2 5 (fun l => 40 :: 40 :: 40 :: 40 :: 40 :: 41 :: 41 :: l) (by decide) evPairDeep_n57 evPairDeep_n58
theorem evPairDeep_n60 : allR ok_PairDeep 10 4 6 (fun l => 40 :: 40 :: 40 :: 40 :: 40 :: 41 :: 40 :: 41 :: l) = true := evPairDeep_join ok_PairDeep 9 3 6 (fun l => 40 :: 40 :: 40 :: 40 :: 40 :: 41 :: 40 :: 41 :: l) (by decide) evPairDeep_c64 evPairDeep_c65
theorem evPairDeep_n61 : allR ok_PairDeep 11 5 6 (fun l => 40 :: 40 :: 40 :: 40 :: 40 :: 41 :: 40 :: l) = true := evPairDeep_join ok_PairDeep 10 4 6 (fun l => 40 :: 40 :: 40 :: 40 :: 40 :: 41 :: 40 :: l) (by decide) evPairDeep_n60 evPairDeep_c66
theorem evPairDeep_n62 : allR ok_PairDeep 12 4 5 (fun l => 40 :: 40 :: 40 :: 40 :: 40 :: 41 :: l) = true := evPairDeep_join ok_PairDeep 11 3 5 (fun l => 40 :: 40 :: 40 :: 40 :: 40 :: 41 :: l) (by decide) evPairDeep_n59 evPairDeep_n61
theorem evPairDeep_n63 : allR ok_PairDeep 10 4 6 (fun l => 40 :: 40 :: 40 :: 40 :: 40 :: 40 :: 41 :: 41 :: l) = true := evPairDeep_join ok_PairDeep 9 3 6 (fun l => 40 :: 40 :: 40 :: 40 :: 40 :: 40 :: 41 :: 41 :: l) (by decide) evPairDeep_c67 evPairDeep_c68
theorem evPairDeep_n64 : allR ok_PairDeep 11 5 6 (fun l => 40 :: 40 :: 40 :: 40 :: 40 :: 40 :: 41 :: l) = true := evPairDeep_join ok_PairDeep 10 4 6 (fun l => 40 :: 40 :: 40 :: 40 :: 40 :: 40 :: 41 :: l) (by decide) evPairDeep_n63 evPairDeep_c69
theorem evPairDeep_n65 : allR ok_PairDeep 12 6 6 (fun l => 40 :: 40 :: 40 :: 40 :: 40 :: 40 :: l) = true := evPairDeep_join ok_PairDeep 11 5 6 (fun l => 40 :: 40 :: 40 :: 40 :: 40 :: 40 :: l) (by decide) evPairDeep_n64 evPairDeep_c70
theorem evPairDeep_n66 : allR ok_PairDeep 13 5 5 (fun l => 40 :: 40 :: 40 :: 40 :: 40 :: l) = true := evPairDeep_join ok_PairDeep 12 4 5 (fun l => 40 :: 40 :: 40 :: 40 :: 40 :: l) (by decide) evPairDeep_n62 evPairDeep_n65
theorem evPairDeep_n67 : allR ok_PairDeep 14 4 4 (fun l => 40 :: 40 :: 40 :: 40 :: l) = true := evPairDeep_join ok_PairDeep 13 3 4 (fun l => 40 :: 40 :: 40 :: 40 :: l) (by decide) evPairDeep_n56 evPairDeep_n66
theorem evPairDeep_n68 : allR ok_PairDeep 15 3 3 (fun l => 40 :: 40 :: 40 :: l) = true := evPairDeep_join ok_PairDeep 14 2 3 (fun l => 40 :: 40 :: 40 :: l) (by decide) evPairDeep_n43 evPairDeep_n67
theorem evPairDeep_n69 : allR ok_PairDeep 16 2 2 (fun l => 40 :: 40 :: l) = true := evPairDeep_join ok_PairDeep 15 1 2 (fun l => 40 :: 40 :: l) (by decide) evPairDeep_n22 evPairDeep_n68
theorem evPairDeep_n70 : allR ok_PairDeep 17 1 1 (fun l => 40 :: l) = true := evPairDeep_join ok_PairDeep 16 0 1 (fun l => 40 :: l) (by decide) evPairDeep_c0 evPairDeep_n69
theorem evPairDeep_all : allR ok_PairDeep 17 1 1 (fun l => 40 :: l) = true := evPairDeep_n70
end
end Go.AI.T
