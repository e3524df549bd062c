/- The parts of the evaluation together. -/
import Derived.Test.YtecighkgpjdhaaaPairOfEv0
import Derived.Test.YtecighkgpjdhaaaPairOfEv1
import Derived.Test.YtecighkgpjdhaaaPairOfEv2
import Derived.Test.YtecighkgpjdhaaaPairOfEv3
import Derived.Test.YtecighkgpjdhaaaPairOfEv4
import Derived.Test.YtecighkgpjdhaaaPairOfEv5
import Derived.Test.YtecighkgpjdhaaaPairOfEv6
import Derived.Test.YtecighkgpjdhaaaPairOfEv7
namespace Go.AI.T
open Go Go.RowKit Go.AI
set_option linter.unusedVariables false
set_option linter.unusedSimpArgs false
set_option maxRecDepth 100000
noncomputable section
theorem evPairOf_join (t : List Nat → Bool) (f d m : Nat) (p : List Nat → List Nat) (hm : m + 1 ≤ 9) (h1 : allR t f d m (fun l => p (41 :: l)) = true) (h2 : allR t f (d + 2) (m + 1) (fun l => p (40 :: l)) = true) : allR t (f + 1) (d + 1) m p = true := by
  show bc (allR t f d m (fun l => p (41 :: l))) (bc (Nat.ble (m + 1) 9) (allR t f (d + 2) (m + 1) (fun l => p (40 :: l))) true) false = true
  rw [h1, h2, Nat.ble_eq_true_of_le hm]; rfl
theorem evPairOf_join9 (t : List Nat → Bool) (f d : Nat) (p : List Nat → List Nat) (h1 : allR t f d 9 (fun l => p (41 :: l)) = true) : allR t (f + 1) (d + 1) 9 p = true := by
  show bc (allR t f d 9 (fun l => p (41 :: l))) (bc (Nat.ble (9 + 1) 9) (allR t f (d + 2) (9 + 1) (fun l => p (40 :: l))) true) false = true
  rw [h1]; rfl
theorem evPairOf_n1 : allR ok_PairOf 10 2 5 (fun l => 40 :: 40 :: 41 :: 40 :: 41 :: 40 :: 41 :: 40 :: l) = true := evPairOf_join ok_PairOf 9 1 5 (fun l => 40 :: 40 :: 41 :: 40 :: 41 :: 40 :: 41 :: 40 :: l) (by decide) evPairOf_c4 evPairOf_c5
theorem evPairOf_n2 : allR ok_PairOf 11 1 4 (fun l => 40 :: 40 :: 41 :: 40 :: 41 :: 40 :: 41 :: l) = true := evPairOf_join ok_PairOf 10 0 4 (fun l => 40 :: 40 :: 41 :: 40 :: 41 :: 40 :: 41 :: l) (by decide) evPairOf_c3 evPairOf_n1
theorem evPairOf_n3 : allR ok_PairOf 10 2 5 (fun l => 40 :: 40 :: 41 :: 40 :: 41 :: 40 :: 40 :: 41 :: l) = true := evPairOf_join ok_PairOf 9 1 5 (fun l => 40 :: 40 :: 41 :: 40 :: 41 :: 40 :: 40 :: 41 :: l) (by decide) evPairOf_c6 evPairOf_c7
theorem evPairOf_n4 : allR ok_PairOf 10 4 6 (fun l => 40 :: 40 :: 41 :: 40 :: 41 :: 40 :: 40 :: 40 :: l) = true := evPairOf_join ok_PairOf 9 3 6 (fun l => 40 :: 40 :: 41 :: 40 :: 41 :: 40 :: 40 :: 40 :: l) (by decide) evPairOf_c8 evPairOf_c9
theorem evPairOf_n5 : allR ok_PairOf 11 3 5 (fun l => 40 :: 40 :: 41 :: 40 :: 41 :: 40 :: 40 :: l) = true := evPairOf_join ok_PairOf 10 2 5 (fun l => 40 :: 40 :: 41 :: 40 :: 41 :: 40 :: 40 :: l) (by decide) evPairOf_n3 evPairOf_n4
theorem evPairOf_n6 : allR ok_PairOf 12 2 4 (fun l => 40 :: 40 :: 41 :: 40 :: 41 :: 40 :: l) = true := evPairOf_join ok_PairOf 11 1 4 (fun l => 40 :: 40 :: 41 :: 40 :: 41 :: 40 :: l) (by decide) evPairOf_n2 evPairOf_n5
theorem evPairOf_n7 : allR ok_PairOf 13 1 3 (fun l => 40 :: 40 :: 41 :: 40 :: 41 :: l) = true := evPairOf_join ok_PairOf 12 0 3 (fun l => 40 :: 40 :: 41 :: 40 :: 41 :: l) (by decide) evPairOf_c2 evPairOf_n6
theorem evPairOf_n8 : allR ok_PairOf 10 2 5 (fun l => 40 :: 40 :: 41 :: 40 :: 40 :: 41 :: 41 :: 40 :: l) = true := evPairOf_join ok_PairOf 9 1 5 (fun l => 40 :: 40 :: 41 :: 40 :: 40 :: 41 :: 41 :: 40 :: l) (by decide) evPairOf_c11 evPairOf_c12
theorem evPairOf_n9 : allR ok_PairOf 11 1 4 (fun l => 40 :: 40 :: 41 :: 40 :: 40 :: 41 :: 41 :: l) = true := evPairOf_join ok_PairOf 10 0 4 (fun l => 40 :: 40 :: 41 :: 40 :: 40 :: 41 :: 41 :: l) (by decide) evPairOf_c10 evPairOf_n8
theorem evPairOf_n10 : allR ok_PairOf 10 2 5 (fun l => 40 :: 40 :: 41 :: 40 :: 40 :: 41 :: 40 :: 41 :: l) = true := evPairOf_join ok_PairOf 9 1 5 (fun l => 40 :: 40 :: 41 :: 40 :: 40 :: 41 :: 40 :: 41 :: l) (by decide) evPairOf_c13 evPairOf_c14
theorem evPairOf_n11 : allR ok_PairOf 10 4 6 (fun l => 40 :: 40 :: 41 :: 40 :: 40 :: 41 :: 40 :: 40 :: l) = true := evPairOf_join ok_PairOf 9 3 6 (fun l => 40 :: 40 :: 41 :: 40 :: 40 :: 41 :: 40 :: 40 :: l) (by decide) evPairOf_c15 evPairOf_c16
theorem evPairOf_n12 : allR ok_PairOf 11 3 5 (fun l => 40 :: 40 :: 41 :: 40 :: 40 :: 41 :: 40 :: l) = true := evPairOf_join ok_PairOf 10 2 5 (fun l => 40 :: 40 :: 41 :: 40 :: 40 :: 41 :: 40 :: l) (by decide) evPairOf_n10 evPairOf_n11
theorem evPairOf_n13 : allR ok_PairOf 12 2 4 (fun l => 40 :: 40 :: 41 :: 40 :: 40 :: 41 :: l) = true := evPairOf_join ok_PairOf 11 1 4 (fun l => 40 :: 40 :: 41 :: 40 :: 40 :: 41 :: l) (by decide) evPairOf_n9 evPairOf_n12
theorem evPairOf_n14 : allR ok_PairOf 10 2 5 (fun l => 40 :: 40 :: 41 :: 40 :: 40 :: 40 :: 41 :: 41 :: l) = true := evPairOf_join ok_PairOf 9 1 5 (fun l => 40 :: 40 :: 41 :: 40 :: 40 :: 40 :: 41 :: 41 :: l) (by decide) evPairOf_c17 evPairOf_c18
theorem evPairOf_n15 : allR ok_PairOf 10 4 6 (fun l => 40 :: 40 :: 41 :: 40 :: 40 :: 40 :: 41 :: 40 :: l) = true := evPairOf_join ok_PairOf 9 3 6 (fun l => 40 :: 40 :: 41 :: 40 :: 40 :: 40 :: 41 :: 40 :: l) (by decide) evPairOf_c19 evPairOf_c20
theorem evPairOf_n16 : allR ok_PairOf 11 3 5 (fun l => 40 :: 40 :: 41 :: 40 :: 40 :: 40 :: 41 :: l) = true := evPairOf_join ok_PairOf 10 2 5 (fun l => 40 :: 40 :: 41 :: 40 :: 40 :: 40 :: 41 :: l) (by decide) evPairOf_n14 evPairOf_n15
theorem evPairOf_n17 : allR ok_PairOf 10 4 6 (fun l => 40 :: 40 :: 41 :: 40 :: 40 :: 40 :: 40 :: 41 :: l) = true := evPairOf_join ok_PairOf 9 3 6 (fun l => 40 :: 40 :: 41 :: 40 :: 40 :: 40 :: 40 :: 41 :: l) (by decide) evPairOf_c21 evPairOf_c22
theorem evPairOf_n18 : allR ok_PairOf 11 5 6 (fun l => 40 :: 40 :: 41 :: 40 :: 40 :: 40 :: 40 :: l) = true := evPairOf_join ok_PairOf 10 4 6 (fun l => 40 :: 40 :: 41 :: 40 :: 40 :: 40 :: 40 :: l) (by decide) evPairOf_n17 evPairOf_c23
theorem evPairOf_n19 : allR ok_PairOf 12 4 5 (fun l => 40 :: 40 :: 41 :: 40 :: 40 :: 40 :: l) = true := evPairOf_join ok_PairOf 11 3 5 (fun l => 40 :: 40 :: 41 :: 40 :: 40 :: 40 :: l) (by decide) evPairOf_n16 evPairOf_n18
theorem evPairOf_n20 : allR ok_PairOf 13 3 4 (fun l => 40 :: 40 :: 41 :: 40 :: 40 :: l) = true := evPairOf_join ok_PairOf 12 2 4 (fun l => 40 :: 40 :: 41 :: 40 :: 40 :: l) (by decide) evPairOf_n13 evPairOf_n19
theorem evPairOf_n21 : allR ok_PairOf 14 2 3 (fun l => 40 :: 40 :: 41 :: 40 :: l) = true := evPairOf_join ok_PairOf 13 1 3 (fun l => 40 :: 40 :: 41 :: 40 :: l) (by decide) evPairOf_n7 evPairOf_n20
theorem evPairOf_n22 : allR ok_PairOf 15 1 2 (fun l => 40 :: 40 :: 41 :: l) = true := evPairOf_join ok_PairOf 14 0 2 (fun l => 40 :: 40 :: 41 :: l) (by decide) evPairOf_c1 evPairOf_n21
theorem evPairOf_n23 : allR ok_PairOf 10 2 5 (fun l => 40 :: 40 :: 40 :: 41 :: 41 :: 40 :: 41 :: 40 :: l) = true := evPairOf_join ok_PairOf 9 1 5 (fun l => 40 :: 40 :: 40 :: 41 :: 41 :: 40 :: 41 :: 40 :: l) (by decide) evPairOf_c26 evPairOf_c27
theorem evPairOf_n24 : allR ok_PairOf 11 1 4 (fun l => 40 :: 40 :: 40 :: 41 :: 41 :: 40 :: 41 :: l) = true := evPairOf_join ok_PairOf 10 0 4 (fun l => 40 :: 40 :: 40 :: 41 :: 41 :: 40 :: 41 :: l) (by decide) evPairOf_c25 evPairOf_n23
theorem evPairOf_n25 : allR ok_PairOf 10 2 5 (fun l => 40 :: 40 :: 40 :: 41 :: 41 :: 40 :: 40 :: 41 :: l) = true := evPairOf_join ok_PairOf 9 1 5 (fun l => 40 :: 40 :: 40 :: 41 :: 41 :: 40 :: 40 :: 41 :: l) (by decide) evPairOf_c28 evPairOf_c29
theorem evPairOf_n26 : allR ok_PairOf 10 4 6 (fun l => 40 :: 40 :: 40 :: 41 :: 41 :: 40 :: 40 :: 40 :: l) = true := evPairOf_join ok_PairOf 9 3 6 (fun l => 40 :: 40 :: 40 :: 41 :: 41 :: 40 :: 40 :: 40 :: l) (by decide) evPairOf_c30 evPairOf_c31
theorem evPairOf_n27 : allR ok_PairOf 11 3 5 (fun l => 40 :: 40 :: 40 :: 41 :: 41 :: 40 :: 40 :: l) = true := evPairOf_join ok_PairOf 10 2 5 (fun l => 40 :: 40 :: 40 :: 41 :: 41 :: 40 :: 40 :: l) (by decide) evPairOf_n25 evPairOf_n26
theorem evPairOf_n28 : allR ok_PairOf 12 2 4 (fun l => 40 :: 40 :: 40 :: 41 :: 41 :: 40 :: l) = true := evPairOf_join ok_PairOf 11 1 4 (fun l => 40 :: 40 :: 40 :: 41 :: 41 :: 40 :: l) (by decide) evPairOf_n24 evPairOf_n27
theorem evPairOf_n29 : allR ok_PairOf 13 1 3 (fun l => 40 :: 40 :: 40 :: 41 :: 41 :: l) = true := evPairOf_join ok_PairOf 12 0 3 (fun l => 40 :: 40 :: 40 :: 41 :: 41 :: l) (by decide) evPairOf_c24 evPairOf_n28
theorem evPairOf_n30 : allR ok_PairOf 10 2 5 (fun l => 40 :: 40 :: 40 :: 41 :: 40 :: 41 :: 41 :: 40 :: l) = true := evPairOf_join ok_PairOf 9 1 5 (fun l => 40 :: 40 :: 40 :: 41 :: 40 :: 41 :: 41 :: 40 :: l) (by decide) evPairOf_c33 evPairOf_c34
theorem evPairOf_n31 : allR ok_PairOf 11 1 4 (fun l => 40 :: 40 :: 40 :: 41 :: 40 :: 41 :: 41 :: l) = true := evPairOf_join ok_PairOf 10 0 4 (fun l => 40 :: 40 :: 40 :: 41 :: 40 :: 41 :: 41 :: l) (by decide) evPairOf_c32 evPairOf_n30
theorem evPairOf_n32 : allR ok_PairOf 10 2 5 (fun l => 40 :: 40 :: 40 :: 41 :: 40 :: 41 :: 40 :: 41 :: l) = true := evPairOf_join ok_PairOf 9 1 5 (fun l => 40 :: 40 :: 40 :: 41 :: 40 :: 41 :: 40 :: 41 :: l) (by decide) evPairOf_c35 evPairOf_c36
theorem evPairOf_n33 : allR ok_PairOf 10 4 6 (fun l => 40 :: 40 :: 40 :: 41 :: 40 :: 41 :: 40 :: 40 :: l) = true := evPairOf_join ok_PairOf 9 3 6 (fun l => 40 :: 40 :: 40 :: 41 :: 40 :: 41 :: 40 :: 40 :: l) (by decide) evPairOf_c37 evPairOf_c38
theorem evPairOf_n34 : allR ok_PairOf 11 3 5 (fun l => 40 :: 40 :: 40 :: 41 :: 40 :: 41 :: 40 :: l) = true := evPairOf_join ok_PairOf 10 2 5 (fun l => 40 :: 40 :: 40 :: 41 :: 40 :: 41 :: 40 :: l) (by decide) evPairOf_n32 evPairOf_n33
theorem evPairOf_n35 : allR ok_PairOf 12 2 4 (fun l => 40 :: 40 :: 40 :: 41 :: 40 :: 41 :: l) = true := evPairOf_join ok_PairOf 11 1 4 (fun l => 40 :: 40 :: 40 :: 41 :: 40 :: 41 :: l) (by decide) evPairOf_n31 evPairOf_n34
theorem evPairOf_n36 : allR ok_PairOf 10 2 5 (fun l => 40 :: 40 :: 40 :: 41 :: 40 :: 40 :: 41 :: 41 :: l) = true := evPairOf_join ok_PairOf 9 1 5 (fun l => 40 :: 40 :: 40 :: 41 :: 40 :: 40 :: 41 :: 41 :: l) (by decide) evPairOf_c39 evPairOf_c40
theorem evPairOf_n37 : allR ok_PairOf 10 4 6 (fun l => 40 :: 40 :: 40 :: 41 :: 40 :: 40 :: 41 :: 40 :: l) = true := evPairOf_join ok_PairOf 9 3 6 (fun l => 40 :: 40 :: 40 :: 41 :: 40 :: 40 :: 41 :: 40 :: l) (by decide) evPairOf_c41 evPairOf_c42
theorem evPairOf_n38 : allR ok_PairOf 11 3 5 (fun l => 40 :: 40 :: 40 :: 41 :: 40 :: 40 :: 41 :: l) = true := evPairOf_join ok_PairOf 10 2 5 (fun l => 40 :: 40 :: 40 :: 41 :: 40 :: 40 :: 41 :: l) (by decide) evPairOf_n36 evPairOf_n37
theorem evPairOf_n39 : allR ok_PairOf 10 4 6 (fun l => 40 :: 40 :: 40 :: 41 :: 40 :: 40 :: 40 :: 41 :: l) = true := evPairOf_join ok_PairOf 9 3 6 (fun l => 40 :: 40 :: 40 :: 41 :: 40 :: 40 :: 40 :: 41 :: l) (by decide) evPairOf_c43 evPairOf_c44
theorem evPairOf_n40 : allR ok_PairOf 11 5 6 (fun l => 40 :: 40 :: 40 :: 41 :: 40 :: 40 :: 40 :: l) = true := evPairOf_join ok_PairOf 10 4 6 (fun l => 40 :: 40 :: 40 :: 41 :: 40 :: 40 :: 40 :: l) (by decide) evPairOf_n39 evPairOf_c45
theorem evPairOf_n41 : allR ok_PairOf 12 4 5 (fun l => 40 :: 40 :: 40 :: 41 :: 40 :: 40 :: l) = true := evPairOf_join ok_PairOf 11 3 5 (fun l => 40 :: 40 :: 40 :: 41 :: 40 :: 40 :: l) (by decide) evPairOf_n38 evPairOf_n40
theorem evPairOf_n42 : allR ok_PairOf 13 3 4 (fun l => 40 :: 40 :: 40 :: 41 :: 40 :: l) = true := evPairOf_join ok_PairOf 12 2 4 (fun l => 40 :: 40 :: 40 :: 41 :: 40 :: l) (by decide) evPairOf_n35 evPairOf_n41
theorem evPairOf_n43 : allR ok_PairOf 14 2 3 (fun l => 40 :: 40 :: 40 :: 41 :: l) = true := evPairOf_join ok_PairOf 13 1 3 (fun l => 40 :: 40 :: 40 :: 41 :: l) (by decide) evPairOf_n29 evPairOf_n42
theorem evPairOf_n44 : allR ok_PairOf 10 2 5 (fun l => 40 :: 40 :: 40 :: 40 :: 41 :: 41 :: 41 :: 40 :: l) = true := evPairOf_join ok_PairOf 9 1 5 (fun l => 40 :: 40 :: 40 :: 40 :: 41 :: 41 :: 41 :: 40 :: l) (by decide) evPairOf_c47 evPairOf_c48
theorem evPairOf_n45 : allR ok_PairOf 11 1 4 (fun l => 40 :: 40 :: 40 :: 40 :: 41 :: 41 :: 41 :: l) = true := evPairOf_join ok_PairOf 10 0 4 (fun l => 40 :: 40 :: 40 :: 40 :: 41 :: 41 :: 41 :: l) (by decide) evPairOf_c46 evPairOf_n44
theorem evPairOf_n46 : allR ok_PairOf 10 2 5 (fun l => 40 :: 40 :: 40 :: 40 :: 41 :: 41 :: 40 :: 41 :: l) = true := evPairOf_join ok_PairOf 9 1 5 (fun l => 40 :: 40 :: 40 :: 40 :: 41 :: 41 :: 40 :: 41 :: l) (by decide) evPairOf_c49 evPairOf_c50
theorem evPairOf_n47 : allR ok_PairOf 10 4 6 (fun l => 40 :: 40 :: 40 :: 40 :: 41 :: 41 :: 40 :: 40 :: l) = true := evPairOf_join ok_PairOf 9 3 6 (fun l => 40 :: 40 :: 40 :: 40 :: 41 :: 41 :: 40 :: 40 :: l) (by decide) evPairOf_c51 evPairOf_c52
theorem evPairOf_n48 : allR ok_PairOf 11 3 5 (fun l => 40 :: 40 :: 40 :: 40 :: 41 :: 41 :: 40 :: l) = true := evPairOf_join ok_PairOf 10 2 5 (fun l => 40 :: 40 :: 40 :: 40 :: 41 :: 41 :: 40 :: l) (by decide) evPairOf_n46 evPairOf_n47
theorem evPairOf_n49 : allR ok_PairOf 12 2 4 (fun l => 40 :: 40 :: 40 :: 40 :: 41 :: 41 :: l) = true := evPairOf_join ok_PairOf 11 1 4 (fun l => 40 :: 40 :: 40 :: 40 :: 41 :: 41 :: l) (by decide) evPairOf_n45 evPairOf_n48
theorem evPairOf_n50 : allR ok_PairOf 10 2 5 (fun l => 40 :: 40 :: 40 :: 40 :: 41 :: 40 :: 41 :: 41 :: l) = true := evPairOf_join ok_PairOf 9 1 5 (fun l => 40 :: 40 :: 40 :: 40 :: 41 :: 40 :: 41 :: 41 :: l) (by decide) evPairOf_c53 evPairOf_c54
theorem evPairOf_n51 : allR ok_PairOf 10 4 6 (fun l => 40 :: 40 :: 40 :: 40 :: 41 :: 40 :: 41 :: 40 :: l) = true := evPairOf_join ok_PairOf 9 3 6 (fun l => 40 :: 40 :: 40 :: 40 :: 41 :: 40 :: 41 :: 40 :: l) (by decide) evPairOf_c55 evPairOf_c56
theorem evPairOf_n52 : allR ok_PairOf 11 3 5 (fun l => 40 :: 40 :: 40 :: 40 :: 41 :: 40 :: 41 :: l) = true := evPairOf_join ok_PairOf 10 2 5 (fun l => 40 :: 40 :: 40 :: 40 :: 41 :: 40 :: 41 :: l) (by decide) evPairOf_n50 evPairOf_n51
theorem evPairOf_n53 : allR ok_PairOf 10 4 6 (fun l => 40 :: 40 :: 40 :: 40 :: 41 :: 40 :: 40 :: 41 :: l) = true := evPairOf_join ok_PairOf 9 3 6 (fun l => 40 :: 40 :: 40 :: 40 :: 41 :: 40 :: 40 :: 41 :: l) (by decide) evPairOf_c57 evPairOf_c58
theorem evPairOf_n54 : allR ok_PairOf 11 5 6 (fun l => 40 :: 40 :: 40 :: 40 :: 41 :: 40 :: 40 :: l) = true := evPairOf_join ok_PairOf 10 4 6 (fun l => 40 :: 40 :: 40 :: 40 :: 41 :: 40 :: 40 :: l) (by decide) evPairOf_n53 evPairOf_c59
theorem evPairOf_n55 : allR ok_PairOf 12 4 5 (fun l => 40 :: 40 :: 40 :: 40 :: 41 :: 40 :: l) = true := evPairOf_join ok_PairOf 11 3 5 (fun l => 40 :: 40 :: 40 :: 40 :: 41 :: 40 :: l) (by decide) evPairOf_n52 evPairOf_n54
theorem evPairOf_n56 : allR ok_PairOf 13 3 4 (fun l => 40 :: 40 :: 40 :: 40 :: 41 :: l) = true := evPairOf_join ok_PairOf 12 2 4 (fun l => 40 :: 40 :: 40 :: 40 :: 41 :: l) (by decide) evPairOf_n49 evPairOf_n55
theorem evPairOf_n57 : allR ok_PairOf 10 2 5 (fun l => 40 :: 40 :: 40 :: 40 :: 40 :: 41 :: 41 :: 41 :: l) = true := evPairOf_join ok_PairOf 9 1 5 (fun l => 40 :: 40 :: 40 :: 40 :: 40 :: 41 :: 41 :: 41 :: l) (by decide) evPairOf_c60 evPairOf_c61
theorem evPairOf_n58 : allR ok_PairOf 10 4 6 (fun l => 40 :: 40 :: 40 :: 40 :: 40 :: 41 :: 41 :: 40 :: l) = true := evPairOf_join ok_PairOf 9 3 6 (fun l => 40 :: 40 :: 40 :: 40 :: 40 :: 41 :: 41 :: 40 :: l) (by decide) evPairOf_c62 evPairOf_c63
theorem evPairOf_n59 : allR ok_PairOf 11 3 5 (fun l => 40 :: 40 :: 40 :: 40 :: 40 :: 41 :: 41 :: l) = true := evPairOf_join ok_PairOf 10 2 5 (fun l => 40 :: 40 :: 40 :: 40 :: 40 :: 41 :: 41 :: l) (by decide) evPairOf_n57 evPairOf_n58
theorem evPairOf_n60 : allR ok_PairOf 10 4 6 (fun l => 40 :: 40 :: 40 :: 40 :: 40 :: 41 :: 40 :: 41 :: l) = true := evPairOf_join ok_PairOf 9 3 6 (fun l => 40 :: 40 :: 40 :: 40 :: 40 :: 41 :: 40 :: 41 :: l) (by decide) evPairOf_c64 evPairOf_c65
theorem evPairOf_n61 : allR ok_PairOf 11 5 6 (fun l => 40 :: 40 :: 40 :: 40 :: 40 :: 41 :: 40 :: l) = true := evPairOf_join ok_PairOf 10 4 6 (fun l => 40 :: 40 :: 40 :: 40 :: 40 :: 41 :: 40 :: l) (by decide) evPairOf_n60 evPairOf_c66
theorem evPairOf_n62 : allR ok_PairOf 12 4 5 (fun l => 40 :: 40 :: 40 :: 40 :: 40 :: 41 :: l) = true := evPairOf_join ok_PairOf 11 3 5 (fun l => 40 :: 40 :: 40 :: 40 :: 40 :: 41 :: l) (by decide) evPairOf_n59 evPairOf_n61
theorem evPairOf_n63 : allR ok_PairOf 10 4 6 (fun l => 40 :: 40 :: 40 :: 40 :: 40 :: 40 :: 41 :: 41 :: l) = true := evPairOf_join ok_PairOf 9 3 6 (fun l => 40 :: 40 :: 40 :: 40 :: 40 :: 40 :: 41 :: 41 :: l) (by decide) evPairOf_c67 evPairOf_c68
theorem evPairOf_n64 : allR ok_PairOf 11 5 6 (fun l => 40 :: 40 :: 40 :: 40 :: 40 :: 40 :: 41 :: l) = true := evPairOf_join ok_PairOf 10 4 6 (fun l => 40 :: 40 :: 40 :: 40 :: 40 :: 40 :: 41 :: l) (by decide) evPairOf_n63 evPairOf_c69
theorem evPairOf_n65 : allR ok_PairOf 12 6 6 (fun l => 40 :: 40 :: 40 :: 40 :: 40 :: 40 :: l) = true := evPairOf_join ok_PairOf 11 5 6 (fun l => 40 :: 40 :: 40 :: 40 :: 40 :: 40 :: l) (by decide) evPairOf_n64 evPairOf_c70
theorem evPairOf_n66 : allR ok_PairOf 13 5 5 (fun l => 40 :: 40 :: 40 :: 40 :: 40 :: l) = true := evPairOf_join ok_PairOf 12 4 5 (fun l => 40 :: 40 :: 40 :: 40 :: 40 :: l) (by decide) evPairOf_n62 evPairOf_n65
theorem evPairOf_n67 : allR ok_PairOf 14 4 4 (fun l => 40 :: 40 :: 40 :: 40 :: l) = true := evPairOf_join ok_PairOf 13 3 4 (fun l => 40 :: 40 :: 40 :: 40 :: l) (by decide) evPairOf_n56 evPairOf_n66
theorem evPairOf_n68 : allR ok_PairOf 15 3 3 (fun l => 40 :: 40 :: 40 :: l) = true := evPairOf_join ok_PairOf 14 2 3 (fun l => 40 :: 40 :: 40 :: l) (by decide) evPairOf_n43 evPairOf_n67
theorem evPairOf_n69 : allR ok_PairOf 16 2 2 (fun l => 40 :: 40 :: l) = true := evPairOf_join ok_PairOf 15 1 2 (fun l => 40 :: 40 :: l) (by decide) evPairOf_n22 evPairOf_n68
theorem evPairOf_n70 : allR ok_PairOf 17 1 1 (fun l => 40 :: l) = true := evPairOf_join ok_PairOf 16 0 1 (fun l => 40 :: l) (by decide) evPairOf_c0 evPairOf_n69
theorem evPairOf_all : allR ok_PairOf 17 1 1 (fun l => 40 :: l) = true := evPairOf_n70
end
end Go.AI.T
