/- The parts of the evaluation together. -/
import Derived.Test.YtecighkgpjdhaaaPairInEv0
import Derived.Test.YtecighkgpjdhaaaPairInEv1
import Derived.Test.YtecighkgpjdhaaaPairInEv2
import Derived.Test.YtecighkgpjdhaaaPairInEv3
import Derived.Test.YtecighkgpjdhaaaPairInEv4
import Derived.Test.YtecighkgpjdhaaaPairInEv5
import Derived.Test.YtecighkgpjdhaaaPairInEv6
import Derived.Test.YtecighkgpjdhaaaPairInEv7
namespace Go.AI.T
open Go Go.RowKit Go.AI
set_option linter.unusedVariables false
set_option linter.unusedSimpArgs false
set_option maxRecDepth 100000
noncomputable section
theorem evPairIn_join (t : List Nat → Bool) (f d m : Nat) (p : List Nat → List Nat) (hm : m + 1 ≤ 9) (h1 : allR t f d m (fun l => p (41 :: l)) = true) (h2 : allR t f (d + 2) (m + 1) (fun l => p (40 :: l)) = true) : allR t (f + 1) (d + 1) m p = true := by
  show bc (allR t f d m (fun l => p (41 :: l))) (bc (Nat.ble (m + 1) 9) (allR t f (d + 2) (m + 1) (fun l => p (40 :: l))) true) false = true
  rw [h1, h2, Nat.ble_eq_true_of_le hm]; rfl
theorem evPairIn_join9 (t : List Nat → Bool) (f d : Nat) (p : List Nat → List Nat) (h1 : allR t f d 9 (fun l => p (41 :: l)) = true) : allR t (f + 1) (d + 1) 9 p = true := by
  show bc (allR t f d 9 (fun l => p (41 :: l))) (bc (Nat.ble (9 + 1) 9) (allR t f (d + 2) (9 + 1) (fun l => p (40 :: l))) true) false = true
  rw [h1]; rfl
theorem evPairIn_n1 : allR ok_PairIn 10 2 5 (fun l => 40 :: 40 :: 41 :: 40 :: 41 :: 40 :: 41 :: 40 :: l) = true := evPairIn_join ok_PairIn 9 1 5 (fun l => 40 :: 40 :: 41 :: 40 :: 41 :: 40 :: 41 :: 40 :: l) (by decide) evPairIn_c4 evPairIn_c5
theorem evPairIn_n2 : allR ok_PairIn 11 1 4 (fun l => 40 :: 40 :: 41 :: 40 :: 41 :: 40 :: 41 :: l) = true := evPairIn_join ok_PairIn 10 0 4 (fun l => 40 :: 40 :: 41 :: 40 :: 41 :: 40 :: 41 :: l) (by decide) evPairIn_c3 evPairIn_n1
theorem evPairIn_n3 : allR ok_PairIn 10 2 5 (fun l => 40 :: 40 :: 41 :: 40 :: 41 :: 40 :: 40 :: 41 :: l) = true := evPairIn_join ok_PairIn 9 1 5 (fun l => 40 :: 40 :: 41 :: 40 :: 41 :: 40 :: 40 :: 41 :: l) (by decide) evPairIn_c6 evPairIn_c7
theorem evPairIn_n4 : allR ok_PairIn 10 4 6 (fun l => 40 :: 40 :: 41 :: 40 :: 41 :: 40 :: 40 :: 40 :: l) = true := evPairIn_join ok_PairIn 9 3 6 (fun l => 40 :: 40 :: 41 :: 40 :: 41 :: 40 :: 40 :: 40 :: l) (by decide) evPairIn_c8 evPairIn_c9
theorem evPairIn_n5 : allR ok_PairIn 11 3 5 (fun l => 40 :: 40 :: 41 :: 40 :: 41 :: 40 :: 40 :: l) = true := evPairIn_join ok_PairIn 10 2 5 (fun l => 40 :: 40 :: 41 :: 40 :: 41 :: 40 :: 40 :: l) (by decide) evPairIn_n3 evPairIn_n4
theorem evPairIn_n6 : allR ok_PairIn 12 2 4 (fun l => 40 :: 40 :: 41 :: 40 :: 41 :: 40 :: l) = true := evPairIn_join ok_PairIn 11 1 4 (fun l => 40 :: 40 :: 41 :: 40 :: 41 :: 40 :: l) (by decide) evPairIn_n2 evPairIn_n5
theorem evPairIn_n7 : allR ok_PairIn 13 1 3 (fun l => 40 :: 40 :: 41 :: 40 :: 41 :: l) = true := evPairIn_join ok_PairIn 12 0 3 (fun l => 40 :: 40 :: 41 :: 40 :: 41 :: l) (by decide) evPairIn_c2 evPairIn_n6
theorem evPairIn_n8 : allR ok_PairIn 10 2 5 (fun l => 40 :: 40 :: 41 :: 40 :: 40 :: 41 :: 41 :: 40 :: l) = true := evPairIn_join ok_PairIn 9 1 5 (fun l => 40 :: 40 :: 41 :: 40 :: 40 :: 41 :: 41 :: 40 :: l) (by decide) evPairIn_c11 evPairIn_c12
theorem evPairIn_n9 : allR ok_PairIn 11 1 4 (fun l => 40 :: 40 :: 41 :: 40 :: 40 :: 41 :: 41 :: l) = true := evPairIn_join ok_PairIn 10 0 4 (fun l => 40 :: 40 :: 41 :: 40 :: 40 :: 41 :: 41 :: l) (by decide) evPairIn_c10 evPairIn_n8
theorem evPairIn_n10 : allR ok_PairIn 10 2 5 (fun l => 40 :: 40 :: 41 :: 40 :: 40 :: 41 :: 40 :: 41 :: l) = true := evPairIn_join ok_PairIn 9 1 5 (fun l => 40 :: 40 :: 41 :: 40 :: 40 :: 41 :: 40 :: 41 :: l) (by decide) evPairIn_c13 evPairIn_c14
theorem evPairIn_n11 : allR ok_PairIn 10 4 6 (fun l => 40 :: 40 :: 41 :: 40 :: 40 :: 41 :: 40 :: 40 :: l) = true := evPairIn_join ok_PairIn 9 3 6 (fun l => 40 :: 40 :: 41 :: 40 :: 40 :: 41 :: 40 :: 40 :: l) (by decide) evPairIn_c15 evPairIn_c16
theorem evPairIn_n12 : allR ok_PairIn 11 3 5 (fun l => 40 :: 40 :: 41 :: 40 :: 40 :: 41 :: 40 :: l) = true := evPairIn_join ok_PairIn 10 2 5 (fun l => 40 :: 40 :: 41 :: 40 :: 40 :: 41 :: 40 :: l) (by decide) evPairIn_n10 evPairIn_n11
theorem evPairIn_n13 : allR ok_PairIn 12 2 4 (fun l => 40 :: 40 :: 41 :: 40 :: 40 :: 41 :: l) = true := evPairIn_join ok_PairIn 11 1 4 (fun l => 40 :: 40 :: 41 :: 40 :: 40 :: 41 :: l) (by decide) evPairIn_n9 evPairIn_n12
theorem evPairIn_n14 : allR ok_PairIn 10 2 5 (fun l => 40 :: 40 :: 41 :: 40 :: 40 :: 40 :: 41 :: 41 :: l) = true := evPairIn_join ok_PairIn 9 1 5 (fun l => 40 :: 40 :: 41 :: 40 :: 40 :: 40 :: 41 :: 41 :: l) (by decide) evPairIn_c17 evPairIn_c18
theorem evPairIn_n15 : allR ok_PairIn 10 4 6 (fun l => 40 :: 40 :: 41 :: 40 :: 40 :: 40 :: 41 :: 40 :: l) = true := evPairIn_join ok_PairIn 9 3 6 (fun l => 40 :: 40 :: 41 :: 40 :: 40 :: 40 :: 41 :: 40 :: l) (by decide) evPairIn_c19 evPairIn_c20
theorem evPairIn_n16 : allR ok_PairIn 11 3 5 (fun l => 40 :: 40 :: 41 :: 40 :: 40 :: 40 :: 41 :: l) = true := evPairIn_join ok_PairIn 10 2 5 (fun l => 40 :: 40 :: 41 :: 40 :: 40 :: 40 :: 41 :: l) (by decide) evPairIn_n14 evPairIn_n15
theorem evPairIn_n17 : allR ok_PairIn 10 4 6 (fun l => 40 :: 40 :: 41 :: 40 :: 40 :: 40 :: 40 :: 41 :: l) = true := evPairIn_join ok_PairIn 9 3 6 (fun l => 40 :: 40 :: 41 :: 40 :: 40 :: 40 :: 40 :: 41 :: l) (by decide) evPairIn_c21 evPairIn_c22
theorem evPairIn_n18 : allR ok_PairIn 11 5 6 (fun l => 40 :: 40 :: 41 :: 40 :: 40 :: 40 :: 40 :: l) = true := evPairIn_join ok_PairIn 10 4 6 (fun l => 40 :: 40 :: 41 :: 40 :: 40 :: 40 :: 40 :: l) (by decide) evPairIn_n17 evPairIn_c23
theorem evPairIn_n19 : allR ok_PairIn 12 4 5 (fun l => 40 :: 40 :: 41 :: 40 :: 40 :: 40 :: l) = true := evPairIn_join ok_PairIn 11 3 5 (fun l => 40 :: 40 :: 41 :: 40 :: 40 :: 40 :: l) (by decide) evPairIn_n16 evPairIn_n18
theorem evPairIn_n20 : allR ok_PairIn 13 3 4 (fun l => 40 :: 40 :: 41 :: 40 :: 40 :: l) = true := evPairIn_join ok_PairIn 12 2 4 (fun l => 40 :: 40 :: 41 :: 40 :: 40 :: l) (by decide) evPairIn_n13 evPairIn_n19
theorem evPairIn_n21 : allR ok_PairIn 14 2 3 (fun l => 40 :: 40 :: 41 :: 40 :: l) = true := evPairIn_join ok_PairIn 13 1 3 (fun l => 40 :: 40 :: 41 :: 40 :: l) (by decide) evPairIn_n7 evPairIn_n20
theorem evPairIn_n22 : allR ok_PairIn 15 1 2 (fun l => 40 :: 40 :: 41 :: l) = true := evPairIn_join ok_PairIn 14 0 2 (fun l => 40 :: 40 :: 41 :: l) (by decide) evPairIn_c1 evPairIn_n21
theorem evPairIn_n23 : allR ok_PairIn 10 2 5 (fun l => 40 :: 40 :: 40 :: 41 :: 41 :: 40 :: 41 :: 40 :: l) = true := evPairIn_join ok_PairIn 9 1 5 (fun l => 40 :: 40 :: 40 :: 41 :: 41 :: 40 :: 41 :: 40 :: l) (by decide) evPairIn_c26 evPairIn_c27
theorem evPairIn_n24 : allR ok_PairIn 11 1 4 (fun l => 40 :: 40 :: 40 :: 41 :: 41 :: 40 :: 41 :: l) = true := evPairIn_join ok_PairIn 10 0 4 (fun l => 40 :: 40 :: 40 :: 41 :: 41 :: 40 :: 41 :: l) (by decide) evPairIn_c25 evPairIn_n23
theorem evPairIn_n25 : allR ok_PairIn 10 2 5 (fun l => 40 :: 40 :: 40 :: 41 :: 41 :: 40 :: 40 :: 41 :: l) = true := evPairIn_join ok_PairIn 9 1 5 (fun l => 40 :: 40 :: 40 :: 41 :: 41 :: 40 :: 40 :: 41 :: l) (by decide) evPairIn_c28 evPairIn_c29
theorem evPairIn_n26 : allR ok_PairIn 10 4 6 (fun l => 40 :: 40 :: 40 :: 41 :: 41 :: 40 :: 40 :: 40 :: l) = true := evPairIn_join ok_PairIn 9 3 6 (fun l => 40 :: 40 :: 40 :: 41 :: 41 :: 40 :: 40 :: 40 :: l) (by decide) evPairIn_c30 evPairIn_c31
theorem evPairIn_n27 : allR ok_PairIn 11 3 5 (fun l => 40 :: 40 :: 40 :: 41 :: 41 :: 40 :: 40 :: l) = true := evPairIn_join ok_PairIn 10 2 5 (fun l => 40 :: 40 :: 40 :: 41 :: 41 :: 40 :: 40 :: l) (by decide) evPairIn_n25 evPairIn_n26
theorem evPairIn_n28 : allR ok_PairIn 12 2 4 (fun l => 40 :: 40 :: 40 :: 41 :: 41 :: 40 :: l) = true := evPairIn_join ok_PairIn 11 1 4 (fun l => 40 :: 40 :: 40 :: 41 :: 41 :: 40 :: l) (by decide) evPairIn_n24 evPairIn_n27
theorem evPairIn_n29 : allR ok_PairIn 13 1 3 (fun l => 40 :: 40 :: 40 :: 41 :: 41 :: l) = true := evPairIn_join ok_PairIn 12 0 3 (fun l => 40 :: 40 :: 40 :: 41 :: 41 :: l) (by decide) evPairIn_c24 evPairIn_n28
theorem evPairIn_n30 : allR ok_PairIn 10 2 5 (fun l => 40 :: 40 :: 40 :: 41 :: 40 :: 41 :: 41 :: 40 :: l) = true := evPairIn_join ok_PairIn 9 1 5 (fun l => 40 :: 40 :: 40 :: 41 :: 40 :: 41 :: 41 :: 40 :: l) (by decide) evPairIn_c33 evPairIn_c34
theorem evPairIn_n31 : allR ok_PairIn 11 1 4 (fun l => 40 :: 40 :: 40 :: 41 :: 40 :: 41 :: 41 :: l) = true := evPairIn_join ok_PairIn 10 0 4 (fun l => 40 :: 40 :: 40 :: 41 :: 40 :: 41 :: 41 :: l) (by decide) evPairIn_c32 evPairIn_n30
theorem evPairIn_n32 : allR ok_PairIn 10 2 5 (fun l => 40 :: 40 :: 40 :: 41 :: 40 :: 41 :: 40 :: 41 :: l) = true := evPairIn_join ok_PairIn 9 1 5 (fun l => 40 :: 40 :: 40 :: 41 :: 40 :: 41 :: 40 :: 41 :: l) (by decide) evPairIn_c35 evPairIn_c36
theorem evPairIn_n33 : allR ok_PairIn 10 4 6 (fun l => 40 :: 40 :: 40 :: 41 :: 40 :: 41 :: 40 :: 40 :: l) = true := evPairIn_join ok_PairIn 9 3 6 (fun l => 40 :: 40 :: 40 :: 41 :: 40 :: 41 :: 40 :: 40 :: l) (by decide) evPairIn_c37 evPairIn_c38
theorem evPairIn_n34 : allR ok_PairIn 11 3 5 (fun l => 40 :: 40 :: 40 :: 41 :: 40 :: 41 :: 40 :: l) = true := evPairIn_join ok_PairIn 10 2 5 (fun l => 40 :: 40 :: 40 :: 41 :: 40 :: 41 :: 40 :: l) (by decide) evPairIn_n32 evPairIn_n33
theorem evPairIn_n35 : allR ok_PairIn 12 2 4 (fun l => 40 :: 40 :: 40 :: 41 :: 40 :: 41 :: l) = true := evPairIn_join ok_PairIn 11 1 4 (fun l => 40 :: 40 :: 40 :: 41 :: 40 :: 41 :: l) (by decide) evPairIn_n31 evPairIn_n34
theorem evPairIn_n36 : allR ok_PairIn 10 2 5 (fun l => 40 :: 40 :: 40 :: 41 :: 40 :: 40 :: 41 :: 41 :: l) = true := evPairIn_join ok_PairIn 9 1 5 (fun l => 40 :: 40 :: 40 :: 41 :: 40 :: 40 :: 41 :: 41 :: l) (by decide) evPairIn_c39 evPairIn_c40
theorem evPairIn_n37 : allR ok_PairIn 10 4 6 (fun l => 40 :: 40 :: 40 :: 41 :: 40 :: 40 :: 41 :: 40 :: l) = true := evPairIn_join ok_PairIn 9 3 6 (fun l => 40 :: 40 :: 40 :: 41 :: 40 :: 40 :: 41 :: 40 :: l) (by decide) evPairIn_c41 evPairIn_c42
theorem evPairIn_n38 : allR ok_PairIn 11 3 5 (fun l => 40 :: 40 :: 40 :: 41 :: 40 :: 40 :: 41 :: l) = true := evPairIn_join ok_PairIn 10 2 5 (fun l => 40 :: 40 :: 40 :: 41 :: 40 :: 40 :: 41 :: l) (by decide) evPairIn_n36 evPairIn_n37
theorem evPairIn_n39 : allR ok_PairIn 10 4 6 (fun l => 40 :: 40 :: 40 :: 41 :: 40 :: 40 :: 40 :: 41 :: l) = true := evPairIn_join ok_PairIn 9 3 6 (fun l => 40 :: 40 :: 40 :: 41 :: 40 :: 40 :: 40 :: 41 :: l) (by decide) evPairIn_c43 evPairIn_c44
theorem evPairIn_n40 : allR ok_PairIn 11 5 6 (fun l => 40 :: 40 :: 40 :: 41 :: 40 :: 40 :: 40 :: l) = true := evPairIn_join ok_PairIn 10 4 6 (fun l => 40 :: 40 :: 40 :: 41 :: 40 :: 40 :: 40 :: l) (by decide) evPairIn_n39 evPairIn_c45
theorem evPairIn_n41 : allR ok_PairIn 12 4 5 (fun l => 40 :: 40 :: 40 :: 41 :: 40 :: 40 :: l) = true := evPairIn_join ok_PairIn 11 3 5 (fun l => 40 :: 40 :: 40 :: 41 :: 40 :: 40 :: l) (by decide) evPairIn_n38 evPairIn_n40
theorem evPairIn_n42 : allR ok_PairIn 13 3 4 (fun l => 40 :: 40 :: 40 :: 41 :: 40 :: l) = true := evPairIn_join ok_PairIn 12 2 4 (fun l => 40 :: 40 :: 40 :: 41 :: 40 :: l) (by decide) evPairIn_n35 evPairIn_n41
theorem evPairIn_n43 : allR ok_PairIn 14 2 3 (fun l => 40 :: 40 :: 40 :: 41 :: l) = true := evPairIn_join ok_PairIn 13 1 3 (fun l => 40 :: 40 :: 40 :: 41 :: l) (by decide) evPairIn_n29 evPairIn_n42
theorem evPairIn_n44 : allR ok_PairIn 10 2 5 (fun l => 40 :: 40 :: 40 :: 40 :: 41 :: 41 :: 41 :: 40 :: l) = true := evPairIn_join ok_PairIn 9 1 5 (fun l => 40 :: 40 :: 40 :: 40 :: 41 :: 41 :: 41 :: 40 :: l) (by decide) evPairIn_c47 evPairIn_c48
theorem evPairIn_n45 : allR ok_PairIn 11 1 4 (fun l => 40 :: 40 :: 40 :: 40 :: 41 :: 41 :: 41 :: l) = true := evPairIn_join ok_PairIn 10 0 4 (fun l => 40 :: 40 :: 40 :: 40 :: 41 :: 41 :: 41 :: l) (by decide) evPairIn_c46 evPairIn_n44
theorem evPairIn_n46 : allR ok_PairIn 10 2 5 (fun l => 40 :: 40 :: 40 :: 40 :: 41 :: 41 :: 40 :: 41 :: l) = true := evPairIn_join ok_PairIn 9 1 5 (fun l => 40 :: 40 :: 40 :: 40 :: 41 :: 41 :: 40 :: 41 :: l) (by decide) evPairIn_c49 evPairIn_c50
theorem evPairIn_n47 : allR ok_PairIn 10 4 6 (fun l => 40 :: 40 :: 40 :: 40 :: 41 :: 41 :: 40 :: 40 :: l) = true := evPairIn_join ok_PairIn 9 3 6 (fun l => 40 :: 40 :: 40 :: 40 :: 41 :: 41 :: 40 :: 40 :: l) (by decide) evPairIn_c51 evPairIn_c52
theorem evPairIn_n48 : allR ok_PairIn 11 3 5 (fun l => 40 :: 40 :: 40 :: 40 :: 41 :: 41 :: 40 :: l) = true := evPairIn_join ok_PairIn 10 2 5 (fun l => 40 :: 40 :: 40 :: 40 :: 41 :: 41 :: 40 :: l) (by decide) evPairIn_n46 evPairIn_n47
theorem evPairIn_n49 : allR ok_PairIn 12 2 4 (fun l => 40 :: 40 :: 40 :: 40 :: 41 :: 41 :: l) = true := evPairIn_join ok_PairIn 11 1 4 (fun l => 40 :: 40 :: 40 :: 40 :: 41 :: 41 :: l) (by decide) evPairIn_n45 evPairIn_n48
theorem evPairIn_n50 : allR ok_PairIn 10 2 5 (fun l => 40 :: 40 :: 40 :: 40 :: 41 :: 40 :: 41 :: 41 :: l) = true := evPairIn_join ok_PairIn 9 1 5 (fun l => 40 :: 40 :: 40 :: 40 :: 41 :: 40 :: 41 :: 41 :: l) (by decide) evPairIn_c53 evPairIn_c54
theorem evPairIn_n51 : allR ok_PairIn 10 4 6 (fun l => 40 :: 40 :: 40 :: 40 :: 41 :: 40 :: 41 :: 40 :: l) = true := evPairIn_join ok_PairIn 9 3 6 (fun l => 40 :: 40 :: 40 :: 40 :: 41 :: 40 :: 41 :: 40 :: l) (by decide) evPairIn_c55 evPairIn_c56
theorem evPairIn_n52 : allR ok_PairIn 11 3 5 (fun l => 40 :: 40 :: 40 :: 40 :: 41 :: 40 :: 41 :: l) = true := evPairIn_join ok_PairIn 10 2 5 (fun l => 40 :: 40 :: 40 :: 40 :: 41 :: 40 :: 41 :: l) (by decide) evPairIn_n50 evPairIn_n51
theorem evPairIn_n53 : allR ok_PairIn 10 4 6 (fun l => 40 :: 40 :: 40 :: 40 :: 41 :: 40 :: 40 :: 41 :: l) = true := evPairIn_join ok_PairIn 9 3 6 (fun l => 40 :: 40 :: 40 :: 40 :: 41 :: 40 :: 40 :: 41 :: l) (by decide) evPairIn_c57 evPairIn_c58
theorem evPairIn_n54 : allR ok_PairIn 11 5 6 (fun l => 40 :: 40 :: 40 :: 40 :: 41 :: 40 :: 40 :: l) = true := evPairIn_join ok_PairIn 10 4 6 (fun l => 40 :: 40 :: 40 :: 40 :: 41 :: 40 :: 40 :: l) (by decide) evPairIn_n53 evPairIn_c59
theorem evPairIn_n55 : allR ok_PairIn 12 4 5 (fun l => 40 :: 40 :: 40 :: 40 :: 41 :: 40 :: l) = true := evPairIn_join ok_PairIn 11 3 5 (fun l => 40 :: 40 :: 40 :: 40 :: 41 :: 40 :: l) (by decide) evPairIn_n52 evPairIn_n54
theorem evPairIn_n56 : allR ok_PairIn 13 3 4 (fun l => 40 :: 40 :: 40 :: 40 :: 41 :: l) = true := evPairIn_join ok_PairIn 12 2 4 (fun l => 40 :: 40 :: 40 :: 40 :: 41 :: l) (by decide) evPairIn_n49 evPairIn_n55
theorem evPairIn_n57 : allR ok_PairIn 10 2 5 (fun l => 40 :: 40 :: 40 :: 40 :: 40 :: 41 :: 41 :: 41 :: l) = true := evPairIn_join ok_PairIn 9 1 5 (fun l => 40 :: 40 :: 40 :: 40 :: 40 :: 41 :: 41 :: 41 :: l) (by decide) evPairIn_c60 evPairIn_c61
theorem evPairIn_n58 : allR ok_PairIn 10 4 6 (fun l => 40 :: 40 :: 40 :: 40 :: 40 :: 41 :: 41 :: 40 :: l) = true := evPairIn_join ok_PairIn 9 3 6 (fun l => 40 :: 40 :: 40 :: 40 :: 40 :: 41 :: 41 :: 40 :: l) (by decide) evPairIn_c62 evPairIn_c63
theorem evPairIn_n59 : allR ok_PairIn 11 3 5 (fun l => 40 :: 40 :: 40 :: 40 :: 40 :: 41 :: 41 :: l) = true := evPairIn_join ok_PairIn 10 2 5 (fun l => 40 :: 40 :: 40 :: 40 :: 40 :: 41 :: 41 :: l) (by decide) evPairIn_n57 evPairIn_n58
theorem evPairIn_n60 : allR ok_PairIn 10 4 6 (fun l => 40 :: 40 :: 40 :: 40 :: 40 :: 41 :: 40 :: 41 :: l) = true := evPairIn_join ok_PairIn 9 3 6 (fun l => 40 :: 40 :: 40 :: 40 :: 40 :: 41 :: 40 :: 41 :: l) (by decide) evPairIn_c64 evPairIn_c65
theorem evPairIn_n61 : allR ok_PairIn 11 5 6 (fun l => 40 :: 40 :: 40 :: 40 :: 40 :: 41 :: 40 :: l) = true := evPairIn_join ok_PairIn 10 4 6 (fun l => 40 :: 40 :: 40 :: 40 :: 40 :: 41 :: 40 :: l) (by decide) evPairIn_n60 evPairIn_c66
theorem evPairIn_n62 : allR ok_PairIn 12 4 5 (fun l => 40 :: 40 :: 40 :: 40 :: 40 :: 41 :: l) = true := evPairIn_join ok_PairIn 11 3 5 (fun l => 40 :: 40 :: 40 :: 40 :: 40 :: 41 :: l) (by decide) evPairIn_n59 evPairIn_n61
theorem evPairIn_n63 : allR ok_PairIn 10 4 6 (fun l => 40 :: 40 :: 40 :: 40 :: 40 :: 40 :: 41 :: 41 :: l) = true := evPairIn_join ok_PairIn 9 3 6 (fun l => 40 :: 40 :: 40 :: 40 :: 40 :: 40 :: 41 :: 41 :: l) (by decide) evPairIn_c67 evPairIn_c68
theorem evPairIn_n64 : allR ok_PairIn 11 5 6 (fun l => 40 :: 40 :: 40 :: 40 :: 40 :: 40 :: 41 :: l) = true := evPairIn_join ok_PairIn 10 4 6 (fun l => 40 :: 40 :: 40 :: 40 :: 40 :: 40 :: 41 :: l) (by decide) evPairIn_n63 evPairIn_c69
theorem evPairIn_n65 : allR ok_PairIn 12 6 6 (fun l => 40 :: 40 :: 40 :: 40 :: 40 :: 40 :: l) = true := evPairIn_join ok_PairIn 11 5 6 (fun l => 40 :: 40 :: 40 :: 40 :: 40 :: 40 :: l) (by decide) evPairIn_n64 evPairIn_c70
theorem evPairIn_n66 : allR ok_PairIn 13 5 5 (fun l => 40 :: 40 :: 40 :: 40 :: 40 :: l) = true := evPairIn_join ok_PairIn 12 4 5 (fun l => 40 :: 40 :: 40 :: 40 :: 40 :: l) (by decide) evPairIn_n62 evPairIn_n65
theorem evPairIn_n67 : allR ok_PairIn 14 4 4 (fun l => 40 :: 40 :: 40 :: 40 :: l) = true := evPairIn_join ok_PairIn 13 3 4 (fun l => 40 :: 40 :: 40 :: 40 :: l) (by decide) evPairIn_n56 evPairIn_n66
theorem evPairIn_n68 : allR ok_PairIn 15 3 3 (fun l => 40 :: 40 :: 40 :: l) = true := evPairIn_join ok_PairIn 14 2 3 (fun l => 40 :: 40 :: 40 :: l) (by decide) evPairIn_n43 evPairIn_n67
theorem evPairIn_n69 : allR ok_PairIn 16 2 2 (fun l => 40 :: 40 :: l) = true := evPairIn_join ok_PairIn 15 1 2 (fun l => 40 :: 40 :: l) (by decide) evPairIn_n22 evPairIn_n68
theorem evPairIn_n70 : allR ok_PairIn 17 1 1 (fun l => 40 :: l) = true := evPairIn_join ok_PairIn 16 0 1 (fun l => 40 :: l) (by decide) evPairIn_c0 evPairIn_n69
theorem evPairIn_all : allR ok_PairIn 17 1 1 (fun l => 40 :: l) = true := evPairIn_n70
end
end Go.AI.T
