/- The parts of the evaluation together. -/
import Derived.Test.YtecighkgpjdhaaaPairBackEv0
import Derived.Test.YtecighkgpjdhaaaPairBackEv1
import Derived.Test.YtecighkgpjdhaaaPairBackEv2
import Derived.Test.YtecighkgpjdhaaaPairBackEv3
import Derived.Test.YtecighkgpjdhaaaPairBackEv4
import Derived.Test.YtecighkgpjdhaaaPairBackEv5
import Derived.Test.YtecighkgpjdhaaaPairBackEv6
import Derived.Test.YtecighkgpjdhaaaPairBackEv7
namespace Go.AI.T
open Go Go.RowKit Go.AI
set_option linter.unusedVariables false
set_option linter.unusedSimpArgs false
set_option maxRecDepth 100000
noncomputable section
theorem evPairBack_join (t : List Nat → Bool) (f d m : Nat) (p : List Nat → List Nat) (hm : m + 1 ≤ 9) (h1 : allR t f d m (fun l => p (41 :: l)) = true) (h2 : allR t f (d + 2) (m + 1) (fun l => p (40 :: l)) = true) : allR t (f + 1) (d + 1) m p = true := by
  show bc (allR t f d m (fun l => p (41 :: l))) (bc (Nat.ble (m + 1) 9) (allR t f (d + 2) (m + 1) (fun l => p (40 :: l))) true) false = true
  rw [h1, h2, Nat.ble_eq_true_of_le hm]; rfl
theorem evPairBack_join9 (t : List Nat → Bool) (f d : Nat) (p : List Nat → List Nat) (h1 : allR t f d 9 (fun l => p (41 :: l)) = true) : allR t (f + 1) (d + 1) 9 p = true := by
  show bc (allR t f d 9 (fun l => p (41 :: l))) (bc (Nat.ble (9 + 1) 9) (allR t f (d + 2) (9 + 1) (fun l => p (40 :: l))) true) false = true
  rw [h1]; rfl
theorem evPairBack_n1 : allR ok_PairBack 10 2 5 (fun l => 40 :: 40 :: 41 :: 40 :: 41 :: 40 :: 41 :: 40 :: l) = true := evPairBack_join ok_PairBack 9 1 5 (fun l => 40 :: 40 :: 41 :: 40 :: 41 :: 40 :: 41 :: 40 :: l) (by decide) evPairBack_c4 evPairBack_c5
theorem evPairBack_n2 : allR ok_PairBack 11 1 4 (fun l => 40 :: 40 :: 41 :: 40 :: 41 :: 40 :: 41 :: l) = true := evPairBack_join ok_PairBack 10 0 4 (fun l => 40 :: 40 :: 41 :: 40 :: 41 :: 40 :: 41 :: l) (by decide) evPairBack_c3 evPairBack_n1
theorem evPairBack_n3 : allR ok_PairBack 10 2 5 (fun l => 40 :: 40 :: 41 :: 40 :: 41 :: 40 :: 40 :: 41 :: l) = true := evPairBack_join ok_PairBack 9 1 5 (fun l => 40 :: 40 :: 41 :: 40 :: 41 :: 40 :: 40 :: 41 :: l) (by decide) evPairBack_c6 evPairBack_c7
theorem evPairBack_n4 : allR ok_PairBack 10 4 6 (fun l => 40 :: 40 :: 41 :: 40 :: 41 :: 40 :: 40 :: 40 :: l) = true := evPairBack_join ok_PairBack 9 3 6 (fun l => 40 :: 40 :: 41 :: 40 :: 41 :: 40 :: 40 :: 40 :: l) (by decide) evPairBack_c8 evPairBack_c9
theorem evPairBack_n5 : allR ok_PairBack 11 3 5 (fun l => 40 :: 40 :: 41 :: 40 :: 41 :: 40 :: 40 :: l) = true := evPairBack_join ok_PairBack 10 2 5 (fun l => 40 :: 40 :: 41 :: 40 :: 41 :: 40 :: 40 :: l) (by decide) evPairBack_n3 evPairBack_n4
theorem evPairBack_n6 : allR ok_PairBack 12 2 4 (fun l => 40 :: 40 :: 41 :: 40 :: 41 :: 40 :: l) = true := evPairBack_join ok_PairBack 11 1 4 (fun l => 40 :: 40 :: 41 :: 40 :: 41 :: 40 :: l) (by decide) evPairBack_n2 evPairBack_n5
theorem evPairBack_n7 : allR ok_PairBack 13 1 3 (fun l => 40 :: 40 :: 41 :: 40 :: 41 :: l) = true := evPairBack_join ok_PairBack 12 0 3 (fun l => 40 :: 40 :: 41 :: 40 :: 41 :: l) (by decide) evPairBack_c2 evPairBack_n6
theorem evPairBack_n8 : allR ok_PairBack 10 2 5 (fun l => 40 :: 40 :: 41 :: 40 :: 40 :: 41 :: 41 :: 40 :: l) = true := evPairBack_join ok_PairBack 9 1 5 (fun l => 40 :: 40 :: 41 :: 40 :: 40 :: 41 :: 41 :: 40 :: l) (by decide) evPairBack_c11 evPairBack_c12
theorem evPairBack_n9 : allR ok_PairBack 11 1 4 (fun l => 40 :: 40 :: 41 :: 40 :: 40 :: 41 :: 41 :: l) = true := evPairBack_join ok_PairBack 10 0 4 (fun l => 40 :: 40 :: 41 :: 40 :: 40 :: 41 :: 41 :: l) (by decide) evPairBack_c10 evPairBack_n8
theorem evPairBack_n10 : allR ok_PairBack 10 2 5 (fun l => 40 :: 40 :: 41 :: 40 :: 40 :: 41 :: 40 :: 41 :: l) = true := evPairBack_join ok_PairBack 9 1 5 (fun l => 40 :: 40 :: 41 :: 40 :: 40 :: 41 :: 40 :: 41 :: l) (by decide) evPairBack_c13 evPairBack_c14
theorem evPairBack_n11 : allR ok_PairBack 10 4 6 (fun l => 40 :: 40 :: 41 :: 40 :: 40 :: 41 :: 40 :: 40 :: l) = true := evPairBack_join ok_PairBack 9 3 6 (fun l => 40 :: 40 :: 41 :: 40 :: 40 :: 41 :: 40 :: 40 :: l) (by decide) evPairBack_c15 evPairBack_c16
theorem evPairBack_n12 : allR ok_PairBack 11 3 5 (fun l => 40 :: 40 :: 41 :: 40 :: 40 :: 41 :: 40 :: l) = true := evPairBack_join ok_PairBack 10 2 5 (fun l => 40 :: 40 :: 41 :: 40 :: 40 :: 41 :: 40 :: l) (by decide) evPairBack_n10 evPairBack_n11
theorem evPairBack_n13 : allR ok_PairBack 12 2 4 (fun l => 40 :: 40 :: 41 :: 40 :: 40 :: 41 :: l) = true := evPairBack_join ok_PairBack 11 1 4 (fun l => 40 :: 40 :: 41 :: 40 :: 40 :: 41 :: l) (by decide) evPairBack_n9 evPairBack_n12
theorem evPairBack_n14 : allR ok_PairBack 10 2 5 (fun l => 40 :: 40 :: 41 :: 40 :: 40 :: 40 :: 41 :: 41 :: l) = true := evPairBack_join ok_PairBack 9 1 5 (fun l => 40 :: 40 :: 41 :: 40 :: 40 :: 40 :: 41 :: 41 :: l) (by decide) evPairBack_c17 evPairBack_c18
theorem evPairBack_n15 : allR ok_PairBack 10 4 6 (fun l => 40 :: 40 :: 41 :: 40 :: 40 :: 40 :: 41 :: 40 :: l) = true := evPairBack_join ok_PairBack 9 3 6 (fun l => 40 :: 40 :: 41 :: 40 :: 40 :: 40 :: 41 :: 40 :: l) (by decide) evPairBack_c19 evPairBack_c20
theorem evPairBack_n16 : allR ok_PairBack 11 3 5 (fun l => 40 :: 40 :: 41 :: 40 :: 40 :: 40 :: 41 :: l) = true := evPairBack_join ok_PairBack 10 2 5 (fun l => 40 :: 40 :: 41 :: 40 :: 40 :: 40 :: 41 :: l) (by decide) evPairBack_n14 evPairBack_n15
theorem evPairBack_n17 : allR ok_PairBack 10 4 6 (fun l => 40 :: 40 :: 41 :: 40 :: 40 :: 40 :: 40 :: 41 :: l) = true := evPairBack_join ok_PairBack 9 3 6 (fun l => 40 :: 40 :: 41 :: 40 :: 40 :: 40 :: 40 :: 41 :: l) (by decide) evPairBack_c21 evPairBack_c22
theorem evPairBack_n18 : allR ok_PairBack 11 5 6 (fun l => 40 :: 40 :: 41 :: 40 :: 40 :: 40 :: 40 :: l) = true := evPairBack_join ok_PairBack 10 4 6 (fun l => 40 :: 40 :: 41 :: 40 :: 40 :: 40 :: 40 :: l) (by decide) evPairBack_n17 evPairBack_c23
theorem evPairBack_n19 : allR ok_PairBack 12 4 5 (fun l => 40 :: 40 :: 41 :: 40 :: 40 :: 40 :: l) = true := evPairBack_join ok_PairBack 11 3 5 (fun l => 40 :: 40 :: 41 :: 40 :: 40 :: 40 :: l) (by decide) evPairBack_n16 evPairBack_n18
theorem evPairBack_n20 : allR ok_PairBack 13 3 4 (fun l => 40 :: 40 :: 41 :: 40 :: 40 :: l) = true := evPairBack_join ok_PairBack 12 2 4 (fun l => 40 :: 40 :: 41 :: 40 :: 40 :: l) (by decide) evPairBack_n13 evPairBack_n19
theorem evPairBack_n21 : allR ok_PairBack 14 2 3 (fun l => 40 :: 40 :: 41 :: 40 :: l) = true := evPairBack_join ok_PairBack 13 1 3 (fun l => 40 :: 40 :: 41 :: 40 :: l) (by decide) evPairBack_n7 evPairBack_n20
theorem evPairBack_n22 : allR ok_PairBack 15 1 2 (fun l => 40 :: 40 :: 41 :: l) = true := evPairBack_join ok_PairBack 14 0 2 (fun l => 40 :: 40 :: 41 :: l) (by decide) evPairBack_c1 evPairBack_n21
theorem evPairBack_n23 : allR ok_PairBack 10 2 5 (fun l => 40 :: 40 :: 40 :: 41 :: 41 :: 40 :: 41 :: 40 :: l) = true := evPairBack_join ok_PairBack 9 1 5 (fun l => 40 :: 40 :: 40 :: 41 :: 41 :: 40 :: 41 :: 40 :: l) (by decide) evPairBack_c26 evPairBack_c27
theorem evPairBack_n24 : allR ok_PairBack 11 1 4 (fun l => 40 :: 40 :: 40 :: 41 :: 41 :: 40 :: 41 :: l) = true := evPairBack_join ok_PairBack 10 0 4 (fun l => 40 :: 40 :: 40 :: 41 :: 41 :: 40 :: 41 :: l) (by decide) evPairBack_c25 evPairBack_n23
theorem evPairBack_n25 : allR ok_PairBack 10 2 5 (fun l => 40 :: 40 :: 40 :: 41 :: 41 :: 40 :: 40 :: 41 :: l) = true := evPairBack_join ok_PairBack 9 1 5 (fun l => 40 :: 40 :: 40 :: 41 :: 41 :: 40 :: 40 :: 41 :: l) (by decide) evPairBack_c28 evPairBack_c29
theorem evPairBack_n26 : allR ok_PairBack 10 4 6 (fun l => 40 :: 40 :: 40 :: 41 :: 41 :: 40 :: 40 :: 40 :: l) = true := evPairBack_join ok_PairBack 9 3 6 (fun l => 40 :: 40 :: 40 :: 41 :: 41 :: 40 :: 40 :: 40 :: l) (by decide) evPairBack_c30 evPairBack_c31
theorem evPairBack_n27 : allR ok_PairBack 11 3 5 (fun l => 40 :: 40 :: 40 :: 41 :: 41 :: 40 :: 40 :: l) = true := evPairBack_join ok_PairBack 10 2 5 (fun l => 40 :: 40 :: 40 :: 41 :: 41 :: 40 :: 40 :: l) (by decide) evPairBack_n25 evPairBack_n26
theorem evPairBack_n28 : allR ok_PairBack 12 2 4 (fun l => 40 :: 40 :: 40 :: 41 :: 41 :: 40 :: l) = true := evPairBack_join ok_PairBack 11 1 4 (fun l => 40 :: 40 :: 40 :: 41 :: 41 :: 40 :: l) (by decide) evPairBack_n24 evPairBack_n27
theorem evPairBack_n29 : allR ok_PairBack 13 1 3 (fun l => 40 :: 40 :: 40 :: 41 :: 41 :: l) = true := evPairBack_join ok_PairBack 12 0 3 (fun l => 40 :: 40 :: 40 :: 41 :: 41 :: l) (by decide) evPairBack_c24 evPairBack_n28
theorem evPairBack_n30 : allR ok_PairBack 10 2 5 (fun l => 40 :: 40 :: 40 :: 41 :: 40 :: 41 :: 41 :: 40 :: l) = true := evPairBack_join ok_PairBack 9 1 5 (fun l => 40 :: 40 :: 40 :: 41 :: 40 :: 41 :: 41 :: 40 :: l) (by decide) evPairBack_c33 evPairBack_c34
theorem evPairBack_n31 : allR ok_PairBack 11 1 4 (fun l => 40 :: 40 :: 40 :: 41 :: 40 :: 41 :: 41 :: l) = true := evPairBack_join ok_PairBack 10 0 4 (fun l => 40 :: 40 :: 40 :: 41 :: 40 :: 41 :: 41 :: l) (by decide) evPairBack_c32 evPairBack_n30
theorem evPairBack_n32 : allR ok_PairBack 10 2 5 (fun l => 40 :: 40 :: 40 :: 41 :: 40 :: 41 :: 40 :: 41 :: l) = true := evPairBack_join ok_PairBack 9 1 5 (fun l => 40 :: 40 :: 40 :: 41 :: 40 :: 41 :: 40 :: 41 :: l) (by decide) evPairBack_c35 evPairBack_c36
theorem evPairBack_n33 : allR ok_PairBack 10 4 6 (fun l => 40 :: 40 :: 40 :: 41 :: 40 :: 41 :: 40 :: 40 :: l) = true := evPairBack_join ok_PairBack 9 3 6 (fun l => 40 :: 40 :: 40 :: 41 :: 40 :: 41 :: 40 :: 40 :: l) (by decide) evPairBack_c37 evPairBack_c38
theorem evPairBack_n34 : allR ok_PairBack 11 3 5 (fun l => 40 :: 40 :: 40 :: 41 :: 40 :: 41 :: 40 :: l) = true := evPairBack_join ok_PairBack 10 2 5 (fun l => 40 :: 40 :: 40 :: 41 :: 40 :: 41 :: 40 :: l) (by decide) evPairBack_n32 evPairBack_n33
theorem evPairBack_n35 : allR ok_PairBack 12 2 4 (fun l => 40 :: 40 :: 40 :: 41 :: 40 :: 41 :: l) = true := evPairBack_join ok_PairBack 11 1 4 (fun l => 40 :: 40 :: 40 :: 41 :: 40 :: 41 :: l) (by decide) evPairBack_n31 evPairBack_n34
theorem evPairBack_n36 : allR ok_PairBack 10 2 5 (fun l => 40 :: 40 :: 40 :: 41 :: 40 :: 40 :: 41 :: 41 :: l) = true := evPairBack_join ok_PairBack 9 1 5 (fun l => 40 :: 40 :: 40 :: 41 :: 40 :: 40 :: 41 :: 41 :: l) (by decide) evPairBack_c39 evPairBack_c40
theorem evPairBack_n37 : allR ok_PairBack 10 4 6 (fun l => 40 :: 40 :: 40 :: 41 :: 40 :: 40 :: 41 :: 40 :: l) = true := evPairBack_join ok_PairBack 9 3 6 (fun l => 40 :: 40 :: 40 :: 41 :: 40 :: 40 :: 41 :: 40 :: l) (by decide) evPairBack_c41 evPairBack_c42
theorem evPairBack_n38 : allR ok_PairBack 11 3 5 (fun l => 40 :: 40 :: 40 :: 41 :: 40 :: 40 :: 41 :: l) = true := evPairBack_join ok_PairBack 10 2 5 (fun l => 40 :: 40 :: 40 :: 41 :: 40 :: 40 :: 41 :: l) (by decide) evPairBack_n36 evPairBack_n37
theorem evPairBack_n39 : allR ok_PairBack 10 4 6 (fun l => 40 :: 40 :: 40 :: 41 :: 40 :: 40 :: 40 :: 41 :: l) = true := evPairBack_join ok_PairBack 9 3 6 (fun l => 40 :: 40 :: 40 :: 41 :: 40 :: 40 :: 40 :: 41 :: l) (by decide) evPairBack_c43 evPairBack_c44
theorem evPairBack_n40 : allR ok_PairBack 11 5 6 (fun l => 40 :: 40 :: 40 :: 41 :: 40 :: 40 :: 40 :: l) = true := evPairBack_join ok_PairBack 10 4 6 (fun l => 40 :: 40 :: 40 :: 41 :: 40 :: 40 :: 40 :: l) (by decide) evPairBack_n39 evPairBack_c45
theorem evPairBack_n41 : allR ok_PairBack 12 4 5 (fun l => 40 :: 40 :: 40 :: 41 :: 40 :: 40 :: l) = true := evPairBack_join ok_PairBack 11 3 5 (fun l => 40 :: 40 :: 40 :: 41 :: 40 :: 40 :: l) (by decide) evPairBack_n38 evPairBack_n40
theorem evPairBack_n42 : allR ok_PairBack 13 3 4 (fun l => 40 :: 40 :: 40 :: 41 :: 40 :: l) = true := evPairBack_join ok_PairBack 12 2 4 (fun l => 40 :: 40 :: 40 :: 41 :: 40 :: l) (by decide) evPairBack_n35 evPairBack_n41
theorem evPairBack_n43 : allR ok_PairBack 14 2 3 (fun l => 40 :: 40 :: 40 :: 41 :: l) = true := evPairBack_join ok_PairBack 13 1 3 (fun l => 40 :: 40 :: 40 :: 41 :: l) (by decide) evPairBack_n29 evPairBack_n42
theorem evPairBack_n44 : allR ok_PairBack 10 2 5 (fun l => 40 :: 40 :: 40 :: 40 :: 41 :: 41 :: 41 :: 40 :: l) = true := evPairBack_join ok_PairBack 9 1 5 (fun l => 40 :: 40 :: 40 :: 40 :: 41 :: 41 :: 41 :: 40 :: l) (by decide) evPairBack_c47 evPairBack_c48
theorem evPairBack_n45 : allR ok_PairBack 11 1 4 (fun l => 40 :: 40 :: 40 :: 40 :: 41 :: 41 :: 41 :: l) = true := evPairBack_join ok_PairBack 10 0 4 (fun l => 40 :: 40 :: 40 :: 40 :: 41 :: 41 :: 41 :: l) (by decide) evPairBack_c46 evPairBack_n44
theorem evPairBack_n46 : allR ok_PairBack 10 2 5 (fun l => 40 :: 40 :: 40 :: 40 :: 41 :: 41 :: 40 :: 41 :: l) = true := evPairBack_join ok_PairBack 9 1 5 (fun l => 40 :: 40 :: 40 :: 40 :: 41 :: 41 :: 40 :: 41 :: l) (by decide) evPairBack_c49 evPairBack_c50
theorem evPairBack_n47 : allR ok_PairBack 10 4 6 (fun l => 40 :: 40 :: 40 :: 40 :: 41 :: 41 :: 40 :: 40 :: l) = true := evPairBack_join ok_PairBack 9 3 6 (fun l => 40 :: 40 :: 40 :: 40 :: 41 :: 41 :: 40 :: 40 :: l) (by decide) evPairBack_c51 evPairBack_c52
theorem evPairBack_n48 : allR ok_PairBack 11 3 5 (fun l => 40 :: 40 :: 40 :: 40 :: 41 :: 41 :: 40 :: l) = true := evPairBack_join ok_PairBack 10 2 5 (fun l => 40 :: 40 :: 40 :: 40 :: 41 :: 41 :: 40 :: l) (by decide) evPairBack_n46 evPairBack_n47
theorem evPairBack_n49 : allR ok_PairBack 12 2 4 (fun l => 40 :: 40 :: 40 :: 40 :: 41 :: 41 :: l) = true := evPairBack_join ok_PairBack 11 1 4 (fun l => 40 :: 40 :: 40 :: 40 :: 41 :: 41 :: l) (by decide) evPairBack_n45 evPairBack_n48
theorem evPairBack_n50 : allR ok_PairBack 10 2 5 (fun l => 40 :: 40 :: 40 :: 40 :: 41 :: 40 :: 41 :: 41 :: l) = true := evPairBack_join ok_PairBack 9 1 5 (fun l => 40 :: 40 :: 40 :: 40 :: 41 :: 40 :: 41 :: 41 :: l) (by decide) evPairBack_c53 evPairBack_c54
theorem evPairBack_n51 : allR ok_PairBack 10 4 6 (fun l => 40 :: 40 :: 40 :: 40 :: 41 :: 40 :: 41 :: 40 :: l) = true := evPairBack_join ok_PairBack 9 3 6 (fun l => 40 :: 40 :: 40 :: 40 :: 41 :: 40 :: 41 :: 40 :: l) (by decide) evPairBack_c55 evPairBack_c56
theorem evPairBack_n52 : allR ok_PairBack 11 3 5 (fun l => 40 :: 40 :: 40 :: 40 :: 41 :: 40 :: 41 :: l) = true := evPairBack_join ok_PairBack 10 2 5 (fun l => 40 :: 40 :: 40 :: 40 :: 41 :: 40 :: 41 :: l) (by decide) evPairBack_n50 evPairBack_n51
theorem evPairBack_n53 : allR ok_PairBack 10 4 6 (fun l => 40 :: 40 :: 40 :: 40 :: 41 :: 40 :: 40 :: 41 :: l) = true := evPairBack_join ok_PairBack 9 3 6 (fun l => 40 :: 40 :: 40 :: 40 :: 41 :: 40 :: 40 :: 41 :: l) (by decide) evPairBack_c57 evPairBack_c58
theorem evPairBack_n54 : allR ok_PairBack 11 5 6 (fun l => 40 :: 40 :: 40 :: 40 :: 41 :: 40 :: 40 :: l) = true := evPairBack_join ok_PairBack 10 4 6 (fun l => 40 :: 40 :: 40 :: 40 :: 41 :: 40 :: 40 :: l) (by decide) evPairBack_n53 evPairBack_c59
theorem evPairBack_n55 : allR ok_PairBack 12 4 5 (fun l => 40 :: 40 :: 40 :: 40 :: 41 :: 40 :: l) = true := evPairBack_join ok_PairBack 11 3 5 (fun l => 40 :: 40 :: 40 :: 40 :: 41 :: 40 :: l) (by decide) evPairBack_n52 evPairBack_n54
theorem evPairBack_n56 : allR ok_PairBack 13 3 4 (fun l => 40 :: 40 :: 40 :: 40 :: 41 :: l) = true := evPairBack_join ok_PairBack 12 2 4 (fun l => 40 :: 40 :: 40 :: 40 :: 41 :: l) (by decide) evPairBack_n49 evPairBack_n55
theorem evPairBack_n57 : allR ok_PairBack 10 2 5 (fun l => 40 :: 40 :: 40 :: 40 :: 40 :: 41 :: 41 :: 41 :: l) = true := evPairBack_join ok_PairBack 9 1 5 (fun l => 40 :: 40 :: 40 :: 40 :: 40 :: 41 :: 41 :: 41 :: l) (by decide) evPairBack_c60 evPairBack_c61
theorem evPairBack_n58 : allR ok_PairBack 10 4 6 (fun l => 40 :: 40 :: 40 :: 40 :: 40 :: 41 :: 41 :: 40 :: l) = true := evPairBack_join ok_PairBack 9 3 6 (fun l => 40 :: 40 :: 40 :: 40 :: 40 :: 41 :: 41 :: 40 :: l) (by decide) evPairBack_c62 evPairBack_c63
theorem evPairBack_n59 : allR ok_PairBack 11 3 5 (fun l => 40 :: 40 :: 40 :: 40 :: 40 :: 41 :: 41 :: l) = true := evPairBack_join ok_PairBack 10 2 5 (fun l => 40 :: 40 :: 40 :: 40 :: 40 :: 41 :: 41 :: l) (by decide) evPairBack_n57 evPairBack_n58
theorem evPairBack_n60 : allR ok_PairBack 10 4 6 (fun l => 40 :: 40 :: 40 :: 40 :: 40 :: 41 :: 40 :: 41 :: l) = true := evPairBack_join ok_PairBack 9 3 6 (fun l => 40 :: 40 :: 40 :: 40 :: 40 :: 41 :: 40 :: 41 :: l) (by decide) evPairBack_c64 evPairBack_c65
theorem evPairBack_n61 : allR ok_PairBack 11 5 6 (fun l => 40 :: 40 :: 40 :: 40 :: 40 :: 41 :: 40 :: l) = true := evPairBack_join ok_PairBack 10 4 6 (fun l => 40 :: 40 :: 40 :: 40 :: 40 :: 41 :: 40 :: l) (by decide) evPairBack_n60 evPairBack_c66
theorem evPairBack_n62 : allR ok_PairBack 12 4 5 (fun l => 40 :: 40 :: 40 :: 40 :: 40 :: 41 :: l) = true := evPairBack_join ok_PairBack 11 3 5 (fun l => 40 :: 40 :: 40 :: 40 :: 40 :: 41 :: l) (by decide) evPairBack_n59 evPairBack_n61
theorem evPairBack_n63 : allR ok_PairBack 10 4 6 (fun l => 40 :: 40 :: 40 :: 40 :: 40 :: 40 :: 41 :: 41 :: l) = true := evPairBack_join ok_PairBack 9 3 6 (fun l => 40 :: 40 :: 40 :: 40 :: 40 :: 40 :: 41 :: 41 :: l) (by decide) evPairBack_c67 evPairBack_c68
theorem evPairBack_n64 : allR ok_PairBack 11 5 6 (fun l => 40 :: 40 :: 40 :: 40 :: 40 :: 40 :: 41 :: l) = true := evPairBack_join ok_PairBack 10 4 6 (fun l => 40 :: 40 :: 40 :: 40 :: 40 :: 40 :: 41 :: l) (by decide) evPairBack_n63 evPairBack_c69
theorem evPairBack_n65 : allR ok_PairBack 12 6 6 (fun l => 40 :: 40 :: 40 :: 40 :: 40 :: 40 :: l) = true := evPairBack_join ok_PairBack 11 5 6 (fun l => 40 :: 40 :: 40 :: 40 :: 40 :: 40 :: l) (by decide) evPairBack_n64 evPairBack_c70
theorem evPairBack_n66 : allR ok_PairBack 13 5 5 (fun l => 40 :: 40 :: 40 :: 40 :: 40 :: l) = true := evPairBack_join ok_PairBack 12 4 5 (fun l => 40 :: 40 :: 40 :: 40 :: 40 :: l) (by decide) evPairBack_n62 evPairBack_n65
theorem evPairBack_n67 : allR ok_PairBack 14 4 4 (fun l => 40 :: 40 :: 40 :: 40 :: l) = true := evPairBack_join ok_PairBack 13 3 4 (fun l => 40 :: 40 :: 40 :: 40 :: l) (by decide) evPairBack_n56 evPairBack_n66
theorem evPairBack_n68 : allR ok_PairBack 15 3 3 (fun l => 40 :: 40 :: 40 :: l) = true := evPairBack_join ok_PairBack 14 2 3 (fun l => 40 :: 40 :: 40 :: l) (by decide) evPairBack_n43 evPairBack_n67
theorem evPairBack_n69 : allR ok_PairBack 16 2 2 (fun l => 40 :: 40 :: l) = true := evPairBack_join ok_PairBack 15 1 2 (fun l => 40 :: 40 :: l) (by decide) evPairBack_n22 evPairBack_n68
theorem evPairBack_n70 : allR ok_PairBack 17 1 1 (fun l => 40 :: l) = true := evPairBack_join ok_PairBack 16 0 1 (fun l => 40 :: l) (by decide) evPairBack_c0 evPairBack_n69
theorem evPairBack_all : allR ok_PairBack 17 1 1 (fun l => 40 :: l) = true := evPairBack_n70
end
end Go.AI.T
