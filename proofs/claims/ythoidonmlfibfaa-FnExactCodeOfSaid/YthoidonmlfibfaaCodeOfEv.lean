/- The parts of the evaluation together. -/
import Derived.Test.YthoidonmlfibfaaCodeOfEv0
import Derived.Test.YthoidonmlfibfaaCodeOfEv1
import Derived.Test.YthoidonmlfibfaaCodeOfEv2
import Derived.Test.YthoidonmlfibfaaCodeOfEv3
import Derived.Test.YthoidonmlfibfaaCodeOfEv4
import Derived.Test.YthoidonmlfibfaaCodeOfEv5
import Derived.Test.YthoidonmlfibfaaCodeOfEv6
import Derived.Test.YthoidonmlfibfaaCodeOfEv7
namespace Go.AI.T
open Go Go.RowKit Go.AI
set_option linter.unusedVariables false
set_option linter.unusedSimpArgs false
set_option maxRecDepth 100000
noncomputable section
theorem evCodeOf_join (t : List Nat → Bool) (f d m : Nat) (p : List Nat → List Nat) (hm : m + 1 ≤ 9) (h1 : allR t f d m (fun l => p (41 :: l)) = true) (h2 : allR t f (d + 2) (m + 1) (fun l => p (40 :: l)) = true) : allR t (f + 1) (d + 1) m p = true := by
  show bc (allR t f d m (fun l => p (41 :: l))) (bc (Nat.ble (m + 1) 9) (allR t f (d + 2) (m + 1) (fun l => p (40 :: l))) true) false = true
  rw [h1, h2, Nat.ble_eq_true_of_le hm]; rfl
theorem evCodeOf_join9 (t : List Nat → Bool) (f d : Nat) (p : List Nat → List Nat) (h1 : allR t f d 9 (fun l => p (41 :: l)) = true) : allR t (f + 1) (d + 1) 9 p = true := by
  show bc (allR t f d 9 (fun l => p (41 :: l))) (bc (Nat.ble (9 + 1) 9) (allR t f (d + 2) (9 + 1) (fun l => p (40 :: l))) true) false = true
  rw [h1]; rfl
theorem evCodeOf_n1 : allR ok_CodeOf 10 2 5 (fun l => 40 :: 40 :: 41 :: 40 :: 41 :: 40 :: 41 :: 40 :: l) = true := evCodeOf_join ok_CodeOf 9 1 5 (fun l => 40 :: 40 :: 41 :: 40 :: 41 :: 40 :: 41 :: 40 :: l) (by decide) evCodeOf_c4 evCodeOf_c5
theorem evCodeOf_n2 : allR ok_CodeOf 11 1 4 (fun l => 40 :: 40 :: 41 :: 40 :: 41 :: 40 :: 41 :: l) = true := evCodeOf_join ok_CodeOf 10 0 4 (fun l => 40 :: 40 :: 41 :: 40 :: 41 :: 40 :: 41 :: l) (by decide) evCodeOf_c3 evCodeOf_n1
theorem evCodeOf_n3 : allR ok_CodeOf 10 2 5 (fun l => 40 :: 40 :: 41 :: 40 :: 41 :: 40 :: 40 :: 41 :: l) = true := evCodeOf_join ok_CodeOf 9 1 5 (fun l => 40 :: 40 :: 41 :: 40 :: 41 :: 40 :: 40 :: 41 :: l) (by decide) evCodeOf_c6 evCodeOf_c7
theorem evCodeOf_n4 : allR ok_CodeOf 10 4 6 (fun l => 40 :: 40 :: 41 :: 40 :: 41 :: 40 :: 40 :: 40 :: l) = true := evCodeOf_join ok_CodeOf 9 3 6 (fun l => 40 :: 40 :: 41 :: 40 :: 41 :: 40 :: 40 :: 40 :: l) (by decide) evCodeOf_c8 evCodeOf_c9
theorem evCodeOf_n5 : allR ok_CodeOf 11 3 5 (fun l => 40 :: 40 :: 41 :: 40 :: 41 :: 40 :: 40 :: l) = true := evCodeOf_join ok_CodeOf 10 2 5 (fun l => 40 :: 40 :: 41 :: 40 :: 41 :: 40 :: 40 :: l) (by decide) evCodeOf_n3 evCodeOf_n4
theorem evCodeOf_n6 : allR ok_CodeOf 12 2 4 (fun l => 40 :: 40 :: 41 :: 40 :: 41 :: 40 :: l) = true := evCodeOf_join ok_CodeOf 11 1 4 (fun l => 40 :: 40 :: 41 :: 40 :: 41 :: 40 :: l) (by decide) evCodeOf_n2 evCodeOf_n5
theorem evCodeOf_n7 : allR ok_CodeOf 13 1 3 (fun l => 40 :: 40 :: 41 :: 40 :: 41 :: l) = true := evCodeOf_join ok_CodeOf 12 0 3 (fun l => 40 :: 40 :: 41 :: 40 :: 41 :: l) (by decide) evCodeOf_c2 evCodeOf_n6
theorem evCodeOf_n8 : allR ok_CodeOf 10 2 5 (fun l => 40 :: 40 :: 41 :: 40 :: 40 :: 41 :: 41 :: 40 :: l) = true := evCodeOf_join ok_CodeOf 9 1 5 (fun l => 40 :: 40 :: 41 :: 40 :: 40 :: 41 :: 41 :: 40 :: l) (by decide) evCodeOf_c11 evCodeOf_c12
theorem evCodeOf_n9 : allR ok_CodeOf 11 1 4 (fun l => 40 :: 40 :: 41 :: 40 :: 40 :: 41 :: 41 :: l) = true := evCodeOf_join ok_CodeOf 10 0 4 (fun l => 40 :: 40 :: 41 :: 40 :: 40 :: 41 :: 41 :: l) (by decide) evCodeOf_c10 evCodeOf_n8
theorem evCodeOf_n10 : allR ok_CodeOf 10 2 5 (fun l => 40 :: 40 :: 41 :: 40 :: 40 :: 41 :: 40 :: 41 :: l) = true := evCodeOf_join ok_CodeOf 9 1 5 (fun l => 40 :: 40 :: 41 :: 40 :: 40 :: 41 :: 40 :: 41 :: l) (by decide) evCodeOf_c13 evCodeOf_c14
theorem evCodeOf_n11 : allR ok_CodeOf 10 4 6 (fun l => 40 :: 40 :: 41 :: 40 :: 40 :: 41 :: 40 :: 40 :: l) = true := evCodeOf_join ok_CodeOf 9 3 6 (fun l => 40 :: 40 :: 41 :: 40 :: 40 :: 41 :: 40 :: 40 :: l) (by decide) evCodeOf_c15 evCodeOf_c16
theorem evCodeOf_n12 : allR ok_CodeOf 11 3 5 (fun l => 40 :: 40 :: 41 :: 40 :: 40 :: 41 :: 40 :: l) = true := evCodeOf_join ok_CodeOf 10 2 5 (fun l => 40 :: 40 :: 41 :: 40 :: 40 :: 41 :: 40 :: l) (by decide) evCodeOf_n10 evCodeOf_n11
theorem evCodeOf_n13 : allR ok_CodeOf 12 2 4 (fun l => 40 :: 40 :: 41 :: 40 :: 40 :: 41 :: l) = true := evCodeOf_join ok_CodeOf 11 1 4 (fun l => 40 :: 40 :: 41 :: 40 :: 40 :: 41 :: l) (by decide) evCodeOf_n9 evCodeOf_n12
theorem evCodeOf_n14 : allR ok_CodeOf 10 2 5 (fun l => 40 :: 40 :: 41 :: 40 :: 40 :: 40 :: 41 :: 41 :: l) = true := evCodeOf_join ok_CodeOf 9 1 5 (fun l => 40 :: 40 :: 41 :: 40 :: 40 :: 40 :: 41 :: 41 :: l) (by decide) evCodeOf_c17 evCodeOf_c18
theorem evCodeOf_n15 : allR ok_CodeOf 10 4 6 (fun l => 40 :: 40 :: 41 :: 40 :: 40 :: 40 :: 41 :: 40 :: l) = true := evCodeOf_join ok_CodeOf 9 3 6 (fun l => 40 :: 40 :: 41 :: 40 :: 40 :: 40 :: 41 :: 40 :: l) (by decide) evCodeOf_c19 evCodeOf_c20
theorem evCodeOf_n16 : allR ok_CodeOf 11 3 5 (fun l => 40 :: 40 :: 41 :: 40 :: 40 :: 40 :: 41 :: l) = true := evCodeOf_join ok_CodeOf 10 2 5 (fun l => 40 :: 40 :: 41 :: 40 :: 40 :: 40 :: 41 :: l) (by decide) evCodeOf_n14 evCodeOf_n15
theorem evCodeOf_n17 : allR ok_CodeOf 10 4 6 (fun l => 40 :: 40 :: 41 :: 40 :: 40 :: 40 :: 40 :: 41 :: l) = true := evCodeOf_join ok_CodeOf 9 3 6 (fun l => 40 :: 40 :: 41 :: 40 :: 40 :: 40 :: 40 :: 41 :: l) (by decide) evCodeOf_c21 evCodeOf_c22
theorem evCodeOf_n18 : allR ok_CodeOf 11 5 6 (fun l => 40 :: 40 :: 41 :: 40 :: 40 :: 40 :: 40 :: l) = true := evCodeOf_join ok_CodeOf 10 4 6 (fun l => 40 :: 40 :: 41 :: 40 :: 40 :: 40 :: 40 :: l) (by decide) evCodeOf_n17 evCodeOf_c23
theorem evCodeOf_n19 : allR ok_CodeOf 12 4 5 (fun l => 40 :: 40 :: 41 :: 40 :: 40 :: 40 :: l) = true := evCodeOf_join ok_CodeOf 11 3 5 (fun l => 40 :: 40 :: 41 :: 40 :: 40 :: 40 :: l) (by decide) evCodeOf_n16 evCodeOf_n18
theorem evCodeOf_n20 : allR ok_CodeOf 13 3 4 (fun l => 40 :: 40 :: 41 :: 40 :: 40 :: l) = true := evCodeOf_join ok_CodeOf 12 2 4 (fun l => 40 :: 40 :: 41 :: 40 :: 40 :: l) (by decide) evCodeOf_n13 evCodeOf_n19
theorem evCodeOf_n21 : allR ok_CodeOf 14 2 3 (fun l => 40 :: 40 :: 41 :: 40 :: l) = true := evCodeOf_join ok_CodeOf 13 1 3 (fun l => 40 :: 40 :: 41 :: 40 :: l) (by decide) evCodeOf_n7 evCodeOf_n20
theorem evCodeOf_n22 : allR ok_CodeOf 15 1 2 (fun l => 40 :: 40 :: 41 :: l) = true := evCodeOf_join ok_CodeOf 14 0 2 (fun l => 40 :: 40 :: 41 :: l) (by decide) evCodeOf_c1 evCodeOf_n21
theorem evCodeOf_n23 : allR ok_CodeOf 10 2 5 (fun l => 40 :: 40 :: 40 :: 41 :: 41 :: 40 :: 41 :: 40 :: l) = true := evCodeOf_join ok_CodeOf 9 1 5 (fun l => 40 :: 40 :: 40 :: 41 :: 41 :: 40 :: 41 :: 40 :: l) (by decide) evCodeOf_c26 evCodeOf_c27
theorem evCodeOf_n24 : allR ok_CodeOf 11 1 4 (fun l => 40 :: 40 :: 40 :: 41 :: 41 :: 40 :: 41 :: l) = true := evCodeOf_join ok_CodeOf 10 0 4 (fun l => 40 :: 40 :: 40 :: 41 :: 41 :: 40 :: 41 :: l) (by decide) evCodeOf_c25 evCodeOf_n23
theorem evCodeOf_n25 : allR ok_CodeOf 10 2 5 (fun l => 40 :: 40 :: 40 :: 41 :: 41 :: 40 :: 40 :: 41 :: l) = true := evCodeOf_join ok_CodeOf 9 1 5 (fun l => 40 :: 40 :: 40 :: 41 :: 41 :: 40 :: 40 :: 41 :: l) (by decide) evCodeOf_c28 evCodeOf_c29
theorem evCodeOf_n26 : allR ok_CodeOf 10 4 6 (fun l => 40 :: 40 :: 40 :: 41 :: 41 :: 40 :: 40 :: 40 :: l) = true := evCodeOf_join ok_CodeOf 9 3 6 (fun l => 40 :: 40 :: 40 :: 41 :: 41 :: 40 :: 40 :: 40 :: l) (by decide) evCodeOf_c30 evCodeOf_c31
theorem evCodeOf_n27 : allR ok_CodeOf 11 3 5 (fun l => 40 :: 40 :: 40 :: 41 :: 41 :: 40 :: 40 :: l) = true := evCodeOf_join ok_CodeOf 10 2 5 (fun l => 40 :: 40 :: 40 :: 41 :: 41 :: 40 :: 40 :: l) (by decide) evCodeOf_n25 evCodeOf_n26
theorem evCodeOf_n28 : allR ok_CodeOf 12 2 4 (fun l => 40 :: 40 :: 40 :: 41 :: 41 :: 40 :: l) = true := evCodeOf_join ok_CodeOf 11 1 4 (fun l => 40 :: 40 :: 40 :: 41 :: 41 :: 40 :: l) (by decide) evCodeOf_n24 evCodeOf_n27
theorem evCodeOf_n29 : allR ok_CodeOf 13 1 3 (fun l => 40 :: 40 :: 40 :: 41 :: 41 :: l) = true := evCodeOf_join ok_CodeOf 12 0 3 (fun l => 40 :: 40 :: 40 :: 41 :: 41 :: l) (by decide) evCodeOf_c24 evCodeOf_n28
theorem evCodeOf_n30 : allR ok_CodeOf 10 2 5 (fun l => 40 :: 40 :: 40 :: 41 :: 40 :: 41 :: 41 :: 40 :: l) = true := evCodeOf_join ok_CodeOf 9 1 5 (fun l => 40 :: 40 :: 40 :: 41 :: 40 :: 41 :: 41 :: 40 :: l) (by decide) evCodeOf_c33 evCodeOf_c34
theorem evCodeOf_n31 : allR ok_CodeOf 11 1 4 (fun l => 40 :: 40 :: 40 :: 41 :: 40 :: 41 :: 41 :: l) = true := evCodeOf_join ok_CodeOf 10 0 4 (fun l => 40 :: 40 :: 40 :: 41 :: 40 :: 41 :: 41 :: l) (by decide) evCodeOf_c32 evCodeOf_n30
theorem evCodeOf_n32 : allR ok_CodeOf 10 2 5 (fun l => 40 :: 40 :: 40 :: 41 :: 40 :: 41 :: 40 :: 41 :: l) = true := evCodeOf_join ok_CodeOf 9 1 5 (fun l => 40 :: 40 :: 40 :: 41 :: 40 :: 41 :: 40 :: 41 :: l) (by decide) evCodeOf_c35 evCodeOf_c36
theorem evCodeOf_n33 : allR ok_CodeOf 10 4 6 (fun l => 40 :: 40 :: 40 :: 41 :: 40 :: 41 :: 40 :: 40 :: l) = true := evCodeOf_join ok_CodeOf 9 3 6 (fun l => 40 :: 40 :: 40 :: 41 :: 40 :: 41 :: 40 :: 40 :: l) (by decide) evCodeOf_c37 evCodeOf_c38
theorem evCodeOf_n34 : allR ok_CodeOf 11 3 5 (fun l => 40 :: 40 :: 40 :: 41 :: 40 :: 41 :: 40 :: l) = true := evCodeOf_join ok_CodeOf 10 2 5 (fun l => 40 :: 40 :: 40 :: 41 :: 40 :: 41 :: 40 :: l) (by decide) evCodeOf_n32 evCodeOf_n33
theorem evCodeOf_n35 : allR ok_CodeOf 12 2 4 (fun l => 40 :: 40 :: 40 :: 41 :: 40 :: 41 :: l) = true := evCodeOf_join ok_CodeOf 11 1 4 (fun l => 40 :: 40 :: 40 :: 41 :: 40 :: 41 :: l) (by decide) evCodeOf_n31 evCodeOf_n34
theorem evCodeOf_n36 : allR ok_CodeOf 10 2 5 (fun l => 40 :: 40 :: 40 :: 41 :: 40 :: 40 :: 41 :: 41 :: l) = true := evCodeOf_join ok_CodeOf 9 1 5 (fun l => 40 :: 40 :: 40 :: 41 :: 40 :: 40 :: 41 :: 41 :: l) (by decide) evCodeOf_c39 evCodeOf_c40
theorem evCodeOf_n37 : allR ok_CodeOf 10 4 6 (fun l => 40 :: 40 :: 40 :: 41 :: 40 :: 40 :: 41 :: 40 :: l) = true := evCodeOf_join ok_CodeOf 9 3 6 (fun l => 40 :: 40 :: 40 :: 41 :: 40 :: 40 :: 41 :: 40 :: l) (by decide) evCodeOf_c41 evCodeOf_c42
theorem evCodeOf_n38 : allR ok_CodeOf 11 3 5 (fun l => 40 :: 40 :: 40 :: 41 :: 40 :: 40 :: 41 :: l) = true := evCodeOf_join ok_CodeOf 10 2 5 (fun l => 40 :: 40 :: 40 :: 41 :: 40 :: 40 :: 41 :: l) (by decide) evCodeOf_n36 evCodeOf_n37
theorem evCodeOf_n39 : allR ok_CodeOf 10 4 6 (fun l => 40 :: 40 :: 40 :: 41 :: 40 :: 40 :: 40 :: 41 :: l) = true := evCodeOf_join ok_CodeOf 9 3 6 (fun l => 40 :: 40 :: 40 :: 41 :: 40 :: 40 :: 40 :: 41 :: l) (by decide) evCodeOf_c43 evCodeOf_c44
theorem evCodeOf_n40 : allR ok_CodeOf 11 5 6 (fun l => 40 :: 40 :: 40 :: 41 :: 40 :: 40 :: 40 :: l) = true := evCodeOf_join ok_CodeOf 10 4 6 (fun l => 40 :: 40 :: 40 :: 41 :: 40 :: 40 :: 40 :: l) (by decide) evCodeOf_n39 evCodeOf_c45
theorem evCodeOf_n41 : allR ok_CodeOf 12 4 5 (fun l => 40 :: 40 :: 40 :: 41 :: 40 :: 40 :: l) = true := evCodeOf_join ok_CodeOf 11 3 5 (fun l => 40 :: 40 :: 40 :: 41 :: 40 :: 40 :: l) (by decide) evCodeOf_n38 evCodeOf_n40
theorem evCodeOf_n42 : allR ok_CodeOf 13 3 4 (fun l => 40 :: 40 :: 40 :: 41 :: 40 :: l) = true := evCodeOf_join ok_CodeOf 12 2 4 (fun l => 40 :: 40 :: 40 :: 41 :: 40 :: l) (by decide) evCodeOf_n35 evCodeOf_n41
theorem evCodeOf_n43 : allR ok_CodeOf 14 2 3 (fun l => 40 :: 40 :: 40 :: 41 :: l) = true := evCodeOf_join ok_CodeOf 13 1 3 (fun l => 40 :: 40 :: 40 :: 41 :: l) (by decide) evCodeOf_n29 evCodeOf_n42
theorem evCodeOf_n44 : allR ok_CodeOf 10 2 5 (fun l => 40 :: 40 :: 40 :: 40 :: 41 :: 41 :: 41 :: 40 :: l) = true := evCodeOf_join ok_CodeOf 9 1 5 (fun l => 40 :: 40 :: 40 :: 40 :: 41 :: 41 :: 41 :: 40 :: l) (by decide) evCodeOf_c47 evCodeOf_c48
theorem evCodeOf_n45 : allR ok_CodeOf 11 1 4 (fun l => 40 :: 40 :: 40 :: 40 :: 41 :: 41 :: 41 :: l) = true := evCodeOf_join ok_CodeOf 10 0 4 (fun l => 40 :: 40 :: 40 :: 40 :: 41 :: 41 :: 41 :: l) (by decide) evCodeOf_c46 evCodeOf_n44
theorem evCodeOf_n46 : allR ok_CodeOf 10 2 5 (fun l => 40 :: 40 :: 40 :: 40 :: 41 :: 41 :: 40 :: 41 :: l) = true := evCodeOf_join ok_CodeOf 9 1 5 (fun l => 40 :: 40 :: 40 :: 40 :: 41 :: 41 :: 40 :: 41 :: l) (by decide) evCodeOf_c49 evCodeOf_c50
theorem evCodeOf_n47 : allR ok_CodeOf 10 4 6 (fun l => 40 :: 40 :: 40 :: 40 :: 41 :: 41 :: 40 :: 40 :: l) = true := evCodeOf_join ok_CodeOf 9 3 6 (fun l => 40 :: 40 :: 40 :: 40 :: 41 :: 41 :: 40 :: 40 :: l) (by decide) evCodeOf_c51 evCodeOf_c52
theorem evCodeOf_n48 : allR ok_CodeOf 11 3 5 (fun l => 40 :: 40 :: 40 :: 40 :: 41 :: 41 :: 40 :: l) = true := evCodeOf_join ok_CodeOf 10 2 5 (fun l => 40 :: 40 :: 40 :: 40 :: 41 :: 41 :: 40 :: l) (by decide) evCodeOf_n46 evCodeOf_n47
theorem evCodeOf_n49 : allR ok_CodeOf 12 2 4 (fun l => 40 :: 40 :: 40 :: 40 :: 41 :: 41 :: l) = true := evCodeOf_join ok_CodeOf 11 1 4 (fun l => 40 :: 40 :: 40 :: 40 :: 41 :: 41 :: l) (by decide) evCodeOf_n45 evCodeOf_n48
theorem evCodeOf_n50 : allR ok_CodeOf 10 2 5 (fun l => 40 :: 40 :: 40 :: 40 :: 41 :: 40 :: 41 :: 41 :: l) = true := evCodeOf_join ok_CodeOf 9 1 5 (fun l => 40 :: 40 :: 40 :: 40 :: 41 :: 40 :: 41 :: 41 :: l) (by decide) evCodeOf_c53 evCodeOf_c54
theorem evCodeOf_n51 : allR ok_CodeOf 10 4 6 (fun l => 40 :: 40 :: 40 :: 40 :: 41 :: 40 :: 41 :: 40 :: l) = true := evCodeOf_join ok_CodeOf 9 3 6 (fun l => 40 :: 40 :: 40 :: 40 :: 41 :: 40 :: 41 :: 40 :: l) (by decide) evCodeOf_c55 evCodeOf_c56
theorem evCodeOf_n52 : allR ok_CodeOf 11 3 5 (fun l => 40 :: 40 :: 40 :: 40 :: 41 :: 40 :: 41 :: l) = true := evCodeOf_join ok_CodeOf 10 2 5 (fun l => 40 :: 40 :: 40 :: 40 :: 41 :: 40 :: 41 :: l) (by decide) evCodeOf_n50 evCodeOf_n51
theorem evCodeOf_n53 : allR ok_CodeOf 10 4 6 (fun l => 40 :: 40 :: 40 :: 40 :: 41 :: 40 :: 40 :: 41 :: l) = true := evCodeOf_join ok_CodeOf 9 3 6 (fun l => 40 :: 40 :: 40 :: 40 :: 41 :: 40 :: 40 :: 41 :: l) (by decide) evCodeOf_c57 evCodeOf_c58
theorem evCodeOf_n54 : allR ok_CodeOf 11 5 6 (fun l => 40 :: 40 :: 40 :: 40 :: 41 :: 40 :: 40 :: l) = true := evCodeOf_join ok_CodeOf 10 4 6 (fun l => 40 :: 40 :: 40 :: 40 :: 41 :: 40 :: 40 :: l) (by decide) evCodeOf_n53 evCodeOf_c59
theorem evCodeOf_n55 : allR ok_CodeOf 12 4 5 (fun l => 40 :: 40 :: 40 :: 40 :: 41 :: 40 :: l) = true := evCodeOf_join ok_CodeOf 11 3 5 (fun l => 40 :: 40 :: 40 :: 40 :: 41 :: 40 :: l) (by decide) evCodeOf_n52 evCodeOf_n54
theorem evCodeOf_n56 : allR ok_CodeOf 13 3 4 (fun l => 40 :: 40 :: 40 :: 40 :: 41 :: l) = true := evCodeOf_join ok_CodeOf 12 2 4 (fun l => 40 :: 40 :: 40 :: 40 :: 41 :: l) (by decide) evCodeOf_n49 evCodeOf_n55
theorem evCodeOf_n57 : allR ok_CodeOf 10 2 5 (fun l => 40 :: 40 :: 40 :: 40 :: 40 :: 41 :: 41 :: 41 :: l) = true := evCodeOf_join ok_CodeOf 9 1 5 (fun l => 40 :: 40 :: 40 :: 40 :: 40 :: 41 :: 41 :: 41 :: l) (by decide) evCodeOf_c60 evCodeOf_c61
theorem evCodeOf_n58 : allR ok_CodeOf 10 4 6 (fun l => 40 :: 40 :: 40 :: 40 :: 40 :: 41 :: 41 :: 40 :: l) = true := evCodeOf_join ok_CodeOf 9 3 6 (fun l => 40 :: 40 :: 40 :: 40 :: 40 :: 41 :: 41 :: 40 :: l) (by decide) evCodeOf_c62 evCodeOf_c63
theorem evCodeOf_n59 : allR ok_CodeOf 11 3 5 (fun l => 40 :: 40 :: 40 :: 40 :: 40 :: 41 :: 41 :: l) = true := evCodeOf_join ok_CodeOf 10 2 5 (fun l => 40 :: 40 :: 40 :: 40 :: 40 :: 41 :: 41 :: l) (by decide) evCodeOf_n57 evCodeOf_n58
theorem evCodeOf_n60 : allR ok_CodeOf 10 4 6 (fun l => 40 :: 40 :: 40 :: 40 :: 40 :: 41 :: 40 :: 41 :: l) = true := evCodeOf_join ok_CodeOf 9 3 6 (fun l => 40 :: 40 :: 40 :: 40 :: 40 :: 41 :: 40 :: 41 :: l) (by decide) evCodeOf_c64 evCodeOf_c65
theorem evCodeOf_n61 : allR ok_CodeOf 11 5 6 (fun l => 40 :: 40 :: 40 :: 40 :: 40 :: 41 :: 40 :: l) = true := evCodeOf_join ok_CodeOf 10 4 6 (fun l => 40 :: 40 :: 40 :: 40 :: 40 :: 41 :: 40 :: l) (by decide) evCodeOf_n60 evCodeOf_c66
theorem evCodeOf_n62 : allR ok_CodeOf 12 4 5 (fun l => 40 :: 40 :: 40 :: 40 :: 40 :: 41 :: l) = true := evCodeOf_join ok_CodeOf 11 3 5 (fun l => 40 :: 40 :: 40 :: 40 :: 40 :: 41 :: l) (by decide) evCodeOf_n59 evCodeOf_n61
theorem evCodeOf_n63 : allR ok_CodeOf 10 4 6 (fun l => 40 :: 40 :: 40 :: 40 :: 40 :: 40 :: 41 :: 41 :: l) = true := evCodeOf_join ok_CodeOf 9 3 6 (fun l => 40 :: 40 :: 40 :: 40 :: 40 :: 40 :: 41 :: 41 :: l) (by decide) evCodeOf_c67 evCodeOf_c68
theorem evCodeOf_n64 : allR ok_CodeOf 11 5 6 (fun l => 40 :: 40 :: 40 :: 40 :: 40 :: 40 :: 41 :: l) = true := evCodeOf_join ok_CodeOf 10 4 6 (fun l => 40 :: 40 :: 40 :: 40 :: 40 :: 40 :: 41 :: l) (by decide) evCodeOf_n63 evCodeOf_c69
theorem evCodeOf_n65 : allR ok_CodeOf 12 6 6 (fun l => 40 :: 40 :: 40 :: 40 :: 40 :: 40 :: l) = true := evCodeOf_join ok_CodeOf 11 5 6 (fun l => 40 :: 40 :: 40 :: 40 :: 40 :: 40 :: l) (by decide) evCodeOf_n64 evCodeOf_c70
theorem evCodeOf_n66 : allR ok_CodeOf 13 5 5 (fun l => 40 :: 40 :: 40 :: 40 :: 40 :: l) = true := evCodeOf_join ok_CodeOf 12 4 5 (fun l => 40 :: 40 :: 40 :: 40 :: 40 :: l) (by decide) evCodeOf_n62 evCodeOf_n65
theorem evCodeOf_n67 : allR ok_CodeOf 14 4 4 (fun l => 40 :: 40 :: 40 :: 40 :: l) = true := evCodeOf_join ok_CodeOf 13 3 4 (fun l => 40 :: 40 :: 40 :: 40 :: l) (by decide) evCodeOf_n56 evCodeOf_n66
theorem evCodeOf_n68 : allR ok_CodeOf 15 3 3 (fun l => 40 :: 40 :: 40 :: l) = true := evCodeOf_join ok_CodeOf 14 2 3 (fun l => 40 :: 40 :: 40 :: l) (by decide) evCodeOf_n43 evCodeOf_n67
theorem evCodeOf_n69 : allR ok_CodeOf 16 2 2 (fun l => 40 :: 40 :: l) = true := evCodeOf_join ok_CodeOf 15 1 2 (fun l => 40 :: 40 :: l) (by decide) evCodeOf_n22 evCodeOf_n68
theorem evCodeOf_n70 : allR ok_CodeOf 17 1 1 (fun l => 40 :: l) = true := evCodeOf_join ok_CodeOf 16 0 1 (fun l => 40 :: l) (by decide) evCodeOf_c0 evCodeOf_n69
theorem evCodeOf_all : allR ok_CodeOf 17 1 1 (fun l => 40 :: l) = true := evCodeOf_n70
end
end Go.AI.T
