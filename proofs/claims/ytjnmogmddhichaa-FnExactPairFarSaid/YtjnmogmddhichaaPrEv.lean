/- The parts of the evaluation together. -/
import Derived.Test.YtjnmogmddhichaaPrEv0
import Derived.Test.YtjnmogmddhichaaPrEv1
import Derived.Test.YtjnmogmddhichaaPrEv2
import Derived.Test.YtjnmogmddhichaaPrEv3
namespace Go.AI.T
open Go Go.RowKit Go.AI
set_option linter.unusedVariables false
set_option linter.unusedSimpArgs false
set_option maxRecDepth 100000
noncomputable section
theorem evPr_join (t : List Nat → Bool) (f d m : Nat) (p : List Nat → List Nat) (hm : m + 1 ≤ 9) (h1 : allR t f d m (fun l => p (41 :: l)) = true) (h2 : allR t f (d + 2) (m + 1) (fun l => p (40 :: l)) = true) : allR t (f + 1) (d + 1) m p = true := by
  show bc (allR t f d m (fun l => p (41 :: l))) (bc (Nat.ble (m + 1) 9) (allR t f (d + 2) (m + 1) (fun l => p (40 :: l))) true) false = true
  rw [h1, h2, Nat.ble_eq_true_of_le hm]; rfl
theorem evPr_join9 (t : List Nat → Bool) (f d : Nat) (p : List Nat → List Nat) (h1 : allR t f d 9 (fun l => p (41 :: l)) = true) : allR t (f + 1) (d + 1) 9 p = true := by
  show bc (allR t f d 9 (fun l => p (41 :: l))) (bc (Nat.ble (9 + 1) 9) (allR t f (d + 2) (9 + 1) (fun l => p (40 :: l))) true) false = true
  rw [h1]; rfl
theorem evPr_n1 : allR ok_Pr 10 2 5 (fun l => 40 :: 40 :: 41 :: 40 :: 41 :: 40 :: 41 :: 40 :: l) = true := evPr_join ok_Pr 9 1 5 (fun l => 40 :: 40 :: 41 :: 40 :: 41 :: 40 :: 41 :: 40 :: l) (by decide) evPr_c4 evPr_c5
theorem evPr_n2 : allR ok_Pr 11 1 4 (fun l => 40 :: 40 :: 41 :: 40 :: 41 :: 40 :: 41 :: l) = true := evPr_join ok_Pr 10 0 4 (fun l => 40 :: 40 :: 41 :: 40 :: 41 :: 40 :: 41 :: l) (by decide) evPr_c3 evPr_n1
theorem evPr_n3 : allR ok_Pr 10 2 5 (fun l => 40 :: 40 :: 41 :: 40 :: 41 :: 40 :: 40 :: 41 :: l) = true := evPr_join ok_Pr 9 1 5 (fun l => 40 :: 40 :: 41 :: 40 :: 41 :: 40 :: 40 :: 41 :: l) (by decide) evPr_c6 evPr_c7
theorem evPr_n4 : allR ok_Pr 10 4 6 (fun l => 40 :: 40 :: 41 :: 40 :: 41 :: 40 :: 40 :: 40 :: l) = true := evPr_join ok_Pr 9 3 6 (fun l => 40 :: 40 :: 41 :: 40 :: 41 :: 40 :: 40 :: 40 :: l) (by decide) evPr_c8 evPr_c9
theorem evPr_n5 : allR ok_Pr 11 3 5 (fun l => 40 :: 40 :: 41 :: 40 :: 41 :: 40 :: 40 :: l) = true := evPr_join ok_Pr 10 2 5 (fun l => 40 :: 40 :: 41 :: 40 :: 41 :: 40 :: 40 :: l) (by decide) evPr_n3 evPr_n4
theorem evPr_n6 : allR ok_Pr 12 2 4 (fun l => 40 :: 40 :: 41 :: 40 :: 41 :: 40 :: l) = true := evPr_join ok_Pr 11 1 4 (fun l => 40 :: 40 :: 41 :: 40 :: 41 :: 40 :: l) (by decide) evPr_n2 evPr_n5
theorem evPr_n7 : allR ok_Pr 13 1 3 (fun l => 40 :: 40 :: 41 :: 40 :: 41 :: l) = true := evPr_join ok_Pr 12 0 3 (fun l => 40 :: 40 :: 41 :: 40 :: 41 :: l) (by decide) evPr_c2 evPr_n6
theorem evPr_n8 : allR ok_Pr 10 2 5 (fun l => 40 :: 40 :: 41 :: 40 :: 40 :: 41 :: 41 :: 40 :: l) = true := evPr_join ok_Pr 9 1 5 (fun l => 40 :: 40 :: 41 :: 40 :: 40 :: 41 :: 41 :: 40 :: l) (by decide) evPr_c11 evPr_c12
theorem evPr_n9 : allR ok_Pr 11 1 4 (fun l => 40 :: 40 :: 41 :: 40 :: 40 :: 41 :: 41 :: l) = true := evPr_join ok_Pr 10 0 4 (fun l => 40 :: 40 :: 41 :: 40 :: 40 :: 41 :: 41 :: l) (by decide) evPr_c10 evPr_n8
theorem evPr_n10 : allR ok_Pr 10 2 5 (fun l => 40 :: 40 :: 41 :: 40 :: 40 :: 41 :: 40 :: 41 :: l) = true := evPr_join ok_Pr 9 1 5 (fun l => 40 :: 40 :: 41 :: 40 :: 40 :: 41 :: 40 :: 41 :: l) (by decide) evPr_c13 evPr_c14
theorem evPr_n11 : allR ok_Pr 10 4 6 (fun l => 40 :: 40 :: 41 :: 40 :: 40 :: 41 :: 40 :: 40 :: l) = true := evPr_join ok_Pr 9 3 6 (fun l => 40 :: 40 :: 41 :: 40 :: 40 :: 41 :: 40 :: 40 :: l) (by decide) evPr_c15 evPr_c16
theorem evPr_n12 : allR ok_Pr 11 3 5 (fun l => 40 :: 40 :: 41 :: 40 :: 40 :: 41 :: 40 :: l) = true := evPr_join ok_Pr 10 2 5 (fun l => 40 :: 40 :: 41 :: 40 :: 40 :: 41 :: 40 :: l) (by decide) evPr_n10 evPr_n11
theorem evPr_n13 : allR ok_Pr 12 2 4 (fun l => 40 :: 40 :: 41 :: 40 :: 40 :: 41 :: l) = true := evPr_join ok_Pr 11 1 4 (fun l => 40 :: 40 :: 41 :: 40 :: 40 :: 41 :: l) (by decide) evPr_n9 evPr_n12
theorem evPr_n14 : allR ok_Pr 10 2 5 (fun l => 40 :: 40 :: 41 :: 40 :: 40 :: 40 :: 41 :: 41 :: l) = true := evPr_join ok_Pr 9 1 5 (fun l => 40 :: 40 :: 41 :: 40 :: 40 :: 40 :: 41 :: 41 :: l) (by decide) evPr_c17 evPr_c18
theorem evPr_n15 : allR ok_Pr 10 4 6 (fun l => 40 :: 40 :: 41 :: 40 :: 40 :: 40 :: 41 :: 40 :: l) = true := evPr_join ok_Pr 9 3 6 (fun l => 40 :: 40 :: 41 :: 40 :: 40 :: 40 :: 41 :: 40 :: l) (by decide) evPr_c19 evPr_c20
theorem evPr_n16 : allR ok_Pr 11 3 5 (fun l => 40 :: 40 :: 41 :: 40 :: 40 :: 40 :: 41 :: l) = true := evPr_join ok_Pr 10 2 5 (fun l => 40 :: 40 :: 41 :: 40 :: 40 :: 40 :: 41 :: l) (by decide) evPr_n14 evPr_n15
theorem evPr_n17 : allR ok_Pr 10 4 6 (fun l => 40 :: 40 :: 41 :: 40 :: 40 :: 40 :: 40 :: 41 :: l) = true := evPr_join ok_Pr 9 3 6 (fun l => 40 :: 40 :: 41 :: 40 :: 40 :: 40 :: 40 :: 41 :: l) (by decide) evPr_c21 evPr_c22
theorem evPr_n18 : allR ok_Pr 11 5 6 (fun l => 40 :: 40 :: 41 :: 40 :: 40 :: 40 :: 40 :: l) = true := evPr_join ok_Pr 10 4 6 (fun l => 40 :: 40 :: 41 :: 40 :: 40 :: 40 :: 40 :: l) (by decide) evPr_n17 evPr_c23
theorem evPr_n19 : allR ok_Pr 12 4 5 (fun l => 40 :: 40 :: 41 :: 40 :: 40 :: 40 :: l) = true := evPr_join ok_Pr 11 3 5 (fun l => 40 :: 40 :: 41 :: 40 :: 40 :: 40 :: l) (by decide) evPr_n16 evPr_n18
theorem evPr_n20 : allR ok_Pr 13 3 4 (fun l => 40 :: 40 :: 41 :: 40 :: 40 :: l) = true := evPr_join ok_Pr 12 2 4 (fun l => 40 :: 40 :: 41 :: 40 :: 40 :: l) (by decide) evPr_n13 evPr_n19
theorem evPr_n21 : allR ok_Pr 14 2 3 (fun l => 40 :: 40 :: 41 :: 40 :: l) = true := evPr_join ok_Pr 13 1 3 (fun l => 40 :: 40 :: 41 :: 40 :: l) (by decide) evPr_n7 evPr_n20
theorem evPr_n22 : allR ok_Pr 15 1 2 (fun l => 40 :: 40 :: 41 :: l) = true := evPr_join ok_Pr 14 0 2 (fun l => 40 :: 40 :: 41 :: l) (by decide) evPr_c1 evPr_n21
theorem evPr_n23 : allR ok_Pr 10 2 5 (fun l => 40 :: 40 :: 40 :: 41 :: 41 :: 40 :: 41 :: 40 :: l) = true := evPr_join ok_Pr 9 1 5 (fun l => 40 :: 40 :: 40 :: 41 :: 41 :: 40 :: 41 :: 40 :: l) (by decide) evPr_c26 evPr_c27
theorem evPr_n24 : allR ok_Pr 11 1 4 (fun l => 40 :: 40 :: 40 :: 41 :: 41 :: 40 :: 41 :: l) = true := evPr_join ok_Pr 10 0 4 (fun l => 40 :: 40 :: 40 :: 41 :: 41 :: 40 :: 41 :: l) (by decide) evPr_c25 evPr_n23
theorem evPr_n25 : allR ok_Pr 10 2 5 (fun l => 40 :: 40 :: 40 :: 41 :: 41 :: 40 :: 40 :: 41 :: l) = true := evPr_join ok_Pr 9 1 5 (fun l => 40 :: 40 :: 40 :: 41 :: 41 :: 40 :: 40 :: 41 :: l) (by decide) evPr_c28 evPr_c29
theorem evPr_n26 : allR ok_Pr 10 4 6 (fun l => 40 :: 40 :: 40 :: 41 :: 41 :: 40 :: 40 :: 40 :: l) = true := evPr_join ok_Pr 9 3 6 (fun l => 40 :: 40 :: 40 :: 41 :: 41 :: 40 :: 40 :: 40 :: l) (by decide) evPr_c30 evPr_c31
theorem evPr_n27 : allR ok_Pr 11 3 5 (fun l => 40 :: 40 :: 40 :: 41 :: 41 :: 40 :: 40 :: l) = true := evPr_join ok_Pr 10 2 5 (fun l => 40 :: 40 :: 40 :: 41 :: 41 :: 40 :: 40 :: l) (by decide) evPr_n25 evPr_n26
theorem evPr_n28 : allR ok_Pr 12 2 4 (fun l => 40 :: 40 :: 40 :: 41 :: 41 :: 40 :: l) = true := evPr_join ok_Pr 11 1 4 (fun l => 40 :: 40 :: 40 :: 41 :: 41 :: 40 :: l) (by decide) evPr_n24 evPr_n27
theorem evPr_n29 : allR ok_Pr 13 1 3 (fun l => 40 :: 40 :: 40 :: 41 :: 41 :: l) = true := evPr_join ok_Pr 12 0 3 (fun l => 40 :: 40 :: 40 :: 41 :: 41 :: l) (by decide) evPr_c24 evPr_n28
theorem evPr_n30 : allR ok_Pr 10 2 5 (fun l => 40 :: 40 :: 40 :: 41 :: 40 :: 41 :: 41 :: 40 :: l) = true := evPr_join ok_Pr 9 1 5 (fun l => 40 :: 40 :: 40 :: 41 :: 40 :: 41 :: 41 :: 40 :: l) (by decide) evPr_c33 evPr_c34
theorem evPr_n31 : allR ok_Pr 11 1 4 (fun l => 40 :: 40 :: 40 :: 41 :: 40 :: 41 :: 41 :: l) = true := evPr_join ok_Pr 10 0 4 (fun l => 40 :: 40 :: 40 :: 41 :: 40 :: 41 :: 41 :: l) (by decide) evPr_c32 evPr_n30
theorem evPr_n32 : allR ok_Pr 10 2 5 (fun l => 40 :: 40 :: 40 :: 41 :: 40 :: 41 :: 40 :: 41 :: l) = true := evPr_join ok_Pr 9 1 5 (fun l => 40 :: 40 :: 40 :: 41 :: 40 :: 41 :: 40 :: 41 :: l) (by decide) evPr_c35 evPr_c36
theorem evPr_n33 : allR ok_Pr 10 4 6 (fun l => 40 :: 40 :: 40 :: 41 :: 40 :: 41 :: 40 :: 40 :: l) = true := evPr_join ok_Pr 9 3 6 (fun l => 40 :: 40 :: 40 :: 41 :: 40 :: 41 :: 40 :: 40 :: l) (by decide) evPr_c37 evPr_c38
theorem evPr_n34 : allR ok_Pr 11 3 5 (fun l => 40 :: 40 :: 40 :: 41 :: 40 :: 41 :: 40 :: l) = true := evPr_join ok_Pr 10 2 5 (fun l => 40 :: 40 :: 40 :: 41 :: 40 :: 41 :: 40 :: l) (by decide) evPr_n32 evPr_n33
theorem evPr_n35 : allR ok_Pr 12 2 4 (fun l => 40 :: 40 :: 40 :: 41 :: 40 :: 41 :: l) = true := evPr_join ok_Pr 11 1 4 (fun l => 40 :: 40 :: 40 :: 41 :: 40 :: 41 :: l) (by decide) evPr_n31 evPr_n34
theorem evPr_n36 : allR ok_Pr 10 2 5 (fun l => 40 :: 40 :: 40 :: 41 :: 40 :: 40 :: 41 :: 41 :: l) = true := evPr_join ok_Pr 9 1 5 (fun l => 40 :: 40 :: 40 :: 41 :: 40 :: 40 :: 41 :: 41 :: l) (by decide) evPr_c39 evPr_c40
theorem evPr_n37 : allR ok_Pr 10 4 6 (fun l => 40 :: 40 :: 40 :: 41 :: 40 :: 40 :: 41 :: 40 :: l) = true := evPr_join ok_Pr 9 3 6 (fun l => 40 :: 40 :: 40 :: 41 :: 40 :: 40 :: 41 :: 40 :: l) (by decide) evPr_c41 evPr_c42
theorem evPr_n38 : allR ok_Pr 11 3 5 (fun l => 40 :: 40 :: 40 :: 41 :: 40 :: 40 :: 41 :: l) = true := evPr_join ok_Pr 10 2 5 (fun l => 40 :: 40 :: 40 :: 41 :: 40 :: 40 :: 41 :: l) (by decide) evPr_n36 evPr_n37
theorem evPr_n39 : allR ok_Pr 10 4 6 (fun l => 40 :: 40 :: 40 :: 41 :: 40 :: 40 :: 40 :: 41 :: l) = true := evPr_join ok_Pr 9 3 6 (fun l => 40 :: 40 :: 40 :: 41 :: 40 :: 40 :: 40 :: 41 :: l) (by decide) evPr_c43 evPr_c44
theorem evPr_n40 : allR ok_Pr 11 5 6 (fun l => 40 :: 40 :: 40 :: 41 :: 40 :: 40 :: 40 :: l) = true := evPr_join ok_Pr 10 4 6 (fun l => 40 :: 40 :: 40 :: 41 :: 40 :: 40 :: 40 :: l) (by decide) evPr_n39 evPr_c45
theorem evPr_n41 : allR ok_Pr 12 4 5 (fun l => 40 :: 40 :: 40 :: 41 :: 40 :: 40 :: l) = true := evPr_join ok_Pr 11 3 5 (fun l => 40 :: 40 :: 40 :: 41 :: 40 :: 40 :: l) (by decide) evPr_n38 evPr_n40
theorem evPr_n42 : allR ok_Pr 13 3 4 (fun l => 40 :: 40 :: 40 :: 41 :: 40 :: l) = true := evPr_join ok_Pr 12 2 4 (fun l => 40 :: 40 :: 40 :: 41 :: 40 :: l) (by decide) evPr_n35 evPr_n41
theorem evPr_n43 : allR ok_Pr 14 2 3 (fun l => 40 :: 40 :: 40 :: 41 :: l) = true := evPr_join ok_Pr 13 1 3 (fun l => 40 :: 40 :: 40 :: 41 :: l) (by decide) evPr_n29 evPr_n42
theorem evPr_n44 : allR ok_Pr 10 2 5 (fun l => 40 :: 40 :: 40 :: 40 :: 41 :: 41 :: 41 :: 40 :: l) = true := evPr_join ok_Pr 9 1 5 (fun l => 40 :: 40 :: 40 :: 40 :: 41 :: 41 :: 41 :: 40 :: l) (by decide) evPr_c47 evPr_c48
theorem evPr_n45 : allR ok_Pr 11 1 4 (fun l => 40 :: 40 :: 40 :: 40 :: 41 :: 41 :: 41 :: l) = true := evPr_join ok_Pr 10 0 4 (fun l => 40 :: 40 :: 40 :: 40 :: 41 :: 41 :: 41 :: l) (by decide) evPr_c46 evPr_n44
theorem evPr_n46 : allR ok_Pr 10 2 5 (fun l => 40 :: 40 :: 40 :: 40 :: 41 :: 41 :: 40 :: 41 :: l) = true := evPr_join ok_Pr 9 1 5 (fun l => 40 :: 40 :: 40 :: 40 :: 41 :: 41 :: 40 :: 41 :: l) (by decide) evPr_c49 evPr_c50
theorem evPr_n47 : allR ok_Pr 10 4 6 (fun l => 40 :: 40 :: 40 :: 40 :: 41 :: 41 :: 40 :: 40 :: l) = true := evPr_join ok_Pr 9 3 6 (fun l => 40 :: 40 :: 40 :: 40 :: 41 :: 41 :: 40 :: 40 :: l) (by decide) evPr_c51 evPr_c52
theorem evPr_n48 : allR ok_Pr 11 3 5 (fun l => 40 :: 40 :: 40 :: 40 :: 41 :: 41 :: 40 :: l) = true := evPr_join ok_Pr 10 2 5 (fun l => 40 :: 40 :: 40 :: 40 :: 41 :: 41 :: 40 :: l) (by decide) evPr_n46 evPr_n47
theorem evPr_n49 : allR ok_Pr 12 2 4 (fun l => 40 :: 40 :: 40 :: 40 :: 41 :: 41 :: l) = true := evPr_join ok_Pr 11 1 4 (fun l => 40 :: 40 :: 40 :: 40 :: 41 :: 41 :: l) (by decide) evPr_n45 evPr_n48
theorem evPr_n50 : allR ok_Pr 10 2 5 (fun l => 40 :: 40 :: 40 :: 40 :: 41 :: 40 :: 41 :: 41 :: l) = true := evPr_join ok_Pr 9 1 5 (fun l => 40 :: 40 :: 40 :: 40 :: 41 :: 40 :: 41 :: 41 :: l) (by decide) evPr_c53 evPr_c54
theorem evPr_n51 : allR ok_Pr 10 4 6 (fun l => 40 :: 40 :: 40 :: 40 :: 41 :: 40 :: 41 :: 40 :: l) = true := evPr_join ok_Pr 9 3 6 (fun l => 40 :: 40 :: 40 :: 40 :: 41 :: 40 :: 41 :: 40 :: l) (by decide) evPr_c55 evPr_c56
theorem evPr_n52 : allR ok_Pr 11 3 5 (fun l => 40 :: 40 :: 40 :: 40 :: 41 :: 40 :: 41 :: l) = true := evPr_join ok_Pr 10 2 5 (fun l => 40 :: 40 :: 40 :: 40 :: 41 :: 40 :: 41 :: l) (by decide) evPr_n50 evPr_n51
theorem evPr_n53 : allR ok_Pr 10 4 6 (fun l => 40 :: 40 :: 40 :: 40 :: 41 :: 40 :: 40 :: 41 :: l) = true := evPr_join ok_Pr 9 3 6 (fun l => 40 :: 40 :: 40 :: 40 :: 41 :: 40 :: 40 :: 41 :: l) (by decide) evPr_c57 evPr_c58
theorem evPr_n54 : allR ok_Pr 11 5 6 (fun l => 40 :: 40 :: 40 :: 40 :: 41 :: 40 :: 40 :: l) = true := evPr_join ok_Pr 10 4 6 (fun l => 40 :: 40 :: 40 :: 40 :: 41 :: 40 :: 40 :: l) (by decide) evPr_n53 evPr_c59
theorem evPr_n55 : allR ok_Pr 12 4 5 (fun l => 40 :: 40 :: 40 :: 40 :: 41 :: 40 :: l) = true := evPr_join ok_Pr 11 3 5 (fun l => 40 :: 40 :: 40 :: 40 :: 41 :: 40 :: l) (by decide) evPr_n52 evPr_n54
theorem evPr_n56 : allR ok_Pr 13 3 4 (fun l => 40 :: 40 :: 40 :: 40 :: 41 :: l) = true := evPr_join ok_Pr 12 2 4 (fun l => 40 :: 40 :: 40 :: 40 :: 41 :: l) (by decide) evPr_n49 evPr_n55
theorem evPr_n57 : allR ok_Pr 10 2 5 (fun l => 40 :: 40 :: 40 :: 40 :: 40 :: 41 :: 41 :: 41 :: l) = true := evPr_join ok_Pr 9 1 5 (fun l => 40 :: 40 :: 40 :: 40 :: 40 :: 41 :: 41 :: 41 :: l) (by decide) evPr_c60 evPr_c61
theorem evPr_n58 : allR ok_Pr 10 4 6 (fun l => 40 :: 40 :: 40 :: 40 :: 40 :: 41 :: 41 :: 40 :: l) = true := evPr_join ok_Pr 9 3 6 (fun l => 40 :: 40 :: 40 :: 40 :: 40 :: 41 :: 41 :: 40 :: l) (by decide) evPr_c62 evPr_c63
theorem evPr_n59 : allR ok_Pr 11 3 5 (fun l => 40 :: 40 :: 40 :: 40 :: 40 :: 41 :: 41 :: l) = true := evPr_join ok_Pr 10 2 5 (fun l => 40 :: 40 :: 40 :: 40 :: 40 :: 41 :: 41 :: l) (by decide) evPr_n57 evPr_n58
theorem evPr_n60 : allR ok_Pr 10 4 6 (fun l => 40 :: 40 :: 40 :: 40 :: 40 :: 41 :: 40 :: 41 :: l) = true := evPr_join ok_Pr 9 3 6 (fun l => 40 :: 40 :: 40 :: 40 :: 40 :: 41 :: 40 :: 41 :: l) (by decide) evPr_c64 evPr_c65
theorem evPr_n61 : allR ok_Pr 11 5 6 (fun l => 40 :: 40 :: 40 :: 40 :: 40 :: 41 :: 40 :: l) = true := evPr_join ok_Pr 10 4 6 (fun l => 40 :: 40 :: 40 :: 40 :: 40 :: 41 :: 40 :: l) (by decide) evPr_n60 evPr_c66
theorem evPr_n62 : allR ok_Pr 12 4 5 (fun l => 40 :: 40 :: 40 :: 40 :: 40 :: 41 :: l) = true := evPr_join ok_Pr 11 3 5 (fun l => 40 :: 40 :: 40 :: 40 :: 40 :: 41 :: l) (by decide) evPr_n59 evPr_n61
theorem evPr_n63 : allR ok_Pr 10 4 6 (fun l => 40 :: 40 :: 40 :: 40 :: 40 :: 40 :: 41 :: 41 :: l) = true := evPr_join ok_Pr 9 3 6 (fun l => 40 :: 40 :: 40 :: 40 :: 40 :: 40 :: 41 :: 41 :: l) (by decide) evPr_c67 evPr_c68
theorem evPr_n64 : allR ok_Pr 11 5 6 (fun l => 40 :: 40 :: 40 :: 40 :: 40 :: 40 :: 41 :: l) = true := evPr_join ok_Pr 10 4 6 (fun l => 40 :: 40 :: 40 :: 40 :: 40 :: 40 :: 41 :: l) (by decide) evPr_n63 evPr_c69
theorem evPr_n65 : allR ok_Pr 12 6 6 (fun l => 40 :: 40 :: 40 :: 40 :: 40 :: 40 :: l) = true := evPr_join ok_Pr 11 5 6 (fun l => 40 :: 40 :: 40 :: 40 :: 40 :: 40 :: l) (by decide) evPr_n64 evPr_c70
theorem evPr_n66 : allR ok_Pr 13 5 5 (fun l => 40 :: 40 :: 40 :: 40 :: 40 :: l) = true := evPr_join ok_Pr 12 4 5 (fun l => 40 :: 40 :: 40 :: 40 :: 40 :: l) (by decide) evPr_n62 evPr_n65
theorem evPr_n67 : allR ok_Pr 14 4 4 (fun l => 40 :: 40 :: 40 :: 40 :: l) = true := evPr_join ok_Pr 13 3 4 (fun l => 40 :: 40 :: 40 :: 40 :: l) (by decide) evPr_n56 evPr_n66
theorem evPr_n68 : allR ok_Pr 15 3 3 (fun l => 40 :: 40 :: 40 :: l) = true := evPr_join ok_Pr 14 2 3 (fun l => 40 :: 40 :: 40 :: l) (by decide) evPr_n43 evPr_n67
theorem evPr_n69 : allR ok_Pr 16 2 2 (fun l => 40 :: 40 :: l) = true := evPr_join ok_Pr 15 1 2 (fun l => 40 :: 40 :: l) (by decide) evPr_n22 evPr_n68
theorem evPr_n70 : allR ok_Pr 17 1 1 (fun l => 40 :: l) = true := evPr_join ok_Pr 16 0 1 (fun l => 40 :: l) (by decide) evPr_c0 evPr_n69
theorem evPr_all : allR ok_Pr 17 1 1 (fun l => 40 :: l) = true := evPr_n70
end
end Go.AI.T
