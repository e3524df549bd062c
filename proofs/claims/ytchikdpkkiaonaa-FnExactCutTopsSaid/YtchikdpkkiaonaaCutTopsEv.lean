/- The parts of the evaluation together. -/
import Derived.Test.YtchikdpkkiaonaaCutTopsEv0
import Derived.Test.YtchikdpkkiaonaaCutTopsEv1
import Derived.Test.YtchikdpkkiaonaaCutTopsEv2
import Derived.Test.YtchikdpkkiaonaaCutTopsEv3
import Derived.Test.YtchikdpkkiaonaaCutTopsEv4
import Derived.Test.YtchikdpkkiaonaaCutTopsEv5
import Derived.Test.YtchikdpkkiaonaaCutTopsEv6
import Derived.Test.YtchikdpkkiaonaaCutTopsEv7
namespace Go.AI.T
open Go Go.RowKit Go.AI
set_option linter.unusedVariables false
set_option linter.unusedSimpArgs false
set_option maxRecDepth 100000
noncomputable section
theorem evCutTops_join (t : List Nat → Bool) (f d m : Nat) (p : List Nat → List Nat) (hm : m + 1 ≤ 9) (h1 : allR t f d m (fun l => p (41 :: l)) = true) (h2 : allR t f (d + 2) (m + 1) (fun l => p (40 :: l)) = true) : allR t (f + 1) (d + 1) m p = true := by
  show bc (allR t f d m (fun l => p (41 :: l))) (bc (Nat.ble (m + 1) 9) (allR t f (d + 2) (m + 1) (fun l => p (40 :: l))) true) false = true
  rw [h1, h2, Nat.ble_eq_true_of_le hm]; rfl
theorem evCutTops_join9 (t : List Nat → Bool) (f d : Nat) (p : List Nat → List Nat) (h1 : allR t f d 9 (fun l => p (41 :: l)) = true) : allR t (f + 1) (d + 1) 9 p = true := by
  show bc (allR t f d 9 (fun l => p (41 :: l))) (bc (Nat.ble (9 + 1) 9) (allR t f (d + 2) (9 + 1) (fun l => p (40 :: l))) true) false = true
  rw [h1]; rfl
theorem evCutTops_n1 : allR ok_CutTops 10 2 5 (fun l => 40 :: 40 :: 41 :: 40 :: 41 :: 40 :: 41 :: 40 :: l) = true := evCutTops_join ok_CutTops 9 1 5 (fun l => 40 :: 40 :: 41 :: 40 :: 41 :: 40 :: 41 :: 40 :: l) (by decide) evCutTops_c4 evCutTops_c5
theorem evCutTops_n2 : allR ok_CutTops 11 1 4 (fun l => 40 :: 40 :: 41 :: 40 :: 41 :: 40 :: 41 :: l) = true := evCutTops_join ok_CutTops 10 0 4 (fun l => 40 :: 40 :: 41 :: 40 :: 41 :: 40 :: 41 :: l) (by decide) evCutTops_c3 evCutTops_n1
theorem evCutTops_n3 : allR ok_CutTops 10 2 5 (fun l => 40 :: 40 :: 41 :: 40 :: 41 :: 40 :: 40 :: 41 :: l) = true := evCutTops_join ok_CutTops 9 1 5 (fun l => 40 :: 40 :: 41 :: 40 :: 41 :: 40 :: 40 :: 41 :: l) (by decide) evCutTops_c6 evCutTops_c7
theorem evCutTops_n4 : allR ok_CutTops 10 4 6 (fun l => 40 :: 40 :: 41 :: 40 :: 41 :: 40 :: 40 :: 40 :: l) = true := evCutTops_join ok_CutTops 9 3 6 (fun l => 40 :: 40 :: 41 :: 40 :: 41 :: 40 :: 40 :: 40 :: l) (by decide) evCutTops_c8 evCutTops_c9
theorem evCutTops_n5 : allR ok_CutTops 11 3 5 (fun l => 40 :: 40 :: 41 :: 40 :: 41 :: 40 :: 40 :: l) = true := evCutTops_join ok_CutTops 10 2 5 (fun l => 40 :: 40 :: 41 :: 40 :: 41 :: 40 :: 40 :: l) (by decide) evCutTops_n3 evCutTops_n4
theorem evCutTops_n6 : allR ok_CutTops 12 2 4 (fun l => 40 :: 40 :: 41 :: 40 :: 41 :: 40 :: l) = true := evCutTops_join ok_CutTops 11 1 4 (fun l => 40 :: 40 :: 41 :: 40 :: 41 :: 40 :: l) (by decide) evCutTops_n2 evCutTops_n5
theorem evCutTops_n7 : allR ok_CutTops 13 1 3 (fun l => 40 :: 40 :: 41 :: 40 :: 41 :: l) = true := evCutTops_join ok_CutTops 12 0 3 (fun l => 40 :: 40 :: 41 :: 40 :: 41 :: l) (by decide) evCutTops_c2 evCutTops_n6
theorem evCutTops_n8 : allR ok_CutTops 10 2 5 (fun l => 40 :: 40 :: 41 :: 40 :: 40 :: 41 :: 41 :: 40 :: l) = true := evCutTops_join ok_CutTops 9 1 5 (fun l => 40 :: 40 :: 41 :: 40 :: 40 :: 41 :: 41 :: 40 :: l) (by decide) evCutTops_c11 evCutTops_c12
theorem evCutTops_n9 : allR ok_CutTops 11 1 4 (fun l => 40 :: 40 :: 41 :: 40 :: 40 :: 41 :: 41 :: l) = true := evCutTops_join ok_CutTops 10 0 4 (fun l => 40 :: 40 :: 41 :: 40 :: 40 :: 41 :: 41 :: l) (by decide) evCutTops_c10 evCutTops_n8
theorem evCutTops_n10 : allR ok_CutTops 10 2 5 (fun l => 40 :: 40 :: 41 :: 40 :: 40 :: 41 :: 40 :: 41 :: l) = true := evCutTops_join ok_CutTops 9 1 5 (fun l => 40 :: 40 :: 41 :: 40 :: 40 :: 41 :: 40 :: 41 :: l) (by decide) evCutTops_c13 evCutTops_c14
theorem evCutTops_n11 : allR ok_CutTops 10 4 6 (fun l => 40 :: 40 :: 41 :: 40 :: 40 :: 41 :: 40 :: 40 :: l) = true := evCutTops_join ok_CutTops 9 3 6 (fun l => 40 :: 40 :: 41 :: 40 :: 40 :: 41 :: 40 :: 40 :: l) (by decide) evCutTops_c15 evCutTops_c16
theorem evCutTops_n12 : allR ok_CutTops 11 3 5 (fun l => 40 :: 40 :: 41 :: 40 :: 40 :: 41 :: 40 :: l) = true := evCutTops_join ok_CutTops 10 2 5 (fun l => 40 :: 40 :: 41 :: 40 :: 40 :: 41 :: 40 :: l) (by decide) evCutTops_n10 evCutTops_n11
theorem evCutTops_n13 : allR ok_CutTops 12 2 4 (fun l => 40 :: 40 :: 41 :: 40 :: 40 :: 41 :: l) = true := evCutTops_join ok_CutTops 11 1 4 (fun l => 40 :: 40 :: 41 :: 40 :: 40 :: 41 :: l) (by decide) evCutTops_n9 evCutTops_n12
theorem evCutTops_n14 : allR ok_CutTops 10 2 5 (fun l => 40 :: 40 :: 41 :: 40 :: 40 :: 40 :: 41 :: 41 :: l) = true := evCutTops_join ok_CutTops 9 1 5 (fun l => 40 :: 40 :: 41 :: 40 :: 40 :: 40 :: 41 :: 41 :: l) (by decide) evCutTops_c17 evCutTops_c18
theorem evCutTops_n15 : allR ok_CutTops 10 4 6 (fun l => 40 :: 40 :: 41 :: 40 :: 40 :: 40 :: 41 :: 40 :: l) = true := evCutTops_join ok_CutTops 9 3 6 (fun l => 40 :: 40 :: 41 :: 40 :: 40 :: 40 :: 41 :: 40 :: l) (by decide) evCutTops_c19 evCutTops_c20
theorem evCutTops_n16 : allR ok_CutTops 11 3 5 (fun l => 40 :: 40 :: 41 :: 40 :: 40 :: 40 :: 41 :: l) = true := evCutTops_join ok_CutTops 10 2 5 (fun l => 40 :: 40 :: 41 :: 40 :: 40 :: 40 :: 41 :: l) (by decide) evCutTops_n14 evCutTops_n15
theorem evCutTops_n17 : allR ok_CutTops 10 4 6 (fun l => 40 :: 40 :: 41 :: 40 :: 40 :: 40 :: 40 :: 41 :: l) = true := evCutTops_join ok_CutTops 9 3 6 (fun l => 40 :: 40 :: 41 :: 40 :: 40 :: 40 :: 40 :: 41 :: l) (by decide) evCutTops_c21 evCutTops_c22
theorem evCutTops_n18 : allR ok_CutTops 11 5 6 (fun l => 40 :: 40 :: 41 :: 40 :: 40 :: 40 :: 40 :: l) = true := evCutTops_join ok_CutTops 10 4 6 (fun l => 40 :: 40 :: 41 :: 40 :: 40 :: 40 :: 40 :: l) (by decide) evCutTops_n17 evCutTops_c23
theorem evCutTops_n19 : allR ok_CutTops 12 4 5 (fun l => 40 :: 40 :: 41 :: 40 :: 40 :: 40 :: l) = true := evCutTops_join ok_CutTops 11 3 5 (fun l => 40 :: 40 :: 41 :: 40 :: 40 :: 40 :: l) (by decide) evCutTops_n16 evCutTops_n18
theorem evCutTops_n20 : allR ok_CutTops 13 3 4 (fun l => 40 :: 40 :: 41 :: 40 :: 40 :: l) = true := evCutTops_join ok_CutTops 12 2 4 (fun l => 40 :: 40 :: 41 :: 40 :: 40 :: l) (by decide) evCutTops_n13 evCutTops_n19
theorem evCutTops_n21 : allR ok_CutTops 14 2 3 (fun l => 40 :: 40 :: 41 :: 40 :: l) = true := evCutTops_join ok_CutTops 13 1 3 (fun l => 40 :: 40 :: 41 :: 40 :: l) (by decide) evCutTops_n7 evCutTops_n20
theorem evCutTops_n22 : allR ok_CutTops 15 1 2 (fun l => 40 :: 40 :: 41 :: l) = true := evCutTops_join ok_CutTops 14 0 2 (fun l => 40 :: 40 :: 41 :: l) (by decide) evCutTops_c1 evCutTops_n21
theorem evCutTops_n23 : allR ok_CutTops 10 2 5 (fun l => 40 :: 40 :: 40 :: 41 :: 41 :: 40 :: 41 :: 40 :: l) = true := evCutTops_join ok_CutTops 9 1 5 (fun l => 40 :: 40 :: 40 :: 41 :: 41 :: 40 :: 41 :: 40 :: l) (by decide) evCutTops_c26 evCutTops_c27
theorem evCutTops_n24 : allR ok_CutTops 11 1 4 (fun l => 40 :: 40 :: 40 :: 41 :: 41 :: 40 :: 41 :: l) = true := evCutTops_join ok_CutTops 10 0 4 (fun l => 40 :: 40 :: 40 :: 41 :: 41 :: 40 :: 41 :: l) (by decide) evCutTops_c25 evCutTops_n23
theorem evCutTops_n25 : allR ok_CutTops 10 2 5 (fun l => 40 :: 40 :: 40 :: 41 :: 41 :: 40 :: 40 :: 41 :: l) = true := evCutTops_join ok_CutTops 9 1 5 (fun l => 40 :: 40 :: 40 :: 41 :: 41 :: 40 :: 40 :: 41 :: l) (by decide) evCutTops_c28 evCutTops_c29
theorem evCutTops_n26 : allR ok_CutTops 10 4 6 (fun l => 40 :: 40 :: 40 :: 41 :: 41 :: 40 :: 40 :: 40 :: l) = true := evCutTops_join ok_CutTops 9 3 6 (fun l => 40 :: 40 :: 40 :: 41 :: 41 :: 40 :: 40 :: 40 :: l) (by decide) evCutTops_c30 evCutTops_c31
theorem evCutTops_n27 : allR ok_CutTops 11 3 5 (fun l => 40 :: 40 :: 40 :: 41 :: 41 :: 40 :: 40 :: l) = true := evCutTops_join ok_CutTops 10 2 5 (fun l => 40 :: 40 :: 40 :: 41 :: 41 :: 40 :: 40 :: l) (by decide) evCutTops_n25 evCutTops_n26
theorem evCutTops_n28 : allR ok_CutTops 12 2 4 (fun l => 40 :: 40 :: 40 :: 41 :: 41 :: 40 :: l) = true := evCutTops_join ok_CutTops 11 1 4 (fun l => 40 :: 40 :: 40 :: 41 :: 41 :: 40 :: l) (by decide) evCutTops_n24 evCutTops_n27
theorem evCutTops_n29 : allR ok_CutTops 13 1 3 (fun l => 40 :: 40 :: 40 :: 41 :: 41 :: l) = true := evCutTops_join ok_CutTops 12 0 3 (fun l => 40 :: 40 :: 40 :: 41 :: 41 :: l) (by decide) evCutTops_c24 evCutTops_n28
theorem evCutTops_n30 : allR ok_CutTops 10 2 5 (fun l => 40 :: 40 :: 40 :: 41 :: 40 :: 41 :: 41 :: 40 :: l) = true := evCutTops_join ok_CutTops 9 1 5 (fun l => 40 :: 40 :: 40 :: 41 :: 40 :: 41 :: 41 :: 40 :: l) (by decide) evCutTops_c33 evCutTops_c34
theorem evCutTops_n31 : allR ok_CutTops 11 1 4 (fun l => 40 :: 40 :: 40 :: 41 :: 40 :: 41 :: 41 :: l) = true := evCutTops_join ok_CutTops 10 0 4 (fun l => 40 :: 40 :: 40 :: 41 :: 40 :: 41 :: 41 :: l) (by decide) evCutTops_c32 evCutTops_n30
theorem evCutTops_n32 : allR ok_CutTops 10 2 5 (fun l => 40 :: 40 :: 40 :: 41 :: 40 :: 41 :: 40 :: 41 :: l) = true := evCutTops_join ok_CutTops 9 1 5 (fun l => 40 :: 40 :: 40 :: 41 :: 40 :: 41 :: 40 :: 41 :: l) (by decide) evCutTops_c35 evCutTops_c36
theorem evCutTops_n33 : allR ok_CutTops 10 4 6 (fun l => 40 :: 40 :: 40 :: 41 :: 40 :: 41 :: 40 :: 40 :: l) = true := evCutTops_join ok_CutTops 9 3 6 (fun l => 40 :: 40 :: 40 :: 41 :: 40 :: 41 :: 40 :: 40 :: l) (by decide) evCutTops_c37 evCutTops_c38
theorem evCutTops_n34 : allR ok_CutTops 11 3 5 (fun l => 40 :: 40 :: 40 :: 41 :: 40 :: 41 :: 40 :: l) = true := evCutTops_join ok_CutTops 10 2 5 (fun l => 40 :: 40 :: 40 :: 41 :: 40 :: 41 :: 40 :: l) (by decide) evCutTops_n32 evCutTops_n33
theorem evCutTops_n35 : allR ok_CutTops 12 2 4 (fun l => 40 :: 40 :: 40 :: 41 :: 40 :: 41 :: l) = true := evCutTops_join ok_CutTops 11 1 4 (fun l => 40 :: 40 :: 40 :: 41 :: 40 :: 41 :: l) (by decide) evCutTops_n31 evCutTops_n34
theorem evCutTops_n36 : allR ok_CutTops 10 2 5 (fun l => 40 :: 40 :: 40 :: 41 :: 40 :: 40 :: 41 :: 41 :: l) = true := evCutTops_join ok_CutTops 9 1 5 (fun l => 40 :: 40 :: 40 :: 41 :: 40 :: 40 :: 41 :: 41 :: l) (by decide) evCutTops_c39 evCutTops_c40
theorem evCutTops_n37 : allR ok_CutTops 10 4 6 (fun l => 40 :: 40 :: 40 :: 41 :: 40 :: 40 :: 41 :: 40 :: l) = true := evCutTops_join ok_CutTops 9 3 6 (fun l => 40 :: 40 :: 40 :: 41 :: 40 :: 40 :: 41 :: 40 :: l) (by decide) evCutTops_c41 evCutTops_c42
theorem evCutTops_n38 : allR ok_CutTops 11 3 5 (fun l => 40 :: 40 :: 40 :: 41 :: 40 :: 40 :: 41 :: l) = true := evCutTops_join ok_CutTops 10 2 5 (fun l => 40 :: 40 :: 40 :: 41 :: 40 :: 40 :: 41 :: l) (by decide) evCutTops_n36 evCutTops_n37
theorem evCutTops_n39 : allR ok_CutTops 10 4 6 (fun l => 40 :: 40 :: 40 :: 41 :: 40 :: 40 :: 40 :: 41 :: l) = true := evCutTops_join ok_CutTops 9 3 6 (fun l => 40 :: 40 :: 40 :: 41 :: 40 :: 40 :: 40 :: 41 :: l) (by decide) evCutTops_c43 evCutTops_c44
theorem evCutTops_n40 : allR ok_CutTops 11 5 6 (fun l => 40 :: 40 :: 40 :: 41 :: 40 :: 40 :: 40 :: l) = true := evCutTops_join ok_CutTops 10 4 6 (fun l => 40 :: 40 :: 40 :: 41 :: 40 :: 40 :: 40 :: l) (by decide) evCutTops_n39 evCutTops_c45
theorem evCutTops_n41 : allR ok_CutTops 12 4 5 (fun l => 40 :: 40 :: 40 :: 41 :: 40 :: 40 :: l) = true := evCutTops_join ok_CutTops 11 3 5 (fun l => 40 :: 40 :: 40 :: 41 :: 40 :: 40 :: l) (by decide) evCutTops_n38 evCutTops_n40
theorem evCutTops_n42 : allR ok_CutTops 13 3 4 (fun l => 40 :: 40 :: 40 :: 41 :: 40 :: l) = true := evCutTops_join ok_CutTops 12 2 4 (fun l => 40 :: 40 :: 40 :: 41 :: 40 :: l) (by decide) evCutTops_n35 evCutTops_n41
theorem evCutTops_n43 : allR ok_CutTops 14 2 3 (fun l => 40 :: 40 :: 40 :: 41 :: l) = true := evCutTops_join ok_CutTops 13 1 3 (fun l => 40 :: 40 :: 40 :: 41 :: l) (by decide) evCutTops_n29 evCutTops_n42
theorem evCutTops_n44 : allR ok_CutTops 10 2 5 (fun l => 40 :: 40 :: 40 :: 40 :: 41 :: 41 :: 41 :: 40 :: l) = true := evCutTops_join ok_CutTops 9 1 5 (fun l => 40 :: 40 :: 40 :: 40 :: 41 :: 41 :: 41 :: 40 :: l) (by decide) evCutTops_c47 evCutTops_c48
theorem evCutTops_n45 : allR ok_CutTops 11 1 4 (fun l => 40 :: 40 :: 40 :: 40 :: 41 :: 41 :: 41 :: l) = true := evCutTops_join ok_CutTops 10 0 4 (fun l => 40 :: 40 :: 40 :: 40 :: 41 :: 41 :: 41 :: l) (by decide) evCutTops_c46 evCutTops_n44
theorem evCutTops_n46 : allR ok_CutTops 10 2 5 (fun l => 40 :: 40 :: 40 :: 40 :: 41 :: 41 :: 40 :: 41 :: l) = true := evCutTops_join ok_CutTops 9 1 5 (fun l => 40 :: 40 :: 40 :: 40 :: 41 :: 41 :: 40 :: 41 :: l) (by decide) evCutTops_c49 evCutTops_c50
theorem evCutTops_n47 : allR ok_CutTops 10 4 6 (fun l => 40 :: 40 :: 40 :: 40 :: 41 :: 41 :: 40 :: 40 :: l) = true := evCutTops_join ok_CutTops 9 3 6 (fun l => 40 :: 40 :: 40 :: 40 :: 41 :: 41 :: 40 :: 40 :: l) (by decide) evCutTops_c51 evCutTops_c52
theorem evCutTops_n48 : allR ok_CutTops 11 3 5 (fun l => 40 :: 40 :: 40 :: 40 :: 41 :: 41 :: 40 :: l) = true := evCutTops_join ok_CutTops 10 2 5 (fun l => 40 :: 40 :: 40 :: 40 :: 41 :: 41 :: 40 :: l) (by decide) evCutTops_n46 evCutTops_n47
theorem evCutTops_n49 : allR ok_CutTops 12 2 4 (fun l => 40 :: 40 :: 40 :: 40 :: 41 :: 41 :: l) = true := evCutTops_join ok_CutTops 11 1 4 (fun l => 40 :: 40 :: 40 :: 40 :: 41 :: 41 :: l) (by decide) evCutTops_n45 evCutTops_n48
theorem evCutTops_n50 : allR ok_CutTops 10 2 5 (fun l => 40 :: 40 :: 40 :: 40 :: 41 :: 40 :: 41 :: 41 :: l) = true := evCutTops_join ok_CutTops 9 1 5 (fun l => 40 :: 40 :: 40 :: 40 :: 41 :: 40 :: 41 :: 41 :: l) (by decide) evCutTops_c53 evCutTops_c54
theorem evCutTops_n51 : allR ok_CutTops 10 4 6 (fun l => 40 :: 40 :: 40 :: 40 :: 41 :: 40 :: 41 :: 40 :: l) = true := evCutTops_join ok_CutTops 9 3 6 (fun l => 40 :: 40 :: 40 :: 40 :: 41 :: 40 :: 41 :: 40 :: l) (by decide) evCutTops_c55 evCutTops_c56
theorem evCutTops_n52 : allR ok_CutTops 11 3 5 (fun l => 40 :: 40 :: 40 :: 40 :: 41 :: 40 :: 41 :: l) = true := evCutTops_join ok_CutTops 10 2 5 (fun l => 40 :: 40 :: 40 :: 40 :: 41 :: 40 :: 41 :: l) (by decide) evCutTops_n50 evCutTops_n51
theorem evCutTops_n53 : allR ok_CutTops 10 4 6 (fun l => 40 :: 40 :: 40 :: 40 :: 41 :: 40 :: 40 :: 41 :: l) = true := evCutTops_join ok_CutTops 9 3 6 (fun l => 40 :: 40 :: 40 :: 40 :: 41 :: 40 :: 40 :: 41 :: l) (by decide) evCutTops_c57 evCutTops_c58
theorem evCutTops_n54 : allR ok_CutTops 11 5 6 (fun l => 40 :: 40 :: 40 :: 40 :: 41 :: 40 :: 40 :: l) = true := evCutTops_join ok_CutTops 10 4 6 (fun l => 40 :: 40 :: 40 :: 40 :: 41 :: 40 :: 40 :: l) (by decide) evCutTops_n53 evCutTops_c59
theorem evCutTops_n55 : allR ok_CutTops 12 4 5 (fun l => 40 :: 40 :: 40 :: 40 :: 41 :: 40 :: l) = true := evCutTops_join ok_CutTops 11 3 5 (fun l => 40 :: 40 :: 40 :: 40 :: 41 :: 40 :: l) (by decide) evCutTops_n52 evCutTops_n54
theorem evCutTops_n56 : allR ok_CutTops 13 3 4 (fun l => 40 :: 40 :: 40 :: 40 :: 41 :: l) = true := evCutTops_join ok_CutTops 12 2 4 (fun l => 40 :: 40 :: 40 :: 40 :: 41 :: l) (by decide) evCutTops_n49 evCutTops_n55
theorem evCutTops_n57 : allR ok_CutTops 10 2 5 (fun l => 40 :: 40 :: 40 :: 40 :: 40 :: 41 :: 41 :: 41 :: l) = true := evCutTops_join ok_CutTops 9 1 5 (fun l => 40 :: 40 :: 40 :: 40 :: 40 :: 41 :: 41 :: 41 :: l) (by decide) evCutTops_c60 evCutTops_c61
theorem evCutTops_n58 : allR ok_CutTops 10 4 6 (fun l => 40 :: 40 :: 40 :: 40 :: 40 :: 41 :: 41 :: 40 :: l) = true := evCutTops_join ok_CutTops 9 3 6 (fun l => 40 :: 40 :: 40 :: 40 :: 40 :: 41 :: 41 :: 40 :: l) (by decide) evCutTops_c62 evCutTops_c63
theorem evCutTops_n59 : allR ok_CutTops 11 3 5 (fun l => 40 :: 40 :: 40 :: 40 :: 40 :: 41 :: 41 :: l) = true := evCutTops_join ok_CutTops 10 2 5 (fun l => 40 :: 40 :: 40 :: 40 :: 40 :: 41 :: 41 :: l) (by decide) evCutTops_n57 evCutTops_n58
theorem evCutTops_n60 : allR ok_CutTops 10 4 6 (fun l => 40 :: 40 :: 40 :: 40 :: 40 :: 41 :: 40 :: 41 :: l) = true := evCutTops_join ok_CutTops 9 3 6 (fun l => 40 :: 40 :: 40 :: 40 :: 40 :: 41 :: 40 :: 41 :: l) (by decide) evCutTops_c64 evCutTops_c65
theorem evCutTops_n61 : allR ok_CutTops 11 5 6 (fun l => 40 :: 40 :: 40 :: 40 :: 40 :: 41 :: 40 :: l) = true := evCutTops_join ok_CutTops 10 4 6 (fun l => 40 :: 40 :: 40 :: 40 :: 40 :: 41 :: 40 :: l) (by decide) evCutTops_n60 evCutTops_c66
theorem evCutTops_n62 : allR ok_CutTops 12 4 5 (fun l => 40 :: 40 :: 40 :: 40 :: 40 :: 41 :: l) = true := evCutTops_join ok_CutTops 11 3 5 (fun l => 40 :: 40 :: 40 :: 40 :: 40 :: 41 :: l) (by decide) evCutTops_n59 evCutTops_n61
theorem evCutTops_n63 : allR ok_CutTops 10 4 6 (fun l => 40 :: 40 :: 40 :: 40 :: 40 :: 40 :: 41 :: 41 :: l) = true := evCutTops_join ok_CutTops 9 3 6 (fun l => 40 :: 40 :: 40 :: 40 :: 40 :: 40 :: 41 :: 41 :: l) (by decide) evCutTops_c67 evCutTops_c68
theorem evCutTops_n64 : allR ok_CutTops 11 5 6 (fun l => 40 :: 40 :: 40 :: 40 :: 40 :: 40 :: 41 :: l) = true := evCutTops_join ok_CutTops 10 4 6 (fun l => 40 :: 40 :: 40 :: 40 :: 40 :: 40 :: 41 :: l) (by decide) evCutTops_n63 evCutTops_c69
theorem evCutTops_n65 : allR ok_CutTops 12 6 6 (fun l => 40 :: 40 :: 40 :: 40 :: 40 :: 40 :: l) = true := evCutTops_join ok_CutTops 11 5 6 (fun l => 40 :: 40 :: 40 :: 40 :: 40 :: 40 :: l) (by decide) evCutTops_n64 evCutTops_c70
theorem evCutTops_n66 : allR ok_CutTops 13 5 5 (fun l => 40 :: 40 :: 40 :: 40 :: 40 :: l) = true := evCutTops_join ok_CutTops 12 4 5 (fun l => 40 :: 40 :: 40 :: 40 :: 40 :: l) (by decide) evCutTops_n62 evCutTops_n65
theorem evCutTops_n67 : allR ok_CutTops 14 4 4 (fun l => 40 :: 40 :: 40 :: 40 :: l) = true := evCutTops_join ok_CutTops 13 3 4 (fun l => 40 :: 40 :: 40 :: 40 :: l) (by decide) evCutTops_n56 evCutTops_n66
theorem evCutTops_n68 : allR ok_CutTops 15 3 3 (fun l => 40 :: 40 :: 40 :: l) = true := evCutTops_join ok_CutTops 14 2 3 (fun l => 40 :: 40 :: 40 :: l) (by decide) evCutTops_n43 evCutTops_n67
theorem evCutTops_n69 : allR ok_CutTops 16 2 2 (fun l => 40 :: 40 :: l) = true := evCutTops_join ok_CutTops 15 1 2 (fun l => 40 :: 40 :: l) (by decide) evCutTops_n22 evCutTops_n68
theorem evCutTops_n70 : allR ok_CutTops 17 1 1 (fun l => 40 :: l) = true := evCutTops_join ok_CutTops 16 0 1 (fun l => 40 :: l) (by decide) evCutTops_c0 evCutTops_n69
theorem evCutTops_all : allR ok_CutTops 17 1 1 (fun l => 40 :: l) = true := evCutTops_n70
end
end Go.AI.T
