/- The parts of the evaluation together. -/
import Derived.Test.YtchikdpkkiaonaaCutFreeEv0
import Derived.Test.YtchikdpkkiaonaaCutFreeEv1
import Derived.Test.YtchikdpkkiaonaaCutFreeEv2
import Derived.Test.YtchikdpkkiaonaaCutFreeEv3
import Derived.Test.YtchikdpkkiaonaaCutFreeEv4
import Derived.Test.YtchikdpkkiaonaaCutFreeEv5
import Derived.Test.YtchikdpkkiaonaaCutFreeEv6
import Derived.Test.YtchikdpkkiaonaaCutFreeEv7
namespace Go.AI.T
open Go Go.RowKit Go.AI
set_option linter.unusedVariables false
set_option linter.unusedSimpArgs false
set_option maxRecDepth 100000
noncomputable section
theorem evCutFree_join (t : List Nat → Bool) (f d m : Nat) (p : List Nat → List Nat) (hm : m + 1 ≤ 9) (h1 : allR t f d m (fun l => p (41 :: l)) = true) (h2 : allR t f (d + 2) (m + 1) (fun l => p (40 :: l)) = true) : allR t (f + 1) (d + 1) m p = true := by
  show bc (allR t f d m (fun l => p (41 :: l))) (bc (Nat.ble (m + 1) 9) (allR t f (d + 2) (m + 1) (fun l => p (40 :: l))) true) false = true
  rw [h1, h2, Nat.ble_eq_true_of_le hm]; rfl
theorem evCutFree_join9 (t : List Nat → Bool) (f d : Nat) (p : List Nat → List Nat) (h1 : allR t f d 9 (fun l => p (41 :: l)) = true) : allR t (f + 1) (d + 1) 9 p = true := by
  show bc (allR t f d 9 (fun l => p (41 :: l))) (bc (Nat.ble (9 + 1) 9) (allR t f (d + 2) (9 + 1) (fun l => p (40 :: l))) true) false = true
  rw [h1]; rfl
theorem evCutFree_n1 : allR ok_CutFree 10 2 5 (fun l => 40 :: 40 :: 41 :: 40 :: 41 :: 40 :: 41 :: 40 :: l) = true := evCutFree_join ok_CutFree 9 1 5 (fun l => 40 :: 40 :: 41 :: 40 :: 41 :: 40 :: 41 :: 40 :: l) (by decide) evCutFree_c4 evCutFree_c5
theorem evCutFree_n2 : allR ok_CutFree 11 1 4 (fun l => 40 :: 40 :: 41 :: 40 :: 41 :: 40 :: 41 :: l) = true := evCutFree_join ok_CutFree 10 0 4 (fun l => 40 :: 40 :: 41 :: 40 :: 41 :: 40 :: 41 :: l) (by decide) evCutFree_c3 evCutFree_n1
theorem evCutFree_n3 : allR ok_CutFree 10 2 5 (fun l => 40 :: 40 :: 41 :: 40 :: 41 :: 40 :: 40 :: 41 :: l) = true := evCutFree_join ok_CutFree 9 1 5 (fun l => 40 :: 40 :: 41 :: 40 :: 41 :: 40 :: 40 :: 41 :: l) (by decide) evCutFree_c6 evCutFree_c7
theorem evCutFree_n4 : allR ok_CutFree 10 4 6 (fun l => 40 :: 40 :: 41 :: 40 :: 41 :: 40 :: 40 :: 40 :: l) = true := evCutFree_join ok_CutFree 9 3 6 (fun l => 40 :: 40 :: 41 :: 40 :: 41 :: 40 :: 40 :: 40 :: l) (by decide) evCutFree_c8 evCutFree_c9
theorem evCutFree_n5 : allR ok_CutFree 11 3 5 (fun l => 40 :: 40 :: 41 :: 40 :: 41 :: 40 :: 40 :: l) = true := evCutFree_join ok_CutFree 10 2 5 (fun l => 40 :: 40 :: 41 :: 40 :: 41 :: 40 :: 40 :: l) (by decide) evCutFree_n3 evCutFree_n4
theorem evCutFree_n6 : allR ok_CutFree 12 2 4 (fun l => 40 :: 40 :: 41 :: 40 :: 41 :: 40 :: l) = true := evCutFree_join ok_CutFree 11 1 4 (fun l => 40 :: 40 :: 41 :: 40 :: 41 :: 40 :: l) (by decide) evCutFree_n2 evCutFree_n5
theorem evCutFree_n7 : allR ok_CutFree 13 1 3 (fun l => 40 :: 40 :: 41 :: 40 :: 41 :: l) = true := evCutFree_join ok_CutFree 12 0 3 (fun l => 40 :: 40 :: 41 :: 40 :: 41 :: l) (by decide) evCutFree_c2 evCutFree_n6
theorem evCutFree_n8 : allR ok_CutFree 10 2 5 (fun l => 40 :: 40 :: 41 :: 40 :: 40 :: 41 :: 41 :: 40 :: l) = true := evCutFree_join ok_CutFree 9 1 5 (fun l => 40 :: 40 :: 41 :: 40 :: 40 :: 41 :: 41 :: 40 :: l) (by decide) evCutFree_c11 evCutFree_c12
theorem evCutFree_n9 : allR ok_CutFree 11 1 4 (fun l => 40 :: 40 :: 41 :: 40 :: 40 :: 41 :: 41 :: l) = true := evCutFree_join ok_CutFree 10 0 4 (fun l => 40 :: 40 :: 41 :: 40 :: 40 :: 41 :: 41 :: l) (by decide) evCutFree_c10 evCutFree_n8
theorem evCutFree_n10 : allR ok_CutFree 10 2 5 (fun l => 40 :: 40 :: 41 :: 40 :: 40 :: 41 :: 40 :: 41 :: l) = true := evCutFree_join ok_CutFree 9 1 5 (fun l => 40 :: 40 :: 41 :: 40 :: 40 :: 41 :: 40 :: 41 :: l) (by decide) evCutFree_c13 evCutFree_c14
theorem evCutFree_n11 : allR ok_CutFree 10 4 6 (fun l => 40 :: 40 :: 41 :: 40 :: 40 :: 41 :: 40 :: 40 :: l) = true := evCutFree_join ok_CutFree 9 3 6 (fun l => 40 :: 40 :: 41 :: 40 :: 40 :: 41 :: 40 :: 40 :: l) (by decide) evCutFree_c15 evCutFree_c16
theorem evCutFree_n12 : allR ok_CutFree 11 3 5 (fun l => 40 :: 40 :: 41 :: 40 :: 40 :: 41 :: 40 :: l) = true := evCutFree_join ok_CutFree 10 2 5 (fun l => 40 :: 40 :: 41 :: 40 :: 40 :: 41 :: 40 :: l) (by decide) evCutFree_n10 evCutFree_n11
theorem evCutFree_n13 : allR ok_CutFree 12 2 4 (fun l => 40 :: 40 :: 41 :: 40 :: 40 :: 41 :: l) = true := evCutFree_join ok_CutFree 11 1 4 (fun l => 40 :: 40 :: 41 :: 40 :: 40 :: 41 :: l) (by decide) evCutFree_n9 evCutFree_n12
theorem evCutFree_n14 : allR ok_CutFree 10 2 5 (fun l => 40 :: 40 :: 41 :: 40 :: 40 :: 40 :: 41 :: 41 :: l) = true := evCutFree_join ok_CutFree 9 1 5 (fun l => 40 :: 40 :: 41 :: 40 :: 40 :: 40 :: 41 :: 41 :: l) (by decide) evCutFree_c17 evCutFree_c18
theorem evCutFree_n15 : allR ok_CutFree 10 4 6 (fun l => 40 :: 40 :: 41 :: 40 :: 40 :: 40 :: 41 :: 40 :: l) = true := evCutFree_join ok_CutFree 9 3 6 (fun l => 40 :: 40 :: 41 :: 40 :: 40 :: 40 :: 41 :: 40 :: l) (by decide) evCutFree_c19 evCutFree_c20
theorem evCutFree_n16 : allR ok_CutFree 11 3 5 (fun l => 40 :: 40 :: 41 :: 40 :: 40 :: 40 :: 41 :: l) = true := evCutFree_join ok_CutFree 10 2 5 (fun l => 40 :: 40 :: 41 :: 40 :: 40 :: 40 :: 41 :: l) (by decide) evCutFree_n14 evCutFree_n15
theorem evCutFree_n17 : allR ok_CutFree 10 4 6 (fun l => 40 :: 40 :: 41 :: 40 :: 40 :: 40 :: 40 :: 41 :: l) = true := evCutFree_join ok_CutFree 9 3 6 (fun l => 40 :: 40 :: 41 :: 40 :: 40 :: 40 :: 40 :: 41 :: l) (by decide) evCutFree_c21 evCutFree_c22
theorem evCutFree_n18 : allR ok_CutFree 11 5 6 (fun l => 40 :: 40 :: 41 :: 40 :: 40 :: 40 :: 40 :: l) = true := evCutFree_join ok_CutFree 10 4 6 (fun l => 40 :: 40 :: 41 :: 40 :: 40 :: 40 :: 40 :: l) (by decide) evCutFree_n17 evCutFree_c23
theorem evCutFree_n19 : allR ok_CutFree 12 4 5 (fun l => 40 :: 40 :: 41 :: 40 :: 40 :: 40 :: l) = true := evCutFree_join ok_CutFree 11 3 5 (fun l => 40 :: 40 :: 41 :: 40 :: 40 :: 40 :: l) (by decide) evCutFree_n16 evCutFree_n18
theorem evCutFree_n20 : allR ok_CutFree 13 3 4 (fun l => 40 :: 40 :: 41 :: 40 :: 40 :: l) = true := evCutFree_join ok_CutFree 12 2 4 (fun l => 40 :: 40 :: 41 :: 40 :: 40 :: l) (by decide) evCutFree_n13 evCutFree_n19
theorem evCutFree_n21 : allR ok_CutFree 14 2 3 (fun l => 40 :: 40 :: 41 :: 40 :: l) = true := evCutFree_join ok_CutFree 13 1 3 (fun l => 40 :: 40 :: 41 :: 40 :: l) (by decide) evCutFree_n7 evCutFree_n20
theorem evCutFree_n22 : allR ok_CutFree 15 1 2 (fun l => 40 :: 40 :: 41 :: l) = true := evCutFree_join ok_CutFree 14 0 2 (fun l => 40 :: 40 :: 41 :: l) (by decide) evCutFree_c1 evCutFree_n21
theorem evCutFree_n23 : allR ok_CutFree 10 2 5 (fun l => 40 :: 40 :: 40 :: 41 :: 41 :: 40 :: 41 :: 40 :: l) = true := evCutFree_join ok_CutFree 9 1 5 (fun l => 40 :: 40 :: 40 :: 41 :: 41 :: 40 :: 41 :: 40 :: l) (by decide) evCutFree_c26 evCutFree_c27
theorem evCutFree_n24 : allR ok_CutFree 11 1 4 (fun l => 40 :: 40 :: 40 :: 41 :: 41 :: 40 :: 41 :: l) = true := evCutFree_join ok_CutFree 10 0 4 (fun l => 40 :: 40 :: 40 :: 41 :: 41 :: 40 :: 41 :: l) (by decide) evCutFree_c25 evCutFree_n23
theorem evCutFree_n25 : allR ok_CutFree 10 2 5 (fun l => 40 :: 40 :: 40 :: 41 :: 41 :: 40 :: 40 :: 41 :: l) = true := evCutFree_join ok_CutFree 9 1 5 (fun l => 40 :: 40 :: 40 :: 41 :: 41 :: 40 :: 40 :: 41 :: l) (by decide) evCutFree_c28 evCutFree_c29
theorem evCutFree_n26 : allR ok_CutFree 10 4 6 (fun l => 40 :: 40 :: 40 :: 41 :: 41 :: 40 :: 40 :: 40 :: l) = true := evCutFree_join ok_CutFree 9 3 6 (fun l => 40 :: 40 :: 40 :: 41 :: 41 :: 40 :: 40 :: 40 :: l) (by decide) evCutFree_c30 evCutFree_c31
theorem evCutFree_n27 : allR ok_CutFree 11 3 5 (fun l => 40 :: 40 :: 40 :: 41 :: 41 :: 40 :: 40 :: l) = true := evCutFree_join ok_CutFree 10 2 5 (fun l => 40 :: 40 :: 40 :: 41 :: 41 :: 40 :: 40 :: l) (by decide) evCutFree_n25 evCutFree_n26
theorem evCutFree_n28 : allR ok_CutFree 12 2 4 (fun l => 40 :: 40 :: 40 :: 41 :: 41 :: 40 :: l) = true := evCutFree_join ok_CutFree 11 1 4 (fun l => 40 :: 40 :: 40 :: 41 :: 41 :: 40 :: l) (by decide) evCutFree_n24 evCutFree_n27
theorem evCutFree_n29 : allR ok_CutFree 13 1 3 (fun l => 40 :: 40 :: 40 :: 41 :: 41 :: l) = true := evCutFree_join ok_CutFree 12 0 3 (fun l => 40 :: 40 :: 40 :: 41 :: 41 :: l) (by decide) evCutFree_c24 evCutFree_n28
theorem evCutFree_n30 : allR ok_CutFree 10 2 5 (fun l => 40 :: 40 :: 40 :: 41 :: 40 :: 41 :: 41 :: 40 :: l) = true := evCutFree_join ok_CutFree 9 1 5 (fun l => 40 :: 40 :: 40 :: 41 :: 40 :: 41 :: 41 :: 40 :: l) (by decide) evCutFree_c33 evCutFree_c34
theorem evCutFree_n31 : allR ok_CutFree 11 1 4 (fun l => 40 :: 40 :: 40 :: 41 :: 40 :: 41 :: 41 :: l) = true := evCutFree_join ok_CutFree 10 0 4 (fun l => 40 :: 40 :: 40 :: 41 :: 40 :: 41 :: 41 :: l) (by decide) evCutFree_c32 evCutFree_n30
theorem evCutFree_n32 : allR ok_CutFree 10 2 5 (fun l => 40 :: 40 :: 40 :: 41 :: 40 :: 41 :: 40 :: 41 :: l) = true := evCutFree_join ok_CutFree 9 1 5 (fun l => 40 :: 40 :: 40 :: 41 :: 40 :: 41 :: 40 :: 41 :: l) (by decide) evCutFree_c35 evCutFree_c36
theorem evCutFree_n33 : allR ok_CutFree 10 4 6 (fun l => 40 :: 40 :: 40 :: 41 :: 40 :: 41 :: 40 :: 40 :: l) = true := evCutFree_join ok_CutFree 9 3 6 (fun l => 40 :: 40 :: 40 :: 41 :: 40 :: 41 :: 40 :: 40 :: l) (by decide) evCutFree_c37 evCutFree_c38
theorem evCutFree_n34 : allR ok_CutFree 11 3 5 (fun l => 40 :: 40 :: 40 :: 41 :: 40 :: 41 :: 40 :: l) = true := evCutFree_join ok_CutFree 10 2 5 (fun l => 40 :: 40 :: 40 :: 41 :: 40 :: 41 :: 40 :: l) (by decide) evCutFree_n32 evCutFree_n33
theorem evCutFree_n35 : allR ok_CutFree 12 2 4 (fun l => 40 :: 40 :: 40 :: 41 :: 40 :: 41 :: l) = true := evCutFree_join ok_CutFree 11 1 4 (fun l => 40 :: 40 :: 40 :: 41 :: 40 :: 41 :: l) (by decide) evCutFree_n31 evCutFree_n34
theorem evCutFree_n36 : allR ok_CutFree 10 2 5 (fun l => 40 :: 40 :: 40 :: 41 :: 40 :: 40 :: 41 :: 41 :: l) = true := evCutFree_join ok_CutFree 9 1 5 (fun l => 40 :: 40 :: 40 :: 41 :: 40 :: 40 :: 41 :: 41 :: l) (by decide) evCutFree_c39 evCutFree_c40
theorem evCutFree_n37 : allR ok_CutFree 10 4 6 (fun l => 40 :: 40 :: 40 :: 41 :: 40 :: 40 :: 41 :: 40 :: l) = true := evCutFree_join ok_CutFree 9 3 6 (fun l => 40 :: 40 :: 40 :: 41 :: 40 :: 40 :: 41 :: 40 :: l) (by decide) evCutFree_c41 evCutFree_c42
theorem evCutFree_n38 : allR ok_CutFree 11 3 5 (fun l => 40 :: 40 :: 40 :: 41 :: 40 :: 40 :: 41 :: l) = true := evCutFree_join ok_CutFree 10 2 5 (fun l => 40 :: 40 :: 40 :: 41 :: 40 :: 40 :: 41 :: l) (by decide) evCutFree_n36 evCutFree_n37
theorem evCutFree_n39 : allR ok_CutFree 10 4 6 (fun l => 40 :: 40 :: 40 :: 41 :: 40 :: 40 :: 40 :: 41 :: l) = true := evCutFree_join ok_CutFree 9 3 6 (fun l => 40 :: 40 :: 40 :: 41 :: 40 :: 40 :: 40 :: 41 :: l) (by decide) evCutFree_c43 evCutFree_c44
theorem evCutFree_n40 : allR ok_CutFree 11 5 6 (fun l => 40 :: 40 :: 40 :: 41 :: 40 :: 40 :: 40 :: l) = true := evCutFree_join ok_CutFree 10 4 6 (fun l => 40 :: 40 :: 40 :: 41 :: 40 :: 40 :: 40 :: l) (by decide) evCutFree_n39 evCutFree_c45
theorem evCutFree_n41 : allR ok_CutFree 12 4 5 (fun l => 40 :: 40 :: 40 :: 41 :: 40 :: 40 :: l) = true := evCutFree_join ok_CutFree 11 3 5 (fun l => 40 :: 40 :: 40 :: 41 :: 40 :: 40 :: l) (by decide) evCutFree_n38 evCutFree_n40
theorem evCutFree_n42 : allR ok_CutFree 13 3 4 (fun l => 40 :: 40 :: 40 :: 41 :: 40 :: l) = true := evCutFree_join ok_CutFree 12 2 4 (fun l => 40 :: 40 :: 40 :: 41 :: 40 :: l) (by decide) evCutFree_n35 evCutFree_n41
theorem evCutFree_n43 : allR ok_CutFree 14 2 3 (fun l => 40 :: 40 :: 40 :: 41 :: l) = true := evCutFree_join ok_CutFree 13 1 3 (fun l => 40 :: 40 :: 40 :: 41 :: l) (by decide) evCutFree_n29 evCutFree_n42
theorem evCutFree_n44 : allR ok_CutFree 10 2 5 (fun l => 40 :: 40 :: 40 :: 40 :: 41 :: 41 :: 41 :: 40 :: l) = true := evCutFree_join ok_CutFree 9 1 5 (fun l => 40 :: 40 :: 40 :: 40 :: 41 :: 41 :: 41 :: 40 :: l) (by decide) evCutFree_c47 evCutFree_c48
theorem evCutFree_n45 : allR ok_CutFree 11 1 4 (fun l => 40 :: 40 :: 40 :: 40 :: 41 :: 41 :: 41 :: l) = true := evCutFree_join ok_CutFree 10 0 4 (fun l => 40 :: 40 :: 40 :: 40 :: 41 :: 41 :: 41 :: l) (by decide) evCutFree_c46 evCutFree_n44
theorem evCutFree_n46 : allR ok_CutFree 10 2 5 (fun l => 40 :: 40 :: 40 :: 40 :: 41 :: 41 :: 40 :: 41 :: l) = true := evCutFree_join ok_CutFree 9 1 5 (fun l => 40 :: 40 :: 40 :: 40 :: 41 :: 41 :: 40 :: 41 :: l) (by decide) evCutFree_c49 evCutFree_c50
theorem evCutFree_n47 : allR ok_CutFree 10 4 6 (fun l => 40 :: 40 :: 40 :: 40 :: 41 :: 41 :: 40 :: 40 :: l) = true := evCutFree_join ok_CutFree 9 3 6 (fun l => 40 :: 40 :: 40 :: 40 :: 41 :: 41 :: 40 :: 40 :: l) (by decide) evCutFree_c51 evCutFree_c52
theorem evCutFree_n48 : allR ok_CutFree 11 3 5 (fun l => 40 :: 40 :: 40 :: 40 :: 41 :: 41 :: 40 :: l) = true := evCutFree_join ok_CutFree 10 2 5 (fun l => 40 :: 40 :: 40 :: 40 :: 41 :: 41 :: 40 :: l) (by decide) evCutFree_n46 evCutFree_n47
theorem evCutFree_n49 : allR ok_CutFree 12 2 4 (fun l => 40 :: 40 :: 40 :: 40 :: 41 :: 41 :: l) = true := evCutFree_join ok_CutFree 11 1 4 (fun l => 40 :: 40 :: 40 :: 40 :: 41 :: 41 :: l) (by decide) evCutFree_n45 evCutFree_n48
theorem evCutFree_n50 : allR ok_CutFree 10 2 5 (fun l => 40 :: 40 :: 40 :: 40 :: 41 :: 40 :: 41 :: 41 :: l) = true := evCutFree_join ok_CutFree 9 1 5 (fun l => 40 :: 40 :: 40 :: 40 :: 41 :: 40 :: 41 :: 41 :: l) (by decide) evCutFree_c53 evCutFree_c54
theorem evCutFree_n51 : allR ok_CutFree 10 4 6 (fun l => 40 :: 40 :: 40 :: 40 :: 41 :: 40 :: 41 :: 40 :: l) = true := evCutFree_join ok_CutFree 9 3 6 (fun l => 40 :: 40 :: 40 :: 40 :: 41 :: 40 :: 41 :: 40 :: l) (by decide) evCutFree_c55 evCutFree_c56
theorem evCutFree_n52 : allR ok_CutFree 11 3 5 (fun l => 40 :: 40 :: 40 :: 40 :: 41 :: 40 :: 41 :: l) = true := evCutFree_join ok_CutFree 10 2 5 (fun l => 40 :: 40 :: 40 :: 40 :: 41 :: 40 :: 41 :: l) (by decide) evCutFree_n50 evCutFree_n51
theorem evCutFree_n53 : allR ok_CutFree 10 4 6 (fun l => 40 :: 40 :: 40 :: 40 :: 41 :: 40 :: 40 :: 41 :: l) = true := evCutFree_join ok_CutFree 9 3 6 (fun l => 40 :: 40 :: 40 :: 40 :: 41 :: 40 :: 40 :: 41 :: l) (by decide) evCutFree_c57 evCutFree_c58
theorem evCutFree_n54 : allR ok_CutFree 11 5 6 (fun l => 40 :: 40 :: 40 :: 40 :: 41 :: 40 :: 40 :: l) = true := evCutFree_join ok_CutFree 10 4 6 (fun l => 40 :: 40 :: 40 :: 40 :: 41 :: 40 :: 40 :: l) (by decide) evCutFree_n53 evCutFree_c59
theorem evCutFree_n55 : allR ok_CutFree 12 4 5 (fun l => 40 :: 40 :: 40 :: 40 :: 41 :: 40 :: l) = true := evCutFree_join ok_CutFree 11 3 5 (fun l => 40 :: 40 :: 40 :: 40 :: 41 :: 40 :: l) (by decide) evCutFree_n52 evCutFree_n54
theorem evCutFree_n56 : allR ok_CutFree 13 3 4 (fun l => 40 :: 40 :: 40 :: 40 :: 41 :: l) = true := evCutFree_join ok_CutFree 12 2 4 (fun l => 40 :: 40 :: 40 :: 40 :: 41 :: l) (by decide) evCutFree_n49 evCutFree_n55
theorem evCutFree_n57 : allR ok_CutFree 10 2 5 (fun l => 40 :: 40 :: 40 :: 40 :: 40 :: 41 :: 41 :: 41 :: l) = true := evCutFree_join ok_CutFree 9 1 5 (fun l => 40 :: 40 :: 40 :: 40 :: 40 :: 41 :: 41 :: 41 :: l) (by decide) evCutFree_c60 evCutFree_c61
theorem evCutFree_n58 : allR ok_CutFree 10 4 6 (fun l => 40 :: 40 :: 40 :: 40 :: 40 :: 41 :: 41 :: 40 :: l) = true := evCutFree_join ok_CutFree 9 3 6 (fun l => 40 :: 40 :: 40 :: 40 :: 40 :: 41 :: 41 :: 40 :: l) (by decide) evCutFree_c62 evCutFree_c63
theorem evCutFree_n59 : allR ok_CutFree 11 3 5 (fun l => 40 :: 40 :: 40 :: 40 :: 40 :: 41 :: 41 :: l) = true := evCutFree_join ok_CutFree 10 2 5 (fun l => 40 :: 40 :: 40 :: 40 :: 40 :: 41 :: 41 :: l) (by decide) evCutFree_n57 evCutFree_n58
theorem evCutFree_n60 : allR ok_CutFree 10 4 6 (fun l => 40 :: 40 :: 40 :: 40 :: 40 :: 41 :: 40 :: 41 :: l) = true := evCutFree_join ok_CutFree 9 3 6 (fun l => 40 :: 40 :: 40 :: 40 :: 40 :: 41 :: 40 :: 41 :: l) (by decide) evCutFree_c64 evCutFree_c65
theorem evCutFree_n61 : allR ok_CutFree 11 5 6 (fun l => 40 :: 40 :: 40 :: 40 :: 40 :: 41 :: 40 :: l) = true := evCutFree_join ok_CutFree 10 4 6 (fun l => 40 :: 40 :: 40 :: 40 :: 40 :: 41 :: 40 :: l) (by decide) evCutFree_n60 evCutFree_c66
theorem evCutFree_n62 : allR ok_CutFree 12 4 5 (fun l => 40 :: 40 :: 40 :: 40 :: 40 :: 41 :: l) = true := evCutFree_join ok_CutFree 11 3 5 (fun l => 40 :: 40 :: 40 :: 40 :: 40 :: 41 :: l) (by decide) evCutFree_n59 evCutFree_n61
theorem evCutFree_n63 : allR ok_CutFree 10 4 6 (fun l => 40 :: 40 :: 40 :: 40 :: 40 :: 40 :: 41 :: 41 :: l) = true := evCutFree_join ok_CutFree 9 3 6 (fun l => 40 :: 40 :: 40 :: 40 :: 40 :: 40 :: 41 :: 41 :: l) (by decide) evCutFree_c67 evCutFree_c68
theorem evCutFree_n64 : allR ok_CutFree 11 5 6 (fun l => 40 :: 40 :: 40 :: 40 :: 40 :: 40 :: 41 :: l) = true := evCutFree_join ok_CutFree 10 4 6 (fun l => 40 :: 40 :: 40 :: 40 :: 40 :: 40 :: 41 :: l) (by decide) evCutFree_n63 evCutFree_c69
theorem evCutFree_n65 : allR ok_CutFree 12 6 6 (fun l => 40 :: 40 :: 40 :: 40 :: 40 :: 40 :: l) = true := evCutFree_join ok_CutFree 11 5 6 (fun l => 40 :: 40 :: 40 :: 40 :: 40 :: 40 :: l) (by decide) evCutFree_n64 evCutFree_c70
theorem evCutFree_n66 : allR ok_CutFree 13 5 5 (fun l => 40 :: 40 :: 40 :: 40 :: 40 :: l) = true := evCutFree_join ok_CutFree 12 4 5 (fun l => 40 :: 40 :: 40 :: 40 :: 40 :: l) (by decide) evCutFree_n62 evCutFree_n65
theorem evCutFree_n67 : allR ok_CutFree 14 4 4 (fun l => 40 :: 40 :: 40 :: 40 :: l) = true := evCutFree_join ok_CutFree 13 3 4 (fun l => 40 :: 40 :: 40 :: 40 :: l) (by decide) evCutFree_n56 evCutFree_n66
theorem evCutFree_n68 : allR ok_CutFree 15 3 3 (fun l => 40 :: 40 :: 40 :: l) = true := evCutFree_join ok_CutFree 14 2 3 (fun l => 40 :: 40 :: 40 :: l) (by decide) evCutFree_n43 evCutFree_n67
theorem evCutFree_n69 : allR ok_CutFree 16 2 2 (fun l => 40 :: 40 :: l) = true := evCutFree_join ok_CutFree 15 1 2 (fun l => 40 :: 40 :: l) (by decide) evCutFree_n22 evCutFree_n68
theorem evCutFree_n70 : allR ok_CutFree 17 1 1 (fun l => 40 :: l) = true := evCutFree_join ok_CutFree 16 0 1 (fun l => 40 :: l) (by decide) evCutFree_c0 evCutFree_n69
theorem evCutFree_all : allR ok_CutFree 17 1 1 (fun l => 40 :: l) = true := evCutFree_n70
end
end Go.AI.T
