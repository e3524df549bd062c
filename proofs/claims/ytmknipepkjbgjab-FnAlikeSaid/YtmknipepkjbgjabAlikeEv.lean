/- The parts of the evaluation together. -/
import Derived.Test.YtmknipepkjbgjabAlikeEv0
import Derived.Test.YtmknipepkjbgjabAlikeEv1
import Derived.Test.YtmknipepkjbgjabAlikeEv2
import Derived.Test.YtmknipepkjbgjabAlikeEv3
namespace Go.AI.K
open Go Go.RowKit Go.AI
set_option linter.unusedVariables false
set_option linter.unusedSimpArgs false
set_option maxRecDepth 100000
noncomputable section
theorem evAlike_join (t : List Nat → Bool) (f d m : Nat) (p : List Nat → List Nat) (hm : m + 1 ≤ 9) (h1 : allR t f d m (fun l => p (41 :: l)) = true) (h2 : allR t f (d + 2) (m + 1) (fun l => p (40 :: l)) = true) : allR t (f + 1) (d + 1) m p = true := by
  show bc (allR t f d m (fun l => p (41 :: l))) (bc (Nat.ble (m + 1) 9) (allR t f (d + 2) (m + 1) (fun l => p (40 :: l))) true) false = true
  rw [h1, h2, Nat.ble_eq_true_of_le hm]; rfl
theorem evAlike_join9 (t : List Nat → Bool) (f d : Nat) (p : List Nat → List Nat) (h1 : allR t f d 9 (fun l => p (41 :: l)) = true) : allR t (f + 1) (d + 1) 9 p = true := by
  show bc (allR t f d 9 (fun l => p (41 :: l))) (bc (Nat.ble (9 + 1) 9) (allR t f (d + 2) (9 + 1) (fun l => p (40 :: l))) true) false = true
  rw [h1]; rfl
theorem evAlike_n1 : allR okT 9 3 6 (fun l => 40 :: 40 :: 41 :: 40 :: 41 :: 40 :: 41 :: 40 :: 40 :: l) = true := evAlike_join okT 8 2 6 (fun l => 40 :: 40 :: 41 :: 40 :: 41 :: 40 :: 41 :: 40 :: 40 :: l) (by decide) evAlike_c5 evAlike_c6
theorem evAlike_n2 : allR okT 10 2 5 (fun l => 40 :: 40 :: 41 :: 40 :: 41 :: 40 :: 41 :: 40 :: l) = true := evAlike_join okT 9 1 5 (fun l => 40 :: 40 :: 41 :: 40 :: 41 :: 40 :: 41 :: 40 :: l) (by decide) evAlike_c4 evAlike_n1
theorem evAlike_n3 : allR okT 11 1 4 (fun l => 40 :: 40 :: 41 :: 40 :: 41 :: 40 :: 41 :: l) = true := evAlike_join okT 10 0 4 (fun l => 40 :: 40 :: 41 :: 40 :: 41 :: 40 :: 41 :: l) (by decide) evAlike_c3 evAlike_n2
theorem evAlike_n4 : allR okT 9 3 6 (fun l => 40 :: 40 :: 41 :: 40 :: 41 :: 40 :: 40 :: 41 :: 40 :: l) = true := evAlike_join okT 8 2 6 (fun l => 40 :: 40 :: 41 :: 40 :: 41 :: 40 :: 40 :: 41 :: 40 :: l) (by decide) evAlike_c8 evAlike_c9
theorem evAlike_n5 : allR okT 10 2 5 (fun l => 40 :: 40 :: 41 :: 40 :: 41 :: 40 :: 40 :: 41 :: l) = true := evAlike_join okT 9 1 5 (fun l => 40 :: 40 :: 41 :: 40 :: 41 :: 40 :: 40 :: 41 :: l) (by decide) evAlike_c7 evAlike_n4
theorem evAlike_n6 : allR okT 9 3 6 (fun l => 40 :: 40 :: 41 :: 40 :: 41 :: 40 :: 40 :: 40 :: 41 :: l) = true := evAlike_join okT 8 2 6 (fun l => 40 :: 40 :: 41 :: 40 :: 41 :: 40 :: 40 :: 40 :: 41 :: l) (by decide) evAlike_c10 evAlike_c11
theorem evAlike_n7 : allR okT 10 4 6 (fun l => 40 :: 40 :: 41 :: 40 :: 41 :: 40 :: 40 :: 40 :: l) = true := evAlike_join okT 9 3 6 (fun l => 40 :: 40 :: 41 :: 40 :: 41 :: 40 :: 40 :: 40 :: l) (by decide) evAlike_n6 evAlike_c12
theorem evAlike_n8 : allR okT 11 3 5 (fun l => 40 :: 40 :: 41 :: 40 :: 41 :: 40 :: 40 :: l) = true := evAlike_join okT 10 2 5 (fun l => 40 :: 40 :: 41 :: 40 :: 41 :: 40 :: 40 :: l) (by decide) evAlike_n5 evAlike_n7
theorem evAlike_n9 : allR okT 12 2 4 (fun l => 40 :: 40 :: 41 :: 40 :: 41 :: 40 :: l) = true := evAlike_join okT 11 1 4 (fun l => 40 :: 40 :: 41 :: 40 :: 41 :: 40 :: l) (by decide) evAlike_n3 evAlike_n8
theorem evAlike_n10 : allR okT 13 1 3 (fun l => 40 :: 40 :: 41 :: 40 :: 41 :: l) = true := evAlike_join okT 12 0 3 (fun l => 40 :: 40 :: 41 :: 40 :: 41 :: l) (by decide) evAlike_c2 evAlike_n9
theorem evAlike_n11 : allR okT 9 3 6 (fun l => 40 :: 40 :: 41 :: 40 :: 40 :: 41 :: 41 :: 40 :: 40 :: l) = true := evAlike_join okT 8 2 6 (fun l => 40 :: 40 :: 41 :: 40 :: 40 :: 41 :: 41 :: 40 :: 40 :: l) (by decide) evAlike_c15 evAlike_c16
theorem evAlike_n12 : allR okT 10 2 5 (fun l => 40 :: 40 :: 41 :: 40 :: 40 :: 41 :: 41 :: 40 :: l) = true := evAlike_join okT 9 1 5 (fun l => 40 :: 40 :: 41 :: 40 :: 40 :: 41 :: 41 :: 40 :: l) (by decide) evAlike_c14 evAlike_n11
theorem evAlike_n13 : allR okT 11 1 4 (fun l => 40 :: 40 :: 41 :: 40 :: 40 :: 41 :: 41 :: l) = true := evAlike_join okT 10 0 4 (fun l => 40 :: 40 :: 41 :: 40 :: 40 :: 41 :: 41 :: l) (by decide) evAlike_c13 evAlike_n12
theorem evAlike_n14 : allR okT 9 3 6 (fun l => 40 :: 40 :: 41 :: 40 :: 40 :: 41 :: 40 :: 41 :: 40 :: l) = true := evAlike_join okT 8 2 6 (fun l => 40 :: 40 :: 41 :: 40 :: 40 :: 41 :: 40 :: 41 :: 40 :: l) (by decide) evAlike_c18 evAlike_c19
theorem evAlike_n15 : allR okT 10 2 5 (fun l => 40 :: 40 :: 41 :: 40 :: 40 :: 41 :: 40 :: 41 :: l) = true := evAlike_join okT 9 1 5 (fun l => 40 :: 40 :: 41 :: 40 :: 40 :: 41 :: 40 :: 41 :: l) (by decide) evAlike_c17 evAlike_n14
theorem evAlike_n16 : allR okT 9 3 6 (fun l => 40 :: 40 :: 41 :: 40 :: 40 :: 41 :: 40 :: 40 :: 41 :: l) = true := evAlike_join okT 8 2 6 (fun l => 40 :: 40 :: 41 :: 40 :: 40 :: 41 :: 40 :: 40 :: 41 :: l) (by decide) evAlike_c20 evAlike_c21
theorem evAlike_n17 : allR okT 10 4 6 (fun l => 40 :: 40 :: 41 :: 40 :: 40 :: 41 :: 40 :: 40 :: l) = true := evAlike_join okT 9 3 6 (fun l => 40 :: 40 :: 41 :: 40 :: 40 :: 41 :: 40 :: 40 :: l) (by decide) evAlike_n16 evAlike_c22
theorem evAlike_n18 : allR okT 11 3 5 (fun l => 40 :: 40 :: 41 :: 40 :: 40 :: 41 :: 40 :: l) = true := evAlike_join okT 10 2 5 (fun l => 40 :: 40 :: 41 :: 40 :: 40 :: 41 :: 40 :: l) (by decide) evAlike_n15 evAlike_n17
theorem evAlike_n19 : allR okT 12 2 4 (fun l => 40 :: 40 :: 41 :: 40 :: 40 :: 41 :: l) = true := evAlike_join okT 11 1 4 (fun l => 40 :: 40 :: 41 :: 40 :: 40 :: 41 :: l) (by decide) evAlike_n13 evAlike_n18
theorem evAlike_n20 : allR okT 9 3 6 (fun l => 40 :: 40 :: 41 :: 40 :: 40 :: 40 :: 41 :: 41 :: 40 :: l) = true := evAlike_join okT 8 2 6 (fun l => 40 :: 40 :: 41 :: 40 :: 40 :: 40 :: 41 :: 41 :: 40 :: l) (by decide) evAlike_c24 evAlike_c25
theorem evAlike_n21 : allR okT 10 2 5 (fun l => 40 :: 40 :: 41 :: 40 :: 40 :: 40 :: 41 :: 41 :: l) = true := evAlike_join okT 9 1 5 (fun l => 40 :: 40 :: 41 :: 40 :: 40 :: 40 :: 41 :: 41 :: l) (by decide) evAlike_c23 evAlike_n20
theorem evAlike_n22 : allR okT 9 3 6 (fun l => 40 :: 40 :: 41 :: 40 :: 40 :: 40 :: 41 :: 40 :: 41 :: l) = true := evAlike_join okT 8 2 6 (fun l => 40 :: 40 :: 41 :: 40 :: 40 :: 40 :: 41 :: 40 :: 41 :: l) (by decide) evAlike_c26 evAlike_c27
theorem evAlike_n23 : allR okT 10 4 6 (fun l => 40 :: 40 :: 41 :: 40 :: 40 :: 40 :: 41 :: 40 :: l) = true := evAlike_join okT 9 3 6 (fun l => 40 :: 40 :: 41 :: 40 :: 40 :: 40 :: 41 :: 40 :: l) (by decide) evAlike_n22 evAlike_c28
theorem evAlike_n24 : allR okT 11 3 5 (fun l => 40 :: 40 :: 41 :: 40 :: 40 :: 40 :: 41 :: l) = true := evAlike_join okT 10 2 5 (fun l => 40 :: 40 :: 41 :: 40 :: 40 :: 40 :: 41 :: l) (by decide) evAlike_n21 evAlike_n23
theorem evAlike_n25 : allR okT 9 3 6 (fun l => 40 :: 40 :: 41 :: 40 :: 40 :: 40 :: 40 :: 41 :: 41 :: l) = true := evAlike_join okT 8 2 6 (fun l => 40 :: 40 :: 41 :: 40 :: 40 :: 40 :: 40 :: 41 :: 41 :: l) (by decide) evAlike_c29 evAlike_c30
theorem evAlike_n26 : allR okT 10 4 6 (fun l => 40 :: 40 :: 41 :: 40 :: 40 :: 40 :: 40 :: 41 :: l) = true := evAlike_join okT 9 3 6 (fun l => 40 :: 40 :: 41 :: 40 :: 40 :: 40 :: 40 :: 41 :: l) (by decide) evAlike_n25 evAlike_c31
theorem evAlike_n27 : allR okT 11 5 6 (fun l => 40 :: 40 :: 41 :: 40 :: 40 :: 40 :: 40 :: l) = true := evAlike_join okT 10 4 6 (fun l => 40 :: 40 :: 41 :: 40 :: 40 :: 40 :: 40 :: l) (by decide) evAlike_n26 evAlike_c32
theorem evAlike_n28 : allR okT 12 4 5 (fun l => 40 :: 40 :: 41 :: 40 :: 40 :: 40 :: l) = true := evAlike_join okT 11 3 5 (fun l => 40 :: 40 :: 41 :: 40 :: 40 :: 40 :: l) (by decide) evAlike_n24 evAlike_n27
theorem evAlike_n29 : allR okT 13 3 4 (fun l => 40 :: 40 :: 41 :: 40 :: 40 :: l) = true := evAlike_join okT 12 2 4 (fun l => 40 :: 40 :: 41 :: 40 :: 40 :: l) (by decide) evAlike_n19 evAlike_n28
theorem evAlike_n30 : allR okT 14 2 3 (fun l => 40 :: 40 :: 41 :: 40 :: l) = true := evAlike_join okT 13 1 3 (fun l => 40 :: 40 :: 41 :: 40 :: l) (by decide) evAlike_n10 evAlike_n29
theorem evAlike_n31 : allR okT 15 1 2 (fun l => 40 :: 40 :: 41 :: l) = true := evAlike_join okT 14 0 2 (fun l => 40 :: 40 :: 41 :: l) (by decide) evAlike_c1 evAlike_n30
theorem evAlike_n32 : allR okT 9 3 6 (fun l => 40 :: 40 :: 40 :: 41 :: 41 :: 40 :: 41 :: 40 :: 40 :: l) = true := evAlike_join okT 8 2 6 (fun l => 40 :: 40 :: 40 :: 41 :: 41 :: 40 :: 41 :: 40 :: 40 :: l) (by decide) evAlike_c36 evAlike_c37
theorem evAlike_n33 : allR okT 10 2 5 (fun l => 40 :: 40 :: 40 :: 41 :: 41 :: 40 :: 41 :: 40 :: l) = true := evAlike_join okT 9 1 5 (fun l => 40 :: 40 :: 40 :: 41 :: 41 :: 40 :: 41 :: 40 :: l) (by decide) evAlike_c35 evAlike_n32
theorem evAlike_n34 : allR okT 11 1 4 (fun l => 40 :: 40 :: 40 :: 41 :: 41 :: 40 :: 41 :: l) = true := evAlike_join okT 10 0 4 (fun l => 40 :: 40 :: 40 :: 41 :: 41 :: 40 :: 41 :: l) (by decide) evAlike_c34 evAlike_n33
theorem evAlike_n35 : allR okT 9 3 6 (fun l => 40 :: 40 :: 40 :: 41 :: 41 :: 40 :: 40 :: 41 :: 40 :: l) = true := evAlike_join okT 8 2 6 (fun l => 40 :: 40 :: 40 :: 41 :: 41 :: 40 :: 40 :: 41 :: 40 :: l) (by decide) evAlike_c39 evAlike_c40
theorem evAlike_n36 : allR okT 10 2 5 (fun l => 40 :: 40 :: 40 :: 41 :: 41 :: 40 :: 40 :: 41 :: l) = true := evAlike_join okT 9 1 5 (fun l => 40 :: 40 :: 40 :: 41 :: 41 :: 40 :: 40 :: 41 :: l) (by decide) evAlike_c38 evAlike_n35
theorem evAlike_n37 : allR okT 9 3 6 (fun l => 40 :: 40 :: 40 :: 41 :: 41 :: 40 :: 40 :: 40 :: 41 :: l) = true := evAlike_join okT 8 2 6 (fun l => 40 :: 40 :: 40 :: 41 :: 41 :: 40 :: 40 :: 40 :: 41 :: l) (by decide) evAlike_c41 evAlike_c42
theorem evAlike_n38 : allR okT 10 4 6 (fun l => 40 :: 40 :: 40 :: 41 :: 41 :: 40 :: 40 :: 40 :: l) = true := evAlike_join okT 9 3 6 (fun l => 40 :: 40 :: 40 :: 41 :: 41 :: 40 :: 40 :: 40 :: l) (by decide) evAlike_n37 evAlike_c43
theorem evAlike_n39 : allR okT 11 3 5 (fun l => 40 :: 40 :: 40 :: 41 :: 41 :: 40 :: 40 :: l) = true := evAlike_join okT 10 2 5 (fun l => 40 :: 40 :: 40 :: 41 :: 41 :: 40 :: 40 :: l) (by decide) evAlike_n36 evAlike_n38
theorem evAlike_n40 : allR okT 12 2 4 (fun l => 40 :: 40 :: 40 :: 41 :: 41 :: 40 :: l) = true := evAlike_join okT 11 1 4 (fun l => 40 :: 40 :: 40 :: 41 :: 41 :: 40 :: l) (by decide) evAlike_n34 evAlike_n39
theorem evAlike_n41 : allR okT 13 1 3 (fun l => 40 :: 40 :: 40 :: 41 :: 41 :: l) = true := evAlike_join okT 12 0 3 (fun l => 40 :: 40 :: 40 :: 41 :: 41 :: l) (by decide) evAlike_c33 evAlike_n40
theorem evAlike_n42 : allR okT 9 3 6 (fun l => 40 :: 40 :: 40 :: 41 :: 40 :: 41 :: 41 :: 40 :: 40 :: l) = true := evAlike_join okT 8 2 6 (fun l => 40 :: 40 :: 40 :: 41 :: 40 :: 41 :: 41 :: 40 :: 40 :: l) (by decide) evAlike_c46 evAlike_c47
theorem evAlike_n43 : allR okT 10 2 5 (fun l => 40 :: 40 :: 40 :: 41 :: 40 :: 41 :: 41 :: 40 :: l) = true := evAlike_join okT 9 1 5 (fun l => 40 :: 40 :: 40 :: 41 :: 40 :: 41 :: 41 :: 40 :: l) (by decide) evAlike_c45 evAlike_n42
theorem evAlike_n44 : allR okT 11 1 4 (fun l => 40 :: 40 :: 40 :: 41 :: 40 :: 41 :: 41 :: l) = true := evAlike_join okT 10 0 4 (fun l => 40 :: 40 :: 40 :: 41 :: 40 :: 41 :: 41 :: l) (by decide) evAlike_c44 evAlike_n43
theorem evAlike_n45 : allR okT 9 3 6 (fun l => 40 :: 40 :: 40 :: 41 :: 40 :: 41 :: 40 :: 41 :: 40 :: l) = true := evAlike_join okT 8 2 6 (fun l => 40 :: 40 :: 40 :: 41 :: 40 :: 41 :: 40 :: 41 :: 40 :: l) (by decide) evAlike_c49 evAlike_c50
theorem evAlike_n46 : allR okT 10 2 5 (fun l => 40 :: 40 :: 40 :: 41 :: 40 :: 41 :: 40 :: 41 :: l) = true := evAlike_join okT 9 1 5 (fun l => 40 :: 40 :: 40 :: 41 :: 40 :: 41 :: 40 :: 41 :: l) (by decide) evAlike_c48 evAlike_n45
theorem evAlike_n47 : allR okT 9 3 6 (fun l => 40 :: 40 :: 40 :: 41 :: 40 :: 41 :: 40 :: 40 :: 41 :: l) = true := evAlike_join okT 8 2 6 (fun l => 40 :: 40 :: 40 :: 41 :: 40 :: 41 :: 40 :: 40 :: 41 :: l) (by decide) evAlike_c51 evAlike_c52
theorem evAlike_n48 : allR okT 10 4 6 (fun l => 40 :: 40 :: 40 :: 41 :: 40 :: 41 :: 40 :: 40 :: l) = true := evAlike_join okT 9 3 6 (fun l => 40 :: 40 :: 40 :: 41 :: 40 :: 41 :: 40 :: 40 :: l) (by decide) evAlike_n47 evAlike_c53
theorem evAlike_n49 : allR okT 11 3 5 (fun l => 40 :: 40 :: 40 :: 41 :: 40 :: 41 :: 40 :: l) = true := evAlike_join okT 10 2 5 (fun l => 40 :: 40 :: 40 :: 41 :: 40 :: 41 :: 40 :: l) (by decide) evAlike_n46 evAlike_n48
theorem evAlike_n50 : allR okT 12 2 4 (fun l => 40 :: 40 :: 40 :: 41 :: 40 :: 41 :: l) = true := evAlike_join okT 11 1 4 (fun l => 40 :: 40 :: 40 :: 41 :: 40 :: 41 :: l) (by decide) evAlike_n44 evAlike_n49
theorem evAlike_n51 : allR okT 9 3 6 (fun l => 40 :: 40 :: 40 :: 41 :: 40 :: 40 :: 41 :: 41 :: 40 :: l) = true := evAlike_join okT 8 2 6 (fun l => 40 :: 40 :: 40 :: 41 :: 40 :: 40 :: 41 :: 41 :: 40 :: l) (by decide) evAlike_c55 evAlike_c56
theorem evAlike_n52 : allR okT 10 2 5 (fun l => 40 :: 40 :: 40 :: 41 :: 40 :: 40 :: 41 :: 41 :: l) = true := evAlike_join okT 9 1 5 (fun l => 40 :: 40 :: 40 :: 41 :: 40 :: 40 :: 41 :: 41 :: l) (by decide) evAlike_c54 evAlike_n51
theorem evAlike_n53 : allR okT 9 3 6 (fun l => 40 :: 40 :: 40 :: 41 :: 40 :: 40 :: 41 :: 40 :: 41 :: l) = true := evAlike_join okT 8 2 6 (fun l => 40 :: 40 :: 40 :: 41 :: 40 :: 40 :: 41 :: 40 :: 41 :: l) (by decide) evAlike_c57 evAlike_c58
theorem evAlike_n54 : allR okT 10 4 6 (fun l => 40 :: 40 :: 40 :: 41 :: 40 :: 40 :: 41 :: 40 :: l) = true := evAlike_join okT 9 3 6 (fun l => 40 :: 40 :: 40 :: 41 :: 40 :: 40 :: 41 :: 40 :: l) (by decide) evAlike_n53 evAlike_c59
theorem evAlike_n55 : allR okT 11 3 5 (fun l => 40 :: 40 :: 40 :: 41 :: 40 :: 40 :: 41 :: l) = true := evAlike_join okT 10 2 5 (fun l => 40 :: 40 :: 40 :: 41 :: 40 :: 40 :: 41 :: l) (by decide) evAlike_n52 evAlike_n54
theorem evAlike_n56 : allR okT 9 3 6 (fun l => 40 :: 40 :: 40 :: 41 :: 40 :: 40 :: 40 :: 41 :: 41 :: l) = true := evAlike_join okT 8 2 6 (fun l => 40 :: 40 :: 40 :: 41 :: 40 :: 40 :: 40 :: 41 :: 41 :: l) (by decide) evAlike_c60 evAlike_c61
theorem evAlike_n57 : allR okT 10 4 6 (fun l => 40 :: 40 :: 40 :: 41 :: 40 :: 40 :: 40 :: 41 :: l) = true := evAlike_join okT 9 3 6 (fun l => 40 :: 40 :: 40 :: 41 :: 40 :: 40 :: 40 :: 41 :: l) (by decide) evAlike_n56 evAlike_c62
theorem evAlike_n58 : allR okT 11 5 6 (fun l => 40 :: 40 :: 40 :: 41 :: 40 :: 40 :: 40 :: l) = true := evAlike_join okT 10 4 6 (fun l => 40 :: 40 :: 40 :: 41 :: 40 :: 40 :: 40 :: l) (by decide) evAlike_n57 evAlike_c63
theorem evAlike_n59 : allR okT 12 4 5 (fun l => 40 :: 40 :: 40 :: 41 :: 40 :: 40 :: l) = true := evAlike_join okT 11 3 5 (fun l => 40 :: 40 :: 40 :: 41 :: 40 :: 40 :: l) (by decide) evAlike_n55 evAlike_n58
theorem evAlike_n60 : allR okT 13 3 4 (fun l => 40 :: 40 :: 40 :: 41 :: 40 :: l) = true := evAlike_join okT 12 2 4 (fun l => 40 :: 40 :: 40 :: 41 :: 40 :: l) (by decide) evAlike_n50 evAlike_n59
theorem evAlike_n61 : allR okT 14 2 3 (fun l => 40 :: 40 :: 40 :: 41 :: l) = true := evAlike_join okT 13 1 3 (fun l => 40 :: 40 :: 40 :: 41 :: l) (by decide) evAlike_n41 evAlike_n60
theorem evAlike_n62 : allR okT 9 3 6 (fun l => 40 :: 40 :: 40 :: 40 :: 41 :: 41 :: 41 :: 40 :: 40 :: l) = true := evAlike_join okT 8 2 6 (fun l => 40 :: 40 :: 40 :: 40 :: 41 :: 41 :: 41 :: 40 :: 40 :: l) (by decide) evAlike_c66 evAlike_c67
theorem evAlike_n63 : allR okT 10 2 5 (fun l => 40 :: 40 :: 40 :: 40 :: 41 :: 41 :: 41 :: 40 :: l) = true := evAlike_join okT 9 1 5 (fun l => 40 :: 40 :: 40 :: 40 :: 41 :: 41 :: 41 :: 40 :: l) (by decide) evAlike_c65 evAlike_n62
theorem evAlike_n64 : allR okT 11 1 4 (fun l => 40 :: 40 :: 40 :: 40 :: 41 :: 41 :: 41 :: l) = true := evAlike_join okT 10 0 4 (fun l => 40 :: 40 :: 40 :: 40 :: 41 :: 41 :: 41 :: l) (by decide) evAlike_c64 evAlike_n63
theorem evAlike_n65 : allR okT 9 3 6 (fun l => 40 :: 40 :: 40 :: 40 :: 41 :: 41 :: 40 :: 41 :: 40 :: l) = true := evAlike_join okT 8 2 6 (fun l => 40 :: 40 :: 40 :: 40 :: 41 :: 41 :: 40 :: 41 :: 40 :: l) (by decide) evAlike_c69 evAlike_c70
theorem evAlike_n66 : allR okT 10 2 5 (fun l => 40 :: 40 :: 40 :: 40 :: 41 :: 41 :: 40 :: 41 :: l) = true := evAlike_join okT 9 1 5 (fun l => 40 :: 40 :: 40 :: 40 :: 41 :: 41 :: 40 :: 41 :: l) (by decide) evAlike_c68 evAlike_n65
theorem evAlike_n67 : allR okT 9 3 6 (fun l => 40 :: 40 :: 40 :: 40 :: 41 :: 41 :: 40 :: 40 :: 41 :: l) = true := evAlike_join okT 8 2 6 (fun l => 40 :: 40 :: 40 :: 40 :: 41 :: 41 :: 40 :: 40 :: 41 :: l) (by decide) evAlike_c71 evAlike_c72
theorem evAlike_n68 : allR okT 10 4 6 (fun l => 40 :: 40 :: 40 :: 40 :: 41 :: 41 :: 40 :: 40 :: l) = true := evAlike_join okT 9 3 6 (fun l => 40 :: 40 :: 40 :: 40 :: 41 :: 41 :: 40 :: 40 :: l) (by decide) evAlike_n67 evAlike_c73
theorem evAlike_n69 : allR okT 11 3 5 (fun l => 40 :: 40 :: 40 :: 40 :: 41 :: 41 :: 40 :: l) = true := evAlike_join okT 10 2 5 (fun l => 40 :: 40 :: 40 :: 40 :: 41 :: 41 :: 40 :: l) (by decide) evAlike_n66 evAlike_n68
theorem evAlike_n70 : allR okT 12 2 4 (fun l => 40 :: 40 :: 40 :: 40 :: 41 :: 41 :: l) = true := evAlike_join okT 11 1 4 (fun l => 40 :: 40 :: 40 :: 40 :: 41 :: 41 :: l) (by decide) evAlike_n64 evAlike_n69
theorem evAlike_n71 : allR okT 9 3 6 (fun l => 40 :: 40 :: 40 :: 40 :: 41 :: 40 :: 41 :: 41 :: 40 :: l) = true := evAlike_join okT 8 2 6 (fun l => 40 :: 40 :: 40 :: 40 :: 41 :: 40 :: 41 :: 41 :: 40 :: l) (by decide) evAlike_c75 evAlike_c76
theorem evAlike_n72 : allR okT 10 2 5 (fun l => 40 :: 40 :: 40 :: 40 :: 41 :: 40 :: 41 :: 41 :: l) = true := evAlike_join okT 9 1 5 (fun l => 40 :: 40 :: 40 :: 40 :: 41 :: 40 :: 41 :: 41 :: l) (by decide) evAlike_c74 evAlike_n71
theorem evAlike_n73 : allR okT 9 3 6 (fun l => 40 :: 40 :: 40 :: 40 :: 41 :: 40 :: 41 :: 40 :: 41 :: l) = true := evAlike_join okT 8 2 6 (fun l => 40 :: 40 :: 40 :: 40 :: 41 :: 40 :: 41 :: 40 :: 41 :: l) (by decide) evAlike_c77 evAlike_c78
theorem evAlike_n74 : allR okT 10 4 6 (fun l => 40 :: 40 :: 40 :: 40 :: 41 :: 40 :: 41 :: 40 :: l) = true := evAlike_join okT 9 3 6 (fun l => 40 :: 40 :: 40 :: 40 :: 41 :: 40 :: 41 :: 40 :: l) (by decide) evAlike_n73 evAlike_c79
theorem evAlike_n75 : allR okT 11 3 5 (fun l => 40 :: 40 :: 40 :: 40 :: 41 :: 40 :: 41 :: l) = true := evAlike_join okT 10 2 5 (fun l => 40 :: 40 :: 40 :: 40 :: 41 :: 40 :: 41 :: l) (by decide) evAlike_n72 evAlike_n74
theorem evAlike_n76 : allR okT 9 3 6 (fun l => 40 :: 40 :: 40 :: 40 :: 41 :: 40 :: 40 :: 41 :: 41 :: l) = true := evAlike_join okT 8 2 6 (fun l => 40 :: 40 :: 40 :: 40 :: 41 :: 40 :: 40 :: 41 :: 41 :: l) (by decide) evAlike_c80 evAlike_c81
theorem evAlike_n77 : allR okT 10 4 6 (fun l => 40 :: 40 :: 40 :: 40 :: 41 :: 40 :: 40 :: 41 :: l) = true := evAlike_join okT 9 3 6 (fun l => 40 :: 40 :: 40 :: 40 :: 41 :: 40 :: 40 :: 41 :: l) (by decide) evAlike_n76 evAlike_c82
theorem evAlike_n78 : allR okT 11 5 6 (fun l => 40 :: 40 :: 40 :: 40 :: 41 :: 40 :: 40 :: l) = true := evAlike_join okT 10 4 6 (fun l => 40 :: 40 :: 40 :: 40 :: 41 :: 40 :: 40 :: l) (by decide) evAlike_n77 evAlike_c83
theorem evAlike_n79 : allR okT 12 4 5 (fun l => 40 :: 40 :: 40 :: 40 :: 41 :: 40 :: l) = true := evAlike_join okT 11 3 5 (fun l => 40 :: 40 :: 40 :: 40 :: 41 :: 40 :: l) (by decide) evAlike_n75 evAlike_n78
theorem evAlike_n80 : allR okT 13 3 4 (fun l => 40 :: 40 :: 40 :: 40 :: 41 :: l) = true := evAlike_join okT 12 2 4 (fun l => 40 :: 40 :: 40 :: 40 :: 41 :: l) (by decide) evAlike_n70 evAlike_n79
theorem evAlike_n81 : allR okT 9 3 6 (fun l => 40 :: 40 :: 40 :: 40 :: 40 :: 41 :: 41 :: 41 :: 40 :: l) = true := evAlike_join okT 8 2 6 (fun l => 40 :: 40 :: 40 :: 40 :: 40 :: 41 :: 41 :: 41 :: 40 :: l) (by decide) evAlike_c85 evAlike_c86
theorem evAlike_n82 : allR okT 10 2 5 (fun l => 40 :: 40 :: 40 :: 40 :: 40 :: 41 :: 41 :: 41 :: l) = true := evAlike_join okT 9 1 5 (fun l => 40 :: 40 :: 40 :: 40 :: 40 :: 41 :: 41 :: 41 :: l) (by decide) evAlike_c84 evAlike_n81
theorem evAlike_n83 : allR okT 9 3 6 (fun l => 40 :: 40 :: 40 :: 40 :: 40 :: 41 :: 41 :: 40 :: 41 :: l) = true := evAlike_join okT 8 2 6 (fun l => 40 :: 40 :: 40 :: 40 :: 40 :: 41 :: 41 :: 40 :: 41 :: l) (by decide) evAlike_c87 evAlike_c88
theorem evAlike_n84 : allR okT 10 4 6 (fun l => 40 :: 40 :: 40 :: 40 :: 40 :: 41 :: 41 :: 40 :: l) = true := evAlike_join okT 9 3 6 (fun l => 40 :: 40 :: 40 :: 40 :: 40 :: 41 :: 41 :: 40 :: l) (by decide) evAlike_n83 evAlike_c89
theorem evAlike_n85 : allR okT 11 3 5 (fun l => 40 :: 40 :: 40 :: 40 :: 40 :: 41 :: 41 :: l) = true := evAlike_join okT 10 2 5 (fun l => 40 :: 40 :: 40 :: 40 :: 40 :: 41 :: 41 :: l) (by decide) evAlike_n82 evAlike_n84
theorem evAlike_n86 : allR okT 9 3 6 (fun l => 40 :: 40 :: 40 :: 40 :: 40 :: 41 :: 40 :: 41 :: 41 :: l) = true := evAlike_join okT 8 2 6 (fun l => 40 :: 40 :: 40 :: 40 :: 40 :: 41 :: 40 :: 41 :: 41 :: l) (by decide) evAlike_c90 evAlike_c91
theorem evAlike_n87 : allR okT 10 4 6 (fun l => 40 :: 40 :: 40 :: 40 :: 40 :: 41 :: 40 :: 41 :: l) = true := evAlike_join okT 9 3 6 (fun l => 40 :: 40 :: 40 :: 40 :: 40 :: 41 :: 40 :: 41 :: l) (by decide) evAlike_n86 evAlike_c92
theorem evAlike_n88 : allR okT 11 5 6 (fun l => 40 :: 40 :: 40 :: 40 :: 40 :: 41 :: 40 :: l) = true := evAlike_join okT 10 4 6 (fun l => 40 :: 40 :: 40 :: 40 :: 40 :: 41 :: 40 :: l) (by decide) evAlike_n87 evAlike_c93
theorem evAlike_n89 : allR okT 12 4 5 (fun l => 40 :: 40 :: 40 :: 40 :: 40 :: 41 :: l) = true := evAlike_join okT 11 3 5 (fun l => 40 :: 40 :: 40 :: 40 :: 40 :: 41 :: l) (by decide) evAlike_n85 evAlike_n88
theorem evAlike_n90 : allR okT 9 3 6 (fun l => 40 :: 40 :: 40 :: 40 :: 40 :: 40 :: 41 :: 41 :: 41 :: l) = true := evAlike_join okT 8 2 6 (fun l => 40 :: 40 :: 40 :: 40 :: 40 :: 40 :: 41 :: 41 :: 41 :: l) (by decide) evAlike_c94 evAlike_c95
theorem evAlike_n91 : allR okT 10 4 6 (fun l => 40 :: 40 :: 40 :: 40 :: 40 :: 40 :: 41 :: 41 :: l) = true := evAlike_join okT 9 3 6 (fun l => 40 :: 40 :: 40 :: 40 :: 40 :: 40 :: 41 :: 41 :: l) (by decide) evAlike_n90 evAlike_c96
theorem evAlike_n92 : allR okT 11 5 6 (fun l => 40 :: 40 :: 40 :: 40 :: 40 :: 40 :: 41 :: l) = true := evAlike_join okT 10 4 6 (fun l => 40 :: 40 :: 40 :: 40 :: 40 :: 40 :: 41 :: l) (by decide) evAlike_n91 evAlike_c97
theorem evAlike_n93 : allR okT 11 7 7 (fun l => 40 :: 40 :: 40 :: 40 :: 40 :: 40 :: 40 :: l) = true := evAlike_join okT 10 6 7 (fun l => 40 :: 40 :: 40 :: 40 :: 40 :: 40 :: 40 :: l) (by decide) evAlike_c98 evAlike_c99
theorem evAlike_n94 : allR okT 12 6 6 (fun l => 40 :: 40 :: 40 :: 40 :: 40 :: 40 :: l) = true := evAlike_join okT 11 5 6 (fun l => 40 :: 40 :: 40 :: 40 :: 40 :: 40 :: l) (by decide) evAlike_n92 evAlike_n93
theorem evAlike_n95 : allR okT 13 5 5 (fun l => 40 :: 40 :: 40 :: 40 :: 40 :: l) = true := evAlike_join okT 12 4 5 (fun l => 40 :: 40 :: 40 :: 40 :: 40 :: l) (by decide) evAlike_n89 evAlike_n94
theorem evAlike_n96 : allR okT 14 4 4 (fun l => 40 :: 40 :: 40 :: 40 :: l) = true := evAlike_join okT 13 3 4 (fun l => 40 :: 40 :: 40 :: 40 :: l) (by decide) evAlike_n80 evAlike_n95
theorem evAlike_n97 : allR okT 15 3 3 (fun l => 40 :: 40 :: 40 :: l) = true := evAlike_join okT 14 2 3 (fun l => 40 :: 40 :: 40 :: l) (by decide) evAlike_n61 evAlike_n96
theorem evAlike_n98 : allR okT 16 2 2 (fun l => 40 :: 40 :: l) = true := evAlike_join okT 15 1 2 (fun l => 40 :: 40 :: l) (by decide) evAlike_n31 evAlike_n97
theorem evAlike_n99 : allR okT 17 1 1 (fun l => 40 :: l) = true := evAlike_join okT 16 0 1 (fun l => 40 :: l) (by decide) evAlike_c0 evAlike_n98
theorem evAlike_all : allR okT 17 1 1 (fun l => 40 :: l) = true := evAlike_n99
end
end Go.AI.K
