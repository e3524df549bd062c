/- The parts of the evaluation together. -/
import Derived.Test.YtojcncloeikjlabCjEv0
import Derived.Test.YtojcncloeikjlabCjEv1
import Derived.Test.YtojcncloeikjlabCjEv2
import Derived.Test.YtojcncloeikjlabCjEv3
import Derived.Test.YtojcncloeikjlabCjEv4
import Derived.Test.YtojcncloeikjlabCjEv5
import Derived.Test.YtojcncloeikjlabCjEv6
import Derived.Test.YtojcncloeikjlabCjEv7
namespace Go.AI.T
open Go Go.RowKit Go.AI
set_option linter.unusedVariables false
set_option linter.unusedSimpArgs false
set_option maxRecDepth 100000
noncomputable section
theorem evJ_join (t : List Nat → Bool) (f d m : Nat) (p : List Nat → List Nat) (hm : m + 1 ≤ 9) (h1 : allR t f d m (fun l => p (41 :: l)) = true) (h2 : allR t f (d + 2) (m + 1) (fun l => p (40 :: l)) = true) : allR t (f + 1) (d + 1) m p = true := by
  show bc (allR t f d m (fun l => p (41 :: l))) (bc (Nat.ble (m + 1) 9) (allR t f (d + 2) (m + 1) (fun l => p (40 :: l))) true) false = true
  rw [h1, h2, Nat.ble_eq_true_of_le hm]; rfl
theorem evJ_join9 (t : List Nat → Bool) (f d : Nat) (p : List Nat → List Nat) (h1 : allR t f d 9 (fun l => p (41 :: l)) = true) : allR t (f + 1) (d + 1) 9 p = true := by
  show bc (allR t f d 9 (fun l => p (41 :: l))) (bc (Nat.ble (9 + 1) 9) (allR t f (d + 2) (9 + 1) (fun l => p (40 :: l))) true) false = true
  rw [h1]; rfl
theorem evJ_n1 : allR okJ 9 3 6 (fun l => 40 :: 40 :: 41 :: 40 :: 41 :: 40 :: 41 :: 40 :: 40 :: l) = true := evJ_join okJ 8 2 6 (fun l => 40 :: 40 :: 41 :: 40 :: 41 :: 40 :: 41 :: 40 :: 40 :: l) (by decide) evJ_c5 evJ_c6
theorem evJ_n2 : allR okJ 10 2 5 (fun l => 40 :: 40 :: 41 :: 40 :: 41 :: 40 :: 41 :: 40 :: l) = true := evJ_join okJ 9 1 5 (fun l => 40 :: 40 :: 41 :: 40 :: 41 :: 40 :: 41 :: 40 :: l) (by decide) evJ_c4 evJ_n1
theorem evJ_n3 : allR okJ 11 1 4 (fun l => 40 :: 40 :: 41 :: 40 :: 41 :: 40 :: 41 :: l) = true := evJ_join okJ 10 0 4 (fun l => 40 :: 40 :: 41 :: 40 :: 41 :: 40 :: 41 :: l) (by decide) evJ_c3 evJ_n2
theorem evJ_n4 : allR okJ 9 3 6 (fun l => 40 :: 40 :: 41 :: 40 :: 41 :: 40 :: 40 :: 41 :: 40 :: l) = true := evJ_join okJ 8 2 6 (fun l => 40 :: 40 :: 41 :: 40 :: 41 :: 40 :: 40 :: 41 :: 40 :: l) (by decide) evJ_c8 evJ_c9
theorem evJ_n5 : allR okJ 10 2 5 (fun l => 40 :: 40 :: 41 :: 40 :: 41 :: 40 :: 40 :: 41 :: l) = true := evJ_join okJ 9 1 5 (fun l => 40 :: 40 :: 41 :: 40 :: 41 :: 40 :: 40 :: 41 :: l) (by decide) evJ_c7 evJ_n4
theorem evJ_n6 : allR okJ 9 3 6 (fun l => 40 :: 40 :: 41 :: 40 :: 41 :: 40 :: 40 :: 40 :: 41 :: l) = true := evJ_join okJ 8 2 6 (fun l => 40 :: 40 :: 41 :: 40 :: 41 :: 40 :: 40 :: 40 :: 41 :: l) (by decide) evJ_c10 evJ_c11
theorem evJ_n7 : allR okJ 10 4 6 (fun l => 40 :: 40 :: 41 :: 40 :: 41 :: 40 :: 40 :: 40 :: l) = true := evJ_join okJ 9 3 6 (fun l => 40 :: 40 :: 41 :: 40 :: 41 :: 40 :: 40 :: 40 :: l) (by decide) evJ_n6 evJ_c12
theorem evJ_n8 : allR okJ 11 3 5 (fun l => 40 :: 40 :: 41 :: 40 :: 41 :: 40 :: 40 :: l) = true := evJ_join okJ 10 2 5 (fun l => 40 :: 40 :: 41 :: 40 :: 41 :: 40 :: 40 :: l) (by decide) evJ_n5 evJ_n7
theorem evJ_n9 : allR okJ 12 2 4 (fun l => 40 :: 40 :: 41 :: 40 :: 41 :: 40 :: l) = true := evJ_join okJ 11 1 4 (fun l => 40 :: 40 :: 41 :: 40 :: 41 :: 40 :: l) (by decide) evJ_n3 evJ_n8
theorem evJ_n10 : allR okJ 13 1 3 (fun l => 40 :: 40 :: 41 :: 40 :: 41 :: l) = true := evJ_join okJ 12 0 3 (fun l => 40 :: 40 :: 41 :: 40 :: 41 :: l) (by decide) evJ_c2 evJ_n9
theorem evJ_n11 : allR okJ 9 3 6 (fun l => 40 :: 40 :: 41 :: 40 :: 40 :: 41 :: 41 :: 40 :: 40 :: l) = true := evJ_join okJ 8 2 6 (fun l => 40 :: 40 :: 41 :: 40 :: 40 :: 41 :: 41 :: 40 :: 40 :: l) (by decide) evJ_c15 evJ_c16
theorem evJ_n12 : allR okJ 10 2 5 (fun l => 40 :: 40 :: 41 :: 40 :: 40 :: 41 :: 41 :: 40 :: l) = true := evJ_join okJ 9 1 5 (fun l => 40 :: 40 :: 41 :: 40 :: 40 :: 41 :: 41 :: 40 :: l) (by decide) evJ_c14 evJ_n11
theorem evJ_n13 : allR okJ 11 1 4 (fun l => 40 :: 40 :: 41 :: 40 :: 40 :: 41 :: 41 :: l) = true := evJ_join okJ 10 0 4 (fun l => 40 :: 40 :: 41 :: 40 :: 40 :: 41 :: 41 :: l) (by decide) evJ_c13 evJ_n12
theorem evJ_n14 : allR okJ 9 3 6 (fun l => 40 :: 40 :: 41 :: 40 :: 40 :: 41 :: 40 :: 41 :: 40 :: l) = true := evJ_join okJ 8 2 6 (fun l => 40 :: 40 :: 41 :: 40 :: 40 :: 41 :: 40 :: 41 :: 40 :: l) (by decide) evJ_c18 evJ_c19
theorem evJ_n15 : allR okJ 10 2 5 (fun l => 40 :: 40 :: 41 :: 40 :: 40 :: 41 :: 40 :: 41 :: l) = true := evJ_join okJ 9 1 5 (fun l => 40 :: 40 :: 41 :: 40 :: 40 :: 41 :: 40 :: 41 :: l) (by decide) evJ_c17 evJ_n14
theorem evJ_n16 : allR okJ 9 3 6 (fun l => 40 :: 40 :: 41 :: 40 :: 40 :: 41 :: 40 :: 40 :: 41 :: l) = true := evJ_join okJ 8 2 6 (fun l => 40 :: 40 :: 41 :: 40 :: 40 :: 41 :: 40 :: 40 :: 41 :: l) (by decide) evJ_c20 evJ_c21
theorem evJ_n17 : allR okJ 10 4 6 (fun l => 40 :: 40 :: 41 :: 40 :: 40 :: 41 :: 40 :: 40 :: l) = true := evJ_join okJ 9 3 6 (fun l => 40 :: 40 :: 41 :: 40 :: 40 :: 41 :: 40 :: 40 :: l) (by decide) evJ_n16 evJ_c22
theorem evJ_n18 : allR okJ 11 3 5 (fun l => 40 :: 40 :: 41 :: 40 :: 40 :: 41 :: 40 :: l) = true := evJ_join okJ 10 2 5 (fun l => 40 :: 40 :: 41 :: 40 :: 40 :: 41 :: 40 :: l) (by decide) evJ_n15 evJ_n17
theorem evJ_n19 : allR okJ 12 2 4 (fun l => 40 :: 40 :: 41 :: 40 :: 40 :: 41 :: l) = true := evJ_join okJ 11 1 4 (fun l => 40 :: 40 :: 41 :: 40 :: 40 :: 41 :: l) (by decide) evJ_n13 evJ_n18
theorem evJ_n20 : allR okJ 9 3 6 (fun l => 40 :: 40 :: 41 :: 40 :: 40 :: 40 :: 41 :: 41 :: 40 :: l) = true := evJ_join okJ 8 2 6 (fun l => 40 :: 40 :: 41 :: 40 :: 40 :: 40 :: 41 :: 41 :: 40 :: l) (by decide) evJ_c24 evJ_c25
theorem evJ_n21 : allR okJ 10 2 5 (fun l => 40 :: 40 :: 41 :: 40 :: 40 :: 40 :: 41 :: 41 :: l) = true := evJ_join okJ 9 1 5 (fun l => 40 :: 40 :: 41 :: 40 :: 40 :: 40 :: 41 :: 41 :: l) (by decide) evJ_c23 evJ_n20
theorem evJ_n22 : allR okJ 9 3 6 (fun l => 40 :: 40 :: 41 :: 40 :: 40 :: 40 :: 41 :: 40 :: 41 :: l) = true := evJ_join okJ 8 2 6 (fun l => 40 :: 40 :: 41 :: 40 :: 40 :: 40 :: 41 :: 40 :: 41 :: l) (by decide) evJ_c26 evJ_c27
theorem evJ_n23 : allR okJ 10 4 6 (fun l => 40 :: 40 :: 41 :: 40 :: 40 :: 40 :: 41 :: 40 :: l) = true := evJ_join okJ 9 3 6 (fun l => 40 :: 40 :: 41 :: 40 :: 40 :: 40 :: 41 :: 40 :: l) (by decide) evJ_n22 evJ_c28
theorem evJ_n24 : allR okJ 11 3 5 (fun l => 40 :: 40 :: 41 :: 40 :: 40 :: 40 :: 41 :: l) = true := evJ_join okJ 10 2 5 (fun l => 40 :: 40 :: 41 :: 40 :: 40 :: 40 :: 41 :: l) (by decide) evJ_n21 evJ_n23
theorem evJ_n25 : allR okJ 9 3 6 (fun l => 40 :: 40 :: 41 :: 40 :: 40 :: 40 :: 40 :: 41 :: 41 :: l) = true := evJ_join okJ 8 2 6 (fun l => 40 :: 40 :: 41 :: 40 :: 40 :: 40 :: 40 :: 41 :: 41 :: l) (by decide) evJ_c29 evJ_c30
theorem evJ_n26 : allR okJ 10 4 6 (fun l => 40 :: 40 :: 41 :: 40 :: 40 :: 40 :: 40 :: 41 :: l) = true := evJ_join okJ 9 3 6 (fun l => 40 :: 40 :: 41 :: 40 :: 40 :: 40 :: 40 :: 41 :: l) (by decide) evJ_n25 evJ_c31
theorem evJ_n27 : allR okJ 11 5 6 (fun l => 40 :: 40 :: 41 :: 40 :: 40 :: 40 :: 40 :: l) = true := evJ_join okJ 10 4 6 (fun l => 40 :: 40 :: 41 :: 40 :: 40 :: 40 :: 40 :: l) (by decide) evJ_n26 evJ_c32
theorem evJ_n28 : allR okJ 12 4 5 (fun l => 40 :: 40 :: 41 :: 40 :: 40 :: 40 :: l) = true := evJ_join okJ 11 3 5 (fun l => 40 :: 40 :: 41 :: 40 :: 40 :: 40 :: l) (by decide) evJ_n24 evJ_n27
theorem evJ_n29 : allR okJ 13 3 4 (fun l => 40 :: 40 :: 41 :: 40 :: 40 :: l) = true := evJ_join okJ 12 2 4 (fun l => 40 :: 40 :: 41 :: 40 :: 40 :: l) (by decide) evJ_n19 evJ_n28
theorem evJ_n30 : allR okJ 14 2 3 (fun l => 40 :: 40 :: 41 :: 40 :: l) = true := evJ_join okJ 13 1 3 (fun l => 40 :: 40 :: 41 :: 40 :: l) (by decide) evJ_n10 evJ_n29
theorem evJ_n31 : allR okJ 15 1 2 (fun l => 40 :: 40 :: 41 :: l) = true := evJ_join okJ 14 0 2 (fun l => 40 :: 40 :: 41 :: l) (by decide) evJ_c1 evJ_n30
theorem evJ_n32 : allR okJ 9 3 6 (fun l => 40 :: 40 :: 40 :: 41 :: 41 :: 40 :: 41 :: 40 :: 40 :: l) = true := evJ_join okJ 8 2 6 (fun l => 40 :: 40 :: 40 :: 41 :: 41 :: 40 :: 41 :: 40 :: 40 :: l) (by decide) evJ_c36 evJ_c37
theorem evJ_n33 : allR okJ 10 2 5 (fun l => 40 :: 40 :: 40 :: 41 :: 41 :: 40 :: 41 :: 40 :: l) = true := evJ_join okJ 9 1 5 (fun l => 40 :: 40 :: 40 :: 41 :: 41 :: 40 :: 41 :: 40 :: l) (by decide) evJ_c35 evJ_n32
theorem evJ_n34 : allR okJ 11 1 4 (fun l => 40 :: 40 :: 40 :: 41 :: 41 :: 40 :: 41 :: l) = true := evJ_join okJ 10 0 4 (fun l => 40 :: 40 :: 40 :: 41 :: 41 :: 40 :: 41 :: l) (by decide) evJ_c34 evJ_n33
theorem evJ_n35 : allR okJ 9 3 6 (fun l => 40 :: 40 :: 40 :: 41 :: 41 :: 40 :: 40 :: 41 :: 40 :: l) = true := evJ_join okJ 8 2 6 (fun l => 40 :: 40 :: 40 :: 41 :: 41 :: 40 :: 40 :: 41 :: 40 :: l) (by decide) evJ_c39 evJ_c40
theorem evJ_n36 : allR okJ 10 2 5 (fun l => 40 :: 40 :: 40 :: 41 :: 41 :: 40 :: 40 :: 41 :: l) = true := evJ_join okJ 9 1 5 (fun l => 40 :: 40 :: 40 :: 41 :: 41 :: 40 :: 40 :: 41 :: l) (by decide) evJ_c38 evJ_n35
theorem evJ_n37 : allR okJ 9 3 6 (fun l => 40 :: 40 :: 40 :: 41 :: 41 :: 40 :: 40 :: 40 :: 41 :: l) = true := evJ_join okJ 8 2 6 (fun l => 40 :: 40 :: 40 :: 41 :: 41 :: 40 :: 40 :: 40 :: 41 :: l) (by decide) evJ_c41 evJ_c42
theorem evJ_n38 : allR okJ 10 4 6 (fun l => 40 :: 40 :: 40 :: 41 :: 41 :: 40 :: 40 :: 40 :: l) = true := evJ_join okJ 9 3 6 (fun l => 40 :: 40 :: 40 :: 41 :: 41 :: 40 :: 40 :: 40 :: l) (by decide) evJ_n37 evJ_c43
theorem evJ_n39 : allR okJ 11 3 5 (fun l => 40 :: 40 :: 40 :: 41 :: 41 :: 40 :: 40 :: l) = true := evJ_join okJ 10 2 5 (fun l => 40 :: 40 :: 40 :: 41 :: 41 :: 40 :: 40 :: l) (by decide) evJ_n36 evJ_n38
theorem evJ_n40 : allR okJ 12 2 4 (fun l => 40 :: 40 :: 40 :: 41 :: 41 :: 40 :: l) = true := evJ_join okJ 11 1 4 (fun l => 40 :: 40 :: 40 :: 41 :: 41 :: 40 :: l) (by decide) evJ_n34 evJ_n39
theorem evJ_n41 : allR okJ 13 1 3 (fun l => 40 :: 40 :: 40 :: 41 :: 41 :: l) = true := evJ_join okJ 12 0 3 (fun l => 40 :: 40 :: 40 :: 41 :: 41 :: l) (by decide) evJ_c33 evJ_n40
theorem evJ_n42 : allR okJ 9 3 6 (fun l => 40 :: 40 :: 40 :: 41 :: 40 :: 41 :: 41 :: 40 :: 40 :: l) = true := evJ_join okJ 8 2 6 (fun l => 40 :: 40 :: 40 :: 41 :: 40 :: 41 :: 41 :: 40 :: 40 :: l) (by decide) evJ_c46 evJ_c47
theorem evJ_n43 : allR okJ 10 2 5 (fun l => 40 :: 40 :: 40 :: 41 :: 40 :: 41 :: 41 :: 40 :: l) = true := evJ_join okJ 9 1 5 (fun l => 40 :: 40 :: 40 :: 41 :: 40 :: 41 :: 41 :: 40 :: l) (by decide) evJ_c45 evJ_n42
theorem evJ_n44 : allR okJ 11 1 4 (fun l => 40 :: 40 :: 40 :: 41 :: 40 :: 41 :: 41 :: l) = true := evJ_join okJ 10 0 4 (fun l => 40 :: 40 :: 40 :: 41 :: 40 :: 41 :: 41 :: l) (by decide) evJ_c44 evJ_n43
theorem evJ_n45 : allR okJ 9 3 6 (fun l => 40 :: 40 :: 40 :: 41 :: 40 :: 41 :: 40 :: 41 :: 40 :: l) = true := evJ_join okJ 8 2 6 (fun l => 40 :: 40 :: 40 :: 41 :: 40 :: 41 :: 40 :: 41 :: 40 :: l) (by decide) evJ_c49 evJ_c50
theorem evJ_n46 : allR okJ 10 2 5 (fun l => 40 :: 40 :: 40 :: 41 :: 40 :: 41 :: 40 :: 41 :: l) = true := evJ_join okJ 9 1 5 (fun l => 40 :: 40 :: 40 :: 41 :: 40 :: 41 :: 40 :: 41 :: l) (by decide) evJ_c48 evJ_n45
theorem evJ_n47 : allR okJ 9 3 6 (fun l => 40 :: 40 :: 40 :: 41 :: 40 :: 41 :: 40 :: 40 :: 41 :: l) = true := evJ_join okJ 8 2 6 (fun l => 40 :: 40 :: 40 :: 41 :: 40 :: 41 :: 40 :: 40 :: 41 :: l) (by decide) evJ_c51 evJ_c52
theorem evJ_n48 : allR okJ 10 4 6 (fun l => 40 :: 40 :: 40 :: 41 :: 40 :: 41 :: 40 :: 40 :: l) = true := evJ_join okJ 9 3 6 (fun l => 40 :: 40 :: 40 :: 41 :: 40 :: 41 :: 40 :: 40 :: l) (by decide) evJ_n47 evJ_c53
theorem evJ_n49 : allR okJ 11 3 5 (fun l => 40 :: 40 :: 40 :: 41 :: 40 :: 41 :: 40 :: l) = true := evJ_join okJ 10 2 5 (fun l => 40 :: 40 :: 40 :: 41 :: 40 :: 41 :: 40 :: l) (by decide) evJ_n46 evJ_n48
theorem evJ_n50 : allR okJ 12 2 4 (fun l => 40 :: 40 :: 40 :: 41 :: 40 :: 41 :: l) = true := evJ_join okJ 11 1 4 (fun l => 40 :: 40 :: 40 :: 41 :: 40 :: 41 :: l) (by decide) evJ_n44 evJ_n49
theorem evJ_n51 : allR okJ 9 3 6 (fun l => 40 :: 40 :: 40 :: 41 :: 40 :: 40 :: 41 :: 41 :: 40 :: l) = true := evJ_join okJ 8 2 6 (fun l => 40 :: 40 :: 40 :: 41 :: 40 :: 40 :: 41 :: 41 :: 40 :: l) (by decide) evJ_c55 evJ_c56
theorem evJ_n52 : allR okJ 10 2 5 (fun l => 40 :: 40 :: 40 :: 41 :: 40 :: 40 :: 41 :: 41 :: l) = true := evJ_join okJ 9 1 5 (fun l => 40 :: 40 :: 40 :: 41 :: 40 :: 40 :: 41 :: 41 :: l) (by decide) evJ_c54 evJ_n51
theorem evJ_n53 : allR okJ 9 3 6 (fun l => 40 :: 40 :: 40 :: 41 :: 40 :: 40 :: 41 :: 40 :: 41 :: l) = true := evJ_join okJ 8 2 6 (fun l => 40 :: 40 :: 40 :: 41 :: 40 :: 40 :: 41 :: 40 :: 41 :: l) (by decide) evJ_c57 evJ_c58
theorem evJ_n54 : allR okJ 10 4 6 (fun l => 40 :: 40 :: 40 :: 41 :: 40 :: 40 :: 41 :: 40 :: l) = true := evJ_join okJ 9 3 6 (fun l => 40 :: 40 :: 40 :: 41 :: 40 :: 40 :: 41 :: 40 :: l) (by decide) evJ_n53 evJ_c59
theorem evJ_n55 : allR okJ 11 3 5 (fun l => 40 :: 40 :: 40 :: 41 :: 40 :: 40 :: 41 :: l) = true := evJ_join okJ 10 2 5 (fun l => 40 :: 40 :: 40 :: 41 :: 40 :: 40 :: 41 :: l) (by decide) evJ_n52 evJ_n54
theorem evJ_n56 : allR okJ 9 3 6 (fun l => 40 :: 40 :: 40 :: 41 :: 40 :: 40 :: 40 :: 41 :: 41 :: l) = true := evJ_join okJ 8 2 6 (fun l => 40 :: 40 :: 40 :: 41 :: 40 :: 40 :: 40 :: 41 :: 41 :: l) (by decide) evJ_c60 evJ_c61
theorem evJ_n57 : allR okJ 10 4 6 (fun l => 40 :: 40 :: 40 :: 41 :: 40 :: 40 :: 40 :: 41 :: l) = true := evJ_join okJ 9 3 6 (fun l => 40 :: 40 :: 40 :: 41 :: 40 :: 40 :: 40 :: 41 :: l) (by decide) evJ_n56 evJ_c62
theorem evJ_n58 : allR okJ 11 5 6 (fun l => 40 :: 40 :: 40 :: 41 :: 40 :: 40 :: 40 :: l) = true := evJ_join okJ 10 4 6 (fun l => 40 :: 40 :: 40 :: 41 :: 40 :: 40 :: 40 :: l) (by decide) evJ_n57 evJ_c63
theorem evJ_n59 : allR okJ 12 4 5 (fun l => 40 :: 40 :: 40 :: 41 :: 40 :: 40 :: l) = true := evJ_join okJ 11 3 5 (fun l => 40 :: 40 :: 40 :: 41 :: 40 :: 40 :: l) (by decide) evJ_n55 evJ_n58
theorem evJ_n60 : allR okJ 13 3 4 (fun l => 40 :: 40 :: 40 :: 41 :: 40 :: l) = true := evJ_join okJ 12 2 4 (fun l => 40 :: 40 :: 40 :: 41 :: 40 :: l) (by decide) evJ_n50 evJ_n59
theorem evJ_n61 : allR okJ 14 2 3 (fun l => 40 :: 40 :: 40 :: 41 :: l) = true := evJ_join okJ 13 1 3 (fun l => 40 :: 40 :: 40 :: 41 :: l) (by decide) evJ_n41 evJ_n60
theorem evJ_n62 : allR okJ 9 3 6 (fun l => 40 :: 40 :: 40 :: 40 :: 41 :: 41 :: 41 :: 40 :: 40 :: l) = true := evJ_join okJ 8 2 6 (fun l => 40 :: 40 :: 40 :: 40 :: 41 :: 41 :: 41 :: 40 :: 40 :: l) (by decide) evJ_c66 evJ_c67
theorem evJ_n63 : allR okJ 10 2 5 (fun l => 40 :: 40 :: 40 :: 40 :: 41 :: 41 :: 41 :: 40 :: l) = true := evJ_join okJ 9 1 5 (fun l => 40 :: 40 :: 40 :: 40 :: 41 :: 41 :: 41 :: 40 :: l) (by decide) evJ_c65 evJ_n62
theorem evJ_n64 : allR okJ 11 1 4 (fun l => 40 :: 40 :: 40 :: 40 :: 41 :: 41 :: 41 :: l) = true := evJ_join okJ 10 0 4 (fun l => 40 :: 40 :: 40 :: 40 :: 41 :: 41 :: 41 :: l) (by decide) evJ_c64 evJ_n63
theorem evJ_n65 : allR okJ 9 3 6 (fun l => 40 :: 40 :: 40 :: 40 :: 41 :: 41 :: 40 :: 41 :: 40 :: l) = true := evJ_join okJ 8 2 6 (fun l => 40 :: 40 :: 40 :: 40 :: 41 :: 41 :: 40 :: 41 :: 40 :: l) (by decide) evJ_c69 evJ_c70
theorem evJ_n66 : allR okJ 10 2 5 (fun l => 40 :: 40 :: 40 :: 40 :: 41 :: 41 :: 40 :: 41 :: l) = true := evJ_join okJ 9 1 5 (fun l => 40 :: 40 :: 40 :: 40 :: 41 :: 41 :: 40 :: 41 :: l) (by decide) evJ_c68 evJ_n65
theorem evJ_n67 : allR okJ 9 3 6 (fun l => 40 :: 40 :: 40 :: 40 :: 41 :: 41 :: 40 :: 40 :: 41 :: l) = true := evJ_join okJ 8 2 6 (fun l => 40 :: 40 :: 40 :: 40 :: 41 :: 41 :: 40 :: 40 :: 41 :: l) (by decide) evJ_c71 evJ_c72
theorem evJ_n68 : allR okJ 10 4 6 (fun l => 40 :: 40 :: 40 :: 40 :: 41 :: 41 :: 40 :: 40 :: l) = true := evJ_join okJ 9 3 6 (fun l => 40 :: 40 :: 40 :: 40 :: 41 :: 41 :: 40 :: 40 :: l) (by decide) evJ_n67 evJ_c73
theorem evJ_n69 : allR okJ 11 3 5 (fun l => 40 :: 40 :: 40 :: 40 :: 41 :: 41 :: 40 :: l) = true := evJ_join okJ 10 2 5 (fun l => 40 :: 40 :: 40 :: 40 :: 41 :: 41 :: 40 :: l) (by decide) evJ_n66 evJ_n68
theorem evJ_n70 : allR okJ 12 2 4 (fun l => 40 :: 40 :: 40 :: 40 :: 41 :: 41 :: l) = true := evJ_join okJ 11 1 4 (fun l => 40 :: 40 :: 40 :: 40 :: 41 :: 41 :: l) (by decide) evJ_n64 evJ_n69
theorem evJ_n71 : allR okJ 9 3 6 (fun l => 40 :: 40 :: 40 :: 40 :: 41 :: 40 :: 41 :: 41 :: 40 :: l) = true := evJ_join okJ 8 2 6 (fun l => 40 :: 40 :: 40 :: 40 :: 41 :: 40 :: 41 :: 41 :: 40 :: l) (by decide) evJ_c75 evJ_c76
theorem evJ_n72 : allR okJ 10 2 5 (fun l => 40 :: 40 :: 40 :: 40 :: 41 :: 40 :: 41 :: 41 :: l) = true := evJ_join okJ 9 1 5 (fun l => 40 :: 40 :: 40 :: 40 :: 41 :: 40 :: 41 :: 41 :: l) (by decide) evJ_c74 evJ_n71
theorem evJ_n73 : allR okJ 9 3 6 (fun l => 40 :: 40 :: 40 :: 40 :: 41 :: 40 :: 41 :: 40 :: 41 :: l) = true := evJ_join okJ 8 2 6 (fun l => 40 :: 40 :: 40 :: 40 :: 41 :: 40 :: 41 :: 40 :: 41 :: l) (by decide) evJ_c77 evJ_c78
theorem evJ_n74 : allR okJ 10 4 6 (fun l => 40 :: 40 :: 40 :: 40 :: 41 :: 40 :: 41 :: 40 :: l) = true := evJ_join okJ 9 3 6 (fun l => 40 :: 40 :: 40 :: 40 :: 41 :: 40 :: 41 :: 40 :: l) (by decide) evJ_n73 evJ_c79
theorem evJ_n75 : allR okJ 11 3 5 (fun l => 40 :: 40 :: 40 :: 40 :: 41 :: 40 :: 41 :: l) = true := evJ_join okJ 10 2 5 (fun l => 40 :: 40 :: 40 :: 40 :: 41 :: 40 :: 41 :: l) (by decide) evJ_n72 evJ_n74
theorem evJ_n76 : allR okJ 9 3 6 (fun l => 40 :: 40 :: 40 :: 40 :: 41 :: 40 :: 40 :: 41 :: 41 :: l) = true := evJ_join okJ 8 2 6 (fun l => 40 :: 40 :: 40 :: 40 :: 41 :: 40 :: 40 :: 41 :: 41 :: l) (by decide) evJ_c80 evJ_c81
theorem evJ_n77 : allR okJ 10 4 6 (fun l => 40 :: 40 :: 40 :: 40 :: 41 :: 40 :: 40 :: 41 :: l) = true := evJ_join okJ 9 3 6 (fun l => 40 :: 40 :: 40 :: 40 :: 41 :: 40 :: 40 :: 41 :: l) (by decide) evJ_n76 evJ_c82
theorem evJ_n78 : allR okJ 11 5 6 (fun l => 40 :: 40 :: 40 :: 40 :: 41 :: 40 :: 40 :: l) = true := evJ_join okJ 10 4 6 (fun l => 40 :: 40 :: 40 :: 40 :: 41 :: 40 :: 40 :: l) (by decide) evJ_n77 evJ_c83
theorem evJ_n79 : allR okJ 12 4 5 (fun l => 40 :: 40 :: 40 :: 40 :: 41 :: 40 :: l) = true := evJ_join okJ 11 3 5 (fun l => 40 :: 40 :: 40 :: 40 :: 41 :: 40 :: l) (by decide) evJ_n75 evJ_n78
theorem evJ_n80 : allR okJ 13 3 4 (fun l => 40 :: 40 :: 40 :: 40 :: 41 :: l) = true := evJ_join okJ 12 2 4 (fun l => 40 :: 40 :: 40 :: 40 :: 41 :: l) (by decide) evJ_n70 evJ_n79
theorem evJ_n81 : allR okJ 9 3 6 (fun l => 40 :: 40 :: 40 :: 40 :: 40 :: 41 :: 41 :: 41 :: 40 :: l) = true := evJ_join okJ 8 2 6 (fun l => 40 :: 40 :: 40 :: 40 :: 40 :: 41 :: 41 :: 41 :: 40 :: l) (by decide) evJ_c85 evJ_c86
theorem evJ_n82 : allR okJ 10 2 5 (fun l => 40 :: 40 :: 40 :: 40 :: 40 :: 41 :: 41 :: 41 :: l) = true := evJ_join okJ 9 1 5 (fun l => 40 :: 40 :: 40 :: 40 :: 40 :: 41 :: 41 :: 41 :: l) (by decide) evJ_c84 evJ_n81
theorem evJ_n83 : allR okJ 9 3 6 (fun l => 40 :: 40 :: 40 :: 40 :: 40 :: 41 :: 41 :: 40 :: 41 :: l) = true := evJ_join okJ 8 2 6 (fun l => 40 :: 40 :: 40 :: 40 :: 40 :: 41 :: 41 :: 40 :: 41 :: l) (by decide) evJ_c87 evJ_c88
theorem evJ_n84 : allR okJ 10 4 6 (fun l => 40 :: 40 :: 40 :: 40 :: 40 :: 41 :: 41 :: 40 :: l) = true := evJ_join okJ 9 3 6 (fun l => 40 :: 40 :: 40 :: 40 :: 40 :: 41 :: 41 :: 40 :: l) (by decide) evJ_n83 evJ_c89
theorem evJ_n85 : allR okJ 11 3 5 (fun l => 40 :: 40 :: 40 :: 40 :: 40 :: 41 :: 41 :: l) = true := evJ_join okJ 10 2 5 (fun l => 40 :: 40 :: 40 :: 40 :: 40 :: 41 :: 41 :: l) (by decide) evJ_n82 evJ_n84
theorem evJ_n86 : allR okJ 9 3 6 (fun l => 40 :: 40 :: 40 :: 40 :: 40 :: 41 :: 40 :: 41 :: 41 :: l) = true := evJ_join okJ 8 2 6 (fun l => 40 :: 40 :: 40 :: 40 :: 40 :: 41 :: 40 :: 41 :: 41 :: l) (by decide) evJ_c90 evJ_c91
theorem evJ_n87 : allR okJ 10 4 6 (fun l => 40 :: 40 :: 40 :: 40 :: 40 :: 41 :: 40 :: 41 :: l) = true := evJ_join okJ 9 3 6 (fun l => 40 :: 40 :: 40 :: 40 :: 40 :: 41 :: 40 :: 41 :: l) (by decide) evJ_n86 evJ_c92
theorem evJ_n88 : allR okJ 11 5 6 (fun l => 40 :: 40 :: 40 :: 40 :: 40 :: 41 :: 40 :: l) = true := evJ_join okJ 10 4 6 (fun l => 40 :: 40 :: 40 :: 40 :: 40 :: 41 :: 40 :: l) (by decide) evJ_n87 evJ_c93
theorem evJ_n89 : allR okJ 12 4 5 (fun l => 40 :: 40 :: 40 :: 40 :: 40 :: 41 :: l) = true := evJ_join okJ 11 3 5 (fun l => 40 :: 40 :: 40 :: 40 :: 40 :: 41 :: l) (by decide) evJ_n85 evJ_n88
theorem evJ_n90 : allR okJ 9 3 6 (fun l => 40 :: 40 :: 40 :: 40 :: 40 :: 40 :: 41 :: 41 :: 41 :: l) = true := evJ_join okJ 8 2 6 (fun l => 40 :: 40 :: 40 :: 40 :: 40 :: 40 :: 41 :: 41 :: 41 :: l) (by decide) evJ_c94 evJ_c95
theorem evJ_n91 : allR okJ 10 4 6 (fun l => 40 :: 40 :: 40 :: 40 :: 40 :: 40 :: 41 :: 41 :: l) = true := evJ_join okJ 9 3 6 (fun l => 40 :: 40 :: 40 :: 40 :: 40 :: 40 :: 41 :: 41 :: l) (by decide) evJ_n90 evJ_c96
theorem evJ_n92 : allR okJ 11 5 6 (fun l => 40 :: 40 :: 40 :: 40 :: 40 :: 40 :: 41 :: l) = true := evJ_join okJ 10 4 6 (fun l => 40 :: 40 :: 40 :: 40 :: 40 :: 40 :: 41 :: l) (by decide) evJ_n91 evJ_c97
theorem evJ_n93 : allR okJ 11 7 7 (fun l => 40 :: 40 :: 40 :: 40 :: 40 :: 40 :: 40 :: l) = true := evJ_join okJ 10 6 7 (fun l => 40 :: 40 :: 40 :: 40 :: 40 :: 40 :: 40 :: l) (by decide) evJ_c98 evJ_c99
theorem evJ_n94 : allR okJ 12 6 6 (fun l => 40 :: 40 :: 40 :: 40 :: 40 :: 40 :: l) = true := evJ_join okJ 11 5 6 (fun l => 40 :: 40 :: 40 :: 40 :: 40 :: 40 :: l) (by decide) evJ_n92 evJ_n93
theorem evJ_n95 : allR okJ 13 5 5 (fun l => 40 :: 40 :: 40 :: 40 :: 40 :: l) = true := evJ_join okJ 12 4 5 (fun l => 40 :: 40 :: 40 :: 40 :: 40 :: l) (by decide) evJ_n89 evJ_n94
theorem evJ_n96 : allR okJ 14 4 4 (fun l => 40 :: 40 :: 40 :: 40 :: l) = true := evJ_join okJ 13 3 4 (fun l => 40 :: 40 :: 40 :: 40 :: l) (by decide) evJ_n80 evJ_n95
theorem evJ_n97 : allR okJ 15 3 3 (fun l => 40 :: 40 :: 40 :: l) = true := evJ_join okJ 14 2 3 (fun l => 40 :: 40 :: 40 :: l) (by decide) evJ_n61 evJ_n96
theorem evJ_n98 : allR okJ 16 2 2 (fun l => 40 :: 40 :: l) = true := evJ_join okJ 15 1 2 (fun l => 40 :: 40 :: l) (by decide) evJ_n31 evJ_n97
theorem evJ_n99 : allR okJ 17 1 1 (fun l => 40 :: l) = true := evJ_join okJ 16 0 1 (fun l => 40 :: l) (by decide) evJ_c0 evJ_n98
theorem evJ_all : allR okJ 17 1 1 (fun l => 40 :: l) = true := evJ_n99
end
end Go.AI.T
