/- The parts of the evaluation together. -/
import Derived.Test.YthaideahdggofaaEvIn0
import Derived.Test.YthaideahdggofaaEvIn1
import Derived.Test.YthaideahdggofaaEvIn2
import Derived.Test.YthaideahdggofaaEvIn3
namespace Go.AI
open Go Go.RowKit
noncomputable section
set_option maxRecDepth 100000
theorem in3_join (t : List Nat → Bool) (f d m : Nat) (p : List Nat → List Nat) (hm : m + 1 ≤ 9) (h1 : allR t f d m (fun l => p (41 :: l)) = true) (h2 : allR t f (d + 2) (m + 1) (fun l => p (40 :: l)) = true) : allR t (f + 1) (d + 1) m p = true := by
  show bc (allR t f d m (fun l => p (41 :: l))) (bc (Nat.ble (m + 1) 9) (allR t f (d + 2) (m + 1) (fun l => p (40 :: l))) true) false = true
  rw [h1, h2, Nat.ble_eq_true_of_le hm]; rfl
theorem in3_join9 (t : List Nat → Bool) (f d : Nat) (p : List Nat → List Nat) (h1 : allR t f d 9 (fun l => p (41 :: l)) = true) : allR t (f + 1) (d + 1) 9 p = true := by
  show bc (allR t f d 9 (fun l => p (41 :: l))) (bc (Nat.ble (9 + 1) 9) (allR t f (d + 2) (9 + 1) (fun l => p (40 :: l))) true) false = true
  rw [h1]; rfl
theorem in3_n1 : allR ok3 9 3 6 (fun l => 40 :: 40 :: 41 :: 40 :: 41 :: 40 :: 41 :: 40 :: 40 :: l) = true := in3_join ok3 8 2 6 (fun l => 40 :: 40 :: 41 :: 40 :: 41 :: 40 :: 41 :: 40 :: 40 :: l) (by decide) in3_c5 in3_c6
theorem in3_n2 : allR ok3 10 2 5 (fun l => 40 :: 40 :: 41 :: 40 :: 41 :: 40 :: 41 :: 40 :: l) = true := in3_join ok3 9 1 5 (fun l => 40 :: 40 :: 41 :: 40 :: 41 :: 40 :: 41 :: 40 :: l) (by decide) in3_c4 in3_n1
theorem in3_n3 : allR ok3 11 1 4 (fun l => 40 :: 40 :: 41 :: 40 :: 41 :: 40 :: 41 :: l) = true := in3_join ok3 10 0 4 (fun l => 40 :: 40 :: 41 :: 40 :: 41 :: 40 :: 41 :: l) (by decide) in3_c3 in3_n2
theorem in3_n4 : allR ok3 9 3 6 (fun l => 40 :: 40 :: 41 :: 40 :: 41 :: 40 :: 40 :: 41 :: 40 :: l) = true := in3_join ok3 8 2 6 (fun l => 40 :: 40 :: 41 :: 40 :: 41 :: 40 :: 40 :: 41 :: 40 :: l) (by decide) in3_c8 in3_c9
theorem in3_n5 : allR ok3 10 2 5 (fun l => 40 :: 40 :: 41 :: 40 :: 41 :: 40 :: 40 :: 41 :: l) = true := in3_join ok3 9 1 5 (fun l => 40 :: 40 :: 41 :: 40 :: 41 :: 40 :: 40 :: 41 :: l) (by decide) in3_c7 in3_n4
theorem in3_n6 : allR ok3 9 3 6 (fun l => 40 :: 40 :: 41 :: 40 :: 41 :: 40 :: 40 :: 40 :: 41 :: l) = true := in3_join ok3 8 2 6 (fun l => 40 :: 40 :: 41 :: 40 :: 41 :: 40 :: 40 :: 40 :: 41 :: l) (by decide) in3_c10 in3_c11
theorem in3_n7 : allR ok3 10 4 6 (fun l => 40 :: 40 :: 41 :: 40 :: 41 :: 40 :: 40 :: 40 :: l) = true := in3_join ok3 9 3 6 (fun l => 40 :: 40 :: 41 :: 40 :: 41 :: 40 :: 40 :: 40 :: l) (by decide) in3_n6 in3_c12
theorem in3_n8 : allR ok3 11 3 5 (fun l => 40 :: 40 :: 41 :: 40 :: 41 :: 40 :: 40 :: l) = true := in3_join ok3 10 2 5 (fun l => 40 :: 40 :: 41 :: 40 :: 41 :: 40 :: 40 :: l) (by decide) in3_n5 in3_n7
theorem in3_n9 : allR ok3 12 2 4 (fun l => 40 :: 40 :: 41 :: 40 :: 41 :: 40 :: l) = true := in3_join ok3 11 1 4 (fun l => 40 :: 40 :: 41 :: 40 :: 41 :: 40 :: l) (by decide) in3_n3 in3_n8
theorem in3_n10 : allR ok3 13 1 3 (fun l => 40 :: 40 :: 41 :: 40 :: 41 :: l) = true := in3_join ok3 12 0 3 (fun l => 40 :: 40 :: 41 :: 40 :: 41 :: l) (by decide) in3_c2 in3_n9
theorem in3_n11 : allR ok3 9 3 6 (fun l => 40 :: 40 :: 41 :: 40 :: 40 :: 41 :: 41 :: 40 :: 40 :: l) = true := in3_join ok3 8 2 6 (fun l => 40 :: 40 :: 41 :: 40 :: 40 :: 41 :: 41 :: 40 :: 40 :: l) (by decide) in3_c15 in3_c16
theorem in3_n12 : allR ok3 10 2 5 (fun l => 40 :: 40 :: 41 :: 40 :: 40 :: 41 :: 41 :: 40 :: l) = true := in3_join ok3 9 1 5 (fun l => 40 :: 40 :: 41 :: 40 :: 40 :: 41 :: 41 :: 40 :: l) (by decide) in3_c14 in3_n11
theorem in3_n13 : allR ok3 11 1 4 (fun l => 40 :: 40 :: 41 :: 40 :: 40 :: 41 :: 41 :: l) = true := in3_join ok3 10 0 4 (fun l => 40 :: 40 :: 41 :: 40 :: 40 :: 41 :: 41 :: l) (by decide) in3_c13 in3_n12
theorem in3_n14 : allR ok3 9 3 6 (fun l => 40 :: 40 :: 41 :: 40 :: 40 :: 41 :: 40 :: 41 :: 40 :: l) = true := in3_join ok3 8 2 6 (fun l => 40 :: 40 :: 41 :: 40 :: 40 :: 41 :: 40 :: 41 :: 40 :: l) (by decide) in3_c18 in3_c19
theorem in3_n15 : allR ok3 10 2 5 (fun l => 40 :: 40 :: 41 :: 40 :: 40 :: 41 :: 40 :: 41 :: l) = true := in3_join ok3 9 1 5 (fun l => 40 :: 40 :: 41 :: 40 :: 40 :: 41 :: 40 :: 41 :: l) (by decide) in3_c17 in3_n14
theorem in3_n16 : allR ok3 9 3 6 (fun l => 40 :: 40 :: 41 :: 40 :: 40 :: 41 :: 40 :: 40 :: 41 :: l) = true := in3_join ok3 8 2 6 (fun l => 40 :: 40 :: 41 :: 40 :: 40 :: 41 :: 40 :: 40 :: 41 :: l) (by decide) in3_c20 in3_c21
theorem in3_n17 : allR ok3 10 4 6 (fun l => 40 :: 40 :: 41 :: 40 :: 40 :: 41 :: 40 :: 40 :: l) = true := in3_join ok3 9 3 6 (fun l => 40 :: 40 :: 41 :: 40 :: 40 :: 41 :: 40 :: 40 :: l) (by decide) in3_n16 in3_c22
theorem in3_n18 : allR ok3 11 3 5 (fun l => 40 :: 40 :: 41 :: 40 :: 40 :: 41 :: 40 :: l) = true := in3_join ok3 10 2 5 (fun l => 40 :: 40 :: 41 :: 40 :: 40 :: 41 :: 40 :: l) (by decide) in3_n15 in3_n17
theorem in3_n19 : allR ok3 12 2 4 (fun l => 40 :: 40 :: 41 :: 40 :: 40 :: 41 :: l) = true := in3_join ok3 11 1 4 (fun l => 40 :: 40 :: 41 :: 40 :: 40 :: 41 :: l) (by decide) in3_n13 in3_n18
theorem in3_n20 : allR ok3 9 3 6 (fun l => 40 :: 40 :: 41 :: 40 :: 40 :: 40 :: 41 :: 41 :: 40 :: l) = true := in3_join ok3 8 2 6 (fun l => 40 :: 40 :: 41 :: 40 :: 40 :: 40 :: 41 :: 41 :: 40 :: l) (by decide) in3_c24 in3_c25
theorem in3_n21 : allR ok3 10 2 5 (fun l => 40 :: 40 :: 41 :: 40 :: 40 :: 40 :: 41 :: 41 :: l) = true := in3_join ok3 9 1 5 (fun l => 40 :: 40 :: 41 :: 40 :: 40 :: 40 :: 41 :: 41 :: l) (by decide) in3_c23 in3_n20
theorem in3_n22 : allR ok3 9 3 6 (fun l => 40 :: 40 :: 41 :: 40 :: 40 :: 40 :: 41 :: 40 :: 41 :: l) = true := in3_join ok3 8 2 6 (fun l => 40 :: 40 :: 41 :: 40 :: 40 :: 40 :: 41 :: 40 :: 41 :: l) (by decide) in3_c26 in3_c27
theorem in3_n23 : allR ok3 10 4 6 (fun l => 40 :: 40 :: 41 :: 40 :: 40 :: 40 :: 41 :: 40 :: l) = true := in3_join ok3 9 3 6 (fun l => 40 :: 40 :: 41 :: 40 :: 40 :: 40 :: 41 :: 40 :: l) (by decide) in3_n22 in3_c28
theorem in3_n24 : allR ok3 11 3 5 (fun l => 40 :: 40 :: 41 :: 40 :: 40 :: 40 :: 41 :: l) = true := in3_join ok3 10 2 5 (fun l => 40 :: 40 :: 41 :: 40 :: 40 :: 40 :: 41 :: l) (by decide) in3_n21 in3_n23
theorem in3_n25 : allR ok3 9 3 6 (fun l => 40 :: 40 :: 41 :: 40 :: 40 :: 40 :: 40 :: 41 :: 41 :: l) = true := in3_join ok3 8 2 6 (fun l => 40 :: 40 :: 41 :: 40 :: 40 :: 40 :: 40 :: 41 :: 41 :: l) (by decide) in3_c29 in3_c30
theorem in3_n26 : allR ok3 10 4 6 (fun l => 40 :: 40 :: 41 :: 40 :: 40 :: 40 :: 40 :: 41 :: l) = true := in3_join ok3 9 3 6 (fun l => 40 :: 40 :: 41 :: 40 :: 40 :: 40 :: 40 :: 41 :: l) (by decide) in3_n25 in3_c31
theorem in3_n27 : allR ok3 10 6 7 (fun l => 40 :: 40 :: 41 :: 40 :: 40 :: 40 :: 40 :: 40 :: l) = true := in3_join ok3 9 5 7 (fun l => 40 :: 40 :: 41 :: 40 :: 40 :: 40 :: 40 :: 40 :: l) (by decide) in3_c32 in3_c33
theorem in3_n28 : allR ok3 11 5 6 (fun l => 40 :: 40 :: 41 :: 40 :: 40 :: 40 :: 40 :: l) = true := in3_join ok3 10 4 6 (fun l => 40 :: 40 :: 41 :: 40 :: 40 :: 40 :: 40 :: l) (by decide) in3_n26 in3_n27
theorem in3_n29 : allR ok3 12 4 5 (fun l => 40 :: 40 :: 41 :: 40 :: 40 :: 40 :: l) = true := in3_join ok3 11 3 5 (fun l => 40 :: 40 :: 41 :: 40 :: 40 :: 40 :: l) (by decide) in3_n24 in3_n28
theorem in3_n30 : allR ok3 13 3 4 (fun l => 40 :: 40 :: 41 :: 40 :: 40 :: l) = true := in3_join ok3 12 2 4 (fun l => 40 :: 40 :: 41 :: 40 :: 40 :: l) (by decide) in3_n19 in3_n29
theorem in3_n31 : allR ok3 14 2 3 (fun l => 40 :: 40 :: 41 :: 40 :: l) = true := in3_join ok3 13 1 3 (fun l => 40 :: 40 :: 41 :: 40 :: l) (by decide) in3_n10 in3_n30
theorem in3_n32 : allR ok3 15 1 2 (fun l => 40 :: 40 :: 41 :: l) = true := in3_join ok3 14 0 2 (fun l => 40 :: 40 :: 41 :: l) (by decide) in3_c1 in3_n31
theorem in3_n33 : allR ok3 9 3 6 (fun l => 40 :: 40 :: 40 :: 41 :: 41 :: 40 :: 41 :: 40 :: 40 :: l) = true := in3_join ok3 8 2 6 (fun l => 40 :: 40 :: 40 :: 41 :: 41 :: 40 :: 41 :: 40 :: 40 :: l) (by decide) in3_c37 in3_c38
theorem in3_n34 : allR ok3 10 2 5 (fun l => 40 :: 40 :: 40 :: 41 :: 41 :: 40 :: 41 :: 40 :: l) = true := in3_join ok3 9 1 5 (fun l => 40 :: 40 :: 40 :: 41 :: 41 :: 40 :: 41 :: 40 :: l) (by decide) in3_c36 in3_n33
theorem in3_n35 : allR ok3 11 1 4 (fun l => 40 :: 40 :: 40 :: 41 :: 41 :: 40 :: 41 :: l) = true := in3_join ok3 10 0 4 (fun l => 40 :: 40 :: 40 :: 41 :: 41 :: 40 :: 41 :: l) (by decide) in3_c35 in3_n34
theorem in3_n36 : allR ok3 9 3 6 (fun l => 40 :: 40 :: 40 :: 41 :: 41 :: 40 :: 40 :: 41 :: 40 :: l) = true := in3_join ok3 8 2 6 (fun l => 40 :: 40 :: 40 :: 41 :: 41 :: 40 :: 40 :: 41 :: 40 :: l) (by decide) in3_c40 in3_c41
theorem in3_n37 : allR ok3 10 2 5 (fun l => 40 :: 40 :: 40 :: 41 :: 41 :: 40 :: 40 :: 41 :: l) = true := in3_join ok3 9 1 5 (fun l => 40 :: 40 :: 40 :: 41 :: 41 :: 40 :: 40 :: 41 :: l) (by decide) in3_c39 in3_n36
theorem in3_n38 : allR ok3 9 3 6 (fun l => 40 :: 40 :: 40 :: 41 :: 41 :: 40 :: 40 :: 40 :: 41 :: l) = true := in3_join ok3 8 2 6 (fun l => 40 :: 40 :: 40 :: 41 :: 41 :: 40 :: 40 :: 40 :: 41 :: l) (by decide) in3_c42 in3_c43
theorem in3_n39 : allR ok3 10 4 6 (fun l => 40 :: 40 :: 40 :: 41 :: 41 :: 40 :: 40 :: 40 :: l) = true := in3_join ok3 9 3 6 (fun l => 40 :: 40 :: 40 :: 41 :: 41 :: 40 :: 40 :: 40 :: l) (by decide) in3_n38 in3_c44
theorem in3_n40 : allR ok3 11 3 5 (fun l => 40 :: 40 :: 40 :: 41 :: 41 :: 40 :: 40 :: l) = true := in3_join ok3 10 2 5 (fun l => 40 :: 40 :: 40 :: 41 :: 41 :: 40 :: 40 :: l) (by decide) in3_n37 in3_n39
theorem in3_n41 : allR ok3 12 2 4 (fun l => 40 :: 40 :: 40 :: 41 :: 41 :: 40 :: l) = true := in3_join ok3 11 1 4 (fun l => 40 :: 40 :: 40 :: 41 :: 41 :: 40 :: l) (by decide) in3_n35 in3_n40
theorem in3_n42 : allR ok3 13 1 3 (fun l => 40 :: 40 :: 40 :: 41 :: 41 :: l) = true := in3_join ok3 12 0 3 (fun l => 40 :: 40 :: 40 :: 41 :: 41 :: l) (by decide) in3_c34 in3_n41
theorem in3_n43 : allR ok3 9 3 6 (fun l => 40 :: 40 :: 40 :: 41 :: 40 :: 41 :: 41 :: 40 :: 40 :: l) = true := in3_join ok3 8 2 6 (fun l => 40 :: 40 :: 40 :: 41 :: 40 :: 41 :: 41 :: 40 :: 40 :: l) (by decide) in3_c47 in3_c48
theorem in3_n44 : allR ok3 10 2 5 (fun l => 40 :: 40 :: 40 :: 41 :: 40 :: 41 :: 41 :: 40 :: l) = true := in3_join ok3 9 1 5 (fun l => 40 :: 40 :: 40 :: 41 :: 40 :: 41 :: 41 :: 40 :: l) (by decide) in3_c46 in3_n43
theorem in3_n45 : allR ok3 11 1 4 (fun l => 40 :: 40 :: 40 :: 41 :: 40 :: 41 :: 41 :: l) = true := in3_join ok3 10 0 4 (fun l => 40 :: 40 :: 40 :: 41 :: 40 :: 41 :: 41 :: l) (by decide) in3_c45 in3_n44
theorem in3_n46 : allR ok3 9 3 6 (fun l => 40 :: 40 :: 40 :: 41 :: 40 :: 41 :: 40 :: 41 :: 40 :: l) = true := in3_join ok3 8 2 6 (fun l => 40 :: 40 :: 40 :: 41 :: 40 :: 41 :: 40 :: 41 :: 40 :: l) (by decide) in3_c50 in3_c51
theorem in3_n47 : allR ok3 10 2 5 (fun l => 40 :: 40 :: 40 :: 41 :: 40 :: 41 :: 40 :: 41 :: l) = true := in3_join ok3 9 1 5 (fun l => 40 :: 40 :: 40 :: 41 :: 40 :: 41 :: 40 :: 41 :: l) (by decide) in3_c49 in3_n46
theorem in3_n48 : allR ok3 9 3 6 (fun l => 40 :: 40 :: 40 :: 41 :: 40 :: 41 :: 40 :: 40 :: 41 :: l) = true := in3_join ok3 8 2 6 (fun l => 40 :: 40 :: 40 :: 41 :: 40 :: 41 :: 40 :: 40 :: 41 :: l) (by decide) in3_c52 in3_c53
theorem in3_n49 : allR ok3 10 4 6 (fun l => 40 :: 40 :: 40 :: 41 :: 40 :: 41 :: 40 :: 40 :: l) = true := in3_join ok3 9 3 6 (fun l => 40 :: 40 :: 40 :: 41 :: 40 :: 41 :: 40 :: 40 :: l) (by decide) in3_n48 in3_c54
theorem in3_n50 : allR ok3 11 3 5 (fun l => 40 :: 40 :: 40 :: 41 :: 40 :: 41 :: 40 :: l) = true := in3_join ok3 10 2 5 (fun l => 40 :: 40 :: 40 :: 41 :: 40 :: 41 :: 40 :: l) (by decide) in3_n47 in3_n49
theorem in3_n51 : allR ok3 12 2 4 (fun l => 40 :: 40 :: 40 :: 41 :: 40 :: 41 :: l) = true := in3_join ok3 11 1 4 (fun l => 40 :: 40 :: 40 :: 41 :: 40 :: 41 :: l) (by decide) in3_n45 in3_n50
theorem in3_n52 : allR ok3 9 3 6 (fun l => 40 :: 40 :: 40 :: 41 :: 40 :: 40 :: 41 :: 41 :: 40 :: l) = true := in3_join ok3 8 2 6 (fun l => 40 :: 40 :: 40 :: 41 :: 40 :: 40 :: 41 :: 41 :: 40 :: l) (by decide) in3_c56 in3_c57
theorem in3_n53 : allR ok3 10 2 5 (fun l => 40 :: 40 :: 40 :: 41 :: 40 :: 40 :: 41 :: 41 :: l) = true := in3_join ok3 9 1 5 (fun l => 40 :: 40 :: 40 :: 41 :: 40 :: 40 :: 41 :: 41 :: l) (by decide) in3_c55 in3_n52
theorem in3_n54 : allR ok3 9 3 6 (fun l => 40 :: 40 :: 40 :: 41 :: 40 :: 40 :: 41 :: 40 :: 41 :: l) = true := in3_join ok3 8 2 6 (fun l => 40 :: 40 :: 40 :: 41 :: 40 :: 40 :: 41 :: 40 :: 41 :: l) (by decide) in3_c58 in3_c59
theorem in3_n55 : allR ok3 10 4 6 (fun l => 40 :: 40 :: 40 :: 41 :: 40 :: 40 :: 41 :: 40 :: l) = true := in3_join ok3 9 3 6 (fun l => 40 :: 40 :: 40 :: 41 :: 40 :: 40 :: 41 :: 40 :: l) (by decide) in3_n54 in3_c60
theorem in3_n56 : allR ok3 11 3 5 (fun l => 40 :: 40 :: 40 :: 41 :: 40 :: 40 :: 41 :: l) = true := in3_join ok3 10 2 5 (fun l => 40 :: 40 :: 40 :: 41 :: 40 :: 40 :: 41 :: l) (by decide) in3_n53 in3_n55
theorem in3_n57 : allR ok3 9 3 6 (fun l => 40 :: 40 :: 40 :: 41 :: 40 :: 40 :: 40 :: 41 :: 41 :: l) = true := in3_join ok3 8 2 6 (fun l => 40 :: 40 :: 40 :: 41 :: 40 :: 40 :: 40 :: 41 :: 41 :: l) (by decide) in3_c61 in3_c62
theorem in3_n58 : allR ok3 10 4 6 (fun l => 40 :: 40 :: 40 :: 41 :: 40 :: 40 :: 40 :: 41 :: l) = true := in3_join ok3 9 3 6 (fun l => 40 :: 40 :: 40 :: 41 :: 40 :: 40 :: 40 :: 41 :: l) (by decide) in3_n57 in3_c63
theorem in3_n59 : allR ok3 10 6 7 (fun l => 40 :: 40 :: 40 :: 41 :: 40 :: 40 :: 40 :: 40 :: l) = true := in3_join ok3 9 5 7 (fun l => 40 :: 40 :: 40 :: 41 :: 40 :: 40 :: 40 :: 40 :: l) (by decide) in3_c64 in3_c65
theorem in3_n60 : allR ok3 11 5 6 (fun l => 40 :: 40 :: 40 :: 41 :: 40 :: 40 :: 40 :: l) = true := in3_join ok3 10 4 6 (fun l => 40 :: 40 :: 40 :: 41 :: 40 :: 40 :: 40 :: l) (by decide) in3_n58 in3_n59
theorem in3_n61 : allR ok3 12 4 5 (fun l => 40 :: 40 :: 40 :: 41 :: 40 :: 40 :: l) = true := in3_join ok3 11 3 5 (fun l => 40 :: 40 :: 40 :: 41 :: 40 :: 40 :: l) (by decide) in3_n56 in3_n60
theorem in3_n62 : allR ok3 13 3 4 (fun l => 40 :: 40 :: 40 :: 41 :: 40 :: l) = true := in3_join ok3 12 2 4 (fun l => 40 :: 40 :: 40 :: 41 :: 40 :: l) (by decide) in3_n51 in3_n61
theorem in3_n63 : allR ok3 14 2 3 (fun l => 40 :: 40 :: 40 :: 41 :: l) = true := in3_join ok3 13 1 3 (fun l => 40 :: 40 :: 40 :: 41 :: l) (by decide) in3_n42 in3_n62
theorem in3_n64 : allR ok3 9 3 6 (fun l => 40 :: 40 :: 40 :: 40 :: 41 :: 41 :: 41 :: 40 :: 40 :: l) = true := in3_join ok3 8 2 6 (fun l => 40 :: 40 :: 40 :: 40 :: 41 :: 41 :: 41 :: 40 :: 40 :: l) (by decide) in3_c68 in3_c69
theorem in3_n65 : allR ok3 10 2 5 (fun l => 40 :: 40 :: 40 :: 40 :: 41 :: 41 :: 41 :: 40 :: l) = true := in3_join ok3 9 1 5 (fun l => 40 :: 40 :: 40 :: 40 :: 41 :: 41 :: 41 :: 40 :: l) (by decide) in3_c67 in3_n64
theorem in3_n66 : allR ok3 11 1 4 (fun l => 40 :: 40 :: 40 :: 40 :: 41 :: 41 :: 41 :: l) = true := in3_join ok3 10 0 4 (fun l => 40 :: 40 :: 40 :: 40 :: 41 :: 41 :: 41 :: l) (by decide) in3_c66 in3_n65
theorem in3_n67 : allR ok3 9 3 6 (fun l => 40 :: 40 :: 40 :: 40 :: 41 :: 41 :: 40 :: 41 :: 40 :: l) = true := in3_join ok3 8 2 6 (fun l => 40 :: 40 :: 40 :: 40 :: 41 :: 41 :: 40 :: 41 :: 40 :: l) (by decide) in3_c71 in3_c72
theorem in3_n68 : allR ok3 10 2 5 (fun l => 40 :: 40 :: 40 :: 40 :: 41 :: 41 :: 40 :: 41 :: l) = true := in3_join ok3 9 1 5 (fun l => 40 :: 40 :: 40 :: 40 :: 41 :: 41 :: 40 :: 41 :: l) (by decide) in3_c70 in3_n67
theorem in3_n69 : allR ok3 9 3 6 (fun l => 40 :: 40 :: 40 :: 40 :: 41 :: 41 :: 40 :: 40 :: 41 :: l) = true := in3_join ok3 8 2 6 (fun l => 40 :: 40 :: 40 :: 40 :: 41 :: 41 :: 40 :: 40 :: 41 :: l) (by decide) in3_c73 in3_c74
theorem in3_n70 : allR ok3 10 4 6 (fun l => 40 :: 40 :: 40 :: 40 :: 41 :: 41 :: 40 :: 40 :: l) = true := in3_join ok3 9 3 6 (fun l => 40 :: 40 :: 40 :: 40 :: 41 :: 41 :: 40 :: 40 :: l) (by decide) in3_n69 in3_c75
theorem in3_n71 : allR ok3 11 3 5 (fun l => 40 :: 40 :: 40 :: 40 :: 41 :: 41 :: 40 :: l) = true := in3_join ok3 10 2 5 (fun l => 40 :: 40 :: 40 :: 40 :: 41 :: 41 :: 40 :: l) (by decide) in3_n68 in3_n70
theorem in3_n72 : allR ok3 12 2 4 (fun l => 40 :: 40 :: 40 :: 40 :: 41 :: 41 :: l) = true := in3_join ok3 11 1 4 (fun l => 40 :: 40 :: 40 :: 40 :: 41 :: 41 :: l) (by decide) in3_n66 in3_n71
theorem in3_n73 : allR ok3 9 3 6 (fun l => 40 :: 40 :: 40 :: 40 :: 41 :: 40 :: 41 :: 41 :: 40 :: l) = true := in3_join ok3 8 2 6 (fun l => 40 :: 40 :: 40 :: 40 :: 41 :: 40 :: 41 :: 41 :: 40 :: l) (by decide) in3_c77 in3_c78
theorem in3_n74 : allR ok3 10 2 5 (fun l => 40 :: 40 :: 40 :: 40 :: 41 :: 40 :: 41 :: 41 :: l) = true := in3_join ok3 9 1 5 (fun l => 40 :: 40 :: 40 :: 40 :: 41 :: 40 :: 41 :: 41 :: l) (by decide) in3_c76 in3_n73
theorem in3_n75 : allR ok3 9 3 6 (fun l => 40 :: 40 :: 40 :: 40 :: 41 :: 40 :: 41 :: 40 :: 41 :: l) = true := in3_join ok3 8 2 6 (fun l => 40 :: 40 :: 40 :: 40 :: 41 :: 40 :: 41 :: 40 :: 41 :: l) (by decide) in3_c79 in3_c80
theorem in3_n76 : allR ok3 10 4 6 (fun l => 40 :: 40 :: 40 :: 40 :: 41 :: 40 :: 41 :: 40 :: l) = true := in3_join ok3 9 3 6 (fun l => 40 :: 40 :: 40 :: 40 :: 41 :: 40 :: 41 :: 40 :: l) (by decide) in3_n75 in3_c81
theorem in3_n77 : allR ok3 11 3 5 (fun l => 40 :: 40 :: 40 :: 40 :: 41 :: 40 :: 41 :: l) = true := in3_join ok3 10 2 5 (fun l => 40 :: 40 :: 40 :: 40 :: 41 :: 40 :: 41 :: l) (by decide) in3_n74 in3_n76
theorem in3_n78 : allR ok3 9 3 6 (fun l => 40 :: 40 :: 40 :: 40 :: 41 :: 40 :: 40 :: 41 :: 41 :: l) = true := in3_join ok3 8 2 6 (fun l => 40 :: 40 :: 40 :: 40 :: 41 :: 40 :: 40 :: 41 :: 41 :: l) (by decide) in3_c82 in3_c83
theorem in3_n79 : allR ok3 10 4 6 (fun l => 40 :: 40 :: 40 :: 40 :: 41 :: 40 :: 40 :: 41 :: l) = true := in3_join ok3 9 3 6 (fun l => 40 :: 40 :: 40 :: 40 :: 41 :: 40 :: 40 :: 41 :: l) (by decide) in3_n78 in3_c84
theorem in3_n80 : allR ok3 10 6 7 (fun l => 40 :: 40 :: 40 :: 40 :: 41 :: 40 :: 40 :: 40 :: l) = true := in3_join ok3 9 5 7 (fun l => 40 :: 40 :: 40 :: 40 :: 41 :: 40 :: 40 :: 40 :: l) (by decide) in3_c85 in3_c86
theorem in3_n81 : allR ok3 11 5 6 (fun l => 40 :: 40 :: 40 :: 40 :: 41 :: 40 :: 40 :: l) = true := in3_join ok3 10 4 6 (fun l => 40 :: 40 :: 40 :: 40 :: 41 :: 40 :: 40 :: l) (by decide) in3_n79 in3_n80
theorem in3_n82 : allR ok3 12 4 5 (fun l => 40 :: 40 :: 40 :: 40 :: 41 :: 40 :: l) = true := in3_join ok3 11 3 5 (fun l => 40 :: 40 :: 40 :: 40 :: 41 :: 40 :: l) (by decide) in3_n77 in3_n81
theorem in3_n83 : allR ok3 13 3 4 (fun l => 40 :: 40 :: 40 :: 40 :: 41 :: l) = true := in3_join ok3 12 2 4 (fun l => 40 :: 40 :: 40 :: 40 :: 41 :: l) (by decide) in3_n72 in3_n82
theorem in3_n84 : allR ok3 9 3 6 (fun l => 40 :: 40 :: 40 :: 40 :: 40 :: 41 :: 41 :: 41 :: 40 :: l) = true := in3_join ok3 8 2 6 (fun l => 40 :: 40 :: 40 :: 40 :: 40 :: 41 :: 41 :: 41 :: 40 :: l) (by decide) in3_c88 in3_c89
theorem in3_n85 : allR ok3 10 2 5 (fun l => 40 :: 40 :: 40 :: 40 :: 40 :: 41 :: 41 :: 41 :: l) = true := in3_join ok3 9 1 5 (fun l => 40 :: 40 :: 40 :: 40 :: 40 :: 41 :: 41 :: 41 :: l) (by decide) in3_c87 in3_n84
theorem in3_n86 : allR ok3 9 3 6 (fun l => 40 :: 40 :: 40 :: 40 :: 40 :: 41 :: 41 :: 40 :: 41 :: l) = true := in3_join ok3 8 2 6 (fun l => 40 :: 40 :: 40 :: 40 :: 40 :: 41 :: 41 :: 40 :: 41 :: l) (by decide) in3_c90 in3_c91
theorem in3_n87 : allR ok3 10 4 6 (fun l => 40 :: 40 :: 40 :: 40 :: 40 :: 41 :: 41 :: 40 :: l) = true := in3_join ok3 9 3 6 (fun l => 40 :: 40 :: 40 :: 40 :: 40 :: 41 :: 41 :: 40 :: l) (by decide) in3_n86 in3_c92
theorem in3_n88 : allR ok3 11 3 5 (fun l => 40 :: 40 :: 40 :: 40 :: 40 :: 41 :: 41 :: l) = true := in3_join ok3 10 2 5 (fun l => 40 :: 40 :: 40 :: 40 :: 40 :: 41 :: 41 :: l) (by decide) in3_n85 in3_n87
theorem in3_n89 : allR ok3 9 3 6 (fun l => 40 :: 40 :: 40 :: 40 :: 40 :: 41 :: 40 :: 41 :: 41 :: l) = true := in3_join ok3 8 2 6 (fun l => 40 :: 40 :: 40 :: 40 :: 40 :: 41 :: 40 :: 41 :: 41 :: l) (by decide) in3_c93 in3_c94
theorem in3_n90 : allR ok3 10 4 6 (fun l => 40 :: 40 :: 40 :: 40 :: 40 :: 41 :: 40 :: 41 :: l) = true := in3_join ok3 9 3 6 (fun l => 40 :: 40 :: 40 :: 40 :: 40 :: 41 :: 40 :: 41 :: l) (by decide) in3_n89 in3_c95
theorem in3_n91 : allR ok3 10 6 7 (fun l => 40 :: 40 :: 40 :: 40 :: 40 :: 41 :: 40 :: 40 :: l) = true := in3_join ok3 9 5 7 (fun l => 40 :: 40 :: 40 :: 40 :: 40 :: 41 :: 40 :: 40 :: l) (by decide) in3_c96 in3_c97
theorem in3_n92 : allR ok3 11 5 6 (fun l => 40 :: 40 :: 40 :: 40 :: 40 :: 41 :: 40 :: l) = true := in3_join ok3 10 4 6 (fun l => 40 :: 40 :: 40 :: 40 :: 40 :: 41 :: 40 :: l) (by decide) in3_n90 in3_n91
theorem in3_n93 : allR ok3 12 4 5 (fun l => 40 :: 40 :: 40 :: 40 :: 40 :: 41 :: l) = true := in3_join ok3 11 3 5 (fun l => 40 :: 40 :: 40 :: 40 :: 40 :: 41 :: l) (by decide) in3_n88 in3_n92
theorem in3_n94 : allR ok3 9 3 6 (fun l => 40 :: 40 :: 40 :: 40 :: 40 :: 40 :: 41 :: 41 :: 41 :: l) = true := in3_join ok3 8 2 6 (fun l => 40 :: 40 :: 40 :: 40 :: 40 :: 40 :: 41 :: 41 :: 41 :: l) (by decide) in3_c98 in3_c99
theorem in3_n95 : allR ok3 10 4 6 (fun l => 40 :: 40 :: 40 :: 40 :: 40 :: 40 :: 41 :: 41 :: l) = true := in3_join ok3 9 3 6 (fun l => 40 :: 40 :: 40 :: 40 :: 40 :: 40 :: 41 :: 41 :: l) (by decide) in3_n94 in3_c100
theorem in3_n96 : allR ok3 10 6 7 (fun l => 40 :: 40 :: 40 :: 40 :: 40 :: 40 :: 41 :: 40 :: l) = true := in3_join ok3 9 5 7 (fun l => 40 :: 40 :: 40 :: 40 :: 40 :: 40 :: 41 :: 40 :: l) (by decide) in3_c101 in3_c102
theorem in3_n97 : allR ok3 11 5 6 (fun l => 40 :: 40 :: 40 :: 40 :: 40 :: 40 :: 41 :: l) = true := in3_join ok3 10 4 6 (fun l => 40 :: 40 :: 40 :: 40 :: 40 :: 40 :: 41 :: l) (by decide) in3_n95 in3_n96
theorem in3_n98 : allR ok3 10 6 7 (fun l => 40 :: 40 :: 40 :: 40 :: 40 :: 40 :: 40 :: 41 :: l) = true := in3_join ok3 9 5 7 (fun l => 40 :: 40 :: 40 :: 40 :: 40 :: 40 :: 40 :: 41 :: l) (by decide) in3_c103 in3_c104
theorem in3_n99 : allR ok3 11 7 7 (fun l => 40 :: 40 :: 40 :: 40 :: 40 :: 40 :: 40 :: l) = true := in3_join ok3 10 6 7 (fun l => 40 :: 40 :: 40 :: 40 :: 40 :: 40 :: 40 :: l) (by decide) in3_n98 in3_c105
theorem in3_n100 : allR ok3 12 6 6 (fun l => 40 :: 40 :: 40 :: 40 :: 40 :: 40 :: l) = true := in3_join ok3 11 5 6 (fun l => 40 :: 40 :: 40 :: 40 :: 40 :: 40 :: l) (by decide) in3_n97 in3_n99
theorem in3_n101 : allR ok3 13 5 5 (fun l => 40 :: 40 :: 40 :: 40 :: 40 :: l) = true := in3_join ok3 12 4 5 (fun l => 40 :: 40 :: 40 :: 40 :: 40 :: l) (by decide) in3_n93 in3_n100
theorem in3_n102 : allR ok3 14 4 4 (fun l => 40 :: 40 :: 40 :: 40 :: l) = true := in3_join ok3 13 3 4 (fun l => 40 :: 40 :: 40 :: 40 :: l) (by decide) in3_n83 in3_n101
theorem in3_n103 : allR ok3 15 3 3 (fun l => 40 :: 40 :: 40 :: l) = true := in3_join ok3 14 2 3 (fun l => 40 :: 40 :: 40 :: l) (by decide) in3_n63 in3_n102
theorem in3_n104 : allR ok3 16 2 2 (fun l => 40 :: 40 :: l) = true := in3_join ok3 15 1 2 (fun l => 40 :: 40 :: l) (by decide) in3_n32 in3_n103
theorem in3_n105 : allR ok3 17 1 1 (fun l => 40 :: l) = true := in3_join ok3 16 0 1 (fun l => 40 :: l) (by decide) in3_c0 in3_n104
theorem in3_all : allR ok3 17 1 1 (fun l => 40 :: l) = true := in3_n105
end
end Go.AI
