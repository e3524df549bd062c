/- The parts of the evaluation together. -/
import Derived.Test.YtkdialpmplolcaaFnStreamsEv0
import Derived.Test.YtkdialpmplolcaaFnStreamsEv1
import Derived.Test.YtkdialpmplolcaaFnStreamsEv2
import Derived.Test.YtkdialpmplolcaaFnStreamsEv3
namespace Go.AI.T
open Go Go.RowKit Go.AI
set_option linter.unusedVariables false
set_option linter.unusedSimpArgs false
set_option maxRecDepth 100000
noncomputable section
theorem evFnStreams_join (t : List Nat → Bool) (f d m : Nat) (p : List Nat → List Nat) (hm : m + 1 ≤ 9) (h1 : allR t f d m (fun l => p (41 :: l)) = true) (h2 : allR t f (d + 2) (m + 1) (fun l => p (40 :: l)) = true) : allR t (f + 1) (d + 1) m p = true := by
  show bc (allR t f d m (fun l => p (41 :: l))) (bc (Nat.ble (m + 1) 9) (allR t f (d + 2) (m + 1) (fun l => p (40 :: l))) true) false = true
  rw [h1, h2, Nat.ble_eq_true_of_le hm]; rfl
theorem evFnStreams_join9 (t : List Nat → Bool) (f d : Nat) (p : List Nat → List Nat) (h1 : allR t f d 9 (fun l => p (41 :: l)) = true) : allR t (f + 1) (d + 1) 9 p = true := by
  show bc (allR t f d 9 (fun l => p (41 :: l))) (bc (Nat.ble (9 + 1) 9) (allR t f (d + 2) (9 + 1) (fun l => p (40 :: l))) true) false = true
  rw [h1]; rfl
theorem evFnStreams_n1 (B : Blk) : allR (ok_FnStreams B) 11 3 5 (fun l => 40 :: 40 :: 41 :: 40 :: 41 :: 40 :: 40 :: l) = true := evFnStreams_join (ok_FnStreams B) 10 2 5 (fun l => 40 :: 40 :: 41 :: 40 :: 41 :: 40 :: 40 :: l) (by decide) (evFnStreams_c4 B) (evFnStreams_c5 B)
theorem evFnStreams_n2 (B : Blk) : allR (ok_FnStreams B) 12 2 4 (fun l => 40 :: 40 :: 41 :: 40 :: 41 :: 40 :: l) = true := evFnStreams_join (ok_FnStreams B) 11 1 4 (fun l => 40 :: 40 :: 41 :: 40 :: 41 :: 40 :: l) (by decide) (evFnStreams_c3 B) (evFnStreams_n1 B)
theorem evFnStreams_n3 (B : Blk) : allR (ok_FnStreams B) 13 1 3 (fun l => 40 :: 40 :: 41 :: 40 :: 41 :: l) = true := evFnStreams_join (ok_FnStreams B) 12 0 3 (fun l => 40 :: 40 :: 41 :: 40 :: 41 :: l) (by decide) (evFnStreams_c2 B) (evFnStreams_n2 B)
theorem evFnStreams_n4 (B : Blk) : allR (ok_FnStreams B) 11 3 5 (fun l => 40 :: 40 :: 41 :: 40 :: 40 :: 41 :: 40 :: l) = true := evFnStreams_join (ok_FnStreams B) 10 2 5 (fun l => 40 :: 40 :: 41 :: 40 :: 40 :: 41 :: 40 :: l) (by decide) (evFnStreams_c7 B) (evFnStreams_c8 B)
theorem evFnStreams_n5 (B : Blk) : allR (ok_FnStreams B) 12 2 4 (fun l => 40 :: 40 :: 41 :: 40 :: 40 :: 41 :: l) = true := evFnStreams_join (ok_FnStreams B) 11 1 4 (fun l => 40 :: 40 :: 41 :: 40 :: 40 :: 41 :: l) (by decide) (evFnStreams_c6 B) (evFnStreams_n4 B)
theorem evFnStreams_n6 (B : Blk) : allR (ok_FnStreams B) 11 3 5 (fun l => 40 :: 40 :: 41 :: 40 :: 40 :: 40 :: 41 :: l) = true := evFnStreams_join (ok_FnStreams B) 10 2 5 (fun l => 40 :: 40 :: 41 :: 40 :: 40 :: 40 :: 41 :: l) (by decide) (evFnStreams_c9 B) (evFnStreams_c10 B)
theorem evFnStreams_n7 (B : Blk) : allR (ok_FnStreams B) 12 4 5 (fun l => 40 :: 40 :: 41 :: 40 :: 40 :: 40 :: l) = true := evFnStreams_join (ok_FnStreams B) 11 3 5 (fun l => 40 :: 40 :: 41 :: 40 :: 40 :: 40 :: l) (by decide) (evFnStreams_n6 B) (evFnStreams_c11 B)
theorem evFnStreams_n8 (B : Blk) : allR (ok_FnStreams B) 13 3 4 (fun l => 40 :: 40 :: 41 :: 40 :: 40 :: l) = true := evFnStreams_join (ok_FnStreams B) 12 2 4 (fun l => 40 :: 40 :: 41 :: 40 :: 40 :: l) (by decide) (evFnStreams_n5 B) (evFnStreams_n7 B)
theorem evFnStreams_n9 (B : Blk) : allR (ok_FnStreams B) 14 2 3 (fun l => 40 :: 40 :: 41 :: 40 :: l) = true := evFnStreams_join (ok_FnStreams B) 13 1 3 (fun l => 40 :: 40 :: 41 :: 40 :: l) (by decide) (evFnStreams_n3 B) (evFnStreams_n8 B)
theorem evFnStreams_n10 (B : Blk) : allR (ok_FnStreams B) 15 1 2 (fun l => 40 :: 40 :: 41 :: l) = true := evFnStreams_join (ok_FnStreams B) 14 0 2 (fun l => 40 :: 40 :: 41 :: l) (by decide) (evFnStreams_c1 B) (evFnStreams_n9 B)
theorem evFnStreams_n11 (B : Blk) : allR (ok_FnStreams B) 11 3 5 (fun l => 40 :: 40 :: 40 :: 41 :: 41 :: 40 :: 40 :: l) = true := evFnStreams_join (ok_FnStreams B) 10 2 5 (fun l => 40 :: 40 :: 40 :: 41 :: 41 :: 40 :: 40 :: l) (by decide) (evFnStreams_c14 B) (evFnStreams_c15 B)
theorem evFnStreams_n12 (B : Blk) : allR (ok_FnStreams B) 12 2 4 (fun l => 40 :: 40 :: 40 :: 41 :: 41 :: 40 :: l) = true := evFnStreams_join (ok_FnStreams B) 11 1 4 (fun l => 40 :: 40 :: 40 :: 41 :: 41 :: 40 :: l) (by decide) (evFnStreams_c13 B) (evFnStreams_n11 B)
theorem evFnStreams_n13 (B : Blk) : allR (ok_FnStreams B) 13 1 3 (fun l => 40 :: 40 :: 40 :: 41 :: 41 :: l) = true := evFnStreams_join (ok_FnStreams B) 12 0 3 (fun l => 40 :: 40 :: 40 :: 41 :: 41 :: l) (by decide) (evFnStreams_c12 B) (evFnStreams_n12 B)
theorem evFnStreams_n14 (B : Blk) : allR (ok_FnStreams B) 11 3 5 (fun l => 40 :: 40 :: 40 :: 41 :: 40 :: 41 :: 40 :: l) = true := evFnStreams_join (ok_FnStreams B) 10 2 5 (fun l => 40 :: 40 :: 40 :: 41 :: 40 :: 41 :: 40 :: l) (by decide) (evFnStreams_c17 B) (evFnStreams_c18 B)
theorem evFnStreams_n15 (B : Blk) : allR (ok_FnStreams B) 12 2 4 (fun l => 40 :: 40 :: 40 :: 41 :: 40 :: 41 :: l) = true := evFnStreams_join (ok_FnStreams B) 11 1 4 (fun l => 40 :: 40 :: 40 :: 41 :: 40 :: 41 :: l) (by decide) (evFnStreams_c16 B) (evFnStreams_n14 B)
theorem evFnStreams_n16 (B : Blk) : allR (ok_FnStreams B) 11 3 5 (fun l => 40 :: 40 :: 40 :: 41 :: 40 :: 40 :: 41 :: l) = true := evFnStreams_join (ok_FnStreams B) 10 2 5 (fun l => 40 :: 40 :: 40 :: 41 :: 40 :: 40 :: 41 :: l) (by decide) (evFnStreams_c19 B) (evFnStreams_c20 B)
theorem evFnStreams_n17 (B : Blk) : allR (ok_FnStreams B) 12 4 5 (fun l => 40 :: 40 :: 40 :: 41 :: 40 :: 40 :: l) = true := evFnStreams_join (ok_FnStreams B) 11 3 5 (fun l => 40 :: 40 :: 40 :: 41 :: 40 :: 40 :: l) (by decide) (evFnStreams_n16 B) (evFnStreams_c21 B)
theorem evFnStreams_n18 (B : Blk) : allR (ok_FnStreams B) 13 3 4 (fun l => 40 :: 40 :: 40 :: 41 :: 40 :: l) = true := evFnStreams_join (ok_FnStreams B) 12 2 4 (fun l => 40 :: 40 :: 40 :: 41 :: 40 :: l) (by decide) (evFnStreams_n15 B) (evFnStreams_n17 B)
theorem evFnStreams_n19 (B : Blk) : allR (ok_FnStreams B) 14 2 3 (fun l => 40 :: 40 :: 40 :: 41 :: l) = true := evFnStreams_join (ok_FnStreams B) 13 1 3 (fun l => 40 :: 40 :: 40 :: 41 :: l) (by decide) (evFnStreams_n13 B) (evFnStreams_n18 B)
theorem evFnStreams_n20 (B : Blk) : allR (ok_FnStreams B) 11 3 5 (fun l => 40 :: 40 :: 40 :: 40 :: 41 :: 41 :: 40 :: l) = true := evFnStreams_join (ok_FnStreams B) 10 2 5 (fun l => 40 :: 40 :: 40 :: 40 :: 41 :: 41 :: 40 :: l) (by decide) (evFnStreams_c23 B) (evFnStreams_c24 B)
theorem evFnStreams_n21 (B : Blk) : allR (ok_FnStreams B) 12 2 4 (fun l => 40 :: 40 :: 40 :: 40 :: 41 :: 41 :: l) = true := evFnStreams_join (ok_FnStreams B) 11 1 4 (fun l => 40 :: 40 :: 40 :: 40 :: 41 :: 41 :: l) (by decide) (evFnStreams_c22 B) (evFnStreams_n20 B)
theorem evFnStreams_n22 (B : Blk) : allR (ok_FnStreams B) 11 3 5 (fun l => 40 :: 40 :: 40 :: 40 :: 41 :: 40 :: 41 :: l) = true := evFnStreams_join (ok_FnStreams B) 10 2 5 (fun l => 40 :: 40 :: 40 :: 40 :: 41 :: 40 :: 41 :: l) (by decide) (evFnStreams_c25 B) (evFnStreams_c26 B)
theorem evFnStreams_n23 (B : Blk) : allR (ok_FnStreams B) 12 4 5 (fun l => 40 :: 40 :: 40 :: 40 :: 41 :: 40 :: l) = true := evFnStreams_join (ok_FnStreams B) 11 3 5 (fun l => 40 :: 40 :: 40 :: 40 :: 41 :: 40 :: l) (by decide) (evFnStreams_n22 B) (evFnStreams_c27 B)
theorem evFnStreams_n24 (B : Blk) : allR (ok_FnStreams B) 13 3 4 (fun l => 40 :: 40 :: 40 :: 40 :: 41 :: l) = true := evFnStreams_join (ok_FnStreams B) 12 2 4 (fun l => 40 :: 40 :: 40 :: 40 :: 41 :: l) (by decide) (evFnStreams_n21 B) (evFnStreams_n23 B)
theorem evFnStreams_n25 (B : Blk) : allR (ok_FnStreams B) 11 3 5 (fun l => 40 :: 40 :: 40 :: 40 :: 40 :: 41 :: 41 :: l) = true := evFnStreams_join (ok_FnStreams B) 10 2 5 (fun l => 40 :: 40 :: 40 :: 40 :: 40 :: 41 :: 41 :: l) (by decide) (evFnStreams_c28 B) (evFnStreams_c29 B)
theorem evFnStreams_n26 (B : Blk) : allR (ok_FnStreams B) 12 4 5 (fun l => 40 :: 40 :: 40 :: 40 :: 40 :: 41 :: l) = true := evFnStreams_join (ok_FnStreams B) 11 3 5 (fun l => 40 :: 40 :: 40 :: 40 :: 40 :: 41 :: l) (by decide) (evFnStreams_n25 B) (evFnStreams_c30 B)
theorem evFnStreams_n27 (B : Blk) : allR (ok_FnStreams B) 12 6 6 (fun l => 40 :: 40 :: 40 :: 40 :: 40 :: 40 :: l) = true := evFnStreams_join (ok_FnStreams B) 11 5 6 (fun l => 40 :: 40 :: 40 :: 40 :: 40 :: 40 :: l) (by decide) (evFnStreams_c31 B) (evFnStreams_c32 B)
theorem evFnStreams_n28 (B : Blk) : allR (ok_FnStreams B) 13 5 5 (fun l => 40 :: 40 :: 40 :: 40 :: 40 :: l) = true := evFnStreams_join (ok_FnStreams B) 12 4 5 (fun l => 40 :: 40 :: 40 :: 40 :: 40 :: l) (by decide) (evFnStreams_n26 B) (evFnStreams_n27 B)
theorem evFnStreams_n29 (B : Blk) : allR (ok_FnStreams B) 14 4 4 (fun l => 40 :: 40 :: 40 :: 40 :: l) = true := evFnStreams_join (ok_FnStreams B) 13 3 4 (fun l => 40 :: 40 :: 40 :: 40 :: l) (by decide) (evFnStreams_n24 B) (evFnStreams_n28 B)
theorem evFnStreams_n30 (B : Blk) : allR (ok_FnStreams B) 15 3 3 (fun l => 40 :: 40 :: 40 :: l) = true := evFnStreams_join (ok_FnStreams B) 14 2 3 (fun l => 40 :: 40 :: 40 :: l) (by decide) (evFnStreams_n19 B) (evFnStreams_n29 B)
theorem evFnStreams_n31 (B : Blk) : allR (ok_FnStreams B) 16 2 2 (fun l => 40 :: 40 :: l) = true := evFnStreams_join (ok_FnStreams B) 15 1 2 (fun l => 40 :: 40 :: l) (by decide) (evFnStreams_n10 B) (evFnStreams_n30 B)
theorem evFnStreams_n32 (B : Blk) : allR (ok_FnStreams B) 17 1 1 (fun l => 40 :: l) = true := evFnStreams_join (ok_FnStreams B) 16 0 1 (fun l => 40 :: l) (by decide) (evFnStreams_c0 B) (evFnStreams_n31 B)
theorem evFnStreams_all (B : Blk) : allR (ok_FnStreams B) 17 1 1 (fun l => 40 :: l) = true := (evFnStreams_n32 B)
end
end Go.AI.T
