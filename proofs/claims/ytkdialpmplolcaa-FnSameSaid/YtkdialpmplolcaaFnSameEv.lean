/- The parts of the evaluation together. -/
import Derived.Test.YtkdialpmplolcaaFnSameEv0
import Derived.Test.YtkdialpmplolcaaFnSameEv1
namespace Go.AI.T
open Go Go.RowKit Go.AI
set_option linter.unusedVariables false
set_option linter.unusedSimpArgs false
set_option maxRecDepth 100000
noncomputable section
theorem evFnSame_j {t : List Nat → Bool} {f d m : Nat} {p : List Nat → List Nat} (hm : m + 1 ≤ 9) (h1 : allR t f d m (fun l => p (41 :: l)) = true) (h2 : allR t f (d + 2) (m + 1) (fun l => p (40 :: l)) = true) : allR t (f + 1) (d + 1) m p = true := by
  show bc (allR t f d m (fun l => p (41 :: l))) (bc (Nat.ble (m + 1) 9) (allR t f (d + 2) (m + 1) (fun l => p (40 :: l))) true) false = true
  rw [h1, h2, Nat.ble_eq_true_of_le hm]; rfl
theorem evFnSame_k {t : List Nat → Bool} {f d : Nat} {p : List Nat → List Nat} (h1 : allR t f d 9 (fun l => p (41 :: l)) = true) : allR t (f + 1) (d + 1) 9 p = true := by
  show bc (allR t f d 9 (fun l => p (41 :: l))) (bc (Nat.ble (9 + 1) 9) (allR t f (d + 2) (9 + 1) (fun l => p (40 :: l))) true) false = true
  rw [h1]; rfl
theorem evFnSame_all (B : Blk) : allR (ok_FnSame B) 17 1 1 (fun l => 40 :: l) = true := (evFnSame_j (by decide) (evFnSame_c0 B) (evFnSame_j (by decide) (evFnSame_j (by decide) (evFnSame_c1 B) (evFnSame_j (by decide) (evFnSame_j (by decide) (evFnSame_c2 B) (evFnSame_j (by decide) (evFnSame_c3 B) (evFnSame_j (by decide) (evFnSame_c4 B) (evFnSame_c5 B)))) (evFnSame_j (by decide) (evFnSame_j (by decide) (evFnSame_c6 B) (evFnSame_j (by decide) (evFnSame_c7 B) (evFnSame_c8 B))) (evFnSame_j (by decide) (evFnSame_j (by decide) (evFnSame_c9 B) (evFnSame_c10 B)) (evFnSame_j (by decide) (evFnSame_c11 B) (evFnSame_c12 B)))))) (evFnSame_j (by decide) (evFnSame_j (by decide) (evFnSame_j (by decide) (evFnSame_c13 B) (evFnSame_j (by decide) (evFnSame_c14 B) (evFnSame_j (by decide) (evFnSame_c15 B) (evFnSame_c16 B)))) (evFnSame_j (by decide) (evFnSame_j (by decide) (evFnSame_c17 B) (evFnSame_j (by decide) (evFnSame_c18 B) (evFnSame_c19 B))) (evFnSame_j (by decide) (evFnSame_j (by decide) (evFnSame_c20 B) (evFnSame_c21 B)) (evFnSame_j (by decide) (evFnSame_c22 B) (evFnSame_c23 B))))) (evFnSame_j (by decide) (evFnSame_j (by decide) (evFnSame_j (by decide) (evFnSame_c24 B) (evFnSame_j (by decide) (evFnSame_c25 B) (evFnSame_c26 B))) (evFnSame_j (by decide) (evFnSame_j (by decide) (evFnSame_c27 B) (evFnSame_c28 B)) (evFnSame_j (by decide) (evFnSame_c29 B) (evFnSame_c30 B)))) (evFnSame_j (by decide) (evFnSame_j (by decide) (evFnSame_j (by decide) (evFnSame_c31 B) (evFnSame_c32 B)) (evFnSame_j (by decide) (evFnSame_c33 B) (evFnSame_c34 B))) (evFnSame_j (by decide) (evFnSame_j (by decide) (evFnSame_c35 B) (evFnSame_c36 B)) (evFnSame_c37 B)))))))
end
end Go.AI.T
