/- The parts of the evaluation together. -/
import Derived.Test.YtkdialpmplolcaaFnNamedEv0
import Derived.Test.YtkdialpmplolcaaFnNamedEv1
namespace Go.AI.T
open Go Go.RowKit Go.AI
set_option linter.unusedVariables false
set_option linter.unusedSimpArgs false
set_option maxRecDepth 100000
noncomputable section
theorem evFnNamed_j {t : List Nat → Bool} {f d m : Nat} {p : List Nat → List Nat} (hm : m + 1 ≤ 9) (h1 : allR t f d m (fun l => p (41 :: l)) = true) (h2 : allR t f (d + 2) (m + 1) (fun l => p (40 :: l)) = true) : allR t (f + 1) (d + 1) m p = true := by
  show bc (allR t f d m (fun l => p (41 :: l))) (bc (Nat.ble (m + 1) 9) (allR t f (d + 2) (m + 1) (fun l => p (40 :: l))) true) false = true
  rw [h1, h2, Nat.ble_eq_true_of_le hm]; rfl
theorem evFnNamed_k {t : List Nat → Bool} {f d : Nat} {p : List Nat → List Nat} (h1 : allR t f d 9 (fun l => p (41 :: l)) = true) : allR t (f + 1) (d + 1) 9 p = true := by
  show bc (allR t f d 9 (fun l => p (41 :: l))) (bc (Nat.ble (9 + 1) 9) (allR t f (d + 2) (9 + 1) (fun l => p (40 :: l))) true) false = true
  rw [h1]; rfl
theorem evFnNamed_all (B : Blk) : allR (ok_FnNamed B) 17 1 1 (fun l => 40 :: l) = true := (evFnNamed_j (by decide) (evFnNamed_c0 B) (evFnNamed_j (by decide) (evFnNamed_j (by decide) (evFnNamed_c1 B) (evFnNamed_j (by decide) (evFnNamed_j (by decide) (evFnNamed_c2 B) (evFnNamed_j (by decide) (evFnNamed_c3 B) (evFnNamed_j (by decide) (evFnNamed_c4 B) (evFnNamed_c5 B)))) (evFnNamed_j (by decide) (evFnNamed_j (by decide) (evFnNamed_c6 B) (evFnNamed_j (by decide) (evFnNamed_c7 B) (evFnNamed_c8 B))) (evFnNamed_j (by decide) (evFnNamed_j (by decide) (evFnNamed_c9 B) (evFnNamed_c10 B)) (evFnNamed_j (by decide) (evFnNamed_c11 B) (evFnNamed_c12 B)))))) (evFnNamed_j (by decide) (evFnNamed_j (by decide) (evFnNamed_j (by decide) (evFnNamed_c13 B) (evFnNamed_j (by decide) (evFnNamed_c14 B) (evFnNamed_j (by decide) (evFnNamed_c15 B) (evFnNamed_c16 B)))) (evFnNamed_j (by decide) (evFnNamed_j (by decide) (evFnNamed_c17 B) (evFnNamed_j (by decide) (evFnNamed_c18 B) (evFnNamed_c19 B))) (evFnNamed_j (by decide) (evFnNamed_j (by decide) (evFnNamed_c20 B) (evFnNamed_c21 B)) (evFnNamed_j (by decide) (evFnNamed_c22 B) (evFnNamed_c23 B))))) (evFnNamed_j (by decide) (evFnNamed_j (by decide) (evFnNamed_j (by decide) (evFnNamed_c24 B) (evFnNamed_j (by decide) (evFnNamed_c25 B) (evFnNamed_c26 B))) (evFnNamed_j (by decide) (evFnNamed_j (by decide) (evFnNamed_c27 B) (evFnNamed_c28 B)) (evFnNamed_j (by decide) (evFnNamed_c29 B) (evFnNamed_c30 B)))) (evFnNamed_j (by decide) (evFnNamed_j (by decide) (evFnNamed_j (by decide) (evFnNamed_c31 B) (evFnNamed_c32 B)) (evFnNamed_j (by decide) (evFnNamed_c33 B) (evFnNamed_c34 B))) (evFnNamed_j (by decide) (evFnNamed_j (by decide) (evFnNamed_c35 B) (evFnNamed_c36 B)) (evFnNamed_c37 B)))))))
end
end Go.AI.T
