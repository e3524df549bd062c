/- The parts of the evaluation together. -/
import Derived.Test.YtfafaadfnhhfhaaFnUpEv0
import Derived.Test.YtfafaadfnhhfhaaFnUpEv1
import Derived.Test.YtfafaadfnhhfhaaFnUpEv2
import Derived.Test.YtfafaadfnhhfhaaFnUpEv3
namespace Go.AI.T
open Go Go.RowKit Go.AI
set_option linter.unusedVariables false
set_option linter.unusedSimpArgs false
set_option maxRecDepth 100000
noncomputable section
theorem evFnUp_j {t : List Nat → Bool} {f d m : Nat} {p : List Nat → List Nat} (hm : m + 1 ≤ 9) (h1 : allR t f d m (fun l => p (41 :: l)) = true) (h2 : allR t f (d + 2) (m + 1) (fun l => p (40 :: l)) = true) : allR t (f + 1) (d + 1) m p = true := by
  show bc (allR t f d m (fun l => p (41 :: l))) (bc (Nat.ble (m + 1) 9) (allR t f (d + 2) (m + 1) (fun l => p (40 :: l))) true) false = true
  rw [h1, h2, Nat.ble_eq_true_of_le hm]; rfl
theorem evFnUp_k {t : List Nat → Bool} {f d : Nat} {p : List Nat → List Nat} (h1 : allR t f d 9 (fun l => p (41 :: l)) = true) : allR t (f + 1) (d + 1) 9 p = true := by
  show bc (allR t f d 9 (fun l => p (41 :: l))) (bc (Nat.ble (9 + 1) 9) (allR t f (d + 2) (9 + 1) (fun l => p (40 :: l))) true) false = true
  rw [h1]; rfl
theorem evFnUp_all (B : Blk) : allR (ok_FnUp B) 17 1 1 (fun l => 40 :: l) = true := (evFnUp_j (by decide) (evFnUp_c0 B) (evFnUp_j (by decide) (evFnUp_j (by decide) (evFnUp_c1 B) (evFnUp_j (by decide) (evFnUp_j (by decide) (evFnUp_c2 B) (evFnUp_j (by decide) (evFnUp_j (by decide) (evFnUp_c3 B) (evFnUp_j (by decide) (evFnUp_c4 B) (evFnUp_c5 B))) (evFnUp_j (by decide) (evFnUp_j (by decide) (evFnUp_c6 B) (evFnUp_c7 B)) (evFnUp_j (by decide) (evFnUp_c8 B) (evFnUp_c9 B))))) (evFnUp_j (by decide) (evFnUp_j (by decide) (evFnUp_j (by decide) (evFnUp_c10 B) (evFnUp_j (by decide) (evFnUp_c11 B) (evFnUp_c12 B))) (evFnUp_j (by decide) (evFnUp_j (by decide) (evFnUp_c13 B) (evFnUp_c14 B)) (evFnUp_j (by decide) (evFnUp_c15 B) (evFnUp_c16 B)))) (evFnUp_j (by decide) (evFnUp_j (by decide) (evFnUp_j (by decide) (evFnUp_c17 B) (evFnUp_c18 B)) (evFnUp_j (by decide) (evFnUp_c19 B) (evFnUp_c20 B))) (evFnUp_j (by decide) (evFnUp_j (by decide) (evFnUp_c21 B) (evFnUp_c22 B)) (evFnUp_c23 B)))))) (evFnUp_j (by decide) (evFnUp_j (by decide) (evFnUp_j (by decide) (evFnUp_c24 B) (evFnUp_j (by decide) (evFnUp_j (by decide) (evFnUp_c25 B) (evFnUp_j (by decide) (evFnUp_c26 B) (evFnUp_c27 B))) (evFnUp_j (by decide) (evFnUp_j (by decide) (evFnUp_c28 B) (evFnUp_c29 B)) (evFnUp_j (by decide) (evFnUp_c30 B) (evFnUp_c31 B))))) (evFnUp_j (by decide) (evFnUp_j (by decide) (evFnUp_j (by decide) (evFnUp_c32 B) (evFnUp_j (by decide) (evFnUp_c33 B) (evFnUp_c34 B))) (evFnUp_j (by decide) (evFnUp_j (by decide) (evFnUp_c35 B) (evFnUp_c36 B)) (evFnUp_j (by decide) (evFnUp_c37 B) (evFnUp_c38 B)))) (evFnUp_j (by decide) (evFnUp_j (by decide) (evFnUp_j (by decide) (evFnUp_c39 B) (evFnUp_c40 B)) (evFnUp_j (by decide) (evFnUp_c41 B) (evFnUp_c42 B))) (evFnUp_j (by decide) (evFnUp_j (by decide) (evFnUp_c43 B) (evFnUp_c44 B)) (evFnUp_c45 B))))) (evFnUp_j (by decide) (evFnUp_j (by decide) (evFnUp_j (by decide) (evFnUp_j (by decide) (evFnUp_c46 B) (evFnUp_j (by decide) (evFnUp_c47 B) (evFnUp_c48 B))) (evFnUp_j (by decide) (evFnUp_j (by decide) (evFnUp_c49 B) (evFnUp_c50 B)) (evFnUp_j (by decide) (evFnUp_c51 B) (evFnUp_c52 B)))) (evFnUp_j (by decide) (evFnUp_j (by decide) (evFnUp_j (by decide) (evFnUp_c53 B) (evFnUp_c54 B)) (evFnUp_j (by decide) (evFnUp_c55 B) (evFnUp_c56 B))) (evFnUp_j (by decide) (evFnUp_j (by decide) (evFnUp_c57 B) (evFnUp_c58 B)) (evFnUp_c59 B)))) (evFnUp_j (by decide) (evFnUp_j (by decide) (evFnUp_j (by decide) (evFnUp_j (by decide) (evFnUp_c60 B) (evFnUp_c61 B)) (evFnUp_j (by decide) (evFnUp_c62 B) (evFnUp_c63 B))) (evFnUp_j (by decide) (evFnUp_j (by decide) (evFnUp_c64 B) (evFnUp_c65 B)) (evFnUp_c66 B))) (evFnUp_j (by decide) (evFnUp_j (by decide) (evFnUp_j (by decide) (evFnUp_c67 B) (evFnUp_c68 B)) (evFnUp_c69 B)) (evFnUp_c70 B)))))))
end
end Go.AI.T
