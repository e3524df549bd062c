/- The parts of the evaluation together. -/
import Derived.Test.YtkdialpmplolcaaFnOrdersEv0
import Derived.Test.YtkdialpmplolcaaFnOrdersEv1
namespace Go.AI.T
open Go Go.RowKit Go.AI
set_option linter.unusedVariables false
set_option linter.unusedSimpArgs false
set_option maxRecDepth 100000
noncomputable section
theorem evFnOrders_j {t : List Nat → Bool} {f d m : Nat} {p : List Nat → List Nat} (hm : m + 1 ≤ 9) (h1 : allR t f d m (fun l => p (41 :: l)) = true) (h2 : allR t f (d + 2) (m + 1) (fun l => p (40 :: l)) = true) : allR t (f + 1) (d + 1) m p = true := by
  show bc (allR t f d m (fun l => p (41 :: l))) (bc (Nat.ble (m + 1) 9) (allR t f (d + 2) (m + 1) (fun l => p (40 :: l))) true) false = true
  rw [h1, h2, Nat.ble_eq_true_of_le hm]; rfl
theorem evFnOrders_k {t : List Nat → Bool} {f d : Nat} {p : List Nat → List Nat} (h1 : allR t f d 9 (fun l => p (41 :: l)) = true) : allR t (f + 1) (d + 1) 9 p = true := by
  show bc (allR t f d 9 (fun l => p (41 :: l))) (bc (Nat.ble (9 + 1) 9) (allR t f (d + 2) (9 + 1) (fun l => p (40 :: l))) true) false = true
  rw [h1]; rfl
theorem evFnOrders_all (B : Blk) : allR (ok_FnOrders B) 17 1 1 (fun l => 40 :: l) = true := (evFnOrders_j (by decide) (evFnOrders_c0 B) (evFnOrders_j (by decide) (evFnOrders_j (by decide) (evFnOrders_c1 B) (evFnOrders_j (by decide) (evFnOrders_j (by decide) (evFnOrders_c2 B) (evFnOrders_j (by decide) (evFnOrders_c3 B) (evFnOrders_j (by decide) (evFnOrders_c4 B) (evFnOrders_c5 B)))) (evFnOrders_j (by decide) (evFnOrders_j (by decide) (evFnOrders_c6 B) (evFnOrders_j (by decide) (evFnOrders_c7 B) (evFnOrders_c8 B))) (evFnOrders_j (by decide) (evFnOrders_j (by decide) (evFnOrders_c9 B) (evFnOrders_c10 B)) (evFnOrders_j (by decide) (evFnOrders_c11 B) (evFnOrders_c12 B)))))) (evFnOrders_j (by decide) (evFnOrders_j (by decide) (evFnOrders_j (by decide) (evFnOrders_c13 B) (evFnOrders_j (by decide) (evFnOrders_c14 B) (evFnOrders_j (by decide) (evFnOrders_c15 B) (evFnOrders_c16 B)))) (evFnOrders_j (by decide) (evFnOrders_j (by decide) (evFnOrders_c17 B) (evFnOrders_j (by decide) (evFnOrders_c18 B) (evFnOrders_c19 B))) (evFnOrders_j (by decide) (evFnOrders_j (by decide) (evFnOrders_c20 B) (evFnOrders_c21 B)) (evFnOrders_j (by decide) (evFnOrders_c22 B) (evFnOrders_c23 B))))) (evFnOrders_j (by decide) (evFnOrders_j (by decide) (evFnOrders_j (by decide) (evFnOrders_c24 B) (evFnOrders_j (by decide) (evFnOrders_c25 B) (evFnOrders_c26 B))) (evFnOrders_j (by decide) (evFnOrders_j (by decide) (evFnOrders_c27 B) (evFnOrders_c28 B)) (evFnOrders_j (by decide) (evFnOrders_c29 B) (evFnOrders_c30 B)))) (evFnOrders_j (by decide) (evFnOrders_j (by decide) (evFnOrders_j (by decide) (evFnOrders_c31 B) (evFnOrders_c32 B)) (evFnOrders_j (by decide) (evFnOrders_c33 B) (evFnOrders_c34 B))) (evFnOrders_j (by decide) (evFnOrders_j (by decide) (evFnOrders_c35 B) (evFnOrders_c36 B)) (evFnOrders_c37 B)))))))
end
end Go.AI.T
