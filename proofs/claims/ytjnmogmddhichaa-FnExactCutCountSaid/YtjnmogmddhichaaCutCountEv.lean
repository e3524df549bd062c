/- The parts of the evaluation together. -/
import Derived.Test.YtjnmogmddhichaaCutCountEv0
import Derived.Test.YtjnmogmddhichaaCutCountEv1
import Derived.Test.YtjnmogmddhichaaCutCountEv2
import Derived.Test.YtjnmogmddhichaaCutCountEv3
import Derived.Test.YtjnmogmddhichaaCutCountEv4
import Derived.Test.YtjnmogmddhichaaCutCountEv5
import Derived.Test.YtjnmogmddhichaaCutCountEv6
import Derived.Test.YtjnmogmddhichaaCutCountEv7
namespace Go.AI.T
open Go Go.RowKit Go.AI
set_option linter.unusedVariables false
set_option linter.unusedSimpArgs false
set_option maxRecDepth 100000
noncomputable section
theorem evCutCount_j {t : List Nat → Bool} {f d m : Nat} {p : List Nat → List Nat} (hm : m + 1 ≤ 9) (h1 : allR t f d m (fun l => p (41 :: l)) = true) (h2 : allR t f (d + 2) (m + 1) (fun l => p (40 :: l)) = true) : allR t (f + 1) (d + 1) m p = true := by
  show bc (allR t f d m (fun l => p (41 :: l))) (bc (Nat.ble (m + 1) 9) (allR t f (d + 2) (m + 1) (fun l => p (40 :: l))) true) false = true
  rw [h1, h2, Nat.ble_eq_true_of_le hm]; rfl
theorem evCutCount_k {t : List Nat → Bool} {f d : Nat} {p : List Nat → List Nat} (h1 : allR t f d 9 (fun l => p (41 :: l)) = true) : allR t (f + 1) (d + 1) 9 p = true := by
  show bc (allR t f d 9 (fun l => p (41 :: l))) (bc (Nat.ble (9 + 1) 9) (allR t f (d + 2) (9 + 1) (fun l => p (40 :: l))) true) false = true
  rw [h1]; rfl
theorem evCutCount_all : allR ok_CutCount 17 1 1 (fun l => 40 :: l) = true := (evCutCount_j (by decide) evCutCount_c0 (evCutCount_j (by decide) (evCutCount_j (by decide) evCutCount_c1 (evCutCount_j (by decide) (evCutCount_j (by decide) evCutCount_c2 (evCutCount_j (by decide) (evCutCount_j (by decide) evCutCount_c3 (evCutCount_j (by decide) evCutCount_c4 evCutCount_c5)) (evCutCount_j (by decide) (evCutCount_j (by decide) evCutCount_c6 evCutCount_c7) (evCutCount_j (by decide) evCutCount_c8 evCutCount_c9)))) (evCutCount_j (by decide) (evCutCount_j (by decide) (evCutCount_j (by decide) evCutCount_c10 (evCutCount_j (by decide) evCutCount_c11 evCutCount_c12)) (evCutCount_j (by decide) (evCutCount_j (by decide) evCutCount_c13 evCutCount_c14) (evCutCount_j (by decide) evCutCount_c15 evCutCount_c16))) (evCutCount_j (by decide) (evCutCount_j (by decide) (evCutCount_j (by decide) evCutCount_c17 evCutCount_c18) (evCutCount_j (by decide) evCutCount_c19 evCutCount_c20)) (evCutCount_j (by decide) (evCutCount_j (by decide) evCutCount_c21 evCutCount_c22) evCutCount_c23))))) (evCutCount_j (by decide) (evCutCount_j (by decide) (evCutCount_j (by decide) evCutCount_c24 (evCutCount_j (by decide) (evCutCount_j (by decide) evCutCount_c25 (evCutCount_j (by decide) evCutCount_c26 evCutCount_c27)) (evCutCount_j (by decide) (evCutCount_j (by decide) evCutCount_c28 evCutCount_c29) (evCutCount_j (by decide) evCutCount_c30 evCutCount_c31)))) (evCutCount_j (by decide) (evCutCount_j (by decide) (evCutCount_j (by decide) evCutCount_c32 (evCutCount_j (by decide) evCutCount_c33 evCutCount_c34)) (evCutCount_j (by decide) (evCutCount_j (by decide) evCutCount_c35 evCutCount_c36) (evCutCount_j (by decide) evCutCount_c37 evCutCount_c38))) (evCutCount_j (by decide) (evCutCount_j (by decide) (evCutCount_j (by decide) evCutCount_c39 evCutCount_c40) (evCutCount_j (by decide) evCutCount_c41 evCutCount_c42)) (evCutCount_j (by decide) (evCutCount_j (by decide) evCutCount_c43 evCutCount_c44) evCutCount_c45)))) (evCutCount_j (by decide) (evCutCount_j (by decide) (evCutCount_j (by decide) (evCutCount_j (by decide) evCutCount_c46 (evCutCount_j (by decide) evCutCount_c47 evCutCount_c48)) (evCutCount_j (by decide) (evCutCount_j (by decide) evCutCount_c49 evCutCount_c50) (evCutCount_j (by decide) evCutCount_c51 evCutCount_c52))) (evCutCount_j (by decide) (evCutCount_j (by decide) (evCutCount_j (by decide) evCutCount_c53 evCutCount_c54) (evCutCount_j (by decide) evCutCount_c55 evCutCount_c56)) (evCutCount_j (by decide) (evCutCount_j (by decide) evCutCount_c57 evCutCount_c58) evCutCount_c59))) (evCutCount_j (by decide) (evCutCount_j (by decide) (evCutCount_j (by decide) (evCutCount_j (by decide) evCutCount_c60 evCutCount_c61) (evCutCount_j (by decide) evCutCount_c62 evCutCount_c63)) (evCutCount_j (by decide) (evCutCount_j (by decide) evCutCount_c64 evCutCount_c65) evCutCount_c66)) (evCutCount_j (by decide) (evCutCount_j (by decide) (evCutCount_j (by decide) evCutCount_c67 evCutCount_c68) evCutCount_c69) evCutCount_c70))))))
end
end Go.AI.T
