/- The parts of the evaluation together. -/
import Derived.Test.YthheobnfkfdocaaMiddleCentreEv0
import Derived.Test.YthheobnfkfdocaaMiddleCentreEv1
import Derived.Test.YthheobnfkfdocaaMiddleCentreEv2
namespace Go.AI.T
open Go Go.RowKit Go.AI
set_option linter.unusedVariables false
set_option linter.unusedSimpArgs false
set_option maxRecDepth 100000
noncomputable section
theorem evMiddleCentre_j {t : List Nat → Bool} {f d m : Nat} {p : List Nat → List Nat} (hm : m + 1 ≤ 9) (h1 : allR t f d m (fun l => p (41 :: l)) = true) (h2 : allR t f (d + 2) (m + 1) (fun l => p (40 :: l)) = true) : allR t (f + 1) (d + 1) m p = true := by
  show bc (allR t f d m (fun l => p (41 :: l))) (bc (Nat.ble (m + 1) 9) (allR t f (d + 2) (m + 1) (fun l => p (40 :: l))) true) false = true
  rw [h1, h2, Nat.ble_eq_true_of_le hm]; rfl
theorem evMiddleCentre_k {t : List Nat → Bool} {f d : Nat} {p : List Nat → List Nat} (h1 : allR t f d 9 (fun l => p (41 :: l)) = true) : allR t (f + 1) (d + 1) 9 p = true := by
  show bc (allR t f d 9 (fun l => p (41 :: l))) (bc (Nat.ble (9 + 1) 9) (allR t f (d + 2) (9 + 1) (fun l => p (40 :: l))) true) false = true
  rw [h1]; rfl
theorem evMiddleCentre_all : allR ok_MiddleCentre 17 1 1 (fun l => 40 :: l) = true := (evMiddleCentre_j (by decide) evMiddleCentre_c0 (evMiddleCentre_j (by decide) (evMiddleCentre_j (by decide) evMiddleCentre_c1 (evMiddleCentre_j (by decide) (evMiddleCentre_j (by decide) evMiddleCentre_c2 (evMiddleCentre_j (by decide) evMiddleCentre_c3 (evMiddleCentre_j (by decide) evMiddleCentre_c4 evMiddleCentre_c5))) (evMiddleCentre_j (by decide) (evMiddleCentre_j (by decide) evMiddleCentre_c6 (evMiddleCentre_j (by decide) evMiddleCentre_c7 evMiddleCentre_c8)) (evMiddleCentre_j (by decide) (evMiddleCentre_j (by decide) evMiddleCentre_c9 evMiddleCentre_c10) evMiddleCentre_c11)))) (evMiddleCentre_j (by decide) (evMiddleCentre_j (by decide) (evMiddleCentre_j (by decide) evMiddleCentre_c12 (evMiddleCentre_j (by decide) evMiddleCentre_c13 (evMiddleCentre_j (by decide) evMiddleCentre_c14 evMiddleCentre_c15))) (evMiddleCentre_j (by decide) (evMiddleCentre_j (by decide) evMiddleCentre_c16 (evMiddleCentre_j (by decide) evMiddleCentre_c17 evMiddleCentre_c18)) (evMiddleCentre_j (by decide) (evMiddleCentre_j (by decide) evMiddleCentre_c19 evMiddleCentre_c20) evMiddleCentre_c21))) (evMiddleCentre_j (by decide) (evMiddleCentre_j (by decide) (evMiddleCentre_j (by decide) evMiddleCentre_c22 (evMiddleCentre_j (by decide) evMiddleCentre_c23 evMiddleCentre_c24)) (evMiddleCentre_j (by decide) (evMiddleCentre_j (by decide) evMiddleCentre_c25 evMiddleCentre_c26) evMiddleCentre_c27)) (evMiddleCentre_j (by decide) (evMiddleCentre_j (by decide) (evMiddleCentre_j (by decide) evMiddleCentre_c28 evMiddleCentre_c29) evMiddleCentre_c30) (evMiddleCentre_j (by decide) evMiddleCentre_c31 evMiddleCentre_c32))))))
end
end Go.AI.T
