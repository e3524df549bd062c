/- The parts of the evaluation together. -/
import Derived.Test.YthheobnfkfdocaaGreatDoorFnPiecesEv0
import Derived.Test.YthheobnfkfdocaaGreatDoorFnPiecesEv1
import Derived.Test.YthheobnfkfdocaaGreatDoorFnPiecesEv2
import Derived.Test.YthheobnfkfdocaaGreatDoorFnPiecesEv3
import Derived.Test.YthheobnfkfdocaaGreatDoorFnPiecesEv4
import Derived.Test.YthheobnfkfdocaaGreatDoorFnPiecesEv5
import Derived.Test.YthheobnfkfdocaaGreatDoorFnPiecesEv6
import Derived.Test.YthheobnfkfdocaaGreatDoorFnPiecesEv7
namespace Go.AI.T
open Go Go.RowKit Go.AI
set_option linter.unusedVariables false
set_option linter.unusedSimpArgs false
set_option maxRecDepth 100000
noncomputable section
theorem evFnPieces_j {t : List Nat → Bool} {f d m : Nat} {p : List Nat → List Nat} (hm : m + 1 ≤ 9) (h1 : allR t f d m (fun l => p (41 :: l)) = true) (h2 : allR t f (d + 2) (m + 1) (fun l => p (40 :: l)) = true) : allR t (f + 1) (d + 1) m p = true := by
  show bc (allR t f d m (fun l => p (41 :: l))) (bc (Nat.ble (m + 1) 9) (allR t f (d + 2) (m + 1) (fun l => p (40 :: l))) true) false = true
  rw [h1, h2, Nat.ble_eq_true_of_le hm]; rfl
theorem evFnPieces_k {t : List Nat → Bool} {f d : Nat} {p : List Nat → List Nat} (h1 : allR t f d 9 (fun l => p (41 :: l)) = true) : allR t (f + 1) (d + 1) 9 p = true := by
  show bc (allR t f d 9 (fun l => p (41 :: l))) (bc (Nat.ble (9 + 1) 9) (allR t f (d + 2) (9 + 1) (fun l => p (40 :: l))) true) false = true
  rw [h1]; rfl
theorem evFnPieces_all (B : Blk) : allR (ok_FnPieces B) 17 1 1 (fun l => 40 :: l) = true := (evFnPieces_j (by decide) (evFnPieces_c0 B) (evFnPieces_j (by decide) (evFnPieces_j (by decide) (evFnPieces_c1 B) (evFnPieces_j (by decide) (evFnPieces_j (by decide) (evFnPieces_c2 B) (evFnPieces_j (by decide) (evFnPieces_j (by decide) (evFnPieces_c3 B) (evFnPieces_j (by decide) (evFnPieces_c4 B) (evFnPieces_c5 B))) (evFnPieces_j (by decide) (evFnPieces_j (by decide) (evFnPieces_c6 B) (evFnPieces_c7 B)) (evFnPieces_j (by decide) (evFnPieces_c8 B) (evFnPieces_c9 B))))) (evFnPieces_j (by decide) (evFnPieces_j (by decide) (evFnPieces_j (by decide) (evFnPieces_c10 B) (evFnPieces_j (by decide) (evFnPieces_c11 B) (evFnPieces_c12 B))) (evFnPieces_j (by decide) (evFnPieces_j (by decide) (evFnPieces_c13 B) (evFnPieces_c14 B)) (evFnPieces_j (by decide) (evFnPieces_c15 B) (evFnPieces_c16 B)))) (evFnPieces_j (by decide) (evFnPieces_j (by decide) (evFnPieces_j (by decide) (evFnPieces_c17 B) (evFnPieces_c18 B)) (evFnPieces_j (by decide) (evFnPieces_c19 B) (evFnPieces_c20 B))) (evFnPieces_j (by decide) (evFnPieces_j (by decide) (evFnPieces_c21 B) (evFnPieces_c22 B)) (evFnPieces_c23 B)))))) (evFnPieces_j (by decide) (evFnPieces_j (by decide) (evFnPieces_j (by decide) (evFnPieces_c24 B) (evFnPieces_j (by decide) (evFnPieces_j (by decide) (evFnPieces_c25 B) (evFnPieces_j (by decide) (evFnPieces_c26 B) (evFnPieces_c27 B))) (evFnPieces_j (by decide) (evFnPieces_j (by decide) (evFnPieces_c28 B) (evFnPieces_c29 B)) (evFnPieces_j (by decide) (evFnPieces_c30 B) (evFnPieces_c31 B))))) (evFnPieces_j (by decide) (evFnPieces_j (by decide) (evFnPieces_j (by decide) (evFnPieces_c32 B) (evFnPieces_j (by decide) (evFnPieces_c33 B) (evFnPieces_c34 B))) (evFnPieces_j (by decide) (evFnPieces_j (by decide) (evFnPieces_c35 B) (evFnPieces_c36 B)) (evFnPieces_j (by decide) (evFnPieces_c37 B) (evFnPieces_c38 B)))) (evFnPieces_j (by decide) (evFnPieces_j (by decide) (evFnPieces_j (by decide) (evFnPieces_c39 B) (evFnPieces_c40 B)) (evFnPieces_j (by decide) (evFnPieces_c41 B) (evFnPieces_c42 B))) (evFnPieces_j (by decide) (evFnPieces_j (by decide) (evFnPieces_c43 B) (evFnPieces_c44 B)) (evFnPieces_c45 B))))) (evFnPieces_j (by decide) (evFnPieces_j (by decide) (evFnPieces_j (by decide) (evFnPieces_j (by decide) (evFnPieces_c46 B) (evFnPieces_j (by decide) (evFnPieces_c47 B) (evFnPieces_c48 B))) (evFnPieces_j (by decide) (evFnPieces_j (by decide) (evFnPieces_c49 B) (evFnPieces_c50 B)) (evFnPieces_j (by decide) (evFnPieces_c51 B) (evFnPieces_c52 B)))) (evFnPieces_j (by decide) (evFnPieces_j (by decide) (evFnPieces_j (by decide) (evFnPieces_c53 B) (evFnPieces_c54 B)) (evFnPieces_j (by decide) (evFnPieces_c55 B) (evFnPieces_c56 B))) (evFnPieces_j (by decide) (evFnPieces_j (by decide) (evFnPieces_c57 B) (evFnPieces_c58 B)) (evFnPieces_c59 B)))) (evFnPieces_j (by decide) (evFnPieces_j (by decide) (evFnPieces_j (by decide) (evFnPieces_j (by decide) (evFnPieces_c60 B) (evFnPieces_c61 B)) (evFnPieces_j (by decide) (evFnPieces_c62 B) (evFnPieces_c63 B))) (evFnPieces_j (by decide) (evFnPieces_j (by decide) (evFnPieces_c64 B) (evFnPieces_c65 B)) (evFnPieces_c66 B))) (evFnPieces_j (by decide) (evFnPieces_j (by decide) (evFnPieces_j (by decide) (evFnPieces_c67 B) (evFnPieces_c68 B)) (evFnPieces_c69 B)) (evFnPieces_c70 B)))))))
end
end Go.AI.T
