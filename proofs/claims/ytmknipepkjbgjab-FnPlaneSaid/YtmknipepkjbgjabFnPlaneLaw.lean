/- The law FnPlane is true whatever the code. -/
import Derived.Test.YtmknipepkjbgjabFnPlaneEv0
import Derived.Test.YtmknipepkjbgjabFnPlaneEv1
import Derived.Test.YtmknipepkjbgjabFnPlaneEv2
import Derived.Test.YtmknipepkjbgjabFnPlaneEv3
namespace Go.AI.T
open Go Go.RowKit Go.AI
set_option linter.unusedVariables false
set_option linter.unusedSimpArgs false
set_option maxRecDepth 100000
noncomputable section
theorem law_FnPlane : CodeLaw (c_laws_FnPlane 2097152 20) := by
  intro a0 n L B ha hB hb
  have hlen : ∀ (h : H) (k : AV → H → Option R), aLenK 1 a0 h k = k (nI n) h := fun h k => by rcases ha with ⟨rfl, rfl⟩ | rfl <;> rfl
  apply tells_some
  delta c_laws_FnPlane
  by_cases h20 : 1048576 < n
  · rw [hlen, gtrN, withBool_bool, ble_true (show Nat.succ 1048576 ≤ n from h20), bc_true]; rfl
  · rw [hlen, gtrN, withBool_bool, ble_false (show n < Nat.succ 1048576 by omega), bc_false]
    obtain ⟨v, hv, e⟩ := draw_FnPlane 2097152 20 ha hB hb
    rw [e, bindR_some']
    have hc : v = 0 ∨ v = 1 ∨ v = 2 ∨ v = 3 ∨ v = 4 ∨ v = 5 ∨ v = 6 ∨ v = 7 ∨ v = 8 ∨ v = 9 ∨ v = 10 ∨ v = 11 ∨ v = 12 ∨ v = 13 := by omega
    rcases hc with rfl | rfl | rfl | rfl | rfl | rfl | rfl | rfl | rfl | rfl | rfl | rfl | rfl | rfl
    · exact evFnPlane_0 B
    · exact evFnPlane_1 B
    · exact evFnPlane_2 B
    · exact evFnPlane_3 B
    · exact evFnPlane_4 B
    · exact evFnPlane_5 B
    · exact evFnPlane_6 B
    · exact evFnPlane_7 B
    · exact evFnPlane_8 B
    · exact evFnPlane_9 B
    · exact evFnPlane_10 B
    · exact evFnPlane_11 B
    · exact evFnPlane_12 B
    · exact evFnPlane_13 B
end
end Go.AI.T
