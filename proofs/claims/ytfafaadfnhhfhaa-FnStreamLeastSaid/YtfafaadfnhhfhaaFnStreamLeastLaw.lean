/- The law FnStreamLeast is true whatever the code. -/
import Derived.Test.YtfafaadfnhhfhaaFnStreamLeastEv0
import Derived.Test.YtfafaadfnhhfhaaFnStreamLeastEv1
import Derived.Test.YtfafaadfnhhfhaaFnStreamLeastEv2
import Derived.Test.YtfafaadfnhhfhaaFnStreamLeastEv3
namespace Go.AI.T
open Go Go.RowKit Go.AI
set_option linter.unusedVariables false
set_option linter.unusedSimpArgs false
set_option maxRecDepth 100000
noncomputable section
theorem law_FnStreamLeast : CodeLaw (c_laws_FnStreamLeast 2097152 20) := by
  intro a0 n L B ha hB hb
  have hlen : ∀ (h : H) (k : AV → H → Option R), aLenK 1 a0 h k = k (nI n) h := fun h k => by rcases ha with ⟨rfl, rfl⟩ | rfl <;> rfl
  apply tells_some
  delta c_laws_FnStreamLeast
  by_cases h20 : 1048576 < n
  · rw [hlen, gtrN, withBool_bool, ble_true (show Nat.succ 1048576 ≤ n from h20), bc_true]; rfl
  · rw [hlen, gtrN, withBool_bool, ble_false (show n < Nat.succ 1048576 by omega), bc_false]
    obtain ⟨v, hv, e⟩ := draw_FnStreamLeast 2097152 20 ha hB hb
    rw [e, bindR_some']
    have hc : v = 0 ∨ v = 1 ∨ v = 2 ∨ v = 3 ∨ v = 4 ∨ v = 5 ∨ v = 6 ∨ v = 7 ∨ v = 8 ∨ v = 9 ∨ v = 10 ∨ v = 11 := by omega
    rcases hc with rfl | rfl | rfl | rfl | rfl | rfl | rfl | rfl | rfl | rfl | rfl | rfl
    · exact evFnStreamLeast_0 B
    · exact evFnStreamLeast_1 B
    · exact evFnStreamLeast_2 B
    · exact evFnStreamLeast_3 B
    · exact evFnStreamLeast_4 B
    · exact evFnStreamLeast_5 B
    · exact evFnStreamLeast_6 B
    · exact evFnStreamLeast_7 B
    · exact evFnStreamLeast_8 B
    · exact evFnStreamLeast_9 B
    · exact evFnStreamLeast_10 B
    · exact evFnStreamLeast_11 B
end
end Go.AI.T
