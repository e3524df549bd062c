/- The law FnLevelsPlace is true whatever the code. -/
import Derived.Test.YtfafaadfnhhfhaaFnLevelsPlaceEv
namespace Go.AI.T
open Go Go.RowKit Go.AI
set_option linter.unusedVariables false
set_option linter.unusedSimpArgs false
set_option maxRecDepth 100000
noncomputable section
theorem law_FnLevelsPlace : CodeLaw (c_laws_FnLevelsPlace 2097152 20) := by
  intro a0 n L B ha hB hb
  have hlen : ∀ (h : H) (k : AV → H → Option R), aLenK 1 a0 h k = k (nI n) h := fun h k => by rcases ha with ⟨rfl, rfl⟩ | rfl <;> rfl
  apply tells_some
  delta c_laws_FnLevelsPlace
  by_cases h20 : 1048576 < n
  · rw [hlen, gtrN, withBool_bool, ble_true (show Nat.succ 1048576 ≤ n from h20), bc_true]; rfl
  · rw [hlen, gtrN, withBool_bool, ble_false (show n < Nat.succ 1048576 by omega), bc_false]
    obtain ⟨l, hl, e⟩ := draw_FnLevelsPlace 2097152 20 ha hB hb
    rw [e, bindR_some']
    cases ht : isTree l with
    | false => exact bad_FnLevelsPlace B 2097147 20 (lenL_eq l) (by omega) ht
    | true =>
      have hm := isTree_mem ht
      obtain ⟨r, hr, he⟩ := List.mem_map.1 hm
      have h1 := allR_mem (ok_FnLevelsPlace B) 17 1 1 (fun l => 40 :: l) (evFnLevelsPlace_all B) r hr
      rw [show (40 :: r) = _ from he] at h1
      unfold ok_FnLevelsPlace at h1
      rw [lenL_eq, ble_true (hl.2 ht), bc_true] at h1
      exact h1
end
end Go.AI.T
