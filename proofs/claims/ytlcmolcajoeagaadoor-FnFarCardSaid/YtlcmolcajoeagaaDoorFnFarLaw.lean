/- The law FnFar is true whatever the code. -/
import Derived.Test.YtlcmolcajoeagaaDoorFnFarEv
namespace Go.AI.T
open Go Go.RowKit Go.AI
set_option linter.unusedVariables false
set_option linter.unusedSimpArgs false
set_option maxRecDepth 100000
noncomputable section
theorem law_FnFar : CodeLaw (c_laws_FnFar 2097152 20) := by
  intro a0 n L B ha hB hb
  have hlen : ∀ (h : H) (k : AV → H → Option R), aLenK 1 a0 h k = k (nI n) h := fun h k => by rcases ha with ⟨rfl, rfl⟩ | rfl <;> rfl
  apply tells_some
  delta c_laws_FnFar
  by_cases h20 : 1048576 < n
  · rw [hlen, gtrN, withBool_bool, ble_true (show Nat.succ 1048576 ≤ n from h20), bc_true]; rfl
  · rw [hlen, gtrN, withBool_bool, ble_false (show n < Nat.succ 1048576 by omega), bc_false]
    obtain ⟨l, z, hl, hz, e⟩ := draw_FnFar 2097152 20 ha hB hb
    rw [e, bindR_some']
    cases ht : isTree l with
    | false => exact bad_FnFar B 2097147 20 z (lenL_eq l) (by omega) ht
    | true =>
      have hm := isTree_mem ht
      obtain ⟨r, hr, he⟩ := List.mem_map.1 hm
      have h1 := allR_mem (ok_FnFar B) 17 1 1 (fun l => 40 :: l) (evFnFar_all B) r hr
      rw [show (40 :: r) = _ from he] at h1
      have h2 := ok_FnFar_one h1 (hl.2 ht) hz
      unfold one_FnFar at h2
      rw [lenL_eq] at h2
      exact h2
end
end Go.AI.T
