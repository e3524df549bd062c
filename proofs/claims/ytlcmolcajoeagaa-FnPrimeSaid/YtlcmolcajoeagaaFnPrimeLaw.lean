/- The law FnPrime is true whatever the code. -/
import Derived.Test.YtlcmolcajoeagaaFnPrimeEv0
namespace Go.AI.T
open Go Go.RowKit Go.AI
set_option linter.unusedVariables false
set_option linter.unusedSimpArgs false
set_option maxRecDepth 100000
noncomputable section
theorem law_FnPrime : CodeLaw (c_laws_FnPrime 2097152 20) := by
  intro a0 n L B ha hB hb
  have hlen : ∀ (h : H) (k : AV → H → Option R), aLenK 1 a0 h k = k (nI n) h := fun h k => by rcases ha with ⟨rfl, rfl⟩ | rfl <;> rfl
  apply tells_some
  delta c_laws_FnPrime
  by_cases h20 : 1048576 < n
  · rw [hlen, gtrN, withBool_bool, ble_true (show Nat.succ 1048576 ≤ n from h20), bc_true]; rfl
  · rw [hlen, gtrN, withBool_bool, ble_false (show n < Nat.succ 1048576 by omega), bc_false]
    obtain ⟨v, hv, e⟩ := draw_FnPrime 2097152 20 ha hB hb
    rw [e, bindR_some']
    have h := allB_spec _ _ (evFnPrime_0 B) (v - 0) (by omega)
    rw [show 0 + (v - 0) = v by omega] at h; exact h
end
end Go.AI.T
