/- The law FnCodeNodes is true whatever the code. -/
import Derived.Test.YthoidonmlfibfabFnCodeNodesEv0
import Derived.Test.YthoidonmlfibfabFnCodeNodesEv1
import Derived.Test.YthoidonmlfibfabFnCodeNodesEv2
import Derived.Test.YthoidonmlfibfabFnCodeNodesEv3
import Derived.Test.YthoidonmlfibfabFnCodeNodesEv4
import Derived.Test.YthoidonmlfibfabFnCodeNodesEv5
import Derived.Test.YthoidonmlfibfabFnCodeNodesEv6
import Derived.Test.YthoidonmlfibfabFnCodeNodesEv7
namespace Go.AI.T
open Go Go.RowKit Go.AI
set_option linter.unusedVariables false
set_option linter.unusedSimpArgs false
set_option maxRecDepth 100000
noncomputable section
theorem law_FnCodeNodes : CodeLaw (c_laws_FnCodeNodes 2097152 20) := by
  intro a0 n L B ha hB hb
  have hlen : ∀ (h : H) (k : AV → H → Option R), aLenK 1 a0 h k = k (nI n) h := fun h k => by rcases ha with ⟨rfl, rfl⟩ | rfl <;> rfl
  apply tells_some
  delta c_laws_FnCodeNodes
  by_cases h20 : 1048576 < n
  · rw [hlen, gtrN, withBool_bool, ble_true (show Nat.succ 1048576 ≤ n from h20), bc_true]; rfl
  · rw [hlen, gtrN, withBool_bool, ble_false (show n < Nat.succ 1048576 by omega), bc_false]
    obtain ⟨v, hv, e⟩ := draw_FnCodeNodes 2097152 20 ha hB hb
    rw [e, bindR_some']
    by_cases h0 : v < 324
    · have h := allB_spec _ _ (evFnCodeNodes_0 B) (v - 0) (by omega)
      rw [show 0 + (v - 0) = v by omega] at h; exact h
    by_cases h1 : v < 648
    · have h := allB_spec _ _ (evFnCodeNodes_1 B) (v - 324) (by omega)
      rw [show 324 + (v - 324) = v by omega] at h; exact h
    by_cases h2 : v < 972
    · have h := allB_spec _ _ (evFnCodeNodes_2 B) (v - 648) (by omega)
      rw [show 648 + (v - 648) = v by omega] at h; exact h
    by_cases h3 : v < 1296
    · have h := allB_spec _ _ (evFnCodeNodes_3 B) (v - 972) (by omega)
      rw [show 972 + (v - 972) = v by omega] at h; exact h
    by_cases h4 : v < 1620
    · have h := allB_spec _ _ (evFnCodeNodes_4 B) (v - 1296) (by omega)
      rw [show 1296 + (v - 1296) = v by omega] at h; exact h
    by_cases h5 : v < 1944
    · have h := allB_spec _ _ (evFnCodeNodes_5 B) (v - 1620) (by omega)
      rw [show 1620 + (v - 1620) = v by omega] at h; exact h
    by_cases h6 : v < 2268
    · have h := allB_spec _ _ (evFnCodeNodes_6 B) (v - 1944) (by omega)
      rw [show 1944 + (v - 1944) = v by omega] at h; exact h
    by_cases h7 : v < 2592
    · have h := allB_spec _ _ (evFnCodeNodes_7 B) (v - 2268) (by omega)
      rw [show 2268 + (v - 2268) = v by omega] at h; exact h
    by_cases h8 : v < 2916
    · have h := allB_spec _ _ (evFnCodeNodes_8 B) (v - 2592) (by omega)
      rw [show 2592 + (v - 2592) = v by omega] at h; exact h
    by_cases h9 : v < 3240
    · have h := allB_spec _ _ (evFnCodeNodes_9 B) (v - 2916) (by omega)
      rw [show 2916 + (v - 2916) = v by omega] at h; exact h
    by_cases h10 : v < 3564
    · have h := allB_spec _ _ (evFnCodeNodes_10 B) (v - 3240) (by omega)
      rw [show 3240 + (v - 3240) = v by omega] at h; exact h
    by_cases h11 : v < 3888
    · have h := allB_spec _ _ (evFnCodeNodes_11 B) (v - 3564) (by omega)
      rw [show 3564 + (v - 3564) = v by omega] at h; exact h
    by_cases h12 : v < 4212
    · have h := allB_spec _ _ (evFnCodeNodes_12 B) (v - 3888) (by omega)
      rw [show 3888 + (v - 3888) = v by omega] at h; exact h
    by_cases h13 : v < 4536
    · have h := allB_spec _ _ (evFnCodeNodes_13 B) (v - 4212) (by omega)
      rw [show 4212 + (v - 4212) = v by omega] at h; exact h
    by_cases h14 : v < 4860
    · have h := allB_spec _ _ (evFnCodeNodes_14 B) (v - 4536) (by omega)
      rw [show 4536 + (v - 4536) = v by omega] at h; exact h
    have h := allB_spec _ _ (evFnCodeNodes_15 B) (v - 4860) (by omega)
    rw [show 4860 + (v - 4860) = v by omega] at h; exact h
end
end Go.AI.T
