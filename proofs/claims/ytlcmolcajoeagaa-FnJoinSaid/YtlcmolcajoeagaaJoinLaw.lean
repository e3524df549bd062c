/- The law FnJoin is true whatever the code. -/
import Derived.Test.YtlcmolcajoeagaaJoinEv
namespace Go.AI.T
open Go Go.RowKit Go.AI
set_option linter.unusedVariables false
set_option linter.unusedSimpArgs false
set_option maxRecDepth 100000
noncomputable section
theorem law_FnJoin : CodeLaw (c_laws_FnJoin 2097152 20) := by
  intro a0 n L B ha hB hb
  have hlen : ∀ (h : H) (k : AV → H → Option R), aLenK 1 a0 h k = k (nI n) h := fun h k => by rcases ha with ⟨rfl, rfl⟩ | rfl <;> rfl
  apply tells_some
  delta c_laws_FnJoin
  by_cases h20 : 1048576 < n
  · rw [hlen, gtrN, withBool_bool, ble_true (show Nat.succ 1048576 ≤ n from h20), bc_true]; rfl
  · rw [hlen, gtrN, withBool_bool, ble_false (show n < Nat.succ 1048576 by omega), bc_false]
    obtain ⟨s, t, hs, ht, e⟩ := draw_join 2097152 20 ha hB hb
    rw [e, bindR_some']
    by_cases hbad : isTree s = false ∨ isTree t = false
    · obtain ⟨h1, e1⟩ := join_bad hs ht hbad
      obtain ⟨h2, e2⟩ := sjoin_bad hbad
      have f1 : c_impl_CodeJoin 2097152 20 (.str s s.length) (.str t t.length) (hCode B) = some (noT, hCode B) := by
        show fgC2 _ _ _ _ = _
        unfold fgC2
        rw [e1]; rfl
      have f2 : c_spec_CodeJoin 2097152 20 (.str s s.length) (.str t t.length) (hCode B) = some (noT, hCode B) := by
        show fgC2 _ _ _ _ = _
        unfold fgC2
        rw [e2]; rfl
      delta c_laws_FnJoin_r12
      rw [aExtract_0, aExtract_1, f1, bindR_some', aExtract_0, aExtract_1, f2, bindR_some']
      rfl
    · have hs1 : isTree s = true := by cases h : isTree s with | true => rfl | false => exact absurd (.inl h) hbad
      have ht1 : isTree t = true := by cases h : isTree t with | true => rfl | false => exact absurd (.inr h) hbad
      obtain ⟨r1, hr1, he1⟩ := List.mem_map.1 (isTree_mem hs1)
      have k1 := allR_mem (okJs B) 17 1 1 (fun l => 40 :: l) (evJoin_all B) r1 hr1
      rw [show (40 :: r1) = _ from he1] at k1
      unfold okJs at k1
      rw [lenL_eq, ble_true (hs.2 hs1), bc_true] at k1
      obtain ⟨r2, hr2, he2⟩ := List.mem_map.1 (isTree_mem ht1)
      have k2 := allR_mem (okJ B s) 17 1 1 (fun l => 40 :: l) k1 r2 hr2
      rw [show (40 :: r2) = _ from he2] at k2
      unfold okJ at k2
      rw [lenL_eq, lenL_eq, ble_true (ht.2 ht1), bc_true] at k2
      exact k2
end
end Go.AI.T
