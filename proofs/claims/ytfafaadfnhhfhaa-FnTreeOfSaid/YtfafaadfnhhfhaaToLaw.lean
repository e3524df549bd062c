/- The law FnTreeOf is true whatever the code. -/
import Derived.Test.YtfafaadfnhhfhaaToLaw1
namespace Go.AI.T
open Go Go.RowKit Go.AI
set_option linter.unusedVariables false
set_option linter.unusedSimpArgs false
set_option maxRecDepth 100000
noncomputable section
theorem law_bad {B : Blk} {N g : Nat} {ks : List (List Nat)} (h3 : ks.length ≤ 3) (hg : ∀ k ∈ ks, Good k) (hb : ∃ j k, 0 ≤ j ∧ ks[j]? = some k ∧ isTree k = false) : tells (c_laws_FnTreeOf_r5 (N + 5) g (xOf 1 ks.length) (mem B (ks.map sv))) = true := by
  have ha : (mem B (ks.map sv)).get 1 = .cells 0 (ks.map sv) := get_push_eq rfl
  have hx : xOf 1 ks.length = .osl 1 0 ks.length 1 := by
    obtain ⟨j, k, _, hj, _⟩ := hb
    have := (List.getElem?_eq_some_iff.1 hj).1
    obtain ⟨n, hn⟩ : ∃ n, ks.length = n + 1 := ⟨ks.length - 1, by omega⟩
    rw [hn]; rfl
  have e1 : c_impl_TreeOf (N + 5) g (.osl 1 0 ks.length 1) (mem B (ks.map sv)) = some (noT, mem B (ks.map sv)) := by
    delta c_impl_TreeOf
    rw [leOsl]
    exact impl_bad hg ha (N + 5) 0 1 hb (by omega) (by omega) h3
  have e2 : c_spec_TreeOf (N + 5) g (.osl 1 0 ks.length 1) (mem B (ks.map sv)) = some (noT, mem B (ks.map sv)) := by
    delta c_spec_TreeOf
    exact spec_badL ha (N + 5) 0 hb (by omega) h3
  delta c_laws_FnTreeOf_r5
  rw [hx, e1, bindR_some', aExtract_0, aExtract_1, e2, bindR_some']
  rfl
theorem law_good {B : Blk} {ks : List (List Nat)} (h3 : ks.length ≤ 3) (hg : ∀ k ∈ ks, isTree k = true ∧ k.length ≤ 6) : tells (c_laws_FnTreeOf_r5 2097152 20 (xOf 1 ks.length) (mem B (ks.map sv))) = true := by
  match ks, h3, hg with
  | [], _, _ => exact law0 B
  | [a], _, hg =>
    have ha := hg a (by simp)
    have := all4_mem (law1 B) ha.1 ha.2
    simp only [svc_eq] at this
    exact this
  | [a, b], _, hg =>
    have ha := hg a (by simp)
    have hb := hg b (by simp)
    have := all4_mem (all4_mem (law2 B) ha.1 ha.2) hb.1 hb.2
    simp only [svc_eq] at this
    exact this
  | [a, b, c], _, hg =>
    have ha := hg a (by simp)
    have hb := hg b (by simp)
    have hc := hg c (by simp)
    have := all4_mem (all4_mem (all4_mem (law3 B) ha.1 ha.2) hb.1 hb.2) hc.1 hc.2
    simp only [svc_eq] at this
    exact this
  | _ :: _ :: _ :: _ :: _, h3, _ => simp at h3
theorem law_FnTreeOf : CodeLaw (c_laws_FnTreeOf 2097152 20) := by
  intro a0 n L B ha hB hb
  have hlen : ∀ (h : H) (k : AV → H → Option R), aLenK 1 a0 h k = k (nI n) h := fun h k => by rcases ha with ⟨rfl, rfl⟩ | rfl <;> rfl
  apply tells_some
  delta c_laws_FnTreeOf
  by_cases h20 : 1048576 < n
  · rw [hlen, gtrN, withBool_bool, ble_true (show Nat.succ 1048576 ≤ n from h20), bc_true]; rfl
  · rw [hlen, gtrN, withBool_bool, ble_false (show n < Nat.succ 1048576 by omega), bc_false]
    obtain ⟨ks, h3, hg, e⟩ := draw_of 2097152 20 ha hB hb
    rw [e, bindR_some']
    by_cases hbad : ∃ j k, 0 ≤ j ∧ ks[j]? = some k ∧ isTree k = false
    · exact law_bad (N := 2097147) h3 hg hbad
    · refine law_good h3 fun k hk => ?_
      obtain ⟨j, hj⟩ := List.mem_iff_getElem?.1 hk
      cases ht : isTree k with
      | true => exact ⟨rfl, (hg k hk).2 ht⟩
      | false => exact absurd ⟨j, k, Nat.zero_le _, hj, ht⟩ hbad
end
end Go.AI.T
