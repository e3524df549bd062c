/- All lists of levels, counted. -/
import Derived.Test.YthoidonmlfibfabLcNext
import Derived.KernelRfl
namespace Go.AI.X
open Go Go.RowKit Go.AI
set_option linter.unusedVariables false
set_option linter.unusedSimpArgs false
set_option maxRecDepth 100000
noncomputable section

abbrev W : AV → H → Option R := Go.AI.W.c_impl_levels_next 100 20
/-- Is x the slice of the first k lists? -/
def Has (x : AV) (k : Nat) (h : H) (b : Nat) : Prop := (∃ a fa la, x = .osl a 0 k 1 ∧ h.get a = .cells fa la ∧ lenL la = k ∧ fa ≤ 1 ∧ a < h.n ∧ a ≠ b) ∨ (k = 0 ∧ ∃ a, x = .leaf (.sl a 0 0 0) ∧ a < h.n ∧ h.get a = .cells 0 [])
theorem step {x : AV} {k : Nat} {h : H} {b n : Nat} {l : List AV} {kc : AV → H → Option R} (hx : Has x k h b) (hb : h.get b = .cells 0 l) (hbn : b < h.n) (hk : k ≤ 1000000) :
    ∃ a h2, (aBuildSlice 1 1 [(0, 1, .osl b 0 n 1)] h fun x8 h => aAppend 1 24 x x8 h kc) = kc (.osl a 0 (k + 1) 1) h2 ∧ h2.get b = .cells 0 l ∧ b < h2.n ∧ ∃ fa la, h2.get a = .cells fa la ∧ lenL la = k + 1 ∧ fa ≤ 1 ∧ a < h2.n ∧ a ≠ b := by
  have e0 : (aBuildSlice 1 1 [(0, 1, .osl b 0 n 1)] h fun x8 h => aAppend 1 24 x x8 h kc) = aAppend 1 24 x (.leaf (.sl h.n 0 1 1)) (h.push (.cells 0 [.osl b 0 n 1])) kc := rfl
  rcases hx with ⟨a, fa, la, rfl, ha, hla, hfa, han, hab⟩ | ⟨rfl, a, rfl, han, ha⟩
  · refine ⟨_, _, e0.trans (app_osl (fa := fa) (la := la) (by rw [vr_push_lt han, ha]) (vr_push_n _ _) rfl hla hfa hk), ?_, ?_, fa, _, vr_push_n _ _, ?_, hfa, ?_, ?_⟩
    · rw [vr_dead_push (by simp only [H.n_push]; omega) (Ne.symm hab), vr_push_lt hbn, hb]
    · show b < h.n + 1 + 1; omega
    · rw [lenL_eq, appA_eq, List.length_append, ← lenL_eq, hla]; rfl
    · show h.n + 1 < h.n + 1 + 1; omega
    · show h.n + 1 ≠ b; omega
  · refine ⟨_, _, e0.trans (app_sl (by rw [vr_push_lt han, ha]) (vr_push_n _ _)), ?_, ?_, 0, _, vr_push_n _ _, rfl, by omega, ?_, ?_⟩
    · rw [vr_push_lt (by simp only [H.n_push]; omega), vr_push_lt hbn, hb]
    · show b < h.n + 1 + 1; omega
    · show h.n + 1 < h.n + 1 + 1; omega
    · show h.n + 1 ≠ b; omega
theorem loop_run {n : Nat} (F g : Nat) : ∀ (fuel : Nat) (l : List AV) (k c : Nat), cntO W n fuel l (k + 1) = some c → ∀ (x : AV) (h : H) (b : Nat), Has x k h b → h.get b = .cells 0 l → b < h.n → k + fuel ≤ 1000000 →
    ∃ a h', loopD (fuel + 1) (c_impl_allLevels_l1 F g) [x, .osl b 0 n 1, .bool true] h = some (.osl a 0 c 1, h')
  | 0, l, k, c, e, _, _, _, _, _, _, _ => by cases e
  | fuel + 1, l, k, c, e, x, h, b, hx, hb, hbn, hk => by
    have e : bc (Nat.ble (k + 1) 5000) (nextK W n l (some (k + 1)) fun l' => forceA l' fun l' => cntO W n fuel l' (k + 1 + 1)) none = some c := e
    obtain ⟨_, e⟩ := bif_some e
    rw [loopD_succ]
    obtain ⟨a, h2, s1, s2, s3, fa, la, s4, s5, s6, s7, s8⟩ := step (kc := fun x9 h => bindR (Go.AI.T.c_impl_levels_next F g (.osl b 0 n 1) h) fun x10 h => aExtract x10 0 h fun x11 h => aExtract x10 1 h fun x12 h => loopD (fuel + 1) (c_impl_allLevels_l1 F g) [x9, x11, x12] h) (n := n) hx hb hbn (by omega)
    have key : c_impl_allLevels_l1 F g [x, .osl b 0 n 1, .bool true] h (loopD (fuel + 1) (c_impl_allLevels_l1 F g)) = _ := s1
    rw [key]
    rcases nextK_some e with ⟨e1, e2⟩ | ⟨l', e1, e2⟩
    · cases e1
      rw [show Go.AI.T.c_impl_levels_next F g (.osl b 0 n 1) h2 = _ from e2 h2 b s2]
      exact ⟨a, h2, rfl⟩
    · rw [show Go.AI.T.c_impl_levels_next F g (.osl b 0 n 1) h2 = _ from e2 h2 b s2]
      exact loop_run F g fuel l' (k + 1) c (forceA_some _ e1) (.osl a 0 (k + 1) 1) (h2.push (.cells 0 l')) h2.n (.inl ⟨a, fa, la, rfl, by rw [vr_push_lt s7, s4], s5, s6, by rw [H.n_push]; omega, by omega⟩) (vr_push_n _ _) (by rw [H.n_push]; omega) (by omega)
theorem cnt1 : cntO W 1 4990 [.int 3 (.ofNat 0)] 1 = some 1 := by kernel_rfl
theorem cnt2 : cntO W 2 4990 [.int 3 (.ofNat 0), .int 3 (.ofNat 1)] 1 = some 1 := by kernel_rfl
theorem cnt3 : cntO W 3 4990 [.int 3 (.ofNat 0), .int 3 (.ofNat 1), .int 3 (.ofNat 2)] 1 = some 2 := by kernel_rfl
theorem cnt4 : cntO W 4 4990 [.int 3 (.ofNat 0), .int 3 (.ofNat 1), .int 3 (.ofNat 2), .int 3 (.ofNat 3)] 1 = some 4 := by kernel_rfl
theorem cnt5 : cntO W 5 4990 [.int 3 (.ofNat 0), .int 3 (.ofNat 1), .int 3 (.ofNat 2), .int 3 (.ofNat 3), .int 3 (.ofNat 4)] 1 = some 9 := by kernel_rfl
theorem cnt6 : cntO W 6 4990 [.int 3 (.ofNat 0), .int 3 (.ofNat 1), .int 3 (.ofNat 2), .int 3 (.ofNat 3), .int 3 (.ofNat 4), .int 3 (.ofNat 5)] 1 = some 20 := by kernel_rfl
theorem cnt7 : cntO W 7 4990 [.int 3 (.ofNat 0), .int 3 (.ofNat 1), .int 3 (.ofNat 2), .int 3 (.ofNat 3), .int 3 (.ofNat 4), .int 3 (.ofNat 5), .int 3 (.ofNat 6)] 1 = some 48 := by kernel_rfl
theorem cnt8 : cntO W 8 4990 [.int 3 (.ofNat 0), .int 3 (.ofNat 1), .int 3 (.ofNat 2), .int 3 (.ofNat 3), .int 3 (.ofNat 4), .int 3 (.ofNat 5), .int 3 (.ofNat 6), .int 3 (.ofNat 7)] 1 = some 115 := by kernel_rfl
theorem cnt9 : cntO W 9 4990 [.int 3 (.ofNat 0), .int 3 (.ofNat 1), .int 3 (.ofNat 2), .int 3 (.ofNat 3), .int 3 (.ofNat 4), .int 3 (.ofNat 5), .int 3 (.ofNat 6), .int 3 (.ofNat 7), .int 3 (.ofNat 8)] 1 = some 286 := by kernel_rfl
theorem cnt10 : cntO W 10 4990 [.int 3 (.ofNat 0), .int 3 (.ofNat 1), .int 3 (.ofNat 2), .int 3 (.ofNat 3), .int 3 (.ofNat 4), .int 3 (.ofNat 5), .int 3 (.ofNat 6), .int 3 (.ofNat 7), .int 3 (.ofNat 8), .int 3 (.ofNat 9)] 1 = some 719 := by kernel_rfl
theorem cnt11 : cntO W 11 4990 [.int 3 (.ofNat 0), .int 3 (.ofNat 1), .int 3 (.ofNat 2), .int 3 (.ofNat 3), .int 3 (.ofNat 4), .int 3 (.ofNat 5), .int 3 (.ofNat 6), .int 3 (.ofNat 7), .int 3 (.ofNat 8), .int 3 (.ofNat 9), .int 3 (.ofNat 10)] 1 = some 1842 := by kernel_rfl
theorem cnt12 : cntO W 12 4990 [.int 3 (.ofNat 0), .int 3 (.ofNat 1), .int 3 (.ofNat 2), .int 3 (.ofNat 3), .int 3 (.ofNat 4), .int 3 (.ofNat 5), .int 3 (.ofNat 6), .int 3 (.ofNat 7), .int 3 (.ofNat 8), .int 3 (.ofNat 9), .int 3 (.ofNat 10), .int 3 (.ofNat 11)] 1 = some 4766 := by kernel_rfl
end
end Go.AI.X
