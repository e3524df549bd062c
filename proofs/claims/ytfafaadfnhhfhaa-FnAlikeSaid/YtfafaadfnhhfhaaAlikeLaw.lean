/- The law FnAlike is true whatever the code. -/
import Derived.Test.YtfafaadfnhhfhaaAlikeEv
namespace Go.AI.K
open Go Go.RowKit Go.AI Go.AI.O
set_option linter.unusedVariables false
set_option linter.unusedSimpArgs false
set_option maxRecDepth 100000
noncomputable section
theorem tab {l : List Nat} (ht : isTree l = true) (hl : l.length ≤ 14) : ∃ h1 h2 h3 h4,
    Go.AI.c_spec_l1Sorted 20000 20 (.str l l.length) H0 = some (.str (srt l) (srt l).length, h1) ∧
    Go.AI.T.c_impl_TreeSorted 20000 20 (.str l l.length) H0 = some (.one .tup (.cons (.str (srt l) (srt l).length) (.cons (.bool true) (.leaf .nil))), h2) ∧
    Go.AI.T.c_impl_TreeHeight 20000 20 (.str l l.length) H0 = some (.one .tup (.cons (.int 3 (.ofNat (hgt (srt l)))) (.cons (.bool true) (.leaf .nil))), h3) ∧
    Go.AI.T.c_impl_TreeLeaves 20000 20 (.str l l.length) H0 = some (.one .tup (.cons (.int 3 (.ofNat (lvs (srt l)))) (.cons (.bool true) (.leaf .nil))), h4) := by
  have hm := isTree_mem ht
  obtain ⟨r, hr, he⟩ := List.mem_map.1 hm
  have h1 := allR_mem okT 17 1 1 (fun l => 40 :: l) evAlike_all r hr
  rw [show (40 :: r) = _ from he] at h1
  unfold okT at h1
  rw [lenL_eq, ble_true hl, bc_true] at h1
  obtain ⟨x, m1, e1, k1⟩ := strR_eq h1
  obtain ⟨y, m2, e2, k2⟩ := okV_eq k1
  obtain ⟨y, rfl, k3⟩ := strA_eq k2
  obtain ⟨g1, k4⟩ := bc_and k3
  obtain rfl := eqL_to g1
  obtain ⟨a, m3, e3, k5⟩ := okV_eq k4
  obtain ⟨a, rfl, k6⟩ := natA_eq k5
  rw [lenL_eq] at k6
  obtain ⟨b, m4, e4, k7⟩ := okV_eq k6
  obtain ⟨b, rfl, k8⟩ := natA_eq k7
  obtain ⟨g2, k9⟩ := bc_and k8
  obtain rfl := Nat.eq_of_beq_eq_true g2
  obtain ⟨c, m5, e5, l1⟩ := okV_eq k9
  obtain ⟨c, rfl, l2⟩ := natA_eq l1
  obtain ⟨d, m6, e6, l3⟩ := okV_eq l2
  obtain ⟨d, rfl, l4⟩ := natA_eq l3
  obtain rfl := Nat.eq_of_beq_eq_true l4
  have hs : srt l = x := by unfold srt; rw [e1]; rfl
  have hh : hgt x = a := by unfold hgt; rw [e4]; rfl
  have hv : lvs x = c := by unfold lvs; rw [e6]; rfl
  rw [hs, hh, hv]
  exact ⟨m1, m2, m3, m5, e1, e2, e3, e5⟩
theorem specS (F g : Nat) {l : List Nat} (ht : isTree l = true) (hl : l.length ≤ 14) (h : H) : c_spec_l1Sorted F g (.str l l.length) h = some (.str (srt l) (srt l).length, h) := by
  obtain ⟨h1, h2, h3, h4, e1, _⟩ := tab ht hl
  show forgetC _ _ _ = _
  unfold forgetC
  rw [e1]; rfl
theorem implS (F g : Nat) {l : List Nat} (ht : isTree l = true) (hl : l.length ≤ 14) (h : H) : c_impl_TreeSorted F g (.str l l.length) h = some (.one .tup (.cons (.str (srt l) (srt l).length) (.cons (.bool true) (.leaf .nil))), h) := by
  obtain ⟨h1, h2, h3, h4, _, e2, _⟩ := tab ht hl
  show forgetC _ _ _ = _
  unfold forgetC
  rw [e2]; rfl
theorem implH (F g : Nat) {l : List Nat} (ht : isTree l = true) (hl : l.length ≤ 14) (h : H) : c_impl_TreeHeight F g (.str l l.length) h = some (.one .tup (.cons (.int 3 (.ofNat (hgt (srt l)))) (.cons (.bool true) (.leaf .nil))), h) := by
  obtain ⟨h1, h2, h3, h4, _, _, e3, _⟩ := tab ht hl
  show forgetC _ _ _ = _
  unfold forgetC
  rw [e3]; rfl
theorem implL (F g : Nat) {l : List Nat} (ht : isTree l = true) (hl : l.length ≤ 14) (h : H) : c_impl_TreeLeaves F g (.str l l.length) h = some (.one .tup (.cons (.int 3 (.ofNat (lvs (srt l)))) (.cons (.bool true) (.leaf .nil))), h) := by
  obtain ⟨h1, h2, h3, h4, _, _, _, e4⟩ := tab ht hl
  show forgetC _ _ _ = _
  unfold forgetC
  rw [e4]; rfl
theorem implS_bad (F g : Nat) {l : List Nat} (ht : isTree l = false) (hl : l.length ≤ 300) (h : H) : c_impl_TreeSorted F g (.str l l.length) h = some (.one .tup (.cons (.str [] 0) (.cons (.bool false) (.leaf .nil))), h) := by
  have e : Go.AI.T.c_impl_TreeSorted 20000 20 (.str l l.length) H0 = some (.one .tup (.cons (.str [] 0) (.cons (.bool false) (.leaf .nil))), H0) := by
    delta Go.AI.T.c_impl_TreeSorted
    rw [Go.AI.T.read_bad (lenL_eq l) (by omega) ht H0, bindR_some']; rfl
  show forgetC _ _ _ = _
  unfold forgetC
  rw [e]; rfl
/-- What both tell of two texts. -/
def like (s t : List Nat) : Bool := bc (isTree s) (bc (isTree t) (eqL (srt s) (srt t)) false) false
theorem like_comm (s t : List Nat) : like s t = like t s := by
  unfold like
  cases h1 : isTree s with
  | false =>
    cases h2 : isTree t with
    | false => rw [bc_false, bc_false]
    | true => rw [bc_false, bc_true, bc_false]
  | true =>
    cases h2 : isTree t with
    | false => rw [bc_true, bc_false, bc_false]
    | true => rw [bc_true, bc_true, bc_true, bc_true, eqL_comm]
theorem i2t (F g : Nat) (x y : List Nat) (n m : Nat) (h : H) : c_impl_TreeAlike_j2 F g [.str x n, .str y m, .bool true, .bool true] h = some (.bool (eqL x y), h) := rfl
theorem i2f (F g : Nat) (x y z : AV) (h : H) : c_impl_TreeAlike_j2 F g [x, y, .bool false, z] h = some (.bool false, h) := rfl
theorem i2ff (F g : Nat) (x y : AV) (h : H) : c_impl_TreeAlike_j2 F g [x, y, .bool true, .bool false] h = some (.bool false, h) := rfl
theorem impl_like (F g : Nat) {s t : List Nat} (hs : Ok7 s) (ht : Ok7 t) (h : H) : c_impl_TreeAlike F g (.str s s.length) (.str t t.length) h = some (.bool (like s t), h) := by
  unfold like
  delta c_impl_TreeAlike
  cases h1 : isTree s with
  | false =>
    cases h2 : isTree t with
    | false => rw [implS_bad F g h1 hs.1, bindR_some', aExtract_0, aExtract_1, implS_bad F g h2 ht.1, bindR_some', aExtract_0, aExtract_1, guardB_bool]; rfl
    | true => rw [implS_bad F g h1 hs.1, bindR_some', aExtract_0, aExtract_1, implS F g h2 (ht.2 h2), bindR_some', aExtract_0, aExtract_1, guardB_bool]; rfl
  | true =>
    cases h2 : isTree t with
    | false => rw [implS F g h1 (hs.2 h1), bindR_some', aExtract_0, aExtract_1, implS_bad F g h2 ht.1, bindR_some', aExtract_0, aExtract_1, guardB_bool]; rfl
    | true => rw [implS F g h1 (hs.2 h1), bindR_some', aExtract_0, aExtract_1, implS F g h2 (ht.2 h2), bindR_some', aExtract_0, aExtract_1, guardB_bool]; rfl
theorem good (F g : Nat) {l : List Nat} (ht : isTree l = true) (h : H) : c_spec_TreeIn F g (.str l l.length) h = some (.bool true, h) := Go.AI.T.spec_good (lenL_eq l) ht h
theorem bad (F g : Nat) {l : List Nat} (ht : isTree l = false) (h : H) : c_spec_TreeIn F g (.str l l.length) h = some (.bool false, h) := Go.AI.T.spec_bad (lenL_eq l) ht h
theorem spec_like (F g : Nat) {s t : List Nat} (hs : Ok7 s) (ht : Ok7 t) (h : H) : c_spec_TreeAlike F g (.str s s.length) (.str t t.length) h = some (.bool (like s t), h) := by
  unfold like
  delta c_spec_TreeAlike
  cases h1 : isTree s with
  | false => rw [bad F g h1, bindR_some', guardB_bool]; rfl
  | true =>
    cases h2 : isTree t with
    | false => rw [good F g h1, bindR_some', guardB_bool, show bc (bc true true (bnot true)) _ _ = _ from rfl, bad F g h2, bindR_some']; rfl
    | true =>
      rw [good F g h1, bindR_some', guardB_bool, show bc (bc true true (bnot true)) _ _ = _ from rfl, good F g h2, bindR_some']
      delta c_spec_TreeAlike_j2
      dsimp only [hd_cons, tl_cons]
      rw [aPick_bool, bc_true, guardB_bool, show bc (bc true true (bnot true)) _ _ = _ from rfl, specS F g h1 (hs.2 h1), bindR_some', specS F g h2 (ht.2 h2), bindR_some']
      rfl
theorem draw {a0 : AV} {n : Nat} {L : List AV} {B : Blk} (F g : Nat) (ha : (a0 = .leaf .nils ∧ n = 0) ∨ a0 = .osl 0 0 n 1) (hB : 0 < n → B = .cells 2 L) (hb : ∀ i, i < n → ∃ v, L[i]? = some (.int 4 (.ofNat v)) ∧ v < 256) :
    ∃ s t, Ok7 s ∧ Ok7 t ∧ c_spec_DrawTreeAlike F g a0 (hCode B) = some (pair s t, hCode B) := by
  obtain ⟨b, m, h1, e1, r1, _⟩ := open_ok (F := 20000) (g := 20) (h := hCode B) ha (fun hn => ⟨2, hB hn⟩) hb (Nat.le_refl _) (Nat.le_refl _)
  obtain ⟨s, t, h', hs, ht, e2, hlo⟩ := two_ok (F := 20000) (g := 20) r1 (by omega)
  refine ⟨s, t, hs, ht, quietC_ok (h' := h') ?_ rfl hlo⟩
  have e1 : Go.AI.O.c_spec_l6Open 20000 20 a0 (hCode B) = _ := e1
  show Go.AI.O.c_spec_DrawTreeAlike 20000 20 a0 (hCode B) = _
  delta Go.AI.O.c_spec_DrawTreeAlike
  rw [e1, bindR_some', e2, bindR_some']
  rfl
theorem j7f (F g : Nat) (x y : AV) (b : Bool) (z : AV) (h : H) : c_laws_FnAlike_j7 F g [x, y, .bool b, .bool b, .bool true, z] h = some (.bool true, h) := by cases b <;> rfl
theorem law_FnAlike : CodeLaw (c_laws_FnAlike 2097152 20) := by
  intro a0 n L B ha hB hb
  have hlen : ∀ (h : H) (k : AV → H → Option R), aLenK 1 a0 h k = k (nI n) h := fun h k => by rcases ha with ⟨rfl, rfl⟩ | rfl <;> rfl
  refine ⟨hCode B, ?_⟩
  delta c_laws_FnAlike
  by_cases h20 : 1048576 < n
  · rw [hlen, gtrN, withBool_bool, ble_true (show Nat.succ 1048576 ≤ n from h20), bc_true]
  · rw [hlen, gtrN, withBool_bool, ble_false (show n < Nat.succ 1048576 by omega), bc_false]
    obtain ⟨s, t, hs, ht, e⟩ := draw 2097152 20 ha hB hb
    rw [e, bindR_some']
    unfold pair
    rw [aExtract_0, aExtract_1, impl_like 2097152 20 hs ht, bindR_some', spec_like 2097152 20 hs ht, bindR_some']
    cases hl : like s t with
    | false => rfl
    | true =>
      have h1 : isTree s = true ∧ isTree t = true ∧ srt s = srt t := by
        unfold like at hl
        obtain ⟨h1, hl⟩ := bc_and hl
        obtain ⟨h2, hl⟩ := bc_and hl
        exact ⟨h1, h2, eqL_to hl⟩
      obtain ⟨h1, h2, h3⟩ := h1
      have hl' : like t s = true := by rw [like_comm]; exact hl
      show c_laws_FnAlike_j7 2097152 20 [.str s s.length, .str t t.length, .bool true, .bool true, .bool false, .bool false] (hCode B) = _
      delta c_laws_FnAlike_j7
      dsimp only [hd_cons, tl_cons]
      rw [aPick_bool, bc_false, withBool_bool, bc_false, implH 2097152 20 h1 (hs.2 h1), bindR_some', aExtract_0, aExtract_1, implH 2097152 20 h2 (ht.2 h2), bindR_some', aExtract_0, aExtract_1,
        implL 2097152 20 h1 (hs.2 h1), bindR_some', aExtract_0, aExtract_1, implL 2097152 20 h2 (ht.2 h2), bindR_some', aExtract_0, aExtract_1, h3]
      generalize hgt (srt t) = a
      generalize lvs (srt t) = c
      show c_laws_FnAlike_j4 2097152 20 [.str s s.length, .str t t.length, nI a, nI a, nI c, nI c, .bool true, .bool true] (hCode B) = _
      delta c_laws_FnAlike_j4
      dsimp only [hd_cons, tl_cons]
      rw [aPick_bool, bc_true, guardB_bool, show bc (bc true true (bnot true)) _ _ = _ from rfl, eqlN, Nat.beq_refl]
      delta c_laws_FnAlike_j3
      dsimp only [hd_cons, tl_cons]
      rw [aPick_bool, bc_true, guardB_bool, show bc (bc true true (bnot true)) _ _ = _ from rfl, eqlN, Nat.beq_refl]
      delta c_laws_FnAlike_j2
      dsimp only [hd_cons, tl_cons]
      rw [aPick_bool, bc_true, guardB_bool, show bc (bc true true (bnot true)) _ _ = _ from rfl, impl_like 2097152 20 ht hs, bindR_some', hl']
      rfl
end
end Go.AI.K
