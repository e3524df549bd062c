/- Drawn texts: their walk from depth 0 to depth 0. -/
import Derived.Test.YtfafaadfnhhfhaaDf
namespace Go.AI
open Go Go.RowKit
noncomputable section
set_option linter.unusedVariables false
set_option linter.unusedSimpArgs false
/-- The depth behind a text of brackets, from one on. -/
def go : List Nat → Nat → Option Nat
  | [], d => some d
  | c :: l, d => if c = 40 then go l (d + 1) else if c = 41 then (if d = 0 then none else go l (d - 1)) else none
theorem go_app : ∀ (x y : List Nat) (d : Nat), go (x ++ y) d = (go x d).bind (go y)
  | [], y, d => rfl
  | c :: x, y, d => by
    simp only [List.cons_append, go]
    split
    · exact go_app x y (d + 1)
    · split
      · split
        · rfl
        · exact go_app x y (d - 1)
      · rfl
def B (l : List Nat) (op : Nat) : Prop := go l 0 = some op
theorem B.opn {l : List Nat} {op : Nat} (h : B l op) : B (l ++ [40]) (op + 1) := by
  unfold B at h ⊢; rw [go_app, h]; rfl
theorem B.close {l : List Nat} {op : Nat} (h : B l op) (h1 : 1 ≤ op) : B (l ++ [41]) (op - 1) := by
  unfold B at h ⊢; rw [go_app, h]
  show go [41] op = _
  simp only [go]
  simp
  omega
section
variable {F g : Nat} {h : H} {x : AV} {D : Nat} {ds : List Nat}
theorem tree_inB (r : Row x D ds h) {i e : Nat} (hi : ds[i]? = some e) (kc : List AV → H → Option R) : ∀ (N op : Nat) (l : List Nat), op < N → l.length + op < 50000 → i < 20000 → cn 40 l = cn 41 l + op → B l op →
    ∃ l' op', op' ≤ op + 1 ∧ cn 40 l' = cn 41 l' + op' ∧ B l' op' ∧ l'.length + op' = l.length + op + 2 ∧ loopD N (c_spec_l3Tree_l1 F g kc) [x, .str l l.length, nI op, nI i] h = kc [x, .str l' l'.length, nI op', nI (i + 1)] h
  | 0, op, l, h0, _, _, _, _ => by omega
  | N + 1, op, l, hN, hl, h20, hcn, hB => by
    have hlt : i < ds.length := (List.getElem?_eq_some_iff.1 hi).1
    have e0 : ∀ op l, l.length + op < 50000 → loopD (N + 1) (c_spec_l3Tree_l1 F g kc) [x, .str l l.length, nI op, nI i] h =
        bc (Nat.ble (Nat.succ e) op) (aSAdd (.str l l.length) (.str [41] 1) h fun x18 h => aArith isub (nI op) (nI 1) h fun x19 h => loopD N (c_spec_l3Tree_l1 F g kc) [x, x18, x19, nI i] h)
          (aSAdd (.str l l.length) (.str [40] 1) h fun x20 h => aArith iadd (nI op) (nI 1) h fun x21 h => aArith iadd (nI i) (nI 1) h fun x22 h => kc [x, x20, x21, x22] h) := fun op l _ => by
      rw [loopD_succ]
      delta c_spec_l3Tree_l1
      dsimp only [hd_cons, tl_cons]
      rw [r.idx hlt, r.load hi, gtrN, withBool_bool]
    rw [e0 op l hl]
    by_cases ho : e < op
    · rw [ble_true (show Nat.succ e ≤ op from ho), bc_true, sadd1 _ _ (by omega), subN (by omega) (by omega)]
      obtain ⟨l', op', h1, h4, hB', h2, h3⟩ := tree_inB r hi kc N (op - 1) (l ++ [41]) (by omega) (by simp; omega) h20 (by simp only [cn_app, cn]; simp; omega) (hB.close (by omega))
      exact ⟨l', op', by omega, h4, hB', by simp at h2; omega, h3⟩
    · rw [ble_false (show op < Nat.succ e by omega), bc_false, sadd1 _ _ (by omega), addN (by omega), addN (by omega)]
      exact ⟨l ++ [40], op + 1, by omega, by simp only [cn_app, cn]; simp; omega, hB.opn, by simp; omega, rfl⟩

theorem tree_endB (h : H) : ∀ (N op : Nat) (l : List Nat), op < N → l.length + op < 50000 → cn 40 l = cn 41 l + op → B l op → ∃ l', l'.length = l.length + op ∧ cn 40 l' = cn 41 l' ∧ B l' 0 ∧ loopD N (c_spec_l3Tree_l2 F g) [.str l l.length, nI op] h = some (.str l' l'.length, h)
  | 0, op, l, h0, _, _, _ => by omega
  | N + 1, op, l, hN, hl, hcn, hB => by
    rw [loopD_succ]
    delta c_spec_l3Tree_l2
    dsimp only [hd_cons, tl_cons]
    rw [gtrN, withBool_bool]
    by_cases ho : 0 < op
    · rw [ble_true (show Nat.succ 0 ≤ op from ho), bc_true, sadd1 _ _ (by omega), subN (by omega) (by omega)]
      obtain ⟨l', h1, h4, hB', h2⟩ := tree_endB h N (op - 1) (l ++ [41]) (by omega) (by simp; omega) (by simp only [cn_app, cn]; simp; omega) (hB.close (by omega))
      exact ⟨l', by simp at h1; omega, h4, hB', h2⟩
    · rw [ble_false (show op < Nat.succ 0 by omega), bc_false]
      obtain rfl : op = 0 := by omega
      exact ⟨l, by omega, by omega, hB, rfl⟩

theorem tree_outB (r : Row x D ds h) (hF : 10000 < F) (hds : ds.length < 5000) : ∀ (N i op : Nat) (l : List Nat), i ≤ ds.length → ds.length - i < N → l.length + op = 2 * i → op ≤ i → cn 40 l = cn 41 l + op → B l op →
    ∃ l', l'.length = 2 * ds.length ∧ cn 40 l' = cn 41 l' ∧ B l' 0 ∧ loopD N (c_spec_l3Tree_l3 F g) [x, .str l l.length, nI op, nI i] h = some (.str l' l'.length, h)
  | 0, i, op, l, _, h0, _, _, _, _ => by omega
  | N + 1, i, op, l, hi, hN, hl, ho, hcn, hB => by
    rw [loopD_succ]
    delta c_spec_l3Tree_l3
    dsimp only [hd_cons, tl_cons]
    rw [r.len, lssN, withBool_bool]
    by_cases hid : i < ds.length
    · rw [ble_true (show Nat.succ i ≤ _ from hid), bc_true]
      obtain ⟨l', op', h1, h4, hB', h2, h3⟩ := tree_inB (F := F) (g := g) r (List.getElem?_eq_getElem hid) (loopD N (c_spec_l3Tree_l3 F g)) F op l (by omega) (by omega) (by omega) hcn hB
      have h3' : loopD F (c_spec_l3Tree_l1 F g (loopD N (c_spec_l3Tree_l3 F g))) [x, .str l l.length, nI op, nI i] h = _ := h3
      obtain ⟨l2, g1, g3, gB, g2⟩ := tree_outB r hF hds N (i + 1) op' l' (by omega) (by omega) (by omega) (by omega) h4 hB'
      refine ⟨l2, g1, g3, gB, ?_⟩
      rw [← g2]; exact h3'
    · rw [ble_false (show _ < Nat.succ i by omega), bc_false]
      obtain ⟨l', h1, h4, hB', h2⟩ := tree_endB (F := F) (g := g) h F op l (by omega) (by omega) hcn hB
      exact ⟨l', by omega, h4, hB', h2⟩

theorem l3Tree_okB (r : Row x D ds h) (hF : 10000 < F) (hds : ds.length < 5000) : ∃ l, l.length = 2 * ds.length ∧ cn 40 l = cn 41 l ∧ B l 0 ∧ c_spec_l3Tree F g x h = some (.str l l.length, h) :=
  tree_outB (F := F) (g := g) r hF hds F 0 0 [] (by omega) (by omega) rfl (Nat.le_refl _) rfl rfl
end
section
variable {F g : Nat} {b : AV} {m : Nat} {L : List AV} {Q p n : Nat} {h : H}
theorem nodes_loopB {n0 : Nat} (hF : 10000 < F) (hn : n ≤ 50) {kd : Nat} : ∀ (N : Nat) (ds : List Nat) (x : AV) (D p : Nat) (h : H), Rdr b m L Q p h → p + 2 * (n - ds.length) < 900000 → Row x D ds h → D ≠ Q → 1 ≤ D → n0 ≤ D → n0 ≤ h.n → 1 ≤ ds.length → ds.length ≤ max n 1 → n - ds.length < N →
    (∀ (j e : Nat), ds[j]? = some e → e ≤ j) →
    ∃ l p' h', (2 ≤ l.length ∧ l.length ≤ 2 * max n 1 ∧ cn 40 l = cn 41 l ∧ B l 0) ∧ p' ≤ p + 2 * (n - ds.length) ∧ loopD N (c_spec_l91Nodes_l2 F g) [.ptr Q 0, nI n, x, nI kd, nI ds.length] h = some (.str l l.length, h') ∧ Rdr b m L Q p' h' ∧ Fr n0 Q h h'
  | 0, _, _, _, _, _, _, _, _, _, _, _, _, _, _, h0, _ => by omega
  | N + 1, ds, x, D, p, h, r, hp, w, hDQ, hD, z1, z2, h1, hds, hN, hb => by
    rw [loopD_succ]
    by_cases hi : ds.length < n
    · obtain ⟨v, x', D', p', h', q1, q2, q3, q4, q5, q6, q7, q8, q9⟩ := nodes_stepF (n0 := n0) (F := F) (g := g) r (by omega) w hDQ hD h1 (by omega) z1 z2 hb (kd := kd) hi (loopD N (c_spec_l91Nodes_l2 F g))
      have hlen : (ds ++ [v]).length = ds.length + 1 := by simp
      obtain ⟨l, p2, h2, g1, g2, g3, g4, g5⟩ := nodes_loopB hF hn N (ds ++ [v]) x' D' p' h' q5 (by omega) q4 q6 q7 q8 (Nat.le_trans z2 q9.1) (by omega) (by omega) (by omega) fun j e hj => by
        by_cases hj' : j < ds.length
        · rw [List.getElem?_append_left hj'] at hj; exact hb j e hj
        · rw [List.getElem?_append_right (by omega)] at hj
          obtain rfl : j = ds.length := by
            have := (List.getElem?_eq_some_iff.1 hj).1
            simp at this; omega
          simp at hj; omega
      refine ⟨l, p2, h2, g1, by omega, ?_, g4, q9.trans g5⟩
      rw [q3, ← hlen]; exact g3
    · obtain ⟨l, h2, h4, hB, h3⟩ := l3Tree_okB (F := F) (g := g) w hF (by omega)
      refine ⟨l, p, h, ⟨by omega, by omega, h4, hB⟩, by omega, ?_, r, Nat.le_refl _, fun _ _ _ => rfl⟩
      delta c_spec_l91Nodes_l2
      dsimp only [hd_cons, tl_cons]
      rw [lssN, withBool_bool, ble_false (show n < Nat.succ ds.length by omega), bc_false, h3, bindR_some']

theorem nodes_okB (r : Rdr b m L Q p h) (hF : 10000 < F) (hn : n ≤ 50) (hp : p < 100000) : ∃ l p' h', (2 ≤ l.length ∧ l.length ≤ 2 * max n 1 ∧ cn 40 l = cn 41 l ∧ B l 0) ∧ p' ≤ p + 200 ∧ c_spec_l91Nodes F g (.ptr Q 0) (nI n) h = some (.str l l.length, h') ∧ Rdr b m L Q p' h' ∧ Fr h.n Q h h' := by
  have hq := r.lt
  have hq0 := r.q0
  have r1 : Rdr b m L Q p (h.push (.cells 0 [nI 0])) := r.later (get_push_lt (by omega)) (get_push_lt hq) (Nat.le_succ _) r.lo
  obtain ⟨v, h2, hv, e2, r2, n2, f2⟩ := r1.pick (F := F) (g := g) (n := 3) (by omega) (by omega)
  have hn2 : h2.n = h.n + 1 := n2
  have w : Row (.leaf (.sl h.n 0 1 1)) h.n [0] h2 := ⟨.inl ⟨rfl, rfl⟩, by rw [f2 _ (by omega)]; exact get_push_eq rfl, by omega⟩
  obtain ⟨l, p', h', g1, g2, g3, g4, g5⟩ := nodes_loopB (n0 := h.n) (F := F) (g := g) (n := n) hF hn (kd := v) F [0] _ h.n (p + 1) h2 r2 (by omega) w (by omega) (by omega) (Nat.le_refl _) (by omega) (by simp) (by simp; omega) (by simp; omega) fun j e hj => by
    cases j with
    | zero => simp at hj; omega
    | succ j => simp at hj
  refine ⟨l, p', h', g1, by omega, ?_, g4, Fr.trans ⟨by omega, fun c hc hq' => (f2 c hq').trans (get_push_lt hc)⟩ g5⟩
  delta c_spec_l91Nodes
  rw [show ∀ k : AV → H → Option R, aBuildSlice 1 1 [(0, 1, nI 0)] h k = k (.leaf (.sl h.n 0 1 1)) (h.push (.cells 0 [nI 0])) from fun k => rfl, e2, bindR_some']
  exact g3

end
end
end Go.AI
