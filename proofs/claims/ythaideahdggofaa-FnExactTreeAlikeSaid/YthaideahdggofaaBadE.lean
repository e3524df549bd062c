/- What is no tree is told as none by both. -/
import Derived.Test.YthaideahdggofaaAiF
import Derived.Test.YthaideahdggofaaFnsE

namespace Go.AI
open Go Go.RowKit
noncomputable section
set_option linter.unusedVariables false
set_option linter.unusedSimpArgs false
set_option maxRecDepth 100000

/-- A node without its kids' cells. -/
def node3 (m : Int) (up K : AV) : Blk := .cells 0 [.int 3 m, up, K]

theorem add_nil {F g : Nat} {h : H} {b : Nat} {m z : Int} {up : AV} (hb : h.get b = node3 z up (.leaf .nils)) (hbn : b < h.n) :
    ∃ h4, c66 F g (.ptr b 0) (.int 3 m) h = some (.ptr h.n 0, h4) ∧ h4.n = h.n + 3 ∧ h4.get h.n = node3 m (.ptr b 0) (.leaf .nils) ∧
      h4.get b = node3 z up (.osl (h.n + 2) 0 1 1) ∧ h4.get (h.n + 2) = .cells 0 [.ptr h.n 0] ∧ ∀ c, c < h.n → c ≠ b → h4.get c = h.get c := by
  have e1 : c66 F g (.ptr b 0) (.int 3 m) h = (aLoad (.ptr b 2) (h.push (node3 m (.ptr b 0) (.leaf .nils))) fun x5 h1 => aBuildSlice 1 1 [(0, 1, .ptr h.n 0)] h1 fun x6 h2 =>
      aAppend 1 8 x5 x6 h2 fun x7 h3 => aStore (.ptr b 2) x7 h3 fun x10 h4 => some (.ptr h.n 0, h4)) := rfl
  rw [e1, load_at (by rw [get_push_lt hbn]; exact hb) rfl]
  generalize hh1 : h.push (node3 m (.ptr b 0) (.leaf .nils)) = h1
  have n1 : h1.n = h.n + 1 := by rw [← hh1]; rfl
  have e2 : ∀ k : AV → H → Option R, aBuildSlice 1 1 [(0, 1, .ptr h.n 0)] h1 k = k (.leaf (.sl h1.n 0 1 1)) (h1.push (.cells 0 [.ptr h.n 0])) := fun k => rfl
  rw [e2]
  generalize hh2 : h1.push (.cells 0 [.ptr h.n 0]) = h2
  have n2 : h2.n = h.n + 2 := by rw [← hh2]; show h1.n + 1 = _; omega
  have g2 : h2.get h1.n = .cells 0 [.ptr h.n 0] := by rw [← hh2]; exact get_push_eq rfl
  rw [app1_nil g2]
  generalize hh3 : h2.push (.cells 0 [.ptr h.n 0]) = h3
  have old : ∀ c, c < h.n → h3.get c = h.get c := fun c hc => by
    rw [← hh3, get_push_lt (by omega), ← hh2, get_push_lt (by omega), ← hh1, get_push_lt hc]
  rw [store_at (l := [.int 3 z, up, .leaf .nils]) (fl := 0) (by rw [old b hbn]; exact hb) (by omega) (by simp) rfl, n2]
  refine ⟨_, rfl, ?_, ?_, ?_, ?_, ?_⟩
  · show h3.n = _; rw [← hh3]; show h2.n + 1 = _; omega
  · rw [get_set_ne (by omega), ← hh3, get_push_lt (by omega), ← hh2, get_push_lt (by omega), ← hh1, get_push_eq rfl]
  · rw [get_set_eq]; rfl
  · rw [get_set_ne (by omega), ← hh3, get_push_eq (by omega)]
  · intro c hc hcb; rw [get_set_ne hcb, old c hc]

theorem add_osl {F g : Nat} {h : H} {b kb j : Nat} {m z : Int} {up : AV} {l : List AV} (hb : h.get b = node3 z up (.osl kb 0 j 1)) (hbn : b < h.n) (hk : h.get kb = .cells 0 l) (hkn : kb < h.n) (hkb : kb ≠ b) (hl : l.length = j) (hj : j < 1000) :
    ∃ h4, c66 F g (.ptr b 0) (.int 3 m) h = some (.ptr h.n 0, h4) ∧ h4.n = h.n + 3 ∧ h4.get h.n = node3 m (.ptr b 0) (.leaf .nils) ∧
      h4.get b = node3 z up (.osl (h.n + 2) 0 (j + 1) 1) ∧ h4.get (h.n + 2) = .cells 0 (l ++ [.ptr h.n 0]) ∧ ∀ c, c < h.n → c ≠ b → c ≠ kb → h4.get c = h.get c := by
  have e1 : c66 F g (.ptr b 0) (.int 3 m) h = (aLoad (.ptr b 2) (h.push (node3 m (.ptr b 0) (.leaf .nils))) fun x5 h1 => aBuildSlice 1 1 [(0, 1, .ptr h.n 0)] h1 fun x6 h2 =>
      aAppend 1 8 x5 x6 h2 fun x7 h3 => aStore (.ptr b 2) x7 h3 fun x10 h4 => some (.ptr h.n 0, h4)) := rfl
  rw [e1, load_at (by rw [get_push_lt hbn]; exact hb) rfl]
  generalize hh1 : h.push (node3 m (.ptr b 0) (.leaf .nils)) = h1
  have n1 : h1.n = h.n + 1 := by rw [← hh1]; rfl
  have e2 : ∀ k : AV → H → Option R, aBuildSlice 1 1 [(0, 1, .ptr h.n 0)] h1 k = k (.leaf (.sl h1.n 0 1 1)) (h1.push (.cells 0 [.ptr h.n 0])) := fun k => rfl
  rw [e2]
  generalize hh2 : h1.push (.cells 0 [.ptr h.n 0]) = h2
  have n2 : h2.n = h.n + 2 := by rw [← hh2]; show h1.n + 1 = _; omega
  have g2 : h2.get h1.n = .cells 0 [.ptr h.n 0] := by rw [← hh2]; exact get_push_eq rfl
  have g2k : h2.get kb = .cells 0 l := by rw [← hh2, get_push_lt (by omega), ← hh1, get_push_lt hkn]; exact hk
  rw [app1_osl g2 g2k hl hj (by omega) rfl]
  generalize hh3 : (h2.set kb .dead).push (.cells 0 (l ++ [.ptr h.n 0])) = h3
  have old : ∀ c, c < h.n → c ≠ kb → h3.get c = h.get c := fun c hc hck => by
    rw [← hh3, get_push_lt (by show c < h2.n; omega), get_set_ne hck, ← hh2, get_push_lt (by omega), ← hh1, get_push_lt hc]
  rw [store_at (l := [.int 3 z, up, .osl kb 0 j 1]) (fl := 0) (by rw [old b hbn (Ne.symm hkb)]; exact hb) (by omega) (by simp) rfl, n2]
  refine ⟨_, rfl, ?_, ?_, ?_, ?_, ?_⟩
  · show h3.n = _; rw [← hh3]; show h2.n + 1 = _; omega
  · rw [get_set_ne (by omega), ← hh3, get_push_lt (by show h.n < h2.n; omega), get_set_ne (by omega), ← hh2, get_push_lt (by omega), ← hh1, get_push_eq rfl]
  · rw [get_set_eq]; rfl
  · rw [get_set_ne (by omega), ← hh3, get_push_eq (by show _ = h2.n; omega)]
  · intro c hc hcb hck; rw [get_set_ne hcb, old c hc hck]

/-- The open nodes, from one up to the root: d of them; ks: their kids' blocks; M: no node has more kids. -/
def Chain (h : H) (M : Nat) : Nat → AV → Nat → List Nat → Prop
  | _, x, 0, ks => x = .leaf .nilp ∧ ks = []
  | B, x, d + 1, ks => ∃ b z up K ks', x = .ptr b 0 ∧ b < B ∧ b < h.n ∧ h.get b = node3 z up K ∧ Chain h M b up d ks' ∧
      ((K = .leaf .nils ∧ ks = ks') ∨ ∃ kb j l c o, K = .osl kb 0 j 1 ∧ h.get kb = .cells 0 (.ptr c o :: l) ∧ l.length + 1 = j ∧ j ≤ M ∧ kb < h.n ∧ kb ∉ ks' ∧ ks = kb :: ks')

theorem Chain.frame {h h' : H} {M M' : Nat} (hM : M ≤ M') (hn : h.n ≤ h'.n) : ∀ (d B : Nat) (x : AV) (ks : List Nat), Chain h M B x d ks → (∀ b z up K, b < B → b < h.n → h.get b = node3 z up K → h'.get b = h.get b) → (∀ k ∈ ks, k < h.n → h'.get k = h.get k) → Chain h' M' B x d ks
  | 0, B, x, ks, hc, _, _ => hc
  | d + 1, B, x, ks, ⟨b, z, up, K, ks', e1, e2, e3, e4, e5, e6⟩, hb, hk => by
    refine ⟨b, z, up, K, ks', e1, e2, by omega, by rw [hb b z up K e2 e3 e4]; exact e4, ?_, ?_⟩
    · refine Chain.frame hM hn d b up ks' e5 (fun b' z' up' K' h1 h2 h3 => hb b' z' up' K' (by omega) h2 h3) fun k hk' hkn => hk k ?_ hkn
      rcases e6 with ⟨_, rfl⟩ | ⟨kb, j, l, c, o, _, _, _, _, _, _, rfl⟩
      · exact hk'
      · exact List.mem_cons_of_mem _ hk'
    · rcases e6 with ⟨h1, h2⟩ | ⟨kb, j, l, c, o, h1, h2, h3, h4, h5, h6, h7⟩
      · exact .inl ⟨h1, h2⟩
      · exact .inr ⟨kb, j, l, c, o, h1, by rw [hk kb (by rw [h7]; exact List.mem_cons_self ..) h5]; exact h2, h3, by omega, by omega, h6, h7⟩

theorem Chain.kids {h : H} {M : Nat} : ∀ (d B : Nat) (x : AV) (ks : List Nat), Chain h M B x d ks → ∀ k ∈ ks, k < h.n ∧ ∃ c o l, h.get k = .cells 0 (.ptr c o :: l)
  | 0, B, x, ks, ⟨_, h2⟩, k, hk => by subst h2; cases hk
  | d + 1, B, x, ks, ⟨b, z, up, K, ks', e1, e2, e3, e4, e5, e6⟩, k, hk => by
    rcases e6 with ⟨_, rfl⟩ | ⟨kb, j, l, c, o, h1, h2, h3, h4, h5, h6, h7⟩
    · exact Chain.kids d b up _ e5 k hk
    · rw [h7] at hk
      rcases List.mem_cons.1 hk with rfl | hk
      · exact ⟨h5, c, o, l, h2⟩
      · exact Chain.kids d b up _ e5 k hk

/-- No node stands in a kids' block. -/
theorem node_ne {h : H} {b kb : Nat} {z : Int} {up K : AV} (h1 : h.get b = node3 z up K) (h2 : ∃ c o l, h.get kb = .cells 0 (.ptr c o :: l)) : kb ≠ b := fun e => by
  obtain ⟨c, o, l, h2⟩ := h2
  subst e; rw [h1] at h2; cases h2

/-- A child is added to the innermost open node. -/
theorem Chain.add {F g : Nat} {h : H} {M B d : Nat} {z : Int} {x : AV} {ks : List Nat} (hc : Chain h M B x (d + 1) ks) (hM : M < 900) : ∃ h4 ks4, c66 F g x (.int 3 z) h = some (.ptr h.n 0, h4) ∧ Chain h4 (M + 1) h4.n (.ptr h.n 0) (d + 2) ks4 := by
  have hkids := Chain.kids _ _ _ _ hc
  obtain ⟨b, z0, up, K, ks', rfl, e2, e3, e4, e5, e6⟩ := hc
  have hkids' := Chain.kids _ _ _ _ e5
  rcases e6 with ⟨rfl, rfl⟩ | ⟨kb, j, l, c, o, rfl, h2, h3, h4, h5, h6, h7⟩
  · obtain ⟨h4, r1, r2, r3, r4, r5, r6⟩ := add_nil (F := F) (g := g) (m := z) e4 e3
    refine ⟨h4, (h.n + 2) :: ks, r1, h.n, z, .ptr b 0, .leaf .nils, (h.n + 2) :: ks, rfl, by omega, by omega, r3, ⟨b, z0, up, _, ks, rfl, e3, by omega, r4, ?_, .inr ⟨h.n + 2, 1, [], h.n, 0, rfl, r5, rfl, by omega, by omega, ?_, rfl⟩⟩, .inl ⟨rfl, rfl⟩⟩
    · exact Chain.frame (by omega) (by omega) d b up ks e5 (fun b' z' up' K' h1 h2 h3 => r6 b' h2 (by omega)) fun k hk hkn => r6 k hkn (node_ne e4 (hkids' k hk).2)
    · intro hin; have := (hkids' _ hin).1; omega
  · obtain ⟨h4', r1, r2, r3, r4, r5, r6⟩ := add_osl (F := F) (g := g) (m := z) e4 e3 h2 h5 (node_ne e4 ⟨c, o, l, h2⟩) h3 (by omega)
    refine ⟨h4', (h.n + 2) :: ks', r1, h.n, z, .ptr b 0, .leaf .nils, (h.n + 2) :: ks', rfl, by omega, by omega, r3, ⟨b, z0, up, _, ks', rfl, e3, by omega, r4, ?_, .inr ⟨h.n + 2, j + 1, l ++ [.ptr h.n 0], c, o, rfl, by rw [r5]; rfl, by simp [h3], by omega, by omega, ?_, rfl⟩⟩, .inl ⟨rfl, rfl⟩⟩
    · exact Chain.frame (by omega) (by omega) d b up ks' e5 (fun b' z' up' K' h1 h2' h3 => r6 b' h2' (by omega) (Ne.symm (node_ne h3 ⟨c, o, l, h2⟩))) fun k hk hkn => r6 k hkn (node_ne e4 (hkids' k hk).2) (fun e => h6 (e ▸ hk))
    · intro hin; have := (hkids' _ hin).1; omega

end
end Go.AI

namespace Go.AI
open Go Go.RowKit
noncomputable section
set_option linter.unusedVariables false
set_option linter.unusedSimpArgs false
set_option maxRecDepth 100000

def noTree : AV := .one .tup (.cons (.leaf .nilp) (.cons (.bool false) (.leaf .nil)))

/-- Behind the loop: where something is left, there is no root, or a node is open, it is no tree. -/
theorem j3_bad {F g : Nat} {h : H} {l : List Nat} {n i : Nat} {root x : AV} (hr : root = .leaf .nilp ∨ ∃ r, root = .ptr r 0) (hx : x = .leaf .nilp ∨ ∃ b, x = .ptr b 0)
    (hbad : i < n ∨ root = .leaf .nilp ∨ x ≠ .leaf .nilp) : c47_j3 F g [.str l n, root, x, .int 3 (.ofNat i)] h = some (noTree, h) := by
  simp only [c47_j3, c47_j2, c47_j1, hd_cons, tl_cons, aLenK_str, aCmpI_int, kEq_self, bc_true, ilt_nat]
  by_cases hi : i < n
  · rw [ble_true hi]; rcases hr with rfl | ⟨r, rfl⟩ <;> rcases hx with rfl | ⟨b, rfl⟩ <;> rfl
  · rw [ble_false (by omega)]
    rcases hr with rfl | ⟨r, rfl⟩
    · rcases hx with rfl | ⟨b, rfl⟩ <;> rfl
    · rcases hx with rfl | ⟨b, rfl⟩
      · simp [hi] at hbad
      · rfl

theorem body_end {F g : Nat} {h : H} {l : List Nat} {n i m : Nat} {root x : AV} {kc : List AV → H → Option R} (hi : n ≤ i) :
    c47_l9 F g [.str l n, root, x, .int 3 (.ofNat m), .int 3 (.ofNat i)] h kc = c47_j3 F g [.str l n, root, x, .int 3 (.ofNat i)] h := by
  simp only [c47_l9, hd_cons, tl_cons, aLenK_str, aCmpI_int, kEq_self, bc_true, ilt_nat, ble_false (show n < Nat.succ i by omega), withBool_bool, bc_false]

/-- A closing bracket. -/
theorem body_close {F g : Nat} {h : H} {l : List Nat} {n i m b : Nat} {root up K : AV} {z : Int} {kc : List AV → H → Option R} (hi : i < n) (hc : nthN l i = some 41) (hb : h.get b = node3 z up K) (hin : i + 1 ≤ 9223372036854775807) :
    c47_l9 F g [.str l n, root, .ptr b 0, .int 3 (.ofNat m), .int 3 (.ofNat i)] h kc = kc [.str l n, root, up, .int 3 (.ofNat m), .int 3 (.ofNat (i + 1))] h := by
  have e : ∀ k : AV → H → Option R, aLoad (.ptr b (Nat.add 0 1)) h k = k up h := fun k => load_at hb rfl
  have e2 : ieq (Int.ofNat 41) (Int.ofNat 41) = true := rfl
  simp only [c47_l9, c47_j8, c47_j4, hd_cons, tl_cons, aLenK_str, aCmpI_int, kEq_self, bc_true, ilt_nat, ble_true (show Nat.succ i ≤ n by omega), withBool_bool, aIdxStr_at, hc, onSome_some', e2, guardB_bool, aEq_pp, aPick_bool, aNilCheck_ptr, aField_ptr, e, aArith_int, fwrap_add i 1 hin]

/-- The first opening bracket. -/
theorem body_root {F g : Nat} {h : H} {l : List Nat} {n i m : Nat} {kc : List AV → H → Option R} (hi : i < n) (hc : nthN l i = some 40) (hin : i + 1 ≤ 9223372036854775807) (hm : m + 1 ≤ 9223372036854775807) :
    c47_l9 F g [.str l n, .leaf .nilp, .leaf .nilp, .int 3 (.ofNat m), .int 3 (.ofNat i)] h kc = kc [.str l n, .ptr h.n 0, .ptr h.n 0, .int 3 (.ofNat (m + 1)), .int 3 (.ofNat (i + 1))] (h.push (node3 (.ofNat 0) (.leaf .nilp) (.leaf .nils))) := by
  have e1 : ieq (Int.ofNat 40) (Int.ofNat 41) = false := rfl
  have e2 : ieq (Int.ofNat 40) (Int.ofNat 40) = true := rfl
  have e3 : ∀ k : AV → H → Option R, (aBuild [.int 3 (.ofNat 0), .leaf .nilp, .leaf .nils] [] h fun x59 h => aBox x59 h k) = k (.ptr h.n 0) (h.push (node3 (.ofNat 0) (.leaf .nilp) (.leaf .nils))) := fun k => rfl
  simp only [c47_l9, c47_j8, c47_j7, c47_j4, hd_cons, tl_cons, aLenK_str, aCmpI_int, kEq_self, bc_true, bc_false, ilt_nat, ble_true (show Nat.succ i ≤ n by omega), withBool_bool, aIdxStr_at, hc, onSome_some', e1, e2, guardB_bool, (show bnot true = false from rfl), aEq_en, aPick_bool, e3, aArith_int, fwrap_add i 1 hin, fwrap_add m 1 hm]

theorem body_add {F g : Nat} {h h' : H} {l : List Nat} {n i m b r c : Nat} {kc : List AV → H → Option R} (hi : i < n) (hc : nthN l i = some 40) (hm : m < 9) (hin : i + 1 ≤ 9223372036854775807)
    (ha : c66 F g (.ptr b 0) (.int 3 (.ofNat m)) h = some (.ptr c 0, h')) :
    c47_l9 F g [.str l n, .ptr r 0, .ptr b 0, .int 3 (.ofNat m), .int 3 (.ofNat i)] h kc = kc [.str l n, .ptr r 0, .ptr c 0, .int 3 (.ofNat (m + 1)), .int 3 (.ofNat (i + 1))] h' := by
  have e1 : ieq (Int.ofNat 40) (Int.ofNat 41) = false := rfl
  have e2 : ieq (Int.ofNat 40) (Int.ofNat 40) = true := rfl
  simp only [c47_l9, c47_j8, c47_j7, c47_j6, c47_j5, c47_j4, hd_cons, tl_cons, aLenK_str, aCmpI_int, kEq_self, bc_true, bc_false, ilt_nat, ble_true (show Nat.succ i ≤ n by omega), withBool_bool, aIdxStr_at, hc, onSome_some', e1, e2, guardB_bool, (show bnot true = false from rfl), aEq_pp, aEq_ep, aPick_bool,
    ble_true (show Nat.succ m ≤ 9 by omega), ha, bindR_some', aArith_int, fwrap_add i 1 hin, fwrap_add m 1 (show m + 1 ≤ 9223372036854775807 by omega)]

/-- A byte that has no place. -/
theorem body_bad {F g : Nat} {h : H} {l : List Nat} {n i m c : Nat} {root x : AV} {kc : List AV → H → Option R} (hi : i < n) (hc : nthN l i = some c)
    (hbad : (root = .leaf .nilp ∧ x = .leaf .nilp ∧ c ≠ 40) ∨ (∃ r, root = .ptr r 0 ∧ x = .leaf .nilp) ∨ (∃ r b, root = .ptr r 0 ∧ x = .ptr b 0 ∧ c ≠ 41 ∧ (c ≠ 40 ∨ 9 ≤ m))) :
    c47_l9 F g [.str l n, root, x, .int 3 (.ofNat m), .int 3 (.ofNat i)] h kc = c47_j3 F g [.str l n, root, x, .int 3 (.ofNat i)] h := by
  simp only [c47_l9, c47_j8, c47_j7, c47_j6, c47_j5, c47_j4, hd_cons, tl_cons, aLenK_str, aCmpI_int, kEq_self, bc_true, bc_false, ilt_nat, ble_true (show Nat.succ i ≤ n by omega), withBool_bool, aIdxStr_at, hc, onSome_some', ieq_nat]
  rcases hbad with ⟨rfl, rfl, h40⟩ | ⟨r, rfl, rfl⟩ | ⟨r, b, rfl, rfl, h41, h40⟩
  · have e40 : Nat.beq c 40 = false := by rw [beq_decide, decide_eq_false_iff_not]; exact h40
    simp only [e40]
    cases Nat.beq c 41 <;> rfl
  · cases Nat.beq c 41 <;> cases Nat.beq c 40 <;> rfl
  · have e41 : Nat.beq c 41 = false := by rw [beq_decide, decide_eq_false_iff_not]; exact h41
    simp only [e41]
    by_cases hc40 : c = 40
    · subst hc40
      have hm : 9 ≤ m := h40.elim (fun h => absurd rfl h) id
      have e9 : Nat.ble (Nat.succ m) 9 = false := ble_false (by omega)
      have e40 : Nat.beq 40 40 = true := rfl
      simp only [e40, guardB_bool, guardB_tup, aPick_bool, aEq_ep, aEq_pp, bc_true, bc_false, bnot, withBool_bool, e9]
    · have e40 : Nat.beq c 40 = false := by rw [beq_decide, decide_eq_false_iff_not]; exact hc40
      simp only [e40]; rfl

theorem drop_nth : ∀ (l : List Nat) (i c : Nat) (r : List Nat), l.drop i = c :: r → nthN l i = some c ∧ l.drop (i + 1) = r ∧ i < l.length
  | [], i, c, r, h => by simp at h
  | a :: l, 0, c, r, h => by simp at h; obtain ⟨rfl, rfl⟩ := h; exact ⟨rfl, rfl, by simp⟩
  | a :: l, i + 1, c, r, h => by
    obtain ⟨h1, h2, h3⟩ := drop_nth l i c r (by simpa using h)
    exact ⟨h1, by simpa using h2, by simp; omega⟩

/-- Where the rest makes no tree, the loop ends with none. -/
theorem loop_bad {F g : Nat} (l : List Nat) (n : Nat) (hn : l.length = n) (hmax : n < 9223372036854775807) : ∀ (rest : List Nat) (N i d m r B : Nat) (x : AV) (ks : List Nat) (h : H), l.drop i = rest → i + rest.length = n → rest.length < N → Chain h m B x d ks → 
    m ≤ 9 → scan rest d m = false → ∃ h', loopD N (c47_l9 F g) [.str l n, .ptr r 0, x, .int 3 (.ofNat m), .int 3 (.ofNat i)] h = some (noTree, h')
  | rest, 0, i, d, m, r, B, x, ks, h, _, _, hN, _, _, _ => absurd hN (by omega)
  | [], N + 1, i, d, m, r, B, x, ks, h, hd, hl, hN, hc, hm, hs => by
    rw [loopD_succ, body_end (by simp at hl; omega)]
    cases d with
    | zero => cases hs
    | succ d =>
      obtain ⟨b, z, up, K, ks', rfl, _⟩ := hc
      exact ⟨h, j3_bad (.inr ⟨r, rfl⟩) (.inr ⟨b, rfl⟩) (.inr (.inr (by simp)))⟩
  | c :: rest, N + 1, i, d, m, r, B, x, ks, h, hd, hl, hN, hc, hm, hs => by
    obtain ⟨h1, h2, h3⟩ := drop_nth l i c rest hd
    rw [hn] at h3
    simp only [List.length_cons] at hl hN
    rw [loopD_succ]
    cases d with
    | zero =>
      obtain ⟨rfl, _⟩ := hc
      rw [body_bad h3 h1 (.inr (.inl ⟨r, rfl, rfl⟩))]
      exact ⟨h, j3_bad (.inr ⟨r, rfl⟩) (.inl rfl) (.inl h3)⟩
    | succ d =>
      have hc0 := hc
      obtain ⟨b, z, up, K, ks', rfl, hb1, hb2, hb3, hb4, _⟩ := hc
      simp only [scan] at hs
      by_cases h41 : c = 41
      · subst h41
        have hs : scan rest d m = false := hs
        rw [body_close h3 h1 hb3 (by omega)]
        exact loop_bad l n hn hmax rest N (i + 1) d m r b up ks' h h2 (by omega) (by omega) hb4 hm hs
      · have e41 : Nat.beq c 41 = false := by rw [beq_decide, decide_eq_false_iff_not]; exact h41
        rw [e41, bc_false] at hs
        by_cases h40 : c = 40
        · subst h40
          by_cases h9 : m < 9
          · have hs : bc (Nat.ble (m + 1) 9) (scan rest (d + 2) (m + 1)) false = false := hs
            rw [ble_true (by omega), bc_true] at hs
            obtain ⟨h4, ks4, ha, hc4⟩ := Chain.add (F := F) (g := g) (z := .ofNat m) hc0 (by omega)
            rw [body_add h3 h1 h9 (by omega) ha]
            exact loop_bad l n hn hmax rest N (i + 1) (d + 2) (m + 1) r h4.n _ ks4 h4 h2 (by omega) (by omega) hc4 (by omega) hs
          · rw [body_bad h3 h1 (.inr (.inr ⟨r, b, rfl, rfl, h41, .inr (by omega)⟩))]
            exact ⟨h, j3_bad (.inr ⟨r, rfl⟩) (.inr ⟨b, rfl⟩) (.inl h3)⟩
        · rw [body_bad h3 h1 (.inr (.inr ⟨r, b, rfl, rfl, h41, .inl h40⟩))]
          exact ⟨h, j3_bad (.inr ⟨r, rfl⟩) (.inr ⟨b, rfl⟩) (.inl h3)⟩

/-- A text that is no tree is read as none. -/
theorem read_bad {F g : Nat} (l : List Nat) (n : Nat) (hn : l.length = n) (hmax : n < F) (hF : F < 9223372036854775807) (ht : isTree l = false) (h : H) : ∃ h', c47 F g (.str l n) h = some (noTree, h') := by
  obtain ⟨N, rfl⟩ : ∃ N, F = N + 1 := ⟨F - 1, by omega⟩
  show ∃ h', loopD (N + 1) (c47_l9 (N + 1) g) [.str l n, .leaf .nilp, .leaf .nilp, .int 3 (.ofNat 0), .int 3 (.ofNat 0)] h = some (noTree, h')
  rw [loopD_succ]
  cases l with
  | nil =>
    subst hn
    rw [body_end (by simp)]
    exact ⟨h, j3_bad (.inl rfl) (.inl rfl) (.inr (.inl rfl))⟩
  | cons c r =>
    have h0 : 0 < n := by rw [← hn]; simp
    by_cases h40 : c = 40
    · subst h40
      have ht : scan r 1 1 = false := ht
      rw [body_root h0 rfl (by omega) (by omega)]
      refine loop_bad (40 :: r) n hn (by omega) r N 1 1 1 h.n (h.n + 1) (.ptr h.n 0) [] _ rfl (by simp at hn; omega) (by simp at hn; omega) ⟨h.n, .ofNat 0, .leaf .nilp, .leaf .nils, [], rfl, by omega, ?_, get_push_eq rfl, ⟨rfl, rfl⟩, .inl ⟨rfl, rfl⟩⟩ (by omega) ht
      show h.n < h.n + 1; omega
    · rw [body_bad h0 rfl (.inl ⟨rfl, rfl, h40⟩)]
      exact ⟨h, j3_bad (.inl rfl) (.inl rfl) (.inl h0)⟩
end
end Go.AI

namespace Go.AI
open Go Go.RowKit
noncomputable section
set_option linter.unusedVariables false
set_option linter.unusedSimpArgs false
set_option maxRecDepth 100000

/-- Where the brackets close, d being open. -/
def endAt : List Nat → Nat → Nat → Option Nat
  | [], d, i => none
  | c :: r, 0, i => if c = 40 then endAt r 1 (i + 1) else none
  | c :: r, d + 1, i => if c = 40 then endAt r (d + 2) (i + 1) else if c = 41 then (match d with | 0 => some (i + 1) | d + 1 => endAt r (d + 1) (i + 1)) else none

def endI : Option Nat → Int
  | some e => .ofNat e
  | none => .negSucc 0

theorem fwrap_sub (a : Nat) (h : a ≤ 9223372036854775807) : fwrap 3 (isub (.ofNat (a + 1)) (.ofNat 1)) = .ofNat a := by
  rw [isub_eq, fwrap_eq, kd3]
  show IntKind.i64.wrap (((a + 1 : Nat) : Int) - (1 : Int)) = (a : Int)
  rw [wrap_i64 _ (by omega) (by omega)]; omega
theorem fwrap_sub0 : fwrap 3 (isub (.ofNat 0) (.ofNat 1)) = .negSucc 0 := rfl

section
variable {F g : Nat} {h : H} {l : List Nat} {n i d c : Nat} {kc : List AV → H → Option R}
theorem e_end (hi : n ≤ i) : c46_l2 F g [.str l n, .int 3 (.ofNat d), .int 3 (.ofNat i)] h kc = some (.int 3 (.negSucc 0), h) := by
  simp only [c46_l2, hd_cons, tl_cons, aLenK_str, aCmpI_int, kEq_self, bc_true, bc_false, ilt_nat, ble_false (show n < Nat.succ i by omega), withBool_bool]

theorem e_open (hi : i < n) (hc : nthN l i = some 40) (hd : d + 1 ≤ 9223372036854775807) (hin : i + 1 ≤ 9223372036854775807) : c46_l2 F g [.str l n, .int 3 (.ofNat d), .int 3 (.ofNat i)] h kc = kc [.str l n, .int 3 (.ofNat (d + 1)), .int 3 (.ofNat (i + 1))] h := by
  have e2 : ieq (Int.ofNat 40) (Int.ofNat 40) = true := rfl
  have e3 : ieq (Int.ofNat (d + 1)) (Int.ofNat 0) = false := rfl
  have e4 : ilt (Int.ofNat (d + 1)) (Int.ofNat 0) = false := rfl
  simp only [c46_l2, c46_j1, hd_cons, tl_cons, aLenK_str, aCmpI_int, kEq_self, bc_true, bc_false, ilt_nat, ble_true (show Nat.succ i ≤ n by omega), withBool_bool, aIdxStr_at, hc, onSome_some', e2, aArith_int, fwrap_add d 1 hd, fwrap_add i 1 hin, e3]
  rfl

theorem e_other (hi : i < n) (hc : nthN l i = some c) (h40 : c ≠ 40) (h41 : c ≠ 41) : c46_l2 F g [.str l n, .int 3 (.ofNat d), .int 3 (.ofNat i)] h kc = some (.int 3 (.negSucc 0), h) := by
  have e40 : Nat.beq c 40 = false := by rw [beq_decide, decide_eq_false_iff_not]; exact h40
  have e41 : Nat.beq c 41 = false := by rw [beq_decide, decide_eq_false_iff_not]; exact h41
  simp only [c46_l2, c46_j1, hd_cons, tl_cons, aLenK_str, aCmpI_int, kEq_self, bc_true, bc_false, ilt_nat, ble_true (show Nat.succ i ≤ n by omega), withBool_bool, aIdxStr_at, hc, onSome_some', ieq_nat, e40, e41]

theorem e_close0 (hi : i < n) (hc : nthN l i = some 41) : c46_l2 F g [.str l n, .int 3 (.ofNat 0), .int 3 (.ofNat i)] h kc = some (.int 3 (.negSucc 0), h) := by
  have e2 : ieq (Int.ofNat 41) (Int.ofNat 40) = false := rfl
  have e3 : ieq (Int.ofNat 41) (Int.ofNat 41) = true := rfl
  have e4 : ieq (Int.negSucc 0) (Int.ofNat 0) = false := rfl
  have e5 : ilt (Int.negSucc 0) (Int.ofNat 0) = true := rfl
  simp only [c46_l2, c46_j1, hd_cons, tl_cons, aLenK_str, aCmpI_int, kEq_self, bc_true, bc_false, ilt_nat, ble_true (show Nat.succ i ≤ n by omega), withBool_bool, aIdxStr_at, hc, onSome_some', e2, e3, aArith_int, fwrap_sub0, e4, e5]

theorem e_close1 (hi : i < n) (hc : nthN l i = some 41) (hin : i + 1 ≤ 9223372036854775807) : c46_l2 F g [.str l n, .int 3 (.ofNat 1), .int 3 (.ofNat i)] h kc = some (.int 3 (.ofNat (i + 1)), h) := by
  have e2 : ieq (Int.ofNat 41) (Int.ofNat 40) = false := rfl
  have e3 : ieq (Int.ofNat 41) (Int.ofNat 41) = true := rfl
  have e4 : ieq (Int.ofNat 0) (Int.ofNat 0) = true := rfl
  simp only [c46_l2, c46_j1, hd_cons, tl_cons, aLenK_str, aCmpI_int, kEq_self, bc_true, bc_false, ilt_nat, ble_true (show Nat.succ i ≤ n by omega), withBool_bool, aIdxStr_at, hc, onSome_some', e2, e3, aArith_int, fwrap_sub 0 (by omega), e4, fwrap_add i 1 hin]

theorem e_close2 (hi : i < n) (hc : nthN l i = some 41) (hin : i + 1 ≤ 9223372036854775807) (hd : d + 1 ≤ 9223372036854775807) : c46_l2 F g [.str l n, .int 3 (.ofNat (d + 2)), .int 3 (.ofNat i)] h kc = kc [.str l n, .int 3 (.ofNat (d + 1)), .int 3 (.ofNat (i + 1))] h := by
  have e2 : ieq (Int.ofNat 41) (Int.ofNat 40) = false := rfl
  have e3 : ieq (Int.ofNat 41) (Int.ofNat 41) = true := rfl
  have e4 : ieq (Int.ofNat (d + 1)) (Int.ofNat 0) = false := rfl
  simp only [c46_l2, c46_j1, hd_cons, tl_cons, aLenK_str, aCmpI_int, kEq_self, bc_true, bc_false, ilt_nat, ble_true (show Nat.succ i ≤ n by omega), withBool_bool, aIdxStr_at, hc, onSome_some', e2, e3, aArith_int, fwrap_sub (d + 1) hd, e4, fwrap_add i 1 hin]
  rfl
end

theorem loop_end {F g : Nat} (l : List Nat) (n : Nat) (hn : l.length = n) (hmax : n < 4611686018427387904) (h : H) : ∀ (rest : List Nat) (N i d : Nat), l.drop i = rest → i + rest.length = n → rest.length < N → d ≤ i →
    loopD N (c46_l2 F g) [.str l n, .int 3 (.ofNat d), .int 3 (.ofNat i)] h = some (.int 3 (endI (endAt rest d i)), h)
  | rest, 0, i, d, _, _, hN, _ => absurd hN (by omega)
  | [], N + 1, i, d, hd, hl, hN, hdi => by
    rw [loopD_succ, e_end (by simp at hl; omega)]; rfl
  | c :: rest, N + 1, i, d, hd, hl, hN, hdi => by
    obtain ⟨h1, h2, h3⟩ := drop_nth l i c rest hd
    rw [hn] at h3
    simp only [List.length_cons] at hl hN
    rw [loopD_succ]
    by_cases h40 : c = 40
    · subst h40
      rw [e_open h3 h1 (by omega) (by omega), loop_end l n hn hmax h rest N (i + 1) (d + 1) h2 (by omega) (by omega) (by omega)]
      cases d <;> rfl
    · by_cases h41 : c = 41
      · subst h41
        cases d with
        | zero => rw [e_close0 h3 h1]; rfl
        | succ d =>
          cases d with
          | zero => rw [e_close1 h3 h1 (by omega)]; rfl
          | succ d =>
            rw [e_close2 h3 h1 (by omega) (by omega), loop_end l n hn hmax h rest N (i + 1) (d + 1) h2 (by omega) (by omega) (by omega)]; rfl
      · rw [e_other h3 h1 h40 h41]
        cases d <;> simp [endAt, h40, h41] <;> rfl

theorem endAt_len : ∀ (r : List Nat) (d i e : Nat), endAt r d i = some e → d ≤ r.length ∧ i < e ∧ e ≤ i + r.length
  | [], d, i, e, h => by cases h
  | c :: r, 0, i, e, h => by
    simp only [endAt] at h
    split at h
    · have := endAt_len r 1 (i + 1) e h; simp only [List.length_cons]; omega
    · cases h
  | c :: r, d + 1, i, e, h => by
    simp only [endAt] at h
    split at h
    · have := endAt_len r (d + 2) (i + 1) e h; simp only [List.length_cons]; omega
    · split at h
      · cases d with
        | zero => cases h; simp only [List.length_cons]; omega
        | succ d => have := endAt_len r (d + 1) (i + 1) e h; simp only [List.length_cons]; omega
      · cases h

theorem endAt_scan : ∀ (r : List Nat) (d m i : Nat), endAt r (d + 1) i = some (i + r.length) → r.length + 2 * m ≤ 18 + (d + 1) → scan r (d + 1) m = true
  | [], d, m, i, h, hl => by cases h
  | c :: r, d, m, i, h, hl => by
    simp only [List.length_cons] at h hl
    simp only [endAt] at h
    simp only [scan]
    split at h
    · rename_i h40
      subst h40
      have hlen := endAt_len r (d + 2) (i + 1) _ h
      have h9 : m + 1 ≤ 9 := by omega
      have e : Nat.beq 40 41 = false := rfl
      have e' : Nat.beq 40 40 = true := rfl
      rw [e, e', ble_true h9]
      exact endAt_scan r (d + 1) (m + 1) (i + 1) (by rw [h]; congr 1; omega) (by omega)
    · split at h
      · rename_i h40 h41
        subst h41
        have e : Nat.beq 41 41 = true := rfl
        rw [e, bc_true]
        cases d with
        | zero =>
          have : r = [] := by
            cases r with
            | nil => rfl
            | cons a r => simp at h
          subst this; rfl
        | succ d =>
          have h : endAt r (d + 1) (i + 1) = some (i + (r.length + 1)) := h
          exact endAt_scan r d m (i + 1) (by rw [h]; congr 1; omega) (by omega)
      · cases h

theorem endAt_tree (l : List Nat) (hl : l.length ≤ 18) (h : endAt l 0 0 = some l.length) : isTree l = true := by
  cases l with
  | nil => cases h
  | cons c r =>
    simp only [endAt] at h
    split at h
    · rename_i h40
      subst h40
      simp only [List.length_cons] at h hl
      exact endAt_scan r 0 1 1 (by rw [h]; congr 1; omega) (by omega)
    · cases h

/-- The specification's TreeIn at what is no tree. -/
theorem spec_bad {F g : Nat} (l : List Nat) (n : Nat) (hn : l.length = n) (hF : 20 < F) (ht : isTree l = false) (h : H) : c15 F g (.str l n) h = some (.bool false, h) := by
  have e0 : ∀ k : AV → H → Option R, bindR (c46 F g (.str l n) (.int 3 (.ofNat 0)) h) k = bindR (loopD F (c46_l2 F g) [.str l n, .int 3 (.ofNat 0), .int 3 (.ofNat 0)] h) k := fun k => rfl
  by_cases h0 : n = 0
  · subst h0; simp only [c15, c15_j1, c15_j2, hd_cons, tl_cons, aLenK_str, aCmpI_int, kEq_self, bc_true, bc_false, ilt_nat, ile_nat, withBool_bool, guardB_bool, guardB_tup, aPick_bool]; rfl
  · by_cases h18 : n ≤ 18
    · have hloop := loop_end (F := F) (g := g) l n hn (by omega) h l F 0 0 rfl (by omega) (by omega) (by omega)
      have hne : ieq (endI (endAt l 0 0)) (Int.ofNat n) = false := by
        cases he : endAt l 0 0 with
        | none => rfl
        | some e =>
          show Nat.beq e n = false
          rw [beq_decide, decide_eq_false_iff_not]
          intro hen
          have := endAt_tree l (by omega) (by rw [he, hen, hn])
          rw [this] at ht; cases ht
      simp only [c15, c15_j1, c15_j2, hd_cons, tl_cons, aLenK_str, aCmpI_int, kEq_self, bc_true, bc_false, ilt_nat, ile_nat, withBool_bool, guardB_bool, guardB_tup, aPick_bool, ble_true (show Nat.succ 0 ≤ n by omega), ble_true h18, e0, hloop, bindR_some', hne]
    · simp only [c15, c15_j1, c15_j2, hd_cons, tl_cons, aLenK_str, aCmpI_int, kEq_self, bc_true, bc_false, ilt_nat, ile_nat, withBool_bool, guardB_bool, guardB_tup, aPick_bool, ble_true (show Nat.succ 0 ≤ n by omega), ble_false (show 18 < n by omega)]
      rfl
end
end Go.AI

namespace Go.AI
open Go Go.RowKit
noncomputable section
set_option linter.unusedVariables false
set_option linter.unusedSimpArgs false
set_option maxRecDepth 100000

theorem spec17_bad {F g : Nat} (l : List Nat) (n : Nat) (hn : l.length = n) (hF : 20 < F) (ht : isTree l = false) (h : H) : c17 F g (.str l n) h = some (AV.one .tup (AV.cons (AV.int 3 (Int.ofNat 0)) (AV.cons (AV.bool false) (AV.leaf .nil))), h) := by
  simp only [c17, spec_bad (F := F) (g := g) l n hn hF ht h, bindR_some']; rfl
theorem impl18_bad {F g : Nat} (l : List Nat) (n : Nat) (hn : l.length = n) (hmax : n < F) (hF : F < 9223372036854775807) (ht : isTree l = false) (h : H) : ∃ h', c18 F g (.str l n) h = some (AV.one .tup (AV.cons (AV.int 3 (Int.ofNat 0)) (AV.cons (AV.bool false) (AV.leaf .nil))), h') := by
  obtain ⟨h', e⟩ := read_bad (F := F) (g := g) l n hn hmax hF ht h
  exact ⟨h', by simp only [c18, e, bindR_some']; rfl⟩
theorem law4_bad {F g : Nat} (l : List Nat) (n : Nat) (hn : l.length = n) (hF : 1048577 < F) (hF2 : F < 9223372036854775807) (ht : isTree l = false) (h : H) : ∃ h', c4 F g (.str l n) h = some (.bool true, h') := by
  by_cases h20 : 1048576 < n
  · refine ⟨h, ?_⟩
    simp only [c4, aLenK_str, aCmpI_int, kEq_self, bc_true, ilt_nat, ble_true (show Nat.succ 1048576 ≤ n by omega), withBool_bool]
  · obtain ⟨h', e⟩ := impl18_bad (F := F) (g := g) l n hn (by omega) hF2 ht h
    refine ⟨h', ?_⟩
    simp only [c4, aLenK_str, aCmpI_int, kEq_self, bc_true, bc_false, ilt_nat, ble_false (show n < Nat.succ 1048576 by omega), withBool_bool, spec17_bad (F := F) (g := g) l n hn (by omega) ht h, bindR_some', aExtract_0, aExtract_1, e]
    rfl
/-- One tree's trial. -/
def ok4 (l : List Nat) : Bool := @Option.rec R (fun _ => Bool) false (fun r => r.1.onBool false id) (c4 2097152 20 (.str l (lenL l)) H0)
theorem ok4_some {l : List Nat} (h : ok4 l = true) : ∃ h', c4 2097152 20 (.str l l.length) H0 = some (.bool true, h') := by
  unfold ok4 at h
  rw [lenL_eq] at h
  cases hc : c4 2097152 20 (.str l l.length) H0 with
  | none => rw [hc] at h; cases h
  | some r =>
    rw [hc] at h
    obtain ⟨v, h'⟩ := r
    cases v <;> first | (cases h; done) | skip
    rename_i b
    have h : b = true := h
    subst h; exact ⟨h', rfl⟩

theorem spec19_bad {F g : Nat} (l : List Nat) (n : Nat) (hn : l.length = n) (hF : 20 < F) (ht : isTree l = false) (h : H) : c19 F g (.str l n) h = some (AV.one .tup (AV.cons (AV.int 3 (Int.ofNat 0)) (AV.cons (AV.bool false) (AV.leaf .nil))), h) := by
  simp only [c19, spec_bad (F := F) (g := g) l n hn hF ht h, bindR_some']; rfl
theorem impl20_bad {F g : Nat} (l : List Nat) (n : Nat) (hn : l.length = n) (hmax : n < F) (hF : F < 9223372036854775807) (ht : isTree l = false) (h : H) : ∃ h', c20 F g (.str l n) h = some (AV.one .tup (AV.cons (AV.int 3 (Int.ofNat 0)) (AV.cons (AV.bool false) (AV.leaf .nil))), h') := by
  obtain ⟨h', e⟩ := read_bad (F := F) (g := g) l n hn hmax hF ht h
  exact ⟨h', by simp only [c20, e, bindR_some']; rfl⟩
theorem law5_bad {F g : Nat} (l : List Nat) (n : Nat) (hn : l.length = n) (hF : 1048577 < F) (hF2 : F < 9223372036854775807) (ht : isTree l = false) (h : H) : ∃ h', c5 F g (.str l n) h = some (.bool true, h') := by
  by_cases h20 : 1048576 < n
  · refine ⟨h, ?_⟩
    simp only [c5, aLenK_str, aCmpI_int, kEq_self, bc_true, ilt_nat, ble_true (show Nat.succ 1048576 ≤ n by omega), withBool_bool]
  · obtain ⟨h', e⟩ := impl20_bad (F := F) (g := g) l n hn (by omega) hF2 ht h
    refine ⟨h', ?_⟩
    simp only [c5, aLenK_str, aCmpI_int, kEq_self, bc_true, bc_false, ilt_nat, ble_false (show n < Nat.succ 1048576 by omega), withBool_bool, spec19_bad (F := F) (g := g) l n hn (by omega) ht h, bindR_some', aExtract_0, aExtract_1, e]
    rfl
/-- One tree's trial. -/
def ok5 (l : List Nat) : Bool := @Option.rec R (fun _ => Bool) false (fun r => r.1.onBool false id) (c5 2097152 20 (.str l (lenL l)) H0)
theorem ok5_some {l : List Nat} (h : ok5 l = true) : ∃ h', c5 2097152 20 (.str l l.length) H0 = some (.bool true, h') := by
  unfold ok5 at h
  rw [lenL_eq] at h
  cases hc : c5 2097152 20 (.str l l.length) H0 with
  | none => rw [hc] at h; cases h
  | some r =>
    rw [hc] at h
    obtain ⟨v, h'⟩ := r
    cases v <;> first | (cases h; done) | skip
    rename_i b
    have h : b = true := h
    subst h; exact ⟨h', rfl⟩

theorem spec21_bad {F g : Nat} (l : List Nat) (n : Nat) (hn : l.length = n) (hF : 20 < F) (ht : isTree l = false) (h : H) : c21 F g (.str l n) h = some (AV.one .tup (AV.cons (AV.int 3 (Int.ofNat 0)) (AV.cons (AV.bool false) (AV.leaf .nil))), h) := by
  simp only [c21, spec_bad (F := F) (g := g) l n hn hF ht h, bindR_some']; rfl
theorem impl22_bad {F g : Nat} (l : List Nat) (n : Nat) (hn : l.length = n) (hmax : n < F) (hF : F < 9223372036854775807) (ht : isTree l = false) (h : H) : ∃ h', c22 F g (.str l n) h = some (AV.one .tup (AV.cons (AV.int 3 (Int.ofNat 0)) (AV.cons (AV.bool false) (AV.leaf .nil))), h') := by
  obtain ⟨h', e⟩ := read_bad (F := F) (g := g) l n hn hmax hF ht h
  exact ⟨h', by simp only [c22, e, bindR_some']; rfl⟩
theorem law6_bad {F g : Nat} (l : List Nat) (n : Nat) (hn : l.length = n) (hF : 1048577 < F) (hF2 : F < 9223372036854775807) (ht : isTree l = false) (h : H) : ∃ h', c6 F g (.str l n) h = some (.bool true, h') := by
  by_cases h20 : 1048576 < n
  · refine ⟨h, ?_⟩
    simp only [c6, aLenK_str, aCmpI_int, kEq_self, bc_true, ilt_nat, ble_true (show Nat.succ 1048576 ≤ n by omega), withBool_bool]
  · obtain ⟨h', e⟩ := impl22_bad (F := F) (g := g) l n hn (by omega) hF2 ht h
    refine ⟨h', ?_⟩
    simp only [c6, aLenK_str, aCmpI_int, kEq_self, bc_true, bc_false, ilt_nat, ble_false (show n < Nat.succ 1048576 by omega), withBool_bool, spec21_bad (F := F) (g := g) l n hn (by omega) ht h, bindR_some', aExtract_0, aExtract_1, e]
    rfl
/-- One tree's trial. -/
def ok6 (l : List Nat) : Bool := @Option.rec R (fun _ => Bool) false (fun r => r.1.onBool false id) (c6 2097152 20 (.str l (lenL l)) H0)
theorem ok6_some {l : List Nat} (h : ok6 l = true) : ∃ h', c6 2097152 20 (.str l l.length) H0 = some (.bool true, h') := by
  unfold ok6 at h
  rw [lenL_eq] at h
  cases hc : c6 2097152 20 (.str l l.length) H0 with
  | none => rw [hc] at h; cases h
  | some r =>
    rw [hc] at h
    obtain ⟨v, h'⟩ := r
    cases v <;> first | (cases h; done) | skip
    rename_i b
    have h : b = true := h
    subst h; exact ⟨h', rfl⟩

theorem spec39_bad {F g : Nat} (l : List Nat) (n : Nat) (hn : l.length = n) (hF : 20 < F) (ht : isTree l = false) (h : H) : c39 F g (.str l n) h = some (AV.one .tup (AV.cons (AV.str [] 0) (AV.cons (AV.bool false) (AV.leaf .nil))), h) := by
  simp only [c39, spec_bad (F := F) (g := g) l n hn hF ht h, bindR_some']; rfl
theorem impl40_bad {F g : Nat} (l : List Nat) (n : Nat) (hn : l.length = n) (hmax : n < F) (hF : F < 9223372036854775807) (ht : isTree l = false) (h : H) : ∃ h', c40 F g (.str l n) h = some (AV.one .tup (AV.cons (AV.str [] 0) (AV.cons (AV.bool false) (AV.leaf .nil))), h') := by
  obtain ⟨h', e⟩ := read_bad (F := F) (g := g) l n hn hmax hF ht h
  exact ⟨h', by simp only [c40, e, bindR_some']; rfl⟩
theorem law11_bad {F g : Nat} (l : List Nat) (n : Nat) (hn : l.length = n) (hF : 1048577 < F) (hF2 : F < 9223372036854775807) (ht : isTree l = false) (h : H) : ∃ h', c11 F g (.str l n) h = some (.bool true, h') := by
  by_cases h20 : 1048576 < n
  · refine ⟨h, ?_⟩
    simp only [c11, aLenK_str, aCmpI_int, kEq_self, bc_true, ilt_nat, ble_true (show Nat.succ 1048576 ≤ n by omega), withBool_bool]
  · obtain ⟨h', e⟩ := impl40_bad (F := F) (g := g) l n hn (by omega) hF2 ht h
    refine ⟨h', ?_⟩
    simp only [c11, aLenK_str, aCmpI_int, kEq_self, bc_true, bc_false, ilt_nat, ble_false (show n < Nat.succ 1048576 by omega), withBool_bool, spec39_bad (F := F) (g := g) l n hn (by omega) ht h, bindR_some', aExtract_0, aExtract_1, e]
    rfl
/-- One tree's trial. -/
def ok11 (l : List Nat) : Bool := @Option.rec R (fun _ => Bool) false (fun r => r.1.onBool false id) (c11 2097152 20 (.str l (lenL l)) H0)
theorem ok11_some {l : List Nat} (h : ok11 l = true) : ∃ h', c11 2097152 20 (.str l l.length) H0 = some (.bool true, h') := by
  unfold ok11 at h
  rw [lenL_eq] at h
  cases hc : c11 2097152 20 (.str l l.length) H0 with
  | none => rw [hc] at h; cases h
  | some r =>
    rw [hc] at h
    obtain ⟨v, h'⟩ := r
    cases v <;> first | (cases h; done) | skip
    rename_i b
    have h : b = true := h
    subst h; exact ⟨h', rfl⟩

theorem spec41_bad {F g : Nat} (l : List Nat) (n : Nat) (hn : l.length = n) (hF : 20 < F) (ht : isTree l = false) (h : H) : c41 F g (.str l n) h = some (AV.one .tup (AV.cons (AV.str [] 0) (AV.cons (AV.bool false) (AV.leaf .nil))), h) := by
  simp only [c41, spec_bad (F := F) (g := g) l n hn hF ht h, bindR_some']; rfl
theorem impl42_bad {F g : Nat} (l : List Nat) (n : Nat) (hn : l.length = n) (hmax : n < F) (hF : F < 9223372036854775807) (ht : isTree l = false) (h : H) : ∃ h', c42 F g (.str l n) h = some (AV.one .tup (AV.cons (AV.str [] 0) (AV.cons (AV.bool false) (AV.leaf .nil))), h') := by
  obtain ⟨h', e⟩ := read_bad (F := F) (g := g) l n hn hmax hF ht h
  exact ⟨h', by simp only [c42, e, bindR_some']; rfl⟩
theorem law12_bad {F g : Nat} (l : List Nat) (n : Nat) (hn : l.length = n) (hF : 1048577 < F) (hF2 : F < 9223372036854775807) (ht : isTree l = false) (h : H) : ∃ h', c12 F g (.str l n) h = some (.bool true, h') := by
  by_cases h20 : 1048576 < n
  · refine ⟨h, ?_⟩
    simp only [c12, aLenK_str, aCmpI_int, kEq_self, bc_true, ilt_nat, ble_true (show Nat.succ 1048576 ≤ n by omega), withBool_bool]
  · obtain ⟨h', e⟩ := impl42_bad (F := F) (g := g) l n hn (by omega) hF2 ht h
    refine ⟨h', ?_⟩
    simp only [c12, aLenK_str, aCmpI_int, kEq_self, bc_true, bc_false, ilt_nat, ble_false (show n < Nat.succ 1048576 by omega), withBool_bool, spec41_bad (F := F) (g := g) l n hn (by omega) ht h, bindR_some', aExtract_0, aExtract_1, e]
    rfl
/-- One tree's trial. -/
def ok12 (l : List Nat) : Bool := @Option.rec R (fun _ => Bool) false (fun r => r.1.onBool false id) (c12 2097152 20 (.str l (lenL l)) H0)
theorem ok12_some {l : List Nat} (h : ok12 l = true) : ∃ h', c12 2097152 20 (.str l l.length) H0 = some (.bool true, h') := by
  unfold ok12 at h
  rw [lenL_eq] at h
  cases hc : c12 2097152 20 (.str l l.length) H0 with
  | none => rw [hc] at h; cases h
  | some r =>
    rw [hc] at h
    obtain ⟨v, h'⟩ := r
    cases v <;> first | (cases h; done) | skip
    rename_i b
    have h : b = true := h
    subst h; exact ⟨h', rfl⟩

theorem spec23_bad {F g : Nat} (l : List Nat) (n : Nat) (hn : l.length = n) (hF : 20 < F) (ht : isTree l = false) (h : H) : c23 F g (.str l n) h = some (.one .tup (.cons (.leaf (.sl h.n 0 0 0)) (.cons (.bool false) (.leaf .nil))), h.push (.cells 0 [])) := by
  simp only [c23, spec_bad (F := F) (g := g) l n hn hF ht h, bindR_some']; rfl
theorem impl24_bad {F g : Nat} (l : List Nat) (n : Nat) (hn : l.length = n) (hmax : n < F) (hF : F < 9223372036854775807) (ht : isTree l = false) (h : H) : ∃ h', c24 F g (.str l n) h = some (.one .tup (.cons (.leaf .nils) (.cons (.bool false) (.leaf .nil))), h') := by
  obtain ⟨h', e⟩ := read_bad (F := F) (g := g) l n hn hmax hF ht h
  exact ⟨h', by simp only [c24, e, bindR_some']; rfl⟩
theorem eq7_nil {N g b : Nat} (h : H) : c25 (N + 1) g (.leaf .nils) (.leaf (.sl b 0 0 0)) h = some (.bool true, h) := rfl
theorem mark7_nil {N g : Nat} (h : H) : c26 (N + 1) g (.leaf .nils) (.int 3 (.ofNat 1)) h = some (.int 3 (.ofNat 1), h) := rfl
theorem held7_nil {N g : Nat} (h : H) : c27 (N + 1) g (.leaf .nils) (.int 3 (.ofNat 1)) h = some (.int 3 (.ofNat 1), h) := rfl
theorem law7_bad {F g : Nat} (l : List Nat) (n : Nat) (hn : l.length = n) (hF : 1048577 < F) (hF2 : F < 9223372036854775807) (ht : isTree l = false) (h : H) : ∃ h', c7 F g (.str l n) h = some (.bool true, h') := by
  by_cases h20 : 1048576 < n
  · refine ⟨h, ?_⟩
    simp only [c7, aLenK_str, aCmpI_int, kEq_self, bc_true, ilt_nat, ble_true (show Nat.succ 1048576 ≤ n by omega), withBool_bool]
  · obtain ⟨N, rfl⟩ : ∃ N, F = N + 1 := ⟨F - 1, by omega⟩
    have ⟨f, E⟩ : ∃ f : H → H, ∀ h, c24 (N + 1) g (.str l n) h = some (.one .tup (.cons (.leaf .nils) (.cons (.bool false) (.leaf .nil))), f h) :=
      ⟨fun h => Classical.choose (impl24_bad (F := N + 1) (g := g) l n hn (by omega) hF2 ht h), fun h => Classical.choose_spec (impl24_bad (F := N + 1) (g := g) l n hn (by omega) hF2 ht h)⟩
    have e1 : ∀ k : AV → H → Option R, ∀ h, aEq true 0 (.bool false) (.bool false) h k = k (.bool false) h := fun _ _ => rfl
    have e2 : ∀ k : AV → H → Option R, ∀ h, aNot (.bool true) h k = k (.bool false) h := fun _ _ => rfl
    have e3 : ilt (.ofNat 1) (.ofNat 0) = false := rfl
    have e4 : bnot (ieq (.ofNat 1) (.ofNat 1)) = false := rfl
    refine ⟨f (f (h.push (.cells 0 []))), ?_⟩
    simp only [c7, c7_j1, c7_j2, hd_cons, tl_cons, aLenK_str, aCmpI_int, kEq_self, bc_true, bc_false, ilt_nat, ble_false (show n < Nat.succ 1048576 by omega), withBool_bool, spec23_bad (F := N + 1) (g := g) l n hn (by omega) ht h, bindR_some', aExtract_0, aExtract_1, E,
      eq7_nil, mark7_nil, held7_nil, e1, e2, guardB_bool, (show bnot false = true from rfl), (show bnot true = false from rfl), aPick_bool, ble_false (show 0 < Nat.succ 1 by omega), e4, ieq_nat, Nat.beq_refl]

/-- One tree's trial. -/
def ok7 (l : List Nat) : Bool := @Option.rec R (fun _ => Bool) false (fun r => r.1.onBool false id) (c7 2097152 20 (.str l (lenL l)) H0)
theorem ok7_some {l : List Nat} (h : ok7 l = true) : ∃ h', c7 2097152 20 (.str l l.length) H0 = some (.bool true, h') := by
  unfold ok7 at h
  rw [lenL_eq] at h
  cases hc : c7 2097152 20 (.str l l.length) H0 with
  | none => rw [hc] at h; cases h
  | some r =>
    rw [hc] at h
    obtain ⟨v, h'⟩ := r
    cases v <;> first | (cases h; done) | skip
    rename_i b
    have h : b = true := h
    subst h; exact ⟨h', rfl⟩

theorem spec34_bad {F g : Nat} (l : List Nat) (n : Nat) (hn : l.length = n) (hF : 20 < F) (ht : isTree l = false) (h : H) : c34 F g (.str l n) h = some (.one .tup (.cons (.leaf (.sl h.n 0 0 0)) (.cons (.bool false) (.leaf .nil))), h.push (.cells 0 [])) := by
  simp only [c34, spec_bad (F := F) (g := g) l n hn hF ht h, bindR_some']; rfl
theorem impl35_bad {F g : Nat} (l : List Nat) (n : Nat) (hn : l.length = n) (hmax : n < F) (hF : F < 9223372036854775807) (ht : isTree l = false) (h : H) : ∃ h', c35 F g (.str l n) h = some (.one .tup (.cons (.leaf .nils) (.cons (.bool false) (.leaf .nil))), h') := by
  obtain ⟨h', e⟩ := read_bad (F := F) (g := g) l n hn hmax hF ht h
  exact ⟨h', by simp only [c35, e, bindR_some']; rfl⟩
theorem eq10_nil {N g b : Nat} (h : H) : c36 (N + 1) g (.leaf .nils) (.leaf (.sl b 0 0 0)) h = some (.bool true, h) := rfl
theorem mark10_nil {N g : Nat} (h : H) : c37 (N + 1) g (.leaf .nils) (.int 3 (.ofNat 1)) h = some (.int 3 (.ofNat 1), h) := rfl
theorem held10_nil {N g : Nat} (h : H) : c38 (N + 1) g (.leaf .nils) (.int 3 (.ofNat 1)) h = some (.int 3 (.ofNat 1), h) := rfl
theorem law10_bad {F g : Nat} (l : List Nat) (n : Nat) (hn : l.length = n) (hF : 1048577 < F) (hF2 : F < 9223372036854775807) (ht : isTree l = false) (h : H) : ∃ h', c10 F g (.str l n) h = some (.bool true, h') := by
  by_cases h20 : 1048576 < n
  · refine ⟨h, ?_⟩
    simp only [c10, aLenK_str, aCmpI_int, kEq_self, bc_true, ilt_nat, ble_true (show Nat.succ 1048576 ≤ n by omega), withBool_bool]
  · obtain ⟨N, rfl⟩ : ∃ N, F = N + 1 := ⟨F - 1, by omega⟩
    have ⟨f, E⟩ : ∃ f : H → H, ∀ h, c35 (N + 1) g (.str l n) h = some (.one .tup (.cons (.leaf .nils) (.cons (.bool false) (.leaf .nil))), f h) :=
      ⟨fun h => Classical.choose (impl35_bad (F := N + 1) (g := g) l n hn (by omega) hF2 ht h), fun h => Classical.choose_spec (impl35_bad (F := N + 1) (g := g) l n hn (by omega) hF2 ht h)⟩
    have e1 : ∀ k : AV → H → Option R, ∀ h, aEq true 0 (.bool false) (.bool false) h k = k (.bool false) h := fun _ _ => rfl
    have e2 : ∀ k : AV → H → Option R, ∀ h, aNot (.bool true) h k = k (.bool false) h := fun _ _ => rfl
    have e3 : ilt (.ofNat 1) (.ofNat 0) = false := rfl
    have e4 : bnot (ieq (.ofNat 1) (.ofNat 1)) = false := rfl
    refine ⟨f (f (h.push (.cells 0 []))), ?_⟩
    simp only [c10, c10_j1, c10_j2, hd_cons, tl_cons, aLenK_str, aCmpI_int, kEq_self, bc_true, bc_false, ilt_nat, ble_false (show n < Nat.succ 1048576 by omega), withBool_bool, spec34_bad (F := N + 1) (g := g) l n hn (by omega) ht h, bindR_some', aExtract_0, aExtract_1, E,
      eq10_nil, mark10_nil, held10_nil, e1, e2, guardB_bool, (show bnot false = true from rfl), (show bnot true = false from rfl), aPick_bool, ble_false (show 0 < Nat.succ 1 by omega), e4, ieq_nat, Nat.beq_refl]

/-- One tree's trial. -/
def ok10 (l : List Nat) : Bool := @Option.rec R (fun _ => Bool) false (fun r => r.1.onBool false id) (c10 2097152 20 (.str l (lenL l)) H0)
theorem ok10_some {l : List Nat} (h : ok10 l = true) : ∃ h', c10 2097152 20 (.str l l.length) H0 = some (.bool true, h') := by
  unfold ok10 at h
  rw [lenL_eq] at h
  cases hc : c10 2097152 20 (.str l l.length) H0 with
  | none => rw [hc] at h; cases h
  | some r =>
    rw [hc] at h
    obtain ⟨v, h'⟩ := r
    cases v <;> first | (cases h; done) | skip
    rename_i b
    have h : b = true := h
    subst h; exact ⟨h', rfl⟩
end
end Go.AI
