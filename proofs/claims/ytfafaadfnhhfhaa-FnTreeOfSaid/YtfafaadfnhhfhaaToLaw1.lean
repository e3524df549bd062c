/- What both sides tell of lists with a text that is no tree; all other lists. -/
import Derived.Test.YtfafaadfnhhfhaaToDraw
import Derived.KernelRfl
namespace Go.AI.T
open Go Go.RowKit Go.AI
set_option linter.unusedVariables false
set_option linter.unusedSimpArgs false
set_option maxRecDepth 100000
noncomputable section
theorem nodes_bad (F g : Nat) {l : List Nat} (hm : l.length ≤ 1048576) (ht : isTree l = false) (h : H) : c_impl_TreeNodes F g (sv l) h = some (.one .tup (.cons (nI 0) (.cons (.bool false) (.leaf .nil))), h) := by
  have e : Go.AI.V.c_impl_TreeNodes 20000 20 (.str l l.length) H0 = some (.one .tup (.cons (nI 0) (.cons (.bool false) (.leaf .nil))), H0) := by
    delta Go.AI.V.c_impl_TreeNodes
    rw [read_bad (lenL_eq l) hm ht, bindR_some', aExtract_0, aExtract_1, aNot_b, bnot_f, withBool_bool, bc_true]
  show fgC _ _ _ = _
  unfold fgC
  rw [show sv l = .str l l.length from rfl, e]; rfl
def eqN : List Nat → List Nat → Bool := @List.rec Nat (fun _ => List Nat → Bool) (fun y => @List.rec Nat (fun _ => Bool) true (fun _ _ _ => false) y) (fun a _ f y => @List.rec Nat (fun _ => Bool) false (fun b t _ => bc (Nat.beq a b) (f t) false) y)
theorem eqN_eq : ∀ x y, eqN x y = true → x = y
  | [], [], _ => rfl
  | [], _ :: _, h => by cases h
  | _ :: _, [], h => by cases h
  | a :: x, b :: y, h => by
    have h : bc (Nat.beq a b) (eqN x y) false = true := h
    cases hab : Nat.beq a b with
    | false => rw [hab] at h; cases h
    | true =>
      rw [hab] at h
      rw [Nat.eq_of_beq_eq_true hab, eqN_eq x y h]
def all4 (f : List Nat → Bool) : Bool := bc (f [40, 41]) (bc (f [40, 40, 41, 41]) (bc (f [40, 40, 41, 40, 41, 41]) (f [40, 40, 40, 41, 41, 41]) false) false) false
def is4 (l : List Nat) : Bool := bc (eqN l [40, 41]) true (bc (eqN l [40, 40, 41, 41]) true (bc (eqN l [40, 40, 41, 40, 41, 41]) true (eqN l [40, 40, 40, 41, 41, 41])))
def ok4 (l : List Nat) : Bool := bc (Nat.ble (lenL l) 6) (is4 l) true
theorem ok4_all : allR ok4 17 1 1 (fun l => 40 :: l) = true := by kernel_rfl
theorem is4_of {l : List Nat} (ht : isTree l = true) (hl : l.length ≤ 6) : l = [40, 41] ∨ l = [40, 40, 41, 41] ∨ l = [40, 40, 41, 40, 41, 41] ∨ l = [40, 40, 40, 41, 41, 41] := by
  obtain ⟨r, hr, he⟩ := List.mem_map.1 (isTree_mem ht)
  have h1 := allR_mem ok4 17 1 1 (fun l => 40 :: l) ok4_all r hr
  rw [show (40 :: r) = _ from he] at h1
  unfold ok4 at h1
  rw [lenL_eq, ble_true hl, bc_true] at h1
  unfold is4 at h1
  cases q1 : eqN l [40, 41] with
  | true => exact .inl (eqN_eq _ _ q1)
  | false =>
    rw [q1, bc_false] at h1
    cases q2 : eqN l [40, 40, 41, 41] with
    | true => exact .inr (.inl (eqN_eq _ _ q2))
    | false =>
      rw [q2, bc_false] at h1
      cases q3 : eqN l [40, 40, 41, 40, 41, 41] with
      | true => exact .inr (.inr (.inl (eqN_eq _ _ q3)))
      | false =>
        rw [q3, bc_false] at h1
        exact .inr (.inr (.inr (eqN_eq _ _ h1)))
theorem bc_both {p q : Bool} (h : bc p q false = true) : p = true ∧ q = true := by
  cases p with
  | true => exact ⟨rfl, h⟩
  | false => cases h
theorem all4_mem {f : List Nat → Bool} (h : all4 f = true) {l : List Nat} (ht : isTree l = true) (hl : l.length ≤ 6) : f l = true := by
  obtain ⟨h1, h2⟩ := bc_both (p := f [40, 41]) h
  obtain ⟨h2, h3⟩ := bc_both (p := f [40, 40, 41, 41]) h2
  obtain ⟨h3, h4⟩ := bc_both (p := f [40, 40, 41, 40, 41, 41]) h3
  rcases is4_of ht hl with rfl | rfl | rfl | rfl <;> assumption
theorem nodes_good (F g : Nat) {l : List Nat} (ht : isTree l = true) (hl : l.length ≤ 6) (h : H) : ∃ q, q ≤ 9 ∧ c_impl_TreeNodes F g (sv l) h = some (.one .tup (.cons (nI q) (.cons (.bool true) (.leaf .nil))), h) := by
  rcases is4_of ht hl with rfl | rfl | rfl | rfl
  · exact ⟨1, by omega, by kernel_rfl⟩
  · exact ⟨2, by omega, by kernel_rfl⟩
  · exact ⟨3, by omega, by kernel_rfl⟩
  · exact ⟨3, by omega, by kernel_rfl⟩
abbrev noT : AV := .one .tup (.cons (.str [] 0) (.cons (.bool false) (.leaf .nil)))
theorem get_text {ks : List (List Nat)} {h : H} {a i : Nat} {k : List Nat} (ha : h.get a = .cells 0 (ks.map sv)) (hi : ks[i]? = some k) (kk : AV → H → Option R) : aIdxAddr 1 (.osl a 0 ks.length 1) (nI i) h (fun x h => aLoad x h kk) = kk (sv k) h := by
  rw [idxOsl (List.getElem?_eq_some_iff.1 hi).1, Nat.zero_add, Nat.mul_one, load_at (a := sv k) ha (by rw [nthO_eq, List.getElem?_map, hi]; rfl)]
theorem impl_bad {F g : Nat} {ks : List (List Nat)} (hg : ∀ k ∈ ks, Good k) {h : H} {a : Nat} (ha : h.get a = .cells 0 (ks.map sv)) : ∀ (N i s : Nat), (∃ j k, i ≤ j ∧ ks[j]? = some k ∧ isTree k = false) → ks.length - i < N → s ≤ 100 * i + 1 → ks.length ≤ 3 →
    loopD N (c_impl_TreeOf_l2 F g) [.osl a 0 ks.length 1, nI s, .osl a 0 ks.length 1, nI ks.length, nI i] h = some (noT, h)
  | 0, _, _, _, h0, _, _ => by omega
  | N + 1, i, s, ⟨j, k, hij, hj, hk⟩, hN, hs, h3 => by
    have hjl := (List.getElem?_eq_some_iff.1 hj).1
    obtain ⟨l, hl⟩ : ∃ l, ks[i]? = some l := ⟨_, List.getElem?_eq_getElem (by omega)⟩
    have hgl := hg l (List.mem_of_getElem? hl)
    rw [loopD_succ]
    delta c_impl_TreeOf_l2
    dsimp only [hd_cons, tl_cons]
    rw [lssN, withBool_bool, ble_true (show Nat.succ i ≤ ks.length by omega), bc_true, get_text ha hl]
    cases ht : isTree l with
    | false =>
      rw [nodes_bad F g (by have := hgl.1; omega) ht, bindR_some', aExtract_0, aExtract_1, addN (by omega)]
      rfl
    | true =>
      obtain ⟨q, hq, e⟩ := nodes_good F g ht (hgl.2 ht) h
      rw [e, bindR_some', aExtract_0, aExtract_1, addN (by omega), aNot_b, bnot_t, guardB_bool]
      rw [show bc (bc false false (bnot false)) = bc true from rfl, bc_true, show AV.int 3 (Int.ofNat 9) = nI 9 from rfl, gtrN]
      cases hb : Nat.ble (Nat.succ 9) (s + q) with
      | true => rfl
      | false =>
        have hij2 : i ≠ j := fun e => by subst e; rw [hl] at hj; cases hj; rw [ht] at hk; cases hk
        refine Eq.trans ?_ (impl_bad (F := F) (g := g) hg ha N (i + 1) (s + q) ⟨j, k, by omega, hj, hk⟩ (by omega) (by omega) h3)
        refine (show _ = aArith iadd (nI i) (nI 1) h fun x26 h => loopD N (c_impl_TreeOf_l2 F g) [.osl a 0 ks.length 1, nI (s + q), .osl a 0 ks.length 1, nI ks.length, x26] h from rfl).trans ?_
        rw [addN (by omega)]
theorem spec_badL {F g : Nat} {ks : List (List Nat)} {h : H} {a : Nat} (ha : h.get a = .cells 0 (ks.map sv)) : ∀ (N i : Nat), (∃ j k, i ≤ j ∧ ks[j]? = some k ∧ isTree k = false) → ks.length - i < N → ks.length ≤ 3 →
    loopD N (c_spec_TreeOf_l1 F g) [.osl a 0 ks.length 1, nI i] h = some (noT, h)
  | 0, _, _, h0, _ => by omega
  | N + 1, i, ⟨j, k, hij, hj, hk⟩, hN, h3 => by
    have hjl := (List.getElem?_eq_some_iff.1 hj).1
    obtain ⟨l, hl⟩ : ∃ l, ks[i]? = some l := ⟨_, List.getElem?_eq_getElem (by omega)⟩
    rw [loopD_succ]
    delta c_spec_TreeOf_l1
    dsimp only [hd_cons, tl_cons]
    rw [leOsl, lssN, withBool_bool, ble_true (show Nat.succ i ≤ ks.length by omega), bc_true, get_text ha hl, show sv l = .str l l.length from rfl]
    cases ht : isTree l with
    | false =>
      rw [spec_bad (lenL_eq l) ht, bindR_some']
      rfl
    | true =>
      rw [spec_good (lenL_eq l) ht, bindR_some', aNot_b, bnot_t, withBool_bool, bc_false, show AV.int 3 (Int.ofNat 1) = nI 1 from rfl, addN (by omega)]
      have hij2 : i ≠ j := fun e => by subst e; rw [hl] at hj; cases hj; rw [ht] at hk; cases hk
      exact spec_badL ha N (i + 1) ⟨j, k, by omega, hj, hk⟩ (by omega) h3
def mem (B : Blk) (L : List AV) : H := (hCode B).push (.cells 0 L)
def svc (l : List Nat) : AV := .str l (lenL l)
theorem svc_eq (l : List Nat) : svc l = sv l := by unfold svc sv; rw [lenL_eq]
theorem law0 (B : Blk) : tells (c_laws_FnTreeOf_r5 2097152 20 (xOf 1 0) (mem B [])) = true := by kernel_rfl
theorem law1 (B : Blk) : all4 (fun a => tells (c_laws_FnTreeOf_r5 2097152 20 (xOf 1 1) (mem B [svc a]))) = true := by kernel_rfl
theorem law2 (B : Blk) : all4 (fun a => all4 fun b => tells (c_laws_FnTreeOf_r5 2097152 20 (xOf 1 2) (mem B [svc a, svc b]))) = true := by kernel_rfl
theorem law3 (B : Blk) : all4 (fun a => all4 fun b => all4 fun c => tells (c_laws_FnTreeOf_r5 2097152 20 (xOf 1 3) (mem B [svc a, svc b, svc c]))) = true := by kernel_rfl
end
end Go.AI.T
