/- What is no tree is told as none by both. -/
import Derived.Test.YtelijoecjhgleaaGreatDoorFnExecuteSameFn
import Derived.KernelRfl
set_option linter.unusedVariables false
set_option linter.unusedSimpArgs false
set_option maxRecDepth 100000
namespace Go.AI.T
open Go Go.RowKit Go.AI
noncomputable section
theorem bad_FnExecuteSame (B : Blk) (N g : Nat) {l : List Nat} {n : Nat} (hn : lenL l = n) (hm : n <= 1048576) (ht : isTree l = false) : tells (c_laws_FnExecuteSame_r5 (N + 5) g (.str l n) (hCode B)) = true := by
  delta c_laws_FnExecuteSame_r5
  delta C_r5
  delta c_impl_CountSame c_spec_CountSame
  delta c_impl_countsIn
  repeat (first | rw [zanp hn ht] | rw [zan6 hn hm ht] | rw [bindR_some'] | rw [zatd] | rw [zas8] | rw [aNot_b] | rw [bnot_f] | rw [bnot_t] | rw [zaai] | rw [bc_true] | rw [zaag])
  kernel_rfl
def ok_FnExecuteSame (B : Blk) (l : List Nat) : Bool := bc (Nat.ble (lenL l) 16) (tells (c_laws_FnExecuteSame_r5 2097152 20 (.str l (lenL l)) (hCode B))) true
end
end Go.AI.T
namespace Go.AI.T
open Go Go.RowKit Go.AI
noncomputable section
def takeR (k : Nat) (l : List (List Nat)) : List (List Nat) := l.take k
def allL (t : List Nat -> Bool) (l : List (List Nat)) : Bool := @List.rec (List Nat) (fun _ => Bool) true (fun x _ r => bc (t (40 :: x)) r false) l
def okS (t : List Nat -> Bool) (k i : Nat) : Bool := allL t (((rests 17 1 1).drop (k * i)).take k)
def okL (t : List Nat -> Bool) (k a n : Nat) : Bool := @Nat.rec (fun _ => Nat -> Bool) (fun _ => true) (fun _ r a => bc (okS t k a) (r (a + 1)) false) n a
theorem cc {t : List Nat -> Bool} {k a n : Nat} (h1 : okS t k a = true) (h2 : okL t k (a + 1) n = true) : okL t k a (n + 1) = true := by
  show bc (okS t k a) (okL t k (a + 1) n) false = true
  rw [h1, h2]; rfl
theorem okL_mem {t : List Nat -> Bool} {k : Nat} : ∀ {n a : Nat}, okL t k a n = true -> ∀ i, a <= i -> i < a + n -> okS t k i = true
  | 0, a, _, i, h1, h2 => by omega
  | n + 1, a, h, i, h1, h2 => by
    have h : bc (okS t k a) (okL t k (a + 1) n) false = true := h
    cases h3 : okS t k a with
    | false => rw [h3] at h; cases h
    | true =>
      rw [h3, bc_true] at h
      by_cases e : i = a
      · subst e; exact h3
      · exact okL_mem h i (by omega) (by omega)
theorem allL_mem {t : List Nat -> Bool} : ∀ {l : List (List Nat)}, allL t l = true -> ∀ x ∈ l, t (40 :: x) = true
  | [], _, x, hx => by cases hx
  | y :: l, h, x, hx => by
    have h : bc (t (40 :: y)) (allL t l) false = true := h
    cases h1 : t (40 :: y) with
    | false => rw [h1] at h; cases h
    | true =>
      rw [h1, bc_true] at h
      rcases List.mem_cons.1 hx with rfl | hx
      · exact h1
      · exact allL_mem h x hx
theorem nTrees : (rests 17 1 1).length = 2056 := by kernel_rfl
theorem okS_all {t : List Nat -> Bool} {k K : Nat} (hk : 0 < k) (hK : 2056 <= k * K) (h : ∀ i, i < K -> okS t k i = true) {l : List Nat} (ht : isTree l = true) : t l = true := by
  obtain ⟨r, hr, rfl⟩ := List.mem_map.1 (zaub ht)
  obtain ⟨j, hj, hjr⟩ := List.getElem_of_mem hr
  have hj2 : j < 2056 := by rw [<- nTrees]; exact hj
  have hi : j / k < K := Nat.div_lt_of_lt_mul (by omega)
  refine allL_mem (h (j / k) hi) r ?_
  have e := Nat.div_add_mod j k
  have hm := Nat.mod_lt j hk
  rw [List.mem_iff_getElem?]
  refine ⟨j % k, ?_⟩
  rw [List.getElem?_take, if_pos hm, List.getElem?_drop, e, List.getElem?_eq_getElem hj, hjr]
end
end Go.AI.T
