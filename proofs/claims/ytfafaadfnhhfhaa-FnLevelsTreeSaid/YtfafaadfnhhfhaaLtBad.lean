/- Lists of levels that are refused. -/
import Derived.Test.YtfafaadfnhhfhaaLtDraw
import Derived.KernelRfl
namespace Go.AI.T
open Go Go.RowKit Go.AI
set_option linter.unusedVariables false
set_option linter.unusedSimpArgs false
set_option maxRecDepth 100000
noncomputable section
def okFrom : Nat → List Nat → Bool
  | _, [] => true
  | p, e :: t => decide (1 ≤ e) && decide (e ≤ p + 1) && okFrom e t
def valid : List Nat → Bool
  | [] => false
  | e :: t => decide (e = 0) && okFrom e t
abbrev noT : AV := .one .tup (.cons (.str [] 0) (.cons (.bool false) (.leaf .nil)))
theorem rd {h : H} {L : List Nat} (hg : h.get 1 = .cells 0 (L.map nI)) {o n i e : Nat} (hi : i < n) (he : L[o + i]? = some e) (kk : AV → H → Option R) : aIdxAddr 1 (.osl 1 o n 1) (nI i) h (fun x h => aLoad x h kk) = kk (nI e) h := by
  rw [idxOsl hi, Nat.mul_one, load_at (a := nI e) hg (by rw [nthO_eq, List.getElem?_map, he]; rfl)]
theorem rd' {h : H} {L : List Nat} (hg : h.get 1 = .cells 0 (L.map nI)) {o n i e : Nat} (hi : i < n) (he : L[o + i]? = some e) (kk : AV → Option R) : aIdxAddr 1 (.osl 1 o n 1) (nI i) h (fun x _ => aLoad x h fun y _ => kk y) = kk (nI e) := by
  rw [idxOsl hi, Nat.mul_one, load_at (a := nI e) hg (by rw [nthO_eq, List.getElem?_map, he]; rfl)]
theorem impl_loop {F g : Nat} {h : H} {L : List Nat} (hg : h.get 1 = .cells 0 (L.map nI)) (hb : ∀ e ∈ L, e ≤ 2000) {o n : Nat} (hn : n ≤ 9) : ∀ (N : Nat) (rest : List Nat) (p i : Nat), L[o + i]? = some p → (∀ j e, rest[j]? = some e → L[o + (i + 1 + j)]? = some e) → i + 1 + rest.length = n → rest.length < N → okFrom p rest = false →
    loopD N (c_impl_levels_isTree_l2 F g) [.osl 1 o n 1, .osl 1 (o + 1) (n - 1) 1, nI (n - 1), nI i] h = some (.bool false, h)
  | 0, _, _, _, _, _, _, h0, _ => absurd h0 (Nat.not_lt_zero _)
  | N + 1, [], p, i, _, _, _, _, hk => by cases hk
  | N + 1, e :: t, p, i, hp, hr, hl, hN, hk => by
    simp only [List.length_cons] at hl hN
    have he := hr 0 e rfl
    have hp2 := hb p (List.mem_of_getElem? hp)
    rw [loopD_succ]
    delta c_impl_levels_isTree_l2
    dsimp only [hd_cons, tl_cons]
    rw [lssN, withBool_bool, ble_true (show Nat.succ i ≤ n - 1 by omega), bc_true, rd (n := n - 1) (o := o + 1) hg (by omega) (by rw [show o + 1 + i = o + (i + 1 + 0) by omega]; exact he), show AV.int 3 (Int.ofNat 1) = nI 1 from rfl, lssN, guardB_bool]
    by_cases h1 : 1 ≤ e
    · rw [ble_false (show 1 < Nat.succ e by omega), show bc (bc false false (bnot false)) = bc true from rfl, bc_true, rd (n := n) (o := o) hg (by omega) hp, addN (by omega), gtrN]
      by_cases h2 : e ≤ p + 1
      · rw [ble_false (show e < Nat.succ (p + 1) by omega)]
        have hk' : okFrom e t = false := by
          have : (decide (1 ≤ e) && decide (e ≤ p + 1) && okFrom e t) = false := hk
          simpa [h1, h2] using this
        refine Eq.trans ?_ (impl_loop (F := F) (g := g) hg hb hn N t e (i + 1) he (fun j x hx => by have := hr (j + 1) x hx; rw [show o + (i + 1 + 1 + j) = o + (i + 1 + (j + 1)) by omega]; exact this) (by omega) (by omega) hk')
        refine (show _ = aArith iadd (nI i) (nI 1) h fun x32 h => loopD N (c_impl_levels_isTree_l2 F g) [.osl 1 o n 1, .osl 1 (o + 1) (n - 1) 1, nI (n - 1), x32] h from rfl).trans ?_
        rw [addN (by omega)]
      · rw [ble_true (show Nat.succ (p + 1) ≤ e by omega)]
        rfl
    · rw [ble_true (show Nat.succ e ≤ 1 by omega)]
      rfl
theorem impl_isTree {F g : Nat} {h : H} {pre ds : List Nat} (hF : 20 ≤ F) (hg : h.get 1 = .cells 0 ((pre ++ ds).map nI)) (hb : ∀ e ∈ pre ++ ds, e ≤ 2000) (hn : ds.length ≤ 9) (hv : valid ds = false) :
    c_impl_levels_isTree F g (.osl 1 pre.length ds.length 1) h = some (.bool false, h) := by
  cases ds with
  | nil => rfl
  | cons e t =>
    have hlen : (e :: t).length = t.length + 1 := rfl
    delta c_impl_levels_isTree
    rw [leOsl, show AV.int 3 (Int.ofNat 1) = nI 1 from rfl, lssN, ble_false (show 1 < Nat.succ (e :: t).length by rw [hlen]; omega), guardB_bool, show bc (bc false false (bnot false)) = bc true from rfl, bc_true, leOsl, show AV.int 3 (Int.ofNat 9) = nI 9 from rfl, gtrN, ble_false (show (e :: t).length < Nat.succ 9 by omega)]
    refine (show _ = aIdxAddr 1 (.osl 1 pre.length (e :: t).length 1) (nI 0) h (fun x37 h => aLoad x37 h fun x38 h => aCmpI (fun a b => bnot (ieq a b)) x38 (nI 0) h fun x39 h => (c_impl_levels_isTree_j3 F g) [.osl 1 pre.length (e :: t).length 1, .bool false, x39] h) from rfl).trans ?_
    rw [rd (L := pre ++ e :: t) (e := e) hg (by rw [hlen]; omega) (by rw [Nat.add_zero]; simp)]
    refine (show _ = c_impl_levels_isTree_j3 F g [.osl 1 pre.length (e :: t).length 1, .bool false, .bool (bnot (Nat.beq e 0))] h from rfl).trans ?_
    by_cases he : e = 0
    · subst he
      have hk : okFrom 0 t = false := by
        have : (decide (0 = 0) && okFrom 0 t) = false := hv
        simpa using this
      have e0 : c_impl_levels_isTree_j3 F g [.osl 1 pre.length (0 :: t).length 1, .bool false, .bool (bnot (Nat.beq 0 0))] h = aSliceV 1 (.osl 1 pre.length (0 :: t).length 1) (some (nI 1)) none none h fun x12 h => aLenK 1 x12 h fun x13 h => loopD F (c_impl_levels_isTree_l2 F g) [.osl 1 pre.length (0 :: t).length 1, x12, x13, nI 0] h := rfl
      rw [e0]
      have e1 : ∀ k : AV → H → Option R, aSliceV 1 (.osl 1 pre.length (0 :: t).length 1) (some (nI 1)) none none h k = k (.osl 1 (pre.length + 1) ((0 :: t).length - 1) 1) h := fun k => by
        show bc (Nat.ble 1 (0 :: t).length) (bc (Nat.ble (0 :: t).length (0 :: t).length) (bc (Nat.beq 1 1) (k (.osl 1 (Nat.add pre.length (Nat.mul 1 1)) (Nat.sub (0 :: t).length 1) 1) h) none) none) none = _
        rw [ble_true (show 1 ≤ (0 :: t).length by rw [hlen]; omega), ble_true (Nat.le_refl _)]; rfl
      rw [e1, leOsl]
      exact impl_loop (L := pre ++ 0 :: t) hg hb hn F t 0 0 (by rw [Nat.add_zero]; simp) (fun j x hx => by
        rw [show pre.length + (0 + 1 + j) = pre.length + (j + 1) by omega, List.getElem?_append_right (by omega)]
        rw [show pre.length + (j + 1) - pre.length = j + 1 by omega]; exact hx) (by rw [hlen]; omega) (by rw [hlen] at hn; omega) hk
    · rw [show Nat.beq e 0 = false by rw [beq_decide, decide_eq_false_iff_not]; exact he]
      rfl
theorem in_ok {F g a b c : Nat} {h : H} : c_spec_l6In F g (nI a) (nI b) (nI c) h = some (.bool (bc (Nat.ble b a) (Nat.ble a c) false), h) := by
  delta c_spec_l6In
  show guardB true (.bool (Nat.ble b a)) (aCmpI ile (nI a) (nI c) h fun x5 h => c_spec_l6In_j1 F g [.bool (Nat.ble b a), x5] h) (c_spec_l6In_j1 F g [.bool (Nat.ble b a), .one .tup (.leaf .nil)] h) = _
  cases Nat.ble b a <;> rfl
theorem spec_loop {F g : Nat} {h : H} {L : List Nat} (hg : h.get 1 = .cells 0 (L.map nI)) (hb : ∀ e ∈ L, e ≤ 2000) {o n : Nat} (hn : n ≤ 9) : ∀ (N : Nat) (rest : List Nat) (p i : Nat), L[o + i]? = some p → (∀ j e, rest[j]? = some e → L[o + (i + 1 + j)]? = some e) → i + 1 + rest.length = n → rest.length < N → okFrom p rest = false →
    loopD N (c_spec_l3In_l5 F g) [.osl 1 o n 1, nI (i + 1)] h = some (.bool false, h)
  | 0, _, _, _, _, _, _, h0, _ => absurd h0 (Nat.not_lt_zero _)
  | N + 1, [], p, i, _, _, _, _, hk => by cases hk
  | N + 1, e :: t, p, i, hp, hr, hl, hN, hk => by
    simp only [List.length_cons] at hl hN
    have he := hr 0 e rfl
    have hp2 := hb p (List.mem_of_getElem? hp)
    rw [loopD_succ]
    have st : c_spec_l3In_l5 F g [.osl 1 o n 1, nI (i + 1)] h (loopD N (c_spec_l3In_l5 F g)) = bc (Nat.ble (Nat.succ (i + 1)) n) (aIdxAddr 1 (.osl 1 o n 1) (nI (i + 1)) h fun x30 _ => aLoad x30 h fun x31 _ => aArith isub (nI (i + 1)) (nI 1) h fun x32 _ => aIdxAddr 1 (.osl 1 o n 1) x32 h fun x33 _ => aLoad x33 h fun x34 _ => aArith iadd x34 (nI 1) h fun x35 _ => bindR (c_spec_l6In F g x31 (nI 1) x35 h) fun x36 h => aNot x36 h fun x37 _ => (c_spec_l3In_j2 F g (loopD N (c_spec_l3In_l5 F g))) [.osl 1 o n 1, nI (i + 1), .bool false, .bool true, x37] h) (bindR (c_spec_l6In F g (nI n) (nI 1) (nI 9) h) fun x43 h => some (x43, h)) := rfl
    rw [st, ble_true (show Nat.succ (i + 1) ≤ n by omega), bc_true]
    rw [rd' (n := n) (o := o) (e := e) hg (by omega) (by rw [show o + (i + 1) = o + (i + 1 + 0) by omega]; exact he) fun x31 => aArith isub (nI (i + 1)) (nI 1) h fun x32 _ => aIdxAddr 1 (.osl 1 o n 1) x32 h fun x33 _ => aLoad x33 h fun x34 _ => aArith iadd x34 (nI 1) h fun x35 _ => bindR (c_spec_l6In F g x31 (nI 1) x35 h) fun x36 h => aNot x36 h fun x37 _ => (c_spec_l3In_j2 F g (loopD N (c_spec_l3In_l5 F g))) [.osl 1 o n 1, nI (i + 1), .bool false, .bool true, x37] h]
    rw [subN (by omega) (by omega), show i + 1 - 1 = i from rfl]
    rw [rd' (n := n) (o := o) (e := p) hg (by omega) hp fun x34 => aArith iadd x34 (nI 1) h fun x35 _ => bindR (c_spec_l6In F g (nI e) (nI 1) x35 h) fun x36 h => aNot x36 h fun x37 _ => (c_spec_l3In_j2 F g (loopD N (c_spec_l3In_l5 F g))) [.osl 1 o n 1, nI (i + 1), .bool false, .bool true, x37] h]
    rw [addN (by omega), in_ok, bindR_some', aNot_b]
    by_cases h12 : 1 ≤ e ∧ e ≤ p + 1
    · rw [ble_true h12.1, bc_true, ble_true h12.2]
      have hk' : okFrom e t = false := by
        have : (decide (1 ≤ e) && decide (e ≤ p + 1) && okFrom e t) = false := hk
        simpa [h12.1, h12.2] using this
      refine Eq.trans ?_ (spec_loop (F := F) (g := g) hg hb hn N t e (i + 1) he (fun j x hx => by have := hr (j + 1) x hx; rw [show o + (i + 1 + 1 + j) = o + (i + 1 + (j + 1)) by omega]; exact this) (by omega) (by omega) hk')
      refine (show _ = aArith iadd (nI (i + 1)) (nI 1) h fun x28 h => loopD N (c_spec_l3In_l5 F g) [.osl 1 o n 1, x28] h from rfl).trans ?_
      rw [addN (by omega)]
    · rw [show bc (Nat.ble 1 e) (Nat.ble e (p + 1)) false = false by
        by_cases h1 : 1 ≤ e
        · rw [ble_true h1, bc_true, ble_false (by omega)]
        · rw [ble_false (by omega), bc_false]]
      rfl
theorem spec_in {F g : Nat} {h : H} {pre ds : List Nat} (hg : h.get 1 = .cells 0 ((pre ++ ds).map nI)) (hb : ∀ e ∈ pre ++ ds, e ≤ 2000) (hn : ds.length ≤ 9) (hv : valid ds = false) :
    c_spec_l3In (F + 20) g (.osl 1 pre.length ds.length 1) h = some (.bool false, h) := by
  delta c_spec_l3In
  cases ds with
  | nil => rfl
  | cons e t =>
    have hlen : (e :: t).length = t.length + 1 := rfl
    rw [show F + 20 = (F + 19) + 1 from rfl, loopD_succ]
    have st : ∀ K, c_spec_l3In_l5 (F + 19 + 1) g [.osl 1 pre.length (e :: t).length 1, nI 0] h K = aIdxAddr 1 (.osl 1 pre.length (e :: t).length 1) (nI 0) h fun x39 _ => aLoad x39 h fun x40 _ => aCmpI (fun a b => bnot (ieq a b)) x40 (nI 0) h fun x41 _ => (c_spec_l3In_j4 (F + 19 + 1) g K) [.osl 1 pre.length (e :: t).length 1, nI 0, .bool true, x41] h := fun K => rfl
    refine (st _).trans ?_
    rw [rd' (L := pre ++ e :: t) (e := e) hg (by rw [hlen]; omega) (by rw [Nat.add_zero]; simp) fun x40 => aCmpI (fun a b => bnot (ieq a b)) x40 (nI 0) h fun x41 _ => (c_spec_l3In_j4 (F + 19 + 1) g (loopD (F + 19) (c_spec_l3In_l5 (F + 19 + 1) g))) [.osl 1 pre.length (e :: t).length 1, nI 0, .bool true, x41] h]
    refine (show _ = c_spec_l3In_j4 (F + 19 + 1) g (loopD (F + 19) (c_spec_l3In_l5 (F + 19 + 1) g)) [.osl 1 pre.length (e :: t).length 1, nI 0, .bool true, .bool (bnot (Nat.beq e 0))] h from rfl).trans ?_
    by_cases he : e = 0
    · subst he
      have hk : okFrom 0 t = false := by
        have : (decide (0 = 0) && okFrom 0 t) = false := hv
        simpa using this
      refine Eq.trans ?_ (spec_loop (F := F + 19 + 1) (g := g) (L := pre ++ 0 :: t) (o := pre.length) (n := (0 :: t).length) hg hb hn (F + 19) t 0 0 (by rw [Nat.add_zero]; simp) (fun j x hx => by
        rw [show pre.length + (0 + 1 + j) = pre.length + (j + 1) by omega, List.getElem?_append_right (by omega)]
        rw [show pre.length + (j + 1) - pre.length = j + 1 by omega]; exact hx) (by rw [hlen]; omega) (by rw [hlen] at hn; omega) hk)
      rfl
    · rw [show Nat.beq e 0 = false by rw [beq_decide, decide_eq_false_iff_not]; exact he]
      rfl
def mem (B : Blk) (L : List AV) : H := (hCode B).push (.cells 0 L)
def numL (l : List Nat) : List AV := @List.rec Nat (fun _ => List AV) [] (fun a _ r => .int 3 (.ofNat a) :: r) l
theorem numL_eq : ∀ l : List Nat, numL l = l.map nI
  | [] => rfl
  | a :: l => by show _ :: numL l = _; rw [numL_eq l]; rfl
def allUp (f : Nat → Bool) (k : Nat) : Bool := @Nat.rec (fun _ => Bool) true (fun j r => bc (f (Nat.succ j)) r false) k
theorem bc_both {p q : Bool} (h : bc p q false = true) : p = true ∧ q = true := by
  cases p with
  | true => exact ⟨rfl, h⟩
  | false => cases h
theorem allUp_mem {f : Nat → Bool} : ∀ {k v : Nat}, allUp f k = true → 1 ≤ v → v ≤ k → f v = true
  | 0, v, _, h1, h2 => by omega
  | k + 1, v, h, h1, h2 => by
    obtain ⟨ha, hb⟩ := bc_both (p := f (k + 1)) (q := allUp f k) h
    by_cases hv : v = k + 1
    · subst hv; exact ha
    · exact allUp_mem hb h1 (by omega)
def allV (t : List Nat → Bool) (n : Nat) : Nat → (List Nat → List Nat) → Bool := @Nat.rec (fun _ => Nat → (List Nat → List Nat) → Bool) (fun _ p => t (p [])) (fun _ ih last p => bc (t (p [])) (allUp (fun v => ih v (fun l => p (v :: l))) (Nat.succ last)) false) n
theorem allV_mem {t : List Nat → Bool} : ∀ (n last : Nat) (p : List Nat → List Nat) (rest : List Nat), allV t n last p = true → okFrom last rest = true → rest.length ≤ n → t (p rest) = true
  | 0, last, p, [], h, _, _ => h
  | 0, last, p, _ :: _, _, _, hl => by simp at hl
  | n + 1, last, p, [], h, _, _ => (bc_both (p := t (p [])) h).1
  | n + 1, last, p, v :: rest, h, hk, hl => by
    have h2 := (bc_both (p := t (p [])) (q := allUp (fun v => allV t n v (fun l => p (v :: l))) (Nat.succ last)) h).2
    have hk : (decide (1 ≤ v) && decide (v ≤ last + 1) && okFrom v rest) = true := hk
    simp at hk
    exact allV_mem n v (fun l => p (v :: l)) rest (allUp_mem h2 hk.1.1 hk.1.2) hk.2 (by simp at hl; omega)
def t0 (B : Blk) (l : List Nat) : Bool := tells (c_laws_FnLevelsTree_r5 2097152 20 (.osl 1 0 (lenL l) 1) (mem B (numL l)))
def t1 (B : Blk) (e : Nat) (l : List Nat) : Bool := tells (c_laws_FnLevelsTree_r5 2097152 20 (.osl 1 1 (lenL l) 1) (mem B (.int 3 (.ofNat e) :: numL l)))
end
end Go.AI.T
