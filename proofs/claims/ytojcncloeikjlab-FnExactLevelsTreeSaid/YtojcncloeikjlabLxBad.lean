/- Rows of numbers that are no levels. -/
import Derived.Test.YtojcncloeikjlabLxFn
import Derived.KernelRfl
namespace Go.AI.T
open Go Go.RowKit Go.AI
set_option linter.unusedVariables false
set_option linter.unusedSimpArgs false
set_option maxRecDepth 100000
noncomputable section
/-- A number of a row. -/
abbrev zI (z : Int) : AV := .int 3 z
def okFrom : Nat → List Int → Bool
  | _, [] => true
  | p, e :: t => decide (1 ≤ e) && decide (e ≤ p + 1) && okFrom e.toNat t
def valid : List Int → Bool
  | [] => false
  | e :: t => decide (e = 0) && okFrom 0 t
abbrev noT : AV := .one .tup (.cons (.str [] 0) (.cons (.bool false) (.leaf .nil)))
theorem lssZ {α : Type} (a b : Int) (h : H) (k : AV → H → Option α) : aCmpI ilt (zI a) (zI b) h k = k (.bool (decide (a < b))) h := by rw [aCmpI_int, kEq_self, bc_true, ilt_eq]
theorem gtrZ {α : Type} (a b : Int) (h : H) (k : AV → H → Option α) : aCmpI (fun a b => ilt b a) (zI a) (zI b) h k = k (.bool (decide (b < a))) h := by rw [aCmpI_int, kEq_self, bc_true, ilt_eq]
theorem neqZ {α : Type} (a b : Int) (h : H) (k : AV → H → Option α) : aCmpI (fun a b => bnot (ieq a b)) (zI a) (zI b) h k = k (.bool (!decide (a = b))) h := by
  rw [aCmpI_int, kEq_self, bc_true, ieq_eq]; cases decide (a = b) <;> rfl
theorem at_map {ds : List Int} {i : Nat} {e : Int} (he : ds[i]? = some e) : (ds.map zI)[i]? = some (zI e) := by rw [List.getElem?_map, he]; rfl
theorem in_ok {F g : Nat} {a b c : Int} {h : H} : c_spec_l6In F g (zI a) (zI b) (zI c) h = some (.bool (decide (b ≤ a) && decide (a ≤ c)), h) := by
  delta c_spec_l6In
  rw [aCmpI_int, kEq_self, bc_true, ile_eq]
  cases decide (b ≤ a) with
  | true =>
    rw [guardB_bool, show bc (bc true true (bnot true)) = bc true from rfl, bc_true, aCmpI_int, kEq_self, bc_true, ile_eq]
    cases decide (a ≤ c) <;> rfl
  | false => rfl
section
variable {F g : Nat} {x : AV} {b n fl : Nat} {ds : List Int} {T : List AV}
theorem impl_loop (r : Rd x b n (ds.map zI) T) {h : H} (hb : h.get b = .cells fl (ds.map zI ++ T)) (hn : n ≤ 9) {y : AV} (hy : ∀ i e, ds[i + 1]? = some e → ∀ k : AV → H → Option R, aIdxAddr 1 y (nI i) h (fun y h => aLoad y h k) = k (zI e) h) :
    ∀ (N : Nat) (rest : List Int) (p i : Nat), ds[i]? = some (p : Int) → p ≤ i → (∀ j e, rest[j]? = some e → ds[i + 1 + j]? = some e) → i + 1 + rest.length = n → rest.length < N → okFrom p rest = false →
    loopD N (c_impl_levels_isTree_l2 F g) [x, y, nI (n - 1), nI i] h = some (.bool false, h)
  | 0, _, _, _, _, _, _, _, h0, _ => absurd h0 (Nat.not_lt_zero _)
  | N + 1, [], p, i, _, _, _, _, _, hk => by cases hk
  | N + 1, e :: t, p, i, hp, hpi, hr, hl, hN, hk => by
    simp only [List.length_cons] at hl hN
    have he := hr 0 e rfl
    rw [loopD_succ]
    delta c_impl_levels_isTree_l2
    dsimp only [hd_cons, tl_cons]
    rw [lssN, withBool_bool, ble_true (show Nat.succ i ≤ n - 1 by omega), bc_true, hy i e he, show AV.int 3 (Int.ofNat 1) = zI 1 from rfl, lssZ, guardB_bool]
    by_cases h1 : 1 ≤ e
    · rw [decide_eq_false (show ¬ e < 1 by omega), show bc (bc false false (bnot false)) = bc true from rfl, bc_true, r.at_ h fl hb i _ (at_map hp), show zI (p : Int) = nI p from rfl, show zI 1 = nI 1 from rfl, addN (by omega), show nI (p + 1) = zI ((p : Int) + 1) from rfl, gtrZ]
      by_cases h2 : e ≤ p + 1
      · rw [decide_eq_false (show ¬ (p : Int) + 1 < e by omega)]
        have hk' : okFrom e.toNat t = false := by
          have : (decide (1 ≤ e) && decide (e ≤ p + 1) && okFrom e.toNat t) = false := hk
          simpa [h1, h2] using this
        refine Eq.trans ?_ (impl_loop r hb hn hy N t e.toNat (i + 1) (by rw [show i + 1 = i + 1 + 0 from rfl, he]; congr 1; omega) (by omega) (fun j z hz => by have := hr (j + 1) z hz; rw [show i + 1 + 1 + j = i + 1 + (j + 1) by omega]; exact this) (by omega) (by omega) hk')
        refine (show _ = aArith iadd (nI i) (nI 1) h fun x32 h => loopD N (c_impl_levels_isTree_l2 F g) [x, y, nI (n - 1), x32] h from rfl).trans ?_
        rw [addN (by omega)]
      · rw [decide_eq_true (show (p : Int) + 1 < e by omega)]
        rfl
    · rw [decide_eq_true (show e < 1 by omega)]
      rfl
theorem impl_isTree (r : Rd x b n (ds.map zI) T) {h : H} (hF : 20 ≤ F) (hb : h.get b = .cells fl (ds.map zI ++ T)) (hv : valid ds = false ∨ 9 < n)
    (hs : 1 ≤ n → ∃ y : AV, (∀ k : AV → H → Option R, aSliceV 1 x (some (nI 1)) none none h k = k y h) ∧ (∀ k : AV → H → Option R, aLenK 1 y h k = k (nI (n - 1)) h) ∧ ∀ i e, ds[i + 1]? = some e → ∀ k : AV → H → Option R, aIdxAddr 1 y (nI i) h (fun y h => aLoad y h k) = k (zI e) h) :
    c_impl_levels_isTree F g x h = some (.bool false, h) := by
  have hsz : ds.length = n := by rw [← r.size]; simp
  delta c_impl_levels_isTree
  rw [r.len, show AV.int 3 (Int.ofNat 1) = nI 1 from rfl, lssN]
  cases ds with
  | nil => simp at hsz; subst hsz; rfl
  | cons e t =>
    have hlen : n = t.length + 1 := by rw [← hsz]; rfl
    rw [ble_false (show 1 < Nat.succ n by omega), guardB_bool, show bc (bc false false (bnot false)) = bc true from rfl, bc_true, r.len, show AV.int 3 (Int.ofNat 9) = nI 9 from rfl, gtrN]
    by_cases h9 : 9 < n
    · rw [ble_true (show Nat.succ 9 ≤ n from h9)]; rfl
    rw [ble_false (show n < Nat.succ 9 by omega)]
    have hv : valid (e :: t) = false := hv.resolve_right h9
    refine (show _ = aIdxAddr 1 x (nI 0) h (fun x37 h => aLoad x37 h fun x38 h => aCmpI (fun a b => bnot (ieq a b)) x38 (zI 0) h fun x39 h => (c_impl_levels_isTree_j3 F g) [x, .bool false, x39] h) from rfl).trans ?_
    rw [r.at_ h fl hb 0 (zI e) rfl, neqZ]
    by_cases he : e = 0
    · subst he
      have hk : okFrom 0 t = false := by
        have : (decide ((0 : Int) = 0) && okFrom 0 t) = false := hv
        simpa using this
      obtain ⟨y, h1, h2, h3⟩ := hs (by omega)
      rw [decide_eq_true rfl]
      have e0 : c_impl_levels_isTree_j3 F g [x, .bool false, .bool (!true)] h = aSliceV 1 x (some (nI 1)) none none h fun x12 h => aLenK 1 x12 h fun x13 h => loopD F (c_impl_levels_isTree_l2 F g) [x, x12, x13, nI 0] h := rfl
      rw [e0, h1, h2]
      exact impl_loop r hb (by omega) h3 F t 0 0 rfl (Nat.le_refl _) (fun j z hz => by rw [show 0 + 1 + j = j + 1 by omega]; exact hz) (by omega) (by omega) hk
    · rw [decide_eq_false he]
      rfl
theorem spec_loop (r : Rd x b n (ds.map zI) T) {h : H} (hb : h.get b = .cells fl (ds.map zI ++ T)) (hn : n ≤ 1048576) : ∀ (N : Nat) (rest : List Int) (p i : Nat), ds[i]? = some (p : Int) → p ≤ i → (∀ j e, rest[j]? = some e → ds[i + 1 + j]? = some e) → i + 1 + rest.length = n → rest.length < N → okFrom p rest = false ∨ 9 < n →
    loopD N (c_spec_l3In_l5 F g) [x, nI (i + 1)] h = some (.bool false, h)
  | 0, _, _, _, _, _, _, _, h0, _ => absurd h0 (Nat.not_lt_zero _)
  | N + 1, [], p, i, _, _, _, hl, _, hk => by
    have h9 : 9 < n := hk.resolve_left (fun h => by cases h)
    simp at hl
    rw [loopD_succ]
    delta c_spec_l3In_l5
    dsimp only [hd_cons, tl_cons]
    rw [r.len, lssN, withBool_bool, ble_false (show n < Nat.succ (i + 1) by omega), bc_false, r.len, show nI n = zI (n : Int) from rfl, show AV.int 3 (Int.ofNat 1) = zI 1 from rfl, show AV.int 3 (Int.ofNat 9) = zI 9 from rfl, in_ok, bindR_some', decide_eq_false (show ¬ (n : Int) ≤ 9 by omega), Bool.and_false]
  | N + 1, e :: t, p, i, hp, hpi, hr, hl, hN, hk => by
    simp only [List.length_cons] at hl hN
    have he := hr 0 e rfl
    rw [loopD_succ]
    have st : c_spec_l3In_l5 F g [x, nI (i + 1)] h (loopD N (c_spec_l3In_l5 F g)) = aLenK 1 x h fun x4 h => aCmpI ilt (nI (i + 1)) x4 h fun x5 h => withBool x5 fun t6 => bc t6 (aIdxAddr 1 x (nI (i + 1)) h fun x30 _ => aLoad x30 h fun x31 _ => aArith isub (nI (i + 1)) (nI 1) h fun x32 _ => aIdxAddr 1 x x32 h fun x33 _ => aLoad x33 h fun x34 _ => aArith iadd x34 (nI 1) h fun x35 _ => bindR (c_spec_l6In F g x31 (nI 1) x35 h) fun x36 h => aNot x36 h fun x37 _ => (c_spec_l3In_j2 F g (loopD N (c_spec_l3In_l5 F g))) [x, nI (i + 1), .bool false, .bool true, x37] h) (aLenK 1 x h fun x42 h => bindR (c_spec_l6In F g x42 (nI 1) (nI 9) h) fun x43 h => some (x43, h)) := rfl
    rw [st, r.len, lssN, withBool_bool, ble_true (show Nat.succ (i + 1) ≤ n by omega), bc_true]
    rw [r.atq h fl hb (i + 1) (zI e) (at_map he) fun x31 => aArith isub (nI (i + 1)) (nI 1) h fun x32 _ => aIdxAddr 1 x x32 h fun x33 _ => aLoad x33 h fun x34 _ => aArith iadd x34 (nI 1) h fun x35 _ => bindR (c_spec_l6In F g x31 (nI 1) x35 h) fun x36 h => aNot x36 h fun x37 _ => (c_spec_l3In_j2 F g (loopD N (c_spec_l3In_l5 F g))) [x, nI (i + 1), .bool false, .bool true, x37] h]
    rw [subN (by omega) (by omega), show i + 1 - 1 = i from rfl]
    rw [r.atq h fl hb i (zI (p : Int)) (at_map hp) fun x34 => aArith iadd x34 (nI 1) h fun x35 _ => bindR (c_spec_l6In F g (zI e) (nI 1) x35 h) fun x36 h => aNot x36 h fun x37 _ => (c_spec_l3In_j2 F g (loopD N (c_spec_l3In_l5 F g))) [x, nI (i + 1), .bool false, .bool true, x37] h]
    rw [show zI (p : Int) = nI p from rfl, addN (by omega), show nI (p + 1) = zI ((p : Int) + 1) from rfl, show nI 1 = zI 1 from rfl, in_ok, bindR_some', aNot_b]
    by_cases h12 : 1 ≤ e ∧ e ≤ p + 1
    · rw [decide_eq_true h12.1, decide_eq_true h12.2]
      have hk' : okFrom e.toNat t = false ∨ 9 < n := hk.imp_left fun hk => by
        have : (decide (1 ≤ e) && decide (e ≤ p + 1) && okFrom e.toNat t) = false := hk
        simpa [h12.1, h12.2] using this
      refine Eq.trans ?_ (spec_loop r hb hn N t e.toNat (i + 1) (by rw [show i + 1 = i + 1 + 0 from rfl, he]; congr 1; omega) (by omega) (fun j z hz => by have := hr (j + 1) z hz; rw [show i + 1 + 1 + j = i + 1 + (j + 1) by omega]; exact this) (by omega) (by omega) hk')
      refine (show _ = aArith iadd (nI (i + 1)) (nI 1) h fun x28 h => loopD N (c_spec_l3In_l5 F g) [x, x28] h from rfl).trans ?_
      rw [addN (by omega)]
    · rw [show (decide (1 ≤ e) && decide (e ≤ (p : Int) + 1)) = false by simpa using fun h => by omega]
      rfl
theorem spec_in (r : Rd x b n (ds.map zI) T) {h : H} (hF : 1048576 < F) (hb : h.get b = .cells fl (ds.map zI ++ T)) (hn : n ≤ 1048576) (hv : valid ds = false ∨ 9 < n) :
    c_spec_l3In F g x h = some (.bool false, h) := by
  have hsz : ds.length = n := by rw [← r.size]; simp
  obtain ⟨F', rfl⟩ : ∃ F', F = F' + 1 := ⟨F - 1, by omega⟩
  have go : ∀ G, loopD (F' + 1) (c_spec_l3In_l5 G g) [x, nI 0] h = some (.bool false, h) := fun G => by
    rw [loopD_succ]
    cases ds with
    | nil =>
      simp at hsz; subst hsz
      delta c_spec_l3In_l5
      dsimp only [hd_cons, tl_cons]
      rw [r.len, lssN, withBool_bool, ble_false (show 0 < Nat.succ 0 by omega), bc_false, r.len, show nI 0 = zI 0 from rfl, show AV.int 3 (Int.ofNat 1) = zI 1 from rfl, show AV.int 3 (Int.ofNat 9) = zI 9 from rfl, in_ok, bindR_some']
      rfl
    | cons e t =>
      have hlen : n = t.length + 1 := by rw [← hsz]; rfl
      have st : ∀ K, c_spec_l3In_l5 G g [x, nI 0] h K = aLenK 1 x h fun x4 h => aCmpI ilt (nI 0) x4 h fun x5 h => withBool x5 fun t6 => bc t6 (aIdxAddr 1 x (nI 0) h fun x39 _ => aLoad x39 h fun x40 _ => aCmpI (fun a b => bnot (ieq a b)) x40 (zI 0) h fun x41 _ => (c_spec_l3In_j4 G g K) [x, nI 0, .bool true, x41] h) (aLenK 1 x h fun x42 h => bindR (c_spec_l6In G g x42 (nI 1) (nI 9) h) fun x43 h => some (x43, h)) := fun K => rfl
      rw [st, r.len, lssN, withBool_bool, ble_true (show Nat.succ 0 ≤ n by omega), bc_true]
      rw [r.atq h fl hb 0 (zI e) rfl fun x40 => aCmpI (fun a b => bnot (ieq a b)) x40 (zI 0) h fun x41 _ => (c_spec_l3In_j4 G g (loopD F' (c_spec_l3In_l5 G g))) [x, nI 0, .bool true, x41] h, neqZ]
      by_cases he : e = 0
      · subst he
        have hk : okFrom 0 t = false ∨ 9 < n := hv.imp_left fun hv => by
          have : (decide ((0 : Int) = 0) && okFrom 0 t) = false := hv
          simpa using this
        rw [decide_eq_true rfl]
        refine Eq.trans ?_ (spec_loop (F := G) (g := g) r hb hn F' t 0 0 rfl (Nat.le_refl _) (fun j z hz => by rw [show 0 + 1 + j = j + 1 by omega]; exact hz) (by omega) (by omega) hk)
        rfl
      · rw [decide_eq_false he]
        rfl
  exact go _
end
def numT (T : List Int) (l : List Int) : List AV := @List.rec Int (fun _ => List AV) (T.map zI) (fun a _ r => .int 3 a :: r) l
theorem numT_eq (T : List Int) : ∀ l : List Int, numT T l = (l ++ T).map zI
  | [] => rfl
  | a :: l => by show _ :: numT T l = _; rw [numT_eq T l]; rfl
def allUp (f : Nat → Bool) (k : Nat) : Bool := @Nat.rec (fun _ => Bool) true (fun j r => bc (f (Nat.succ j)) r false) k
theorem bc_both {p q : Bool} (h : bc p q false = true) : p = true ∧ q = true := by
  cases p with
  | true => exact ⟨rfl, h⟩
  | false => cases h
theorem allUp_mem {f : Nat → Bool} : ∀ {k v : Nat}, allUp f k = true → 1 ≤ v → v ≤ k → f v = true
  | 0, v, _, h1, h2 => by omega
  | k + 1, v, h, h1, h2 => by
    obtain ⟨ha, hb⟩ := bc_both (p := f (k + 1)) (q := allUp f k) h
    by_cases hv : v = k + 1
    · subst hv; exact ha
    · exact allUp_mem hb h1 (by omega)
def allV (t : List Nat → Bool) (n : Nat) : Nat → (List Nat → List Nat) → Bool := @Nat.rec (fun _ => Nat → (List Nat → List Nat) → Bool) (fun _ p => t (p [])) (fun _ ih last p => bc (t (p [])) (allUp (fun v => ih v (fun l => p (v :: l))) (Nat.succ last)) false) n
theorem allV_mem {t : List Nat → Bool} : ∀ (n last : Nat) (p : List Nat → List Nat) (rest : List Int), allV t n last p = true → okFrom last rest = true → rest.length ≤ n → t (p (rest.map Int.toNat)) = true
  | 0, last, p, [], h, _, _ => h
  | 0, last, p, _ :: _, _, _, hl => by simp at hl
  | n + 1, last, p, [], h, _, _ => (bc_both (p := t (p [])) h).1
  | n + 1, last, p, v :: rest, h, hk, hl => by
    have h2 := (bc_both (p := t (p [])) (q := allUp (fun v => allV t n v (fun l => p (v :: l))) (Nat.succ last)) h).2
    have hk : (decide (1 ≤ v) && decide (v ≤ last + 1) && okFrom v.toNat rest) = true := hk
    simp at hk
    exact allV_mem n v.toNat (fun l => p (v.toNat :: l)) rest (allUp_mem h2 (by omega) (by omega)) hk.2 (by simp at hl; omega)
def numN (T : List Int) (l : List Nat) : List AV := @List.rec Nat (fun _ => List AV) (T.map zI) (fun a _ r => .int 3 (.ofNat a) :: r) l
theorem numN_eq (T : List Int) : ∀ l : List Nat, numN T l = ((l.map Int.ofNat) ++ T).map zI
  | [] => rfl
  | a :: l => by show _ :: numN T l = _; rw [numN_eq T l]; rfl
def t0 (T : List Int) (l : List Nat) : Bool := tells (c_laws_FnExactLevelsTree 2097152 20 (.osl 0 0 (lenL l) 1) (hCode (.cells 2 (numN T l))))
end
end Go.AI.T
