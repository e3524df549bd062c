/- The specification's CutMatch, as a function of the row of parents. -/
import Derived.Test.YtjnmogmddhichaaWsp
import Derived.KernelRfl
namespace Go.AI.T.W
open Go Go.RowKit Go.AI
set_option linter.unusedVariables false
set_option linter.unusedSimpArgs false
set_option maxRecDepth 100000
noncomputable section
theorem ofI {m : Nat} (hm : m < 4611686018427387904) : (BitVec.ofInt 64 (Int.ofNat m)).toNat = m := by
  show (BitVec.ofInt 64 ((m : Nat) : Int)).toNat = m
  rw [BitVec.ofInt_natCast, BitVec.toNat_ofNat]; omega
theorem andN {α : Type} {h : H} {k : AV → H → Option α} {a b : Nat} (ha : a < 4611686018427387904) (hb : b < 4611686018427387904) : aBits .and (nI a) (nI b) h k = k (nI (Nat.land a b)) h := by
  show bc (kEq 3 3) (k (.int 3 (bitsI .and (kd 3) (.ofNat a) (.ofNat b))) h) none = _
  rw [kEq_self, bc_true, kd3]
  have hx : a &&& b < 4611686018427387904 := Nat.lt_of_le_of_lt Nat.and_le_left ha
  have e : bitsI .and .i64 (.ofNat a) (.ofNat b) = .ofNat (Nat.land a b) := by
    show IntKind.i64.wrap (((BitVec.ofInt 64 (Int.ofNat a)) &&& (BitVec.ofInt 64 (Int.ofNat b))).toNat : Int) = _
    rw [BitVec.toNat_and, ofI ha, ofI hb]
    rw [wrap_i64 _ (by omega) (by omega)]; rfl
  rw [e]
theorem orN {α : Type} {h : H} {k : AV → H → Option α} {a b : Nat} (ha : a < 4611686018427387904) (hb : b < 4611686018427387904) : aBits .or (nI a) (nI b) h k = k (nI (Nat.lor a b)) h := by
  show bc (kEq 3 3) (k (.int 3 (bitsI .or (kd 3) (.ofNat a) (.ofNat b))) h) none = _
  rw [kEq_self, bc_true, kd3]
  have hx : a ||| b < 4611686018427387904 := Nat.or_lt_two_pow (n := 62) ha hb
  have e : bitsI .or .i64 (.ofNat a) (.ofNat b) = .ofNat (Nat.lor a b) := by
    show IntKind.i64.wrap (((BitVec.ofInt 64 (Int.ofNat a)) ||| (BitVec.ofInt 64 (Int.ofNat b))).toNat : Int) = _
    rw [BitVec.toNat_or, ofI ha, ofI hb]
    rw [wrap_i64 _ (by omega) (by omega)]; rfl
  rw [e]
theorem shlN {α : Type} {h : H} {k : AV → H → Option α} {b : Nat} (hb : b ≤ 40) : aShl (nI 1) (nI b) h k = k (nI (Nat.shiftLeft 1 b)) h := by
  show bc (ile 0 (.ofNat b)) (k (.int 3 (fwrap 3 ((.ofNat 1) * 2 ^ (min (Int.toNat (.ofNat b)) (kd 3).bits)))) h) none = _
  have h1 : min (Int.toNat (.ofNat b)) (kd 3).bits = b := by
    rw [kd3]; show min b 64 = b; omega
  have h2 : (Int.ofNat 1) * 2 ^ b = Int.ofNat (Nat.shiftLeft 1 b) := by
    have : Nat.shiftLeft 1 b = 2 ^ b := Nat.one_shiftLeft b
    rw [this]
    show (1 : Int) * 2 ^ b = ((2 ^ b : Nat) : Int)
    rw [Int.one_mul]; norm_cast
  have h3 : Nat.shiftLeft 1 b ≤ 9223372036854775807 := by
    have : Nat.shiftLeft 1 b = 2 ^ b := Nat.one_shiftLeft b
    rw [this]
    have := Nat.pow_le_pow_right (show 0 < 2 by omega) hb
    omega
  rw [h1, h2, fwrapN h3, show ile 0 (.ofNat b) = true from rfl, bc_true]
theorem shrN {α : Type} {h : H} {k : AV → H → Option α} {a b : Nat} (hb : b ≤ 40) : aShr (nI a) (nI b) h k = k (nI (Nat.shiftRight a b)) h := by
  show bc (ile 0 (.ofNat b)) (k (.int 3 ((Int.ofNat a).fdiv (2 ^ (min (Int.toNat (.ofNat b)) (kd 3).bits)))) h) none = _
  have h1 : min (Int.toNat (.ofNat b)) (kd 3).bits = b := by
    rw [kd3]; show min b 64 = b; omega
  have h2 : (Int.ofNat a).fdiv (2 ^ b) = Int.ofNat (Nat.shiftRight a b) := by
    have : Nat.shiftRight a b = a / 2 ^ b := Nat.shiftRight_eq_div_pow a b
    rw [this]
    have : (2 : Int) ^ b = ((2 ^ b : Nat) : Int) := by norm_cast
    rw [this, Int.fdiv_eq_ediv_of_nonneg _ (Int.natCast_nonneg _)]; rfl
  rw [h1, h2, show ile 0 (.ofNat b) = true from rfl, bc_true]
theorem maxN {h : H} {k : AV → H → Option R} {a b : Nat} : aMM true (nI a) (nI b) h k = k (nI (bc (Nat.ble (Nat.succ a) b) b a)) h := by
  show k (.int 3 (bc (Nat.ble (Nat.succ a) b) (.ofNat b) (.ofNat a))) h = _
  cases Nat.ble (Nat.succ a) b <;> rfl
theorem gT {y n : Option R} : guardB true (.bool true) y n = y := rfl
theorem gF {y n : Option R} : guardB true (.bool false) y n = n := rfl
theorem pickT {α : Type} {x y : AV} {h : H} {k : AV → H → Option α} : aPick (.bool true) x y h k = k x h := rfl
theorem pickF {α : Type} {x y : AV} {h : H} {k : AV → H → Option α} : aPick (.bool false) x y h k = k y h := rfl
theorem hd_c (a : AV) (l : List AV) : hd (a :: l) = a := rfl
theorem tl_c (a : AV) (l : List AV) : tl (a :: l) = l := rfl

/-- A row of small numbers. -/
structure Ups (A : AV) (h : H) (n : Nat) (u : Nat → Nat) : Prop where
  len : ∀ k : AV → H → Option R, aLenK 1 A h k = k (nI n) h
  at_ : ∀ i, 1 ≤ i → i < n → ∃ b o, (∀ k : AV → H → Option R, aIdxAddr 1 A (nI i) h k = k (.ptr b o) h) ∧ (∀ k : AV → H → Option R, aLoad (.ptr b o) h k = k (nI (u i)) h)
  small : n ≤ 20
  less : ∀ i, 1 ≤ i → i < n → u i ≤ 20
def pr (i u : Nat) : Nat := Nat.lor (Nat.shiftLeft 1 i) (Nat.shiftLeft 1 u)
/-- One set of nodes: the number of its pairs, if that is more than the best so far and no two meet. -/
def inn (s best : Nat) : List Nat → Nat → Nat → Nat → Nat := @List.rec Nat (fun _ => Nat → Nat → Nat → Nat) (fun _ _ c => bc (Nat.ble (Nat.succ best) c) c best)
  (fun u _ r i used c => bc (Nat.beq (Nat.land (Nat.shiftRight s i) 1) 1) (bc (Nat.beq (Nat.land used (pr i u)) 0) (r (Nat.succ i) (Nat.lor used (pr i u)) (Nat.succ c)) best) (r (Nat.succ i) used c))
def outm (us : List Nat) (m : Nat) : Nat := @Nat.rec (fun _ => Nat) 0 (fun m r => bc (Nat.beq (Nat.land m 1) 0) (inn m r us 1 0 0) r) m
theorem pr_lt {i u : Nat} (hi : i ≤ 20) (hu : u ≤ 20) : pr i u < 2097152 := by
  have h1 : Nat.shiftLeft 1 i = 2 ^ i := Nat.one_shiftLeft i
  have h2 : Nat.shiftLeft 1 u = 2 ^ u := Nat.one_shiftLeft u
  unfold pr
  rw [h1, h2]
  have p1 := Nat.pow_le_pow_right (show 0 < 2 by omega) hi
  have p2 := Nat.pow_le_pow_right (show 0 < 2 by omega) hu
  exact Nat.or_lt_two_pow (n := 21) (by omega) (by omega)
theorem sh_le {i : Nat} (hi : i ≤ 20) : Nat.shiftLeft 1 i < 4611686018427387904 := by
  have h1 : Nat.shiftLeft 1 i = 2 ^ i := Nat.one_shiftLeft i
  have p1 := Nat.pow_le_pow_right (show 0 < 2 by omega) hi
  omega
theorem shr_le {s i : Nat} : Nat.shiftRight s i ≤ s := by
  have : Nat.shiftRight s i = s / 2 ^ i := Nat.shiftRight_eq_div_pow s i
  rw [this]; exact Nat.div_le_self _ _
section
variable {A : AV} {h : H} {n : Nat} {u : Nat → Nat} {F g : Nat} {kc : List AV → H → Option R} (w : Ups A h n u)
include w
theorem inn_no {s best : Nat} (hs : s < 2097152) : ∀ (N i used c : Nat), n - i < N → 1 ≤ i → i ≤ n → used < 2097152 → c ≤ i → loopD N (c_spec_CutMatch_l4 F g kc) [A, nI best, nI s, nI used, nI c, .bool false, nI i] h = kc [A, nI best, nI (s + 1)] h
  | 0, _, _, _, hN, _, _, _, _ => by omega
  | N + 1, i, used, c, hN, h1, hi, hu, hc => by
    have hsm := w.small
    rw [loopD_succ]
    by_cases hin : i < n
    · obtain ⟨b, o, e1, e2⟩ := w.at_ i h1 hin
      have hui := w.less i h1 hin
      have ih1 := inn_no (best := best) hs N (i + 1) used c (by omega) (by omega) (by omega) hu (by omega)
      have hor : Nat.lor used (pr i (u i)) < 2097152 := Nat.or_lt_two_pow (n := 21) hu (pr_lt (by omega) hui)
      have ih2 := inn_no (best := best) hs N (i + 1) (Nat.lor used (pr i (u i))) (c + 1) (by omega) (by omega) (by omega) hor (by omega)
      have hpr := pr_lt (i := i) (u := u i) (by omega) hui
      have hsr := shr_le (s := s) (i := i)
      simp only [c_spec_CutMatch_l4, hd_c, tl_c, w.len, lssN, withBool_bool, ble_true (show Nat.succ i ≤ n from hin), bc_true, shrN (show i ≤ 40 by omega), andN (show Nat.shiftRight s i < 4611686018427387904 by omega) (show 1 < 4611686018427387904 by omega), eqlN]
      cases hb : Nat.beq (Nat.land (Nat.shiftRight s i) 1) 1 with
      | true =>
        simp only [bc_true, shlN (show i ≤ 40 by omega), e1, e2, shlN (show u i ≤ 40 by omega), orN (sh_le (show i ≤ 20 by omega)) (sh_le hui), gF, c_spec_CutMatch_j3, c_spec_CutMatch_j2, hd_c, tl_c, pickF, addN (show c + 1 ≤ 9223372036854775807 by omega), addN (show i + 1 ≤ 9223372036854775807 by omega)]
        rw [show Nat.lor (Nat.shiftLeft 1 i) (Nat.shiftLeft 1 (u i)) = pr i (u i) from rfl]
        simp only [orN (show used < 4611686018427387904 by omega) (show pr i (u i) < 4611686018427387904 by omega), addN (show c + 1 ≤ 9223372036854775807 by omega), addN (show i + 1 ≤ 9223372036854775807 by omega)]
        exact ih2
      | false =>
        simp only [bc_false, c_spec_CutMatch_j2, hd_c, tl_c, addN (show i + 1 ≤ 9223372036854775807 by omega)]
        exact ih1
    · simp only [c_spec_CutMatch_l4, hd_c, tl_c, w.len, lssN, withBool_bool, ble_false (show n < Nat.succ i by omega), bc_false, c_spec_CutMatch_j1, addN (show s + 1 ≤ 9223372036854775807 by omega)]
theorem inn_ok {s best : Nat} (hs : s < 2097152) : ∀ (t : List Nat) (N i used c : Nat), 1 ≤ i → t.length + i = n → (∀ j x, t[j]? = some x → u (i + j) = x) → n - i < N → used < 2097152 → c ≤ i → loopD N (c_spec_CutMatch_l4 F g kc) [A, nI best, nI s, nI used, nI c, .bool true, nI i] h = kc [A, nI (inn s best t i used c), nI (s + 1)] h
  | _, 0, _, _, _, _, _, _, hN, _, _ => by omega
  | [], N + 1, i, used, c, h1, hl, ht, hN, hu, hc => by
    have hsm := w.small
    have hi : i = n := by simpa using hl
    rw [loopD_succ]
    simp only [c_spec_CutMatch_l4, hd_c, tl_c, w.len, lssN, withBool_bool, ble_false (show n < Nat.succ i by omega), bc_true, bc_false, c_spec_CutMatch_j1, maxN, addN (show s + 1 ≤ 9223372036854775807 by omega)]
    rfl
  | x :: t, N + 1, i, used, c, h1, hl, ht, hN, hu, hc => by
    have hsm := w.small
    have hl' : t.length + (i + 1) = n := by simp at hl; omega
    have hin : i < n := by omega
    have hx : u i = x := by simpa using ht 0 x rfl
    have ht' : ∀ j y, t[j]? = some y → u (i + 1 + j) = y := fun j y hj => by
      have := ht (j + 1) y (by simpa using hj)
      rw [← this]; congr 1; omega
    rw [loopD_succ]
    obtain ⟨b, o, e1, e2⟩ := w.at_ i h1 hin
    rw [hx] at e2
    have hui := w.less i h1 hin
    rw [hx] at hui
    have hor : Nat.lor used (pr i x) < 2097152 := Nat.or_lt_two_pow (n := 21) hu (pr_lt (by omega) hui)
    have hpr := pr_lt (i := i) (u := x) (by omega) hui
    have hsr := shr_le (s := s) (i := i)
    have ih1 := inn_ok (best := best) hs t N (i + 1) used c (by omega) hl' ht' (by omega) hu (by omega)
    have ih2 := inn_ok (best := best) hs t N (i + 1) (Nat.lor used (pr i x)) (c + 1) (by omega) hl' ht' (by omega) hor (by omega)
    have ih3 := inn_no (F := F) (g := g) (kc := kc) w (best := best) hs N (i + 1) (Nat.lor used (pr i x)) (c + 1) (by omega) (by omega) (by omega) hor (by omega)
    have hE : inn s best (x :: t) i used c = bc (Nat.beq (Nat.land (Nat.shiftRight s i) 1) 1) (bc (Nat.beq (Nat.land used (pr i x)) 0) (inn s best t (i + 1) (Nat.lor used (pr i x)) (c + 1)) best) (inn s best t (i + 1) used c) := rfl
    rw [hE]
    simp only [c_spec_CutMatch_l4, hd_c, tl_c, w.len, lssN, withBool_bool, ble_true (show Nat.succ i ≤ n from hin), bc_true, shrN (show i ≤ 40 by omega), andN (show Nat.shiftRight s i < 4611686018427387904 by omega) (show 1 < 4611686018427387904 by omega), eqlN]
    cases hb : Nat.beq (Nat.land (Nat.shiftRight s i) 1) 1 with
    | true =>
      simp only [bc_true, shlN (show i ≤ 40 by omega), e1, e2, shlN (show x ≤ 40 by omega), orN (sh_le (show i ≤ 20 by omega)) (sh_le hui), gT, c_spec_CutMatch_j3, c_spec_CutMatch_j2, hd_c, tl_c, pickT]
      rw [show Nat.lor (Nat.shiftLeft 1 i) (Nat.shiftLeft 1 x) = pr i x from rfl]
      simp only [andN (show used < 4611686018427387904 by omega) (show pr i x < 4611686018427387904 by omega), eqlN, orN (show used < 4611686018427387904 by omega) (show pr i x < 4611686018427387904 by omega), addN (show c + 1 ≤ 9223372036854775807 by omega), addN (show i + 1 ≤ 9223372036854775807 by omega)]
      cases hp : Nat.beq (Nat.land used (pr i x)) 0 with
      | true => simp only [bc_true]; exact ih2
      | false => simp only [bc_false]; exact ih3
    | false =>
      simp only [bc_false, c_spec_CutMatch_j2, hd_c, tl_c, addN (show i + 1 ≤ 9223372036854775807 by omega)]
      exact ih1
theorem out_ok {us : List Nat} (h1 : us.length + 1 = n) (hus : ∀ j x, us[j]? = some x → u (1 + j) = x) (hF : 100 < F) : ∀ (m N : Nat), m ≤ Nat.shiftLeft 1 n → Nat.shiftLeft 1 n - m < N → loopD N (c_spec_CutMatch_l5 F g) [A, nI (outm us m), nI m] h = some (.one .tup (.cons (nI (outm us (Nat.shiftLeft 1 n))) (.cons (.bool true) (.leaf .nil))), h)
  | m, 0, _, hN => by omega
  | m, N + 1, hm, hN => by
    have hsm := w.small
    have hpw : Nat.shiftLeft 1 n = 2 ^ n := Nat.one_shiftLeft n
    have hle := Nat.pow_le_pow_right (show 0 < 2 by omega) hsm
    rw [loopD_succ]
    by_cases hlt : m < Nat.shiftLeft 1 n
    · have ih := out_ok h1 hus hF (m + 1) N hlt (by omega)
      have hE : outm us (m + 1) = bc (Nat.beq (Nat.land m 1) 0) (inn m (outm us m) us 1 0 0) (outm us m) := rfl
      have hm2 : m < 2097152 := by omega
      simp only [c_spec_CutMatch_l5, hd_c, tl_c, w.len, shlN (show n ≤ 40 by omega), lssN, withBool_bool, ble_true (show Nat.succ m ≤ Nat.shiftLeft 1 n from hlt), bc_true, andN (show m < 4611686018427387904 by omega) (show 1 < 4611686018427387904 by omega), eqlN]
      cases hb : Nat.beq (Nat.land m 1) 0 with
      | true =>
        rw [hb, bc_true] at hE
        rw [hE] at ih
        exact (inn_ok w hm2 us F 1 0 0 (by omega) h1 hus (by omega) (by omega) (by omega)).trans ih
      | false =>
        rw [hb, bc_false] at hE
        rw [hE] at ih
        exact (inn_no w hm2 F 1 0 0 (by omega) (by omega) (by omega) (by omega) (by omega)).trans ih
    · have hmm : m = Nat.shiftLeft 1 n := by omega
      simp only [c_spec_CutMatch_l5, hd_c, tl_c, w.len, shlN (show n ≤ 40 by omega), lssN, withBool_bool, ble_false (show Nat.shiftLeft 1 n < Nat.succ m by omega), bc_false]
      rw [← hmm]
end
/-- The numbers of a row from a place on: 0 to 20. -/
def rowK (l : List AV) (m : Nat) : Nat → Option (List Nat) := @Nat.rec (fun _ => Nat → Option (List Nat)) (fun _ => some [])
  (fun _ r o => onSome (nthO l o) fun x => x.onInt none fun kd v => bc (Nat.beq kd 3) (@Int.rec (fun _ => Option (List Nat)) (fun m => bc (Nat.ble m 20) (onSome (r (Nat.succ o)) fun t => some (m :: t)) none) (fun _ => none) v) none) m
theorem rowK_ok {l : List AV} : ∀ {m o : Nat} {us : List Nat}, rowK l m o = some us → us.length = m ∧ ∀ j x, us[j]? = some x → nthO l (o + j) = some (nI x) ∧ x ≤ 20
  | 0, o, us, e => by
    obtain rfl : [] = us := Option.some.inj e
    exact ⟨rfl, fun j x h => by simp at h⟩
  | m + 1, o, us, e => by
    have e : onSome (nthO l o) (fun x => x.onInt none fun kd v => bc (Nat.beq kd 3) (@Int.rec (fun _ => Option (List Nat)) (fun m' => bc (Nat.ble m' 20) (onSome (rowK l m (Nat.succ o)) fun t => some (m' :: t)) none) (fun _ => none) v) none) = some us := e
    obtain ⟨x, hx, e1⟩ := onSome_some e
    obtain ⟨kk, v, rfl, e2⟩ := withInt_some (show withInt x _ = some us from e1)
    obtain ⟨hk, e3⟩ := bif_some e2
    have hk := Nat.eq_of_beq_eq_true hk
    cases v with
    | negSucc v => cases e3
    | ofNat v =>
      obtain ⟨hv, e4⟩ := bif_some (show bc (Nat.ble v 20) (onSome (rowK l m (Nat.succ o)) fun t => some (v :: t)) none = some us from e3)
      obtain ⟨t, ht, e5⟩ := onSome_some e4
      obtain rfl : v :: t = us := Option.some.inj e5
      obtain ⟨g1, g2⟩ := rowK_ok ht
      refine ⟨by simp [g1], fun j y hj => ?_⟩
      cases j with
      | zero =>
        obtain rfl : v = y := by simpa using hj
        exact ⟨by rw [Nat.add_zero, hx, hk], Nat.le_of_ble_eq_true hv⟩
      | succ j =>
        have := g2 j y (by simpa using hj)
        rw [show o + (j + 1) = Nat.succ o + j by omega]
        exact this
def best (h : H) (b o n : Nat) : Option R := withCells h b fun _ l => bc (Nat.ble n 20) (bc (Nat.ble 1 n) (onSome (rowK l (Nat.pred n) (Nat.succ o)) fun us => some (.one .tup (.cons (nI (outm us (Nat.shiftLeft 1 n))) (.cons (.bool true) (.leaf .nil))), h)) none) none
theorem best_ok {F g : Nat} {A : AV} {h : H} {r : R} (hF : 1048600 < F) (e : A.onSl none (fun _ => none) (fun b o n _ => best h b o n) (fun b o n _ => best h b o n) = some r) : loopD F (c_spec_CutMatch_l5 F g) [A, nI 0, nI 0] h = some r := by
  have key : ∀ b o n, best h b o n = some r → (∀ k : AV → H → Option R, aLenK 1 A h k = k (nI n) h) → (∀ i, i < n → ∀ k : AV → H → Option R, aIdxAddr 1 A (nI i) h k = k (.ptr b (Nat.add o (Nat.mul i 1))) h) → loopD F (c_spec_CutMatch_l5 F g) [A, nI 0, nI 0] h = some r := by
    intro b o n e hl hi
    obtain ⟨fl, l, hb, e1⟩ := withCells_some e
    obtain ⟨hn, e2⟩ := bif_some e1
    obtain ⟨hn1, e3⟩ := bif_some e2
    obtain ⟨us, hus, e4⟩ := onSome_some e3
    have hn := Nat.le_of_ble_eq_true hn
    have hn1 := Nat.le_of_ble_eq_true hn1
    obtain ⟨g1, g2⟩ := rowK_ok hus
    cases e4
    have hg : ∀ i, 1 ≤ i → i < n → us[i - 1]? = some (us.getD (i - 1) 0) := fun i h1 h2 => by
      have : i - 1 < us.length := by rw [g1, Nat.pred_eq_sub_one]; omega
      simp [List.getD_eq_getElem?_getD, List.getElem?_eq_getElem this]
    have w : Ups A h n (fun i => us.getD (i - 1) 0) := by
      refine ⟨hl, fun i h1 h2 => ?_, hn, fun i h1 h2 => (g2 _ _ (hg i h1 h2)).2⟩
      refine ⟨b, Nat.add o (Nat.mul i 1), hi i h2, fun k => load_at hb ?_⟩
      rw [← (g2 _ _ (hg i h1 h2)).1]
      congr 1
      show o + i * 1 = (o + 1) + (i - 1)
      omega
    have hpw : Nat.shiftLeft 1 n = 2 ^ n := Nat.one_shiftLeft n
    have hle := Nat.pow_le_pow_right (show 0 < 2 by omega) hn
    exact out_ok w (us := us) (by rw [g1, Nat.pred_eq_sub_one]; omega) (fun j x hj => by
      show us.getD (1 + j - 1) 0 = x
      rw [show 1 + j - 1 = j by omega, List.getD_eq_getElem?_getD, hj]; rfl) (by omega) 0 F (by omega) (by omega)
  have hin : ∀ {b o n i : Nat} (k : AV → H → Option R), i < n → inB (.ofNat i) n (fun j => k (.ptr b (Nat.add o (Nat.mul j 1))) h) = k (.ptr b (Nat.add o (Nat.mul i 1))) h := fun {b o n i} k hi => by
    show bc (Nat.ble (Nat.succ i) n) _ none = _
    rw [ble_true (show Nat.succ i ≤ n from hi), bc_true]
  cases A using AV.casesE <;> (try (cases e; done))
  case sl b o n c => exact key b o n e (fun k => rfl) (fun i hi k => hin k hi)
  case osl b o n c => exact key b o n e (fun k => rfl) (fun i hi k => hin k hi)
end
end Go.AI.T.W
namespace Go.AI.T
open Go Go.RowKit Go.AI
set_option linter.unusedVariables false
noncomputable section
def c_spec_CutMatch (F g : Nat) (a0 : AV) (h : H) : Option R := bindR (c_spec_TreeIn 2097152 20 a0 h) fun x1 h => aNot x1 h fun x2 h => withBool x2 fun t3 => bc t3 (some (.one .tup (.cons (.int 3 (.ofNat 0)) (.cons (.bool false) (.leaf .nil))), h)) (bindR (W.c_spec_l1Up 2097152 20 a0 h) fun x4 h => x4.onSl none (fun _ => none) (fun b o n _ => W.best h b o n) (fun b o n _ => W.best h b o n))
theorem s_spec_CutMatch (F g : Nat) : ∀ args h r, u1 (c_spec_CutMatch F g) args h = some r → Tri Go.Proofs.Try.prog 20 args h r := by
  intro args h r e
  obtain ⟨a0, rfl, e1⟩ := u1_some e
  refine W.s_spec_CutMatch 2097152 20 [a0] h r ?_
  show W.c_spec_CutMatch 2097152 20 a0 h = some r
  delta W.c_spec_CutMatch
  delta c_spec_CutMatch at e1
  obtain ⟨⟨x1, h1⟩, k1, e20⟩ := bindR_some e1
  have e2 : aNot x1 h1 (fun x2 h => withBool x2 fun t3 => bc t3 (some (.one .tup (.cons (.int 3 (.ofNat 0)) (.cons (.bool false) (.leaf .nil))), h)) (bindR (W.c_spec_l1Up 2097152 20 a0 h) fun x4 h => x4.onSl none (fun _ => none) (fun b o n _ => W.best h b o n) (fun b o n _ => W.best h b o n))) = some r := e20
  clear e20
  rw [k1, bindR_some']
  cases x1 using AV.casesE <;> (try (cases e2; done))
  case bool b =>
    cases b with
    | false => exact e2
    | true =>
      have e2 : bindR (W.c_spec_l1Up 2097152 20 a0 h1) (fun x4 h => x4.onSl none (fun _ => none) (fun b o n _ => W.best h b o n) (fun b o n _ => W.best h b o n)) = some r := e2
      obtain ⟨⟨x4, h2⟩, k2, e3⟩ := bindR_some e2
      show bindR (W.c_spec_l1Up 2097152 20 a0 h1) (fun x4 h => loopD 2097152 (W.c_spec_CutMatch_l5 2097152 20) [x4, nI 0, nI 0] h) = some r
      rw [k2, bindR_some']
      exact W.best_ok (by omega) e3
theorem smatch_bad {F g : Nat} {l : List Nat} {n : Nat} (hn : lenL l = n) (ht : isTree l = false) (h : H) : c_spec_CutMatch F g (.str l n) h = some (.one .tup (.cons (.int 3 (.ofNat 0)) (.cons (.bool false) (.leaf .nil))), h) := by
  delta c_spec_CutMatch
  rw [spec_bad hn ht, bindR_some', aNot_b, bnot_f, withBool_bool, bc_true]
end
end Go.AI.T
