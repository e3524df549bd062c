/- The specification's tree with a code: the same text. -/
import Derived.Test.YthoidonmlfibfaaPr4
import Derived.Test.YthoidonmlfibfaaPr5
import Derived.Test.YthoidonmlfibfaaProg
import Derived.KernelRfl
namespace Go.AI
open Go Go.RowKit Go.AI
set_option linter.unusedVariables false
set_option linter.unusedSimpArgs false
set_option maxRecDepth 100000
noncomputable section
-- "loop.example/treenumbers/spec.l1Of"
noncomputable def c_spec_l1Of_l1 (F g : Nat) : List AV → H → (List AV → H → Option R) → Option R := fun vs h kc1 => (fun x2 x3 x4 => aLenK 1 x2 h fun x5 h => aCmpI ilt x4 x5 h fun x6 h => withBool x6 fun t7 => bc t7 (aIdxAddr 1 x2 x4 h fun x8 h => aLoad x8 h fun x9 h => aSAdd x3 x9 h fun x10 h => aArith iadd x4 (AV.int 3 (Int.ofNat 1)) h fun x11 h => kc1 [x2, x10, x11] h) (aSAdd x3 (AV.str [41] 1) h fun x12 h => some (x12, h))) (hd vs) (hd (tl vs)) (hd (tl (tl vs)))
noncomputable def c_spec_l1Of (F g : Nat) (a0 : AV) (h : H) : Option R := loopD F (c_spec_l1Of_l1 F g) [a0, (AV.str [40] 1), (AV.int 3 (Int.ofNat 0))] h
noncomputable def A_spec_l1Of : An := (.two .o (.two .o (.two (.two .o (.two (.at_ [0, 3, 4] (.two (.two .o (.two .o .o)) (.two (.two .o .o) .o)) .o) .o)) (.two .o .o))))
noncomputable def b_spec_l1Of : Code := bodyOf Go.Proofs.Try.f60
theorem k_spec_l1Of (F g : Nat) (a0 : AV) (h : H) : callD Go.Proofs.Try.prog (fun _ _ _ => none : Env) 19 F b_spec_l1Of [2] A_spec_l1Of [a0] h = c_spec_l1Of F g a0 h := by kernel_rfl
theorem s_spec_l1Of (F g : Nat) : ∀ args h r, u1 (c_spec_l1Of F g) args h = some r → Tri Go.Proofs.Try.prog 60 args h r := by
  intro args h r e; obtain ⟨a0, rfl, e1⟩ := u1_some e; exact fn_sound Go.Proofs.Try.func60 rfl rfl rfl Go.Proofs.Try.ntmps60 (Sound.none _) ((k_spec_l1Of F g a0 h).trans e1)

-- "loop.example/treenumbers/spec.l2Tree"
noncomputable def c_spec_l2Tree_l1 (F g : Nat) (self : AV → H → Option R) (kc2 : List AV → H → Option R) : List AV → H → (List AV → H → Option R) → Option R := fun vs h kc8 => (fun x9 x10 x11 => aRem x9 x11 h fun x12 h => aCmpI ieq x12 (AV.int 3 (Int.ofNat 0)) h fun x13 h => withBool x13 fun t14 => bc t14 (bindR (c_spec_l2Place F g x11 h) fun x15 h => bindR (self x15 h) fun x16 h => aBuildSlice 1 1 [(0, 1, x16)] h fun x17 h => aAppend 1 16 x10 x17 h fun x18 h => aQuo x9 x11 h fun x19 h => kc8 [x19, x18, x11] h) (aArith iadd x11 (AV.int 3 (Int.ofNat 1)) h fun x20 h => kc2 [x9, x10, x20] h)) (hd vs) (hd (tl vs)) (hd (tl (tl vs)))
noncomputable def c_spec_l2Tree_l2 (F g : Nat) (self : AV → H → Option R) : List AV → H → (List AV → H → Option R) → Option R := fun vs h kc2 => (fun x3 x4 x5 => aCmpI ile x5 x3 h fun x6 h => withBool x6 fun t7 => bc t7 (loopD F (c_spec_l2Tree_l1 F g self kc2) [x3, x4, x5] h) (bindR (c_spec_l1Of F g x4 h) fun x21 h => some (x21, h))) (hd vs) (hd (tl vs)) (hd (tl (tl vs)))
noncomputable def c_spec_l2Tree (F g : Nat) : AV → H → Option R := Nat.rec (motive := fun _ => AV → H → Option R) (fun _ _ => none) (fun g self a0 h => aBuildSlice 0 1 [] h fun x1 h => loopD F (c_spec_l2Tree_l2 F g self) [a0, x1, (AV.int 3 (Int.ofNat 2))] h) g
noncomputable def A_spec_l2Tree : An := (.two .o (.two .o (.two (.two .o (.two (.at_ [0, 3, 4] (.two (.two .o (.two .o .o)) (.two (.two (.two (.at_ [0, 3, 4] (.two (.two .o (.two .o .o)) (.two (.two .o .o) .o)) .o) .o) .o) .o)) .o) .o)) (.two .o .o))))
noncomputable def b_spec_l2Tree : Code := bodyOf Go.Proofs.Try.f52
theorem k_spec_l2Tree (F g : Nat) (a0 : AV) (h : H) : callD Go.Proofs.Try.prog (Env.add (Env.add (Env.add (fun _ _ _ => none : Env) 59 (u1 (c_spec_l2Place F g))) 60 (u1 (c_spec_l1Of F g))) 52 (u1 (c_spec_l2Tree F g))) 26 F b_spec_l2Tree [2] A_spec_l2Tree [a0] h = c_spec_l2Tree F (g + 1) a0 h := by kernel_rfl
theorem s_spec_l2Tree (F g : Nat) : ∀ args h r, u1 (c_spec_l2Tree F g) args h = some r → Tri Go.Proofs.Try.prog 52 args h r := by
  induction g with
  | zero => intro args h r e; obtain ⟨a0, rfl, e⟩ := u1_some e; cases e
  | succ g ih => intro args h r e; obtain ⟨a0, rfl, e1⟩ := u1_some e; exact fn_sound Go.Proofs.Try.func52 rfl rfl rfl Go.Proofs.Try.ntmps52 (Sound.add (Sound.add (Sound.add (Sound.none _) (s_spec_l2Place F g)) (s_spec_l1Of F g)) ih) ((k_spec_l2Tree F g a0 h).trans e1)

end
end Go.AI

namespace Go.AI
open Go Go.RowKit
noncomputable section
set_option linter.unusedVariables false
set_option linter.unusedSimpArgs false
set_option maxRecDepth 100000
/-- A text as a value. -/
abbrev strV (l : List Nat) : AV := .str l l.length

theorem minN_le' {a b c : Nat} (h1 : c ≤ a) (h2 : c ≤ b) : c ≤ minN a b := by
  unfold minN; cases Nat.ble a b
  · exact h2
  · exact h1
/-- A row of texts of its own. -/
structure RowS (x : AV) (D : Nat) (ss : List (List Nat)) (h : H) : Prop where
  what : x = .leaf (.sl D 0 0 0) ∧ ss = [] ∨ x = .osl D 0 ss.length 1
  cells : h.get D = .cells 0 (ss.map strV)
  lt : D < h.n
theorem RowS.of {x : AV} {D : Nat} {ss : List (List Nat)} {h h' : H} (r : RowS x D ss h) (e : h'.get D = h.get D) (hn : h.n ≤ h'.n) : RowS x D ss h' := ⟨r.what, by rw [e]; exact r.cells, Nat.lt_of_lt_of_le r.lt hn⟩
theorem RowS.len {x : AV} {D : Nat} {ss : List (List Nat)} {h : H} (r : RowS x D ss h) (h' : H) (k : AV → H → Option R) : aLenK 1 x h' k = k (nI ss.length) h' := by
  rcases r.what with ⟨rfl, rfl⟩ | rfl <;> rfl
theorem RowS.idx {x : AV} {D : Nat} {ss : List (List Nat)} {h : H} (r : RowS x D ss h) {i : Nat} (hi : i < ss.length) (h' : H) (k : AV → H → Option R) : aIdxAddr 1 x (nI i) h' k = k (.ptr D i) h' := by
  rcases r.what with ⟨rfl, rfl⟩ | rfl
  · simp at hi
  · rw [idxOsl hi, Nat.zero_add, Nat.mul_one]
theorem RowS.load {x : AV} {D : Nat} {ss : List (List Nat)} {h : H} (r : RowS x D ss h) {i : Nat} {s : List Nat} (hi : ss[i]? = some s) (k : AV → H → Option R) : aLoad (.ptr D i) h k = k (strV s) h :=
  load_at r.cells (by rw [nthO_eq, List.getElem?_map, hi]; rfl)
/-- What a call leaves of the memory that it began with. -/
structure Fr (h h' : H) : Prop where
  n : h.n ≤ h'.n
  get : ∀ c, c < h.n → h'.get c = h.get c
  lo : ∀ b, b ≤ h.lo → b ≤ h.n → b ≤ h'.lo
theorem Fr.refl (h : H) : Fr h h := ⟨Nat.le_refl _, fun _ _ => rfl, fun _ h _ => h⟩
theorem Fr.trans {a b c : H} (h : Fr a b) (k : Fr b c) : Fr a c := ⟨Nat.le_trans h.n k.n, fun i hi => (k.get i (Nat.lt_of_lt_of_le hi h.n)).trans (h.get i hi), fun x h1 h2 => k.lo x (h.lo x h1 h2) (Nat.le_trans h2 h.n)⟩
theorem Fr.push (h : H) (x : Blk) : Fr h (h.push x) := ⟨Nat.le_succ _, fun c hc => get_push_lt hc, fun _ h _ => h⟩
theorem appS_new {h : H} {q fl D : Nat} {a : AV} {k : AV → H → Option R} (hq : h.get q = .cells fl [a]) (hk : h.get D = .cells 0 []) :
    aAppend 1 16 (.leaf (.sl D 0 0 0)) (.leaf (.sl q 0 1 1)) h k = k (.osl h.n 0 1 1) (h.push (.cells 0 [a])) := by
  show withCells h q (fun _ l => bc (Nat.beq (lenL (takeL (Nat.mul 1 1) (dropL 0 l))) (Nat.mul 1 1)) (aApp1 1 16 1 (takeL (Nat.mul 1 1) (dropL 0 l)) (.leaf (.sl D 0 0 0)) h k) none) = _
  rw [withCells_get hq]
  show withCells h D (fun fl l => bc (Nat.beq (lenL (takeL (Nat.mul 0 1) (dropL 0 l))) (Nat.mul 0 1)) (bc (Nat.ble (Nat.mul (Nat.add 0 1) 16) 140737488355328) (bc (Nat.ble (Nat.add 0 1) strMax) (k (.osl h.n 0 (Nat.add 0 1) 1) (h.push (.cells 0 (appA (takeL (Nat.mul 0 1) (dropL 0 l)) [a])))) none) none) none) = _
  rw [withCells_get hk]
  have e4 : Nat.add 0 1 ≤ strMax := by have := strMax_eq; show 1 ≤ strMax; omega
  rw [ble_true e4]; rfl
theorem appS_osl {h : H} {q fl kb f2 m : Nat} {a : AV} {l : List AV} {k : AV → H → Option R} (hq : h.get q = .cells fl [a]) (hk : h.get kb = .cells f2 l) (hl : l.length = m) (hm : m < 1000) (hf : f2 ≤ 1) (ha : a.one1 = true) :
    aAppend 1 16 (.osl kb 0 m 1) (.leaf (.sl q 0 1 1)) h k = k (.osl h.n 0 (m + 1) 1) ((h.set kb .dead).push (.cells f2 (l ++ [a]))) := by
  show withCells h q (fun _ l => bc (Nat.beq (lenL (takeL (Nat.mul 1 1) (dropL 0 l))) (Nat.mul 1 1)) (aApp1 1 16 1 (takeL (Nat.mul 1 1) (dropL 0 l)) (.osl kb 0 m 1) h k) none) = _
  rw [withCells_get hq]
  show withCells h kb (fun fl l => bc (Nat.beq (lenL (takeL (Nat.mul m 1) (dropL 0 l))) (Nat.mul m 1)) (bc (Nat.ble (Nat.mul (Nat.add m 1) 16) 140737488355328) (bc (Nat.ble (Nat.add m 1) strMax)
      (bc (Nat.beq 1 1) (bc (Nat.ble fl 1) (bc (allOne [a]) (k (.osl h.n 0 (Nat.add m 1) 1) ((h.set kb .dead).push (.cells fl (appA (takeL (Nat.mul m 1) (dropL 0 l)) [a])))) none) none) none) none) none) none) = _
  rw [withCells_get hk]
  have e1 : takeL (Nat.mul m 1) (dropL 0 l) = l := by rw [takeL_eq, dropL_eq]; show List.take (m * 1) (List.drop 0 l) = l; rw [Nat.mul_one, List.drop_zero, ← hl, List.take_length]
  have e2 : allOne [a] = true := by show bc a.one1 true false = true; rw [ha]; rfl
  have e3 : Nat.mul (Nat.add m 1) 16 ≤ 140737488355328 := by show (m + 1) * 16 ≤ 140737488355328; omega
  have e4 : Nat.add m 1 ≤ strMax := by have := strMax_eq; show m + 1 ≤ strMax; omega
  rw [e1, lenL_eq, hl, show Nat.mul m 1 = m from Nat.mul_one m, Nat.beq_refl, ble_true e3, ble_true e4, ble_true hf, e2, appA_eq]
  rfl
/-- One text more. -/
theorem RowS.push {x : AV} {D : Nat} {ss : List (List Nat)} {h : H} (r : RowS x D ss h) (hl : ss.length < 1000) (s : List Nat) (k : AV → H → Option R) :
    ∃ h', (aBuildSlice 1 1 [(0, 1, strV s)] h fun y h => aAppend 1 16 x y h k) = k (.osl (h.n + 1) 0 (ss ++ [s]).length 1) h' ∧ RowS (.osl (h.n + 1) 0 (ss ++ [s]).length 1) (h.n + 1) (ss ++ [s]) h' ∧ h.n ≤ h'.n ∧
      (∀ c, c < h.n → c ≠ D → h'.get c = h.get c) ∧ (∀ b, b ≤ h.lo → b ≤ D → b ≤ h'.lo) := by
  have e2 : ∀ k : AV → H → Option R, aBuildSlice 1 1 [(0, 1, strV s)] h k = k (.leaf (.sl h.n 0 1 1)) (h.push (.cells 0 [strV s])) := fun k => rfl
  rw [e2]
  have g2 : (h.push (.cells 0 [strV s])).get h.n = .cells 0 [strV s] := get_push_eq rfl
  have gD : (h.push (.cells 0 [strV s])).get D = .cells 0 (ss.map strV) := by rw [get_push_lt r.lt]; exact r.cells
  have hlt := r.lt
  rcases r.what with ⟨rfl, rfl⟩ | rfl
  · rw [appS_new g2 gD]
    refine ⟨_, rfl, ⟨.inr rfl, ?_, ?_⟩, ?_, fun c hc _ => ?_, fun b h1 _ => h1⟩
    · exact get_push_eq rfl
    · show h.n + 1 < h.n + 1 + 1; omega
    · show h.n ≤ h.n + 1 + 1; omega
    · rw [get_push_lt (by show c < h.n + 1; omega), get_push_lt hc]
  · rw [appS_osl g2 gD (by simp) hl (by omega) rfl]
    refine ⟨_, by rw [List.length_append]; rfl, ⟨.inr rfl, ?_, ?_⟩, ?_, fun c hc hcD => ?_, ?_⟩
    · rw [show h.n + 1 = ((h.push (.cells 0 [strV s])).set D .dead).n from rfl, get_push_eq rfl]; simp
    · show h.n + 1 < h.n + 1 + 1; omega
    · show h.n ≤ h.n + 1 + 1; omega
    · rw [get_push_lt (by show c < h.n + 1; omega), get_set_ne hcD, get_push_lt hc]
    · exact fun b h1 h2 => minN_le' h2 h1

theorem saddS {l l' : List Nat} (hl : l.length + l'.length < 100000) (h : H) (k : AV → H → Option R) : aSAdd (strV l) (strV l') h k = k (strV (l ++ l')) h := by
  show bc (Nat.ble (Nat.add l.length l'.length) strMax) (k (.str (appL l l') (Nat.add l.length l'.length)) h) none = _
  have := strMax_eq
  rw [ble_true (show Nat.add l.length l'.length ≤ strMax by show l.length + l'.length ≤ strMax; omega), bc_true, appL_eq, strV, List.length_append]; rfl

section
variable {F g : Nat}
theorem l1Of_loop {x : AV} {D : Nat} {ss : List (List Nat)} {h : H} (r : RowS x D ss h) (hb : ss.length < 1000) : ∀ (N i : Nat) (acc : List Nat), ss.length - i < N → i ≤ ss.length → acc.length + (ss.drop i).flatten.length < 60000 →
    loopD N (c_spec_l1Of_l1 F g) [x, strV acc, nI i] h = some (strV (acc ++ (ss.drop i).flatten ++ [41]), h)
  | 0, i, acc, h1, _, _ => by omega
  | N + 1, i, acc, h1, h2, h3 => by
    rw [loopD_succ]
    delta c_spec_l1Of_l1
    dsimp only [hd_cons, tl_cons]
    rw [r.len, lssN, withBool_bool]
    by_cases hi : i < ss.length
    · have hs : ss[i]? = some ss[i] := List.getElem?_eq_getElem hi
      have hd : ss.drop i = ss[i] :: ss.drop (i + 1) := (List.drop_eq_getElem_cons hi)
      rw [hd, List.flatten_cons, List.length_append] at h3
      rw [ble_true (show Nat.succ i ≤ ss.length from hi), bc_true, r.idx hi, r.load hs, saddS (by omega), show AV.int 3 (Int.ofNat 1) = nI 1 from rfl, addN (by omega)]
      rw [hd, List.flatten_cons, ← List.append_assoc acc]
      exact l1Of_loop r hb N (i + 1) (acc ++ ss[i]) (by omega) (by omega) (by rw [List.length_append]; omega)
    · rw [ble_false (by omega), bc_false, List.drop_eq_nil_of_le (by omega), List.flatten_nil, List.append_nil]
      rw [List.drop_eq_nil_of_le (by omega), List.flatten_nil, List.length_nil] at h3
      rw [show AV.str [41] 1 = strV [41] from rfl, saddS (by simp; omega)]
end
/-! ### Small divisors -/
theorem tdiv_false : ∀ (f n k : Nat), f + k = 74 → k ≤ 71 → 2 ≤ k → 2 ≤ n → n ≤ 5000 → tdiv f n k = false → ∃ a, 2 ≤ a ∧ a * a ≤ n ∧ n % a = 0
  | 0, n, k, h1, h2, _, _, _, _ => by omega
  | f + 1, n, k, h1, h2, h3, h4, h5, h => by
    rw [tdiv_succ] at h
    cases hb : Nat.ble (k * k) n with
    | false => rw [hb, bc_false, ble_true h4] at h; cases h
    | true =>
      have hk := Nat.le_of_ble_eq_true hb
      rw [hb, bc_true] at h
      cases hq : Nat.beq (n % k) 0 with
      | true => exact ⟨k, h3, hk, Nat.eq_of_beq_eq_true hq⟩
      | false =>
        rw [hq, bc_false] at h
        have hk2 : k < 71 := by
          rcases Nat.lt_or_ge k 71 with h6 | h6
          · exact h6
          · have := Nat.mul_le_mul h6 h6; omega
        exact tdiv_false f n (k + 1) (by omega) (by omega) (by omega) h4 h5 h
theorem small_div {p : Nat} (h2 : 2 ≤ p) (h5 : p ≤ 5000) (h : isP p = false) : ∃ a, 2 ≤ a ∧ a < p ∧ p % a = 0 := by
  obtain ⟨a, h3, h4, h6⟩ := tdiv_false 72 p 2 (by omega) (by omega) (by omega) h2 h5 h
  refine ⟨a, h3, ?_, h6⟩
  have := Nat.mul_le_mul_right a h3
  omega
theorem mod_of_dvd {m q a : Nat} (h1 : m % q = 0) (h2 : q % a = 0) : m % a = 0 :=
  Nat.mod_eq_zero_of_dvd (Nat.dvd_trans (Nat.dvd_of_mod_eq_zero h2) (Nat.dvd_of_mod_eq_zero h1))

/-- From p on the list is that of the sieve, k primes being less. -/
def Suf (p k : Nat) : Prop := ∃ pre, primesL = pre ++ pl (5001 - p) p k ∧ ∀ y ∈ pre, y.2 < p
theorem Suf.start : Suf 2 0 := ⟨[], primesL_eq, fun y h => by cases h⟩
theorem Suf.no {p k : Nat} (s : Suf p k) (hp : p ≤ 5000) (h : isP p = false) : Suf (p + 1) k ∧ pl (5001 - p) p k = pl (5001 - (p + 1)) (p + 1) k := by
  obtain ⟨pre, e, hy⟩ := s
  have e2 : pl (5001 - p) p k = pl (5001 - (p + 1)) (p + 1) k := by rw [show 5001 - p = (5001 - (p + 1)) + 1 by omega, pl_succ, h, bc_false]
  exact ⟨⟨pre, by rw [e, e2], fun y h => Nat.lt_succ_of_lt (hy y h)⟩, e2⟩
theorem Suf.yes {p k : Nat} (s : Suf p k) (hp : p ≤ 5000) (h : isP p = true) : Suf (p + 1) (k + 1) ∧ pl (5001 - p) p k = (k + 1, p) :: pl (5001 - (p + 1)) (p + 1) (k + 1) ∧ qT p = k + 1 := by
  obtain ⟨pre, e, hy⟩ := s
  have e2 : pl (5001 - p) p k = (k + 1, p) :: pl (5001 - (p + 1)) (p + 1) (k + 1) := by rw [show 5001 - p = (5001 - (p + 1)) + 1 by omega, pl_succ, h, bc_true]
  refine ⟨⟨pre ++ [(k + 1, p)], by rw [e, e2]; simp, fun y h => ?_⟩, e2, ?_⟩
  · rcases List.mem_append.1 h with h | h
    · exact Nat.lt_succ_of_lt (hy y h)
    · simp at h; subst h; exact Nat.lt_succ_self _
  · rw [qT_eq, e, e2, List.find?_append, List.find?_eq_none.2 fun y h => by have := hy y h; simp; omega]
    simp [fst0]

theorem codT_len {f n : Nat} (h1 : 1 ≤ n) (h5 : n ≤ 5000) (hf : n ≤ f) : (codT f n).length ≤ 2 * n := by
  obtain ⟨e, w', h⟩ := calls_some (codeText_calls f n default h1 h5 hf)
  exact h.1.2
theorem pow_bound {m k n : Nat} (hm : 1 ≤ m) (h : m * 2 ^ k ≤ n) (hn : n ≤ 5000) : k < 13 := by
  rcases Nat.lt_or_ge k 13 with h1 | h1
  · exact h1
  · have h2 : 2 ^ 13 ≤ 2 ^ k := Nat.pow_le_pow_right (by omega) h1
    have h3 : 1 * 2 ^ k ≤ m * 2 ^ k := Nat.mul_le_mul_right _ hm
    omega

section
variable {F g : Nat}
theorem l2_inner {self : AV → H → Option R} {p T0 : Nat} {T : List Nat} {n : Nat} {h0 : H} (hF : 10000 ≤ F) (hp2 : 2 ≤ p) (hp5 : p ≤ 5000) (hpr : isP p = true) (hT : plOf p = T0) (hself : ∀ h, ∃ h', self (nI T0) h = some (strV T, h') ∧ Fr h h') (hn : n ≤ 5000) (kc : List AV → H → Option R) :
    ∀ (gf N m : Nat) (ss : List (List Nat)) (x : AV) (D : Nat) (h : H), m < 2 ^ gf → gf < N → 1 ≤ m → m * 2 ^ ss.length ≤ n → RowS x D ss h → Fr h0 h → h0.n ≤ D →
    ∃ m' ss' x' D' h', loopD N (c_spec_l2Tree_l1 F g self kc) [nI m, x, nI p] h = kc [nI m', x', nI (p + 1)] h' ∧ RowS x' D' ss' h' ∧ Fr h0 h' ∧ h0.n ≤ D' ∧ 1 ≤ m' ∧ m' * 2 ^ ss'.length ≤ n ∧ m' % p ≠ 0 ∧ m' ∣ m ∧
      ∀ K : Nat → List Nat → List Nat, peel p T gf m ss.flatten K = K m' ss'.flatten
  | 0, N, m, ss, x, D, h, h1, _, h2, _, _, _, _ => by simp at h1; omega
  | gf + 1, 0, m, ss, x, D, h, _, h1, _, _, _, _, _ => by omega
  | gf + 1, N + 1, m, ss, x, D, h, h1, h2, h3, h4, r, fr, hD => by
    have hk := pow_bound h3 h4 hn
    have hm5 : m ≤ 5000 := by
      have : m * 1 ≤ m * 2 ^ ss.length := Nat.mul_le_mul_left _ (Nat.one_le_two_pow)
      omega
    rw [loopD_succ]
    delta c_spec_l2Tree_l1
    dsimp only [hd_cons, tl_cons]
    rw [remN (by omega), show AV.int 3 (Int.ofNat 0) = nI 0 from rfl, eqlN, withBool_bool]
    by_cases hq : m % p = 0
    · obtain ⟨q1, q2, q3⟩ := div_pos_of_dvd hp2 h3 hq
      obtain ⟨h', e1, f1⟩ := hself h
      have r1 : RowS x D ss h' := r.of (f1.get D r.lt) f1.n
      obtain ⟨h2', e2, r2, n2, g2, l2⟩ := r1.push (by omega) T fun x18 h => aQuo (nI m) (nI p) h fun x19 h => loopD N (c_spec_l2Tree_l1 F g self kc) [x19, x18, nI p] h
      have fr2 : Fr h0 h2' := ⟨Nat.le_trans (fr.trans f1).n n2, fun c hc => (g2 c (Nat.lt_of_lt_of_le hc (fr.trans f1).n) (by omega)).trans ((fr.trans f1).get c hc), fun b hb1 hb2 => l2 b ((fr.trans f1).lo b hb1 hb2) (Nat.le_trans hb2 hD)⟩
      have hmq : m = p * (m / p) := by have := Nat.div_add_mod m p; omega
      have h5 : m / p * 2 ^ (ss ++ [T]).length ≤ n := by
        rw [List.length_append, List.length_singleton, Nat.pow_succ]
        have e : m / p * (2 ^ ss.length * 2) = (2 * (m / p)) * 2 ^ ss.length := by rw [Nat.mul_comm (2 ^ ss.length) 2, ← Nat.mul_assoc, Nat.mul_comm (m / p) 2]
        rw [e]
        have : 2 * (m / p) ≤ m := by
          have h6 := Nat.mul_le_mul_right (m / p) hp2
          omega
        exact Nat.le_trans (Nat.mul_le_mul_right _ this) h4
      obtain ⟨m', ss', x', D', h3', k1, k2, k3, k4, k5, k6, k7, k8, k9⟩ := l2_inner hF hp2 hp5 hpr hT hself hn kc gf N (m / p) (ss ++ [T]) _ _ h2' (half_lt hp2 h1) (by omega) q1 h5 r2 fr2 (by have := (fr.trans f1).n; omega)
      refine ⟨m', ss', x', D', h3', ?_, k2, k3, k4, k5, k6, k7, Nat.dvd_trans k8 (Nat.div_dvd_of_dvd (Nat.dvd_of_mod_eq_zero hq)), fun K => ?_⟩
      · rw [hq, Nat.beq_refl, bc_true, l2Place_ok (by omega) hp5, bindR_some', hT, e1, bindR_some']
        refine e2.trans ?_
        rw [quoN (by omega) (by omega)]
        exact k1
      · rw [peel_succ, hq, Nat.beq_refl, bc_true, ← k9 K, List.flatten_append]; simp
    · have hb : Nat.beq (m % p) 0 = false := by rw [beq_decide, decide_eq_false_iff_not]; exact hq
      refine ⟨m, ss, x, D, h, ?_, r, fr, hD, h3, h4, hq, Nat.dvd_refl _, fun K => ?_⟩
      · rw [hb, bc_false, show AV.int 3 (Int.ofNat 1) = nI 1 from rfl, addN (by omega)]
      · rw [peel_succ, hb, bc_false]
/-- What is left to do at p. -/
def Rest (f n p m : Nat) (a : List Nat) : Prop := (m = 1 ∧ a = inT (f + 1) n) ∨ (m ≠ 1 ∧ ∃ k, Suf p k ∧ goT (codT f) (pl (5001 - p) p k) m a = inT (f + 1) n)
theorem l2_outer {f n : Nat} {h0 : H} (hF : 10000 ≤ F) (hself : ∀ k, 1 ≤ k → k ≤ 5000 → k ≤ f → ∀ h, ∃ h', c_spec_l2Tree F f (nI k) h = some (strV (codT f k), h') ∧ Fr h h') (hn1 : 1 ≤ n) (hn : n ≤ 5000) (hnf : n ≤ f + 1) :
    ∀ (j N p m : Nat) (ss : List (List Nat)) (x : AV) (D : Nat) (h : H), p + j = 5002 → j < N → 2 ≤ p → 1 ≤ m → m * 2 ^ ss.length ≤ n → (∀ q, 2 ≤ q → q < p → m % q ≠ 0) → Rest f n p m ss.flatten → RowS x D ss h → Fr h0 h → h0.n ≤ D →
    ∃ h', loopD N (c_spec_l2Tree_l2 F g (c_spec_l2Tree F f)) [nI m, x, nI p] h = some (strV (codT (f + 1) n), h') ∧ Fr h0 h'
  | j, 0, p, m, ss, x, D, h, _, h1, _, _, _, _, _, _, _, _ => by omega
  | j, N + 1, p, m, ss, x, D, h, hj, hN, hp, h3, h4, hd, hR, r, fr, hD => by
    have hk := pow_bound h3 h4 hn
    have hm5 : m ≤ n := by
      have : m * 1 ≤ m * 2 ^ ss.length := Nat.mul_le_mul_left _ (Nat.one_le_two_pow)
      omega
    rw [loopD_succ]
    delta c_spec_l2Tree_l2
    dsimp only [hd_cons, tl_cons]
    rw [leqN, withBool_bool]
    by_cases hpm : p ≤ m
    · rw [ble_true hpm, bc_true]
      have hm1 : m ≠ 1 := by omega
      obtain ⟨j', rfl⟩ : ∃ j', j = j' + 1 := ⟨j - 1, by omega⟩
      rcases hR with ⟨h1, _⟩ | ⟨_, k, hS, hG⟩
      · exact absurd h1 hm1
      cases hpr : isP p with
      | false =>
        obtain ⟨hS2, e2⟩ := hS.no (by omega) hpr
        obtain ⟨a, a2, a3, a4⟩ := small_div hp (by omega) hpr
        have hmp : m % p ≠ 0 := fun hh => hd a a2 a3 (mod_of_dvd hh a4)
        have hb : Nat.beq (m % p) 0 = false := by rw [beq_decide, decide_eq_false_iff_not]; exact hmp
        obtain ⟨F', hF'⟩ : ∃ F', F = F' + 1 := ⟨F - 1, by omega⟩
        have hl : ∀ (body : List AV → H → (List AV → H → Option R) → Option R) (vs : List AV) (h : H), loopD F body vs h = loopD (F' + 1) body vs h := fun body vs h => by rw [hF']
        obtain ⟨h', q1, q2⟩ := l2_outer hF hself hn1 hn hnf j' N (p + 1) m ss x D h (by omega) (by omega) (by omega) h3 h4 (fun q q2 q3 => by
          by_cases hqp : q = p
          · subst hqp; exact hmp
          · exact hd q q2 (by omega)) (.inr ⟨hm1, k, hS2, by rw [← e2]; exact hG⟩) r fr hD
        refine ⟨h', ?_, q2⟩
        rw [hl, loopD_succ]
        delta c_spec_l2Tree_l1
        dsimp only [hd_cons, tl_cons]
        rw [remN (by omega), show AV.int 3 (Int.ofNat 0) = nI 0 from rfl, eqlN, withBool_bool, hb, bc_false, show AV.int 3 (Int.ofNat 1) = nI 1 from rfl, addN (by omega)]
        exact q1
      | true =>
        obtain ⟨hS2, e2, e3⟩ := hS.yes (by omega) hpr
        have hpl : plOf p = k + 1 := by rw [← e3]; exact (qT_prime hp (by omega)).2 hpr
        have hk1 := primesL_get (i := (primesL.length - (pl (5001 - p) p k).length)) (x := (k + 1, p)) (by
          obtain ⟨pre, e, _⟩ := hS
          rw [e, e2]
          simp)
        have hgf : m < 2 ^ 13 := by omega
        obtain ⟨m', ss', x', D', h', k1, k2, k3, k4, k5, k6, k7, k8, k9⟩ := l2_inner (F := F) (g := g) (h0 := h0) (n := n) (T0 := k + 1) (T := codT f (k + 1)) hF hp (by omega) hpr hpl (hself (k + 1) (by omega) (by omega) (by have := hk1.2.1; omega)) hn (loopD N (c_spec_l2Tree_l2 F g (c_spec_l2Tree F f))) 13 F m ss x D h hgf (by omega) h3 h4 r fr hD
        rw [e2, goT_cons, k9] at hG
        have hd' : ∀ q, 2 ≤ q → q < p + 1 → m' % q ≠ 0 := fun q q2 q3 => by
          by_cases hqp : q = p
          · subst hqp; exact k7
          · intro hh
            exact hd q q2 (by omega) (Nat.mod_eq_zero_of_dvd (Nat.dvd_trans (Nat.dvd_of_mod_eq_zero hh) k8))
        obtain ⟨h2', q1, q2⟩ := l2_outer hF hself hn1 hn hnf j' N (p + 1) m' ss' x' D' h' (by omega) (by omega) (by omega) k5 k6 hd' (by
          by_cases hm' : m' = 1
          · subst hm'; exact .inl ⟨rfl, hG⟩
          · refine .inr ⟨hm', k + 1, hS2, ?_⟩
            rw [show Nat.beq m' 1 = false from by rw [beq_decide, decide_eq_false_iff_not]; exact hm', bc_false] at hG
            exact hG) k2 k3 k4
        exact ⟨h2', k1.trans q1, q2⟩
    · rw [ble_false (by omega), bc_false]
      have hm1 : m = 1 := Decidable.byContradiction fun hh => hd m (by omega) (by omega) (Nat.mod_self m)
      have hfl : ss.flatten = inT (f + 1) n := by
        rcases hR with ⟨_, h2⟩ | ⟨h2, _⟩
        · exact h2
        · exact absurd hm1 h2
      have hlen := codT_len (f := f + 1) hn1 hn hnf
      have hlen2 : (inT (f + 1) n).length + 2 ≤ 10000 := by simp [codT] at hlen; omega
      refine ⟨h, ?_, fr⟩
      have e := l1Of_loop (F := F) (g := g) r (by omega) F 0 [40] (by omega) (Nat.zero_le _) (by rw [List.drop_zero, hfl]; simp; omega)
      delta c_spec_l1Of
      rw [show AV.str [40] 1 = strV [40] from rfl, show AV.int 3 (Int.ofNat 0) = nI 0 from rfl, e, bindR_some', List.drop_zero, hfl]
      rfl
theorem l2_tree (hF : 10000 ≤ F) : ∀ (f n : Nat), 1 ≤ n → n ≤ 5000 → n ≤ f → ∀ h, ∃ h', c_spec_l2Tree F f (nI n) h = some (strV (codT f n), h') ∧ Fr h h'
  | 0, n, h1, _, h2, h => by omega
  | f + 1, n, h1, h5, h2, h => by
    have r0 : RowS (.leaf (.sl h.n 0 0 0)) h.n [] (h.push (.cells 0 [])) := ⟨.inl ⟨rfl, rfl⟩, get_push_eq rfl, Nat.lt_succ_self _⟩
    have hst : Rest f n 2 n ([] : List (List Nat)).flatten := by
      by_cases hn : n = 1
      · subst hn
        refine .inl ⟨rfl, ?_⟩
        rw [inT_codT, primesL_w]; rfl
      · exact .inr ⟨hn, 0, Suf.start, by rw [← primesL_eq]; rfl⟩
    obtain ⟨h', e, fr⟩ := l2_outer (F := F) (g := f) (h0 := h) hF (l2_tree hF f) h1 h5 h2 5000 F 2 n [] _ _ _ (by omega) (by omega) (by omega) h1 (by simp) (fun q q1 q2 => by omega) hst r0 (Fr.push h _) (Nat.le_refl _)
    exact ⟨h', e, fr⟩
end
end
end Go.AI
