/- Primes and places as given functions. -/
import Derived.Test.YtlcmolcajoeagaaPr2
import Derived.Test.YtlcmolcajoeagaaPr3
namespace Go.AI
open Go Go.RowKit
noncomputable section
set_option linter.unusedVariables false
set_option linter.unusedSimpArgs false
set_option maxRecDepth 100000
/-- The prime at a place, 0 if there is none; the place of a prime. -/
def look1 (l : List (Nat × Nat)) (n : Nat) : Nat := @List.rec (Nat × Nat) (fun _ => Nat) 0 (fun x _ r => bc (Nat.beq x.1 n) x.2 r) l
def look2 (l : List (Nat × Nat)) (n : Nat) : Nat := @List.rec (Nat × Nat) (fun _ => Nat) 0 (fun x _ r => bc (Nat.beq x.2 n) x.1 r) l
def fst0 (x : Option (Nat × Nat)) : Nat := match x with | some x => x.1 | none => 0
theorem snd0_map (x : Option (Nat × Nat)) : snd0 x = (x.map fun y => y.2).getD 0 := by cases x <;> rfl
theorem fst0_map (x : Option (Nat × Nat)) : fst0 x = (x.map fun y => y.1).getD 0 := by cases x <;> rfl
theorem look1_eq (n : Nat) : ∀ l, look1 l n = snd0 (l.find? fun x => decide (x.1 = n))
  | [] => rfl
  | x :: l => by
    show bc (Nat.beq x.1 n) x.2 (look1 l n) = _
    rw [beq_decide, List.find?_cons, look1_eq n l]
    cases decide (x.1 = n) <;> rfl
theorem look2_eq (n : Nat) : ∀ l, look2 l n = fst0 (l.find? fun x => decide (x.2 = n))
  | [] => rfl
  | x :: l => by
    show bc (Nat.beq x.2 n) x.1 (look2 l n) = _
    rw [beq_decide, List.find?_cons, look2_eq n l]
    cases decide (x.2 = n) <;> rfl
def pT (n : Nat) : Nat := look1 primesW n
def qT (n : Nat) : Nat := look2 primesW n
theorem pT_eq (n : Nat) : pT n = snd0 (primesL.find? fun x => decide (x.1 = n)) := by rw [primesL_w]; exact look1_eq n _
theorem qT_eq (n : Nat) : qT n = fst0 (primesL.find? fun x => decide (x.2 = n)) := by rw [primesL_w]; exact look2_eq n _
theorem primes_pos {x : Nat × Nat} (h : x ∈ primesL) : 1 ≤ x.1 ∧ 2 ≤ x.2 ∧ x.2 ≤ 5000 ∧ isP x.2 = true := by
  rw [primesL_eq] at h
  have := pl_one 4999 2 0 x h
  exact ⟨by omega, by omega, by omega, this.2.2.2⟩
theorem pT_at {k : Nat} (h : 1 ≤ k) : prAt k = pT k := by rw [pT_eq, prAt_find h]
theorem pT_max (k : Nat) : pT k ≤ 5000 := by
  rw [pT_eq]
  cases h : primesL.find? fun x => decide (x.1 = k) with
  | none => exact Nat.zero_le _
  | some x => exact (primes_pos (List.mem_of_find?_eq_some h)).2.2.1
theorem qT_prime {p : Nat} (h2 : 2 ≤ p) (h5 : p ≤ 5000) : isP p = bnot (Nat.beq (qT p) 0) ∧ (isP p = true → plOf p = qT p) := by
  rw [qT_eq, primesL_eq]
  cases hp : isP p with
  | true =>
    have h := cnt_find 4999 p 2 0 h2 (by omega) hp
    rw [h]
    refine ⟨?_, fun _ => rfl⟩
    have h3 := (pl_one 4999 2 0 _ (List.mem_of_find?_eq_some h)).1
    show true = bnot (Nat.beq (cnt_ 4999 p 2 0) 0)
    cases hb : Nat.beq (cnt_ 4999 p 2 0) 0 with
    | false => rfl
    | true =>
      have := Nat.eq_of_beq_eq_true hb
      have h4 : 0 < cnt_ 4999 p 2 0 := h3
      omega
  | false =>
    rw [cnt_none p (fun h => by rw [hp] at h; cases h.2.2)]
    exact ⟨rfl, fun h => by cases h⟩
theorem qT_out {p : Nat} (h : ¬ (2 ≤ p ∧ p ≤ 5000)) : qT p = 0 := by
  rw [qT_eq, primesL_eq, cnt_none p (fun k => h ⟨k.1, k.2.1⟩)]; rfl

/-- What is told of a number that was looked for. -/
def toldN (n : Nat) : AV := .one .tup (.cons (nI n) (.cons (.bool (bnot (Nat.beq n 0))) (.leaf .nil)))
theorem toldN_told {f : Nat × Nat → Nat} {x : Option (Nat × Nat)} {z : Option (Nat × Nat)} (hz : z = x) (hf : ∀ y, x = some y → 0 < f y) {ι : Inj} {n : Nat} (hn : n = (x.map f).getD 0) : VR ι (toldN n) (told f z) := by
  subst hz
  cases z with
  | none => subst hn; exact ⟨_, rfl, _, _, rfl, rfl, _, _, rfl, rfl, rfl⟩
  | some y =>
    subst hn
    have h0 := hf y rfl
    have hb : Nat.beq (f y) 0 = false := by cases hb : Nat.beq (f y) 0 with | false => rfl | true => have := Nat.eq_of_beq_eq_true hb; omega
    refine ⟨_, rfl, _, _, rfl, rfl, _, _, rfl, ?_, rfl⟩
    show VX ι (.bool (bnot (Nat.beq (f y) 0))) [Value.bool true]
    rw [hb]; rfl
/-- A call that tells a plain value and writes nothing that was there. -/
theorem Tri.of_calls {P : Program} {f : FuncId} {args : List AV} {h : H} {x : AV} (hc : Callable P f) (hr : ∀ (w : World) vs, VL (fun _ => none) args vs → Calls P f vs.toArray w fun e w' => ∃ v, e = .returned v ∧ VR (fun _ => none) x v ∧ Below w.heap.size w w')
    (ha : ∀ a ∈ args, a.plain = true) (hx : x.plain = true) : Tri P f args h (x, h) :=
  ⟨hc, fun ι w vs hR hV => (hr w vs (VL.plain ha hV)).mono fun e w' ⟨v, he, hv, hb⟩ => ⟨v, ι, he, plain_mono hx hv, Ext.of_below hR hb, hR.grow hb⟩⟩
end
end Go.AI
namespace Go.AI.T
open Go Go.RowKit Go.AI Go.Proofs
noncomputable section
set_option linter.unusedVariables false
set_option linter.unusedSimpArgs false
set_option maxRecDepth 100000
def onI (a : AV) (f : Nat → Option R) (g : Option R) : Option R := a.onInt none fun k v => bc (Nat.beq k 3) (@Int.rec (fun _ => Option R) f (fun _ => g) v) none
theorem onI_some {a : AV} {f : Nat → Option R} {g : Option R} {r : R} (e : onI a f g = some r) : (∃ n, a = nI n ∧ f n = some r) ∨ (∃ n, a = .int 3 (.negSucc n) ∧ g = some r) := by
  cases a using AV.casesE <;> try (cases e; done)
  rename_i k v
  have e : bc (Nat.beq k 3) (@Int.rec (fun _ => Option R) f (fun _ => g) v) none = some r := e
  obtain ⟨hk, e⟩ := bif_some e
  obtain rfl := Nat.eq_of_beq_eq_true hk
  cases v with
  | ofNat n => exact .inl ⟨n, rfl, e⟩
  | negSucc n => exact .inr ⟨n, rfl, e⟩

def c_spec_l2Prime (F g : Nat) (a0 : AV) (h : H) : Option R := onI a0 (fun n => bc (Nat.ble 2 n) (bc (Nat.ble n 5000) (some (.bool (bnot (Nat.beq (qT n) 0)), h)) none) none) none
theorem s_spec_l2Prime (F g : Nat) : ∀ args h r, u1 (c_spec_l2Prime F g) args h = some r → Tri Try.prog 80 args h r := by
  intro args h r e
  obtain ⟨a0, rfl, e1⟩ := u1_some e
  rcases onI_some e1 with ⟨n, rfl, e2⟩ | ⟨n, rfl, e2⟩
  · obtain ⟨h2, e3⟩ := bif_some e2
    obtain ⟨h5, e4⟩ := bif_some e3
    have h5 := Nat.le_of_ble_eq_true h5
    cases e4
    rw [← (qT_prime (Nat.le_of_ble_eq_true h2) h5).1]
    obtain ⟨F, hF⟩ : ∃ F, 100 ≤ F := ⟨_, Nat.le_refl _⟩
    exact Go.AI.s_spec_l2Prime F 0 [nI n] h _ (l2Prime_ok (F := F) (g := 0) hF h5)
  · cases e2
def c_spec_l2At (F g : Nat) (a0 : AV) (h : H) : Option R := onI a0 (fun n => bc (Nat.ble 1 n) (bc (Nat.ble n 9223372036854775807) (some (nI (pT n), h)) none) none) none
theorem s_spec_l2At (F g : Nat) : ∀ args h r, u1 (c_spec_l2At F g) args h = some r → Tri Try.prog 78 args h r := by
  intro args h r e
  obtain ⟨a0, rfl, e1⟩ := u1_some e
  rcases onI_some e1 with ⟨n, rfl, e2⟩ | ⟨n, rfl, e2⟩
  · obtain ⟨h1, e3⟩ := bif_some e2
    obtain ⟨h5, e4⟩ := bif_some e3
    have h1 := Nat.le_of_ble_eq_true h1
    cases e4
    rw [← pT_at h1]
    obtain ⟨F, hF⟩ : ∃ F, 5100 ≤ F := ⟨_, Nat.le_refl _⟩
    exact Go.AI.s_spec_l2At F 0 [nI n] h _ (l2At_ok (F := F) (g := 0) hF h1 (Nat.le_of_ble_eq_true h5))
  · cases e2
def c_spec_l2Place (F g : Nat) (a0 : AV) (h : H) : Option R := onI a0 (fun n => bc (Nat.beq (qT n) 0) none (some (nI (qT n), h))) none
theorem s_spec_l2Place (F g : Nat) : ∀ args h r, u1 (c_spec_l2Place F g) args h = some r → Tri Try.prog 81 args h r := by
  intro args h r e
  obtain ⟨a0, rfl, e1⟩ := u1_some e
  rcases onI_some e1 with ⟨n, rfl, e2⟩ | ⟨n, rfl, e2⟩
  · cases hb : Nat.beq (qT n) 0 with
    | true => rw [hb] at e2; cases e2
    | false =>
      rw [hb, bc_false] at e2
      cases e2
      have hin : 2 ≤ n ∧ n ≤ 5000 := Decidable.byContradiction fun hc => by rw [qT_out hc] at hb; cases hb
      have hq := qT_prime hin.1 hin.2
      rw [hb] at hq
      rw [← hq.2 hq.1]
      obtain ⟨F, hF⟩ : ∃ F, 5100 ≤ F := ⟨_, Nat.le_refl _⟩
      exact Go.AI.s_spec_l2Place F 0 [nI n] h _ (l2Place_ok (F := F) (g := 0) hF hin.2)
  · cases e2

theorem find_int1 (n : Nat) : (primesL.find? fun x => decide ((x.1 : Int) = Int.ofNat n)) = primesL.find? fun x => decide (x.1 = n) := by
  congr 1; funext x; rw [decide_eq_decide]; show ((x.1 : Int) = (n : Int)) ↔ _; omega
theorem find_int2 (n : Nat) : (primesL.find? fun x => decide ((x.2 : Int) = Int.ofNat n)) = primesL.find? fun x => decide (x.2 = n) := by
  congr 1; funext x; rw [decide_eq_decide]; show ((x.2 : Int) = (n : Int)) ↔ _; omega
theorem find_neg1 (n : Nat) : (primesL.find? fun x => decide ((x.1 : Int) = Int.negSucc n)) = none := List.find?_eq_none.2 fun x _ => by simp
theorem find_neg2 (n : Nat) : (primesL.find? fun x => decide ((x.2 : Int) = Int.negSucc n)) = none := List.find?_eq_none.2 fun x _ => by simp

def c_impl_CodePrime (F g : Nat) (a0 : AV) (h : H) : Option R := onI a0 (fun n => some (toldN (pT n), h)) (some (toldN 0, h))
theorem s_impl_CodePrime (F g : Nat) : ∀ args h r, u1 (c_impl_CodePrime F g) args h = some r → Tri Try.prog 24 args h r := by
  intro args h r e
  obtain ⟨a0, rfl, e1⟩ := u1_some e
  have hc : Callable Try.prog 24 := ⟨_, Try.func24, rfl, rfl⟩
  rcases onI_some e1 with ⟨n, rfl, e2⟩ | ⟨n, rfl, e2⟩
  · cases e2
    refine Tri.of_calls hc (fun w vs hV => ?_) (fun a ha => by cases ha with | head => rfl | tail _ ha => cases ha) rfl
    cases hV with | cons h1 h2 => cases h2; cases h1; exact (CodePrime_calls _ w).mono fun e w' ⟨he, hb⟩ => ⟨_, he, toldN_told (find_int1 n) (fun y hy => (Nat.lt_of_lt_of_le Nat.zero_lt_two (primes_pos (List.mem_of_find?_eq_some hy)).2.1)) ((pT_eq n).trans (snd0_map _)), hb⟩
  · cases e2
    refine Tri.of_calls hc (fun w vs hV => ?_) (fun a ha => by cases ha with | head => rfl | tail _ ha => cases ha) rfl
    cases hV with | cons h1 h2 => cases h2; cases h1; exact (CodePrime_calls _ w).mono fun e w' ⟨he, hb⟩ => ⟨_, he, toldN_told (find_neg1 n) (fun y hy => by cases hy) rfl, hb⟩
def c_impl_CodePlace (F g : Nat) (a0 : AV) (h : H) : Option R := onI a0 (fun n => some (toldN (qT n), h)) (some (toldN 0, h))
theorem s_impl_CodePlace (F g : Nat) : ∀ args h r, u1 (c_impl_CodePlace F g) args h = some r → Tri Try.prog 26 args h r := by
  intro args h r e
  obtain ⟨a0, rfl, e1⟩ := u1_some e
  have hc : Callable Try.prog 26 := ⟨_, Try.func26, rfl, rfl⟩
  rcases onI_some e1 with ⟨n, rfl, e2⟩ | ⟨n, rfl, e2⟩
  · cases e2
    refine Tri.of_calls hc (fun w vs hV => ?_) (fun a ha => by cases ha with | head => rfl | tail _ ha => cases ha) rfl
    cases hV with | cons h1 h2 => cases h2; cases h1; exact (CodePlace_calls _ w).mono fun e w' ⟨he, hb⟩ => ⟨_, he, toldN_told (find_int2 n) (fun y hy => (primes_pos (List.mem_of_find?_eq_some hy)).1) ((qT_eq n).trans (fst0_map _)), hb⟩
  · cases e2
    refine Tri.of_calls hc (fun w vs hV => ?_) (fun a ha => by cases ha with | head => rfl | tail _ ha => cases ha) rfl
    cases hV with | cons h1 h2 => cases h2; cases h1; exact (CodePlace_calls _ w).mono fun e w' ⟨he, hb⟩ => ⟨_, he, toldN_told (find_neg2 n) (fun y hy => by cases hy) rfl, hb⟩
end
end Go.AI.T
