/- The specification's primes and places. -/
import Derived.Test.YtlcmolcajoeagaaRaw
import Derived.Test.YtlcmolcajoeagaaPr1
import Derived.KernelRfl

/- The specification's primes and places, told at once. -/
namespace Go.AI
open Go Go.RowKit
noncomputable section
set_option linter.unusedVariables false
set_option linter.unusedSimpArgs false
set_option maxRecDepth 100000

theorem leqN {α : Type} {h : H} {k : AV → H → Option α} {a b : Nat} : aCmpI ile (nI a) (nI b) h k = k (.bool (Nat.ble a b)) h := rfl
theorem l2Prime_loop {F g n : Nat} {h : H} (hn : n ≤ 5000) : ∀ (f k G : Nat), 72 ≤ f + k → 2 ≤ k → k ≤ 72 → f ≤ G → loopD (G + 1) (c_spec_l2Prime_l1 F g) [nI n, nI k] h = some (.bool (tdiv (f + 1) n k), h)
  | f, k, G, h1, h2, h3, hG => by
    rw [loopD_succ, tdiv_succ]
    have hkk : k * k ≤ 72 * 72 := Nat.mul_le_mul h3 h3
    delta c_spec_l2Prime_l1
    dsimp only [hd_cons, tl_cons]
    rw [mulN (by omega), leqN, withBool_bool]
    cases hb : Nat.ble (k * k) n with
    | false =>
      rw [bc_false, bc_false]; rfl
    | true =>
      have hk : k * k ≤ 5000 := Nat.le_trans (Nat.le_of_ble_eq_true hb) hn
      have hk2 : k < 71 := by
        rcases Nat.lt_or_ge k 71 with h | h
        · exact h
        · have := Nat.mul_le_mul h h; omega
      rw [bc_true, bc_true, remN (by omega), show AV.int 3 (Int.ofNat 0) = nI 0 from rfl, eqlN, withBool_bool]
      cases hq : Nat.beq (n % k) 0 with
      | true => rw [bc_true, bc_true]
      | false =>
        obtain ⟨f', rfl⟩ : ∃ f', f = f' + 1 := ⟨f - 1, by omega⟩
        obtain ⟨G', rfl⟩ : ∃ G', G = G' + 1 := ⟨G - 1, by omega⟩
        rw [bc_false, bc_false, show AV.int 3 (Int.ofNat 1) = nI 1 from rfl, addN (by omega)]
        exact l2Prime_loop (F := F) (g := g) hn f' (k + 1) G' (by omega) (by omega) (by omega) (by omega)
theorem l2Prime_ok {F g n : Nat} {h : H} (hF : 100 ≤ F) (hn : n ≤ 5000) : c_spec_l2Prime F g (nI n) h = some (.bool (isP n), h) := by
  obtain ⟨G, rfl⟩ : ∃ G, F = G + 1 := ⟨F - 1, by omega⟩
  exact l2Prime_loop hn 71 2 G (by omega) (by omega) (by omega) (by omega)

theorem l2At_loop {F g : Nat} {h : H} (hF : 100 ≤ F) : ∀ (f k n G : Nat), n + f = 5001 → 2 ≤ n → 1 ≤ k → k ≤ 9223372036854775807 → f ≤ G → loopD (G + 1) (c_spec_l2At_l2 F g) [nI k, nI n] h = some (nI (at_ f k n), h)
  | 0, k, n, G, h1, h2, hk, hk2, hG => by
    rw [loopD_succ]
    delta c_spec_l2At_l2
    dsimp only [hd_cons, tl_cons]
    rw [show AV.int 3 (Int.ofNat 5000) = nI 5000 from rfl, leqN, withBool_bool, ble_false (by omega), bc_false]
    rfl
  | f + 1, k, n, G, h1, h2, hk, hk2, hG => by
    obtain ⟨G', rfl⟩ : ∃ G', G = G' + 1 := ⟨G - 1, by omega⟩
    rw [loopD_succ, at_succ]
    delta c_spec_l2At_l2
    dsimp only [hd_cons, tl_cons]
    rw [show AV.int 3 (Int.ofNat 5000) = nI 5000 from rfl, leqN, withBool_bool, ble_true (by omega), bc_true, l2Prime_ok hF (by omega), bindR_some', withBool_bool]
    have go : ∀ j, 1 ≤ j → j ≤ 9223372036854775807 → c_spec_l2At_j1 F g (loopD (G' + 1) (c_spec_l2At_l2 F g)) [nI j, nI n] h = some (nI (at_ f j (n + 1)), h) := fun j hj hj2 => by
      delta c_spec_l2At_j1
      dsimp only [hd_cons, tl_cons]
      rw [show AV.int 3 (Int.ofNat 1) = nI 1 from rfl, addN (by omega)]
      exact l2At_loop (F := F) (g := g) hF f j (n + 1) G' (by omega) (by omega) hj hj2 (by omega)
    cases isP n with
    | false => rw [bc_false, bc_false]; exact go k hk hk2
    | true =>
      rw [bc_true, bc_true, show AV.int 3 (Int.ofNat 1) = nI 1 from rfl, subN hk hk2, show AV.int 3 (Int.ofNat 0) = nI 0 from rfl, eqlN, withBool_bool]
      cases hb : Nat.beq (k - 1) 0 with
      | true => rw [bc_true, bc_true]
      | false =>
        rw [bc_false, bc_false]
        have : k - 1 ≠ 0 := fun e => by rw [e] at hb; cases hb
        exact go (k - 1) (by omega) (by omega)
theorem l2At_ok {F g k : Nat} {h : H} (hF : 5100 ≤ F) (hk : 1 ≤ k) (hk2 : k ≤ 9223372036854775807) : c_spec_l2At F g (nI k) h = some (nI (prAt k), h) := by
  obtain ⟨G, rfl⟩ : ∃ G, F = G + 1 := ⟨F - 1, by omega⟩
  exact l2At_loop (by omega) 4999 k 2 G (by omega) (by omega) hk hk2 (by omega)

theorem cnt_le : ∀ (f p n k : Nat), cnt_ f p n k ≤ k + f
  | 0, p, n, k => Nat.le_refl _
  | f + 1, p, n, k => by
    rw [cnt_succ]
    cases Nat.ble n p with
    | false => rw [bc_false]; omega
    | true =>
      rw [bc_true]
      cases isP n with
      | false => rw [bc_false]; have := cnt_le f p (n + 1) k; omega
      | true => rw [bc_true]; have := cnt_le f p (n + 1) (k + 1); omega
theorem l2Place_loop {F g p : Nat} {h : H} (hF : 100 ≤ F) (hp : p ≤ 5000) : ∀ (f n k G : Nat), n + f = 5001 → 2 ≤ n → k ≤ n → f ≤ G → loopD (G + 1) (c_spec_l2Place_l2 F g) [nI p, nI k, nI n] h = some (nI (cnt_ f p n k), h)
  | 0, n, k, G, h1, h2, hk, hG => by
    rw [loopD_succ]
    delta c_spec_l2Place_l2
    dsimp only [hd_cons, tl_cons]
    rw [leqN, withBool_bool, ble_false (by omega), bc_false]
    rfl
  | f + 1, n, k, G, h1, h2, hk, hG => by
    obtain ⟨G', rfl⟩ : ∃ G', G = G' + 1 := ⟨G - 1, by omega⟩
    rw [loopD_succ, cnt_succ]
    delta c_spec_l2Place_l2
    dsimp only [hd_cons, tl_cons]
    rw [leqN, withBool_bool]
    cases Nat.ble n p with
    | false => rw [bc_false, bc_false]
    | true =>
      rw [bc_true, bc_true, l2Prime_ok hF (by omega), bindR_some', withBool_bool]
      have go : ∀ j, j ≤ n + 1 → c_spec_l2Place_j1 F g (loopD (G' + 1) (c_spec_l2Place_l2 F g)) [nI p, nI j, nI n] h = some (nI (cnt_ f p (n + 1) j), h) := fun j hj => by
        delta c_spec_l2Place_j1
        dsimp only [hd_cons, tl_cons]
        rw [show AV.int 3 (Int.ofNat 1) = nI 1 from rfl, addN (by omega)]
        exact l2Place_loop (F := F) (g := g) hF hp f (n + 1) j G' (by omega) (by omega) hj (by omega)
      cases isP n with
      | false => rw [bc_false, bc_false]; exact go k (by omega)
      | true => rw [bc_true, bc_true, show AV.int 3 (Int.ofNat 1) = nI 1 from rfl, addN (by omega)]; exact go (k + 1) (by omega)
theorem l2Place_ok {F g p : Nat} {h : H} (hF : 5100 ≤ F) (hp : p ≤ 5000) : c_spec_l2Place F g (nI p) h = some (nI (plOf p), h) := by
  obtain ⟨G, rfl⟩ : ∃ G, F = G + 1 := ⟨F - 1, by omega⟩
  exact l2Place_loop (by omega) hp 4999 2 0 G (by omega) (by omega) (by omega) (by omega)
end
end Go.AI
