/- Texts of trees of any size: where a part ends; rows of texts. -/
import Derived.Test.YtojcncloeikjlabCjFn
namespace Go.AI.T
open Go Go.RowKit Go.AI
set_option linter.unusedVariables false
set_option linter.unusedSimpArgs false
set_option maxRecDepth 100000
noncomputable section
/-- Texts of trees of any size. -/
inductive UT : List Nat → Prop
  | mk (ks : List (List Nat)) : (∀ k ∈ ks, UT k) → UT (inB2 ks)
theorem inB2_len (ks : List (List Nat)) : (inB2 ks).length = sum ks + 2 := by
  show (flat ks ++ [41]).length + 1 = _
  rw [List.length_append, flat_len]; rfl
theorem scan_dec : ∀ (n : Nat) (r : List Nat) (d m : Nat), r.length ≤ n → scan r (d + 1) m = true → ∃ ks r' m', (∀ k ∈ ks, UT k) ∧ r = flat ks ++ 41 :: r' ∧ scan r' d m' = true
  | n, [], d, m, _, h => by cases h
  | 0, c :: r, d, m, hn, h => by simp at hn
  | n + 1, c :: r, d, m, hn, h => by
    have h : bc (Nat.beq c 41) (scan r d m) (bc (Nat.beq c 40) (bc (Nat.ble (m + 1) 9) (scan r (d + 2) (m + 1)) false) false) = true := h
    simp at hn
    cases h41 : Nat.beq c 41 with
    | true =>
      obtain rfl := Nat.eq_of_beq_eq_true h41
      rw [h41, bc_true] at h
      exact ⟨[], r, m, (fun k hk => by cases hk), rfl, h⟩
    | false =>
      rw [h41, bc_false] at h
      cases h40 : Nat.beq c 40 with
      | false => rw [h40] at h; cases h
      | true =>
        obtain rfl := Nat.eq_of_beq_eq_true h40
        rw [h40, bc_true] at h
        cases h9 : Nat.ble (m + 1) 9 with
        | false => rw [h9] at h; cases h
        | true =>
          rw [h9, bc_true] at h
          obtain ⟨k1, r1, m1, hk1, e1, s1⟩ := scan_dec n r (d + 1) (m + 1) hn h
          obtain ⟨k2, r2, m2, hk2, e2, s2⟩ := scan_dec n r1 d m1 (by rw [e1] at hn; simp at hn; omega) s1
          refine ⟨inB2 k1 :: k2, r2, m2, fun k hk => ?_, ?_, s2⟩
          · rcases List.mem_cons.1 hk with rfl | hk
            · exact .mk k1 hk1
            · exact hk2 k hk
          · rw [e1, e2]
            show 40 :: (flat k1 ++ 41 :: (flat k2 ++ 41 :: r2)) = (40 :: (flat k1 ++ [41]) ++ flat k2) ++ 41 :: r2
            simp
theorem tree_UT {k : List Nat} (ht : isTree k = true) : UT k := by
  cases k with
  | nil => cases ht
  | cons c r =>
    have h : bc (Nat.beq c 40) (scan r 1 1) false = true := ht
    cases h40 : Nat.beq c 40 with
    | false => rw [h40] at h; cases h
    | true =>
      rw [h40, bc_true] at h
      obtain rfl := Nat.eq_of_beq_eq_true h40
      obtain ⟨ks, r', m', hk, e, hs⟩ := scan_dec _ r 0 1 (Nat.le_refl _) h
      cases r' with
      | nil => rw [e]; exact .mk ks hk
      | cons a r' => cases hs
/-! ### Where a part ends -/
theorem idxS {s p q : List Nat} {c : Nat} (hs : s = p ++ c :: q) {h : H} (k : AV → H → Option R) : aIdxStr (sv s) (nI p.length) h k = k (.int 4 (.ofNat c)) h := by
  show bc (Nat.ble (Nat.succ p.length) s.length) (onSome (nthN s p.length) fun c => k (.int 4 (.ofNat c)) h) none = _
  rw [ble_true (show p.length + 1 ≤ s.length by rw [hs]; simp), bc_true, nthN_eq, hs, List.getElem?_append_right (Nat.le_refl _), Nat.sub_self]; rfl
section
variable {F g : Nat} {s : List Nat} {h : H}
theorem end_open (hsz : s.length ≤ 1000000) {N : Nat} {p q : List Nat} (hs : s = p ++ 40 :: q) {d : Nat} (hd : d ≤ 1000000) : loopD (N + 1) (Go.AI.V.c_spec_l1End_l2 F g) [sv s, nI d, nI p.length] h = loopD N (Go.AI.V.c_spec_l1End_l2 F g) [sv s, nI (d + 1), nI (p.length + 1)] h := by
  have hp : p.length < s.length := by rw [hs]; simp
  rw [loopD_succ]
  have st : Go.AI.V.c_spec_l1End_l2 F g [sv s, nI d, nI p.length] h (loopD N (Go.AI.V.c_spec_l1End_l2 F g)) = bc (Nat.ble (Nat.succ p.length) s.length) (aIdxStr (sv s) (nI p.length) h fun x17 h => aCmpI ieq x17 (AV.int 4 (Int.ofNat 40)) h fun x18 h => withBool x18 fun t19 => bc t19 (aArith iadd (nI d) (AV.int 3 (Int.ofNat 1)) h fun x20 h => (Go.AI.V.c_spec_l1End_j1 F g (loopD N (Go.AI.V.c_spec_l1End_l2 F g))) [sv s, x20, nI p.length] h) (aCmpI ieq x17 (AV.int 4 (Int.ofNat 41)) h fun x21 h => withBool x21 fun t22 => bc t22 (aArith isub (nI d) (AV.int 3 (Int.ofNat 1)) h fun x23 h => (Go.AI.V.c_spec_l1End_j1 F g (loopD N (Go.AI.V.c_spec_l1End_l2 F g))) [sv s, x23, nI p.length] h) (some ((AV.int 3 (Int.negSucc 0)), h)))) (some ((AV.int 3 (Int.negSucc 0)), h)) := rfl
  rw [st, ble_true (show Nat.succ p.length ≤ s.length from hp), bc_true, idxS hs]
  refine (show _ = aArith iadd (nI d) (nI 1) h fun x20 h => (Go.AI.V.c_spec_l1End_j1 F g (loopD N (Go.AI.V.c_spec_l1End_l2 F g))) [sv s, x20, nI p.length] h from rfl).trans ?_
  rw [addN (by omega)]
  have st2 : Go.AI.V.c_spec_l1End_j1 F g (loopD N (Go.AI.V.c_spec_l1End_l2 F g)) [sv s, nI (d + 1), nI p.length] h = aArith iadd (nI p.length) (nI 1) h fun x16 h => loopD N (Go.AI.V.c_spec_l1End_l2 F g) [sv s, nI (d + 1), x16] h := rfl
  rw [st2, addN (by omega)]
theorem end_close (hsz : s.length ≤ 1000000) {N : Nat} {p q : List Nat} (hs : s = p ++ 41 :: q) {d : Nat} (hd : d ≤ 1000000) : loopD (N + 1) (Go.AI.V.c_spec_l1End_l2 F g) [sv s, nI (d + 1), nI p.length] h = bc (Nat.beq d 0) (some (nI (p.length + 1), h)) (loopD N (Go.AI.V.c_spec_l1End_l2 F g) [sv s, nI d, nI (p.length + 1)] h) := by
  have hp : p.length < s.length := by rw [hs]; simp
  rw [loopD_succ]
  have st : Go.AI.V.c_spec_l1End_l2 F g [sv s, nI (d + 1), nI p.length] h (loopD N (Go.AI.V.c_spec_l1End_l2 F g)) = bc (Nat.ble (Nat.succ p.length) s.length) (aIdxStr (sv s) (nI p.length) h fun x17 h => aCmpI ieq x17 (AV.int 4 (Int.ofNat 40)) h fun x18 h => withBool x18 fun t19 => bc t19 (aArith iadd (nI (d + 1)) (AV.int 3 (Int.ofNat 1)) h fun x20 h => (Go.AI.V.c_spec_l1End_j1 F g (loopD N (Go.AI.V.c_spec_l1End_l2 F g))) [sv s, x20, nI p.length] h) (aCmpI ieq x17 (AV.int 4 (Int.ofNat 41)) h fun x21 h => withBool x21 fun t22 => bc t22 (aArith isub (nI (d + 1)) (AV.int 3 (Int.ofNat 1)) h fun x23 h => (Go.AI.V.c_spec_l1End_j1 F g (loopD N (Go.AI.V.c_spec_l1End_l2 F g))) [sv s, x23, nI p.length] h) (some ((AV.int 3 (Int.negSucc 0)), h)))) (some ((AV.int 3 (Int.negSucc 0)), h)) := rfl
  rw [st, ble_true (show Nat.succ p.length ≤ s.length from hp), bc_true, idxS hs]
  refine (show _ = aArith isub (nI (d + 1)) (nI 1) h fun x23 h => (Go.AI.V.c_spec_l1End_j1 F g (loopD N (Go.AI.V.c_spec_l1End_l2 F g))) [sv s, x23, nI p.length] h from rfl).trans ?_
  rw [subN (by omega) (by omega), show d + 1 - 1 = d from rfl]
  cases d with
  | zero =>
    have st2 : Go.AI.V.c_spec_l1End_j1 F g (loopD N (Go.AI.V.c_spec_l1End_l2 F g)) [sv s, nI 0, nI p.length] h = aArith iadd (nI p.length) (nI 1) h fun x16 h => some (x16, h) := rfl
    rw [st2, addN (by omega)]; rfl
  | succ d =>
    have st2 : Go.AI.V.c_spec_l1End_j1 F g (loopD N (Go.AI.V.c_spec_l1End_l2 F g)) [sv s, nI (d + 1), nI p.length] h = aArith iadd (nI p.length) (nI 1) h fun x16 h => loopD N (Go.AI.V.c_spec_l1End_l2 F g) [sv s, nI (d + 1), x16] h := rfl
    rw [st2, addN (by omega)]; rfl
/-- Within a part the count comes back. -/
theorem end_in (hsz : s.length ≤ 1000000) {k : List Nat} (hk : UT k) : ∀ (N : Nat) (p q : List Nat) (d : Nat), s = p ++ (k ++ q) → 1 ≤ d → d + k.length ≤ 1000000 → loopD (N + k.length) (Go.AI.V.c_spec_l1End_l2 F g) [sv s, nI d, nI p.length] h = loopD N (Go.AI.V.c_spec_l1End_l2 F g) [sv s, nI d, nI (p.length + k.length)] h := by
  induction hk with
  | mk ks _ ih =>
    intro N p q d hs hd hb
    have hlen := inB2_len ks
    have row : ∀ (rest : List (List Nat)), (∀ k ∈ rest, k ∈ ks) → ∀ (N : Nat) (p q : List Nat), s = p ++ (flat rest ++ q) → d + 1 + sum rest ≤ 1000000 → loopD (N + sum rest) (Go.AI.V.c_spec_l1End_l2 F g) [sv s, nI (d + 1), nI p.length] h = loopD N (Go.AI.V.c_spec_l1End_l2 F g) [sv s, nI (d + 1), nI (p.length + sum rest)] h := by
      intro rest
      induction rest with
      | nil => intro _ N p q _ _; rfl
      | cons k t iht =>
        intro hm N p q hs hb
        have hb : d + 1 + (k.length + sum t) ≤ 1000000 := hb
        have e1 := ih k (hm k (by simp)) (N + sum t) p (flat t ++ q) (d + 1) (by rw [hs]; show p ++ (k ++ flat t ++ q) = _; rw [List.append_assoc]) (by omega) (by omega)
        have e2 := iht (fun k hk => hm k (by simp [hk])) N (p ++ k) q (by rw [hs]; show p ++ (k ++ flat t ++ q) = _; simp) (by omega)
        rw [List.length_append] at e2
        show loopD (N + (k.length + sum t)) _ _ _ = loopD N _ [sv s, nI (d + 1), nI (p.length + (k.length + sum t))] h
        rw [show N + (k.length + sum t) = N + sum t + k.length by omega, e1, e2, Nat.add_assoc p.length]
    rw [hlen] at hb ⊢
    rw [show N + (sum ks + 2) = (N + 1 + sum ks) + 1 by omega, end_open (p := p) (q := flat ks ++ [41] ++ q) hsz (by rw [hs]; rfl) (by omega)]
    have e1 := row ks (fun k hk => hk) (N + 1) (p ++ [40]) (41 :: q) (by rw [hs]; show p ++ (40 :: (flat ks ++ [41]) ++ q) = _; simp) (by omega)
    rw [List.length_append, show [40].length = 1 from rfl] at e1
    rw [e1]
    have e2 := end_close (F := F) (g := g) (h := h) (N := N) (p := p ++ [40] ++ flat ks) (q := q) hsz (by rw [hs]; show p ++ (40 :: (flat ks ++ [41]) ++ q) = _; simp) (d := d) (by omega)
    rw [List.length_append, List.length_append, flat_len, show [40].length = 1 from rfl] at e2
    rw [e2]
    obtain ⟨d', rfl⟩ : ∃ d', d = d' + 1 := ⟨d - 1, by omega⟩
    show loopD N _ [sv s, nI (d' + 1), nI (p.length + 1 + sum ks + 1)] h = _
    rw [show p.length + 1 + sum ks + 1 = p.length + (sum ks + 2) by omega]
theorem end_ok (hsz : s.length ≤ 1000000) (hF : s.length + 2 ≤ F) {k p q : List Nat} (hk : UT k) (hs : s = p ++ (k ++ q)) : Go.AI.V.c_spec_l1End F g (sv s) (nI p.length) h = some (nI (p.length + k.length), h) := by
  obtain ⟨ks, hks⟩ := hk
  have hlen := inB2_len ks
  have hsl : s.length = p.length + (sum ks + 2) + q.length := by rw [hs, List.length_append, List.length_append, hlen]; omega
  have e0 : Go.AI.V.c_spec_l1End F g (sv s) (nI p.length) h = loopD F (Go.AI.V.c_spec_l1End_l2 F g) [sv s, nI 0, nI p.length] h := rfl
  rw [e0, hlen]
  obtain ⟨N, hN⟩ : ∃ N, F = (N + 1 + sum ks) + 1 := ⟨F - 2 - sum ks, by omega⟩
  have go : ∀ G, loopD (N + 1 + sum ks + 1) (Go.AI.V.c_spec_l1End_l2 G g) [sv s, nI 0, nI p.length] h = some (nI (p.length + (sum ks + 2)), h) := fun G => by
    have row : ∀ (rest : List (List Nat)), (∀ k ∈ rest, k ∈ ks) → ∀ (N : Nat) (p q : List Nat), s = p ++ (flat rest ++ q) → 1 + sum rest ≤ 1000000 → loopD (N + sum rest) (Go.AI.V.c_spec_l1End_l2 G g) [sv s, nI 1, nI p.length] h = loopD N (Go.AI.V.c_spec_l1End_l2 G g) [sv s, nI 1, nI (p.length + sum rest)] h := by
      intro rest
      induction rest with
      | nil => intro _ N p q _ _; rfl
      | cons k t iht =>
        intro hm N p q hs hb
        have hb : 1 + (k.length + sum t) ≤ 1000000 := hb
        have e1 := end_in (F := G) (g := g) (h := h) hsz (hks k (hm k (by simp))) (N + sum t) p (flat t ++ q) 1 (by rw [hs]; show p ++ (k ++ flat t ++ q) = _; rw [List.append_assoc]) (by omega) (by omega)
        have e2 := iht (fun k hk => hm k (by simp [hk])) N (p ++ k) q (by rw [hs]; show p ++ (k ++ flat t ++ q) = _; simp) (by omega)
        rw [List.length_append] at e2
        show loopD (N + (k.length + sum t)) _ _ _ = loopD N _ [sv s, nI 1, nI (p.length + (k.length + sum t))] h
        rw [show N + (k.length + sum t) = N + sum t + k.length by omega, e1, e2, Nat.add_assoc p.length]
    rw [end_open (p := p) (q := flat ks ++ [41] ++ q) hsz (by rw [hs]; rfl) (by omega)]
    have e1 := row ks (fun k hk => hk) (N + 1) (p ++ [40]) (41 :: q) (by rw [hs]; show p ++ (40 :: (flat ks ++ [41]) ++ q) = _; simp) (by omega)
    rw [List.length_append, show [40].length = 1 from rfl] at e1
    rw [show 0 + 1 = 1 from rfl, e1]
    have e2 := end_close (F := G) (g := g) (h := h) (N := N) (p := p ++ [40] ++ flat ks) (q := q) hsz (by rw [hs]; show p ++ (40 :: (flat ks ++ [41]) ++ q) = _; simp) (d := 0) (by omega)
    rw [List.length_append, List.length_append, flat_len, show [40].length = 1 from rfl] at e2
    rw [show nI 1 = nI (0 + 1) from rfl, e2]
    show some (nI (p.length + 1 + sum ks + 1), h) = _
    rw [show p.length + 1 + sum ks + 1 = p.length + (sum ks + 2) by omega]
  rw [hN]
  exact go _
end
/-! ### Rows of texts -/
/-- A row of n texts: an empty slice of nothing, or the slice of all of its block. -/
theorem app_row {h : H} {a : Nat} {la vs : List AV} {y : AV} {m : Nat} {kk : AV → H → Option R} (ha : h.get a = .cells 0 la) (han : a < h.n) (hl : la.length ≤ 1000000) (hy : ∀ f : Nat → List AV → Option R, withElems 1 y h f = f m vs) (hm : vs.length = m) (hm1 : m ≤ 1000000) (hone : allOne vs = true) :
    ∃ a' h', aAppend 1 16 (xOf a la.length) y h kk = kk (xOf a' (la.length + m)) h' ∧ h'.get a' = .cells 0 (la ++ vs) ∧ h.n ≤ h'.n ∧ (∀ c, c < h.n → c ≠ a → h'.get c = h.get c) ∧ (a' = a ∨ h.n ≤ a') ∧ a' < h'.n := by
  have wc : ∀ {b : Nat} {l : List AV} (f : Nat → List AV → Option R), h.get b = .cells 0 l → withCells h b f = f 0 l := fun f e => by unfold withCells; rw [e]
  have bt : ∀ {c : Bool} {x y : Option R}, c = true → bc c x y = x := fun e => by rw [e]; rfl
  have e0 : aAppend 1 16 (xOf a la.length) y h kk = @Nat.rec (fun _ => Option R) (aApp0 (xOf a la.length) h kk) (fun _ _ => aApp1 1 16 m vs (xOf a la.length) h kk) m := hy _
  rw [e0]
  cases m with
  | zero =>
    obtain rfl : vs = [] := List.eq_nil_of_length_eq_zero hm
    refine ⟨a, h, ?_, by rw [List.append_nil]; exact ha, Nat.le_refl _, fun _ _ _ => rfl, .inl rfl, han⟩
    show aApp0 (xOf a la.length) h kk = kk (xOf a (la.length + 0)) h
    rw [Nat.add_zero]
    cases la.length <;> rfl
  | succ m =>
    show ∃ a' h', aApp1 1 16 (m + 1) vs (xOf a la.length) h kk = _ ∧ _
    cases la with
    | nil =>
      refine ⟨h.n, h.push (.cells 0 vs), ?_, by rw [get_push_eq rfl]; rfl, Nat.le_succ _, fun c hc _ => get_push_lt hc, .inr (Nat.le_refl _), Nat.lt_succ_self _⟩
      show withCells h a (fun fl l => bc (Nat.beq (lenL (takeL (Nat.mul 0 1) (dropL 0 l))) (Nat.mul 0 1)) (bc (Nat.ble (Nat.mul (Nat.add 0 (m + 1)) 16) 140737488355328) (bc (Nat.ble (Nat.add 0 (m + 1)) strMax) (kk (.osl h.n 0 (Nat.add 0 (m + 1)) 1) (h.push (.cells 0 (appA (takeL (Nat.mul 0 1) (dropL 0 l)) vs)))) none) none) none) = _
      rw [wc _ ha, show Nat.add 0 (m + 1) = m + 1 from Nat.zero_add _]
      rw [bt (show Nat.beq (lenL (takeL (Nat.mul 0 1) (dropL 0 ([] : List AV)))) (Nat.mul 0 1) = true from rfl), bt (Nat.ble_eq_true_of_le (show (m + 1) * 16 ≤ 140737488355328 by omega) : Nat.ble (Nat.mul (m + 1) 16) 140737488355328 = true), bt (Nat.ble_eq_true_of_le (show m + 1 ≤ 9223372036854775807 by omega) : Nat.ble (m + 1) strMax = true)]
      show kk (.osl h.n 0 (m + 1) 1) (h.push (.cells 0 vs)) = kk (xOf h.n (0 + (m + 1))) _
      rw [Nat.zero_add]; rfl
    | cons v la =>
      have hk : (v :: la).length = la.length + 1 := rfl
      refine ⟨h.n, (h.set a .dead).push (.cells 0 (v :: la ++ vs)), ?_, by rw [show h.n = (h.set a .dead).n from rfl, get_push_eq rfl], Nat.le_succ _, fun c hc hca => by rw [get_push_lt (by exact hc), get_set_ne hca], .inr (Nat.le_refl _), Nat.lt_succ_self _⟩
      show withCells h a (fun fl l => bc (Nat.beq (lenL (takeL (Nat.mul (la.length + 1) 1) (dropL 0 l))) (Nat.mul (la.length + 1) 1)) (bc (Nat.ble (Nat.mul (Nat.add (la.length + 1) (m + 1)) 16) 140737488355328) (bc (Nat.ble (Nat.add (la.length + 1) (m + 1)) strMax) (bc (Nat.beq 1 1) (bc (Nat.ble fl 1) (bc (allOne vs) (kk (.osl h.n 0 (Nat.add (la.length + 1) (m + 1)) 1) ((h.set a .dead).push (.cells fl (appA (takeL (Nat.mul (la.length + 1) 1) (dropL 0 l)) vs)))) none) none) none) none) none) none) = _
      rw [wc _ ha, takeL_eq, dropL_eq, show Nat.mul (la.length + 1) 1 = la.length + 1 from Nat.mul_one _, List.drop_zero, List.take_of_length_le (by rw [hk]; exact Nat.le_refl _)]
      rw [bt (by rw [lenL_eq, hk]; exact Nat.beq_refl _), bt (Nat.ble_eq_true_of_le (show (la.length + 1 + (m + 1)) * 16 ≤ 140737488355328 by rw [hk] at hl; omega) : Nat.ble (Nat.mul (Nat.add (la.length + 1) (m + 1)) 16) 140737488355328 = true), bt (Nat.ble_eq_true_of_le (show la.length + 1 + (m + 1) ≤ 9223372036854775807 by rw [hk] at hl; omega) : Nat.ble (Nat.add (la.length + 1) (m + 1)) strMax = true), bt (show Nat.beq 1 1 = true from rfl), bt (show Nat.ble 0 1 = true from rfl), bt hone, appA_eq]
      rfl
theorem one_elem {h : H} {q : Nat} {x : AV} (hq : h.get q = .cells 0 [x]) (f : Nat → List AV → Option R) : withElems 1 (.leaf (.sl q 0 1 1)) h f = f 1 [x] := by
  show withCells h q (fun _ l => bc (Nat.beq (lenL (takeL (Nat.mul 1 1) (dropL 0 l))) (Nat.mul 1 1)) (f 1 (takeL (Nat.mul 1 1) (dropL 0 l))) none) = _
  unfold withCells; rw [hq]; rfl
/-- A part of a row. -/
theorem part_row {h : H} {b i j : Nat} {L : List AV} (hb : h.get b = .cells 0 L) (hij : i ≤ j) (hj : j ≤ L.length) (lo hi : Option AV) (hlo : (lo = none ∧ i = 0) ∨ lo = some (nI i)) (hhi : (hi = none ∧ j = L.length) ∨ hi = some (nI j)) :
    ∃ y, (∀ kk : AV → H → Option R, aSliceV 1 (xOf b L.length) lo hi none h kk = kk y h) ∧ ∀ (h' : H), h'.get b = .cells 0 L → ∀ f : Nat → List AV → Option R, withElems 1 y h' f = f (j - i) ((L.drop i).take (j - i)) := by
  have bl : ∀ {f : Nat → Option R}, bnd lo 0 f = f i := fun {f} => by rcases hlo with ⟨rfl, rfl⟩ | rfl <;> rfl
  cases hL : L with
  | nil =>
    subst hL
    obtain rfl : j = 0 := by simpa using hj
    obtain rfl : i = 0 := by omega
    have bh : ∀ {f : Nat → Option R}, bnd hi 0 f = f 0 := fun {f} => by rcases hhi with ⟨rfl, _⟩ | rfl <;> rfl
    refine ⟨.leaf (.sl b 0 0 0), fun kk => ?_, fun h' hb' f => ?_⟩
    · show (bnd none 0 fun m => bnd hi 0 fun j => bnd lo 0 fun i => bc (Nat.ble i j) (bc (Nat.ble j m) (bc (Nat.ble m 0) (kk (.leaf (.sl b (bc (Nat.beq m i) 0 (Nat.add 0 (Nat.mul i 1))) (Nat.sub j i) (Nat.sub m i))) h) none) none) none) = _
      show (bnd hi 0 fun j => bnd lo 0 fun i => bc (Nat.ble i j) (bc (Nat.ble j 0) (bc (Nat.ble 0 0) (kk (.leaf (.sl b (bc (Nat.beq 0 i) 0 (Nat.add 0 (Nat.mul i 1))) (Nat.sub j i) (Nat.sub 0 i))) h) none) none) none) = _
      rw [bh, bl]; rfl
    · show withCells h' b (fun _ l => bc (Nat.beq (lenL (takeL (Nat.mul 0 1) (dropL 0 l))) (Nat.mul 0 1)) (f 0 (takeL (Nat.mul 0 1) (dropL 0 l))) none) = _
      unfold withCells; rw [hb']; rfl
  | cons v t =>
    rw [← hL]
    have hn : L.length = t.length + 1 := by rw [hL]; rfl
    have bh : ∀ {f : Nat → Option R}, bnd hi (t.length + 1) f = f j := fun {f} => by rcases hhi with ⟨rfl, rfl⟩ | rfl <;> first | rfl | (rw [hn]; rfl)
    refine ⟨.osl b i (j - i) 1, fun kk => ?_, fun h' hb' f => ?_⟩
    · rw [hn]
      show (bnd hi (t.length + 1) fun j => bnd lo 0 fun i => bc (Nat.ble i j) (bc (Nat.ble j (t.length + 1)) (bc (Nat.beq 1 1) (kk (.osl b (Nat.add 0 (Nat.mul i 1)) (Nat.sub j i) 1) h) none) none) none) = _
      rw [bh, bl, ble_true hij, ble_true (by omega), show Nat.add 0 (Nat.mul i 1) = i by show 0 + i * 1 = i; omega]; rfl
    · cases hd : j - i with
      | zero => rw [List.take_zero]; rfl
      | succ d =>
        show withCells h' b (fun _ l => bc (Nat.beq (lenL (takeL (Nat.mul (d + 1) 1) (dropL i l))) (Nat.mul (d + 1) 1)) (bc (Nat.ble 1 (d + 1)) (f (d + 1) (takeL (Nat.mul (d + 1) 1) (dropL i l))) none) none) = _
        have hw : ∀ g : Nat → List AV → Option R, withCells h' b g = g 0 L := fun g => by unfold withCells; rw [hb']
        rw [hw, takeL_eq, dropL_eq, show Nat.mul (d + 1) 1 = d + 1 from Nat.mul_one _, lenL_eq, List.length_take, List.length_drop, show min (d + 1) (L.length - i) = d + 1 by omega, Nat.beq_refl, bc_true]; rfl
end
end Go.AI.T
