/- The children of a text, and the text in order: as long as it was. -/
import Derived.Test.YtojcncloeikjlabCjA
import Derived.KernelRfl
namespace Go.AI.T
open Go Go.RowKit Go.AI
set_option linter.unusedVariables false
set_option linter.unusedSimpArgs false
set_option maxRecDepth 100000
noncomputable section
theorem flat_app : ∀ (a b : List (List Nat)), flat (a ++ b) = flat a ++ flat b
  | [], b => rfl
  | k :: t, b => by show k ++ flat (t ++ b) = k ++ flat t ++ flat b; rw [flat_app t b, List.append_assoc]
theorem sum_app : ∀ (a b : List (List Nat)), sum (a ++ b) = sum a + sum b
  | [], b => by rw [List.nil_append]; show _ = 0 + sum b; omega
  | k :: t, b => by show k.length + sum (t ++ b) = k.length + sum t + sum b; rw [sum_app t b]; omega
theorem Rd_xOf {b n : Nat} {L T : List AV} (hn : L.length = n) : Rd (xOf b n) b n L T := by
  cases n with
  | zero => exact Rd.sl b 0 hn
  | succ n => exact Rd.osl b hn
theorem cut_text {p k q : List Nat} {h : H} {kk : AV → H → Option R} : aSliceS (sv (p ++ (k ++ q))) (some (nI p.length)) (some (nI (p.length + k.length))) none h kk = kk (sv k) h := by
  show bc (Nat.ble p.length (p.length + k.length)) (bc (Nat.ble (p.length + k.length) (p ++ (k ++ q)).length) (kk (.str (dropL p.length (takeL (p.length + k.length) (p ++ (k ++ q)))) (Nat.sub (p.length + k.length) p.length)) h) none) none = _
  rw [ble_true (Nat.le_add_right _ _), ble_true (by simp), bc_true, bc_true, dropL_eq, takeL_eq]
  have e1 : ((p ++ (k ++ q)).take (p.length + k.length)).drop p.length = k := by
    rw [List.take_append, List.take_of_length_le (by omega), show p.length + k.length - p.length = k.length by omega, List.drop_append, List.drop_of_length_le (Nat.le_refl _), Nat.sub_self, List.drop_zero, List.take_append, List.take_of_length_le (Nat.le_refl _), Nat.sub_self, List.take_zero]
    simp
  rw [e1, show Nat.sub (p.length + k.length) p.length = k.length from Nat.add_sub_cancel_left ..]; rfl
section
variable {F g : Nat}
theorem kids_loop {ks : List (List Nat)} (hk : ∀ k ∈ ks, UT k) (hsz : sum ks + 2 ≤ 1000) (hF : 2000 ≤ F) (hn : ks.length ≤ 1000) : ∀ (N : Nat) (rest pre : List (List Nat)) (a : Nat) (h : H), pre ++ rest = ks → rest.length < N → h.get a = .cells 0 (pre.map sv) → a < h.n →
    ∃ a' h', loopD N (Go.AI.V.c_spec_l1Kids_l1 F g) [sv (inB2 ks), xOf a pre.length, nI (1 + sum pre)] h = some (xOf a' ks.length, h') ∧ h'.get a' = .cells 0 (ks.map sv) ∧ a' < h'.n ∧ h.n ≤ h'.n ∧ (∀ c, c < h.n → c ≠ a → h'.get c = h.get c) ∧ (a' = a ∨ h.n ≤ a')
  | 0, _, _, _, _, _, h0, _, _ => absurd h0 (Nat.not_lt_zero _)
  | N + 1, [], pre, a, h, hp, _, ha, han => by
    rw [List.append_nil] at hp
    subst hp
    have hl := inB2_len pre
    refine ⟨a, h, ?_, ha, han, Nat.le_refl _, fun _ _ _ => rfl, .inl rfl⟩
    rw [loopD_succ]
    have st : Go.AI.V.c_spec_l1Kids_l1 F g [sv (inB2 pre), xOf a pre.length, nI (1 + sum pre)] h (loopD N (Go.AI.V.c_spec_l1Kids_l1 F g)) = aArith isub (nI (inB2 pre).length) (nI 1) h fun x7 h => aCmpI ilt (nI (1 + sum pre)) x7 h fun x8 h => withBool x8 fun t9 => bc t9 (bindR (Go.AI.V.c_spec_l1End F g (sv (inB2 pre)) (nI (1 + sum pre)) h) fun x10 h => aSliceS (sv (inB2 pre)) (some (nI (1 + sum pre))) (some x10) none h fun x11 h => aBuildSlice 1 1 [(0, 1, x11)] h fun x12 h => aAppend 1 16 (xOf a pre.length) x12 h fun x13 h => loopD N (Go.AI.V.c_spec_l1Kids_l1 F g) [sv (inB2 pre), x13, x10] h) (some (xOf a pre.length, h)) := rfl
    rw [st, hl, subN (by omega) (by omega), lssN, withBool_bool, ble_false (show sum pre + 2 - 1 < Nat.succ (1 + sum pre) by omega), bc_false]
  | N + 1, k :: t, pre, a, h, hp, hN, ha, han => by
    have hl := inB2_len ks
    have hs : inB2 ks = (40 :: flat pre) ++ (k ++ (flat t ++ [41])) := by
      rw [← hp]
      show 40 :: (flat (pre ++ k :: t) ++ [41]) = _
      rw [flat_app]
      show 40 :: (flat pre ++ (k ++ flat t) ++ [41]) = _
      simp
    have hsum : sum ks = sum pre + (k.length + sum t) := by rw [← hp, sum_app]; rfl
    have hpl : (40 :: flat pre).length = 1 + sum pre := by rw [List.length_cons, flat_len]; omega
    have hkl := hk k (by rw [← hp]; simp)
    have hpre : pre.length ≤ 1000 := by rw [← hp] at hn; simp at hn; omega
    obtain ⟨a1, h1, e1, g1, n1, f1, w1, l1⟩ := app_row (h := h.push (.cells 0 [sv k])) (a := a) (la := pre.map sv) (vs := [sv k]) (y := .leaf (.sl h.n 0 1 1)) (m := 1) (kk := fun x13 h => loopD N (Go.AI.V.c_spec_l1Kids_l1 F g) [sv (inB2 ks), x13, nI (1 + sum pre + k.length)] h) (by rw [get_push_lt han]; exact ha) (Nat.lt_succ_of_lt han) (by rw [List.length_map]; omega) (one_elem (get_push_eq rfl)) rfl (by omega) rfl
    rw [List.length_map] at e1
    have hN' : t.length < N := by simp at hN; omega
    obtain ⟨a2, h2, e2, g2, w2, n2, f2, l2⟩ := kids_loop hk hsz hF hn N t (pre ++ [k]) a1 h1 (by rw [← hp]; simp) hN' (by rw [g1, List.map_append]; rfl) l1
    have hn0 : h.n + 1 ≤ h1.n := n1
    refine ⟨a2, h2, ?_, g2, w2, by omega, fun c hc hca => ?_, ?_⟩
    · rw [loopD_succ]
      have st : Go.AI.V.c_spec_l1Kids_l1 F g [sv (inB2 ks), xOf a pre.length, nI (1 + sum pre)] h (loopD N (Go.AI.V.c_spec_l1Kids_l1 F g)) = aArith isub (nI (inB2 ks).length) (nI 1) h fun x7 h => aCmpI ilt (nI (1 + sum pre)) x7 h fun x8 h => withBool x8 fun t9 => bc t9 (bindR (Go.AI.V.c_spec_l1End F g (sv (inB2 ks)) (nI (1 + sum pre)) h) fun x10 h => aSliceS (sv (inB2 ks)) (some (nI (1 + sum pre))) (some x10) none h fun x11 h => aBuildSlice 1 1 [(0, 1, x11)] h fun x12 h => aAppend 1 16 (xOf a pre.length) x12 h fun x13 h => loopD N (Go.AI.V.c_spec_l1Kids_l1 F g) [sv (inB2 ks), x13, x10] h) (some (xOf a pre.length, h)) := rfl
      have hk2 : 2 ≤ k.length := by obtain ⟨q, _⟩ := hkl; rw [inB2_len]; omega
      rw [st, hl, subN (by omega) (by omega), lssN, withBool_bool, ble_true (show Nat.succ (1 + sum pre) ≤ sum ks + 2 - 1 by omega), bc_true]
      have ee : ∀ h, Go.AI.V.c_spec_l1End F g (sv (inB2 ks)) (nI (1 + sum pre)) h = some (nI (1 + sum pre + k.length), h) := fun h => by
        have := end_ok (F := F) (g := g) (s := inB2 ks) (h := h) (by omega) (by omega) (p := 40 :: flat pre) (q := flat t ++ [41]) hkl hs
        rw [hpl] at this; exact this
      rw [ee, bindR_some']
      have ec : ∀ (h : H) (kk : AV → H → Option R), aSliceS (sv (inB2 ks)) (some (nI (1 + sum pre))) (some (nI (1 + sum pre + k.length))) none h kk = kk (sv k) h := fun h kk => by
        have := cut_text (p := 40 :: flat pre) (k := k) (q := flat t ++ [41]) (h := h) (kk := kk)
        rw [← hs, hpl] at this; exact this
      rw [ec]
      refine (show _ = aAppend 1 16 (xOf a pre.length) (.leaf (.sl h.n 0 1 1)) (h.push (.cells 0 [sv k])) (fun x13 h => loopD N (Go.AI.V.c_spec_l1Kids_l1 F g) [sv (inB2 ks), x13, nI (1 + sum pre + k.length)] h) from rfl).trans ?_
      rw [e1]
      have hs2 : 1 + sum (pre ++ [k]) = 1 + sum pre + k.length := by rw [sum_app]; show 1 + (sum pre + (k.length + 0)) = _; omega
      rw [List.length_append, hs2] at e2
      exact e2
    · by_cases h1a : c = a1
      · rcases w1 with hw | hw
        · exact absurd (h1a.trans hw) hca
        · have : h.n + 1 ≤ a1 := hw
          omega
      · rw [f2 c (by omega) h1a, f1 c (by show c < h.n + 1; omega) hca]; exact get_push_lt hc
    · rcases l2 with hw | hw
      · rcases w1 with hw1 | hw1
        · exact .inl (hw.trans hw1)
        · have : h.n + 1 ≤ a1 := hw1
          exact .inr (by omega)
      · exact .inr (by omega)
theorem kids_ok {ks : List (List Nat)} (hk : ∀ k ∈ ks, UT k) (hsz : sum ks + 2 ≤ 1000) (hF : 2000 ≤ F) (hn : ks.length ≤ 1000) (h : H) : ∃ a' h', Go.AI.V.c_spec_l1Kids F g (sv (inB2 ks)) h = some (xOf a' ks.length, h') ∧ h'.get a' = .cells 0 (ks.map sv) ∧ a' < h'.n ∧ h.n ≤ h'.n ∧ (∀ c, c < h.n → h'.get c = h.get c) := by
  obtain ⟨a', h', e, g1, g2, g3, g4, g5⟩ := kids_loop (F := F) (g := g) hk hsz hF hn F ks [] h.n (h.push (.cells 0 [])) rfl (by omega) (get_push_eq rfl) (Nat.lt_succ_self _)
  have g3' : h.n + 1 ≤ h'.n := g3
  refine ⟨a', h', e, g1, g2, by omega, fun c hc => ?_⟩
  rw [g4 c (by show c < h.n + 1; omega) (by omega)]; exact get_push_lt hc
/-- What stands behind the search for the place. -/
def fin (kc3 : List AV → H → Option R) (x21 x22 x23 x24 x25 : AV) (h : H) : Option R := aBuildSlice 0 1 [] h fun x31 h => aSliceV 1 x22 none (some x25) none h fun x32 _ => aAppend 1 16 x31 x32 h fun x33 h => aBuildSlice 1 1 [(0, 1, x24)] h fun x34 h => aAppend 1 16 x33 x34 h fun x35 h => aSliceV 1 x22 (some x25) none none h fun x36 _ => aAppend 1 16 x35 x36 h fun x37 h => aArith iadd x23 (AV.int 3 (Int.ofNat 1)) h fun x38 h => kc3 [x21, x37, x38] h
theorem ins_loop {kc3 : List AV → H → Option R} {kids : AV} {b i : Nat} {L : List (List Nat)} {t : List Nat} {h : H} (hb : h.get b = .cells 0 (L.map sv)) (hl : L.length ≤ 1000) : ∀ (N k : Nat), k ≤ L.length → k < N →
    ∃ k', k' ≤ L.length ∧ loopD N (Go.AI.V.c_spec_l1Sorted_l2 F g kc3) [kids, xOf b L.length, nI i, sv t, nI k] h = fin kc3 kids (xOf b L.length) (nI i) (sv t) (nI k') h
  | 0, k, _, h0 => absurd h0 (Nat.not_lt_zero _)
  | N + 1, 0, _, _ => ⟨0, Nat.zero_le _, by rw [loopD_succ]; rfl⟩
  | N + 1, k + 1, hk, hN => by
    obtain ⟨x, hx⟩ : ∃ x, L[k]? = some x := ⟨_, List.getElem?_eq_getElem (by omega)⟩
    have r := Rd_xOf (b := b) (n := L.length) (L := L.map sv) (T := []) (List.length_map ..)
    have st : loopD (N + 1) (Go.AI.V.c_spec_l1Sorted_l2 F g kc3) [kids, xOf b L.length, nI i, sv t, nI (k + 1)] h = bc (ltL t x) (aArith isub (nI (k + 1)) (nI 1) h fun x30 h => loopD N (Go.AI.V.c_spec_l1Sorted_l2 F g kc3) [kids, xOf b L.length, nI i, sv t, x30] h) (fin kc3 kids (xOf b L.length) (nI i) (sv t) (nI (k + 1)) h) := by
      rw [loopD_succ]
      have s1 : Go.AI.V.c_spec_l1Sorted_l2 F g kc3 [kids, xOf b L.length, nI i, sv t, nI (k + 1)] h (loopD N (Go.AI.V.c_spec_l1Sorted_l2 F g kc3)) = aArith isub (nI (k + 1)) (nI 1) h fun x39 h => aIdxAddr 1 (xOf b L.length) x39 h fun x40 h => aLoad x40 h fun x41 h => aCmpS ltL (sv t) x41 h fun x42 h => (Go.AI.V.c_spec_l1Sorted_j1 F g kc3 (loopD N (Go.AI.V.c_spec_l1Sorted_l2 F g kc3))) [kids, xOf b L.length, nI i, sv t, nI (k + 1), .bool true, x42] h := rfl
      rw [s1, subN (by omega) (by omega), show k + 1 - 1 = k from rfl, r.at_ h 0 (by rw [List.append_nil]; exact hb) k _ (at_mapS hx)]
      rfl
    rw [st]
    cases ltL t x with
    | true =>
      obtain ⟨k', h1, h2⟩ := ins_loop hb hl N k (by omega) (by omega)
      refine ⟨k', h1, ?_⟩
      rw [bc_true, subN (by omega) (by omega), show k + 1 - 1 = k from rfl, h2]
    | false => exact ⟨k + 1, hk, rfl⟩
theorem fin_ok {kc3 : List AV → H → Option R} {kids : AV} {b i k : Nat} {L : List (List Nat)} {t : List Nat} {h : H} (hb : h.get b = .cells 0 (L.map sv)) (hbn : b < h.n) (hl : L.length ≤ 1000) (hk : k ≤ L.length) (hi : i ≤ 1000) :
    ∃ b' h' L', fin kc3 kids (xOf b L.length) (nI i) (sv t) (nI k) h = kc3 [kids, xOf b' (L.length + 1), nI (i + 1)] h' ∧ h'.get b' = .cells 0 (L'.map sv) ∧ L'.length = L.length + 1 ∧ sum L' = sum L + t.length ∧ b' < h'.n ∧ h.n ≤ h'.n ∧ ∀ c, c < h.n → h'.get c = h.get c := by
  have pl : ∀ q : List (List Nat), allOne (q.map sv) = true := fun q => by
    induction q with
    | nil => rfl
    | cons x q ih => exact ih
  have hml : (L.map sv).length = L.length := List.length_map ..
  have hs0 : ∀ kk : AV → H → Option R, fin kc3 kids (xOf b L.length) (nI i) (sv t) (nI k) h = aSliceV 1 (xOf b L.length) none (some (nI k)) none (h.push (.cells 0 [])) fun x32 _ => aAppend 1 16 (xOf h.n 0) x32 (h.push (.cells 0 [])) fun x33 h => aBuildSlice 1 1 [(0, 1, sv t)] h fun x34 h => aAppend 1 16 x33 x34 h fun x35 h => aSliceV 1 (xOf b L.length) (some (nI k)) none none h fun x36 _ => aAppend 1 16 x35 x36 h fun x37 h => aArith iadd (nI i) (nI 1) h fun x38 h => kc3 [kids, x37, x38] h := fun _ => rfl
  have hs := hs0 (fun _ _ => none)
  clear hs0
  have hb1 : (h.push (.cells 0 [])).get b = .cells 0 (L.map sv) := by rw [get_push_lt hbn]; exact hb
  obtain ⟨y1, q1, q2⟩ := part_row hb1 (Nat.zero_le k) (by rw [hml]; exact hk) none (some (nI k)) (.inl ⟨rfl, rfl⟩) (.inr rfl)
  rw [hml] at q1
  rw [q1] at hs
  obtain ⟨a1, h1, e1, g1, n1, f1, w1, l1⟩ := app_row (h := h.push (.cells 0 [])) (a := h.n) (la := []) (vs := (L.take k).map sv) (y := y1) (m := k) (kk := fun x33 h => aBuildSlice 1 1 [(0, 1, sv t)] h fun x34 h => aAppend 1 16 x33 x34 h fun x35 h => aSliceV 1 (xOf b L.length) (some (nI k)) none none h fun x36 _ => aAppend 1 16 x35 x36 h fun x37 h => aArith iadd (nI i) (nI 1) h fun x38 h => kc3 [kids, x37, x38] h) (get_push_eq rfl) (Nat.lt_succ_self _) (by simp) (fun f => by
    have := q2 _ hb1 f
    rw [Nat.sub_zero, List.drop_zero, ← List.map_take] at this; exact this) (by rw [List.length_map, List.length_take]; omega) (by omega) (pl _)
  have e1 : aAppend 1 16 (xOf h.n 0) y1 (h.push (.cells 0 [])) (fun x33 h => aBuildSlice 1 1 [(0, 1, sv t)] h fun x34 h => aAppend 1 16 x33 x34 h fun x35 h => aSliceV 1 (xOf b L.length) (some (nI k)) none none h fun x36 _ => aAppend 1 16 x35 x36 h fun x37 h => aArith iadd (nI i) (nI 1) h fun x38 h => kc3 [kids, x37, x38] h) = _ := e1
  rw [show ([] : List AV).length + k = k from Nat.zero_add k] at e1
  rw [List.nil_append] at g1
  rw [e1] at hs
  have n1 : h.n + 1 ≤ h1.n := n1
  have ha1 : h.n ≤ a1 := by rcases w1 with hw | hw
                            · omega
                            · have : h.n + 1 ≤ a1 := hw
                              omega
  have fr1 : ∀ c, c < h.n → h1.get c = h.get c := fun c hc => by rw [f1 c (by show c < h.n + 1; omega) (by omega)]; exact get_push_lt hc
  have hs : fin kc3 kids (xOf b L.length) (nI i) (sv t) (nI k) h = aAppend 1 16 (xOf a1 k) (.leaf (.sl h1.n 0 1 1)) (h1.push (.cells 0 [sv t])) fun x35 h => aSliceV 1 (xOf b L.length) (some (nI k)) none none h fun x36 _ => aAppend 1 16 x35 x36 h fun x37 h => aArith iadd (nI i) (nI 1) h fun x38 h => kc3 [kids, x37, x38] h := hs
  have htk : ((L.take k).map sv).length = k := by rw [List.length_map, List.length_take]; omega
  obtain ⟨a2, h2, e2, g2, n2, f2, w2, l2⟩ := app_row (h := h1.push (.cells 0 [sv t])) (a := a1) (la := (L.take k).map sv) (vs := [sv t]) (y := .leaf (.sl h1.n 0 1 1)) (m := 1) (kk := fun x35 h => aSliceV 1 (xOf b L.length) (some (nI k)) none none h fun x36 _ => aAppend 1 16 x35 x36 h fun x37 h => aArith iadd (nI i) (nI 1) h fun x38 h => kc3 [kids, x37, x38] h) (by rw [get_push_lt l1]; exact g1) (Nat.lt_succ_of_lt l1) (by rw [htk]; omega) (one_elem (get_push_eq rfl)) rfl (by omega) rfl
  rw [htk] at e2
  rw [e2] at hs
  have n2 : h1.n + 1 ≤ h2.n := n2
  have ha2 : h.n ≤ a2 := by rcases w2 with hw | hw
                            · omega
                            · have : h1.n + 1 ≤ a2 := hw
                              omega
  have fr2 : ∀ c, c < h.n → h2.get c = h.get c := fun c hc => by rw [f2 c (by show c < h1.n + 1; omega) (by omega), get_push_lt (by omega)]; exact fr1 c hc
  have hb2 : h2.get b = .cells 0 (L.map sv) := by rw [fr2 b hbn]; exact hb
  obtain ⟨y2, q3, q4⟩ := part_row hb2 (i := k) (j := L.length) (by exact hk) (by rw [hml]; exact Nat.le_refl _) (some (nI k)) none (.inr rfl) (.inl ⟨rfl, by rw [hml]⟩)
  rw [hml] at q3
  rw [q3] at hs
  have hla : ((L.take k).map sv ++ [sv t]).length = k + 1 := by rw [List.length_append, htk]; rfl
  obtain ⟨a3, h3, e3, g3, n3, f3, w3, l3⟩ := app_row (h := h2) (a := a2) (la := (L.take k).map sv ++ [sv t]) (vs := (L.drop k).map sv) (y := y2) (m := L.length - k) (kk := fun x37 h => aArith iadd (nI i) (nI 1) h fun x38 h => kc3 [kids, x37, x38] h) g2 l2 (by rw [hla]; omega) (fun f => by
    have := q4 _ hb2 f
    rw [← List.map_drop, List.take_of_length_le (by rw [List.length_map, List.length_drop]; exact Nat.le_refl _)] at this; exact this) (by rw [List.length_map, List.length_drop]) (by omega) (pl _)
  rw [hla] at e3
  rw [e3] at hs
  refine ⟨a3, h3, L.take k ++ t :: L.drop k, ?_, ?_, ?_, ?_, l3, by omega, fun c hc => ?_⟩
  · rw [hs, addN (by omega), show k + 1 + (L.length - k) = L.length + 1 by omega]
  · rw [g3, List.append_assoc, List.map_append]; rfl
  · rw [List.length_append, List.length_cons, List.length_take, List.length_drop]; omega
  · rw [sum_app]
    show sum (L.take k) + (t.length + sum (L.drop k)) = _
    have := sum_app (L.take k) (L.drop k)
    rw [List.take_append_drop] at this
    omega
  · rw [f3 c (by omega) (by omega)]; exact fr2 c hc
theorem sum_le_len : ∀ {ks : List (List Nat)}, (∀ k ∈ ks, UT k) → ks.length ≤ sum ks
  | [], _ => Nat.le_refl _
  | k :: t, h => by
    have h1 := sum_le_len (ks := t) fun k hk => h k (by simp [hk])
    obtain ⟨q, _⟩ := h k (by simp)
    have := inB2_len q
    show t.length + 1 ≤ (inB2 q).length + sum t
    omega
/-- The text in order is as long as the text. -/
theorem sorted_len (hF : 2000 ≤ F) : ∀ (g : Nat) (s : List Nat), UT s → s.length ≤ 2 * g → s.length ≤ 1000 → ∀ h : H, ∃ l' h', Go.AI.V.c_spec_l1Sorted F g (sv s) h = some (sv l', h') ∧ l'.length = s.length ∧ h.n ≤ h'.n ∧ ∀ c, c < h.n → h'.get c = h.get c
  | 0, s, hs, h2, _, h => by
    obtain ⟨ks, _⟩ := hs
    rw [inB2_len] at h2; omega
  | g + 1, s, hs, h2, h3, h => by
    obtain ⟨ks, hk⟩ := hs
    have hl := inB2_len ks
    have hsl := sum_le_len hk
    obtain ⟨a, h1, e1, g1, b1, n1, f1⟩ := kids_ok (F := F) (g := g) hk (by omega) hF (by omega) h
    have loop3 : ∀ (N : Nat) (rest : List (List Nat)) (i b : Nat) (L : List (List Nat)) (h : H), (∀ j e, rest[j]? = some e → ks[i + j]? = some e) → i + rest.length = ks.length → rest.length < N → h.get a = .cells 0 (ks.map sv) → a < h.n → h.get b = .cells 0 (L.map sv) → b < h.n → L.length = i → sum L + sum rest = sum ks →
        ∃ l' h', loopD N (Go.AI.V.c_spec_l1Sorted_l3 F g (Go.AI.V.c_spec_l1Sorted F g)) [xOf a ks.length, xOf b L.length, nI i] h = some (sv l', h') ∧ l'.length = sum ks + 2 ∧ h.n ≤ h'.n ∧ ∀ c, c < h.n → h'.get c = h.get c := by
      intro N
      induction N with
      | zero => intro rest i b L h _ _ h0; exact absurd h0 (Nat.not_lt_zero _)
      | succ N ih =>
        intro rest i b L h hr hlen hN ha han hb hbn hL hsum
        have ra := Rd_xOf (b := a) (n := ks.length) (L := ks.map sv) (T := []) (List.length_map ..)
        have rb := Rd_xOf (b := b) (n := L.length) (L := L.map sv) (T := []) (List.length_map ..)
        cases rest with
        | nil =>
          simp at hlen
          have hsum : sum L + 0 = sum ks := hsum
          have e2 : Go.AI.T.c_spec_l1Of F g (xOf b L.length) h = some (sv (inB2 L), h) := of_loop (F := F) (g := g) rb (by rw [List.append_nil]; exact hb) (by omega) F L [40] 0 (fun j e he => by rw [Nat.zero_add]; exact he) (by omega) (by omega) (by show 1 + sum L ≤ _; omega)
          refine ⟨inB2 L, h, ?_, by rw [inB2_len]; omega, Nat.le_refl _, fun _ _ => rfl⟩
          rw [loopD_succ]
          delta Go.AI.V.c_spec_l1Sorted_l3
          dsimp only [hd_cons, tl_cons]
          rw [ra.len, lssN, withBool_bool, ble_false (by omega), bc_false, e2, bindR_some']
        | cons k t =>
          simp only [List.length_cons] at hlen hN
          have hsum : sum L + (k.length + sum t) = sum ks := hsum
          have he := hr 0 k rfl
          have hkm := List.mem_of_getElem? he
          obtain ⟨l1, h2', s1, s2, s3, s4⟩ := sorted_len hF g k (hk k hkm) (by omega) (by omega) h
          have hb2 : h2'.get b = .cells 0 (L.map sv) := by rw [s4 b hbn]; exact hb
          obtain ⟨k', hk', e3⟩ := ins_loop (F := F) (g := g) (kc3 := loopD N (Go.AI.V.c_spec_l1Sorted_l3 F g (Go.AI.V.c_spec_l1Sorted F g))) (kids := xOf a ks.length) (i := i) (t := l1) hb2 (by omega) F L.length (Nat.le_refl _) (by omega)
          obtain ⟨b3, h3', L3, e4, g4, l4, m4, b4, n4, f4⟩ := fin_ok (kc3 := loopD N (Go.AI.V.c_spec_l1Sorted_l3 F g (Go.AI.V.c_spec_l1Sorted F g))) (kids := xOf a ks.length) (i := i) (t := l1) hb2 (by omega) (by omega) hk' (by omega)
          obtain ⟨l5, h5, e5, p5, n5, f5⟩ := ih t (i + 1) b3 L3 h3' (fun j z hz => by have := hr (j + 1) z hz; rw [show i + 1 + j = i + (j + 1) by omega]; exact this) (by omega) (by omega) (by rw [f4 a (by omega), s4 a han]; exact ha) (by omega) g4 b4 (by omega) (by omega)
          refine ⟨l5, h5, ?_, p5, by omega, fun c hc => by rw [f5 c (by omega), f4 c (by omega), s4 c hc]⟩
          rw [loopD_succ]
          delta Go.AI.V.c_spec_l1Sorted_l3
          dsimp only [hd_cons, tl_cons]
          rw [ra.len, lssN, withBool_bool, ble_true (by omega), bc_true, ra.at_ h 0 (by rw [List.append_nil]; exact ha) i _ (at_mapS he), s1, bindR_some', rb.len]
          refine Eq.trans (b := fin (loopD N (Go.AI.V.c_spec_l1Sorted_l3 F g (Go.AI.V.c_spec_l1Sorted F g))) (xOf a ks.length) (xOf b L.length) (nI i) (sv l1) (nI k') h2') ?_ ?_
          · exact e3
          · rw [e4, ← l4]; exact e5
    have e0 : Go.AI.V.c_spec_l1Sorted F (g + 1) (sv (inB2 ks)) h = bindR (Go.AI.V.c_spec_l1Kids F g (sv (inB2 ks)) h) fun x1 h => aBuildSlice 0 1 [] h fun x2 h => loopD F (Go.AI.V.c_spec_l1Sorted_l3 F g (Go.AI.V.c_spec_l1Sorted F g)) [x1, x2, (AV.int 3 (Int.ofNat 0))] h := rfl
    obtain ⟨l', h', e2, p2, n2, f2⟩ := loop3 F ks 0 h1.n [] (h1.push (.cells 0 [])) (fun j e he => by rw [Nat.zero_add]; exact he) (by omega) (by omega) (by rw [get_push_lt b1]; exact g1) (Nat.lt_succ_of_lt b1) (get_push_eq rfl) (Nat.lt_succ_self _) rfl (by show 0 + sum ks = _; omega)
    have n2 : h1.n + 1 ≤ h'.n := n2
    refine ⟨l', h', ?_, by rw [p2, hl], by omega, fun c hc => by rw [f2 c (by show c < h1.n + 1; omega), get_push_lt (by omega)]; exact f1 c hc⟩
    rw [e0, e1, bindR_some']
    exact e2
end
end
end Go.AI.T
