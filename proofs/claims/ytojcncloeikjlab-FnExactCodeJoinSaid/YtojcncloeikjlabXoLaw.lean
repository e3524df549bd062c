/- The law FnExactTreeOf is true whatever the row. -/
import Derived.Test.YtojcncloeikjlabXoEv
import Derived.KernelRfl
namespace Go.AI.T
open Go Go.RowKit Go.AI
set_option linter.unusedVariables false
set_option linter.unusedSimpArgs false
set_option maxRecDepth 100000
noncomputable section
theorem nodes_bad (F g : Nat) {l : List Nat} (hm : l.length ≤ 1048576) (ht : isTree l = false) (h : H) : c_impl_TreeNodes F g (sv l) h = some (.one .tup (.cons (nI 0) (.cons (.bool false) (.leaf .nil))), h) := by
  have e : Go.AI.V.c_impl_TreeNodes 20000 20 (.str l l.length) H0 = some (.one .tup (.cons (nI 0) (.cons (.bool false) (.leaf .nil))), H0) := by
    delta Go.AI.V.c_impl_TreeNodes
    rw [read_bad (lenL_eq l) hm ht, bindR_some', aExtract_0, aExtract_1, aNot_b, bnot_f, withBool_bool, bc_true]
  show fgC _ _ _ = _
  unfold fgC
  rw [show sv l = .str l l.length from rfl, e]; rfl
theorem nodes_good (F g : Nat) {l : List Nat} (ht : isTree l = true) (h : H) : c_impl_TreeNodes F g (sv l) h = some (.one .tup (.cons (nI (ones l)) (.cons (.bool true) (.leaf .nil))), h) := by
  have hm := isTree_mem ht
  obtain ⟨r, hr, he⟩ := List.mem_map.1 hm
  have h1 := allR_mem okN 17 1 1 (fun l => 40 :: l) evN_all r hr
  rw [show (40 :: r) = _ from he] at h1
  unfold okN at h1
  rw [lenL_eq] at h1
  obtain ⟨h', e⟩ := isN_some h1
  show fgC _ _ _ = _
  unfold fgC
  rw [show sv l = .str l l.length from rfl, e]; rfl
abbrev noT : AV := .one .tup (.cons (.str [] 0) (.cons (.bool false) (.leaf .nil)))
def yesT (l : List Nat) : AV := .one .tup (.cons (sv l) (.cons (.bool true) (.leaf .nil)))
theorem sadd {α : Type} {l l' : List Nat} {h : H} {k : AV → H → Option α} (hb : l.length + l'.length ≤ 9223372036854775807) : aSAdd (sv l) (sv l') h k = k (sv (l ++ l')) h := by
  show bc (Nat.ble (l.length + l'.length) strMax) (k (.str (appL l l') (l.length + l'.length)) h) none = _
  rw [ble_true (by rw [strMax_eq]; exact hb), bc_true, appL_eq, ← List.length_append]; rfl
theorem eqL_self : ∀ l : List Nat, eqL l l = true
  | [] => rfl
  | a :: l => by rw [eqL_cons, Nat.beq_refl, bc_true, eqL_self l]
theorem at_mapS {ks : List (List Nat)} {i : Nat} {k : List Nat} (he : ks[i]? = some k) : (ks.map sv)[i]? = some (sv k) := by rw [List.getElem?_map, he]; rfl
def sum : List (List Nat) → Nat
  | [] => 0
  | k :: t => k.length + sum t
theorem flat_len : ∀ ks : List (List Nat), (flat ks).length = sum ks
  | [] => rfl
  | k :: t => by show (k ++ flat t).length = _; rw [List.length_append, flat_len t]; rfl
theorem sum_mem : ∀ {ks : List (List Nat)} {k : List Nat}, k ∈ ks → k.length ≤ sum ks
  | x :: t, k, h => by
    show _ ≤ x.length + sum t
    rcases List.mem_cons.1 h with rfl | h
    · omega
    · have := sum_mem h; omega
theorem total_pos : ∀ {ks : List (List Nat)}, ks.all isTree = true → ks.length ≤ total ks
  | [], _ => Nat.le_refl _
  | k :: t, h => by
    have h : (isTree k && t.all isTree) = true := h
    simp at h
    have h1 := ones_pos h.1
    have h2 := total_pos (ks := t) (by simpa using h.2)
    show t.length + 1 ≤ ones k + total t
    omega
/-! ### The sizes -/
theorem subneg {a b : Nat} (hab : a < b) (hb : b ≤ 9223372036854775807) {h : H} {k : AV → H → Option R} : ∃ m, aArith isub (nI a) (nI b) h k = k (.int 3 (.negSucc m)) h := by
  refine ⟨Nat.sub (Nat.pred b) a, ?_⟩
  rw [aArith_int, kEq_self, bc_true]
  have e : isub (.ofNat a) (.ofNat b) = .negSucc (Nat.sub (Nat.pred b) a) := by
    show bc (Nat.ble b a) (Int.ofNat (Nat.sub a b)) (Int.negSucc (Nat.sub (Nat.pred b) a)) = _
    rw [ble_false hab, bc_false]
  rw [e]
  have hle : Nat.sub (Nat.pred b) a ≤ 9223372036854775807 := Nat.le_trans (Nat.sub_le _ _) (Nat.le_trans (Nat.pred_le _) hb)
  rw [show fwrap 3 (.negSucc (Nat.sub (Nat.pred b) a)) = bc (Nat.ble (Nat.sub (Nat.pred b) a) 9223372036854775807) (Int.negSucc (Nat.sub (Nat.pred b) a)) ((kd 3).wrap (Int.negSucc (Nat.sub (Nat.pred b) a))) from rfl, ble_true hle, bc_true]
section
variable {F g : Nat} {x : AV} {b n fl : Nat} {ks : List (List Nat)} {T : List AV}
theorem sz_loop (r : Rd x b n (ks.map sv) T) {h : H} (hb : h.get b = .cells fl (ks.map sv ++ T)) (hn : n ≤ 1048576) (hk : ∀ k ∈ ks, k.length ≤ maxLen) : ∀ (N : Nat) (rest : List (List Nat)) (left i : Nat), (∀ j e, rest[j]? = some e → ks[i + j]? = some e) → i + rest.length = n → rest.length < N → left ≤ 1048576 →
    (sum rest ≤ left ∧ loopD N (c_laws_szStringS_l1 F g) [x, nI left, nI i] h = some (nI (left - sum rest), h)) ∨ loopD N (c_laws_szStringS_l1 F g) [x, nI left, nI i] h = some (.int 3 (.negSucc 0), h)
  | 0, _, _, _, _, _, h0, _ => absurd h0 (Nat.not_lt_zero _)
  | N + 1, [], left, i, _, hl, _, _ => by
    simp at hl
    refine .inl ⟨Nat.zero_le _, ?_⟩
    rw [loopD_succ]
    delta c_laws_szStringS_l1
    dsimp only [hd_cons, tl_cons]
    rw [r.len, lssN, withBool_bool, ble_false (by omega), bc_false]; rfl
  | N + 1, e :: t, left, i, hr, hl, hN, hleft => by
    simp only [List.length_cons] at hl hN
    have he := hr 0 e rfl
    have hlen := hk e (List.mem_of_getElem? he)
    have hmax : maxLen ≤ 9223372036854775807 := by decide
    have st : loopD (N + 1) (c_laws_szStringS_l1 F g) [x, nI left, nI i] h = aArith isub (nI left) (nI e.length) h fun x15 h => aCmpI ilt x15 (AV.int 3 (Int.ofNat 0)) h fun x16 h => withBool x16 fun t17 => bc t17 (some ((AV.int 3 (Int.negSucc 0)), h)) (aArith iadd (nI i) (AV.int 3 (Int.ofNat 1)) h fun x18 h => loopD N (c_laws_szStringS_l1 F g) [x, x15, x18] h) := by
      rw [loopD_succ]
      delta c_laws_szStringS_l1
      dsimp only [hd_cons, tl_cons]
      rw [r.len, lssN, withBool_bool, ble_true (show Nat.succ i ≤ n by omega), bc_true, r.at_ h fl hb i _ (at_mapS he)]
      rfl
    rw [st]
    by_cases hle : e.length ≤ left
    · rw [subN hle (by omega), show AV.int 3 (Int.ofNat 0) = nI 0 from rfl, lssN, withBool_bool, ble_false (by omega), bc_false, show AV.int 3 (Int.ofNat 1) = nI 1 from rfl, addN (by omega)]
      rcases sz_loop r hb hn hk N t (left - e.length) (i + 1) (fun j z hz => by have := hr (j + 1) z hz; rw [show i + 1 + j = i + (j + 1) by omega]; exact this) (by omega) (by omega) (by omega) with ⟨h1, h2⟩ | h2
      · refine .inl ⟨by show e.length + sum t ≤ left; omega, ?_⟩
        rw [h2]
        show some (nI (left - e.length - sum t), h) = some (nI (left - (e.length + sum t)), h)
        rw [Nat.sub_sub]
      · exact .inr h2
    · obtain ⟨m, hm⟩ := subneg (a := left) (b := e.length) (h := h) (by omega) (by omega) (k := fun x15 h => aCmpI ilt x15 (AV.int 3 (Int.ofNat 0)) h fun x16 h => withBool x16 fun t17 => bc t17 (some ((AV.int 3 (Int.negSucc 0)), h)) (aArith iadd (nI i) (AV.int 3 (Int.ofNat 1)) h fun x18 h => loopD N (c_laws_szStringS_l1 F g) [x, x15, x18] h))
      rw [hm]
      exact .inr rfl
theorem spec_loop (r : Rd x b n (ks.map sv) T) {h : H} (hb : h.get b = .cells fl (ks.map sv ++ T)) (hn : n ≤ 1048576) : ∀ (N : Nat) (rest : List (List Nat)) (i : Nat), (∀ j e, rest[j]? = some e → ks[i + j]? = some e) → i + rest.length = n → rest.length < N →
    loopD N (c_spec_TreeOf_l1 F g) [x, nI i] h = bc (rest.all isTree) (bindR (c_spec_l1Of F g x h) fun x13 h => bindR (c_spec_l1Done F g x13 h) fun x14 h => aExtract x14 0 h fun x15 h => aExtract x14 1 h fun x16 h => some (AV.one .tup (AV.cons x15 (AV.cons x16 (AV.leaf .nil))), h)) (some (noT, h))
  | 0, _, _, _, _, h0 => absurd h0 (Nat.not_lt_zero _)
  | N + 1, [], i, _, hl, _ => by
    simp at hl
    rw [loopD_succ]
    delta c_spec_TreeOf_l1
    dsimp only [hd_cons, tl_cons]
    rw [r.len, lssN, withBool_bool, ble_false (by omega), bc_false]; rfl
  | N + 1, e :: t, i, hr, hl, hN => by
    simp only [List.length_cons] at hl hN
    have he := hr 0 e rfl
    rw [loopD_succ]
    delta c_spec_TreeOf_l1
    dsimp only [hd_cons, tl_cons]
    rw [r.len, lssN, withBool_bool, ble_true (show Nat.succ i ≤ n by omega), bc_true, r.at_ h fl hb i _ (at_mapS he), show sv e = .str e e.length from rfl, List.all_cons]
    cases ht : isTree e with
    | false => rw [spec_bad (lenL_eq e) ht, bindR_some']; rfl
    | true =>
      rw [spec_good (lenL_eq e) ht, bindR_some', aNot_b, bnot_t, withBool_bool, bc_false, show AV.int 3 (Int.ofNat 1) = nI 1 from rfl, addN (by omega), Bool.true_and]
      exact spec_loop r hb hn N t (i + 1) (fun j z hz => by have := hr (j + 1) z hz; rw [show i + 1 + j = i + (j + 1) by omega]; exact this) (by omega) (by omega)
theorem of_loop (r : Rd x b n (ks.map sv) T) {h : H} (hb : h.get b = .cells fl (ks.map sv ++ T)) (hn : n ≤ 1048576) : ∀ (N : Nat) (rest : List (List Nat)) (s : List Nat) (i : Nat), (∀ j e, rest[j]? = some e → ks[i + j]? = some e) → i + rest.length = n → rest.length < N → s.length + sum rest ≤ 1000000000 →
    loopD N (c_spec_l1Of_l1 F g) [x, sv s, nI i] h = some (sv (s ++ (flat rest ++ [41])), h)
  | 0, _, _, _, _, _, h0, _ => absurd h0 (Nat.not_lt_zero _)
  | N + 1, [], s, i, _, hl, _, hs => by
    simp at hl
    rw [loopD_succ]
    delta c_spec_l1Of_l1
    dsimp only [hd_cons, tl_cons]
    rw [r.len, lssN, withBool_bool, ble_false (by omega), bc_false, show AV.str [41] 1 = sv [41] from rfl, sadd (by show s.length + 1 ≤ _; have : s.length + 0 ≤ 1000000000 := hs; omega)]
    rfl
  | N + 1, e :: t, s, i, hr, hl, hN, hs => by
    simp only [List.length_cons] at hl hN
    have he := hr 0 e rfl
    have hs : s.length + (e.length + sum t) ≤ 1000000000 := hs
    rw [loopD_succ]
    delta c_spec_l1Of_l1
    dsimp only [hd_cons, tl_cons]
    rw [r.len, lssN, withBool_bool, ble_true (show Nat.succ i ≤ n by omega), bc_true, r.at_ h fl hb i _ (at_mapS he), sadd (by omega), show AV.int 3 (Int.ofNat 1) = nI 1 from rfl, addN (by omega)]
    have := of_loop r hb hn N t (s ++ e) (i + 1) (fun j z hz => by have := hr (j + 1) z hz; rw [show i + 1 + j = i + (j + 1) by omega]; exact this) (by omega) (by omega) (by rw [List.length_append]; omega)
    refine this.trans ?_
    show some (sv (s ++ e ++ (flat t ++ [41])), h) = some (sv (s ++ (e ++ flat t ++ [41])), h)
    rw [List.append_assoc, List.append_assoc]
theorem impl_loop (r : Rd x b n (ks.map sv) T) {h : H} (hb : h.get b = .cells fl (ks.map sv ++ T)) (hn : n ≤ 1048576) (hk : ∀ k ∈ ks, k.length ≤ 1048576) : ∀ (N : Nat) (rest : List (List Nat)) (s i : Nat), (∀ j e, rest[j]? = some e → ks[i + j]? = some e) → i + rest.length = n → rest.length < N → s ≤ 9 →
    loopD N (c_impl_TreeOf_l2 F g) [x, nI s, x, nI n, nI i] h = bc (rest.all isTree) (bc (Nat.ble (s + total rest) 9) (bindR (c_strings_Join F g x (AV.str [] 0) h) fun x28 h => aSAdd (AV.str [40] 1) x28 h fun x29 h => aSAdd x29 (AV.str [41] 1) h fun x30 h => some (AV.one .tup (AV.cons x30 (AV.cons (AV.bool true) (AV.leaf .nil))), h)) (some (noT, h))) (some (noT, h))
  | 0, _, _, _, _, _, h0, _ => absurd h0 (Nat.not_lt_zero _)
  | N + 1, [], s, i, _, hl, _, hs => by
    simp at hl
    rw [loopD_succ]
    delta c_impl_TreeOf_l2
    dsimp only [hd_cons, tl_cons]
    rw [lssN, withBool_bool, ble_false (by omega), bc_false, show total [] = 0 from rfl, Nat.add_zero, ble_true hs]; rfl
  | N + 1, e :: t, s, i, hr, hl, hN, hs => by
    simp only [List.length_cons] at hl hN
    have he := hr 0 e rfl
    have hke := hk e (List.mem_of_getElem? he)
    rw [loopD_succ]
    delta c_impl_TreeOf_l2
    dsimp only [hd_cons, tl_cons]
    rw [lssN, withBool_bool, ble_true (show Nat.succ i ≤ n by omega), bc_true, r.at_ h fl hb i _ (at_mapS he), List.all_cons]
    cases ht : isTree e with
    | false =>
      rw [nodes_bad F g hke ht, bindR_some', aExtract_0, aExtract_1, addN (by omega)]
      rfl
    | true =>
      have ho := ones_tree ht
      rw [nodes_good F g ht, bindR_some', aExtract_0, aExtract_1, addN (by omega), aNot_b, bnot_t, guardB_bool, Bool.true_and]
      rw [show bc (bc false false (bnot false)) = bc true from rfl, bc_true, show AV.int 3 (Int.ofNat 9) = nI 9 from rfl, gtrN, show total (e :: t) = ones e + total t from rfl, ← Nat.add_assoc]
      by_cases h9 : s + ones e ≤ 9
      · rw [ble_false (show s + ones e < Nat.succ 9 by omega)]
        refine Eq.trans ?_ (impl_loop r hb hn hk N t (s + ones e) (i + 1) (fun j z hz => by have := hr (j + 1) z hz; rw [show i + 1 + j = i + (j + 1) by omega]; exact this) (by omega) (by omega) h9)
        refine (show _ = aArith iadd (nI i) (nI 1) h fun x26 h => loopD N (c_impl_TreeOf_l2 F g) [x, nI (s + ones e), x, nI n, x26] h from rfl).trans ?_
        rw [addN (by omega)]
      · rw [ble_true (show Nat.succ 9 ≤ s + ones e by omega), ble_false (show 9 < s + ones e + total t by omega), bc_false]
        cases t.all isTree <;> rfl
def res (ks : List (List Nat)) : AV := bc (ks.all isTree) (bc (Nat.ble (1 + total ks) 9) (yesT (inB2 ks)) noT) noT
theorem spec_ok (r : Rd x b n (ks.map sv) T) {h : H} (hF : 1048576 < F) (hb : h.get b = .cells fl (ks.map sv ++ T)) (hn : n ≤ 1048576) (hs : sum ks ≤ 1048576) : c_spec_TreeOf F g x h = some (res ks, h) := by
  have hsz : ks.length = n := by rw [← r.size]; simp
  have e0 : c_spec_TreeOf F g x h = loopD F (c_spec_TreeOf_l1 F g) [x, nI 0] h := rfl
  have e1 := spec_loop (F := F) (g := g) r hb hn F ks 0 (fun j e he => by rw [Nat.zero_add]; exact he) (by omega) (by omega)
  have e2 : c_spec_l1Of F g x h = some (sv (inB2 ks), h) := of_loop (F := F) (g := g) r hb hn F ks [40] 0 (fun j e he => by rw [Nat.zero_add]; exact he) (by omega) (by omega) (by show 1 + sum ks ≤ _; omega)
  rw [e0, e1, e2, bindR_some']
  unfold res
  cases ha : ks.all isTree with
  | false => rfl
  | true =>
    rw [bc_true, bc_true]
    have ht := tree_inB2 ha
    delta c_spec_l1Done
    cases hq : Nat.ble (1 + total ks) 9 with
    | true =>
      rw [hq] at ht
      rw [show sv (inB2 ks) = AV.str (inB2 ks) (inB2 ks).length from rfl, spec_good (lenL_eq _) ht]; rfl
    | false =>
      rw [hq] at ht
      rw [show sv (inB2 ks) = AV.str (inB2 ks) (inB2 ks).length from rfl, spec_bad (lenL_eq _) ht]; rfl
theorem cat_ok : ∀ (ks : List (List Nat)) (f : List Nat → Nat → Option R), catL (ks.map sv) f = f (flat ks) (sum ks)
  | [], f => rfl
  | k :: t, f => by
    show catL (t.map sv) (fun l' n' => f (appL k l') (Nat.add k.length n')) = _
    rw [cat_ok t, appL_eq]; rfl
theorem join_ok {q c : Nat} {h : H} (hb : h.get q = .cells 0 (ks.map sv)) (hl : ks.length = n) (h1 : 1 ≤ n) (hc : n ≤ c) (hn : n ≤ 1000000) (hs : sum ks ≤ 1000000) : c_strings_Join F g (.leaf (.sl q 0 n c)) (.str [] 0) h = some (sv (flat ks), h) := by
  show bc (Nat.ble 1 n) (bc (Nat.ble n c) (bc (Nat.ble n 1000000) (withCells h q fun _ l => bc (Nat.beq (lenL (takeL n (dropL 0 l))) n) (catL (takeL n (dropL 0 l)) (joinK h)) none) none) none) (bc (Nat.beq n 0) (joinK h [] 0) none) = _
  rw [ble_true h1, ble_true hc, ble_true hn, bc_true, bc_true, bc_true]
  have hw : (withCells h q fun _ l => bc (Nat.beq (lenL (takeL n (dropL 0 l))) n) (catL (takeL n (dropL 0 l)) (joinK h)) none) = (fun l => bc (Nat.beq (lenL (takeL n (dropL 0 l))) n) (catL (takeL n (dropL 0 l)) (joinK h)) none) (ks.map sv) := by unfold withCells; rw [hb]
  rw [hw]
  show bc (Nat.beq (lenL (takeL n (dropL 0 (ks.map sv)))) n) (catL (takeL n (dropL 0 (ks.map sv))) (joinK h)) none = _
  rw [dropL_eq, takeL_eq, List.drop_zero, List.take_of_length_le (by rw [List.length_map]; omega), lenL_eq, List.length_map, hl, Nat.beq_refl, bc_true, cat_ok]
  show bc (Nat.ble (sum ks) 1000000) (some (AV.str (flat ks) (sum ks), h)) none = _
  rw [ble_true hs, bc_true, ← flat_len]; rfl
end
theorem flat_sum {ks : List (List Nat)} (ha : ks.all isTree = true) : ∀ k ∈ ks, isTree k = true := fun k hk => by
  exact List.all_eq_true.1 ha k hk
def okLen (l : List Nat) : Bool := Nat.ble (lenL l) 18
theorem okLen_all : allR okLen 17 1 1 (fun l => 40 :: l) = true := by kernel_rfl
theorem tree_len {l : List Nat} (ht : isTree l = true) : l.length ≤ 18 := by
  obtain ⟨r, hr, he⟩ := List.mem_map.1 (isTree_mem ht)
  have h1 := allR_mem okLen 17 1 1 (fun l => 40 :: l) okLen_all r hr
  rw [show (40 :: r) = _ from he] at h1
  unfold okLen at h1
  rw [lenL_eq] at h1
  exact Nat.le_of_ble_eq_true h1
theorem impl_ok {F g n q : Nat} {ks : List (List Nat)} {h : H} (hF : 1048576 < F) (hb : h.get q = .cells 0 (ks.map sv)) (hl : ks.length = n) (h1 : 1 ≤ n) (hn : n ≤ 1048576) (hs : sum ks ≤ 1048576) : c_impl_TreeOf F g (.leaf (.sl q 0 n n)) h = some (res ks, h) := by
  have r : Rd (.leaf (.sl q 0 n n)) q n (ks.map sv) [] := Rd.sl q n (by rw [List.length_map, hl])
  have e1 := impl_loop (F := F) (g := g) r (by rw [hb, List.append_nil]) hn (fun k hk => Nat.le_trans (sum_mem hk) hs) F ks 1 0 (fun j e he => by rw [Nat.zero_add]; exact he) (by omega) (by omega) (by omega)
  have e0 : c_impl_TreeOf F g (.leaf (.sl q 0 n n)) h = loopD F (c_impl_TreeOf_l2 F g) [.leaf (.sl q 0 n n), nI 1, .leaf (.sl q 0 n n), nI n, nI 0] h := rfl
  rw [e0, e1]
  unfold res
  cases ha : ks.all isTree with
  | false => rfl
  | true =>
    cases hq : Nat.ble (1 + total ks) 9 with
    | false => rfl
    | true =>
      have h9 := Nat.le_of_ble_eq_true hq
      have hp := total_pos ha
      have hin : isTree (inB2 ks) = true := by rw [tree_inB2 ha, hq]
      have h18 := tree_len hin
      have hsm : (inB2 ks).length = 1 + (sum ks + 1) := by
        show (flat ks ++ [41]).length + 1 = _
        rw [List.length_append, flat_len]; show sum ks + 1 + 1 = _; omega
      rw [bc_true, bc_true, bc_true, bc_true, join_ok hb hl h1 (Nat.le_refl _) (by omega) (by omega), bindR_some', show AV.str [40] 1 = sv [40] from rfl, show AV.str [41] 1 = sv [41] from rfl, sadd (by rw [flat_len]; show 1 + sum ks ≤ _; omega), sadd (by rw [List.length_append, flat_len]; show 1 + sum ks + 1 ≤ _; omega)]
      rfl
theorem gtr_res {ks : List (List Nat)} {h : H} {k : AV → AV → AV → AV → H → Option R} : (aExtract (res ks) 0 h fun x6 h => aExtract (res ks) 1 h fun x7 h => aExtract (res ks) 0 h fun x10 h => aExtract (res ks) 1 h fun x11 h => k x6 x7 x10 x11 h) = bc (ks.all isTree) (bc (Nat.ble (1 + total ks) 9) (k (sv (inB2 ks)) (.bool true) (sv (inB2 ks)) (.bool true) h) (k (sv []) (.bool false) (sv []) (.bool false) h)) (k (sv []) (.bool false) (sv []) (.bool false) h) := by
  unfold res
  cases ks.all isTree with
  | false => rfl
  | true => cases Nat.ble (1 + total ks) 9 <;> rfl
def rt (ks : List (List Nat)) : List Nat := bc (ks.all isTree) (bc (Nat.ble (1 + total ks) 9) (inB2 ks) []) []
def rb (ks : List (List Nat)) : Bool := bc (ks.all isTree) (bc (Nat.ble (1 + total ks) 9) true false) false
theorem res_eq (ks : List (List Nat)) : res ks = .one .tup (.cons (sv (rt ks)) (.cons (.bool (rb ks)) (.leaf .nil))) := by
  unfold res rt rb
  cases ks.all isTree with
  | false => rfl
  | true => cases Nat.ble (1 + total ks) 9 <;> rfl
theorem law_row {N g n : Nat} {ks : List (List Nat)} {T : List AV} (hN : 1048576 < N) (h1 : 1 ≤ n) (hnm : n ≤ maxLen) (hl : ks.length = n) (hk : ∀ k ∈ ks, k.length ≤ maxLen) : tells (c_laws_FnExactTreeOf N g (.osl 0 0 n 1) (hCode (.cells 2 (ks.map sv ++ T)))) = true := by
  have one : ∀ a ∈ ks.map sv, a.one1 = true := fun a ha => by obtain ⟨z, _, rfl⟩ := List.mem_map.1 ha; rfl
  have hb0 : (hCode (.cells 2 (ks.map sv ++ T))).get 0 = .cells 2 (ks.map sv ++ T) := hCode_get _
  have r0 : Rd (.osl 0 0 n 1) 0 n (ks.map sv) T := Rd.osl 0 (by rw [List.length_map, hl])
  have sz : (n ≤ 1048576 ∧ sum ks ≤ 1048576 ∧ ∃ m, c_laws_szStringS N g (.osl 0 0 n 1) (nI 1048576) (hCode (.cells 2 (ks.map sv ++ T))) = some (nI m, hCode (.cells 2 (ks.map sv ++ T)))) ∨ ∃ m, c_laws_szStringS N g (.osl 0 0 n 1) (nI 1048576) (hCode (.cells 2 (ks.map sv ++ T))) = some (.int 3 (.negSucc m), hCode (.cells 2 (ks.map sv ++ T))) := by
    by_cases hn : n ≤ 1048576
    · have st : c_laws_szStringS N g (.osl 0 0 n 1) (nI 1048576) (hCode (.cells 2 (ks.map sv ++ T))) = loopD N (c_laws_szStringS_l1 N g) [.osl 0 0 n 1, nI (1048576 - n), nI 0] (hCode (.cells 2 (ks.map sv ++ T))) := by
        delta c_laws_szStringS
        rw [leOsl, subN hn (by omega), show AV.int 3 (Int.ofNat 0) = nI 0 from rfl, lssN, withBool_bool, ble_false (by omega), bc_false]
      rw [st]
      rcases sz_loop (F := N) (g := g) r0 hb0 hn hk N ks (1048576 - n) 0 (fun j e he => by rw [Nat.zero_add]; exact he) (by omega) (by omega) (by omega) with ⟨h2, h3⟩ | h3
      · exact .inl ⟨hn, by omega, _, h3⟩
      · exact .inr ⟨_, h3⟩
    · right
      obtain ⟨m, hm⟩ := subneg (a := 1048576) (b := n) (h := hCode (.cells 2 (ks.map sv ++ T))) (by omega) (Nat.le_trans hnm (by decide)) (k := fun x2 h => aCmpI ilt x2 (AV.int 3 (Int.ofNat 0)) h fun x3 h => withBool x3 fun t4 => bc t4 (some ((AV.int 3 (Int.negSucc 0)), h)) (loopD N (c_laws_szStringS_l1 N g) [.osl 0 0 n 1, x2, (AV.int 3 (Int.ofNat 0))] h))
      delta c_laws_szStringS
      rw [leOsl, hm]
      exact ⟨0, rfl⟩
  delta c_laws_FnExactTreeOf
  rcases sz with ⟨hn, hs, m, e⟩ | ⟨m, e⟩
  · rw [show AV.int 3 (Int.ofNat 1048576) = nI 1048576 from rfl, e, bindR_some', show AV.int 3 (Int.ofNat 0) = nI 0 from rfl, lssN, withBool_bool, ble_false (by omega), bc_false]
    have cp : ∀ (h : H), h.get 0 = .cells 2 (ks.map sv ++ T) → 0 < h.n → ∃ h', c_laws_toStringS N g (.osl 0 0 n 1) h = some (.leaf (.sl h.n 0 n n), h') ∧ h'.get h.n = .cells 0 (ks.map sv) ∧ (∀ c, c < h.n → h'.get c = h.get c) ∧ h'.n = h.n + 1 :=
      fun h hb hn0 => copy_ok (z := .str [] 0) (bs := 16) r0 one hn (by omega) hN hb hn0
    have rs : ∀ q, Rd (.leaf (.sl q 0 n n)) q n (ks.map sv) [] := fun q => Rd.sl q n (by rw [List.length_map, hl])
    obtain ⟨h1', e1, g1, k1, n1⟩ := cp _ hb0 Nat.zero_lt_one
    have q0 : (hCode (.cells 2 (ks.map sv ++ T))).n = 1 := rfl
    rw [q0] at e1 g1 k1 n1
    obtain ⟨h2', e2, g2, k2, n2⟩ := cp h1' (by rw [k1 0 (by omega)]; exact hb0) (by omega)
    rw [n1] at e2 g2 k2 n2
    obtain ⟨h3', e3, g3, k3, n3⟩ := cp h2' (by rw [k2 0 (by omega), k1 0 (by omega)]; exact hb0) (by omega)
    rw [n2] at e3 g3 k3 n3
    have s1 : c_spec_TreeOf N g (.leaf (.sl 1 0 n n)) h1' = some (res ks, h1') := spec_ok (fl := 0) (rs 1) hN (by rw [g1, List.append_nil]) hn hs
    have s2 : c_impl_TreeOf N g (.leaf (.sl (1 + 1) 0 n n)) h2' = some (res ks, h2') := impl_ok hN g2 hl h1 hn hs
    have s3 : c_laws_eqStringS N g (.leaf (.sl (1 + 1) 0 n n)) (.leaf (.sl (1 + 1 + 1) 0 n n)) h3' = some (.bool true, h3') :=
      eq_rows (cmp := fun a b h k => aCmpS (fun a b => bnot (eqL a b)) a b h k) (fl := 0) (fl' := 0) (T := []) (T' := []) (fun _ _ _ _ _ => rfl) (rs (1 + 1)) (rs (1 + 1 + 1)) (fun a ha h k => by
        obtain ⟨z, _, rfl⟩ := List.mem_map.1 ha
        show k (.bool (bnot (eqL z z))) h = _
        rw [eqL_self]; rfl) hn hN (by rw [k3 _ (by omega), g2, List.append_nil]) (by rw [g3, List.append_nil])
    rw [e1, bindR_some', s1, bindR_some', res_eq, aExtract_0, aExtract_1, e2, bindR_some', s2, bindR_some', res_eq, aExtract_0, aExtract_1]
    have c1 : ∀ k : AV → H → Option R, aCmpS (fun a b => bnot (eqL a b)) (sv (rt ks)) (sv (rt ks)) h2' k = k (.bool false) h2' := fun k => by
      show k (.bool (bnot (eqL (rt ks) (rt ks)))) h2' = _
      rw [eqL_self]; rfl
    rw [c1, guardB_bool, show bc (bc false false (bnot false)) = bc true from rfl, bc_true]
    have c2 : ∀ (t : Bool) (k : AV → H → Option R), aEq true 0 (.bool t) (.bool t) h2' k = k (.bool false) h2' := fun t k => by cases t <;> rfl
    rw [c2]
    refine (show _ = tells (bindR (c_laws_toStringS N g (.osl 0 0 n 1) h2') fun x19 h => bindR (c_laws_eqStringS N g (.leaf (.sl (1 + 1) 0 n n)) x19 h) fun x20 h => aNot x20 h fun x21 h => withBool x21 fun t22 => bc t22 (some ((AV.bool false), h)) (some ((AV.bool true), h))) from rfl).trans ?_
    rw [e3, bindR_some', s3, bindR_some']
    rfl
  · rw [show AV.int 3 (Int.ofNat 1048576) = nI 1048576 from rfl, e, bindR_some']
    rfl
theorem none_nils (B : Blk) : tells (c_laws_FnExactTreeOf 2097152 20 (.leaf .nils) (hCode B)) = true := by kernel_rfl
theorem none_osl (B : Blk) : tells (c_laws_FnExactTreeOf 2097152 20 (.osl 0 0 0 1) (hCode B)) = true := by kernel_rfl
theorem law_FnExactTreeOf : StrLaw (c_laws_FnExactTreeOf 2097152 20) := by
  intro a0 n L B ha hB hL hnm hk
  apply tells_some
  by_cases h0 : n = 0
  · subst h0
    rcases ha with ⟨rfl, _⟩ | rfl
    · exact none_nils B
    · exact none_osl B
  obtain rfl : a0 = .osl 0 0 n 1 := ha.resolve_left fun h => h0 h.2
  have hB := hB (by omega)
  subst hB
  have hl : (L.take n).length = n := by rw [List.length_take]; omega
  rw [show L.map sv = (L.take n).map sv ++ (L.drop n).map sv by rw [← List.map_append, List.take_append_drop]]
  exact law_row (N := 2097152) (by omega) (by omega) hnm hl fun k hk' => hk k (List.mem_of_mem_take hk')
end
end Go.AI.T
