/- The draw of levels. -/
import Derived.Test.YtfafaadfnhhfhaaLtFn
namespace Go.AI.T
open Go Go.RowKit Go.AI
set_option linter.unusedVariables false
set_option linter.unusedSimpArgs false
set_option maxRecDepth 100000
noncomputable section
theorem app8 {h : H} {a q k : Nat} {la : List AV} {x : AV} {kk : AV → H → Option R} (ha : h.get a = .cells 0 la) (hq : h.get q = .cells 0 [x]) (hx : x.one1 = true) (hk : la.length = k) (hb : k ≤ 1000000) :
    ∃ h', aAppend 1 8 (xOf a k) (.leaf (.sl q 0 1 1)) h kk = kk (xOf h.n (k + 1)) h' ∧ h'.get h.n = .cells 0 (la ++ [x]) ∧ h'.n = h.n + 1 ∧ (∀ c, c < h.n → c ≠ a → h'.get c = h.get c) ∧ (1 ≤ a → 1 ≤ h.lo → 1 ≤ h'.lo) := by
  have wc : ∀ {b : Nat} {l : List AV} (f : Nat → List AV → Option R), h.get b = .cells 0 l → withCells h b f = f 0 l := fun f e => by unfold withCells; rw [e]
  have tk : ∀ f : List AV → Option R, f (takeL (Nat.mul k 1) (dropL 0 la)) = f la := fun f => by
    rw [takeL_eq, dropL_eq, show Nat.mul k 1 = k from Nat.mul_one k, List.drop_zero, List.take_of_length_le (by omega)]
  have bt : ∀ {c : Bool} {x y : Option R}, c = true → bc c x y = x := fun e => by rw [e]; rfl
  cases k with
  | zero =>
    obtain rfl : la = [] := List.eq_nil_of_length_eq_zero hk
    refine ⟨h.push (.cells 0 [x]), ?_, get_push_eq rfl, rfl, fun c hc _ => get_push_lt hc, fun _ h => h⟩
    show withCells h q (fun _ l => bc (Nat.beq (lenL (takeL (Nat.mul 1 1) (dropL 0 l))) (Nat.mul 1 1)) _ none) = _
    rw [wc _ hq]
    show withCells h a _ = _
    rw [wc _ ha]
    rfl
  | succ k =>
    refine ⟨(h.set a .dead).push (.cells 0 (la ++ [x])), ?_, by rw [show h.n = (h.set a .dead).n from rfl]; exact get_push_eq rfl, rfl, fun c hc hca => by rw [get_push_lt (by exact hc), get_set_ne hca], fun h1 h2 => minN_ge h1 h2⟩
    show withCells h q (fun _ l => bc (Nat.beq (lenL (takeL (Nat.mul 1 1) (dropL 0 l))) (Nat.mul 1 1)) _ none) = _
    rw [wc _ hq]
    show withCells h a _ = _
    rw [wc _ ha]
    refine (tk (fun l => bc (Nat.beq (lenL l) (Nat.mul (k + 1) 1)) (bc (Nat.ble (Nat.mul (Nat.add (k + 1) 1) 8) 140737488355328) (bc (Nat.ble (Nat.add (k + 1) 1) strMax) (bc (Nat.beq 1 1) (bc (Nat.ble 0 1) (bc (allOne [x]) (kk (.osl h.n 0 (Nat.add (k + 1) 1) 1) ((h.set a .dead).push (.cells 0 (appA l [x])))) none) none) none) none) none) none)).trans ?_
    rw [bt (by rw [lenL_eq, hk, show Nat.mul (k + 1) 1 = k + 1 from Nat.mul_one _]; exact Nat.beq_refl _), bt (Nat.ble_eq_true_of_le (show (k + 1 + 1) * 8 ≤ 140737488355328 by omega) : Nat.ble (Nat.mul (Nat.add (k + 1) 1) 8) 140737488355328 = true), bt (Nat.ble_eq_true_of_le (show k + 1 + 1 ≤ 9223372036854775807 by omega) : Nat.ble (Nat.add (k + 1) 1) strMax = true), bt (show Nat.beq 1 1 = true from rfl), bt (show Nat.ble 0 1 = true from rfl), bt (show allOne [x] = true by show bc (AV.one1 x) true false = true; rw [hx]; rfl), appA_eq]
    rfl
theorem nthN_app : ∀ (pre : List Nat) (c : Nat) (q : List Nat), nthN (pre ++ c :: q) pre.length = some c
  | [], c, q => rfl
  | a :: pre, c, q => nthN_app pre c q
theorem depths_loop {F g : Nat} : ∀ (q pre ds : List Nat) (a d N : Nat) (h : H), go q d = some 0 → pre.length + q.length ≤ 1000 → d ≤ pre.length → ds.length ≤ pre.length → h.get a = .cells 0 (ds.map nI) → a < h.n → 1 ≤ a → 1 ≤ h.lo → (∀ e ∈ ds, e ≤ 1000) → q.length < N →
    ∃ (ds' : List Nat) (a' : Nat) (h' : H), ds'.length = ds.length + cn 40 q ∧ (∀ e ∈ ds', e ≤ 1000) ∧ loopD N (c_spec_l1Depths_l2 F g) [.str (pre ++ q) (pre ++ q).length, xOf a ds.length, nI d, nI pre.length] h = some (xOf a' ds'.length, h') ∧
      h'.get a' = .cells 0 (ds'.map nI) ∧ a' < h'.n ∧ 1 ≤ a' ∧ 1 ≤ h'.lo ∧ (∀ c, c < h.n → c ≠ a → h'.get c = h.get c) ∧ h.n ≤ h'.n ∧ (a' = a ∨ h.n ≤ a')
  | [], pre, ds, a, d, 0, h, _, _, _, _, _, _, _, _, _, hN => absurd hN (Nat.not_lt_zero _)
  | [], pre, ds, a, d, N + 1, h, hgo, hl, hd1, hds, ha, han, ha1, hlo, he, hN => by
    refine ⟨ds, a, h, by simp [cn], he, ?_, ha, han, ha1, hlo, fun _ _ _ => rfl, Nat.le_refl _, .inl rfl⟩
    rw [loopD_succ]
    delta c_spec_l1Depths_l2
    dsimp only [hd_cons, tl_cons]
    rw [show ∀ (l : List Nat) (n : Nat) (h : H) (k : AV → H → Option R), aLenK 0 (.str l n) h k = k (nI n) h from fun _ _ _ _ => rfl, lssN, withBool_bool, List.append_nil, ble_false (Nat.lt_succ_self _), bc_false]
  | c :: q, pre, ds, a, d, 0, h, _, _, _, _, _, _, _, _, _, hN => absurd hN (Nat.not_lt_zero _)
  | c :: q, pre, ds, a, d, N + 1, h, hgo, hl, hd1, hds, ha, han, ha1, hlo, he, hN => by
    simp only [List.length_cons] at hl hN
    have hpl : (pre ++ [c]).length = pre.length + 1 := by simp
    have hpq : pre ++ c :: q = (pre ++ [c]) ++ q := by simp
    have hlt : Nat.ble (Nat.succ pre.length) (pre ++ c :: q).length = true := Nat.ble_eq_true_of_le (by simp)
    rw [loopD_succ]
    delta c_spec_l1Depths_l2
    dsimp only [hd_cons, tl_cons]
    rw [show ∀ (l : List Nat) (n : Nat) (h : H) (k : AV → H → Option R), aLenK 0 (.str l n) h k = k (nI n) h from fun _ _ _ _ => rfl, lssN, withBool_bool, hlt, bc_true, aIdxStr_at, hlt, bc_true, nthN_app, onSome_some']
    rw [show ∀ (k : AV → H → Option R), aCmpI ieq (.int 4 (.ofNat c)) (.int 4 (Int.ofNat 40)) h k = k (.bool (Nat.beq c 40)) h from fun _ => rfl, withBool_bool]
    simp only [go] at hgo
    by_cases h40 : c = 40
    · subst h40
      rw [if_pos rfl] at hgo
      rw [show Nat.beq 40 40 = true from rfl, bc_true]
      obtain ⟨h3, e3, c3, n3, f3, l3⟩ := app8 (h := h.push (.cells 0 [nI d])) (a := a) (q := h.n) (kk := fun x19 h => aArith iadd (nI d) (.int 3 (.ofNat 1)) h fun x20 h => c_spec_l1Depths_j1 F g (loopD N (c_spec_l1Depths_l2 F g)) [.str (pre ++ 40 :: q) (pre ++ 40 :: q).length, x19, x20, nI pre.length] h) (by rw [get_push_lt han]; exact ha) (get_push_eq rfl) (x := nI d) rfl (List.length_map ..) (by omega)
      have hlen : (ds ++ [d]).length = ds.length + 1 := by simp
      obtain ⟨ds', a', h', k1, k2, k3, k4, k5, k6, k7, k8, k9, k10⟩ := depths_loop (F := F) (g := g) q (pre ++ [40]) (ds ++ [d]) (h.push (.cells 0 [nI d])).n (d + 1) N h3 hgo (by omega) (by omega) (by omega) (by rw [c3]; simp) (by rw [n3]; exact Nat.lt_succ_self _) (by show 1 ≤ h.n + 1; omega) (l3 ha1 hlo) (fun e hm => by
        rcases List.mem_append.1 hm with hm | hm
        · exact he e hm
        · simp at hm; omega) (by omega)
      have hn3 : h3.n = h.n + 1 + 1 := n3
      refine ⟨ds', a', h', by simp only [cn]; simp at k1 ⊢; omega, k2, ?_, k4, k5, k6, k7, fun x hx hxa => ?_, by omega, .inr (by rcases k10 with k | k; rw [k]; show h.n ≤ h.n + 1; omega; omega)⟩
      · refine (show _ = aAppend 1 8 (xOf a ds.length) (.leaf (.sl h.n 0 1 1)) (h.push (.cells 0 [nI d])) _ from rfl).trans (e3.trans ?_)
        delta c_spec_l1Depths_j1
        dsimp only [hd_cons, tl_cons]
        rw [show AV.int 3 (Int.ofNat 1) = nI 1 from rfl, addN (by omega), addN (by omega), hpq, ← hpl, ← hlen]
        exact k3
      · rw [k8 x (by omega) (by show x ≠ h.n + 1; omega), f3 x (by show x < h.n + 1; omega) hxa, get_push_lt hx]
    · rw [if_neg h40] at hgo
      rw [show Nat.beq c 40 = false by rw [beq_decide, decide_eq_false_iff_not]; exact h40, bc_false]
      by_cases h41 : c = 41
      · rw [if_pos h41] at hgo
        by_cases hd0 : d = 0
        · rw [if_pos hd0] at hgo; cases hgo
        · rw [if_neg hd0] at hgo
          obtain ⟨ds', a', h', k1, k2, k3, k4, k5, k6, k7, k8, k9, k10⟩ := depths_loop (F := F) (g := g) q (pre ++ [c]) ds a (d - 1) N h hgo (by omega) (by omega) (by omega) ha han ha1 hlo he (by omega)
          refine ⟨ds', a', h', by simp only [cn]; rw [if_neg h40]; omega, k2, ?_, k4, k5, k6, k7, k8, k9, k10⟩
          rw [show AV.int 3 (Int.ofNat 1) = nI 1 from rfl, subN (by omega) (by omega)]
          delta c_spec_l1Depths_j1
          dsimp only [hd_cons, tl_cons]
          rw [show AV.int 3 (Int.ofNat 1) = nI 1 from rfl, addN (by omega), hpq, ← hpl]
          exact k3
      · rw [if_neg h41] at hgo; cases hgo
theorem go_len : ∀ (l : List Nat) (d e : Nat), go l d = some e → l.length = cn 40 l + cn 41 l
  | [], d, e, _ => rfl
  | c :: l, d, e, h => by
    simp only [go] at h
    by_cases h40 : c = 40
    · subst h40
      rw [if_pos rfl] at h
      have := go_len l _ _ h
      simp [cn]; omega
    · rw [if_neg h40] at h
      by_cases h41 : c = 41
      · subst h41
        rw [if_pos rfl] at h
        split at h
        · cases h
        · have := go_len l _ _ h
          simp [cn]; omega
      · rw [if_neg h41] at h; cases h
theorem quietRow_osl {c : AV → H → Option R} {a0 : AV} {h h' : H} {b o n : Nat} {l : List AV} (e : c a0 h.mark = some (.osl b o n 1, h')) (hlo : h.n ≤ h'.lo) (hb : h.n ≤ b) (hg : h'.get b = .cells 0 l) (hp : allPl l = true) :
    quietRowC c a0 h = some (.osl h.n o n 1, h.push (.cells 0 l)) := by
  unfold quietRowC
  rw [e]
  have b1 : Nat.ble h.n h'.lo = true := Nat.ble_eq_true_of_le hlo
  have b2 : Nat.ble h.n b = true := Nat.ble_eq_true_of_le hb
  show bc (Nat.ble h.n h'.lo) (bc (Nat.ble h.n b) (withCells h' b fun fl l => bc (Nat.ble fl 1) (bc (allPl l) (some (AV.osl h.n o n 1, h.push (.cells fl l))) none) none) none) none = _
  unfold withCells
  rw [b1, b2, hg]
  show bc (allPl l) _ none = _
  rw [hp]; rfl
theorem pl_nI : ∀ ks : List Nat, allPl (ks.map nI) = true
  | [] => rfl
  | k :: ks => pl_nI ks
theorem draw_lev (F g : Nat) {a0 : AV} {n : Nat} {L : List AV} {B : Blk} (ha : (a0 = .leaf .nils ∧ n = 0) ∨ a0 = .osl 0 0 n 1) (hB : 0 < n → B = .cells 2 L) (hb : ∀ i, i < n → ∃ v, L[i]? = some (.int 4 (.ofNat v)) ∧ v < 256) :
    ∃ pre ds : List Nat, pre.length ≤ 1 ∧ ds.length ≤ 9 ∧ (∀ e ∈ ds, e ≤ 2000) ∧ (∀ e ∈ pre, e ≤ 2000) ∧ c_spec_DrawLevelsTree F g a0 (hCode B) = some (.osl 1 pre.length ds.length 1, (hCode B).push (.cells 0 ((pre ++ ds).map nI))) := by
  obtain ⟨b, m, h1, e1, r1, n1⟩ := open_ok (F := 20000) (g := 20) (h := hCode B) ha (fun hn => ⟨2, hB hn⟩) hb (Nat.le_refl _) (Nat.le_refl _)
  have hn1 : h1.n = 2 := n1
  have hQ : (hCode B).n = 1 := rfl
  obtain ⟨v, h2, hv, e2, r2, n2, f2⟩ := r1.pick (F := 20000) (g := 20) (n := 8) (by omega) (by omega)
  obtain ⟨l, p3, h3, ⟨g1, g2, g3, g4⟩, hp3, e3, r3, fr3⟩ := nodes_okB (F := 20000) (g := 20) (n := 1 + v) r2 (by omega) (by omega) (by omega)
  have hlen := go_len l 0 0 g4
  have hq3 := r3.lt
  obtain ⟨ds, a, h4, k1, k2, k3, k4, k5, k6, k7, k8, k9, k10⟩ := depths_loop (F := 20000) (g := 20) l [] [] h3.n 0 20000 (h3.push (.cells 0 [])) g4 (by simp; omega) (Nat.zero_le _) (Nat.le_refl _) (get_push_eq rfl) (Nat.lt_succ_self _) (by omega) r3.lo (fun e he => by cases he) (by omega)
  have haQ : a ≠ 1 := by
    rcases k10 with k | k
    · omega
    · have : h3.n + 1 ≤ a := k
      omega
  have r4 : Rdr b m L (hCode B).n p3 h4 := r3.later (by rw [k8 0 (by show 0 < h3.n + 1; omega) (by omega)]; exact get_push_lt (by omega)) (by rw [k8 _ (by show (hCode B).n < h3.n + 1; omega) (by omega)]; exact get_push_lt hq3) (by have : h3.n + 1 ≤ h4.n := k9; omega) k7
  obtain ⟨u, h5, hu, e5, r5, n5, f5⟩ := r4.pick (F := 20000) (g := 20) (n := 12) (by omega) (by omega)
  have ha5 : h5.get a = .cells 0 (ds.map nI) := by rw [f5 a (by omega)]; exact k4
  simp only [List.length_nil, Nat.zero_add] at k1
  obtain ⟨q, hq⟩ : ∃ q, ds.length = q + 1 := ⟨ds.length - 1, by omega⟩
  have hq8 : q + 1 ≤ 8 := by omega
  have hx : xOf a ds.length = .osl a 0 (q + 1) 1 := by rw [hq]; rfl
  have start : ∀ (res : R), (∀ k : AV → H → Option R, True) → (aCmpI ieq (nI u) (nI 0) h5 fun x7 h => withBool x7 fun t8 => bc t8 (aBuildSlice 1 1 [(0, 1, (AV.int 3 (Int.ofNat 0)))] h fun x9 h => aAppend 1 8 (xOf a ds.length) x9 h fun x10 h => some (x10, h)) (aCmpI ieq (nI u) (AV.int 3 (Int.ofNat 1)) h fun x11 h => withBool x11 fun t12 => bc t12 (aLenK 1 (xOf a ds.length) h fun x13 h => aArith isub x13 (AV.int 3 (Int.ofNat 1)) h fun x14 h => aIdxAddr 1 (xOf a ds.length) x14 h fun x15 h => aLoad x15 h fun x16 h => aArith iadd x16 (AV.int 3 (Int.ofNat 2)) h fun x17 h => aBuildSlice 1 1 [(0, 1, x17)] h fun x18 h => aAppend 1 8 (xOf a ds.length) x18 h fun x19 h => some (x19, h)) (aCmpI ieq (nI u) (AV.int 3 (Int.ofNat 2)) h fun x20 h => withBool x20 fun t21 => bc t21 (aSliceV 1 (xOf a ds.length) (some (AV.int 3 (Int.ofNat 1))) none none h fun x22 h => some (x22, h)) (some ((xOf a ds.length), h))))) = some res →
      c_raw_spec_DrawLevelsTree 20000 20 a0 (hCode B).mark = some res := fun res _ e => by
    delta c_raw_spec_DrawLevelsTree
    rw [show (hCode B).mark = hCode B from rfl, e1, bindR_some', show AV.int 3 (Int.ofNat 8) = nI 8 from rfl, e2, bindR_some', show AV.int 3 (Int.ofNat 1) = nI 1 from rfl, addN (by omega), e3, bindR_some']
    have ed : c_spec_l1Depths 20000 20 (.str l l.length) h3 = some (xOf a ds.length, h4) := k3
    rw [ed, bindR_some', show AV.int 3 (Int.ofNat 12) = nI 12 from rfl, e5, bindR_some']
    exact e
  have more : ∀ w : Nat, w ≤ 2000 → ∃ h6, (aBuildSlice 1 1 [(0, 1, nI w)] h5 fun x9 h => aAppend 1 8 (xOf a ds.length) x9 h fun x10 h => some (x10, h)) = some (.osl (h5.n + 1) 0 (ds ++ [w]).length 1, h6) ∧ h6.get (h5.n + 1) = .cells 0 ((ds ++ [w]).map nI) ∧ 1 ≤ h6.lo := fun w hw => by
    obtain ⟨h6, e6, c6, n6, f6, l6⟩ := app8 (h := h5.push (.cells 0 [nI w])) (a := a) (q := h5.n) (kk := fun x10 h => some (x10, h)) (by rw [get_push_lt (by omega)]; exact ha5) (get_push_eq rfl) (x := nI w) rfl (List.length_map ..) (by omega)
    refine ⟨h6, ?_, ?_, l6 k6 r5.lo⟩
    · refine (show _ = aAppend 1 8 (xOf a ds.length) (.leaf (.sl h5.n 0 1 1)) (h5.push (.cells 0 [nI w])) _ from rfl).trans (e6.trans ?_)
      rw [show (ds ++ [w]).length = ds.length + 1 by simp]; rfl
    · rw [show h5.n + 1 = (h5.push (.cells 0 [nI w])).n from rfl, c6]; simp
  have two : ∀ e ∈ ds, e ≤ 2000 := fun e he => by have := k2 e he; omega
  by_cases u0 : u = 0
  · obtain ⟨h6, s1, s2, s3⟩ := more 0 (by omega)
    refine ⟨[], ds ++ [0], by simp, by simp; omega, fun e he => ?_, (fun e he => by cases he), quietRow_osl (start _ (fun _ => trivial) (by rw [eqlN, withBool_bool, show Nat.beq u 0 = true by subst u0; rfl, bc_true]; exact s1)) (by rw [hQ]; exact s3) (by rw [hQ]; omega) s2 (pl_nI _)⟩
    rcases List.mem_append.1 he with he | he
    · exact two e he
    · simp at he; omega
  · by_cases u1 : u = 1
    · obtain ⟨z, hz⟩ : ∃ z, ds[q]? = some z := ⟨_, List.getElem?_eq_getElem (by omega)⟩
      have hz2 := k2 z (List.mem_of_getElem? hz)
      obtain ⟨h6, s1, s2, s3⟩ := more (z + 2) (by omega)
      refine ⟨[], ds ++ [z + 2], by simp, by simp; omega, fun e he => ?_, (fun e he => by cases he), quietRow_osl (start _ (fun _ => trivial) ?_) (by rw [hQ]; exact s3) (by rw [hQ]; omega) s2 (pl_nI _)⟩
      · rcases List.mem_append.1 he with he | he
        · exact two e he
        · simp at he; omega
      · rw [eqlN, withBool_bool, show Nat.beq u 0 = false by rw [beq_decide, decide_eq_false_iff_not]; exact u0, bc_false, show AV.int 3 (Int.ofNat 1) = nI 1 from rfl, eqlN, withBool_bool, show Nat.beq u 1 = true by subst u1; rfl, bc_true]
        rw [hx, leOsl, subN (by omega) (by omega), show q + 1 - 1 = q from rfl, idxOsl (by omega), load_at (a := nI z) ha5 (by rw [nthO_eq, List.getElem?_map, show 0 + q * 1 = q by omega, hz]; rfl), show AV.int 3 (Int.ofNat 2) = nI 2 from rfl, addN (by omega), ← hx]
        exact s1
    · by_cases u2 : u = 2
      · obtain ⟨z, t, hzt⟩ : ∃ z t, ds = z :: t := by
          match ds, hq with
          | z :: t, _ => exact ⟨z, t, rfl⟩
        refine ⟨[z], t, by simp, by rw [hzt] at hq; simp at hq; omega, fun e he => two e (by rw [hzt]; exact List.mem_cons_of_mem _ he), (fun e he => by simp at he; subst he; exact two _ (by rw [hzt]; exact List.mem_cons_self ..)), quietRow_osl (b := a) (h' := h5) (start _ (fun _ => trivial) ?_) (by rw [hQ]; exact r5.lo) (by rw [hQ]; omega) (by rw [ha5, hzt]; rfl) (pl_nI _)⟩
        rw [eqlN, withBool_bool, show Nat.beq u 0 = false by rw [beq_decide, decide_eq_false_iff_not]; exact u0, bc_false, show AV.int 3 (Int.ofNat 1) = nI 1 from rfl, eqlN, withBool_bool, show Nat.beq u 1 = false by rw [beq_decide, decide_eq_false_iff_not]; exact u1, bc_false, show AV.int 3 (Int.ofNat 2) = nI 2 from rfl, eqlN, withBool_bool, show Nat.beq u 2 = true by subst u2; rfl, bc_true]
        have ht : t.length = q := by rw [hzt] at hq; simpa using hq
        rw [hx, ht]
        show bc (Nat.ble 1 (q + 1)) (bc (Nat.ble (q + 1) (q + 1)) (bc (Nat.beq 1 1) _ none) none) none = _
        rw [ble_true (show 1 ≤ q + 1 by omega), ble_true (Nat.le_refl _)]
        rfl
      · refine ⟨[], ds, by simp, by omega, two, (fun e he => by cases he), quietRow_osl (b := a) (h' := h5) (start _ (fun _ => trivial) ?_) (by rw [hQ]; exact r5.lo) (by rw [hQ]; omega) (by rw [ha5]; rfl) (pl_nI _)⟩
        rw [eqlN, withBool_bool, show Nat.beq u 0 = false by rw [beq_decide, decide_eq_false_iff_not]; exact u0, bc_false, show AV.int 3 (Int.ofNat 1) = nI 1 from rfl, eqlN, withBool_bool, show Nat.beq u 1 = false by rw [beq_decide, decide_eq_false_iff_not]; exact u1, bc_false, show AV.int 3 (Int.ofNat 2) = nI 2 from rfl, eqlN, withBool_bool, show Nat.beq u 2 = false by rw [beq_decide, decide_eq_false_iff_not]; exact u2, bc_false, hx, hq]
        rfl
end
end Go.AI.T
