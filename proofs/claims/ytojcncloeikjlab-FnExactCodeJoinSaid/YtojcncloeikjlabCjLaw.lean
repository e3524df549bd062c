/- The law FnExactCodeJoin is true whatever the texts. -/
import Derived.Test.YtojcncloeikjlabCjB
import Derived.Test.YtojcncloeikjlabCjEv
import Derived.KernelRfl
namespace Go.AI.T
open Go Go.RowKit Go.AI
set_option linter.unusedVariables false
set_option linter.unusedSimpArgs false
set_option maxRecDepth 100000
noncomputable section
theorem scan_len : ∀ (r : List Nat) (d m : Nat), scan r d m = true → r.length = 2 * ones r + d
  | [], d, m, h => by
    obtain rfl : d = 0 := Nat.eq_of_beq_eq_true h
    rfl
  | c :: r, 0, m, h => by cases h
  | c :: r, d + 1, m, h => by
    have h : bc (Nat.beq c 41) (scan r d m) (bc (Nat.beq c 40) (bc (Nat.ble (m + 1) 9) (scan r (d + 2) (m + 1)) false) false) = true := h
    rw [ones_cons, List.length_cons]
    cases h41 : Nat.beq c 41 with
    | true =>
      obtain rfl := Nat.eq_of_beq_eq_true h41
      rw [h41, bc_true] at h
      have := scan_len r d m h
      rw [show Nat.beq 41 40 = false from rfl, bc_false]; omega
    | false =>
      rw [h41, bc_false] at h
      cases h40 : Nat.beq c 40 with
      | false => rw [h40] at h; cases h
      | true =>
        rw [h40, bc_true] at h
        cases h9 : Nat.ble (m + 1) 9 with
        | false => rw [h9] at h; cases h
        | true =>
          rw [h9, bc_true] at h
          have := scan_len r (d + 2) (m + 1) h
          rw [bc_true]; omega
theorem two_ones {k : List Nat} (ht : isTree k = true) : 2 * ones k ≤ k.length := by
  cases k with
  | nil => cases ht
  | cons c r =>
    have h : bc (Nat.beq c 40) (scan r 1 1) false = true := ht
    cases h40 : Nat.beq c 40 with
    | false => rw [h40] at h; cases h
    | true =>
      rw [h40, bc_true] at h
      have := scan_len r 1 1 h
      rw [ones_cons, h40, bc_true, List.length_cons]; omega
theorem tell_tree {l : List Nat} (ht : isTree l = true) : ∃ (ks : List (List Nat)) (b : Nat) (h1 : H) (l1 : List Nat) (h2 h3 : H), Go.AI.V.c_impl_TreeChildren 20000 20 (sv l) H0 = some (.one .tup (.cons (xOf b ks.length) (.cons (.bool true) (.leaf .nil))), h1) ∧ h1.get b = .cells 0 (ks.map sv) ∧ inB2 ks = l ∧ ks.all isTree = true ∧
    Go.AI.V.c_spec_l1Sorted 20000 20 (sv l) H0 = some (sv l1, h2) ∧ isTree l1 = true ∧ Go.AI.V.c_impl_TreeSorted 20000 20 (sv l) H0 = some (.one .tup (.cons (sv l1) (.cons (.bool true) (.leaf .nil))), h3) := by
  obtain ⟨r, hr, he⟩ := List.mem_map.1 (isTree_mem ht)
  have h1 := allR_mem okJ 17 1 1 (fun l => 40 :: l) evJ_all r hr
  rw [show (40 :: r) = _ from he] at h1
  exact okJ_some h1
theorem pl_svJ : ∀ ks : List (List Nat), allPl (ks.map sv) = true
  | [] => rfl
  | k :: ks => pl_svJ ks
theorem child_good {l : List Nat} (ht : isTree l = true) : ∃ ks : List (List Nat), inB2 ks = l ∧ ks.all isTree = true ∧ ∀ (F g : Nat) (h : H), c_impl_TreeChildren F g (sv l) h = some (.one .tup (.cons (xOf h.n ks.length) (.cons (.bool true) (.leaf .nil))), h.push (.cells 0 (ks.map sv))) := by
  obtain ⟨ks, b, h1, l1, h2, h3, e1, hb, hk, ha, _, _, _⟩ := tell_tree ht
  refine ⟨ks, hk, ha, fun F g h => ?_⟩
  show fgRowOkC _ _ _ = _
  unfold fgRowOkC
  rw [e1]
  have hw : ∀ f : Nat → List AV → Option R, withCells h1 b f = f 0 (ks.map sv) := fun f => by unfold withCells; rw [hb]
  cases hn : ks.length with
  | zero =>
    show withCells h1 b (fun fl l => bc (allPl l) (some (AV.one .tup (AV.cons (AV.leaf (.sl h.n 0 0 0)) (AV.cons (AV.bool true) (AV.leaf .nil))), h.push (.cells fl l))) none) = _
    rw [hw, pl_svJ]; rfl
  | succ n =>
    show withCells h1 b (fun fl l => bc (allPl l) (some (AV.one .tup (AV.cons (AV.osl h.n 0 (n + 1) 1) (AV.cons (AV.bool true) (AV.leaf .nil))), h.push (.cells fl l))) none) = _
    rw [hw, pl_svJ]; rfl
theorem child_bad (F g : Nat) {l : List Nat} (hm : l.length ≤ 1048576) (ht : isTree l = false) (h : H) : c_impl_TreeChildren F g (sv l) h = some (.one .tup (.cons (.leaf .nils) (.cons (.bool false) (.leaf .nil))), h) := by
  have e : Go.AI.V.c_impl_TreeChildren 20000 20 (.str l l.length) H0 = some (.one .tup (.cons (.leaf .nils) (.cons (.bool false) (.leaf .nil))), H0) := by
    delta Go.AI.V.c_impl_TreeChildren
    rw [read_bad (lenL_eq l) hm ht, bindR_some', aExtract_0, aExtract_1, aNot_b, bnot_f, withBool_bool, bc_true]
  show fgRowOkC _ _ _ = _
  unfold fgRowOkC
  rw [show sv l = .str l l.length from rfl, e]; rfl
theorem sort_small (F g : Nat) {l : List Nat} (ht : isTree l = true) (h : H) : ∃ l1, c_spec_l1Sorted F g (sv l) h = some (sv l1, h) ∧ isTree l1 = true ∧ c_impl_TreeSorted F g (sv l) h = some (.one .tup (.cons (sv l1) (.cons (.bool true) (.leaf .nil))), h) := by
  obtain ⟨ks, b, h1, l1, h2, h3, _, _, _, _, e1, hl, e2⟩ := tell_tree ht
  refine ⟨l1, ?_, hl, ?_⟩
  · show fgC _ _ _ = _
    unfold fgC
    rw [e1]; rfl
  · show fgC _ _ _ = _
    unfold fgC
    rw [e2]; rfl
theorem sort_big (F g : Nat) {l : List Nat} (ht : UT l) (hl : l.length ≤ 40) (h : H) : ∃ l1, c_spec_l1Sorted F g (sv l) h = some (sv l1, h) ∧ l1.length = l.length := by
  obtain ⟨l1, h', e, h1, _⟩ := sorted_len (F := 20000) (by omega) 20 l ht (by omega) (by omega) H0
  refine ⟨l1, ?_, h1⟩
  show fgC _ _ _ = _
  unfold fgC
  rw [e]; rfl
theorem joinX {F g q n : Nat} {ks : List (List Nat)} {h : H} (hb : h.get q = .cells 0 (ks.map sv)) (hl : ks.length = n) (hn : n ≤ 1000000) (hs : sum ks ≤ 1000000) : c_strings_Join F g (xOf q n) (.str [] 0) h = some (sv (flat ks), h) := by
  cases n with
  | zero =>
    obtain rfl : ks = [] := List.eq_nil_of_length_eq_zero hl
    rfl
  | succ n =>
    show bc (Nat.ble 1 (n + 1)) (bc (Nat.ble (n + 1) 1000000) (withCells h q fun _ l => bc (Nat.beq (lenL (takeL (n + 1) (dropL 0 l))) (n + 1)) (catL (takeL (n + 1) (dropL 0 l)) (joinK h)) none) none) (bc (Nat.beq (n + 1) 0) (joinK h [] 0) none) = _
    rw [ble_true (show 1 ≤ n + 1 by omega), ble_true hn, bc_true, bc_true]
    have hw : ∀ f : Nat → List AV → Option R, withCells h q f = f 0 (ks.map sv) := fun f => by unfold withCells; rw [hb]
    rw [hw, dropL_eq, takeL_eq, List.drop_zero, List.take_of_length_le (by rw [List.length_map]; omega), lenL_eq, List.length_map, hl, Nat.beq_refl, bc_true, cat_ok]
    show bc (Nat.ble (sum ks) 1000000) (some (AV.str (flat ks) (sum ks), h)) none = _
    rw [ble_true hs, bc_true, ← flat_len]; rfl
theorem treeOfX {F g n q : Nat} {ks : List (List Nat)} {h : H} (hF : 1048576 < F) (hb : h.get q = .cells 0 (ks.map sv)) (hl : ks.length = n) (hn : n ≤ 1000) (hs : sum ks ≤ 1000) : c_impl_TreeOf F g (xOf q n) h = some (res ks, h) := by
  have r : Rd (xOf q n) q n (ks.map sv) [] := Rd_xOf (by rw [List.length_map, hl])
  have e1 := impl_loop (F := F) (g := g) r (by rw [hb, List.append_nil]) (by omega) (fun k hk => Nat.le_trans (sum_mem hk) (by omega)) F ks 1 0 (fun j e he => by rw [Nat.zero_add]; exact he) (by omega) (by omega) (by omega)
  have e0 : c_impl_TreeOf F g (xOf q n) h = loopD F (c_impl_TreeOf_l2 F g) [xOf q n, nI 1, xOf q n, nI n, nI 0] h := by
    delta c_impl_TreeOf
    rw [r.len]
  rw [e0, e1]
  unfold res
  cases ha : ks.all isTree with
  | false => rfl
  | true =>
    cases hq : Nat.ble (1 + total ks) 9 with
    | false => rfl
    | true =>
      rw [bc_true, bc_true, bc_true, bc_true, joinX hb hl (by omega) (by omega), bindR_some', show AV.str [40] 1 = sv [40] from rfl, show AV.str [41] 1 = sv [41] from rfl, sadd (by rw [flat_len]; show 1 + sum ks ≤ _; omega), sadd (by rw [List.length_append, flat_len]; show 1 + sum ks + 1 ≤ _; omega)]
      rfl
theorem all_app {a b : List (List Nat)} (ha : a.all isTree = true) (hb : b.all isTree = true) : (a ++ b).all isTree = true := by rw [List.all_append, ha, hb]; rfl
theorem cut_last {p : List Nat} {c : Nat} {h : H} {kk : AV → H → Option R} : aSliceS (sv (p ++ [c])) none (some (nI p.length)) none h kk = kk (sv p) h := by
  show bc (Nat.ble 0 p.length) (bc (Nat.ble p.length (p ++ [c]).length) (kk (.str (dropL 0 (takeL p.length (p ++ [c]))) (Nat.sub p.length 0)) h) none) none = _
  rw [ble_true (Nat.zero_le _), ble_true (by simp), bc_true, bc_true, dropL_eq, takeL_eq, List.drop_zero, List.take_append, List.take_of_length_le (Nat.le_refl _), Nat.sub_self, List.take_zero, List.append_nil]; rfl
theorem cut_first {p : List Nat} {c : Nat} {h : H} {kk : AV → H → Option R} : aSliceS (sv (c :: p)) (some (nI 1)) none none h kk = kk (sv p) h := by
  show bc (Nat.ble 1 (c :: p).length) (bc (Nat.ble (c :: p).length (c :: p).length) (kk (.str (dropL 1 (takeL (c :: p).length (c :: p))) (Nat.sub (c :: p).length 1)) h) none) none = _
  rw [ble_true (by simp), ble_true (Nat.le_refl _), bc_true, bc_true, dropL_eq, takeL_eq, List.take_of_length_le (Nat.le_refl _)]; rfl
theorem spec_goodS {F g : Nat} {l : List Nat} {h : H} (ht : isTree l = true) : c_spec_TreeIn F g (sv l) h = some (.bool true, h) := spec_good (lenL_eq l) ht h
theorem spec_badS {F g : Nat} {l : List Nat} {h : H} (ht : isTree l = false) : c_spec_TreeIn F g (sv l) h = some (.bool false, h) := spec_bad (lenL_eq l) ht h
theorem spec_cj {F g : Nat} {x y : AV} {h : H} (e1 : c_spec_TreeIn F g x h = some (.bool true, h)) (e2 : c_spec_TreeIn F g y h = some (.bool true, h)) : c_spec_CodeJoin F g x y h = aLenK 0 x h fun x9 _ => aArith isub x9 (nI 1) h fun x10 _ => aSliceS x none (some x10) none h fun x11 _ => aSliceS y (some (nI 1)) none none h fun x12 _ => aSAdd x11 x12 h fun x13 _ => bindR (c_spec_l1Sorted F g x13 h) fun x14 h => bindR (c_spec_l1Done F g x14 h) fun x15 h => aExtract x15 0 h fun x16 _ => aExtract x15 1 h fun x17 _ => some (AV.one .tup (AV.cons x16 (AV.cons x17 (AV.leaf .nil))), h) := by
  delta c_spec_CodeJoin
  rw [e1, bindR_some', aNot_b, bnot_t, guardB_bool, show bc (bc false false (bnot false)) = bc true from rfl, bc_true, e2, bindR_some', aNot_b, bnot_t]
  rfl
theorem done_good {F g : Nat} {l : List Nat} {h : H} (ht : isTree l = true) : c_spec_l1Done F g (sv l) h = some (.one .tup (.cons (sv l) (.cons (.bool true) (.leaf .nil))), h) := by
  delta c_spec_l1Done
  rw [spec_goodS ht, bindR_some']; rfl
theorem done_bad {F g : Nat} {l : List Nat} {h : H} (ht : isTree l = false) : c_spec_l1Done F g (sv l) h = some (noT, h) := by
  delta c_spec_l1Done
  rw [spec_badS ht, bindR_some']; rfl
/-- What both tell. -/
def out (A B : List (List Nat)) (l1 : List Nat) : AV := bc (Nat.ble (1 + total (A ++ B)) 9) (.one .tup (.cons (sv l1) (.cons (.bool true) (.leaf .nil)))) noT
theorem spec_join {F g : Nat} {A B : List (List Nat)} {h : H} (hF : 2000 ≤ F) (ha : A.all isTree = true) (hb : B.all isTree = true) (h1 : isTree (inB2 A) = true) (h2 : isTree (inB2 B) = true) :
    ∃ l1, c_spec_CodeJoin F g (sv (inB2 A)) (sv (inB2 B)) h = some (out A B l1, h) ∧ (Nat.ble (1 + total (A ++ B)) 9 = true → ∀ h : H, c_impl_TreeSorted F g (sv (inB2 (A ++ B))) h = some (.one .tup (.cons (sv l1) (.cons (.bool true) (.leaf .nil))), h)) := by
  have l18a := tree_len h1
  have l18b := tree_len h2
  have la := inB2_len A
  have lb := inB2_len B
  have hab := all_app ha hb
  have hJ := tree_inB2 hab
  have st := spec_cj (F := F) (g := g) (h := h) (spec_goodS h1) (spec_goodS h2)
  have hlen : ∀ (k : AV → H → Option R), aLenK 0 (sv (inB2 A)) h k = k (nI (inB2 A).length) h := fun k => rfl
  have jn : (40 :: flat A) ++ (flat B ++ [41]) = inB2 (A ++ B) := by
    show 40 :: (flat A ++ (flat B ++ [41])) = 40 :: (flat (A ++ B) ++ [41])
    rw [flat_app, List.append_assoc]
  have st2 : c_spec_CodeJoin F g (sv (inB2 A)) (sv (inB2 B)) h = bindR (c_spec_l1Sorted F g (sv (inB2 (A ++ B))) h) fun x14 h => bindR (c_spec_l1Done F g x14 h) fun x15 h => aExtract x15 0 h fun x16 _ => aExtract x15 1 h fun x17 _ => some (AV.one .tup (AV.cons x16 (AV.cons x17 (AV.leaf .nil))), h) := by
    rw [st, hlen, subN (by omega) (by omega)]
    have c1 : ∀ kk : AV → H → Option R, aSliceS (sv (inB2 A)) none (some (nI ((inB2 A).length - 1))) none h kk = kk (sv (40 :: flat A)) h := fun kk => by
      have := cut_last (p := 40 :: flat A) (c := 41) (h := h) (kk := kk)
      rw [show (40 :: flat A).length = (inB2 A).length - 1 by rw [List.length_cons, flat_len, la]; omega] at this
      exact this
    rw [c1]
    have c2 : ∀ kk : AV → H → Option R, aSliceS (sv (inB2 B)) (some (nI 1)) none none h kk = kk (sv (flat B ++ [41])) h := fun kk => cut_first
    rw [c2, sadd (by rw [List.length_cons, List.length_append, flat_len, flat_len]; show sum A + 1 + (sum B + 1) ≤ _; omega), jn]
  rw [st2]
  clear st st2
  cases hq : Nat.ble (1 + total (A ++ B)) 9 with
  | true =>
    rw [hq] at hJ
    obtain ⟨l1, e1, e2, _⟩ := sort_small F g hJ h
    refine ⟨l1, ?_, fun _ h => ?_⟩
    · rw [e1, bindR_some']
      rw [done_good e2, bindR_some', aExtract_0, aExtract_1]
      unfold out; rw [hq, bc_true]
    · obtain ⟨l2, e3, _, e4⟩ := sort_small F g hJ h
      obtain ⟨l3, e5, _, e6⟩ := sort_small F g hJ H0
      have h12 : l1 = l2 := by
        have q1 : c_spec_l1Sorted F g (sv (inB2 (A ++ B))) = fgC (Go.AI.V.c_spec_l1Sorted 20000 20) (sv (inB2 (A ++ B))) := rfl
        rw [q1] at e1 e3
        unfold fgC at e1 e3
        cases hv : Go.AI.V.c_spec_l1Sorted 20000 20 (sv (inB2 (A ++ B))) H0 with
        | none => rw [hv] at e1; cases e1
        | some r =>
          rw [hv] at e1 e3
          have e1 : bc r.1.plain (some (r.1, _)) none = some (sv l1, _) := e1
          have e3 : bc r.1.plain (some (r.1, _)) none = some (sv l2, _) := e3
          cases hp : r.1.plain with
          | false => rw [hp] at e1; cases e1
          | true =>
            rw [hp, bc_true] at e1 e3
            have a1 : r.1 = sv l1 := by injection e1 with e1; injection e1
            have a2 : r.1 = sv l2 := by injection e3 with e3; injection e3
            rw [a1] at a2
            injection a2
      rw [h12]; exact e4
  | false =>
    have hUT : UT (inB2 (A ++ B)) := .mk _ fun k hk => tree_UT (flat_sum hab k hk)
    have hl := inB2_len (A ++ B)
    have hs := sum_app A B
    obtain ⟨l1, e1, e2⟩ := sort_big F g hUT (by omega) h
    refine ⟨l1, ?_, fun h => by cases h⟩
    have hbig : isTree l1 = false := by
      cases ht : isTree l1 with
      | false => rfl
      | true =>
        exfalso
        have h18 := tree_len ht
        have h9 : 9 < 1 + total (A ++ B) := by
          rw [ble_decide, decide_eq_false_iff_not] at hq; omega
        have hge : ∀ ks : List (List Nat), ks.all isTree = true → 2 * total ks ≤ sum ks := by
          intro ks
          induction ks with
          | nil => intro _; exact Nat.le_refl _
          | cons k t ih =>
            intro hk
            have hk : (isTree k && t.all isTree) = true := hk
            simp at hk
            have i1 := ih (by simpa using hk.2)
            have i2 := two_ones hk.1
            show 2 * (ones k + total t) ≤ k.length + sum t
            omega
        have := hge _ hab
        omega
    rw [e1, bindR_some']
    rw [done_bad hbig, bindR_some']
    unfold out noT; rw [hq, bc_false, aExtract_0, aExtract_1]
theorem impl_cj {F g : Nat} {x y u v : AV} {h h1 h2 : H} (e1 : c_impl_TreeChildren F g x h = some (.one .tup (.cons u (.cons (.bool true) (.leaf .nil))), h1)) (e2 : c_impl_TreeChildren F g y h1 = some (.one .tup (.cons v (.cons (.bool true) (.leaf .nil))), h2)) : c_impl_CodeJoin F g x y h = aAppend 1 16 u v h2 fun x14 h => bindR (c_impl_TreeOf F g x14 h) fun x15 h => aExtract x15 0 h fun x16 h => aExtract x15 1 h fun x17 h => aNot x17 h fun x18 h => withBool x18 fun t19 => bc t19 (some (AV.one .tup (AV.cons (AV.str [] 0) (AV.cons (AV.bool false) (AV.leaf .nil))), h)) (bindR (c_impl_TreeSorted F g x16 h) fun x20 h => aExtract x20 0 h fun x21 h => aExtract x20 1 h fun x22 h => some (AV.one .tup (AV.cons x21 (AV.cons x22 (AV.leaf .nil))), h)) := by
  delta c_impl_CodeJoin
  rw [e1, bindR_some', aExtract_0, aExtract_1, e2, bindR_some', aExtract_0, aExtract_1, aNot_b, bnot_t, guardB_bool, show bc (bc false false (bnot false)) = bc true from rfl, bc_true, aNot_b, bnot_t]
  rfl
theorem impl_join {F g : Nat} {A B : List (List Nat)} {l1 : List Nat} {h : H} (hF : 1048576 < F) (ha : A.all isTree = true) (hb : B.all isTree = true) (h1 : isTree (inB2 A) = true) (h2 : isTree (inB2 B) = true)
    (cA : ∀ h : H, c_impl_TreeChildren F g (sv (inB2 A)) h = some (.one .tup (.cons (xOf h.n A.length) (.cons (.bool true) (.leaf .nil))), h.push (.cells 0 (A.map sv)))) (cB : ∀ h : H, c_impl_TreeChildren F g (sv (inB2 B)) h = some (.one .tup (.cons (xOf h.n B.length) (.cons (.bool true) (.leaf .nil))), h.push (.cells 0 (B.map sv))))
    (hs : Nat.ble (1 + total (A ++ B)) 9 = true → ∀ h : H, c_impl_TreeSorted F g (sv (inB2 (A ++ B))) h = some (.one .tup (.cons (sv l1) (.cons (.bool true) (.leaf .nil))), h)) : ∃ h', c_impl_CodeJoin F g (sv (inB2 A)) (sv (inB2 B)) h = some (out A B l1, h') := by
  have l18a := tree_len h1
  have l18b := tree_len h2
  have la := inB2_len A
  have lb := inB2_len B
  have e1 := cA h
  have e2 := cB (h.push (.cells 0 (A.map sv)))
  have ma : A.length ≤ 16 := by have := sum_le_len (ks := A) fun k hk => tree_UT (flat_sum ha k hk); omega
  have mb : B.length ≤ 16 := by have := sum_le_len (ks := B) fun k hk => tree_UT (flat_sum hb k hk); omega
  have pl : ∀ q : List (List Nat), allOne (q.map sv) = true := fun q => by
    induction q with
    | nil => rfl
    | cons x q ih => exact ih
  have hm1 : (h.push (.cells 0 (A.map sv))).n = h.n + 1 := rfl
  rw [hm1] at e2
  obtain ⟨y, p1, p2⟩ := part_row (h := (h.push (.cells 0 (A.map sv))).push (.cells 0 (B.map sv))) (b := h.n + 1) (L := B.map sv) (i := 0) (j := (B.map sv).length) (get_push_eq rfl) (Nat.zero_le _) (Nat.le_refl _) none none (.inl ⟨rfl, rfl⟩) (.inl ⟨rfl, rfl⟩)
  have hw : ∀ f : Nat → List AV → Option R, withElems 1 (xOf (h.n + 1) B.length) ((h.push (.cells 0 (A.map sv))).push (.cells 0 (B.map sv))) f = f B.length (B.map sv) := fun f => by
    have hg : ((h.push (.cells 0 (A.map sv))).push (.cells 0 (B.map sv))).get (h.n + 1) = .cells 0 (B.map sv) := get_push_eq rfl
    cases hn : B.length with
    | zero =>
      obtain rfl : B = [] := List.eq_nil_of_length_eq_zero hn
      show withCells _ (h.n + 1) (fun _ l => bc (Nat.beq (lenL (takeL (Nat.mul 0 1) (dropL 0 l))) (Nat.mul 0 1)) (f 0 (takeL (Nat.mul 0 1) (dropL 0 l))) none) = _
      unfold withCells; rw [hg]; rfl
    | succ n =>
      show withCells _ (h.n + 1) (fun _ l => bc (Nat.beq (lenL (takeL (Nat.mul (n + 1) 1) (dropL 0 l))) (Nat.mul (n + 1) 1)) (bc (Nat.ble 1 (n + 1)) (f (n + 1) (takeL (Nat.mul (n + 1) 1) (dropL 0 l))) none) none) = _
      have hw : ∀ g : Nat → List AV → Option R, withCells ((h.push (.cells 0 (A.map sv))).push (.cells 0 (B.map sv))) (h.n + 1) g = g 0 (B.map sv) := fun g => by unfold withCells; rw [hg]
      rw [hw, takeL_eq, dropL_eq, show Nat.mul (n + 1) 1 = n + 1 from Nat.mul_one _, List.drop_zero, List.take_of_length_le (by rw [List.length_map]; omega), lenL_eq, List.length_map, hn, Nat.beq_refl, bc_true]; rfl
  obtain ⟨a3, h3, e3, g3, n3, f3, w3, l3⟩ := app_row (h := (h.push (.cells 0 (A.map sv))).push (.cells 0 (B.map sv))) (a := h.n) (la := A.map sv) (vs := B.map sv) (y := xOf (h.n + 1) B.length) (m := B.length) (kk := fun x14 h => bindR (c_impl_TreeOf F g x14 h) fun x15 h => aExtract x15 0 h fun x16 h => aExtract x15 1 h fun x17 h => aNot x17 h fun x18 h => withBool x18 fun t19 => bc t19 (some (AV.one .tup (AV.cons (AV.str [] 0) (AV.cons (AV.bool false) (AV.leaf .nil))), h)) (bindR (c_impl_TreeSorted F g x16 h) fun x20 h => aExtract x20 0 h fun x21 h => aExtract x20 1 h fun x22 h => some (AV.one .tup (AV.cons x21 (AV.cons x22 (AV.leaf .nil))), h)))
    (by rw [get_push_lt (by show h.n < h.n + 1; omega)]; exact get_push_eq rfl) (by show h.n < h.n + 1 + 1; omega) (by rw [List.length_map]; omega) hw (by rw [List.length_map]) (by omega) (pl _)
  rw [List.length_map] at e3
  have hla : (A ++ B).length = A.length + B.length := List.length_append ..
  have hg3 : h3.get a3 = .cells 0 ((A ++ B).map sv) := by rw [g3, List.map_append]
  have hsum := sum_app A B
  have e4 := treeOfX (F := F) (g := g) hF hg3 hla (by omega) (by omega)
  have st := impl_cj (F := F) (g := g) e1 e2
  refine ⟨h3, ?_⟩
  rw [st, e3, e4, bindR_some']
  unfold res out
  rw [all_app ha hb, bc_true]
  cases hq : Nat.ble (1 + total (A ++ B)) 9 with
  | false => rfl
  | true =>
    rw [bc_true, bc_true]
    unfold yesT
    rw [aExtract_0, aExtract_1, aNot_b, bnot_t, withBool_bool, bc_false, hs hq h3, bindR_some', aExtract_0, aExtract_1]
theorem eq_out {F g : Nat} {s t : List Nat} {v : AV} {h1 h2 : H} (hs : s.length ≤ 1048576) (ht : t.length ≤ 1048576) (hv : v = noT ∨ ∃ l, v = .one .tup (.cons (sv l) (.cons (.bool true) (.leaf .nil)))) (e1 : c_spec_CodeJoin F g (sv s) (sv t) H0 = some (v, h1)) (e2 : c_impl_CodeJoin F g (sv s) (sv t) h1 = some (v, h2)) : c_laws_FnExactCodeJoin F g (sv s) (sv t) H0 = some (.bool true, h2) := by
  have hls : ∀ (h : H) (k : AV → H → Option R), aLenK 0 (sv s) h k = k (nI s.length) h := fun h k => rfl
  have hlt : ∀ (h : H) (k : AV → H → Option R), aLenK 0 (sv t) h k = k (nI t.length) h := fun h k => rfl
  delta c_laws_FnExactCodeJoin
  rw [hls, show AV.int 3 (Int.ofNat 1048576) = nI 1048576 from rfl, gtrN, withBool_bool, ble_false (by omega), bc_false, hlt, gtrN, withBool_bool, ble_false (by omega), bc_false, e1, bindR_some']
  obtain ⟨l, b, rfl⟩ : ∃ l b, v = .one .tup (.cons (sv l) (.cons (.bool b) (.leaf .nil))) := by
    rcases hv with rfl | ⟨l, rfl⟩
    · exact ⟨[], false, rfl⟩
    · exact ⟨l, true, rfl⟩
  rw [aExtract_0, aExtract_1, e2, bindR_some', aExtract_0, aExtract_1]
  have c1 : ∀ k : AV → H → Option R, aCmpS (fun a b => bnot (eqL a b)) (sv l) (sv l) h2 k = k (.bool false) h2 := fun k => by
    show k (.bool (bnot (eqL l l))) h2 = _
    rw [eqL_self]; rfl
  rw [c1, guardB_bool, show bc (bc false false (bnot false)) = bc true from rfl, bc_true]
  have c2 : ∀ (t : Bool) (k : AV → H → Option R), aEq true 0 (.bool t) (.bool t) h2 k = k (.bool false) h2 := fun t k => by cases t <;> rfl
  rw [c2]; rfl
theorem spec_no {F g : Nat} {s t : List Nat} {h : H} (hb : isTree s = false ∨ isTree t = false) : c_spec_CodeJoin F g (sv s) (sv t) h = some (noT, h) := by
  delta c_spec_CodeJoin
  cases hs : isTree s with
  | false => rw [spec_badS hs, bindR_some']; rfl
  | true =>
    have ht := hb.resolve_left (by rw [hs]; exact Bool.noConfusion)
    rw [spec_goodS hs, bindR_some', aNot_b, bnot_t, guardB_bool, show bc (bc false false (bnot false)) = bc true from rfl, bc_true, spec_badS ht, bindR_some']; rfl
theorem impl_no {F g : Nat} {s t : List Nat} {h : H} (hls : s.length ≤ 1048576) (hlt : t.length ≤ 1048576) (hb : isTree s = false ∨ isTree t = false) : ∃ h', c_impl_CodeJoin F g (sv s) (sv t) h = some (noT, h') := by
  delta c_impl_CodeJoin
  cases hs : isTree s with
  | false =>
    cases ht : isTree t with
    | false => rw [child_bad F g hls hs, bindR_some', aExtract_0, aExtract_1, child_bad F g hlt ht, bindR_some', aExtract_0, aExtract_1]; exact ⟨_, rfl⟩
    | true =>
      obtain ⟨ks, _, _, e⟩ := child_good ht
      rw [child_bad F g hls hs, bindR_some', aExtract_0, aExtract_1, e F g h, bindR_some', aExtract_0, aExtract_1]; exact ⟨_, rfl⟩
  | true =>
    have ht := hb.resolve_left (by rw [hs]; exact Bool.noConfusion)
    obtain ⟨ks, _, _, e⟩ := child_good hs
    rw [e F g h, bindR_some', aExtract_0, aExtract_1, child_bad F g hlt ht, bindR_some', aExtract_0, aExtract_1]; exact ⟨_, rfl⟩
theorem law_FnExactCodeJoin (s t : List Nat) : ∃ h', c_laws_FnExactCodeJoin 2097152 20 (.str s s.length) (.str t t.length) H0 = some (.bool true, h') := by
  have hls : ∀ (h : H) (k : AV → H → Option R), aLenK 0 (.str s s.length) h k = k (nI s.length) h := fun h k => rfl
  have hlt : ∀ (h : H) (k : AV → H → Option R), aLenK 0 (.str t t.length) h k = k (nI t.length) h := fun h k => rfl
  by_cases h1 : 1048576 < s.length
  · refine ⟨H0, ?_⟩
    delta c_laws_FnExactCodeJoin
    rw [hls, show AV.int 3 (Int.ofNat 1048576) = nI 1048576 from rfl, gtrN, withBool_bool, ble_true (show Nat.succ 1048576 ≤ s.length from h1), bc_true]
  by_cases h2 : 1048576 < t.length
  · refine ⟨H0, ?_⟩
    delta c_laws_FnExactCodeJoin
    rw [hls, show AV.int 3 (Int.ofNat 1048576) = nI 1048576 from rfl, gtrN, withBool_bool, ble_false (by omega), bc_false, hlt, gtrN, withBool_bool, ble_true (show Nat.succ 1048576 ≤ t.length from h2), bc_true]
  by_cases hb : isTree s = false ∨ isTree t = false
  · obtain ⟨h', e⟩ := impl_no (F := 2097152) (g := 20) (h := H0) (by omega) (by omega) hb
    exact ⟨h', eq_out (by omega) (by omega) (.inl rfl) (spec_no hb) e⟩
  · have hs : isTree s = true := by cases q : isTree s with | true => rfl | false => exact absurd (.inl q) hb
    have ht : isTree t = true := by cases q : isTree t with | true => rfl | false => exact absurd (.inr q) hb
    obtain ⟨A, qa, ha, cA⟩ := child_good hs
    obtain ⟨B, qb, hb2, cB⟩ := child_good ht
    subst qa qb
    obtain ⟨l1, e1, e2⟩ := spec_join (F := 2097152) (g := 20) (h := H0) (by omega) ha hb2 hs ht
    obtain ⟨h', e3⟩ := impl_join (F := 2097152) (g := 20) (h := H0) (by omega) ha hb2 hs ht (cA 2097152 20) (cB 2097152 20) e2
    refine ⟨h', eq_out (by omega) (by omega) ?_ e1 e3⟩
    unfold out
    cases Nat.ble (1 + total (A ++ B)) 9 with
    | true => exact .inr ⟨_, rfl⟩
    | false => exact .inl rfl
end
end Go.AI.T
