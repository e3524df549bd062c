/- Grafting: more than nine nodes; texts that are no trees; numbers that are no nodes; what is asked of small trees. -/
import Derived.Test.YtecliakkmgoglaaDoorGrE0
import Derived.Test.YtecliakkmgoglaaDoorGrE1
import Derived.Test.YtecliakkmgoglaaDoorGrE2
import Derived.Test.YtecliakkmgoglaaDoorGrE3
import Derived.KernelRfl
set_option linter.unusedVariables false
set_option linter.unusedSimpArgs false
set_option maxRecDepth 100000
namespace Go.AI.T
open Go Go.RowKit Go.AI
noncomputable section
theorem zz_all : okL bothB 60 0 35 = true := (cc zz0 (cc zz1 (cc zz2 (cc zz3 (cc zz4 (cc zz5 (cc zz6 (cc zz7 (cc zz8 (cc zz9 (cc zz10 (cc zz11 (cc zz12 (cc zz13 (cc zz14 (cc zz15 (cc zz16 (cc zz17 (cc zz18 (cc zz19 (cc zz20 (cc zz21 (cc zz22 (cc zz23 (cc zz24 (cc zz25 (cc zz26 (cc zz27 (cc zz28 (cc zz29 (cc zz30 (cc zz31 (cc zz32 (cc zz33 (cc zz34 rfl)))))))))))))))))))))))))))))))))))
theorem both_all {l : List Nat} (ht : isTree l = true) : bothB l = true := okS_all (k := 60) (K := 35) (by omega) (by omega) (fun i hi => okL_mem zz_all i (by omega) (by omega)) ht
/-- Where more than nine nodes come together, both tell none. -/
theorem big {F : Nat} (hF : 1000 ≤ F) {l l2 : List Nat} {n n2 v : Nat} (ht : isTree l = true) (hn : lenL l = n) (ht2 : isTree l2 = true) (hn2 : lenL l2 = n2) (hv : 2 * (v + 1) ≤ n) (hbig : 18 < n + n2) (h : H) (hp : pinOk h = true) (h0 : 0 < h.n) :
    ∃ h1 h2, c_spec_CutGraft F 20 (.str l n) (.int 3 (.ofNat v)) (.str l2 n2) h = some (noText, h1) ∧ c_impl_CutGraft F 20 (.str l n) (.int 3 (.ofNat v)) (.str l2 n2) h1 = some (noText, h2) := by
  obtain ⟨b1, b2⟩ := bc_and (both_all ht)
  obtain ⟨b2, b3⟩ := bc_and b2
  obtain ⟨c1, _⟩ := bc_and (both_all ht2)
  subst hn; subst hn2
  obtain ⟨M, kb, k, S, s1, s2, s3, s4⟩ := goodB_some ht b1
  obtain ⟨Mt, kbt, kt, T, t1, t2, _, _⟩ := goodB_some ht2 c1
  have hvk : v < k.nodes + 1 := by omega
  obtain ⟨h1, eS, n1, f1⟩ : ∃ h1, c_spec_CutGraft F 20 (.str l (lenL l)) (.int 3 (.ofNat v)) (.str l2 (lenL l2)) h = some (noText, h1) ∧ h.n ≤ h1.n ∧ ∀ c, c < h.n → h1.get c = h.get c := by
    have hol : 2 * (opensN l 0).length = lenL l := Nat.eq_of_beq_eq_true b2
    obtain ⟨p, hpv⟩ : ∃ p, (opensN l 0)[v]? = some p := ⟨_, List.getElem?_eq_getElem (by omega)⟩
    obtain ⟨e, he, h1, h2⟩ := endB_some (List.all_eq_true.1 b3 p (List.mem_of_getElem? hpv))
    exact spec_big hF ht (lenL_eq l).symm (by omega) ht2 (lenL_eq l2).symm (by omega) hv hpv h2 he h1 hbig h
  have hp1 : pinOk h1 = true := by
    unfold pinOk at hp ⊢
    rw [f1 0 h0]; exact hp
  have h01 : 0 < h1.n := by omega
  obtain ⟨h2, eI⟩ : ∃ h2, c_impl_CutGraft F 20 (.str l (lenL l)) (.int 3 (.ofNat v)) (.str l2 (lenL l2)) h1 = some (noText, h2) := by
    obtain ⟨c, hc⟩ : ∃ c, (0 :: k.preN)[v]? = some c := ⟨_, List.getElem?_eq_getElem (by omega)⟩
    obtain ⟨X, kb1, k1, K, q1, q2⟩ := s4 v c hc
    have Sg : Good l (lenL l) M kb k 19 := ⟨S.tree, S.len, S.lt, S.rd, S.at_, S.no, by have := S.deep; omega, S.few, S.ins⟩
    have Tg : Good l2 (lenL l2) Mt kbt kt 19 := ⟨T.tree, T.len, T.lt, T.rd, T.at_, T.no, by have := T.deep; omega, T.few, T.ins⟩
    exact impl_big (g := 19) hF Sg Tg hc K (by have := T.deep; omega) (by omega) hp1 h01
  exact ⟨h1, h2, eS, eI⟩
end
end Go.AI.T
namespace Go.AI.T
open Go Go.RowKit Go.AI
noncomputable section
abbrev eN (v : Int) : AV := .one (.iface 64) (.one .agg (.cons (.int 3 v) (.leaf .nil)))
abbrev noN (v : Int) : AV := .one .tup (.cons (.leaf .nilp) (.cons (eN v) (.leaf .nil)))
abbrev tup2 (a b : AV) : AV := .one .tup (.cons a (.cons b (.leaf .nil)))
theorem nn_some (F g : Nat) (v : Int) (h : H) : c_impl_isNoNode F g (eN v) h = bc (pinOk h) (some (.bool true, h)) none := rfl
theorem nn_nil (F g : Nat) (h : H) : c_impl_isNoNode F g (.leaf .nili) h = bc (pinOk h) (some (.bool false, h)) none := rfl
theorem in_bad {F g : Nat} (v : Int) {l : List Nat} {n : Nat} (hn : lenL l = n) (hm : n ≤ 1048576) (ht : isTree l = false) (h : H) : c_impl_nodeIn F g (.str l n) (.int 3 v) h = some (noN v, h) := by
  unfold c_impl_nodeIn; rw [read_bad hn hm ht]; kernel_rfl
theorem spec_off {F g : Nat} {x v t : AV} {h h1 : H} (e : c_spec_l1Node F g x v h = some (.bool false, h1)) : c_spec_CutGraft F g x v t h = some (noText, h1) := by
  delta c_spec_CutGraft
  rw [e, bindR_some', aNot_b, bnot_f, guardB_bool]
  rfl
theorem spec_offt {F g : Nat} {x v t : AV} {h h1 h2 : H} (e : c_spec_l1Node F g x v h = some (.bool true, h1)) (e2 : c_spec_TreeIn F g t h1 = some (.bool false, h2)) : c_spec_CutGraft F g x v t h = some (noText, h2) := by
  delta c_spec_CutGraft
  rw [e, bindR_some', aNot_b, bnot_t, guardB_bool, show bc (bc false false (bnot false)) = bc (α := Option R) true from rfl, bc_true, e2, bindR_some', aNot_b, bnot_f]
  rfl
theorem impl_off {F g : Nat} {x t q : AV} {v : Int} {b : Bool} {h h1 h2 : H} (e : c_impl_nodeIn F g x (.int 3 v) h = some (noN v, h1)) (e2 : c_impl_readTree F g t h1 = some (tup2 q (.bool b), h2)) (hp : pinOk h2 = true) : c_impl_CutGraft F g x (.int 3 v) t h = some (noText, h2) := by
  delta c_impl_CutGraft
  rw [e, bindR_some', aExtract_0, aExtract_1, e2, bindR_some', aExtract_0, aExtract_1, nn_some, hp, bc_true, bindR_some', guardB_bool]
  rfl
theorem impl_offt {F g : Nat} {x t p q : AV} {v : Int} {h h1 h2 : H} (e : c_impl_nodeIn F g x (.int 3 v) h = some (tup2 p (.leaf .nili), h1)) (e2 : c_impl_readTree F g t h1 = some (tup2 q (.bool false), h2)) (hp : pinOk h2 = true) : c_impl_CutGraft F g x (.int 3 v) t h = some (noText, h2) := by
  delta c_impl_CutGraft
  rw [e, bindR_some', aExtract_0, aExtract_1, e2, bindR_some', aExtract_0, aExtract_1, nn_nil, hp, bc_true, bindR_some', guardB_bool, show bc (bc false false (bnot false)) = bc (α := Option R) true from rfl, bc_true, aNot_b, bnot_f]
  rfl
/-- A number that is no node. -/
theorem node_false {F g : Nat} {l : List Nat} {n : Nat} {v : Int} (ht : isTree l = true) (hn : lenL l = n) (hv : ∀ m : Nat, v = .ofNat m → n < 2 * (m + 1)) (hn1 : 2 ≤ n) (hn2 : n ≤ 500) (h : H) : c_spec_l1Node F g (.str l n) (.int 3 v) h = some (.bool false, h) := by
  have e0 : c_spec_l1Node F g (.str l n) (.int 3 v) h = bindR (c_spec_TreeIn F g (.str l n) h) fun x1 h => guardB true x1 (aLenK 0 (.str l n) h fun x5 h => aQuo x5 (AV.int 3 (Int.ofNat 2)) h fun x6 h => aArith isub x6 (AV.int 3 (Int.ofNat 1)) h fun x7 h => bindR (c_spec_l6In F g (.int 3 v) (AV.int 3 (Int.ofNat 0)) x7 h) fun x8 h => (c_spec_l1Node_j1 F g) [x1, x8] h) ((c_spec_l1Node_j1 F g) [x1, (AV.one .tup (AV.leaf .nil))] h) := rfl
  obtain ⟨k, hk⟩ : ∃ k, n / 2 = k + 1 := ⟨n / 2 - 1, by omega⟩
  have e1 : ∀ kk : AV → H → Option R, aQuo (.int 3 (.ofNat n)) (AV.int 3 (Int.ofNat 2)) h kk = kk (.int 3 (.ofNat (k + 1))) h := fun kk => by
    show bc (kEq 3 3) (bc (ieq (.ofNat 2) 0) none (kk (.int 3 (fwrap 3 (.ofNat (Nat.div n 2)))) h)) none = _
    rw [kEq_self, bc_true, show Nat.div n 2 = k + 1 from hk, fwrap_nat _ (by omega)]; rfl
  have e2 : c_spec_l6In F g (.int 3 v) (AV.int 3 (Int.ofNat 0)) (.int 3 (.ofNat k)) h = some (.bool false, h) := by
    cases v with
    | ofNat m =>
      have e3 : c_spec_l6In F g (.int 3 (.ofNat m)) (AV.int 3 (Int.ofNat 0)) (.int 3 (.ofNat k)) h = bc (kEq 3 3) (some (.bool (Nat.ble m k), h)) none := rfl
      have := hv m rfl
      rw [e3, kEq_self, bc_true, ble_false (by omega)]
    | negSucc m => rfl
  rw [e0, spec_good hn ht, bindR_some', guardB_bool, show bc (bc true true (bnot true)) = bc (α := Option R) true from rfl, bc_true, aLenK_str, e1, aArith_int, kEq_self, bc_true, fwrap_sub k (by omega), e2, bindR_some']
  rfl
theorem nodeIn_off {F g : Nat} (hF : 1000 ≤ F) {l : List Nat} {n kb : Nat} {v : Int} {M : List MB} {kids : Fx} (S : Good l n M kb kids g) (hv : ∀ m : Nat, v = .ofNat m → 1 + kids.nodes ≤ m) (h : H) :
    ∃ h2, c_impl_nodeIn F (g + 1) (.str l n) (.int 3 v) h = some (noN v, h2) ∧ h.n ≤ h2.n ∧ ∀ c, c < h.n → h2.get c = h.get c := by
  obtain ⟨h1, e1, hL, f1⟩ := read_good (F := 100) (g := g + 1) S.len S.lt (by omega) S.rd h
  have hX := hL.toX (b0 := 0) (h' := h1) fun _ _ => rfl
  have hA := atX_At (k0 := 0) (f0 := .nil) hX (.cons 0 kb kids .nil) (.inl (by simp [Fx.holes, S.no])) S.at_
  have hs : (kids.fill (fun i => h.n + i) 0 0 Fo.nil).size = kids.nodes := by rw [Fx.fill_size, S.no]; simp
  have hk := S.few
  have hd1 : (kids.fill (fun i => h.n + i) 0 0 Fo.nil).deep ≤ g := by
    have a2 := Fx.fill_deep (ad := fun i => h.n + i) (b0 := 0) (k0 := 0) (f0 := .nil) kids
    have := S.deep
    simp only [Fo.deep] at a2
    omega
  obtain ⟨x, h2, e2, ⟨rb, r1, r2, r3, ⟨r4, r5⟩, r6⟩, n2, f2⟩ := nodes_of (F := F) (g := g) hF hA (by rw [hL.1]; exact Nat.le_refl _) hd1 (by omega)
  rw [hs] at r4 r6
  have er : c_impl_readTree F (g + 1) (.str l n) h = some (yesTree h.n, h1) := by
    show bc (isTree l) (Go.AI.c_impl_readTree 100 (g + 1) (.str l n) h) _ = _
    rw [S.tree, bc_true]; exact e1
  have hn1 : h1.n = h.n + M.length := hL.1
  refine ⟨h2, ?_, by omega, fun c hc => (f2 c (by omega)).trans (f1 c hc)⟩
  have e0 : c_impl_nodeIn F (g + 1) (.str l n) (.int 3 v) h = bindR (c_impl_readTree F (g + 1) (.str l n) h) fun x1 h => aExtract x1 0 h fun x2 h => aExtract x1 1 h fun x3 h => aNot x3 h fun x4 h => withBool x4 fun t5 => bc t5 (aBuild [(AV.int 3 (Int.ofNat 0))] [(0, 1, .int 3 v)] h fun x6 h => aMkIface 64 x6 h fun x7 h => some (AV.one .tup (AV.cons (AV.leaf .nilp) (AV.cons x7 (AV.leaf .nil))), h)) (bindR (c_impl_node_nodes F (g + 1) x2 h) fun x8 h => aCmpI ilt (.int 3 v) (AV.int 3 (Int.ofNat 0)) h fun x9 h => guardB false x9 (aLenK 1 x8 h fun x20 h => aCmpI (fun a b => ile b a) (.int 3 v) x20 h fun x21 h => (c_impl_nodeIn_j1 F (g + 1)) [.int 3 v, x8, x9, x21] h) ((c_impl_nodeIn_j1 F (g + 1)) [.int 3 v, x8, x9, (AV.one .tup (AV.leaf .nil))] h)) := rfl
  have e2' : c_impl_node_nodes F (g + 1) (.ptr h.n 0) h1 = some (x, h2) := e2
  rw [e0, er, bindR_some', show yesTree h.n = (.one .tup (.cons (.ptr h.n 0) (.cons (.bool true) (.leaf .nil)))) from rfl, aExtract_0, aExtract_1, aNot_b, bnot_t, withBool_bool, bc_false, e2', bindR_some', aCmpI_int, kEq_self, bc_true]
  cases v with
  | negSucc m => rfl
  | ofNat m =>
    have hm := hv m rfl
    have e5 : ∀ k : AV → H → Option R, aLenK 1 x h2 k = k (.int 3 (.ofNat (1 + kids.nodes))) h2 := fun k => by
      rcases r6 with rfl | ⟨rfl, q⟩
      · rfl
      · rw [q]; rfl
    have e6 : ∀ k : AV → H → Option R, aCmpI (fun a b => ile b a) (.int 3 (.ofNat m)) (.int 3 (.ofNat (1 + kids.nodes))) h2 k = k (.bool true) h2 := fun k => by
      rw [aCmpI_int, kEq_self, bc_true]
      show k (.bool (Nat.ble (1 + kids.nodes) m)) h2 = _
      rw [ble_true hm]
    rw [ilt_nat, ble_false (show 0 < Nat.succ m by omega)]
    show aLenK 1 x h2 _ = _
    rw [e5, e6]
    rfl
/-- Any second text is read, over any memory. -/
theorem read_any {F : Nat} (hF : 1000 ≤ F) {l : List Nat} {n : Nat} (hn : lenL l = n) (hm : n ≤ 1048576) (h : H) (h0 : 0 < h.n) : ∃ q b h2, c_impl_readTree F 20 (.str l n) h = some (tup2 q (.bool b), h2) ∧ h2.get 0 = h.get 0 := by
  cases ht : isTree l with
  | false => exact ⟨_, _, h, read_bad hn hm ht h, rfl⟩
  | true =>
    subst hn
    obtain ⟨c1, _⟩ := bc_and (both_all ht)
    obtain ⟨M, kb, k, S, _⟩ := goodB_some ht c1
    obtain ⟨h1, e1, hL, f1⟩ := read_good (F := 100) (g := 20) S.len S.lt (by omega) S.rd h
    refine ⟨.ptr h.n 0, true, h1, ?_, f1 0 h0⟩
    show bc (isTree l) (Go.AI.c_impl_readTree 100 20 (.str l (lenL l)) h) _ = _
    rw [ht, bc_true]; exact e1
theorem pin_of {h h1 : H} (e : h1.get 0 = h.get 0) (hp : pinOk h = true) : pinOk h1 = true := by
  unfold pinOk at hp ⊢
  rw [e]; exact hp
/-- Where the first text is no tree or the number no node. -/
theorem both_off {F : Nat} (hF : 1000 ≤ F) {l l2 : List Nat} {n n2 : Nat} {v : Int} (hn : lenL l = n) (hm : n ≤ 1048576) (hn2 : lenL l2 = n2) (hm2 : n2 ≤ 1048576) (hb : isTree l = true → ∀ m : Nat, v = .ofNat m → n < 2 * (m + 1)) (h : H) (hp : pinOk h = true) (h0 : 0 < h.n) :
    ∃ h1 h2, c_spec_CutGraft F 20 (.str l n) (.int 3 v) (.str l2 n2) h = some (noText, h1) ∧ c_impl_CutGraft F 20 (.str l n) (.int 3 v) (.str l2 n2) h1 = some (noText, h2) := by
  cases ht : isTree l with
  | false =>
    obtain ⟨q, b, h2, e, f⟩ := read_any hF hn2 hm2 h h0
    refine ⟨h, h2, spec_off ?_, impl_off (in_bad v hn hm ht h) e (pin_of f hp)⟩
    delta c_spec_l1Node
    rw [spec_bad hn ht, bindR_some', guardB_bool]
    rfl
  | true =>
    have hb := hb ht
    subst hn
    obtain ⟨c1, _⟩ := bc_and (both_all ht)
    obtain ⟨M, kb, k, S, s1, s2, s3, s4⟩ := goodB_some ht c1
    have Sg : Good l (lenL l) M kb k 19 := ⟨S.tree, S.len, S.lt, S.rd, S.at_, S.no, by have := S.deep; omega, S.few, S.ins⟩
    obtain ⟨h1, e1, m1, f1⟩ := nodeIn_off (g := 19) hF Sg (v := v) (fun m hm => by have := hb m hm; omega) h
    obtain ⟨q, b, h2, e, f⟩ := read_any hF hn2 hm2 h1 (by omega)
    exact ⟨h, h2, spec_off (node_false ht rfl hb (by omega) (by omega) h), impl_off e1 e (pin_of (f.trans (f1 0 h0)) hp)⟩
/-- Where the second text is no tree. -/
theorem both_offt {F : Nat} (hF : 1000 ≤ F) {l l2 : List Nat} {n n2 v : Nat} (ht : isTree l = true) (hn : lenL l = n) (hn2 : lenL l2 = n2) (hm2 : n2 ≤ 1048576) (ht2 : isTree l2 = false) (hv : 2 * (v + 1) ≤ n) (h : H) (hp : pinOk h = true) (h0 : 0 < h.n) :
    ∃ h1 h2, c_spec_CutGraft F 20 (.str l n) (.int 3 (.ofNat v)) (.str l2 n2) h = some (noText, h1) ∧ c_impl_CutGraft F 20 (.str l n) (.int 3 (.ofNat v)) (.str l2 n2) h1 = some (noText, h2) := by
  subst hn
  obtain ⟨c1, _⟩ := bc_and (both_all ht)
  obtain ⟨M, kb, k, S, s1, s2, s3, s4⟩ := goodB_some ht c1
  obtain ⟨c, hc⟩ : ∃ c, (0 :: k.preN)[v]? = some c := ⟨_, List.getElem?_eq_getElem (by omega)⟩
  obtain ⟨h1, e1, L1, m1, f1⟩ := nodeIn_good (g := 19) hF ht S.len S.lt S.rd S.at_ S.no (by have := S.deep; omega) S.few hc h
  exact ⟨h, h1, spec_offt (node_true ht rfl hv (by omega) h) (spec_bad hn2 ht2 h), impl_offt e1 (read_bad hn2 hm2 ht2 h1) (pin_of (f1 0 h0) hp)⟩
theorem law_none {F g : Nat} {l l2 : List Nat} {n n2 : Nat} {v : Int} {h h1 h2 : H} (hm : n ≤ 1048576) (hm2 : n2 ≤ 1048576) (e1 : c_spec_CutGraft F g (.str l n) (.int 3 v) (.str l2 n2) h = some (noText, h1)) (e2 : c_impl_CutGraft F g (.str l n) (.int 3 v) (.str l2 n2) h1 = some (noText, h2)) : tells (c_laws_FnExactCutGraft F g (.str l n) (.int 3 v) (.str l2 n2) h) = true := by
  have b1 : Nat.ble (Nat.succ 1048576) n = false := ble_false (by omega)
  have b2 : Nat.ble (Nat.succ 1048576) n2 = false := ble_false (by omega)
  delta c_laws_FnExactCutGraft
  rw [aLenK_str, aCmpI_int, kEq_self, bc_true, ilt_nat, b1, withBool_bool, bc_false, aLenK_str, aCmpI_int, kEq_self, bc_true, ilt_nat, b2, withBool_bool, bc_false, e1, bindR_some', show (noText : AV) = (AV.one .tup (.cons (.str [] 0) (.cons (.bool false) (.leaf .nil)))) from rfl, aExtract_0, aExtract_1, e2, bindR_some', show (noText : AV) = (AV.one .tup (.cons (.str [] 0) (.cons (.bool false) (.leaf .nil)))) from rfl, aExtract_0, aExtract_1]
  rfl
end
end Go.AI.T
namespace Go.AI.T
open Go Go.RowKit Go.AI
noncomputable section
def oneV (l t : List Nat) (v : Nat) : Bool := tells (c_laws_FnExactCutGraft 2097152 20 (.str l (lenL l)) (.int 3 (.ofNat v)) (.str t (lenL t)) (Hp 65643 43))
def allV (f : Nat → Bool) (n : Nat) : Bool := @Nat.rec (fun _ => Bool) true (fun v r => bc (f v) r false) n
def smallT (l t : List Nat) : Bool := allV (oneV l t) (Nat.div (lenL l) 2)
def smallB (l : List Nat) : Bool := bc (Nat.ble (lenL l) 4) true (bc (Nat.ble (lenL l) 16) (allR (smallT l) 17 1 (Nat.succ (Nat.div (lenL l) 2)) (fun r => 40 :: r)) true)
def flipB (t : List Nat) : Bool := bc (Nat.ble (lenL t) 16) (allR (fun l => bc (Nat.ble (Nat.add (lenL l) (lenL t)) 18) (smallT l t) true) 17 1 8 (fun r => 40 :: r)) true
theorem allV_of {f : Nat → Bool} : ∀ {n : Nat}, allV f n = true → ∀ v, v < n → f v = true
  | 0, _, v, h => by omega
  | n + 1, e, v, h => by
    have e : bc (f n) (allV f n) false = true := e
    obtain ⟨e1, e2⟩ := bc_and e
    by_cases hv : v = n
    · subst hv; exact e1
    · exact allV_of e2 v (by omega)
theorem scan_len : ∀ (l : List Nat) (d m : Nat), scan l d m = true → d ≤ l.length
  | [], d, m, h => by have := Nat.eq_of_beq_eq_true h; omega
  | c :: r, 0, m, h => by omega
  | c :: r, d + 1, m, h => by
    simp only [scan] at h
    simp only [List.length_cons]
    cases h41 : Nat.beq c 41 with
    | true => rw [h41, bc_true] at h; have := scan_len r d m h; omega
    | false =>
      rw [h41, bc_false] at h
      cases h40 : Nat.beq c 40 with
      | false => rw [h40] at h; cases h
      | true =>
        rw [h40, bc_true] at h
        cases h9 : Nat.ble (m + 1) 9 with
        | false => rw [h9] at h; cases h
        | true => rw [h9, bc_true] at h; have := scan_len r (d + 2) (m + 1) h; omega
theorem scan_up : ∀ (l : List Nat) (d m a : Nat), scan l d m = true → 2 * (m + a) + l.length ≤ 18 + d → scan l d (m + a) = true
  | [], d, m, a, h, _ => h
  | c :: r, 0, m, a, h, _ => by cases h
  | c :: r, d + 1, m, a, h, hl => by
    simp only [scan] at h ⊢
    simp only [List.length_cons] at hl
    cases h41 : Nat.beq c 41 with
    | true => rw [h41, bc_true] at h; rw [bc_true]; exact scan_up r d m a h (by omega)
    | false =>
      rw [h41, bc_false] at h
      rw [bc_false]
      cases h40 : Nat.beq c 40 with
      | false => rw [h40] at h; cases h
      | true =>
        rw [h40, bc_true] at h
        rw [bc_true]
        cases h9 : Nat.ble (m + 1) 9 with
        | false => rw [h9] at h; cases h
        | true =>
          rw [h9, bc_true] at h
          have hd := scan_len r (d + 2) (m + 1) h
          rw [ble_true (show m + a + 1 ≤ 9 by omega), bc_true, show m + a + 1 = m + 1 + a by omega]
          exact scan_up r (d + 2) (m + 1) a h (by omega)
theorem small_mem {l2 : List Nat} (ht2 : isTree l2 = true) {a : Nat} (ha : 2 * a + lenL l2 ≤ 18) : ∃ r, l2 = 40 :: r ∧ r ∈ rests 17 1 (a + 1) := by
  rw [lenL_eq] at ha
  cases l2 with
  | nil => cases ht2
  | cons c r =>
    simp only [isTree] at ht2
    simp only [List.length_cons] at ha
    cases hc : Nat.beq c 40 with
    | false => rw [hc] at ht2; cases ht2
    | true =>
      rw [hc, bc_true] at ht2
      have := Nat.eq_of_beq_eq_true hc; subst this
      have h1 := scan_len r 1 1 ht2
      have h2 := scan_up r 1 1 a ht2 (by omega)
      rw [Nat.add_comm] at h2
      exact ⟨r, rfl, scan_mem 17 r 1 (a + 1) (by omega) (by omega) h2⟩
theorem small_of {l l2 : List Nat} {v : Nat} (h : smallB l = true) (hf : flipB l2 = true) (ht : isTree l = true) (ht2 : isTree l2 = true) (he : lenL l = 2 * (lenL l / 2)) (hl : lenL l + lenL l2 ≤ 18) (hl1 : 2 ≤ lenL l) (hl2 : 2 ≤ lenL l2) (hv : 2 * (v + 1) ≤ lenL l) : oneV l l2 v = true := by
  by_cases h4 : lenL l ≤ 4
  · unfold flipB at hf
    rw [ble_true (show lenL l2 ≤ 16 by omega), bc_true] at hf
    obtain ⟨r, rfl, hr⟩ := small_mem ht (a := 7) (by omega)
    have h3 := allR_mem _ 17 1 8 (fun r => 40 :: r) hf r hr
    have h3 : bc (Nat.ble (lenL (40 :: r) + lenL l2) 18) (smallT (40 :: r) l2) true = true := h3
    rw [ble_true hl, bc_true] at h3
    exact allV_of (n := lenL (40 :: r) / 2) h3 v (by omega)
  · unfold smallB at h
    rw [ble_false (show 4 < lenL l by omega), bc_false, ble_true (show lenL l ≤ 16 by omega), bc_true] at h
    obtain ⟨r, rfl, hr⟩ := small_mem ht2 (a := lenL l / 2) (by omega)
    have h3 := allR_mem (smallT l) 17 1 (lenL l / 2 + 1) (fun r => 40 :: r) h r hr
    exact allV_of (n := lenL l / 2) h3 v (by omega)
end
end Go.AI.T
