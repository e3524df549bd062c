/- Texts that are no trees; one trial. -/
import Derived.Test.YtjnmogmddhichaaDoorFnGraftFn
import Derived.KernelRfl
namespace Go.AI.T
open Go Go.RowKit Go.AI
set_option linter.unusedVariables false
set_option linter.unusedSimpArgs false
set_option maxRecDepth 100000
noncomputable section
def T5 : List (List Nat) := [[40, 41], [40, 40, 41, 41], [40, 40, 41, 40, 41, 41], [40, 40, 40, 41, 41, 41], [40, 40, 41, 40, 41, 40, 41, 41], [40, 40, 41, 40, 40, 41, 41, 41], [40, 40, 40, 41, 41, 40, 41, 41], [40, 40, 40, 41, 40, 41, 41, 41], [40, 40, 40, 40, 41, 41, 41, 41], [40, 40, 41, 40, 41, 40, 41, 40, 41, 41], [40, 40, 41, 40, 41, 40, 40, 41, 41, 41], [40, 40, 41, 40, 40, 41, 41, 40, 41, 41], [40, 40, 41, 40, 40, 41, 40, 41, 41, 41], [40, 40, 41, 40, 40, 40, 41, 41, 41, 41], [40, 40, 40, 41, 41, 40, 41, 40, 41, 41], [40, 40, 40, 41, 41, 40, 40, 41, 41, 41], [40, 40, 40, 41, 40, 41, 41, 40, 41, 41], [40, 40, 40, 40, 41, 41, 41, 40, 41, 41], [40, 40, 40, 41, 40, 41, 40, 41, 41, 41], [40, 40, 40, 41, 40, 40, 41, 41, 41, 41], [40, 40, 40, 40, 41, 41, 40, 41, 41, 41], [40, 40, 40, 40, 41, 40, 41, 41, 41, 41], [40, 40, 40, 40, 40, 41, 41, 41, 41, 41]]
def T4 : List (List Nat) := [[40, 41], [40, 40, 41, 41], [40, 40, 41, 40, 41, 41], [40, 40, 40, 41, 41, 41], [40, 40, 41, 40, 41, 40, 41, 41], [40, 40, 41, 40, 40, 41, 41, 41], [40, 40, 40, 41, 41, 40, 41, 41], [40, 40, 40, 41, 40, 41, 41, 41], [40, 40, 40, 40, 41, 41, 41, 41]]
def memT (l : List Nat) (L : List (List Nat)) : Bool := @List.rec (List Nat) (fun _ => Bool) false (fun x _ r => bc (eqL l x) true r) L
theorem eqL_of : ∀ {x y : List Nat}, eqL x y = true → x = y
  | [], [], _ => rfl
  | [], _ :: _, h => by cases h
  | _ :: _, [], h => by cases h
  | a :: x, b :: y, h => by
    rw [eqL_cons] at h
    cases h1 : Nat.beq a b with
    | false => rw [h1] at h; cases h
    | true => rw [h1, bc_true] at h; rw [Nat.eq_of_beq_eq_true h1, eqL_of h]
theorem memT_mem {l : List Nat} : ∀ {L : List (List Nat)}, memT l L = true → l ∈ L
  | [], h => by cases h
  | x :: t, h => by
    have h : bc (eqL l x) true (memT l t) = true := h
    cases h1 : eqL l x with
    | true => rw [eqL_of h1]; exact List.mem_cons_self ..
    | false => rw [h1, bc_false] at h; exact List.mem_cons_of_mem _ (memT_mem h)
def inT (l : List Nat) : Bool := bc (bc (Nat.ble (lenL l) 10) (memT l T5) true) (bc (Nat.ble (lenL l) 8) (memT l T4) true) false
theorem inT_all : allR inT 17 1 1 (fun l => 40 :: l) = true := by kernel_rfl
theorem in_of {l : List Nat} (ht : isTree l = true) : (l.length ≤ 10 → l ∈ T5) ∧ (l.length ≤ 8 → l ∈ T4) := by
  obtain ⟨r, hr, rfl⟩ := List.mem_map.1 (isTree_mem ht)
  have h := allR_mem inT 17 1 1 (fun l => 40 :: l) inT_all r hr
  unfold inT at h
  rw [lenL_eq] at h
  obtain ⟨h1, h2⟩ := bif_some (x := some ()) (c := bc (Nat.ble (40 :: r).length 10) (memT (40 :: r) T5) true) (r := ()) (by
    cases hc : bc (Nat.ble (40 :: r).length 10) (memT (40 :: r) T5) true with
    | true => rfl
    | false => rw [hc, bc_false] at h; cases h)
  rw [h1, bc_true] at h
  refine ⟨fun hl => ?_, fun hl => ?_⟩
  · have hl : (40 :: r).length ≤ 10 := hl
    rw [ble_true hl, bc_true] at h1; exact memT_mem h1
  · have hl : (40 :: r).length ≤ 8 := hl
    rw [ble_true hl, bc_true] at h; exact memT_mem h
abbrev ZB : AV := (.one .tup (.cons (.str [] 0) (.cons (.bool false) (.leaf .nil))))
abbrev TT (l : List Nat) (n : Nat) (z : Int) (t : List Nat) (m : Nat) : AV := (.one .tup (.cons (.str l n) (.cons (.int 3 z) (.cons (.str t m) (.leaf .nil)))))
theorem rest_bad {F g : Nat} {l : List Nat} {n : Nat} {z : Int} {t : List Nat} {m : Nat} {h h1 h2 : H} (e1 : c_impl_CutGraft F g (.str l n) (.int 3 z) (.str t m) h = some (ZB, h1)) (e2 : c_spec_CutGraft F g (.str l n) (.int 3 z) (.str t m) h1 = some (ZB, h2)) : tells (c_laws_FnGraft_r9 F g (TT l n z t m) h) = true := by
  delta c_laws_FnGraft_r9 TT
  rw [show ∀ (h : H) (k : AV → H → Option R), aExtract (.one .tup (.cons (.str l n) (.cons (.int 3 z) (.cons (.str t m) (.leaf .nil))))) 0 h k = k (.str l n) h from fun _ _ => rfl, show ∀ (h : H) (k : AV → H → Option R), aExtract (.one .tup (.cons (.str l n) (.cons (.int 3 z) (.cons (.str t m) (.leaf .nil))))) 1 h k = k (.int 3 z) h from fun _ _ => rfl, show ∀ (h : H) (k : AV → H → Option R), aExtract (.one .tup (.cons (.str l n) (.cons (.int 3 z) (.cons (.str t m) (.leaf .nil))))) 2 h k = k (.str t m) h from fun _ _ => rfl, e1, bindR_some', aExtract_0, aExtract_1, e2, bindR_some', aExtract_0, aExtract_1]
  kernel_rfl
theorem nn_some (F g : Nat) (v : Int) (h : H) : c_impl_isNoNode F g (.one (.iface 74) (.one .agg (.cons (.int 3 v) (.leaf .nil)))) h = bc (pinOk h) (some (.bool true, h)) none := rfl
theorem nn_nil (F g : Nat) (h : H) : c_impl_isNoNode F g (.leaf .nili) h = bc (pinOk h) (some (.bool false, h)) none := rfl
def isE : AV → Bool
  | .leaf .nili => true
  | .one (.iface t) (.one .agg (.cons (.int 3 _) (.leaf .nil))) => Nat.beq t 74
  | _ => false
def okN (B : Blk) (l : List Nat) (z : Int) : Bool := match c_impl_nodeIn 2097152 20 (.str l (lenL l)) (.int 3 z) (hCode B) with
  | some (.one .tup (.cons _ (.cons e (.leaf .nil))), h1) => bc (pinOk h1) (isE e) false
  | _ => false
def okM (h : H) (l : List Nat) (z : Int) : Bool := match c_spec_l1Node 2097152 20 (.str l (lenL l)) (.int 3 z) h with
  | some (.bool _, _) => true
  | _ => false
def okR (B : Blk) (t : List Nat) : Bool := match c_impl_readTree 2097152 20 (.str t (lenL t)) (hCode B) with
  | some (.one .tup (.cons _ (.cons (.bool _) (.leaf .nil))), h1) => pinOk h1
  | _ => false
theorem impl_j1 (F g : Nat) (p q : AV) (h : H) (b : Bool) : guardB false (.bool b) (aNot (.bool false) h fun x27 h => (c_impl_CutGraft_j1 F g) [p, q, .bool b, x27] h) ((c_impl_CutGraft_j1 F g) [p, q, .bool b, (AV.one .tup (AV.leaf .nil))] h) = some (ZB, h) := by cases b <;> kernel_rfl
theorem impl_j2 (F g : Nat) (p q c : AV) (h : H) : guardB false (.bool true) (aNot c h fun x27 h => (c_impl_CutGraft_j1 F g) [p, q, .bool true, x27] h) ((c_impl_CutGraft_j1 F g) [p, q, .bool true, (AV.one .tup (AV.leaf .nil))] h) = some (ZB, h) := by kernel_rfl
/-- The second text is no tree. -/
theorem impl_t {B : Blk} {l : List Nat} {z : Int} {t : List Nat} {m : Nat} (hN : okN B l z = true) (hm : lenL t = m) (hm1 : m ≤ 1048576) (ht : isTree t = false) : ∃ h1, c_impl_CutGraft 2097152 20 (.str l (lenL l)) (.int 3 z) (.str t m) (hCode B) = some (ZB, h1) := by
  unfold okN at hN
  split at hN
  · rename_i p e h1 hn
    cases hp : pinOk h1 with
    | false => rw [hp] at hN; cases hN
    | true =>
      rw [hp, bc_true] at hN
      refine ⟨h1, ?_⟩
      delta c_impl_CutGraft
      rw [hn, bindR_some', aExtract_0, aExtract_1, read_bad hm hm1 ht, bindR_some', aExtract_0, aExtract_1]
      unfold isE at hN
      split at hN
      · rw [nn_nil, hp, bc_true, bindR_some', impl_j1]
      · rename_i k v
        have := Nat.eq_of_beq_eq_true hN; subst this
        rw [nn_some, hp, bc_true, bindR_some', impl_j1]
      · cases hN
  · cases hN
theorem spec_t {h : H} {l : List Nat} {z : Int} {t : List Nat} {m : Nat} (hM : okM h l z = true) (hm : lenL t = m) (ht : isTree t = false) : ∃ h1, c_spec_CutGraft 2097152 20 (.str l (lenL l)) (.int 3 z) (.str t m) h = some (ZB, h1) := by
  unfold okM at hM
  split at hM
  · rename_i b h1 hn
    refine ⟨h1, ?_⟩
    delta c_spec_CutGraft
    rw [hn, bindR_some', aNot_b]
    cases b with
    | true =>
      rw [bnot_t]
      rw [show ∀ y n : Option R, guardB false (.bool false) y n = y from fun _ _ => rfl, spec_bad hm ht, bindR_some', aNot_b, bnot_f]
      kernel_rfl
    | false => kernel_rfl
  · cases hM
/-- The first text is no tree. -/
theorem bad_in (F g : Nat) {l : List Nat} {n : Nat} (v : Int) (hn : lenL l = n) (hm : n ≤ 1048576) (ht : isTree l = false) (h : H) : c_impl_nodeIn F g (.str l n) (.int 3 v) h = some (AV.one .tup (.cons (.leaf .nilp) (.cons (.one (.iface 74) (.one .agg (.cons (.int 3 v) (.leaf .nil)))) (.leaf .nil))), h) := by
  unfold c_impl_nodeIn; rw [read_bad hn hm ht]; kernel_rfl
theorem bad_node (F g : Nat) {l : List Nat} {n : Nat} (v : Int) (hn : lenL l = n) (ht : isTree l = false) (h : H) : c_spec_l1Node F g (.str l n) (.int 3 v) h = some (.bool false, h) := by
  unfold c_spec_l1Node; rw [spec_bad hn ht]; kernel_rfl
theorem spec_s (F g : Nat) {l : List Nat} {n : Nat} (v : Int) (hn : lenL l = n) (ht : isTree l = false) (t : AV) (h : H) : c_spec_CutGraft F g (.str l n) (.int 3 v) t h = some (ZB, h) := by
  delta c_spec_CutGraft
  rw [bad_node F g v hn ht, bindR_some', aNot_b, bnot_f]
  kernel_rfl
theorem impl_s {B : Blk} {l : List Nat} {n : Nat} {z : Int} {t : List Nat} {m : Nat} (hn : lenL l = n) (hn1 : n ≤ 1048576) (hs : isTree l = false) (hm : lenL t = m) (hm1 : m ≤ 1048576) (hR : isTree t = true → okR B t = true) : ∃ h1, c_impl_CutGraft 2097152 20 (.str l n) (.int 3 z) (.str t m) (hCode B) = some (ZB, h1) := by
  delta c_impl_CutGraft
  rw [bad_in 2097152 20 z hn hn1 hs, bindR_some', aExtract_0, aExtract_1]
  cases ht : isTree t with
  | false =>
    rw [read_bad hm hm1 ht, bindR_some', aExtract_0, aExtract_1, nn_some, show pinOk (hCode B) = true from rfl, bc_true, bindR_some', impl_j2]
    exact ⟨_, rfl⟩
  | true =>
    have hR := hR ht
    unfold okR at hR
    split at hR
    · rename_i p b h1 hr
      rw [hm] at hr
      rw [hr, bindR_some', aExtract_0, aExtract_1, nn_some, hR, bc_true, bindR_some', impl_j2]
      exact ⟨_, rfl⟩
    · cases hR
def zs (k : Nat) : List Int := @Nat.rec (fun _ => List Int) [.negSucc 0, .ofNat 0] (fun k r => .ofNat (Nat.succ k) :: r) k
theorem zs_mem {z : Int} : ∀ {k : Nat}, (z = .negSucc 0 ∨ ∃ j, z = .ofNat j ∧ j ≤ k) → z ∈ zs k
  | 0, h => by
    rcases h with rfl | ⟨j, rfl, hj⟩
    · exact List.mem_cons_self ..
    · obtain rfl : j = 0 := by omega
      exact List.mem_cons_of_mem _ (List.mem_cons_self ..)
  | k + 1, h => by
    show z ∈ Int.ofNat (k + 1) :: zs k
    rcases h with rfl | ⟨j, rfl, hj⟩
    · exact List.mem_cons_of_mem _ (zs_mem (.inl rfl))
    · by_cases e : j = k + 1
      · subst e; exact List.mem_cons_self ..
      · exact List.mem_cons_of_mem _ (zs_mem (.inr ⟨j, rfl, by omega⟩))
def allZ {α : Type} (t : α → Bool) (l : List α) : Bool := @List.rec α (fun _ => Bool) true (fun x _ r => bc (t x) r false) l
theorem allZ_mem {α : Type} {t : α → Bool} : ∀ {l : List α}, allZ t l = true → ∀ x ∈ l, t x = true
  | [], _, x, hx => by cases hx
  | y :: l, h, x, hx => by
    have h : bc (t y) (allZ t l) false = true := h
    cases h1 : t y with
    | false => rw [h1] at h; cases h
    | true =>
      rw [h1, bc_true] at h
      rcases List.mem_cons.1 hx with rfl | hx
      · exact h1
      · exact allZ_mem h x hx
def ok3 (B : Blk) (s : List Nat) (z : Int) (t : List Nat) : Bool := tells (c_laws_FnGraft_r9 2097152 20 (TT s (lenL s) z t (lenL t)) (hCode B))
def okS (B : Blk) (s : List Nat) : Bool := allZ (fun z => bc (okN B s z) (allZ (fun t => ok3 B s z t) T4) false) (zs 5)
theorem M_all (h : H) : allZ (fun s => allZ (okM h s) (zs 5)) T5 = true := by kernel_rfl
theorem R_all (B : Blk) : allZ (okR B) T4 = true := by kernel_rfl
end
end Go.AI.T
