/- The draw: at most three texts. -/
import Derived.Test.YtfafaadfnhhfhaaToFn
namespace Go.AI.T
open Go Go.RowKit Go.AI
set_option linter.unusedVariables false
set_option linter.unusedSimpArgs false
set_option maxRecDepth 100000
noncomputable section
/-- A text as a value. -/
def sv (l : List Nat) : AV := .str l l.length
def Good (k : List Nat) : Prop := k.length ≤ 300 ∧ (isTree k = true → k.length ≤ 6)
theorem pl_sv : ∀ ks : List (List Nat), allPl (ks.map sv) = true
  | [] => rfl
  | k :: ks => pl_sv ks
theorem app16 {h : H} {a q k : Nat} {la : List AV} {x : AV} {kk : AV → H → Option R} (ha : h.get a = .cells 0 la) (hq : h.get q = .cells 0 [x]) (hx : x.one1 = true) (hk : la.length = k) (hb : k ≤ 1000000) :
    ∃ h', aAppend 1 16 (xOf a k) (.leaf (.sl q 0 1 1)) h kk = kk (xOf h.n (k + 1)) h' ∧ h'.get h.n = .cells 0 (la ++ [x]) ∧ h'.n = h.n + 1 ∧ (∀ c, c < h.n → c ≠ a → h'.get c = h.get c) ∧ (1 ≤ a → 1 ≤ h.lo → 1 ≤ h'.lo) := by
  have wc : ∀ {b : Nat} {l : List AV} (f : Nat → List AV → Option R), h.get b = .cells 0 l → withCells h b f = f 0 l := fun f e => by unfold withCells; rw [e]
  have tk : ∀ f : List AV → Option R, f (takeL (Nat.mul k 1) (dropL 0 la)) = f la := fun f => by
    rw [takeL_eq, dropL_eq, show Nat.mul k 1 = k from Nat.mul_one k, List.drop_zero, List.take_of_length_le (by omega)]
  have bt : ∀ {c : Bool} {x y : Option R}, c = true → bc c x y = x := fun e => by rw [e]; rfl
  cases k with
  | zero =>
    obtain rfl : la = [] := List.eq_nil_of_length_eq_zero hk
    refine ⟨h.push (.cells 0 [x]), ?_, get_push_eq rfl, rfl, fun c hc _ => get_push_lt hc, fun _ h => h⟩
    show withCells h q (fun _ l => bc (Nat.beq (lenL (takeL (Nat.mul 1 1) (dropL 0 l))) (Nat.mul 1 1)) _ none) = _
    rw [wc _ hq]
    show withCells h a _ = _
    rw [wc _ ha]
    rfl
  | succ k =>
    refine ⟨(h.set a .dead).push (.cells 0 (la ++ [x])), ?_, by rw [show h.n = (h.set a .dead).n from rfl]; exact get_push_eq rfl, rfl, fun c hc hca => by rw [get_push_lt (by exact hc), get_set_ne hca], fun h1 h2 => minN_ge h1 h2⟩
    show withCells h q (fun _ l => bc (Nat.beq (lenL (takeL (Nat.mul 1 1) (dropL 0 l))) (Nat.mul 1 1)) _ none) = _
    rw [wc _ hq]
    show withCells h a _ = _
    rw [wc _ ha]
    refine (tk (fun l => bc (Nat.beq (lenL l) (Nat.mul (k + 1) 1)) (bc (Nat.ble (Nat.mul (Nat.add (k + 1) 1) 16) 140737488355328) (bc (Nat.ble (Nat.add (k + 1) 1) strMax) (bc (Nat.beq 1 1) (bc (Nat.ble 0 1) (bc (allOne [x]) (kk (.osl h.n 0 (Nat.add (k + 1) 1) 1) ((h.set a .dead).push (.cells 0 (appA l [x])))) none) none) none) none) none) none)).trans ?_
    rw [bt (by rw [lenL_eq, hk, show Nat.mul (k + 1) 1 = k + 1 from Nat.mul_one _]; exact Nat.beq_refl _), bt (Nat.ble_eq_true_of_le (show (k + 1 + 1) * 16 ≤ 140737488355328 by omega) : Nat.ble (Nat.mul (Nat.add (k + 1) 1) 16) 140737488355328 = true), bt (Nat.ble_eq_true_of_le (show k + 1 + 1 ≤ 9223372036854775807 by omega) : Nat.ble (Nat.add (k + 1) 1) strMax = true), bt (show Nat.beq 1 1 = true from rfl), bt (show Nat.ble 0 1 = true from rfl), bt (show allOne [x] = true by show bc (AV.one1 x) true false = true; rw [hx]; rfl), appA_eq]
    rfl
theorem draw_loop {F g : Nat} {b : AV} {m : Nat} {L : List AV} {Q v : Nat} (hF : 10000 < F) (hv : v ≤ 3) : ∀ (N : Nat) (ks : List (List Nat)) (a p : Nat) (h : H), ks.length ≤ v → v - ks.length < N → Rdr b m L Q p h → p + 400 * (v - ks.length) < 80000 →
    h.get a = .cells 0 (ks.map sv) → a < h.n → a ≠ Q → 1 ≤ a → (∀ k ∈ ks, Good k) →
    ∃ (a' : Nat) (ks' : List (List Nat)) (h' : H), ks'.length = v ∧ (∀ k ∈ ks', Good k) ∧ loopD N (c_raw_spec_DrawTreeOf_l1 F g) [.ptr Q 0, xOf a ks.length, nI v, nI ks.length] h = some (xOf a' v, h') ∧ h'.get a' = .cells 0 (ks'.map sv) ∧ 1 ≤ a' ∧ 1 ≤ h'.lo
  | 0, ks, _, _, _, _, hN, _, _, _, _, _, _, _ => by omega
  | N + 1, ks, a, p, h, hk, hN, r, hp, ha, han, haQ, ha1, hg => by
    rw [loopD_succ]
    by_cases hi : ks.length < v
    · obtain ⟨l, p', h2, g1, g2, g3, r2, f2⟩ := tree_okF (F := F) (g := g) (n := 3) r hF (by omega) (by omega)
      have ha2 : h2.get a = .cells 0 (ks.map sv) := by rw [f2.2 a han haQ]; exact ha
      have hn2 := f2.1
      have hq2 := r2.lt
      obtain ⟨h3, e3, c3, n3, f3, l3⟩ := app16 (h := h2.push (.cells 0 [sv l])) (a := a) (q := h2.n) (kk := fun x13 h => aArith iadd (nI ks.length) (.int 3 (.ofNat 1)) h fun x14 h => loopD N (c_raw_spec_DrawTreeOf_l1 F g) [.ptr Q 0, x13, nI v, x14] h) (by rw [get_push_lt (by omega)]; exact ha2) (get_push_eq rfl) (x := sv l) rfl (List.length_map ..) (by omega)
      have r3 : Rdr b m L Q p' h3 := r2.later (by rw [f3 0 (by show 0 < h2.n + 1; omega) (by omega)]; exact get_push_lt (by omega)) (by rw [f3 Q (by show Q < h2.n + 1; omega) (Ne.symm haQ)]; exact get_push_lt hq2) (by rw [n3]; show h2.n ≤ h2.n + 1 + 1; omega) (l3 ha1 r2.lo)
      have hlen : (ks ++ [l]).length = ks.length + 1 := by simp
      obtain ⟨a', ks', h', k1, k2, k3, k4, k5, k6⟩ := draw_loop hF hv N (ks ++ [l]) (h2.push (.cells 0 [sv l])).n p' h3 (by omega) (by omega) r3 (by omega) (by rw [c3]; simp) (by rw [n3]; exact Nat.lt_succ_self _) (by show h2.n + 1 ≠ Q; omega) (by show 1 ≤ h2.n + 1; omega) fun k hk => by
        rcases List.mem_append.1 hk with hk | hk
        · exact hg k hk
        · simp at hk; subst hk; exact ⟨g1.1, fun ht => by have := g1.2 ht; omega⟩
      refine ⟨a', ks', h', k1, k2, ?_, k4, k5, k6⟩
      delta c_raw_spec_DrawTreeOf_l1
      dsimp only [hd_cons, tl_cons]
      rw [lssN, withBool_bool, ble_true (show Nat.succ ks.length ≤ v from hi), bc_true, g3, bindR_some']
      refine (show _ = aAppend 1 16 (xOf a ks.length) (.leaf (.sl h2.n 0 1 1)) (h2.push (.cells 0 [sv l])) _ from rfl).trans (e3.trans ?_)
      rw [show AV.int 3 (Int.ofNat 1) = nI 1 from rfl, addN (by omega), ← hlen]
      exact k3
    · obtain rfl : ks.length = v := by omega
      refine ⟨a, ks, h, rfl, hg, ?_, ha, ha1, r.lo⟩
      delta c_raw_spec_DrawTreeOf_l1
      dsimp only [hd_cons, tl_cons]
      rw [lssN, withBool_bool, ble_false (Nat.lt_succ_self _), bc_false]
theorem draw_of (F g : Nat) {a0 : AV} {n : Nat} {L : List AV} {B : Blk} (ha : (a0 = .leaf .nils ∧ n = 0) ∨ a0 = .osl 0 0 n 1) (hB : 0 < n → B = .cells 2 L) (hb : ∀ i, i < n → ∃ v, L[i]? = some (.int 4 (.ofNat v)) ∧ v < 256) :
    ∃ ks : List (List Nat), ks.length ≤ 3 ∧ (∀ k ∈ ks, Good k) ∧ c_spec_DrawTreeOf F g a0 (hCode B) = some (xOf 1 ks.length, (hCode B).push (.cells 0 (ks.map sv))) := by
  obtain ⟨b, m, h1, e1, r1, n1⟩ := open_ok (F := 20000) (g := 20) (h := hCode B) ha (fun hn => ⟨2, hB hn⟩) hb (Nat.le_refl _) (Nat.le_refl _)
  have hn1 : h1.n = 2 := n1
  have r2 : Rdr b m L (hCode B).n 0 (h1.push (.cells 0 [])) := r1.later (get_push_lt (by omega)) (get_push_lt r1.lt) (Nat.le_succ _) r1.lo
  obtain ⟨v, h3, hv, e3, r3, n3, f3⟩ := r2.pick (F := 20000) (g := 20) (n := 4) (by omega) (by omega)
  have hn3 : h3.n = 3 := by rw [n3]; show h1.n + 1 = 3; omega
  have hQ : (hCode B).n = 1 := rfl
  obtain ⟨a', ks', h', k1, k2, k3, k4, k5, k6⟩ := draw_loop (F := 20000) (g := 20) (v := v) (by omega) (by omega) 20000 [] h1.n (0 + 1) h3 (Nat.zero_le _) (by simp; omega) r3 (by simp; omega) (by rw [f3 _ (by omega)]; exact get_push_eq rfl) (by omega) (by omega) (by omega) (fun k hk => by cases hk)
  refine ⟨ks', by omega, k2, ?_⟩
  have e : c_raw_spec_DrawTreeOf 20000 20 a0 (hCode B).mark = some (xOf a' ks'.length, h') := by
    delta c_raw_spec_DrawTreeOf
    rw [show (hCode B).mark = hCode B from rfl, e1, bindR_some']
    refine (show _ = bindR (Go.AI.c_spec_l6Rd_pick 20000 20 (.ptr (hCode B).n 0) (nI 4) (h1.push (.cells 0 []))) (fun x3 h => loopD 20000 (c_raw_spec_DrawTreeOf_l1 20000 20) [.ptr (hCode B).n 0, .leaf (.sl h1.n 0 0 0), x3, nI 0] h) from rfl).trans ?_
    rw [e3, bindR_some', k1]
    exact k3
  exact quietRowC_ok e (by rw [hQ]; exact k6) (by rw [hQ]; exact k5) k4 (pl_sv ks')
end
end Go.AI.T
