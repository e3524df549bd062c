/- MiddleFree and the specification's l6mFree, given. -/
import Derived.Test.YtjhnjonklcnejaaGreatDoorFreEv
import Derived.KernelRfl
set_option linter.unusedVariables false
set_option linter.unusedSimpArgs false
set_option maxRecDepth 100000
namespace Go.AI.T
open Go Go.RowKit Go.AI Go.Conc Go.Co Go.Co.Cnt
noncomputable section
theorem fre_ok {l : List Nat} (ht : isTree l = true) : ok_Fre l = true := e_all ht
theorem forget1 {P : Program} {ty : TypeId} {Post : Value -> World -> Prop} {main : Bool} {fk : Option Fk} {f : FuncId} {args : List AV} {v : AV} {h' : H} (T : CoTri P ty Post main (fk, false) f args H0 (v, h')) (ha : ∀ (ι ι' : Inj) vs, VL ι args vs -> VL ι' args vs) (hv : v.plain = true) (h : H) : CoTri P ty Post main (fk, false) f args h (v, h.fz) :=
  ⟨T.can, fun ι w vs s hR hC hV hF hfk => by
    have K : ∀ x s' w', PostC false (fun _ => none) H0 s w (v, h') x s' w' -> PostC false ι h s w (v, h.fz) x s' w' := fun x s' w' ⟨ι', q1, q2, _, _, q5⟩ => by
      have kp : ∀ C, s.own C \/ s.ro C -> C < w.heap.size -> w'.heap[C]? = w.heap[C]? := fun C hC' hlt => q2.block C (hC'.imp (fun x => ⟨x, zap8 C⟩) id) hlt
      have r1 : Rel ι h w' := zaf4 hR q2.size fun c C o' z' e1 => kp C (hC.all c C o' z' e1) (hR.lt c C o' z' e1)
      refine ⟨ι, zac9 hv q1, ?_, r1.fz, ⟨fun b B o z e1 => (hC.all b B o z e1).elim (q2.mineW B) fun k => .inr (q2.roW B k), fun B hB => absurd hB Own.fz⟩, q5⟩
      exact { le := .refl _, os := q2.os, tape := q2.tape, output := q2.output, size := q2.size, kid := q2.kid, fk := q2.fk, ro := q2.ro, mine := q2.mine, roW := q2.roW, mineW := q2.mineW, newR := q2.newR, new := q2.new, block := fun C hC' hlt => kp C (hC'.imp (fun k => k.1) id) hlt, own := fun B hB => absurd hB Own.fz, num := Nat.le_refl _, lo := Nat.zero_le _, keep := fun c hc _ => absurd hc (Nat.not_lt_zero _), keepW := fun c C o1 z1 _ _ _ e1 => kp C (hC.all c C o1 z1 e1) (hR.lt c C o1 z1 e1), dom := fun b B o z e => .inl ⟨b, o, z, e⟩ }
    obtain ⟨h1, x, s', w', h2⟩ := T.run _ w vs s (Rel.empty w) (zaqp s) (ha _ _ _ hV) hF hfk
    exact ⟨h1.mono K, x, s', w', K _ _ _ h2⟩⟩
theorem pl1 {l : List Nat} {n : Nat} (ι ι' : Inj) (vs : List Value) (h : VL ι [.str l n] vs) : VL ι' [.str l n] vs := by
  cases h with
  | cons h1 h => cases h; exact .cons h1 .nil
def c_spec_l6mFree (F g : Nat) (a0 : AV) (h : H) : Option R := withStr a0 fun l n => bc (Nat.beq (lenL l) n) (bc (isTree l) (some (.str (freeL l) (lenL (freeL l)), h)) none) none
theorem co_spec_l6mFree {Post : Value -> World -> Prop} {main : Bool} {fk : Option Fk} (F g : Nat) : ∀ args h r, u1 (c_spec_l6mFree F g) args h = some r -> CoTri Go.Proofs.Tryz.prog tW Post main (fk, true) 36 args h r := by
  intro args h r e
  obtain ⟨a0, rfl, e1⟩ := zafp e
  obtain ⟨l, n, rfl, e2⟩ := zaap e1
  obtain ⟨hn, e3⟩ := zaac e2
  have hn := Nat.eq_of_beq_eq_true hn
  obtain ⟨ht, e4⟩ := zaac e3
  cases e4
  obtain ⟨⟨h', k1⟩, _⟩ := ok_some (fre_ok ht)
  rw [hn] at k1
  exact CoTri.forget (R.co_spec_l6mFree 2097152 20 [.str l n] H0 _ k1) (fun a ha => by cases ha with | head => rfl | tail _ ha => cases ha) rfl h
theorem wk_spec_l6mFree {Post : Value -> World -> Prop} {main : Bool} (F g : Nat) : ∀ args h r, u1 (c_spec_l6mFree F g) args h = some r -> CoTri Go.Proofs.Tryz.prog tW Post main (none, false) 36 args h r := fun args h r e => (co_spec_l6mFree F g args h r e).weak
def c_impl_MiddleFree (F g : Nat) (a0 : AV) (h : H) : Option R := withStr a0 fun l n => bc (Nat.beq (lenL l) n) (bc (isTree l) (some (.one .tup (.cons (.str (freeL l) (lenL (freeL l))) (.cons (.bool true) (.leaf .nil))), h.fz)) (bc (Nat.ble n 1048576) (some (.one .tup (.cons (.str [] 0) (.cons (.bool false) (.leaf .nil))), h.fz)) none)) none
theorem rawfree_bad {l : List Nat} {n : Nat} (hn : lenL l = n) (hm : n <= 1048576) (ht : isTree l = false) : R.c_impl_MiddleFree 2097152 20 (.str l n) H0 = some (.one .tup (.cons (.str [] 0) (.cons (.bool false) (.leaf .nil))), H0) := by
  delta R.c_impl_MiddleFree R.c_impl_MiddleCentre R.c_impl_leastNodes R.c_impl_countsIn
  repeat (first | rw [zaow hn hm ht] | rw [bindR_some'] | rw [zat6] | rw [zat0] | rw [aNot_b] | rw [bnot_f] | rw [bnot_t] | rw [zaai] | rw [bc_true] | rw [zaag])
  try rfl
theorem co_impl_MiddleFree {Post : Value -> World -> Prop} {main : Bool} (F g : Nat) : ∀ args h r, u1 (c_impl_MiddleFree F g) args h = some r -> CoTri Go.Proofs.Tryz.prog tW Post main (none, false) 15 args h r := by
  intro args h r e
  obtain ⟨a0, rfl, e1⟩ := zafp e
  obtain ⟨l, n, rfl, e2⟩ := zaap e1
  obtain ⟨hn, e3⟩ := zaac e2
  have hn := Nat.eq_of_beq_eq_true hn
  cases ht : isTree l with
  | false =>
    rw [ht, zaag] at e3
    obtain ⟨hm, e4⟩ := zaac e3
    cases e4
    exact forget1 (R.co_impl_MiddleFree 2097152 20 [.str l n] H0 _ (rawfree_bad hn (Nat.le_of_ble_eq_true hm) ht)) pl1 rfl h
  | true =>
    rw [ht, bc_true] at e3
    cases e3
    obtain ⟨_, h', k1⟩ := ok_some (fre_ok ht)
    rw [hn] at k1
    exact forget1 (R.co_impl_MiddleFree 2097152 20 [.str l n] H0 _ k1) pl1 rfl h
theorem free_bad {F g : Nat} {l : List Nat} {n : Nat} (hn : lenL l = n) (hm : n <= 1048576) (ht : isTree l = false) (h : H) : c_impl_MiddleFree F g (.str l n) h = some (.one .tup (.cons (.str [] 0) (.cons (.bool false) (.leaf .nil))), h.fz) := by
  show bc (Nat.beq (lenL l) n) (bc (isTree l) _ (bc (Nat.ble n 1048576) _ none)) none = _
  rw [hn, Nat.beq_refl, ht, zaau hm]; rfl
theorem free_good {F g : Nat} {l : List Nat} {n : Nat} (hn : lenL l = n) (ht : isTree l = true) (h : H) : c_impl_MiddleFree F g (.str l n) h = some (.one .tup (.cons (.str (freeL l) (lenL (freeL l))) (.cons (.bool true) (.leaf .nil))), h.fz) := by
  show bc (Nat.beq (lenL l) n) (bc (isTree l) _ _) none = _
  rw [hn, Nat.beq_refl, ht]; rfl
theorem sfree_good {F g : Nat} {l : List Nat} {n : Nat} (hn : lenL l = n) (ht : isTree l = true) (h : H) : c_spec_l6mFree F g (.str l n) h = some (.str (freeL l) (lenL (freeL l)), h) := by
  show bc (Nat.beq (lenL l) n) (bc (isTree l) _ _) none = _
  rw [hn, Nat.beq_refl, ht]; rfl
theorem aCmpS_str (f : List Nat -> List Nat -> Bool) (s t : List Nat) (n m : Nat) (h : H) (k : AV -> H -> Option R) : aCmpS f (.str s n) (.str t m) h k = k (.bool (f s t)) h := rfl
end
end Go.AI.T
